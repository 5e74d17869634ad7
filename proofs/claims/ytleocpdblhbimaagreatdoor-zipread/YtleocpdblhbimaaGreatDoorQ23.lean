import Derived.Test.YtleocpdblhbimaaGreatDoorQ22
import Derived.Laws.Tables
import Derived.Laws.Rows
import Derived.Laws.ResultCell
import Derived.Laws.CopyRow
import Derived.Deep.RegionHeld3
import Derived.Deep.WholeRow
set_option linter.unusedSimpArgs false
set_option maxHeartbeats 8000000
namespace Go.Proofs.YtleocpdblhbimaaGreatDoor
open Go.RowKit
set_option linter.unusedVariables false
set_option maxRecDepth 100000
def NY (n b:Nat)(w:World):Nat:=8*n+1-((w.cell? ⟨b,1,none⟩).map (fun x=>(intOf x).toNat)).getD 0
theorem Mb {No:Nat->Prop}{B b n:Nat}{w:World}{R F E:Value}{u:US}(G:IIs No B w b R F E u):NY n b w=8*n+1-u.p:=by
 unfold NY;rw[G.cell.2.1];simp[intOf]
theorem Un (No:Nat->Prop)(B b:Nat)(a:Option Addr)(n O:Nat)(bs:List Nat)(Y U:Value)(u:US)(w:World)(T:IIs No B w b (.slice a n O) Y U u)(c9:Rd w No a n bs)(cw:u.p<=8*n)(c4:u.e=0)(dy:u.out.length<=3000)(g1 af a8 c3 g2 am a9 ct:Nat)(G lb:List Int)(b3:DIs w g1 af a8 c3 b G)(dh:Good G)(a6:No g1/\No af/\No a8)(b7:DIs w g2 am a9 ct b lb)(ei:Good lb)(a7:No g2/\No am/\No a9)(d9:∀g,w.heap.size<=g->¬No g)(V:US)(cq:Hid (Hk (rowB bs n) G lb (8*n+1) u=V)):
 Calls Tryz.prog 250 #[.pointer (some ⟨b,0,none⟩),.agg #[DV g1 af,DV g2 am]] w fun e w'=>Got No B w b (.slice a n O) Y U (.tuple #[]) V e w':=by
 have ch:=Af bs n;obtain⟨F,ff⟩:=exq (8*n+1);rw[ff]at cq;obtain⟨I,b9⟩:=exq (w.heap.size);obtain⟨W1,bz⟩:=exq (w.alloc (.cells #[DV g1 af,DV g2 am] 282));have g4:=T.lt;have d5:B<=I:=by have:=T.base;omega
 have ap:Below I w W1:=by rw[<-bz,<-b9];exact(Below.refl _ _).alloc (VB _) _
 have b0:Kp No w W1:=fun g M _=>ap.block g (by omega)
 have hd:W1.heap.size=I+1:=by rw[<-bz,<-b9];simp
 have dd:W1.heap[I]? =some (.cells #[DV g1 af,DV g2 am] 282 (0,0)):=by rw[<-bz,<-b9];exact heap_alloc_new _ _
 have eo:IIs (NI No I) B W1 b (.slice a n O) Y U u:=(T.more (No':=NI No I) (fun e=>by rcases e with e|e;exact T.no e;omega) (fun g M=>by rcases M with e|e;exact .inl e;exact .inr (by omega))).grown (w':=W1) (by rw[<-bz];exact World.grownBy_alloc w _ none);have b5:Rd W1 (NI No I) a n bs:=(c9.keep (w':=W1) (by omega) b0).more;have fn:=b3.lt;have la2:=b3.is.lt;have fq:=b7.lt;have lb2:=b7.is.lt;have ek:DIs W1 g1 af a8 c3 b G:=b3.keep (by omega) (ap.block g1 (by omega)) (ap.block af (by omega)) (ap.block a8 (by omega));have dl:DIs W1 g2 am a9 ct b lb:=b7.keep (by omega) (ap.block g2 (by omega)) (ap.block am (by omega)) (ap.block a9 (by omega))
 have bi:∀g,W1.heap.size<=g->¬NI No I g:=fun g M e=>by
  rcases e with e|e
  . exact d9 g (by omega) e
  . omega
 have b8:Hid (∀wr x,IUp (NI No I) B W1 b (.slice a n O) Y U x wr->wr.cell? ⟨I,0,none⟩=some (DV g1 af)/\wr.cell? ⟨I,1,none⟩=some (DV g2 am)):=Ab (fun wr x H=>by
  have:=(H.kp I (by omega) (.inr rfl)).trans dd
  exact⟨Ac this,Ac this⟩)
 have be:Hid (∀wr x,IUp (NI No I) B W1 b (.slice a n O) Y U x wr->x.p<=8*n->x.e=0->∀k v,uplace G (rowB bs n) x=(k,v)->Calls Tryz.prog 281 #[.pointer (some ⟨g1,0,none⟩),.pointer (some ⟨af,0,none⟩)] wr fun e w'=>Got (NI No I) B wr b (.slice a n O) Y U (.int .i64 (k:Int)) v e w'):=Ab (fun wr x H al au k v a5=>
  LK (NI No I) B b a n O bs Y U x wr H.is (b5.keep H.below.size H.kp) al au g1 af a8 c3 G (ek.keep H.below.size (H.kp g1 (by omega) (.inl a6.1)) (H.kp af (by omega) (.inl a6.2.1)) (H.kp a8 (by omega) (.inl a6.2.2))) dh ⟨.inl a6.1,.inl a6.2.1,.inl a6.2.2⟩ (fun g M=>bi g (VU H.below.size M)) k v (Ab a5))
 have ce:Hid (∀wr x,IUp (NI No I) B W1 b (.slice a n O) Y U x wr->x.p<=8*n->x.e=0->∀k v,Me (rowB bs n) lb x=(k,v)->Calls Tryz.prog 269 #[.pointer (some ⟨b,0,none⟩),.agg #[DV g1 af,DV g2 am]] wr fun e w'=>Got (NI No I) B wr b (.slice a n O) Y U (.int .i64 (k:Int)) v e w'):=Ab (fun wr x H al au k v a5=>
  Y5 (NI No I) B b a n O bs Y U x wr H.is (b5.keep H.below.size H.kp) al au g1 af g2 am a9 ct lb (dl.keep H.below.size (H.kp g2 (by omega) (.inl a7.1)) (H.kp am (by omega) (.inl a7.2.1)) (H.kp a9 (by omega) (.inl a7.2.2))) ei ⟨.inl a7.1,.inl a7.2.1,.inl a7.2.2⟩ (fun g M=>bi g (VU H.below.size M)) k v (Ab a5))
 have e9:Hid (∀wr x,IUp (NI No I) B W1 b (.slice a n O) Y U x wr->x.p<=8*n->x.e=0->∀(l size r:Nat) (v:US),size<=16->l<=40000->uget (rowB bs n) size x=(r,v)->Calls Tryz.prog 266 #[.pointer (some ⟨b,0,none⟩),.int .i64 (l:Int),.int .i64 (size:Int)] wr fun e w'=>Got (NI No I) B wr b (.slice a n O) Y U (.int .i64 ((l+r:Nat):Int)) v e w'):=Ab (fun wr x H al au l size r v e4 hl a5=>
  Iw (NI No I) B b a n O size l bs Y U x wr H.is (b5.keep H.below.size H.kp) al au e4 hl r v (Ab a5))
 have cd:Hid (∀wr x,IUp (NI No I) B W1 b (.slice a n O) Y U x wr->x.e=0->x.out.length<=3000->∀d k v,1<=d->d<=80000->k<=65535->Jh d k x=v->Calls Tryz.prog 268 #[.pointer (some ⟨b,0,none⟩),.int .i64 (k:Int),.int .i64 (d:Int)] wr fun e w'=>Got (NI No I) B wr b (.slice a n O) Y U (.tuple #[]) v e w'):=Ab (fun wr x H al au d k v e7 da a5 fe=>
  Z21 (NI No I) B b d k (.slice a n O) Y U x wr H.is al au e7 da a5 (fun g M=>bi g (VU H.below.size M)) v (Ab fe))
 have cg:Hid (∀wr x,IUp (NI No I) B W1 b (.slice a n O) Y U x wr->x.out.length<=3000->Calls Tryz.prog 265 #[.pointer (some ⟨b,0,none⟩),.int .i64 1] wr fun e w'=>w'=wr/\((x.out.length+1<=3000/\e=.returned (.tuple #[]))\/ (3000<x.out.length+1/\e=Flt 2))):=Ab (fun wr x H al=>Rq (NI No I) B b 1 (.slice a n O) Y U x wr H.is al (by decide))
 have ey:Hid (∀x wr,V=x->x.e=0->IUp (NI No I) B W1 b (.slice a n O) Y U x wr->Got No B w b (.slice a n O) Y U (.tuple #[]) V (.returned (.tuple #[])) wr):=Ab (fun x wr cy aq H=>by
  subst cy;exact Got.from (.inl ⟨aq,rfl,H.less⟩) (ap.mono d5) b0)
 have av:Hid (∀x wr,V=x->x.e≠0->Bl (NI No I) B W1 wr->Got No B w b (.slice a n O) Y U (.tuple #[]) V (Flt x.e) wr):=Ab (fun x wr cy aq ee=>by
  subst cy;exact .inr ⟨aq,rfl,(ap.mono d5).trans ee.below,b0.trans (ee.kp.weaken (fun _ T=>.inl T)) (by omega)⟩)
 have bm:Hid (∀(f:Nat) (E x:US) (k v),E.p<=x.p->x.p<=8*n->x.e=0->x.out.length<=3000->uplace G (rowB bs n) x=(k,v)->v.e=0->v.p<=8*n/\v.out.length<=3000/\E.p<v.p):=Ab (fun f E x k v al au a4 ax as an=>by
  have aj:=Ix G (rowB bs n) x (by omega);have bf:=Gm G (rowB bs n) x;have ba:=KE G (rowB bs n) x a4 (by rw[as];exact an);rw[as]at aj bf ba;rw[ch]at aj;exact⟨aj,by rw[bf.1];exact ax,XO al ba⟩)
 have dg:=Ab (IUp.refl eo);obtain⟨a1,ai,aq⟩:∃a1 ai,uplace G (rowB bs n) u=(a1,ai):=⟨_,_,rfl⟩
 have d7:=Ab (Aa be W1 u (Aa dg) cw c4 a1 ai aq);have dn:=Ab (Aa bm 0 u u a1 ai (VB _) cw c4 dy aq)
 have cn:Hid (V=if ai.e≠0 then ai else GE (rowB bs n) G lb F a1 ai):=Ab (by
  have:=Aa cq
  unfold Hk at this;rw[aq]at this;exact this.symm)
 have f4:W1.cell? ⟨I,0,none⟩=some (DV g1 af):=Ac dd;have gz:=c9.few;have fj:=Ab bi;clear T c9 cw c4 dy b3 dh a6 b7 ei a7 d9 cq ap b0 dd eo b5 ek dl aq fn la2 fq lb2 bi;go_enter Tryz.func250,Tryz.ntmps250
 go_wp2_with fail
 refine(Aa d7).mono ?_;rintro e gn M
 rcases M with ⟨e0,rfl,H⟩|⟨e0,rfl,ej⟩
 rotate_left
 . have fd:=Ab ej;have ag:Hid (V=ai):=Ab (by rw[Aa cn,if_pos e0]);clear ej;go_wp2;exact⟨rfl,Aa av ai gn (Aa ag) e0 (Aa fd)⟩
 have du:=Ab ((Aa dg).trans H);obtain⟨eb,en,fw⟩:=Aa dn e0;have ep:Hid (V=GE (rowB bs n) G lb F a1 ai):=Ab (by rw[Aa cn,if_neg (fun T=>T e0)]);clear H d7 dn cn f4 dg;go_wp2;go_loopw [4] (fun aa wr=>∃(k f:Nat) (x:US),aa=.int .i64 (k:Int)/\Hid (x.p<=8*n/\x.out.length<=3000/\x.e=0)/\Hid (8*n+1-x.p<=f)/\Hid (IUp (NI No I) B W1 b (.slice a n O) Y U x wr)/\Hid (V=GE (rowB bs n) G lb f k x)) (fun _ wr=>NY n b wr)
 case atStart=>
  have e8:Hid (8*n+1-ai.p<=F):=Ab (by omega);exact⟨a1,F,ai,rfl,Ab ⟨eb,en,e0⟩,e8,du,ep⟩
 case round=>
  clear du ep eb en fw e0;obtain⟨k,cm,E,rfl,f5,co,ak,bu⟩:=hrel;obtain⟨cp,c6,bh⟩:=Aa f5
  by_cases cj:k=256
  . have ag:Hid (V=E):=Ab (by
     rw[Aa bu]
     cases cm with
     |zero=>rfl
     |succ f=>show (if k=256 then E else _)=_;rw[if_pos cj])
    subst cj;clear bu;go_wp2;go_end0
    exact Aa ey E wr (Aa ag) bh (Aa ak)
  obtain⟨f,rfl⟩:∃f,cm=f+1:=⟨cm-1,by have:=Aa co;omega⟩
  have gw:=Aa co
  have ao:Hid (V=if (Co (rowB bs n) lb k E).e≠0 then Co (rowB bs n) lb k E else if (uplace G (rowB bs n) (Co (rowB bs n) lb k E)).2.e≠0 then (uplace G (rowB bs n) (Co (rowB bs n) lb k E)).2 else GE (rowB bs n) G lb f (uplace G (rowB bs n) (Co (rowB bs n) lb k E)).1 (uplace G (rowB bs n) (Co (rowB bs n) lb k E)).2):=Ab (by
   rw[Aa bu];show (if k=256 then E else _)=_
   rw[if_neg cj])
  have hj:¬(k:Int)=256:=by omega
  clear bu co
  by_cases cl:k<256
  . have fh:(k:Int)<256:=by omega
    have aw:Hid (Co (rowB bs n) lb k E=if 3000<E.out.length+1 then {E with e:=2}else {E with out:=E.out++ [k]}):=Ab (by unfold Co;rw[if_pos cl]);go_wp2_with fail
    refine(Aa cg wr E (Aa ak) c6).mono ?_;rintro e w3 ⟨rfl,M⟩
    rcases M with ⟨hl,rfl⟩|⟨hl,rfl⟩
    rotate_left
    . have ag:Hid (V= {E with e:=2}):=Ab (by
       rw[Aa ao,Aa aw,if_pos hl,if_pos (show ({E with e:=2}:US).e≠0 from (by decide:(2:Int)≠0))])
      clear hl;go_wp2;exact⟨rfl,Aa av {E with e:=2} _ (Aa ag) (by decide:(2:Int)≠0) (Aa ak).bl⟩
    have bo:Hid (V=if (uplace G (rowB bs n) {E with out:=E.out++ [k]}).2.e≠0 then (uplace G (rowB bs n) {E with out:=E.out++ [k]}).2 else GE (rowB bs n) G lb f (uplace G (rowB bs n) {E with out:=E.out++ [k]}).1 (uplace G (rowB bs n) {E with out:=E.out++ [k]}).2):=Ab (by
     have ay:Co (rowB bs n) lb k E= {E with out:=E.out++ [k]}:=by rw[Aa aw,if_neg (by omega)]
     have:=Aa ao
     rw[ay,if_neg (fun T=>T bh)]at this;exact this)
    obtain⟨f7,fi,gg,gh,fm⟩:=info_parts Gz;have bq:=(Aa ak).is;have ho:=bq.lt;obtain⟨hg,g9,gy,fo,dr,c8,d8,dt,ed,dp⟩:=bq.rows;obtain⟨L,c5⟩:=exq (E.out.length);have bw:=c8;rw[c5]at bw;have hh:L+1<=3000:=by omega
    obtain⟨g8,g7,rfl⟩:=An bw;have fg:=Ab bw;have eh:=Ab bq;have b4:=Ab dr;have fr:=Ab c8;have gv:=Ab d8;have gq:=Ab dt;have gd:=Ab ed;have f6:=Ab dp;have d1:=Ab c5;have gx:IntKind.u8.wrap (k:Int)=(k:Int):=by unfold IntKind.wrap;simp[IntKind.bits,IntKind.signed];omega
    have g0:=(Aa ak).below.size;clear bq dr c8 d8 dt ed dp bw c5 fo ao aw;go_wp2_with (at_builtin;refine wpList_append_own_at _ rfl _ _ 23 rfl (b+1) 5 f7 (.int .u8 0) 1 1 Tryz.underlying23 fi gg gh fm rfl (by decide) _ L (u8s E.out) rfl ((Aa fg).alloc _) ⟨_,0,none⟩ 1 1 [.int .u8 (k:Int)] rfl rfl (cell_one_new _ _ _) (Bc rfl) (by unfold maxLen;omega) (by omega) (by simp;omega) ?_)
    intro v' bd cu eq _ et;obtain⟨e6,gu,fk,_,_⟩:=Ba cu (by omega);obtain⟨ba,hf,dw⟩:=IIs.said (c:=k) (v':=v') (Aa eh).base (Aa eh).no (Aa b4) (Aa fr) (Aa gv) (Aa gq) (Aa gd) (Aa f6) (fun g M=>Aa fj g (by omega)) (by rw[Aa d1];exact cu) eq (by simpa using et);have bn:=Ab ((Aa ak).trans dw);have gt:(E.out++ [k]).length<=3000:=by rw[VE,Aa d1];simp only[VJ,WE];omega
    subst fk;clear dw cu eq et;obtain⟨dq,eu⟩:=exq (bd.setCell ⟨b,2,none⟩ (.slice (some ⟨e6,0,none⟩) (L+1) gu));rw[eu]at bn;obtain⟨e5,fu⟩:=Aa b8 dq _ (Aa bn);obtain⟨ac,Z,an⟩:∃ac Z,uplace G (rowB bs n) {E with out:=E.out++ [k]}=(ac,Z):=⟨_,_,rfl⟩
    have df:=Ab (Aa be dq {E with out:=E.out++ [k]} (Aa bn) (cp) (bh) ac Z an);have cz:=Ab (Aa bm f E {E with out:=E.out++ [k]} ac Z (VB _) (cp) (bh) (gt) an)
    have bb:Hid (V=if Z.e≠0 then Z else GE (rowB bs n) G lb f ac Z):=Ab (by
     have:=Aa bo
     rw[an]at this;exact this)
    clear an be ce cg cd bm bo;go_wp2_with fail
    refine(Aa df).mono ?_;rintro e w6 M
    rcases M with ⟨ah,rfl,bg⟩|⟨ah,rfl,bj⟩
    . have bc:=Ab ((Aa bn).trans bg);clear bg;obtain⟨ck,dc,fp⟩:=Aa cz ah;have a2:Hid (V=GE (rowB bs n) G lb f ac Z):=Ab (by rw[Aa bb,if_neg (fun T=>T ah)]);go_wp2;go_roundw
      case rel=>exact⟨ac,f,Z,rfl,Ab ⟨ck,dc,ah⟩,Ab (by omega),bc,a2⟩
      case measure=>rw[Mb (Aa bc).is,Mb (Aa ak).is];omega
    . have bk:=Ab ((Aa bn).bl.trans bj);have a2:Hid (V=Z):=Ab (by rw[Aa bb,if_pos ah]);clear bj;go_wp2;exact⟨rfl,Aa av Z w6 (Aa a2) ah (Aa bk)⟩
  . have fh:¬(k:Int)<256:=by omega
    by_cases d6:285<k
    . have fx:¬(k:Int)<=285:=by omega
      have ag:Hid (V= {E with e:=8}):=Ab (by
       have ay:Co (rowB bs n) lb k E= {E with e:=8}:=by unfold Co;rw[if_neg cl,if_pos d6]
       rw[Aa ao,ay,if_pos (show ({E with e:=8}:US).e≠0 from (by decide:(8:Int)≠0))])
      clear ao;go_wp2_with fail
      refine(Cf 8 _).mono ?_;rintro e w3 ⟨rfl,rfl⟩;go_wp2;exact⟨rfl,Aa av {E with e:=8} _ (Aa ag) (by decide:(8:Int)≠0) (Aa ak).bl⟩
    have fx:(k:Int)<=285:=by omega
    obtain⟨eg,dj,c7⟩:=GB k (by omega) (by omega);have de:=Ab (fun w=>Xw k w (by omega) (by omega));obtain⟨az,ar,ci⟩:∃az ar,Df k=(az,ar):=⟨_,_,rfl⟩
    rw[ci]at de eg dj c7;obtain⟨r,ab,a4⟩:∃r ab,uget (rowB bs n) ar E=(r,ab):=⟨_,_,rfl⟩
    obtain⟨d,aa,ax⟩:∃d aa,Me (rowB bs n) lb ab=(d,aa):=⟨_,_,rfl⟩
    have aw:Hid (Co (rowB bs n) lb k E=if ab.e≠0 then ab else if aa.e≠0 then aa else Jh d (az+r) aa):=Ab (by unfold Co;rw[if_neg cl,if_neg d6,ci,a4,ax])
    have g5:r<32:=by
     have:=Nm (rowB bs n) ar E
     rw[a4]at this;exact VG this (VO (j:=5) (by decide) c7)
    have e1:ab.p<=8*n/\E.p<=ab.p/\ab.out=E.out:=by
     have aj:=Gr (rowB bs n) ar E (by omega);have bf:=R0 (rowB bs n) ar E;have ba:=Cm (rowB bs n) ar E;rw[a4]at aj bf ba;rw[ch]at aj;exact⟨aj,bf,ba⟩
    have f9:aa.p<=8*n/\ab.p<=aa.p/\aa.out=ab.out:=by
     have aj:=Vm (rowB bs n) lb ab (by omega);rw[ax,ch]at aj;exact⟨aj.2.2.2,aj.2.2.1,aj.1⟩
    obtain⟨p31,p32,p33⟩:=e1;obtain⟨p41,p42,p43⟩:=f9
    have ds:aa.e=0->1<=d/\d<=80000:=fun e=>by
     have:=Z1e (rowB bs n) lb ab (by rw[ax];exact e)
     rw[ax]at this;exact this
    have ew:=Ab ds;have d3:=Ab (Aa e9 wr E (Aa ak) cp bh az ar r ab (by omega) (by omega) a4);have b4:=Ab (fun dx (H:IUp (NI No I) B W1 b (.slice a n O) Y U ab dx) he3=>Aa ce dx ab H p31 he3 d aa ax);clear ci a4 ax ds;dsimp only at de eg dj c7;go_wp2_with fail
    refine(Aa de _).mono ?_;rintro e w3 ⟨rfl,rfl⟩;go_wp2_with fail
    refine(Aa d3).mono ?_;rintro e w3 M
    rcases M with ⟨e3,rfl,d2⟩|⟨e3,rfl,em⟩
    rotate_left
    . have ft:=Ab ((Aa ak).bl.trans em)
      have ag:Hid (V=ab):=Ab (by
       have ay:Co (rowB bs n) lb k E=ab:=by rw[Aa aw,if_pos e3]
       have:=Aa ao
       rw[ay,if_pos e3]at this;exact this)
      clear em;go_wp2;exact⟨rfl,Aa av ab w3 (Aa ag) e3 (Aa ft)⟩
    have bv:=Ab ((Aa ak).trans d2);obtain⟨he,hk⟩:=Aa b8 w3 _ (Aa bv);have dv:=Ab (Aa b4 w3 (Aa bv) e3);clear d2 b4;go_wp2_with fail
    refine(Aa dv).mono ?_;rintro e dz M
    rcases M with ⟨a3,rfl,d4⟩|⟨a3,rfl,di⟩
    rotate_left
    . have gj:=Ab ((Aa bv).bl.trans di)
      have ag:Hid (V=aa):=Ab (by
       have ay:Co (rowB bs n) lb k E=aa:=by rw[Aa aw,if_neg (fun T=>T e3),if_pos a3]
       have:=Aa ao
       rw[ay,if_pos a3]at this;exact this)
      clear di;go_wp2;exact⟨rfl,Aa av aa dz (Aa ag) a3 (Aa gj)⟩
    have db:=Ab ((Aa bv).trans d4);obtain⟨f8,da⟩:=Aa ew a3;obtain⟨ae,as⟩:=exq (Jh d (az+r) aa);have fy:=Ab (Aa cd dz aa (Aa db) a3 (by rw[p43,p33];exact c6) d (az+r) ae f8 da (by omega) as);have cv:Hid (Co (rowB bs n) lb k E=ae):=Ab (by rw[Aa aw,if_neg (fun T=>T e3),if_neg (fun T=>T a3),as])
    have gi:Hid (ae.e=0->ae.p=aa.p/\ae.out.length<=3000):=Ab (fun e=>by
     have:=Ru d (az+r) aa (by rw[as];exact e)
     rw[as]at this;exact⟨this.1,this.2.2 (by rw[p43,p33];exact c6)⟩)
    clear d4 as dv d3;go_wp2_with fail
    refine(Aa fy).mono ?_;rintro e bd M
    rcases M with ⟨a0,rfl,el⟩|⟨a0,rfl,dm⟩
    rotate_left
    . have bk:=Ab ((Aa db).bl.trans dm)
      have ag:Hid (V=ae):=Ab (by
       have:=Aa ao
       rw[Aa cv,if_pos a0]at this;exact this)
      clear dm;go_wp2;exact⟨rfl,Aa av ae bd (Aa ag) a0 (Aa bk)⟩
    have bt:=Ab ((Aa db).trans el);obtain⟨ha,f3⟩:=Aa gi a0
    have bo:Hid (V=if (uplace G (rowB bs n) ae).2.e≠0 then (uplace G (rowB bs n) ae).2 else GE (rowB bs n) G lb f (uplace G (rowB bs n) ae).1 (uplace G (rowB bs n) ae).2):=Ab (by
     have:=Aa ao
     rw[Aa cv,if_neg (fun T=>T a0)]at this;exact this)
    clear el ao aw cv;obtain⟨e5,fu⟩:=Aa b8 bd _ (Aa bt);obtain⟨ac,Z,an⟩:∃ac Z,uplace G (rowB bs n) ae=(ac,Z):=⟨_,_,rfl⟩
    have df:=Ab (Aa be bd ae (Aa bt) (by omega) (a0) ac Z an);have cz:=Ab (Aa bm f E ae ac Z (by omega) (by omega) (a0) (f3) an)
    have bb:Hid (V=if Z.e≠0 then Z else GE (rowB bs n) G lb f ac Z):=Ab (by
     have:=Aa bo
     rw[an]at this;exact this)
    clear an be ce cg cd bm bo;go_wp2_with fail
    refine(Aa df).mono ?_;rintro e w6 M
    rcases M with ⟨ah,rfl,bg⟩|⟨ah,rfl,bj⟩
    . have bc:=Ab ((Aa bt).trans bg);clear bg;obtain⟨ck,dc,fp⟩:=Aa cz ah;have a2:Hid (V=GE (rowB bs n) G lb f ac Z):=Ab (by rw[Aa bb,if_neg (fun T=>T ah)]);go_wp2;go_roundw
      case rel=>exact⟨ac,f,Z,rfl,Ab ⟨ck,dc,ah⟩,Ab (by omega),bc,a2⟩
      case measure=>rw[Mb (Aa bc).is,Mb (Aa ak).is];omega
    . have bk:=Ab ((Aa bt).bl.trans bj);have a2:Hid (V=Z):=Ab (by rw[Aa bb,if_pos ah]);clear bj;go_wp2;exact⟨rfl,Aa av Z w6 (Aa a2) ah (Aa bk)⟩
theorem RG:∀(args:Array Value) (w:World),(callFunc 205 args).run Tryz.prog w=.ok (.enter 205 args) w:=fun _ _=>by kernel_rfl
theorem EL (a:Option Addr)(n F:Nat)(bs:List Nat)(w:World)(be:n<=6000)(E:US)(U:∀(No:Nat->Prop) (B b:Nat) (W:World),IIs No B W b (.slice a n F) .nilFunc .nilFunc US0->(∀g,w.heap.size+2<=g->¬No g)->(∀g,g<w.heap.size->No g)->W.heap.size=w.heap.size+2->B<=b->Below w.heap.size w W->
 Calls Tryz.prog 205 #[.pointer (some ⟨b,0,none⟩)] W fun e w'=>(E.e=0/\e=.returned (.tuple #[])/\∃g1 g2,IUp No B W b (.slice a n F) g1 g2 E w')\/ (E.e≠0/\e=Flt E.e/\Below B W w'/\Kp No W w')) (a1:0<=E.e) (ar:E.e=0->E.p<=48000):
 Calls Tryz.prog 166 #[.slice a n F] w fun e w'=>Below w.heap.size w w'/\((E.e=0/\∃ov kv,e=.returned (.tuple #[ov,.int .i64 (((E.p+7)/8:Nat):Int),kv,.int .i64 0])/\w'.ownsRow (w.heap.size+1) 5 1 ov E.out.length (u8s E.out)/\w'.ownsRow (w.heap.size+1) 3 1 kv E.ks.length (i64s E.ks))\/ (E.e≠0/\e=.returned (.tuple #[.slice none 0 0,.int .i64 0,.slice none 0 0,.int .i64 E.e]))):=by
 have bc:∀(al:Fn) (first F:Array Value) (w:World),(Instr.makeFunc al first F).run Tryz.prog w=.ok (.func al first F) w:=fun _ _ _ _=>rfl
 have a5:=Ab U;clear U;go_enter Tryz.func166,Tryz.ntmps166
 go_wp2_with fail
 obtain⟨H,T⟩:=exq (w.alloc (.cells #[.slice a n F,.int .i64 0,.slice none 0 0,.slice none 0 0,.nilFunc,.nilFunc] 284));have ab:H.heap.size=w.heap.size+1:=by rw[<-T];simp
 have a0:H.heap[w.heap.size]? =some (.cells (icells (.slice a n F) .nilFunc .nilFunc US0 (.slice none 0 0) (.slice none 0 0)) 284 (0,0)):=by rw[<-T];exact heap_alloc_new _ _
 have ay:Below w.heap.size w H:=by rw[<-T];exact(Below.refl _ _).alloc (VB _) _
 rw[T];clear T;obtain⟨No,M⟩:∃No:Nat->Prop,No=fun g=>g<w.heap.size\/g=w.heap.size+1:=⟨_,rfl⟩
 have aw:IIs No w.heap.size (H.alloc (.cells #[.int .i64 0] 24)) w.heap.size (.slice a n F) .nilFunc .nilFunc US0:=by
  refine⟨VB _,by rw[M];omega,.slice none 0 0,.slice none 0 0,(Below.heap_alloc _ _ _ (by omega)).trans a0,World.ownsRow_nil _ _ _ _,World.ownsRow_nil _ _ _ _,.inl rfl, ?_, ?_⟩<;>(intro g e;simp[Value.ownBlock]at e)
 have ap:=Aa a5 No w.heap.size w.heap.size _ aw (fun g G=>by rw[M];omega) (fun g G=>by rw[M];exact .inl G) (by simp[ab]) (VB _) (ay.alloc (by omega) _)
 have as:=JC 205 #[.pointer (some ⟨w.heap.size,0,none⟩)] (fun x w'=>(x:Int)=E.e/\(E.e=0->∃g1 g2,IIs No w.heap.size w' w.heap.size (.slice a n F) g1 g2 E)/\Below w.heap.size w w'/\w.heap.size+2<=w'.heap.size) H RG (ap.mono (fun e w' G=>by
  have am:Below w.heap.size w (H.alloc (.cells #[.int .i64 0] 24)):=ay.alloc (by omega) _;have az:(H.alloc (.cells #[.int .i64 0] 24)).heap[H.heap.size]? =some (.cells #[.int .i64 0] 24 (0,0)):=heap_alloc_new _ _;have au:No H.heap.size:=by rw[M,ab];exact .inr rfl
  rcases G with ⟨e0,rfl,g1,g2,I⟩|⟨e0,rfl,U,hK⟩
  . have ac:=I.below.size;simp only[World.size_alloc]at ac;exact⟨⟨0,⟨by rw[e0];rfl,fun _=>⟨g1,g2,I.is⟩,am.trans I.below,by omega⟩,.inl ⟨rfl,rfl⟩⟩,(I.kp _ (by simp) au).trans az⟩
  . have ac:=U.size;simp only[World.size_alloc]at ac;have O:((E.e.toNat:Nat):Int)=E.e:=YU a1;exact⟨⟨E.e.toNat,⟨O,fun h=>absurd h e0,am.trans U,by omega⟩,.inr ⟨by omega,by rw[O]⟩⟩,(hK _ (by simp) au).trans az⟩))
 refine as.mono ?_;rintro e Y ⟨x,av,⟨O,aj,ag,ba⟩,rfl,bd,af,ah⟩;have ak:=Ab (ag.trans (ah w.heap.size (by omega)));clear as ap aw
 by_cases e0:E.e=0
 . obtain⟨g1,g2,I⟩:=aj e0;have ar:=ar e0;have ao:x=0:=by omega
   subst ao;obtain⟨ov,kv,c2,a7,aq,ae,ai,a8,ax,an⟩:=I.rows;have Z:∀g,g<av.heap.size->g≠w.heap.size+1->Y.heap[g]? =av.heap[g]? :=fun g a2 a4=>af g a2 (by rw[ab];exact a4)
   have aa:=(Z w.heap.size (by omega) (by omega)).trans aq;have a9:=Ab (Au ae (fun g G=>Z g (ae.lt g G).2 (fun h=>ax g G (by rw[M,h];exact .inr rfl))));have a3:=Ab (Au ai (fun g G=>Z g (ai.lt g G).2 (fun h=>an g G (by rw[M,h];exact .inr rfl))));have bb:Y.cell? ⟨w.heap.size,1,none⟩=some (.int .i64 (E.p:Int)):=Ac aa;have bg:Y.cell? ⟨w.heap.size,2,none⟩=some ov:=Ac aa;have bf:Y.cell? ⟨w.heap.size,3,none⟩=some kv:=Ac aa;clear I aq ae ai a8 ax an aa Z af ah aj ag c2 a7 O;go_wp2;go_quiet (fail)
   go_wp2;refine bodyPost_ret (v:=.tuple #[ov,.int .i64 (((E.p:Int)+7)/8),kv,.int .i64 0]) ?_ rfl ⟨Ae (Aa ak) _,.inl ⟨e0,ov,kv,by rw[show (((E.p+7)/8:Nat):Int)=((E.p:Int)+7)/8 by omega],Au (Aa a9) (fun _ _=>rfl),Au (Aa a3) (fun _ _=>rfl)⟩⟩
   first|rfl|kernel_rfl
 . have ao:((x:Int)==0)=false:=by rw[beq_eq_false_iff_ne];omega
   have a6:=Ab O;clear af ah aj ag O;go_wp2;refine bodyPost_ret (v:=.tuple #[.slice none 0 0,.int .i64 0,.slice none 0 0,.int .i64 (x:Int)]) ?_ rfl ⟨Aa ak,.inr ⟨e0,by rw[Aa a6]⟩⟩
   first|rfl|kernel_rfl
theorem Z6 (b:Nat)(a:Option Addr)(E M:Nat)(l:List Int)(w:World)(G:l.length=E)(ac:E<=1000000)(H:RowIn .i64 w a l)(F:errL l≠0):
 Calls Tryz.prog 270 #[.pointer (some ⟨b,0,none⟩),.slice a E M] w fun e w'=>e=Flt (errL l)/\Below w.heap.size w w':=by
 have O:=Ab (QL a E M l (w.alloc (.cells #[.pointer (some ⟨b,0,none⟩)] 280)) G (by omega) (H.alloc _) F);have Z:Hid (Below w.heap.size w (w.alloc (.cells #[.pointer (some ⟨b,0,none⟩)] 280))):=Ab ((Below.refl _ _).alloc (VB _) _);have hb:(errL l !=0)=true:=by rw[bne_iff_ne];exact F
 obtain⟨Y,I⟩:=exq (errL l);rw[I]at O hb ⊢;clear I F H G;go_enter Tryz.func270,Tryz.ntmps270
 go_wp2_with fail
 refine(Aa O).mono ?_;rintro e U ⟨rfl,T⟩;have aa:Hid (Below w.heap.size w U):=Ab ((Aa Z).trans (T.mono (by simp)));clear T;go_wp2_with fail
 refine(Cf Y U).mono ?_;rintro e ab ⟨rfl,rfl⟩;go_wp2;exact⟨rfl,rfl,Aa aa⟩
def Z8s (b:Nat)(l:List Int)(w:World)(e:Ending)(w':World):Prop:=
 Below w.heap.size w w'/\((errL l=0/\∃gr gm mb nn,e=.returned (DV gr gm)/\w.heap.size<=gr/\w.heap.size<=gm/\w.heap.size<=mb/\mb<w'.heap.size/\DIs w' gr gm mb nn b l)\/ (errL l≠0/\e=Flt (errL l)))
theorem Kt (b:Nat)(a:Option Addr)(E H:Nat)(l:List Int)(w:World)(O:l.length=E)(ab:E<=1000000)(M:RowIn .i64 w a l):
 Calls Tryz.prog 270 #[.pointer (some ⟨b,0,none⟩),.slice a E H] w fun e w'=>Z8s b l w e w':=by
 by_cases F:errL l=0
 . refine(Nr b a E H l w O M (Ch F)).mono ?_;rintro e w' ⟨gr,gm,mb,nn,I,G,T,Z,U,aa,Y⟩;exact⟨Y,.inl ⟨F,gr,gm,mb,nn,I,G,T,Z,U,aa⟩⟩
 . refine(Z6 b a E H l w O ab M F).mono ?_;rintro e w' ⟨I,G⟩;exact⟨G,.inr ⟨F,I⟩⟩
def NJ (No:Nat->Prop)(N:Nat):Nat->Prop:=fun g=>No g\/N<=g
def NK (No:Nat->Prop)(N M:Nat):Nat->Prop:=fun g=>No g\/ (N<=g/\g<M)
theorem IIs.back {I ac:Nat->Prop}{B b:Nat}{w w':World}{R O M g1 g2:Value}{u F:US}(E:IIs I B w b R O M u)(U:IIs ac B w' b R g1 g2 F)(hK:Mx b w w'):IIs I B w' b R g1 g2 F:=by
 obtain⟨ov,kv,Y,T,am,ak,aj,al,Z,aa⟩:=E.rows;obtain⟨H,G,b2,ae,ag,af,b6,ab,ai,ah⟩:=U.rows
 have e2:H=ov:=by
  have:=(b2.symm.trans (hK 2 (by decide))).trans Y
  exact VM this
 have e3:G=kv:=by
  have:=(ae.symm.trans (hK 3 (by decide))).trans T
  exact VM this
 subst e2;subst e3;exact⟨E.base,E.no,H,G,ag,af,b6,ab,Z,aa⟩
theorem IIs.newer {No:Nat->Prop}{B b:Nat}{w:World}{R G F:Value}{u:US}(E:IIs No B w b R G F u):IIs (NJ No w.heap.size) B w b R G F u:=
 E.more (fun e=>by
  rcases e with e|e
  . exact E.no e
  . have:=E.lt;omega) (fun g H=>H)
theorem IIs.weak {No No':Nat->Prop}{B b:Nat}{w:World}{R F E:Value}{u:US}(H:IIs No B w b R F E u)(G:∀g,No' g->No g):IIs No' B w b R F E u:=
 H.more (fun e=>H.no (G b e)) (fun g I=>.inl (G g I))
theorem Rd.wide {w:World}{No No':Nat->Prop}{a:Option Addr}{n:Nat}{bs:List Nat}(E:Rd w No a n bs)(F:∀g,No g->No' g):Rd w No' a n bs:=⟨E.len,E.few,E.byt,E.val,fun G H I e2=>F _ (E.no G H I e2)⟩
theorem Z7c {No:Nat->Prop}{B:Nat}{w w':World}(E:Below w.heap.size w w')(G:B<=w.heap.size):Bl No B w w':=⟨E.mono G,fun g F _=>E.block g F⟩
theorem IIs.past {No:Nat->Prop}{B b:Nat}{w w':World}{R I H:Value}{u:US}(E:IIs No B w b R I H u)(G:Below w.heap.size w w'):IIs No B w' b R I H u:=by
 obtain⟨ov,kv,U,O,M,T⟩:=E.ex;exact⟨E.base,E.no,ov,kv,(G.block b E.lt).trans U,Au O (fun g F=>G.block g (O.lt g F).2),Au M (fun g F=>G.block g (M.lt g F).2),T⟩
structure Rk (No:Nat->Prop)(B:Nat)(w:World)(b:Nat)(R f1 f2:Value)(u:US)(w':World):Prop where
 is:IIs (NJ No w.heap.size) B w' b R f1 f2 u
 bl:Bl No B w w'
theorem Rk.refl {No:Nat->Prop}{B b:Nat}{w:World}{R F E:Value}{u:US}(G:IIs No B w b R F E u):Rk No B w b R F E u w:=⟨G.newer,Bl.refl _ _ _⟩
theorem Rk.num {No:Nat->Prop}{B b:Nat}{w I H:World}{R F E:Value}{u v:US}(G:Rk No B w b R F E u I)(k:IUp (NJ No w.heap.size) B I b R F E v H):Rk No B w b R F E v H:=⟨k.is,G.bl.trans ⟨k.below,k.kp.weaken (fun _ G=>.inl G)⟩⟩
theorem Rk.past {No:Nat->Prop}{B b:Nat}{w F I:World}{R H G:Value}{u:US}(E:Rk No B w b R H G u F)(k:Below F.heap.size F I):Rk No B w b R H G u I:=⟨E.is.past k,E.bl.trans (Z7c k (VU E.is.base (YX E.is.lt)))⟩
theorem Rk.drewN {No:Nat->Prop}{B b:Nat}{w G:World}{R F E:Value}{u:US}(H:Rk No B w b R F E u G)(q:Nat):Rk No B w b R F E u (G.drewN q):=H.past (Ae (Below.refl _ _) q)
def ARow (T:TypeId)(w:World)(g:Nat)(xs:List Int):Prop:=w.heap[g]? =some (.cells (iv xs).toArray T (0,0))
theorem ARow.lt {T:TypeId}{w:World}{E:Nat}{xs:List Int}(F:ARow T w E xs):E<w.heap.size:=(VK.1 F).1
theorem Z83 (xs:List Int)(j:Nat)(E:j<xs.length):(iv xs).toArray[j]? =some (.int .i64 (xs.getD j 0)):=by simp[iv,List.getD,E]
theorem ARow.cell {T:TypeId}{w:World}{E:Nat}{xs:List Int}(G:ARow T w E xs)(j:Nat)(F:j<xs.length):w.cell? ⟨E,j,none⟩=some (.int .i64 (xs.getD j 0)):=(Ac G).trans (Z83 xs j F)
theorem ARow.frozen {T:TypeId}{w:World}{E:Nat}{xs:List Int}(F:ARow T w E xs)(j:Nat):w.frozen? ⟨E,j,none⟩=false:=frozen_of_row w E j _ _ F
theorem ARow.row {T:TypeId}{w:World}{E:Nat}{xs:List Int}(G:ARow T w E xs):Row .i64 w E 0 xs:=fun j F=>by rw[WG];exact G.cell j F
theorem ARow.keep {T:TypeId}{w w':World}{E:Nat}{xs:List Int}(G:ARow T w E xs)(F:w'.heap[E]? =w.heap[E]?):ARow T w' E xs:=F.trans G
theorem ARow.set {T:TypeId}{w:World}{E:Nat}{xs:List Int}(F:ARow T w E xs)(i:Nat)(v:Int):ARow T (w.setCell ⟨E,i,none⟩ (.int .i64 v)) E (xs.set i v):=by
 unfold ARow;rw[heap_setCell_same w E i _ _ _ F];simp[iv,List.map_set]
theorem Ln {F:Func}{p u:Tmp}{H I:TypeId}(T:F.results= #[.cell p H,.cell u I])(E:Array Value)(w:World)(g1 g2:Nat)(M G:Value)
 (Z:E.getD p undef=.pointer (some ⟨g1,0,none⟩)) (ab:E.getD u undef=.pointer (some ⟨g2,0,none⟩)) (aa:(loadVar H ⟨g1,0,none⟩).run Tryz.prog w=.ok M w) (O:(loadVar I ⟨g2,0,none⟩).run Tryz.prog w=.ok G w):
 (results F E).run Tryz.prog w=.ok (.tuple #[M,G]) w:=by
 have U:E[p]?.getD undef=.pointer (some ⟨g1,0,none⟩):=by simpa using Z
 have Y:E[u]?.getD undef=.pointer (some ⟨g2,0,none⟩):=by simpa using ab
 simp[results,T,U,Y,asAddr,aa,O]
theorem ARow.range {T:TypeId}{w:World}{E:Nat}{xs:List Int}(G:ARow T w E xs):w.rangeAt E 0 (iv xs):=fun j v F=>by
 rw[WG];exact(Ac G).trans (by simpa using F)
theorem Cy (xs:List Int):(iv xs).toArray.all (·.oneCell')=true:=by
 simp[iv]
 intro x E;rfl
theorem Ei {G:Array Oper}{o:Oper}{a:Act}{W:World}{K:Act->World->Prop}{Q:Exit->Act->World->Prop}{M:Prop}(U:o.guard=none)(T:TypeId)(x y:Operand)(Y:o.op=.store T x y)
 (E:Nat) (xs:List Int) (H:a.eval x=.pointer (some ⟨E,0,none⟩)) (Z:a.eval y=.agg (iv xs).toArray) (F:ARow T W E xs) (I:(Tryz.prog.info? T).map (·.size)=some (iv xs).toArray.size) (O:K (a.put o.dst undef) W):if Region.wanted o (yielded G a.tmps)=true then Oper.wp Tryz.prog o a W K Q else M:=by
 have e:Region.wanted o (yielded G a.tmps)=true:=by unfold Region.wanted;rw[U]
 rw[if_pos e];refine wp_store_row T x y Y E _ H Z T _ F I rfl (Cy xs) ?_;rw[setRow_self W E _ T (0,0) F];exact O
theorem ARow.load {T:TypeId}{w:World}{E:Nat}{xs:List Int}(G:ARow T w E xs){d:TypeDesc}(H:Tryz.prog.underlying T=some d)(I:(match d with| .struct _| .array _ _=>true|_=>false)=true)(F:(Tryz.prog.info? T).map (·.size)=some (iv xs).toArray.size):(loadVar T ⟨E,0,none⟩).run Tryz.prog w=.ok (.agg (iv xs).toArray) w:=
 run_loadVar_row w E T T _ (0,0) d G H (by cases d<;>first|rfl|exact I) F
end Go.Proofs.YtleocpdblhbimaaGreatDoor
