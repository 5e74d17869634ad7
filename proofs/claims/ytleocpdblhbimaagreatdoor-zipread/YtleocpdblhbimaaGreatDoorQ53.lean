import Derived.Test.YtleocpdblhbimaaGreatDoorQ52
import Derived.Deep.RegionHeld3
import Derived.Test.YtleocpdblhbimaaGreatDoorQ11
set_option linter.unusedSimpArgs false
set_option maxHeartbeats 8000000
namespace Go.Proofs.YtleocpdblhbimaaGreatDoor
open Go.RowKit
set_option linter.unusedVariables false
set_option maxRecDepth 100000
theorem O4 (No:Nat->Prop)(B b E:Nat)(bs:List Nat)(u:US)(w:World)(h:UIs No B w b (rowB bs E) u)(bt:bs.length=E)(bd:E<=25000)(m5:u.p<=8*E)(ek:u.out.length<=3000)(dj:u.ks.length<=200000)(e7:∀g,w.heap.size<=g->¬No g)(l k:Nat)(bw an G:US)(av:uget (rowB bs E) 1 u=(l,bw))(aq:uget (rowB bs E) 2 bw=(k,an))(cp:an.e=0)(bm:k=1\/k=2)(LA LB:List Int)(O:uopen (rowB bs E) k an=((LA,LB),G))(V:US)(fk:utok (rowB bs E) LA LB (rowB bs E).length G=V)(bh:Bool×US)(bz:(if G.e≠0 then (true,G)else (decide (l=1),ukept k V))=bh):
 Calls Tryz.prog 61 #[.pointer (some ⟨b,0,none⟩)] w fun e w'=>BkA No B w b (rowB bs E) bh e w':=by
 have bn:=Ab bz;clear bz;obtain⟨k5,hi,ie,h4,gt⟩:=info_parts Bv;have na:=Af bs E;have cz:(rowB bs E).length<=200000:=by omega
 have hw:u.p<=(rowB bs E).length:=by omega
 obtain⟨g9,c3,ch,cm,ic⟩:=Bn aq cp;obtain⟨hh,i5,b5,ce,_⟩:=Bn av ic
 have e8:G.e=0->Good LA/\Good LB/\G.p<=(rowB bs E).length/\1<=G.p/\G.out.length<=3000/\G.ks=u.ks:=fun al=>by
  rcases bm with rfl|rfl
  . unfold uopen at O;rw[if_pos rfl]at O;obtain⟨ak,rfl⟩:=VN O;obtain⟨rfl,rfl⟩:=VN ak;exact⟨PO,PN,c3,by omega,by rw[ch,b5];exact ek,cm.trans ce⟩
  . unfold uopen at O;rw[if_neg (by decide),if_pos rfl]at O;obtain⟨m0,n0,c0,mw,nc,bv,us,mo,mz,a9⟩:=Hd O al;obtain⟨mx,io,j0,j8⟩:=Pu a9 c3;exact⟨Ch (by rw[a9.ea];exact a9.ca),Ch (by rw[a9.ec];exact a9.cc),io,by omega,by rw[j0,ch,b5];exact ek,j8.trans (cm.trans ce)⟩
 have H:=Ab h;have cy:=Ab e7;have fi:=Ab av;have em:=Ab aq;have ax:=Ab e8;have a4:=Ab O;have a3:=Ab fk;have il:=Ab dj;have f7:=i5;have ew:an.p<=8*E:=by omega
 clear h e7 av aq e8 O fk hh g9 cm ce ch b5 dj;go_enter Tryz.func61,Tryz.ntmps61
 go_wp2_with fail
 refine(Hm No B b 1 _ u w (Aa H) (by omega) cz hw l bw (Aa fi)).mono ?_;rintro e gw ⟨rfl,dg⟩;have b8:=Ab dg;clear dg;go_wp2_with fail
 refine(Hm No B b 2 _ bw gw (Aa b8).is (by omega) cz f7 k an (Aa em)).mono ?_;rintro e fg ⟨rfl,ds⟩;have ao:=Ab ((Aa b8).trans ds);clear ds b8;obtain⟨_,_,dv,_⟩:=(Aa ao).is.cell;rw[cp]at dv;clear fi em H;go_upto_block 0 with fail
 go_cut [3,4,5,6] (fun bv b3 fm lj wc=>∃bg bu bb b0 bc b7,bv=.int .i64 (l:Int)/\b3=.int .i64 (k:Int)/\fm=.slice bg bu bb/\lj=.slice b0 bc b7/\Hid (UUp No B w b (rowB bs E) G wc)/\Hid (G.e=0->LA.length=bu/\LB.length=bc/\RowIn .i64 wc bg LA/\RowIn .i64 wc b0 LB))
 case first=>
  rcases bm with rfl|rfl
  . have O:=Aa a4;unfold uopen at O;rw[if_pos rfl]at O;obtain⟨ak,as⟩:=VN O;obtain⟨d2,dm⟩:=VN ak;have e6:=Ab as;have e4:=Ab d2;have cw:=Ab dm;clear O ak as d2 dm a4 ax a3;go_wp2_with fail
    refine(PI fg).mono ?_;rintro e w3 ⟨ir,bb,lm,rfl,ng,mv,a2,a1,dx⟩;have Z:Hid (UUp No B w b (rowB bs E) G w3):=Ab (by rw[<-Aa e6];exact(Aa ao).trans (((UUp.refl (Aa ao).is.opened).newer (VB _) dx).closed));have aa:Hid (G.e=0->LA.length=288/\LB.length=32/\RowIn .i64 w3 (some ⟨ir,0,none⟩) LA/\RowIn .i64 w3 (some ⟨lm,0,none⟩) LB):=Ab (fun _=>by rw[<-Aa e4,<-Aa cw];exact⟨rfl,rfl,a2,a1⟩);clear a2 a1 dx e6 e4 cw;go_wp2;go_meet
    exact⟨_,_,_,_,_,_,rfl,rfl,rfl,rfl,Z,aa⟩
  . have O:=Aa a4;unfold uopen at O;rw[if_neg (by decide),if_pos rfl]at O;have ff:=Ab (TJ No B b E bs an fg (Aa ao).is bt bd ew _ O);clear O a4 ax a3;go_wp2_with fail
    refine(Aa ff).mono ?_;rintro e w3 ⟨eu,bz⟩;have Z:=Ab ((Aa ao).trans eu);clear eu ff
    rcases bz with ⟨bo,rfl⟩|⟨mm,c1,nb,c2,ka,rfl,dq,eh⟩
    . have aa:Hid (G.e=0->LA.length=0/\LB.length=0/\RowIn .i64 w3 none LA/\RowIn .i64 w3 none LB):=Ab (fun i7=>absurd i7 bo);clear bo;go_wp2;go_meet
      exact⟨_,_,_,_,_,_,rfl,rfl,rfl,rfl,Z,aa⟩
    . have aa:=Ab (And.intro dq eh);clear ka dq eh;go_wp2;go_meet
      exact⟨_,_,_,_,_,_,rfl,rfl,rfl,rfl,Z,Ab (fun _=>⟨rfl,rfl,(Aa aa).1,(Aa aa).2⟩)⟩
 case rest=>
 rename World=>w3
 obtain⟨bg,bu,bb,b0,bc,b7,rfl,rfl,rfl,rfl,Z,aa⟩:=hcut;obtain⟨_,_,eb,_⟩:=(Aa Z).is.cell;clear ao dv a4 ew
 by_cases al:G.e≠0
 . have bo:(G.e !=0)=true:=by simp only[bne_iff_ne,ne_eq];exact al
   have hq:Hid (BkA No B w b (rowB bs E) bh (.returned (.bool true)) w3):=Ab (by rw[<-Aa bn,if_pos al];exact⟨rfl,Aa Z⟩);clear al ax aa a3 bn;generalize G.e=dz at*;go_wp2;go_ret;exact Aa hq
 have be:G.e=0:=by omega
 have g5:Hid ((decide (l=1),ukept k V)=bh):=Ab (by rw[<-Aa bn,if_neg al]);obtain⟨c6,du,a2,a1⟩:=Aa aa be;obtain⟨ei,d7,fh,kj,et,dl⟩:=Aa ax be;have dd:=Ab a2;have di:=Ab a1;have cj:=Ab ei;have co:=Ab d7;rw[be]at eb;clear al aa ax a2 a1 ei d7 bn;go_wp2_with fail
 refine(LS w3).mono ?_;rintro e c8 ⟨g1,mq,g2,mu,rfl,av,aq,el,ep,cg,dy,dn⟩;have hv:=cg.size;have dc:=Ab el;have d3:=Ab ep;have bk:=Ab cg;clear el ep cg;have cq:=Ab ((Aa dd).below (Aa bk) (VB _));go_wp2_with fail
 refine(Jm bg bu bb LA c8 c6 (Aa cq) (Aa cj)).mono ?_;rintro e db ⟨dp,jg,rfl,ki,b9,b4⟩;have fp:=b4.size;have d4:=Ab b9;have a6:=Ab b4;have ij:=b9.lt;clear b9 b4;have ey:=Ab (((Aa di).below (Aa bk) (VB _)).below (Aa a6) (VB _));go_wp2_with fail
 refine(Jm b0 bc b7 LB db du (Aa ey) (Aa co)).mono ?_;rintro e w6 ⟨mB,f4,rfl,jm,ck,au⟩;have dw:=au.size;have e9:=Ab ck;have kq:=ck.lt;have da:=Ab (Wc (Aa d4) au ij);have lz:=Ab (Lr (Lr (Aa dc) (Aa a6) dy) au (by omega));have j1:=Ab (Lr (Lr (Aa d3) (Aa a6) dn) au (by omega));have cd:Below w3.heap.size w3 w6:=(Aa bk).trans (((Aa a6).mono (by omega)).trans (au.mono (by omega)));have d8:Hid (UUp No B w b (rowB bs E) G w6):=Ab ((Aa Z).trans (((UUp.refl (Aa Z).is.opened).newer (VB _) cd).closed));obtain⟨N,d9⟩:=exq (w3.heap.size);obtain⟨M,fj⟩:=exq (w6.heap.size);have ma:b<N:=by have:=(Aa Z).is.lt;omega
 have d5:Hid (UIs (N2 No N M) B w6 b (rowB bs E) G):=Ab ((((Aa Z).is.opened).newer cd).more (fun e=>by rcases e with e|e;exact(Aa d8).is.no e;omega) (fun g bf=>by rw[d9];rcases bf with e|e;exact .inl (.inl e);exact .inl (.inr e.1)));rw[d9]at av aq hv;rw[fj]at dw kq;have my:w.heap.size<=N:=by have:=(Aa Z).below.size;omega
 have c4:Hid (∀W:World,w6.heap.size<=W.heap.size->∀g,W.heap.size<=g->¬N2 No N M g):=Ab (fun W I g bf e=>by
  rcases e with e|e
  . exact Aa cy g (by omega) e
  . omega)
 have c7:Hid (TkI (rowB bs E) u.ks (rowB bs E).length G):=Ab ⟨fun _=>by omega,fh,et,dl⟩;have j9:Hid (∀(W:World) (x:US),UUp (N2 No N M) B w6 b (rowB bs E) x W->x.p<=(rowB bs E).length->Calls Tryz.prog 98 #[.pointer (some ⟨b,0,none⟩),.map (some dp)] W fun e w'=>e=.returned (.int .i64 ((uplace LA (rowB bs E) x).1:Int))/\UUp (N2 No N M) B W b (rowB bs E) (uplace LA (rowB bs E) x).2 w'):=Ab (fun W x I as=>Km (N2 No N M) B b dp jg E LA bs x W I.is (Aa cj) bt bd (by omega) (I.book2 (by rw[c6];exact Aa da) (by omega) (by omega)) (by omega));have jo:Hid (∀(W:World) (x:US),UUp (N2 No N M) B w6 b (rowB bs E) x W->x.p<=(rowB bs E).length->Calls Tryz.prog 98 #[.pointer (some ⟨b,0,none⟩),.map (some mB)] W fun e w'=>e=.returned (.int .i64 ((uplace LB (rowB bs E) x).1:Int))/\UUp (N2 No N M) B W b (rowB bs E) (uplace LB (rowB bs E) x).2 w'):=Ab (fun W x I as=>Km (N2 No N M) B b mB f4 E LB bs x W I.is (Aa co) bt bd (by omega) (I.book2 (by rw[du];exact Aa e9) (by omega) (by omega)) (by omega));clear ck au cd bk a6 d4 dc d3 dd di cq ey Z eb fh kj et dl cj co da e9;go_upto_block 3 with fail
 go_cut [3,4] (fun bv b3 wc=>bv=.int .i64 (l:Int)/\b3=.int .i64 (k:Int)/\Hid (UUp No B w b (rowB bs E) V wc)/\Hid (V.ks=u.ks))
 case first=>
  have a7:Hid (∀(W:World) (x:US),x=V->x.ks=u.ks->UUp (N2 No N M) B w6 b (rowB bs E) x W->UUp No B w b (rowB bs E) V W/\V.ks=u.ks):=Ab (fun W x as bm I=>by subst as;exact⟨(Aa d8).trans I.closed2,bm⟩);clear cp ki jm be;go_wp2_with fail
  go_loopw [14] (fun ed wr=>∃(F:Nat) (x:US),Hid (utok (rowB bs E) LA LB F x=V)/\Hid (TkI (rowB bs E) u.ks F x)/\Hid (UUp (N2 No N M) B w6 b (rowB bs E) x wr)) (fun _ wr=>Z16 E b wr)
  case atStart=>exact⟨(rowB bs E).length,G,a3,c7,Ab (UUp.refl (Aa d5))⟩
  case round=>
   obtain⟨F,x,af,ai,I⟩:=hrel;obtain⟨_,_,jq,_⟩:=(Aa I).is.cell;clear a3 c7 d5
   by_cases cn:x.e≠0
   . have mr:(x.e==0)=false:=by rw[beq_eq_false_iff_ne];exact cn
     have cu:=Aa a7 wr x (by have:=Aa af;rw[SR _ _ _ _ _ cn]at this;exact this) (Aa ai).2.2.2 (Aa I);have T:=Ab cu;clear cu cn af ai;generalize x.e=dz at*;go_wp2;go_meet
     exact⟨rfl,rfl,Ab (Aa T).1,Ab (Aa T).2⟩
   have am:x.e=0:=by omega
   rw[am]at jq;obtain⟨a0,e5,jc,jv⟩:=Aa ai;have az:=a0 am
   cases F with
   |zero=>exact absurd az (by omega)
   |succ F=>
   obtain⟨kk,y1,ac⟩:∃kk y1,uplace LA (rowB bs E) x=(kk,y1):=⟨_,_,rfl⟩
   have o1:=Wp LA (rowB bs E) x e5;rw[ac]at o1;obtain⟨ej,d6,k4,en⟩:=o1;simp only at ej d6 k4 en
   have aj:=Aa af;have ab:=Ab (Aa j9 wr x (Aa I) e5);rw[ac]at ab;have de:y1.out.length<=3000:=by rw[ej];exact jc
   have bj:y1.ks=u.ks:=d6.trans jv
   by_cases a8:y1.e≠0
   . have bo:(y1.e !=0)=true:=by simp only[bne_iff_ne,ne_eq];exact a8
     have ah:y1=V:=by rw[<-aj,Nb am ac (false,y1) (by rw[if_pos (Or.inl a8)])];rfl
     clear aj af ai a0 az;go_wp2_with fail
     refine(Aa ab).mono ?_;rintro e ag ⟨rfl,U⟩;have T:=Ab (Aa a7 ag y1 ah bj ((Aa I).trans U));obtain⟨_,_,ap,_⟩:=U.is.cell;clear U ah a8 ab;generalize y1.e=dz at*;go_wp2;go_meet
     exact⟨rfl,rfl,Ab (Aa T).1,Ab (Aa T).2⟩
   have a5:y1.e=0:=by omega
   have bf:=(Cn ac a5).1
   by_cases kx:kk=256
   . subst kx;have ah:y1=V:=by rw[<-aj,Nb am ac (false,y1) (by rw[if_pos (Or.inr rfl)])];rfl
     clear aj af ai a0 az;go_wp2_with fail
     refine(Aa ab).mono ?_;rintro e ag ⟨rfl,U⟩;have T:=Ab (Aa a7 ag y1 ah bj ((Aa I).trans U));obtain⟨_,_,ap,_⟩:=U.is.cell;rw[a5]at ap;clear U ah ab;go_wp2;go_meet
     exact⟨rfl,rfl,Ab (Aa T).1,Ab (Aa T).2⟩
   have mj:((kk:Int)==256)=false:=by rw[beq_eq_false_iff_ne];omega
   have bi:¬(y1.e≠0\/kk=256):=by omega
   by_cases dh:kk<256
   . have ct:utok (rowB bs E) LA LB F (Fd kk y1)=V:=by rw[<-aj,Nb am ac (true,Fd kk y1) (by rw[if_neg bi,if_pos dh])];rfl
     have js:=Ab ct;have ar:=BA kk y1;have ho:Hid (TkI (rowB bs E) u.ks F (Fd kk y1)):=Ab ⟨fun _=>by rw[ar.2.2];omega,by rw[ar.2.2];exact en,ar.1 de,ar.2.1.trans bj⟩;have k7:=Ab ar.2.2;have j4:(kk:Int)<256:=by omega
     clear aj af ai a0 az ct ar bi ac;go_wp2_with fail
     refine(Aa ab).mono ?_;rintro e ag ⟨rfl,U⟩;have ae:=Ab ((Aa I).trans U);clear U ab;obtain⟨_,_,ap,_⟩:=(Aa ae).is.cell;rw[a5]at ap;have lw:=(Aa ae).below.size;go_wp2_with fail
     refine(S8 (N2 No N M) B b kk _ y1 ag (Aa ae).is de (Aa c4 ag lw)).mono ?_;rintro e d1 ⟨rfl,aw⟩;have df:=Ab ((Aa ae).trans aw);clear aw;go_wp2;go_roundw
     case rel=>exact⟨F,_,js,ho,df⟩
     case measure=>
      rw[Jz (Aa I).is,Jz (Aa df).is,Aa k7];omega
   have m9:¬(kk:Int)<256:=by omega
   by_cases k0:285<kk
   . have ah:Am 8 y1=V:=by rw[<-aj,Nb am ac (false,Am 8 y1) (by rw[if_neg bi,if_neg dh,if_pos k0])];rfl
     have fd:=Om 8 y1;have ci:Hid ((Am 8 y1).ks=u.ks):=Ab (fd.2.1.trans bj);have i9:=Ab ah;have j4:(285:Int)<(kk:Int):=by omega
     clear aj af ai a0 az ah fd bi ac;go_wp2_with fail
     refine(Aa ab).mono ?_;rintro e ag ⟨rfl,U⟩;have ae:=Ab ((Aa I).trans U);clear U ab;obtain⟨_,_,ap,_⟩:=(Aa ae).is.cell;rw[a5]at ap;have f6:=Ab (Dn (N2 No N M) B b (rowB bs E) y1 8 ag (Aa ae).is);go_wp2_with fail
     refine(Aa f6).mono ?_;rintro e d1 ⟨rfl,aw⟩;have T:=Ab (Aa a7 d1 _ (Aa i9) (Aa ci) ((Aa ae).trans aw));clear aw;go_wp2;go_meet
     exact⟨rfl,rfl,Ab (Aa T).1,Ab (Aa T).2⟩
   refine TM (No:=No) (B:=B) (hs4:=c8.heap.size) (hs5:=db.heap.size) (N:=N) (M:=M) (w6:=w6) (ks:=u.ks) (LA:=LA) (LB:=LB) (V:=V) (x:=x) (F:=F) (y1:=y1) (kk:=kk) bt bd av aq dy dn fp dw fj ma lz j1 c4 ab jo am ai af ac a5 (by omega) (by omega) I ?_ ?_
   . intro ed l0 hu ia f8 jl g4 k6 g0 gq i4 l4 hf id hy j7 fy jt gg mh h0 f3 jz ft kc k9 ly me km l8 ha hs ko ll lg gd hg i2 h6 fq ld kh i3 i1 iz fo ht i0 kz ja ip jh fu ju j6 hp je f5 hz iw li g7 gh k8 g8 jj it jr jb h7 l6 j5 im gi gv j3 ji hk hj ib iq l7 ix h5 gy gj jp fn ii kt md k3 jw kg ig fx ik l9 iy h1 gz gx lv gu lr lh lk ku l3 jk h9 h3 gn lu f9 mc j2 i6 jy mg h8 he w' Y h2 ee hd c9;dsimp only;go_roundw
     case rel=>exact⟨F,Y,h2,ee,c9⟩
     case measure=>
      rw[Jz (Aa I).is,Jz (Aa c9).is];have:=Aa hd
      have:=(Aa ee).2.1
      omega
   . intro ed l0 hu ia f8 jl g4 k6 g0 gq i4 l4 hf id hy j7 fy jt gg mh h0 f3 jz ft kc k9 ly me km l8 ha hs ko ll lg gd hg i2 h6 fq ld kh i3 i1 iz fo ht i0 kz ja ip jh fu ju j6 hp je f5 hz iw li g7 gh k8 g8 jj it jr jb h7 l6 j5 im gi gv j3 ji hk hj ib iq l7 ix h5 gy gj jp fn ii kt md k3 jw kg ig fx ik l9 iy h1 gz gx lv gu lr lh lk ku l3 jk h9 h3 gn lu f9 mc j2 i6 jy mg h8 he w' y a8 l5 lq;have T:=Ab (Aa a7 w' y a8 l5 lq);dsimp only;go_wp2_with fail
     go_meet
     exact⟨rfl,rfl,Ab (Aa T).1,Ab (Aa T).2⟩
 case rest=>
  rename World=>i8
  obtain⟨rfl,rfl,ay,ky⟩:=hcut;obtain⟨ov,kv,_,m6,ak,e1,ba,eq,eg,cv⟩:=(Aa ay).is.rows;obtain⟨e0,bq⟩:=exq (V.ks.length);have fe:=ba;rw[bq]at ba;obtain⟨m8,m3,rfl⟩:=An ba;have mp:=(Aa ay).below.size;have mk:=(Aa ay).is.lt;have mn:e0<=200000:=by rw[<-bq,Aa ky];exact Aa il
  have ci:=Ab ba;have iu:=Ab fe;have jx:=Ab e1;have fw:=Ab ak;have fr:=Ab eq;have lf:=Ab eg;have hx:=Ab cv;have jf:=Ab bq;have dt:=Ab (Aa ay).is;clear ba fe e1 ak eq eg cv bq;go_wp2_with (at_builtin;refine wpList_append_own_at _ rfl (.tmp 239) (.tmp 241) 76 rfl (b+1) 3 k5 (.int .i64 0) 1 8 Tryz.underlying76 hi ie h4 gt rfl (by decide) _ e0 (i64s V.ks) rfl ((Aa ci).alloc _) ⟨i8.heap.size,0,none⟩ 1 1 [.int .i64 (k:Int)] rfl rfl (cell_one_new _ _ _) (Bc rfl) (by unfold maxLen;omega) (by omega) (by simp;omega) ?_)
  intro v' m4 cl dr _ c5;obtain⟨m7,mi,eo⟩:=UIs.keepK (k:=k) (X:=.cells #[.int .i64 (k:Int)] 3) (Aa dt).base (Aa dt).no (Aa fw) (Aa jx) (Aa iu) (Aa fr) (Aa lf) (Aa hx) (fun g bf=>Aa cy g (by omega)) (by rw[Aa jf];exact cl) dr (by simpa using c5);obtain⟨ml,nf,rfl,_,_⟩:=Ba cl (by omega);have ls:=Ab ((Aa ay).trans eo);clear cl dr c5 eo;go_wp2;go_ret;rw[<-Aa g5];exact⟨by rw[RM];rfl,Aa ls⟩
theorem JJ (No:Nat->Prop)(B b F:Nat)(bs:List Nat)(u:US)(w:World)(O:UIs No B w b (rowB bs F) u)(af:bs.length=F)(I:F<=25000)(T:u.p<=8*F)(ac:u.out.length<=3000)(ab:u.ks.length<=200000)(aa:∀g,w.heap.size<=g->¬No g)(R:Bool×US)(E:Eh (rowB bs F) u=R):
 Calls Tryz.prog 61 #[.pointer (some ⟨b,0,none⟩)] w fun e w'=>BkA No B w b (rowB bs F) R e w':=by
 obtain⟨l,x1,H⟩:∃l x1,uget (rowB bs F) 1 u=(l,x1):=⟨_,_,rfl⟩
 obtain⟨k,x2,G⟩:∃k x2,uget (rowB bs F) 2 x1=(k,x2):=⟨_,_,rfl⟩
 unfold Eh at E;simp only[H,G]at E
 by_cases Z:x2.e≠0
 . rw[if_pos Z]at E;subst E;exact JH No B b F bs u w O I T l k x1 x2 H G Z
 rw[if_neg Z]at E;have U:x2.e=0:=by omega
 by_cases Y:k=0
 . rw[if_pos Y]at E;subst Y E;exact RH No B b F bs u w O I T ac ab aa l x1 x2 H G U _ rfl
 rw[if_neg Y]at E
 by_cases ae:3<=k
 . have M:uopen (rowB bs F) k x2=(([],[]),Am 4 x2):=by unfold uopen;rw[if_neg (by omega),if_neg (by omega)]
   rw[M]at E;simp only at E
   rw[if_pos (Bm (by decide))]at E;subst E;exact JI No B b F bs u w O I T l k x1 x2 H G U ae
 . obtain⟨LA,LB,x3,M⟩:∃LA LB x3,uopen (rowB bs F) k x2=((LA,LB),x3):=⟨_,_,_,rfl⟩
   rw[M]at E;exact O4 No B b F bs u w O af I T ac ab aa l k x1 x2 x3 H G U (by omega) LA LB M _ rfl R E
theorem UIs.fresh (No:Nat->Prop)(B:Nat)(w:World)(row:List Bool)(F:B<=w.heap.size)(E:¬No w.heap.size):
 UIs No B (w.alloc (.cells #[.string (text row),.int .i64 0,.slice none 0 0,.slice none 0 0,.int .i64 0] 110)) w.heap.size row ⟨0,[],[],0⟩:=
 ⟨F,E,.slice none 0 0,.slice none 0 0,heap_alloc_new _ _,World.ownsRow_nil _ _ _ _,World.ownsRow_nil _ _ _ _,.inl rfl,(fun g e=>by cases e),(fun g e=>by cases e)⟩
def UpA (w:World)(U:US)(e:Ending)(w':World):Prop:=Below w.heap.size w w'/\((U.e=0/\∃ov kv,e=.returned (.tuple #[ov,.int .i64 (((U.p+7)/8:Nat):Int),kv,.int .i64 0])/\w'.ownsRow w.heap.size 5 1 ov U.out.length (u8s U.out))\/ (U.e≠0/\e=.returned (.tuple #[.slice none 0 0,.int .i64 0,.slice none 0 0,.int .i64 U.e])))
theorem Wq (a:Option Addr)(E ao:Nat)(bs:List Nat)(w:World)(a0:bs.length=E)(as:E<=25000)(au:BytesIn w a bs)(az:∀j,bs.getD j 0<256)(O:US)(aq:Oh (rowB bs E)=O):
 Calls Tryz.prog 39 #[.slice a E ao] w fun e w'=>UpA w O e w':=by
 have av:=Ab (LX a E ao bs w a0 az as au);have ba:=Af bs E;have a9:Hid (Dc (rowB bs E) ((rowB bs E).length+1) ⟨0,[],[],0⟩=O):=Ab aq;clear au az aq;go_enter Tryz.func39,Tryz.ntmps39
 go_wp2_with fail
 refine(Aa av).mono ?_;rintro e ab ⟨rfl,ak⟩;have be:=Ab ak;have ax:=ak.size;clear ak;have an:Hid (UIs (fun g=>g<w.heap.size) w.heap.size (ab.alloc (.cells #[.string (text (rowB bs E)),.int .i64 0,.slice none 0 0,.slice none 0 0,.int .i64 0] 110)) ab.heap.size (rowB bs E) ⟨0,[],[],0⟩):=Ab (UIs.fresh _ _ ab _ ax (by omega));have af:=Ab ((Aa be).alloc ax (.cells #[.string (text (rowB bs E)),.int .i64 0,.slice none 0 0,.slice none 0 0,.int .i64 0] 110));generalize text (rowB bs E)=a7 at*;go_wp2;obtain⟨W2,aw⟩:=exq (ab.alloc (.cells #[.string a7,.int .i64 0,.slice none 0 0,.slice none 0 0,.int .i64 0] 110));obtain⟨b,hb⟩:=exq (ab.heap.size);rw[aw]at an af ⊢;rw[hb]at an ⊢;have bk:w.heap.size<=b:=by omega
 have bq:=(Aa af).size;clear aw av;go_loopw [12] (fun _ wr=>∃(F:Nat) (x:US),Hid (Dc (rowB bs E) F x=O)/\Hid ((rowB bs E).length<x.p+F/\x.p<=(rowB bs E).length/\x.out.length<=3000/\x.ks.length<=x.p)/\Hid (UUp (fun g=>g<w.heap.size) w.heap.size W2 b (rowB bs E) x wr)) (fun _ wr=>Z16 E b wr)
 case atStart=>exact⟨(rowB bs E).length+1,⟨0,[],[],0⟩,a9,Ab ⟨by simp only;omega,VH _,VH _,VH _⟩,Ab (UUp.refl (Aa an))⟩
 case round=>
  obtain⟨F,x,ah,I,U⟩:=hrel
  cases F with
  |zero=>exact absurd (Aa I).1 (by have:=(Aa I).2.1;omega)
  |succ F=>
   obtain⟨t,y,T⟩:∃t y,Eh (rowB bs E) x=(t,y):=⟨_,_,rfl⟩
   have Y:Hid (Calls Tryz.prog 61 #[.pointer (some ⟨b,0,none⟩)] wr fun e w'=>e=.returned (.bool t)/\UUp (fun g=>g<w.heap.size) w.heap.size wr b (rowB bs E) y w'):=Ab (JJ (fun g=>g<w.heap.size) w.heap.size b E bs x wr (Aa U).is a0 as (by have:=(Aa I).2.1;omega) (Aa I).2.2.1 (by have bm:=(Aa I).2.1;have bn:=(Aa I).2.2.2;omega) (fun g ae=>by have:=(Aa U).below.size;omega) (t,y) T);have Z:Dc (rowB bs E) (F+1) x=if t=false/\y.e=0 then Dc (rowB bs E) F y else y:=by rw[Dc,T]
   rw[Aa ah]at Z
   by_cases G:y.e=0
   . have ae:=Qb (row:=rowB bs E) (u:=x) (by rw[T];exact G);rw[T]at ae;obtain⟨ay,ai,a5,a2,aj⟩:=ae.ahead;simp only at ay ai a2 aj
     obtain⟨a6,bd,ap,bj⟩:=Aa I;have aa:Hid (((rowB bs E).length<y.p+F/\y.p<=(rowB bs E).length/\y.out.length<=3000/\y.ks.length<=y.p)/\x.p<y.p):=Ab ⟨⟨by omega,ai,aj ap,by omega⟩,by omega⟩;have al:=Ab Z.symm;clear ay ai a5 a2 aj ah I Z ae a6 bd ap bj T
     cases t with
     |false=>
      go_wp2_with fail
      refine(Aa Y).mono ?_;rintro e w3 ⟨rfl,M⟩;have H:=Ab ((Aa U).trans M);clear M;obtain⟨_,_,ac,_⟩:=(Aa H).is.cell;rw[G]at ac;go_wp2;go_roundw
      case rel=>exact⟨F,y,Ab (by have:=Aa al;simpa[G]using this),Ab (Aa aa).1,H⟩
      case measure=>
       rw[Jz (Aa U).is,Jz (Aa H).is];have b2:=(Aa aa).1.2.1;have b0:=(Aa aa).2;rw[ba]at b2;omega
     |true=>
      have am:y=O:=by have:=Aa al;simpa using this
      subst am;clear al;go_wp2_with fail
      refine(Aa Y).mono ?_;rintro e w3 ⟨rfl,M⟩;have H:=Ab ((Aa U).trans M);clear M Y;obtain⟨_,bv,ac,_⟩:=(Aa H).is.cell;rw[G]at ac;obtain⟨ov,kv,bw,bo,_,ag,a1,_⟩:=(Aa H).is.rows;have bc:=Ab (Pa ag (B':=w.heap.size) (by omega));have bg:=Ab ((Aa af).trans (Aa H).below);have bz:y.p<=200000:=by have:=(Aa aa).1.2.1;omega
      obtain⟨a8,bf,rfl⟩:=An ag;obtain⟨a3,a4,rfl⟩:=An a1;have bh:Hid (((y.p:Int)+7)/8=(((y.p+7)/8:Nat):Int)):=Ab (by omega);clear ag a1 aa;go_wp2;go_region
      all_goals go_wp2
      refine bodyPost_ret (v:=.tuple #[.slice a8 y.out.length bf,.int .i64 (((y.p:Int)+7)/8),.slice a3 y.ks.length a4,.int .i64 0]) ?_ rfl ⟨(Aa bg).drew,.inl ⟨G,_,_,by rw[Aa bh],(Aa bc).drew⟩⟩
      first|rfl|kernel_rfl
   . have am:y=O:=by rw[Z,if_neg (fun h=>G h.2)]
     subst am;have bu:(y.e==0)=false:=by rw[beq_eq_false_iff_ne];exact G
     have bt:(y.e !=0)=true:=by simp only[bne_iff_ne,ne_eq];exact G
     have ar:Hid (∀W,UUp (fun g=>g<w.heap.size) w.heap.size W2 b (rowB bs E) y W->UpA w y (.returned (.tuple #[.slice none 0 0,.int .i64 0,.slice none 0 0,.int .i64 y.e])) W.drew):=Ab (fun W h=>⟨((Aa af).trans h.below).drew,.inr ⟨G,rfl⟩⟩);clear ah I Z T G
     cases t
     all_goals
      go_wp2_with fail
      refine(Aa Y).mono ?_;rintro e w3 ⟨rfl,M⟩;have H:=Ab ((Aa U).trans M);clear M Y;obtain⟨_,_,ac,_⟩:=(Aa H).is.cell;have bi:=Ab (Aa ar w3 (Aa H));clear ar;generalize y.e=bb at*;go_wp2;go_region
      all_goals go_wp2
      refine bodyPost_ret (v:=.tuple #[.slice none 0 0,.int .i64 0,.slice none 0 0,.int .i64 bb]) ?_ rfl (Aa bi)
      first|rfl|kernel_rfl
theorem Z39:UnC True:=by
 intro W a n c pk hl hn O I _;refine(Wq a n c pk W hl (by omega) O (Er I) _ rfl).mono ?_;rintro e w' ⟨G,(⟨E,ov,kv,rfl,M⟩|⟨E,rfl⟩)⟩
 . obtain⟨F,H,rfl,k1,k2,U,T⟩:=Ve M;exact⟨G,.inl ⟨E,F,H,kv,rfl,⟨F,H,rfl,k2,k1⟩,T⟩⟩
 . exact⟨G,.inr ⟨E,rfl⟩⟩
end Go.Proofs.YtleocpdblhbimaaGreatDoor
