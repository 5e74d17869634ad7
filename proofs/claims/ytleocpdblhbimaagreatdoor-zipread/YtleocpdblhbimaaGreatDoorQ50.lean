import Derived.Test.YtleocpdblhbimaaGreatDoorQ49
import Derived.Deep.RegionHeld3
import Derived.Test.YtleocpdblhbimaaGreatDoorQ10
set_option linter.unusedSimpArgs false
set_option linter.unusedVariables false
set_option maxRecDepth 100000
set_option maxHeartbeats 8000000
namespace Go.Proofs.YtleocpdblhbimaaGreatDoor
open Go.RowKit
theorem O4 (No:Nat->Prop)(B b E:Nat)(bs:List Nat)(u:US)(w:World)(h:UIs No B w b (rowB bs E) u)(b4:bs.length=E)(b8:E<=25000)(o4:u.p<=8*E)(e1:u.out.length<=3000)(dd:u.ks.length<=200000)(db:∀g,w.heap.size<=g->¬No g)(l k:Nat)(bi ar G:US)(ay:uget (rowB bs E) 1 u=(l,bi))(ax:uget (rowB bs E) 2 bi=(k,ar))(cv:ar.e=0)(bw:k=1\/k=2)(LA LB:List Int)(O:uopen (rowB bs E) k ar=((LA,LB),G))(V:US)(gd:utok (rowB bs E) LA LB (rowB bs E).length G=V)(b3:Bool×US)(bu:(if G.e≠0 then (true,G)else (decide (l=1),ukept k V))=b3):Calls Tryz.prog 61 #[.pointer (some ⟨b,0,none⟩)] w fun e w'=>BkA No B w b (rowB bs E) b3 e w':=by
 have bk:=Ab bu;clear bu;obtain⟨hq,hi,ly,nq,ik⟩:=info_parts Bv;have oj:=Af bs E;have fj:(rowB bs E).length<=200000:=om;have lr:u.p<=(rowB bs E).length:=om;obtain⟨hu,eu,cm,cy,kz⟩:=Bn ax cv;obtain⟨ix,mr,ck,cu,_⟩:=Bn ay kz;(have di:G.e=0->Good LA/\Good LB/\G.p<=(rowB bs E).length/\1<=G.p/\G.out.length<=3000/\G.ks=u.ks:=fun al=>by rcases bw with rfl|rfl;unfold uopen at O;rw[if_pos rfl]at O;obtain⟨ap,rfl⟩:=VN O;obtain⟨rfl,rfl⟩:=VN ap;exact⟨PO,PN,eu,om,by rw[cm,ck];exact e1,cy.trans cu⟩;unfold uopen at O;rw[if_neg od,if_pos rfl]at O;obtain⟨m0,n0,c0,oc,og,bz,us,o9,oi,a2⟩:=Hd O al;obtain⟨o5,lw,ht,gq⟩:=Pu a2 eu;exact⟨Ch (by rw[a2.ea];exact a2.ca),Ch (by rw[a2.ec];exact a2.cc),lw,om,by rw[ht,cm,ck];exact e1,gq.trans (cy.trans cu)⟩);have H:=Ab h;have fy:=Ab db;have fm:=Ab ay;have gg:=Ab ax;have bd:=Ab di;have a6:=Ab O;have a3:=Ab gd;have l3:=Ab dd;have hw:=mr;have ee:ar.p<=8*E:=om;clear h db ay ax di O gd ix hu cy cu cm ck dd;go_enter Tryz.func61,Tryz.ntmps61;go_wp2_with fail;refine(Hm No B b 1 _ u w (Aa H) om fj lr l bi (Aa fm)).mono ?_;rintro e lj ⟨rfl,de⟩;have cg:=Ab de;clear de;go_wp2_with fail;refine(Hm No B b 2 _ bi lj (Aa cg).is om fj hw k ar (Aa gg)).mono ?_;rintro e f6 ⟨rfl,f9⟩;have az:=Ab ((Aa cg).trans f9);clear f9 cg;obtain⟨_,_,gi,_⟩:=(Aa az).is.cell;rw[cv]at gi;clear fm gg H;go_upto_block 0 with fail;go_cut [3,4,5,6] (fun bz ci mz hs wc=>∃bj bn ce bq bm cq,bz=.int .i64 (l:Int)/\ci=.int .i64 (k:Int)/\mz=.slice bj bn ce/\hs=.slice bq bm cq/\Hid (UUp No B w b (rowB bs E) G wc)/\Hid (G.e=0->LA.length=bn/\LB.length=bm/\RowIn .i64 wc bj LA/\RowIn .i64 wc bq LB));(case first=>rcases bw with rfl|rfl;(. have O:=Aa a6;unfold uopen at O;rw[if_pos rfl]at O;obtain⟨ap,au⟩:=VN O;obtain⟨ff,df⟩:=VN ap;have ep:=Ab au;have e0:=Ab ff;have fo:=Ab df;clear O ap au ff df a6 bd a3;go_wp2_with fail;refine(PI f6).mono ?_;rintro e w3 ⟨hg,ce,nf,rfl,ow,oo,a4,bh,eg⟩;have Z:Hid (UUp No B w b (rowB bs E) G w3):=Ab (by rw[<-Aa ep];exact(Aa az).trans (((UUp.refl (Aa az).is.opened).newer (VB _) eg).closed));have ae:Hid (G.e=0->LA.length=288/\LB.length=32/\RowIn .i64 w3 (some ⟨hg,0,none⟩) LA/\RowIn .i64 w3 (some ⟨nf,0,none⟩) LB):=Ab (fun _=>by rw[<-Aa e0,<-Aa fo];exact⟨rfl,rfl,a4,bh⟩);clear a4 bh eg ep e0 fo;go_wp2;go_meet;exact⟨_,_,_,_,_,_,rfl,rfl,rfl,rfl,Z,ae⟩);. have O:=Aa a6;unfold uopen at O;rw[if_neg od,if_pos rfl]at O;have e4:=Ab (TJ No B b E bs ar f6 (Aa az).is b4 b8 ee _ O);clear O a6 bd a3;go_wp2_with fail;refine(Aa e4).mono ?_;rintro e w3 ⟨c9,bu⟩;have Z:=Ab ((Aa az).trans c9);clear c9 e4;(rcases bu with ⟨b5,rfl⟩|⟨pi,c1,ob,c2,kq,rfl,dc,ey⟩);(. have ae:Hid (G.e=0->LA.length=0/\LB.length=0/\RowIn .i64 w3 none LA/\RowIn .i64 w3 none LB):=Ab (fun l8=>absurd l8 b5);clear b5;go_wp2;go_meet;exact⟨_,_,_,_,_,_,rfl,rfl,rfl,rfl,Z,ae⟩);. have ae:=Ab (And.intro dc ey);clear kq dc ey;go_wp2;go_meet;exact⟨_,_,_,_,_,_,rfl,rfl,rfl,rfl,Z,Ab (fun _=>⟨rfl,rfl,(Aa ae).1,(Aa ae).2⟩)⟩);case rest=>
 rename World=>w3
 obtain⟨bj,bn,ce,bq,bm,cq,rfl,rfl,rfl,rfl,Z,ae⟩:=hcut
 obtain⟨_,_,f7,_⟩:=(Aa Z).is.cell
 clear az gi a6 ee
 by_cases al:G.e≠0
 . have b5:(G.e !=0)=true:=by simp only[bne_iff_ne,ne_eq];exact al
   have mm:Hid (BkA No B w b (rowB bs E) b3 (.returned (.bool true)) w3):=Ab (by rw[<-Aa bk,if_pos al];exact⟨rfl,Aa Z⟩)
   clear al bd ae a3 bk
   generalize G.e=en at*
   go_wp2
   go_ret
   exact Aa mm
 have b7:G.e=0:=om
 have lq:Hid ((decide (l=1),ukept k V)=b3):=Ab (by rw[<-Aa bk,if_neg al])
 obtain⟨fg,e9,a4,bh⟩:=Aa ae b7
 obtain⟨dq,dh,fi,je,ei,ed⟩:=Aa bd b7
 have fk:=Ab a4
 have dm:=Ab bh
 have c6:=Ab dq
 have c5:=Ab dh
 rw[b7]at f7
 clear al ae bd a4 bh dq dh bk
 go_wp2_with fail
 refine(LS w3).mono ?_
 rintro e du ⟨g1,o6,g2,pf,rfl,ay,ax,gh,fp,cz,dp,d9⟩
 have j5:=cz.size
 have dw:=Ab gh
 have dj:=Ab fp
 have bv:=Ab cz
 clear gh fp cz
 have fx:=Ab ((Aa fk).below (Aa bv) (VB _))
 go_wp2_with fail
 refine(Jm bj bn ce LA du fg (Aa fx) (Aa c6)).mono ?_
 rintro e dn ⟨e6,i3,rfl,g7,ct,cj⟩
 have lu:=cj.size
 have d5:=Ab ct
 have bf:=Ab cj
 have ip:=ct.lt
 clear ct cj
 have eh:=Ab (((Aa dm).below (Aa bv) (VB _)).below (Aa bf) (VB _))
 go_wp2_with fail
 refine(Jm bq bm cq LB dn e9 (Aa eh) (Aa c5)).mono ?_
 rintro e w6 ⟨mB,h1,rfl,j8,c7,a1⟩
 have eb:=a1.size
 have dt:=Ab c7
 have nr:=c7.lt
 have f3:=Ab (Wc (Aa d5) a1 ip)
 have ku:=Ab (Lr (Lr (Aa dw) (Aa bf) dp) a1 om)
 have k0:=Ab (Lr (Lr (Aa dj) (Aa bf) d9) a1 om)
 have cp:Below w3.heap.size w3 w6:=(Aa bv).trans (((Aa bf).mono om).trans (a1.mono om))
 have ds:Hid (UUp No B w b (rowB bs E) G w6):=Ab ((Aa Z).trans (((UUp.refl (Aa Z).is.opened).newer (VB _) cp).closed))
 obtain⟨N,ej⟩:=exq (w3.heap.size)
 obtain⟨M,da⟩:=exq (w6.heap.size)
 have mn:b<N:=by have:=(Aa Z).is.lt;omega
 have f8:Hid (UIs (N2 No N M) B w6 b (rowB bs E) G):=Ab ((((Aa Z).is.opened).newer cp).more (fun e=>by rcases e with e|e;exact(Aa ds).is.no e;omega) (fun g cd=>by rw[ej];rcases cd with e|e;exact .inl (.inl e);exact .inl (.inr e.1)))
 rw[ej]at ay ax j5
 rw[da]at eb nr
 have oy:w.heap.size<=N:=by have:=(Aa Z).below.size;omega
 have fe:Hid (∀W:World,w6.heap.size<=W.heap.size->∀g,W.heap.size<=g->¬N2 No N M g):=Ab (fun W I g cd e=>by
  rcases e with e|e
  . exact Aa fy g om e
  . omega)
 have dx:Hid (TkI (rowB bs E) u.ks (rowB bs E).length G):=Ab ⟨fun _=>om,fi,ei,ed⟩
 have mj:Hid (∀(W:World) (x:US),UUp (N2 No N M) B w6 b (rowB bs E) x W->x.p<=(rowB bs E).length->Calls Tryz.prog 98 #[.pointer (some ⟨b,0,none⟩),.map (some e6)] W fun e w'=>e=.returned (.int .i64 ((uplace LA (rowB bs E) x).1:Int))/\UUp (N2 No N M) B W b (rowB bs E) (uplace LA (rowB bs E) x).2 w'):=Ab (fun W x I au=>Km (N2 No N M) B b e6 i3 E LA bs x W I.is (Aa c6) b4 b8 om (I.book2 (by rw[fg];exact Aa f3) om om) om)
 have iy:Hid (∀(W:World) (x:US),UUp (N2 No N M) B w6 b (rowB bs E) x W->x.p<=(rowB bs E).length->Calls Tryz.prog 98 #[.pointer (some ⟨b,0,none⟩),.map (some mB)] W fun e w'=>e=.returned (.int .i64 ((uplace LB (rowB bs E) x).1:Int))/\UUp (N2 No N M) B W b (rowB bs E) (uplace LB (rowB bs E) x).2 w'):=Ab (fun W x I au=>Km (N2 No N M) B b mB h1 E LB bs x W I.is (Aa c5) b4 b8 om (I.book2 (by rw[e9];exact Aa dt) om om) om)
 clear c7 a1 cp bv bf d5 dw dj fk dm fx eh Z f7 fi je ei ed c6 c5 f3 dt
 go_upto_block 3 with fail
 go_cut [3,4] (fun bz ci wc=>bz=.int .i64 (l:Int)/\ci=.int .i64 (k:Int)/\Hid (UUp No B w b (rowB bs E) V wc)/\Hid (V.ks=u.ks))
 case first=>
  have ba:Hid (∀(W:World) (x:US),x=V->x.ks=u.ks->UUp (N2 No N M) B w6 b (rowB bs E) x W->UUp No B w b (rowB bs E) V W/\V.ks=u.ks):=Ab (fun W x au bw I=>by subst au;exact⟨(Aa ds).trans I.closed2,bw⟩)
  clear cv g7 j8 b7
  go_wp2_with fail
  go_loopw [14] (fun ew wr=>∃(F:Nat) (x:US),Hid (utok (rowB bs E) LA LB F x=V)/\Hid (TkI (rowB bs E) u.ks F x)/\Hid (UUp (N2 No N M) B w6 b (rowB bs E) x wr)) (fun _ wr=>Z16 E b wr)
  case atStart=>exact⟨(rowB bs E).length,G,a3,dx,Ab (UUp.refl (Aa f8))⟩
  case round=>
   obtain⟨F,x,ag,ah,I⟩:=hrel
   obtain⟨_,_,gz,_⟩:=(Aa I).is.cell
   clear a3 dx f8
   by_cases co:x.e≠0
   . have pg:(x.e==0)=false:=by rw[beq_eq_false_iff_ne];exact co
     have et:=Aa ba wr x (by have:=Aa ag;rw[SR _ _ _ _ _ co]at this;exact this) (Aa ah).2.2.2 (Aa I)
     have T:=Ab et
     clear et co ag ah
     generalize x.e=en at*
     go_wp2
     go_meet
     exact⟨rfl,rfl,Ab (Aa T).1,Ab (Aa T).2⟩
   have ao:x.e=0:=om
   rw[ao]at gz
   obtain⟨a9,e8,nh,i7⟩:=Aa ah
   have a8:=a9 ao
   cases F with
   |zero=>exact absurd a8 om
   |succ F=>
   obtain⟨kk,y1,ac⟩:∃kk y1,uplace LA (rowB bs E) x=(kk,y1):=⟨_,_,rfl⟩
   have o1:=Wp LA (rowB bs E) x e8
   rw[ac]at o1
   obtain⟨f4,f5,kc,fq⟩:=o1
   simp only at f4 f5 kc fq
   have ak:=Aa ag
   have aa:=Ab (Aa mj wr x (Aa I) e8)
   rw[ac]at aa
   have e7:y1.out.length<=3000:=by rw[f4];exact nh
   have b9:y1.ks=u.ks:=f5.trans i7
   by_cases a7:y1.e≠0
   . have b5:(y1.e !=0)=true:=by simp only[bne_iff_ne,ne_eq];exact a7
     have aj:y1=V:=by rw[<-ak,Nb ao ac (false,y1) (by rw[if_pos (Or.inl a7)])];rfl
     clear ak ag ah a9 a8
     go_wp2_with fail
     refine(Aa aa).mono ?_
     rintro e ai ⟨rfl,U⟩
     have T:=Ab (Aa ba ai y1 aj b9 ((Aa I).trans U))
     obtain⟨_,_,aw,_⟩:=U.is.cell
     clear U aj a7 aa
     generalize y1.e=en at*
     go_wp2
     go_meet
     exact⟨rfl,rfl,Ab (Aa T).1,Ab (Aa T).2⟩
   have bb:y1.e=0:=om
   have cd:=(Cn ac bb).1
   by_cases k3:kk=256
   . subst k3
     have aj:y1=V:=by rw[<-ak,Nb ao ac (false,y1) (by rw[if_pos (Or.inr rfl)])];rfl
     clear ak ag ah a9 a8
     go_wp2_with fail
     refine(Aa aa).mono ?_
     rintro e ai ⟨rfl,U⟩
     have T:=Ab (Aa ba ai y1 aj b9 ((Aa I).trans U))
     obtain⟨_,_,aw,_⟩:=U.is.cell
     rw[bb]at aw
     clear U aj aa
     go_wp2
     go_meet
     exact⟨rfl,rfl,Ab (Aa T).1,Ab (Aa T).2⟩
   have ot:((kk:Int)==256)=false:=by rw[beq_eq_false_iff_ne];omega
   have bo:¬(y1.e≠0\/kk=256):=om
   by_cases eo:kk<256
   . have dy:utok (rowB bs E) LA LB F (Fd kk y1)=V:=by rw[<-ak,Nb ao ac (true,Fd kk y1) (by rw[if_neg bo,if_pos eo])];rfl
     have ko:=Ab dy
     have av:=BA kk y1
     have nx:Hid (TkI (rowB bs E) u.ks F (Fd kk y1)):=Ab ⟨fun _=>by rw[av.2.2];omega,by rw[av.2.2];exact fq,av.1 e7,av.2.1.trans b9⟩
     have i4:=Ab av.2.2
     have ie:(kk:Int)<256:=om
     clear ak ag ah a9 a8 dy av bo ac
     go_wp2_with fail
     refine(Aa aa).mono ?_
     rintro e ai ⟨rfl,U⟩
     have af:=Ab ((Aa I).trans U)
     clear U aa
     obtain⟨_,_,aw,_⟩:=(Aa af).is.cell
     rw[bb]at aw
     have h7:=(Aa af).below.size
     go_wp2_with fail
     refine(S8 (N2 No N M) B b kk _ y1 ai (Aa af).is e7 (Aa fe ai h7)).mono ?_
     rintro e d6 ⟨rfl,a5⟩
     have ek:=Ab ((Aa af).trans a5)
     clear a5
     go_wp2
     go_roundw
     case rel=>exact⟨F,_,ko,nx,ek⟩
     case measure=>
      rw[Jz (Aa I).is,Jz (Aa ek).is,Aa i4]
      omega
   have ny:¬(kk:Int)<256:=om
   by_cases hk:285<kk
   . have aj:Am 8 y1=V:=by rw[<-ak,Nb ao ac (false,Am 8 y1) (by rw[if_neg bo,if_neg eo,if_pos hk])];rfl
     have ft:=Om 8 y1
     have cw:Hid ((Am 8 y1).ks=u.ks):=Ab (ft.2.1.trans b9)
     have h6:=Ab aj
     have ie:(285:Int)<(kk:Int):=om
     clear ak ag ah a9 a8 aj ft bo ac
     go_wp2_with fail
     refine(Aa aa).mono ?_
     rintro e ai ⟨rfl,U⟩
     have af:=Ab ((Aa I).trans U)
     clear U aa
     obtain⟨_,_,aw,_⟩:=(Aa af).is.cell
     rw[bb]at aw
     have nw:=Ab (Dn (N2 No N M) B b (rowB bs E) y1 8 ai (Aa af).is)
     go_wp2_with fail
     refine(Aa nw).mono ?_
     rintro e d6 ⟨rfl,a5⟩
     have T:=Ab (Aa ba d6 _ (Aa h6) (Aa cw) ((Aa af).trans a5))
     clear a5
     go_wp2
     go_meet
     exact⟨rfl,rfl,Ab (Aa T).1,Ab (Aa T).2⟩
   refine TM (No:=No) (B:=B) (hs4:=du.heap.size) (hs5:=dn.heap.size) (N:=N) (M:=M) (w6:=w6) (ks:=u.ks) (LA:=LA) (LB:=LB) (V:=V) (x:=x) (F:=F) (y1:=y1) (kk:=kk) b4 b8 ay ax dp d9 lu eb da mn ku k0 fe aa iy ao ah ag ac bb om om I ?_ ?_
   . intro ew nt gu j6 jb ia il mg k7 ii m8 mo im ja g0 jw jh kt jc iz i6 i5 g8 ml j3 j1 hx j7 h2 mq ig h5 g5 jr kh nc nl iw h9 jk j0 g9 jm i0 l6 i1 lv lg l0 h0 gw mh m9 ha np l9 km l4 kj j9 hj ll ng iq jp k5 m6 ib hz m7 iu hf gy mp h8 kx g4 js li lz l7 kg lm k8 h4 nk jo m5 i9 ir k6 jg mx hp jv na j4 m4 nv ky ma jf jt ji gn lk jj k9 nu ka nj mi lh ij gx ki mw md ho lf jz jl w' Y m3 em gv d7
     dsimp only
     go_roundw
     case rel=>exact⟨F,Y,m3,em,d7⟩
     case measure=>
      rw[Jz (Aa I).is,Jz (Aa d7).is]
      have:=Aa gv
      have:=(Aa em).2.1
      omega
   . intro ew nt gu j6 jb ia il mg k7 ii m8 mo im ja g0 jw jh kt jc iz i6 i5 g8 ml j3 j1 hx j7 h2 mq ig h5 g5 jr kh nc nl iw h9 jk j0 g9 jm i0 l6 i1 lv lg l0 h0 gw mh m9 ha np l9 km l4 kj j9 hj ll ng iq jp k5 m6 ib hz m7 iu hf gy mp h8 kx g4 js li lz l7 kg lm k8 h4 nk jo m5 i9 ir k6 jg mx hp jv na j4 m4 nv ky ma jf jt ji gn lk jj k9 nu ka nj mi lh ij gx ki mw md ho lf jz jl w' y a7 h3 jq
     have T:=Ab (Aa ba w' y a7 h3 jq)
     dsimp only
     go_wp2_with fail
     go_meet
     exact⟨rfl,rfl,Ab (Aa T).1,Ab (Aa T).2⟩
 case rest=>rename World=>jy;obtain⟨rfl,rfl,bg,nb⟩:=hcut;obtain⟨ov,kv,_,o0,ap,fw,bc,dv,d8,e5⟩:=(Aa bg).is.rows;obtain⟨fu,b0⟩:=exq (V.ks.length);have dz:=bc;rw[b0]at bc;obtain⟨oe,o7,rfl⟩:=An bc;have nz:=(Aa bg).below.size;have oq:=(Aa bg).is.lt;(have pd:fu<=200000:=by rw[<-b0,Aa nb];exact Aa l3);have cw:=Ab bc;have k4:=Ab dz;have hh:=Ab fw;have hv:=Ab ap;have mc:=Ab dv;have ju:=Ab d8;have ic:=Ab e5;have l5:=Ab b0;have c8:=Ab (Aa bg).is;clear bc dz fw ap dv d8 e5 b0;go_wp2_with (at_builtin;refine wpList_append_own_at _ rfl (.tmp 239) (.tmp 241) 76 rfl (b+1) 3 hq (.int .i64 0) 1 8 Tryz.underlying76 hi ly nq ik rfl od _ fu (i64s V.ks) rfl ((Aa cw).alloc _) ⟨jy.heap.size,0,none⟩ 1 1 [.int .i64 (k:Int)] rfl rfl (cell_one_new _ _ _) (Bc rfl) ou om oO ?_);intro v' oa cn dl _ fh;obtain⟨ox,o3,dr⟩:=UIs.keepK (k:=k) (X:=.cells #[.int .i64 (k:Int)] 3) (Aa c8).base (Aa c8).no (Aa hv) (Aa hh) (Aa k4) (Aa mc) (Aa ju) (Aa ic) (fun g cd=>Aa fy g om) (by rw[Aa l5];exact cn) dl (by simpa using fh);obtain⟨n3,oz,rfl,_,_⟩:=Ba cn om;have gj:=Ab ((Aa bg).trans dr);clear cn dl fh dr;go_wp2;go_ret;rw[<-Aa lq];exact⟨by rw[RM];rfl,Aa gj⟩
theorem JJ (No:Nat->Prop)(B b E:Nat)(bs:List Nat)(u:US)(w:World)(T:UIs No B w b (rowB bs E) u)(ag:bs.length=E)(M:E<=25000)(I:u.p<=8*E)(aa:u.out.length<=3000)(ac:u.ks.length<=200000)(ae:∀g,w.heap.size<=g->¬No g)(R:Bool×US)(F:Eh (rowB bs E) u=R):Calls Tryz.prog 61 #[.pointer (some ⟨b,0,none⟩)] w fun e w'=>BkA No B w b (rowB bs E) R e w':=by obtain⟨l,x1,H⟩:∃l x1,uget (rowB bs E) 1 u=(l,x1):=⟨_,_,rfl⟩;obtain⟨k,x2,G⟩:∃k x2,uget (rowB bs E) 2 x1=(k,x2):=⟨_,_,rfl⟩;unfold Eh at F;simp only[H,G]at F;by_cases U:x2.e≠0;rw[if_pos U]at F;subst F;exact JH No B b E bs u w T M I l k x1 x2 H G U;rw[if_neg U]at F;have Z:x2.e=0:=om;by_cases Y:k=0;rw[if_pos Y]at F;subst Y F;exact RH No B b E bs u w T M I aa ac ae l x1 x2 H G Z _ rfl;rw[if_neg Y]at F;by_cases af:3<=k;(have O:uopen (rowB bs E) k x2=(([],[]),Am 4 x2):=by unfold uopen;rw[if_neg om,if_neg om]);rw[O]at F;simp only at F;rw[if_pos (Bm od)]at F;subst F;exact JI No B b E bs u w T M I l k x1 x2 H G Z af;obtain⟨LA,LB,x3,O⟩:∃LA LB x3,uopen (rowB bs E) k x2=((LA,LB),x3):=⟨_,_,_,rfl⟩;rw[O]at F;exact O4 No B b E bs u w T ag M I aa ac ae l k x1 x2 x3 H G Z om LA LB O _ rfl R F
theorem UIs.fresh (No:Nat->Prop)(B:Nat)(w:World)(row:List Bool)(E:B<=w.heap.size)(F:¬No w.heap.size):
 UIs No B (w.alloc (.cells #[.string (text row),.int .i64 0,.slice none 0 0,.slice none 0 0,.int .i64 0] 110)) w.heap.size row ⟨0,[],[],0⟩:=
 ⟨E,F,.slice none 0 0,.slice none 0 0,heap_alloc_new _ _,World.ownsRow_nil _ _ _ _,World.ownsRow_nil _ _ _ _,.inl rfl,(fun g e=>by cases e),(fun g e=>by cases e)⟩
def UpA (w:World)(U:US)(e:Ending)(w':World):Prop:=Below w.heap.size w w'/\((U.e=0/\∃ov kv,e=.returned (.tuple #[ov,.int .i64 (((U.p+7)/8:Nat):Int),kv,.int .i64 0])/\w'.ownsRow w.heap.size 5 1 ov U.out.length (u8s U.out))\/ (U.e≠0/\e=.returned (.tuple #[.slice none 0 0,.int .i64 0,.slice none 0 0,.int .i64 U.e])))
theorem Wq (a:Option Addr)(E a5:Nat)(bs:List Nat)(w:World)(ax:bs.length=E)(a4:E<=25000)(a7:BytesIn w a bs)(a2:∀j,bs.getD j 0<256)(O:US)(a8:Oh (rowB bs E)=O):Calls Tryz.prog 39 #[.slice a E a5] w fun e w'=>UpA w O e w':=by
 have a1:=Ab (LX a E a5 bs w ax a2 a4 a7);have bb:=Af bs E;have bu:Hid (Dc (rowB bs E) ((rowB bs E).length+1) ⟨0,[],[],0⟩=O):=Ab a8;clear a7 a2 a8;go_enter Tryz.func39,Tryz.ntmps39;go_wp2_with fail;refine(Aa a1).mono ?_;rintro e Z ⟨rfl,ah⟩;have bv:=Ab ah;have a3:=ah.size;clear ah;have aj:Hid (UIs (fun g=>g<w.heap.size) w.heap.size (Z.alloc (.cells #[.string (text (rowB bs E)),.int .i64 0,.slice none 0 0,.slice none 0 0,.int .i64 0] 110)) Z.heap.size (rowB bs E) ⟨0,[],[],0⟩):=Ab (UIs.fresh _ _ Z _ a3 om);have af:=Ab ((Aa bv).alloc a3 (.cells #[.string (text (rowB bs E)),.int .i64 0,.slice none 0 0,.slice none 0 0,.int .i64 0] 110));generalize text (rowB bs E)=bg at*;go_wp2;obtain⟨W2,ay⟩:=exq (Z.alloc (.cells #[.string bg,.int .i64 0,.slice none 0 0,.slice none 0 0,.int .i64 0] 110));obtain⟨b,hb⟩:=exq (Z.heap.size);rw[ay]at aj af ⊢;rw[hb]at aj ⊢;have b3:w.heap.size<=b:=om;have ce:=(Aa af).size;clear ay a1;go_loopw [12] (fun _ wr=>∃(F:Nat) (x:US),Hid (Dc (rowB bs E) F x=O)/\Hid ((rowB bs E).length<x.p+F/\x.p<=(rowB bs E).length/\x.out.length<=3000/\x.ks.length<=x.p)/\Hid (UUp (fun g=>g<w.heap.size) w.heap.size W2 b (rowB bs E) x wr)) (fun _ wr=>Z16 E b wr);case atStart=>exact⟨(rowB bs E).length+1,⟨0,[],[],0⟩,bu,Ab ⟨by simp only;omega,VH _,VH _,VH _⟩,Ab (UUp.refl (Aa aj))⟩
 case round=>
  obtain⟨F,x,al,I,T⟩:=hrel
  cases F with
  |zero=>exact absurd (Aa I).1 (by have:=(Aa I).2.1;omega)
  |succ F=>
   obtain⟨t,y,U⟩:∃t y,Eh (rowB bs E) x=(t,y):=⟨_,_,rfl⟩;have ac:Hid (Calls Tryz.prog 61 #[.pointer (some ⟨b,0,none⟩)] wr fun e w'=>e=.returned (.bool t)/\UUp (fun g=>g<w.heap.size) w.heap.size wr b (rowB bs E) y w'):=Ab (JJ (fun g=>g<w.heap.size) w.heap.size b E bs x wr (Aa T).is ax a4 (by have:=(Aa I).2.1;omega) (Aa I).2.2.1 (by have b9:=(Aa I).2.1;have b4:=(Aa I).2.2.2;omega) (fun g ag=>by have:=(Aa T).below.size;omega) (t,y) U);(have aa:Dc (rowB bs E) (F+1) x=if t=false/\y.e=0 then Dc (rowB bs E) F y else y:=by rw[Dc,U]);rw[Aa al]at aa;by_cases H:y.e=0
   . have ag:=Qb (row:=rowB bs E) (u:=x) (by rw[U];exact H);rw[U]at ag;obtain⟨a6,ak,bh,av,ai⟩:=ag.ahead;simp only at a6 ak av ai;obtain⟨bc,bj,aw,bf⟩:=Aa I;have Y:Hid (((rowB bs E).length<y.p+F/\y.p<=(rowB bs E).length/\y.out.length<=3000/\y.ks.length<=y.p)/\x.p<y.p):=Ab ⟨⟨om,ak,ai aw,om⟩,om⟩;have ap:=Ab aa.symm;clear a6 ak bh av ai al I aa ag bc bj aw bf U
     cases t with
     |false=>go_wp2_with fail;refine(Aa ac).mono ?_;rintro e w3 ⟨rfl,M⟩;have G:=Ab ((Aa T).trans M);clear M;obtain⟨_,_,ae,_⟩:=(Aa G).is.cell;rw[H]at ae;go_wp2;go_roundw;(case rel=>exact⟨F,y,Ab (by have:=Aa ap;simpa[H]using this),Ab (Aa Y).1,G⟩);case measure=>rw[Jz (Aa T).is,Jz (Aa G).is];have b2:=(Aa Y).1.2.1;have b7:=(Aa Y).2;rw[bb]at b2;omega
     |true=>(have ar:y=O:=by have:=Aa ap;simpa using this);subst ar;clear ap;go_wp2_with fail;refine(Aa ac).mono ?_;rintro e w3 ⟨rfl,M⟩;have G:=Ab ((Aa T).trans M);clear M ac;obtain⟨_,bw,ae,_⟩:=(Aa G).is.cell;rw[H]at ae;obtain⟨ov,kv,cd,b5,_,ao,au,_⟩:=(Aa G).is.rows;have bq:=Ab (Pa ao (B':=w.heap.size) om);have ba:=Ab ((Aa af).trans (Aa G).below);(have bz:y.p<=200000:=by have:=(Aa Y).1.2.1;omega);obtain⟨a9,bi,rfl⟩:=An ao;obtain⟨bk,bo,rfl⟩:=An au;have bd:Hid (((y.p:Int)+7)/8=(((y.p+7)/8:Nat):Int)):=Ab om;clear ao au Y;go_wp2;go_region;(all_goals go_wp2);refine bodyPost_ret (v:=.tuple #[.slice a9 y.out.length bi,.int .i64 (((y.p:Int)+7)/8),.slice bk y.ks.length bo,.int .i64 0]) ?_ rfl ⟨(Aa ba).drew,.inl ⟨H,_,_,by rw[Aa bd],(Aa bq).drew⟩⟩;first|rfl|kernel_rfl
   . (have ar:y=O:=by rw[aa,if_neg (fun h=>H h.2)]);subst ar;(have b8:(y.e==0)=false:=by rw[beq_eq_false_iff_ne];exact H);(have b0:(y.e !=0)=true:=by simp only[bne_iff_ne,ne_eq];exact H);have az:Hid (∀W,UUp (fun g=>g<w.heap.size) w.heap.size W2 b (rowB bs E) y W->UpA w y (.returned (.tuple #[.slice none 0 0,.int .i64 0,.slice none 0 0,.int .i64 y.e])) W.drew):=Ab (fun W h=>⟨((Aa af).trans h.below).drew,.inr ⟨H,rfl⟩⟩);clear al I aa U H;cases t
     all_goals
      go_wp2_with fail
      refine(Aa ac).mono ?_
      rintro e w3 ⟨rfl,M⟩
      have G:=Ab ((Aa T).trans M)
      clear M ac
      obtain⟨_,_,ae,_⟩:=(Aa G).is.cell
      have bm:=Ab (Aa az w3 (Aa G))
      clear az
      generalize y.e=bn at*
      go_wp2
      go_region
      all_goals go_wp2
      refine bodyPost_ret (v:=.tuple #[.slice none 0 0,.int .i64 0,.slice none 0 0,.int .i64 bn]) ?_ rfl (Aa bm)
      first|rfl|kernel_rfl
theorem Z39:UnC True:=by intro W a n c pk hl hn T M _;refine(Wq a n c pk W hl om T (Er M) _ rfl).mono ?_;rintro e w' ⟨G,(⟨E,ov,kv,rfl,I⟩|⟨E,rfl⟩)⟩;obtain⟨F,H,rfl,k1,k2,U,O⟩:=Ve I;exact⟨G,.inl ⟨E,F,H,kv,rfl,⟨F,H,rfl,k2,k1⟩,O⟩⟩;exact⟨G,.inr ⟨E,rfl⟩⟩
end Go.Proofs.YtleocpdblhbimaaGreatDoor
