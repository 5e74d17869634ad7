import Derived.Test.YtleocpdblhbimaaGreatDoorQ49
import Derived.Deep.RegionHeld3
import Derived.Test.YtleocpdblhbimaaGreatDoorQ10
set_option linter.unusedSimpArgs false
set_option maxHeartbeats 8000000
namespace Go.Proofs.YtleocpdblhbimaaGreatDoor
open Go.RowKit
set_option linter.unusedVariables false
set_option maxRecDepth 100000
theorem O4 (No:Nat->Prop)(B b E:Nat)(bs:List Nat)(u:US)(w:World)(h:UIs No B w b (rowB bs E) u)(b7:bs.length=E)(b3:E<=25000)(o0:u.p<=8*E)(f6:u.out.length<=3000)(ew:u.ks.length<=200000)(et:∀g,w.heap.size<=g->¬No g)(l k:Nat)(bi a1 G:US)(av:uget (rowB bs E) 1 u=(l,bi))(ar:uget (rowB bs E) 2 bi=(k,a1))(co:a1.e=0)(bw:k=1\/k=2)(LA LB:List Int)(O:uopen (rowB bs E) k a1=((LA,LB),G))(V:US)(gh:utok (rowB bs E) LA LB (rowB bs E).length G=V)(cd:Bool×US)(b0:(if G.e≠0 then (true,G)else (decide (l=1),ukept k V))=cd):
 Calls Tryz.prog 61 #[.pointer (some ⟨b,0,none⟩)] w fun e w'=>BkA No B w b (rowB bs E) cd e w':=by
 have bk:=Ab b0;clear b0;obtain⟨g8,hi,ml,jr,ll⟩:=info_parts Bv;have o4:=Af bs E;have dy:(rowB bs E).length<=200000:=by omega
 have nh:u.p<=(rowB bs E).length:=by omega
 obtain⟨il,d6,c5,cq,i4⟩:=Bn ar co;obtain⟨kc,m5,ck,cp,_⟩:=Bn av i4
 have dn:G.e=0->Good LA/\Good LB/\G.p<=(rowB bs E).length/\1<=G.p/\G.out.length<=3000/\G.ks=u.ks:=fun ao=>by
  rcases bw with rfl|rfl
  . unfold uopen at O;rw[if_pos rfl]at O;obtain⟨al,rfl⟩:=VN O;obtain⟨rfl,rfl⟩:=VN al;exact⟨PO,PN,d6,by omega,by rw[c5,ck];exact f6,cq.trans cp⟩
  . unfold uopen at O;rw[if_neg (by decide),if_pos rfl]at O;obtain⟨m0,n0,c0,oz,oi,bm,us,o3,ny,bc⟩:=Hd O ao;obtain⟨ob,ig,lz,h5⟩:=Pu bc d6;exact⟨Ch (by rw[bc.ea];exact bc.ca),Ch (by rw[bc.ec];exact bc.cc),ig,by omega,by rw[lz,c5,ck];exact f6,h5.trans (cq.trans cp)⟩
 have H:=Ab h;have dt:=Ab et;have ey:=Ab av;have dp:=Ab ar;have a6:=Ab dn;have a3:=Ab O;have a9:=Ab gh;have ij:=Ab ew;have ly:=m5;have e6:a1.p<=8*E:=by omega
 clear h et av ar dn O gh kc il cq cp c5 ck ew;go_enter Tryz.func61,Tryz.ntmps61
 go_wp2_with fail
 refine(Hm No B b 1 _ u w (Aa H) (by omega) dy nh l bi (Aa ey)).mono ?_;rintro e l8 ⟨rfl,c9⟩;have cn:=Ab c9;clear c9;go_wp2_with fail
 refine(Hm No B b 2 _ bi l8 (Aa cn).is (by omega) dy ly k a1 (Aa dp)).mono ?_;rintro e ee ⟨rfl,f4⟩;have az:=Ab ((Aa cn).trans f4);clear f4 cn;obtain⟨_,_,eo,_⟩:=(Aa az).is.cell;rw[co]at eo;clear ey dp H;go_upto_block 0 with fail
 go_cut [3,4,5,6] (fun bm cj nf hj wc=>∃b4 bo b5 b9 ce c7,bm=.int .i64 (l:Int)/\cj=.int .i64 (k:Int)/\nf=.slice b4 bo b5/\hj=.slice b9 ce c7/\Hid (UUp No B w b (rowB bs E) G wc)/\Hid (G.e=0->LA.length=bo/\LB.length=ce/\RowIn .i64 wc b4 LA/\RowIn .i64 wc b9 LB))
 case first=>
  rcases bw with rfl|rfl
  . have O:=Aa a3;unfold uopen at O;rw[if_pos rfl]at O;obtain⟨al,ay⟩:=VN O;obtain⟨dl,d9⟩:=VN al;have e5:=Ab ay;have fi:=Ab dl;have f3:=Ab d9;clear O al ay dl d9 a3 a6 a9;go_wp2_with fail
    refine(PI ee).mono ?_;rintro e w3 ⟨jg,b5,hp,rfl,o7,oa,bg,bd,gd⟩;have Z:Hid (UUp No B w b (rowB bs E) G w3):=Ab (by rw[<-Aa e5];exact(Aa az).trans (((UUp.refl (Aa az).is.opened).newer (VB _) gd).closed));have ac:Hid (G.e=0->LA.length=288/\LB.length=32/\RowIn .i64 w3 (some ⟨jg,0,none⟩) LA/\RowIn .i64 w3 (some ⟨hp,0,none⟩) LB):=Ab (fun _=>by rw[<-Aa fi,<-Aa f3];exact⟨rfl,rfl,bg,bd⟩);clear bg bd gd e5 fi f3;go_wp2;go_meet
    exact⟨_,_,_,_,_,_,rfl,rfl,rfl,rfl,Z,ac⟩
  . have O:=Aa a3;unfold uopen at O;rw[if_neg (by decide),if_pos rfl]at O;have ep:=Ab (TJ No B b E bs a1 ee (Aa az).is b7 b3 e6 _ O);clear O a3 a6 a9;go_wp2_with fail
    refine(Aa ep).mono ?_;rintro e w3 ⟨eh,b0⟩;have Z:=Ab ((Aa az).trans eh);clear eh ep
    rcases b0 with ⟨bj,rfl⟩|⟨oc,c1,nz,c2,iu,rfl,du,di⟩
    . have ac:Hid (G.e=0->LA.length=0/\LB.length=0/\RowIn .i64 w3 none LA/\RowIn .i64 w3 none LB):=Ab (fun m4=>absurd m4 bj);clear bj;go_wp2;go_meet
      exact⟨_,_,_,_,_,_,rfl,rfl,rfl,rfl,Z,ac⟩
    . have ac:=Ab (And.intro du di);clear iu du di;go_wp2;go_meet
      exact⟨_,_,_,_,_,_,rfl,rfl,rfl,rfl,Z,Ab (fun _=>⟨rfl,rfl,(Aa ac).1,(Aa ac).2⟩)⟩
 case rest=>
 rename World=>w3
 obtain⟨b4,bo,b5,b9,ce,c7,rfl,rfl,rfl,rfl,Z,ac⟩:=hcut;obtain⟨_,_,fj,_⟩:=(Aa Z).is.cell;clear az eo a3 e6
 by_cases ao:G.e≠0
 . have bj:(G.e !=0)=true:=by simp only[bne_iff_ne,ne_eq];exact ao
   have lf:Hid (BkA No B w b (rowB bs E) cd (.returned (.bool true)) w3):=Ab (by rw[<-Aa bk,if_pos ao];exact⟨rfl,Aa Z⟩);clear ao a6 ac a9 bk;generalize G.e=da at*;go_wp2;go_ret;exact Aa lf
 have bn:G.e=0:=by omega
 have jq:Hid ((decide (l=1),ukept k V)=cd):=Ab (by rw[<-Aa bk,if_neg ao]);obtain⟨fe,fg,bg,bd⟩:=Aa ac bn;obtain⟨e8,ek,e0,ib,fx,dq⟩:=Aa a6 bn;have fm:=Ab bg;have dx:=Ab bd;have cv:=Ab e8;have cz:=Ab ek;rw[bn]at fj;clear ao ac a6 bg bd e8 ek bk;go_wp2_with fail
 refine(LS w3).mono ?_;rintro e e1 ⟨g1,o6,g2,ot,rfl,av,ar,dv,df,ct,dm,em⟩;have kh:=ct.size;have eu:=Ab dv;have fk:=Ab df;have b8:=Ab ct;clear dv df ct;have fy:=Ab ((Aa fm).below (Aa b8) (VB _));go_wp2_with fail
 refine(Jm b4 bo b5 LA e1 fe (Aa fy) (Aa cv)).mono ?_;rintro e f5 ⟨db,ht,rfl,kq,c6,cm⟩;have ng:=cm.size;have e4:=Ab c6;have a8:=Ab cm;have nx:=c6.lt;clear c6 cm;have dr:=Ab (((Aa dx).below (Aa b8) (VB _)).below (Aa a8) (VB _));go_wp2_with fail
 refine(Jm b9 ce c7 LB f5 fg (Aa dr) (Aa cz)).mono ?_;rintro e w6 ⟨mB,ma,rfl,mx,ci,ax⟩;have f8:=ax.size;have fu:=Ab ci;have hx:=ci.lt;have ff:=Ab (Wc (Aa e4) ax nx);have ku:=Ab (Lr (Lr (Aa eu) (Aa a8) dm) ax (by omega));have j6:=Ab (Lr (Lr (Aa fk) (Aa a8) em) ax (by omega));have cw:Below w3.heap.size w3 w6:=(Aa b8).trans (((Aa a8).mono (by omega)).trans (ax.mono (by omega)));have f9:Hid (UUp No B w b (rowB bs E) G w6):=Ab ((Aa Z).trans (((UUp.refl (Aa Z).is.opened).newer (VB _) cw).closed));obtain⟨N,d5⟩:=exq (w3.heap.size);obtain⟨M,dd⟩:=exq (w6.heap.size);have mq:b<N:=by have:=(Aa Z).is.lt;omega
 have ed:Hid (UIs (N2 No N M) B w6 b (rowB bs E) G):=Ab ((((Aa Z).is.opened).newer cw).more (fun e=>by rcases e with e|e;exact(Aa f9).is.no e;omega) (fun g bz=>by rw[d5];rcases bz with e|e;exact .inl (.inl e);exact .inl (.inr e.1)));rw[d5]at av ar kh;rw[dd]at f8 hx;have oh:w.heap.size<=N:=by have:=(Aa Z).below.size;omega
 have fq:Hid (∀W:World,w6.heap.size<=W.heap.size->∀g,W.heap.size<=g->¬N2 No N M g):=Ab (fun W I g bz e=>by
  rcases e with e|e
  . exact Aa dt g (by omega) e
  . omega)
 have dh:Hid (TkI (rowB bs E) u.ks (rowB bs E).length G):=Ab ⟨fun _=>by omega,e0,fx,dq⟩;have nk:Hid (∀(W:World) (x:US),UUp (N2 No N M) B w6 b (rowB bs E) x W->x.p<=(rowB bs E).length->Calls Tryz.prog 98 #[.pointer (some ⟨b,0,none⟩),.map (some db)] W fun e w'=>e=.returned (.int .i64 ((uplace LA (rowB bs E) x).1:Int))/\UUp (N2 No N M) B W b (rowB bs E) (uplace LA (rowB bs E) x).2 w'):=Ab (fun W x I ay=>Km (N2 No N M) B b db ht E LA bs x W I.is (Aa cv) b7 b3 (by omega) (I.book2 (by rw[fe];exact Aa ff) (by omega) (by omega)) (by omega));have jm:Hid (∀(W:World) (x:US),UUp (N2 No N M) B w6 b (rowB bs E) x W->x.p<=(rowB bs E).length->Calls Tryz.prog 98 #[.pointer (some ⟨b,0,none⟩),.map (some mB)] W fun e w'=>e=.returned (.int .i64 ((uplace LB (rowB bs E) x).1:Int))/\UUp (N2 No N M) B W b (rowB bs E) (uplace LB (rowB bs E) x).2 w'):=Ab (fun W x I ay=>Km (N2 No N M) B b mB ma E LB bs x W I.is (Aa cz) b7 b3 (by omega) (I.book2 (by rw[fg];exact Aa fu) (by omega) (by omega)) (by omega));clear ci ax cw b8 a8 e4 eu fk fm dx fy dr Z fj e0 ib fx dq cv cz ff fu;go_upto_block 3 with fail
 go_cut [3,4] (fun bm cj wc=>bm=.int .i64 (l:Int)/\cj=.int .i64 (k:Int)/\Hid (UUp No B w b (rowB bs E) V wc)/\Hid (V.ks=u.ks))
 case first=>
  have bh:Hid (∀(W:World) (x:US),x=V->x.ks=u.ks->UUp (N2 No N M) B w6 b (rowB bs E) x W->UUp No B w b (rowB bs E) V W/\V.ks=u.ks):=Ab (fun W x ay bw I=>by subst ay;exact⟨(Aa f9).trans I.closed2,bw⟩);clear co kq mx bn;go_wp2_with fail
  go_loopw [14] (fun e9 wr=>∃(F:Nat) (x:US),Hid (utok (rowB bs E) LA LB F x=V)/\Hid (TkI (rowB bs E) u.ks F x)/\Hid (UUp (N2 No N M) B w6 b (rowB bs E) x wr)) (fun _ wr=>Z16 E b wr)
  case atStart=>exact⟨(rowB bs E).length,G,a9,dh,Ab (UUp.refl (Aa ed))⟩
  case round=>
   obtain⟨F,x,af,ai,I⟩:=hrel;obtain⟨_,_,ha,_⟩:=(Aa I).is.cell;clear a9 dh ed
   by_cases cu:x.e≠0
   . have o9:(x.e==0)=false:=by rw[beq_eq_false_iff_ne];exact cu
     have ei:=Aa bh wr x (by have:=Aa af;rw[SR _ _ _ _ _ cu]at this;exact this) (Aa ai).2.2.2 (Aa I);have T:=Ab ei;clear ei cu af ai;generalize x.e=da at*;go_wp2;go_meet
     exact⟨rfl,rfl,Ab (Aa T).1,Ab (Aa T).2⟩
   have ap:x.e=0:=by omega
   rw[ap]at ha;obtain⟨a4,c8,lw,nr⟩:=Aa ai;have ba:=a4 ap
   cases F with
   |zero=>exact absurd ba (by omega)
   |succ F=>
   obtain⟨kk,y1,aa⟩:∃kk y1,uplace LA (rowB bs E) x=(kk,y1):=⟨_,_,rfl⟩
   have o1:=Wp LA (rowB bs E) x c8;rw[aa]at o1;obtain⟨d7,ds,je,dj⟩:=o1;simp only at d7 ds je dj
   have ag:=Aa af;have ae:=Ab (Aa nk wr x (Aa I) c8);rw[aa]at ae;have e7:y1.out.length<=3000:=by rw[d7];exact lw
   have bv:y1.ks=u.ks:=ds.trans nr
   by_cases bb:y1.e≠0
   . have bj:(y1.e !=0)=true:=by simp only[bne_iff_ne,ne_eq];exact bb
     have ak:y1=V:=by rw[<-ag,Nb ap aa (false,y1) (by rw[if_pos (Or.inl bb)])];rfl
     clear ag af ai a4 ba;go_wp2_with fail
     refine(Aa ae).mono ?_;rintro e ah ⟨rfl,U⟩;have T:=Ab (Aa bh ah y1 ak bv ((Aa I).trans U));obtain⟨_,_,aw,_⟩:=U.is.cell;clear U ak bb ae;generalize y1.e=da at*;go_wp2;go_meet
     exact⟨rfl,rfl,Ab (Aa T).1,Ab (Aa T).2⟩
   have a5:y1.e=0:=by omega
   have bz:=(Cn aa a5).1
   by_cases js:kk=256
   . subst js;have ak:y1=V:=by rw[<-ag,Nb ap aa (false,y1) (by rw[if_pos (Or.inr rfl)])];rfl
     clear ag af ai a4 ba;go_wp2_with fail
     refine(Aa ae).mono ?_;rintro e ah ⟨rfl,U⟩;have T:=Ab (Aa bh ah y1 ak bv ((Aa I).trans U));obtain⟨_,_,aw,_⟩:=U.is.cell;rw[a5]at aw;clear U ak ae;go_wp2;go_meet
     exact⟨rfl,rfl,Ab (Aa T).1,Ab (Aa T).2⟩
   have om:((kk:Int)==256)=false:=by rw[beq_eq_false_iff_ne];omega
   have bu:¬(y1.e≠0\/kk=256):=by omega
   by_cases f7:kk<256
   . have dc:utok (rowB bs E) LA LB F (Fd kk y1)=V:=by rw[<-ag,Nb ap aa (true,Fd kk y1) (by rw[if_neg bu,if_pos f7])];rfl
     have md:=Ab dc;have au:=BA kk y1;have nu:Hid (TkI (rowB bs E) u.ks F (Fd kk y1)):=Ab ⟨fun _=>by rw[au.2.2];omega,by rw[au.2.2];exact dj,au.1 e7,au.2.1.trans bv⟩;have m3:=Ab au.2.2;have mr:(kk:Int)<256:=by omega
     clear ag af ai a4 ba dc au bu aa;go_wp2_with fail
     refine(Aa ae).mono ?_;rintro e ah ⟨rfl,U⟩;have aj:=Ab ((Aa I).trans U);clear U ae;obtain⟨_,_,aw,_⟩:=(Aa aj).is.cell;rw[a5]at aw;have j5:=(Aa aj).below.size;go_wp2_with fail
     refine(S8 (N2 No N M) B b kk _ y1 ah (Aa aj).is e7 (Aa fq ah j5)).mono ?_;rintro e eb ⟨rfl,bf⟩;have fp:=Ab ((Aa aj).trans bf);clear bf;go_wp2;go_roundw
     case rel=>exact⟨F,_,md,nu,fp⟩
     case measure=>
      rw[Jz (Aa I).is,Jz (Aa fp).is,Aa m3];omega
   have ou:¬(kk:Int)<256:=by omega
   by_cases h0:285<kk
   . have ak:Am 8 y1=V:=by rw[<-ag,Nb ap aa (false,Am 8 y1) (by rw[if_neg bu,if_neg f7,if_pos h0])];rfl
     have d8:=Om 8 y1;have cy:Hid ((Am 8 y1).ks=u.ks):=Ab (d8.2.1.trans bv);have jw:=Ab ak;have mr:(285:Int)<(kk:Int):=by omega
     clear ag af ai a4 ba ak d8 bu aa;go_wp2_with fail
     refine(Aa ae).mono ?_;rintro e ah ⟨rfl,U⟩;have aj:=Ab ((Aa I).trans U);clear U ae;obtain⟨_,_,aw,_⟩:=(Aa aj).is.cell;rw[a5]at aw;have kg:=Ab (Dn (N2 No N M) B b (rowB bs E) y1 8 ah (Aa aj).is);go_wp2_with fail
     refine(Aa kg).mono ?_;rintro e eb ⟨rfl,bf⟩;have T:=Ab (Aa bh eb _ (Aa jw) (Aa cy) ((Aa aj).trans bf));clear bf;go_wp2;go_meet
     exact⟨rfl,rfl,Ab (Aa T).1,Ab (Aa T).2⟩
   refine TM (No:=No) (B:=B) (hs4:=e1.heap.size) (hs5:=f5.heap.size) (N:=N) (M:=M) (w6:=w6) (ks:=u.ks) (LA:=LA) (LB:=LB) (V:=V) (x:=x) (F:=F) (y1:=y1) (kk:=kk) b7 b3 av ar dm em ng f8 dd mq ku j6 fq ae jm ap ai af aa a5 (by omega) (by omega) I ?_ ?_
   . intro e9 m7 l0 iq g0 l4 h9 lu mc jc j0 mg k8 k7 hz jv hf gx kz h7 ip mi lk gv jt jy nb i7 jp mh lj iz ie i5 kj mz h6 nc jo ki jl g9 lr np g7 l3 jb nl jk l9 jf l5 nj li gy ia hg kt i1 h8 ky ii i6 h1 hq jh ji jz gq nw mw lh gz gw j4 k0 h3 h4 h2 lg ju im nt l6 hu g4 ko iw i3 k6 gu m9 l7 k9 hw hh i0 m6 mp i9 j8 ik k3 g5 k4 ho kx lm nq mo lv gj ja hv m8 hs j9 j1 mm iy km nv w' Y ic dw lq gg;dsimp only;go_roundw
     case rel=>exact⟨F,Y,ic,dw,gg⟩
     case measure=>
      rw[Jz (Aa I).is,Jz (Aa gg).is];have:=Aa lq
      have:=(Aa dw).2.1
      omega
   . intro e9 m7 l0 iq g0 l4 h9 lu mc jc j0 mg k8 k7 hz jv hf gx kz h7 ip mi lk gv jt jy nb i7 jp mh lj iz ie i5 kj mz h6 nc jo ki jl g9 lr np g7 l3 jb nl jk l9 jf l5 nj li gy ia hg kt i1 h8 ky ii i6 h1 hq jh ji jz gq nw mw lh gz gw j4 k0 h3 h4 h2 lg ju im nt l6 hu g4 ko iw i3 k6 gu m9 l7 k9 hw hh i0 m6 mp i9 j8 ik k3 g5 k4 ho kx lm nq mo lv gj ja hv m8 hs j9 j1 mm iy km nv w' y bb jj na;have T:=Ab (Aa bh w' y bb jj na);dsimp only;go_wp2_with fail
     go_meet
     exact⟨rfl,rfl,Ab (Aa T).1,Ab (Aa T).2⟩
 case rest=>
  rename World=>mn
  obtain⟨rfl,rfl,a7,ka⟩:=hcut;obtain⟨ov,kv,_,oj,al,de,a2,ej,fw,gi⟩:=(Aa a7).is.rows;obtain⟨fh,bq⟩:=exq (V.ks.length);have ft:=a2;rw[bq]at a2;obtain⟨od,og,rfl⟩:=An a2;have oo:=(Aa a7).below.size;have oy:=(Aa a7).is.lt;have o5:fh<=200000:=by rw[<-bq,Aa ka];exact Aa ij
  have cy:=Ab a2;have hk:=Ab ft;have k5:=Ab de;have gn:=Ab al;have ir:=Ab ej;have mj:=Ab fw;have ix:=Ab gi;have j7:=Ab bq;have dz:=Ab (Aa a7).is;clear a2 ft de al ej fw gi bq;go_wp2_with (at_builtin;refine wpList_append_own_at _ rfl (.tmp 239) (.tmp 241) 76 rfl (b+1) 3 g8 (.int .i64 0) 1 8 Tryz.underlying76 hi ml jr ll rfl (by decide) _ fh (i64s V.ks) rfl ((Aa cy).alloc _) ⟨mn.heap.size,0,none⟩ 1 1 [.int .i64 (k:Int)] rfl rfl (cell_one_new _ _ _) (Bc rfl) (by unfold maxLen;omega) (by omega) (by simp;omega) ?_)
  intro v' n3 cg en _ eg;obtain⟨oe,oq,fo⟩:=UIs.keepK (k:=k) (X:=.cells #[.int .i64 (k:Int)] 3) (Aa dz).base (Aa dz).no (Aa gn) (Aa k5) (Aa hk) (Aa ir) (Aa mj) (Aa ix) (fun g bz=>Aa dt g (by omega)) (by rw[Aa j7];exact cg) en (by simpa using eg);obtain⟨ow,ox,rfl,_,_⟩:=Ba cg (by omega);have j3:=Ab ((Aa a7).trans fo);clear cg en eg fo;go_wp2;go_ret;rw[<-Aa jq];exact⟨by rw[RM];rfl,Aa j3⟩
theorem JJ (No:Nat->Prop)(B b E:Nat)(bs:List Nat)(u:US)(w:World)(M:UIs No B w b (rowB bs E) u)(af:bs.length=E)(T:E<=25000)(O:u.p<=8*E)(ae:u.out.length<=3000)(ac:u.ks.length<=200000)(aa:∀g,w.heap.size<=g->¬No g)(R:Bool×US)(F:Eh (rowB bs E) u=R):
 Calls Tryz.prog 61 #[.pointer (some ⟨b,0,none⟩)] w fun e w'=>BkA No B w b (rowB bs E) R e w':=by
 obtain⟨l,x1,G⟩:∃l x1,uget (rowB bs E) 1 u=(l,x1):=⟨_,_,rfl⟩
 obtain⟨k,x2,H⟩:∃k x2,uget (rowB bs E) 2 x1=(k,x2):=⟨_,_,rfl⟩
 unfold Eh at F;simp only[G,H]at F
 by_cases Z:x2.e≠0
 . rw[if_pos Z]at F;subst F;exact JH No B b E bs u w M T O l k x1 x2 G H Z
 rw[if_neg Z]at F;have Y:x2.e=0:=by omega
 by_cases U:k=0
 . rw[if_pos U]at F;subst U F;exact RH No B b E bs u w M T O ae ac aa l x1 x2 G H Y _ rfl
 rw[if_neg U]at F
 by_cases ag:3<=k
 . have I:uopen (rowB bs E) k x2=(([],[]),Am 4 x2):=by unfold uopen;rw[if_neg (by omega),if_neg (by omega)]
   rw[I]at F;simp only at F
   rw[if_pos (Bm (by decide))]at F;subst F;exact JI No B b E bs u w M T O l k x1 x2 G H Y ag
 . obtain⟨LA,LB,x3,I⟩:∃LA LB x3,uopen (rowB bs E) k x2=((LA,LB),x3):=⟨_,_,_,rfl⟩
   rw[I]at F;exact O4 No B b E bs u w M af T O ae ac aa l k x1 x2 x3 G H Y (by omega) LA LB I _ rfl R F
theorem UIs.fresh (No:Nat->Prop)(B:Nat)(w:World)(row:List Bool)(F:B<=w.heap.size)(E:¬No w.heap.size):
 UIs No B (w.alloc (.cells #[.string (text row),.int .i64 0,.slice none 0 0,.slice none 0 0,.int .i64 0] 110)) w.heap.size row ⟨0,[],[],0⟩:=
 ⟨F,E,.slice none 0 0,.slice none 0 0,heap_alloc_new _ _,World.ownsRow_nil _ _ _ _,World.ownsRow_nil _ _ _ _,.inl rfl,(fun g e=>by cases e),(fun g e=>by cases e)⟩
def UpA (w:World)(U:US)(e:Ending)(w':World):Prop:=Below w.heap.size w w'/\((U.e=0/\∃ov kv,e=.returned (.tuple #[ov,.int .i64 (((U.p+7)/8:Nat):Int),kv,.int .i64 0])/\w'.ownsRow w.heap.size 5 1 ov U.out.length (u8s U.out))\/ (U.e≠0/\e=.returned (.tuple #[.slice none 0 0,.int .i64 0,.slice none 0 0,.int .i64 U.e])))
theorem Wq (a:Option Addr)(E a2:Nat)(bs:List Nat)(w:World)(a7:bs.length=E)(aw:E<=25000)(a8:BytesIn w a bs)(ax:∀j,bs.getD j 0<256)(U:US)(a5:Oh (rowB bs E)=U):
 Calls Tryz.prog 39 #[.slice a E a2] w fun e w'=>UpA w U e w':=by
 have a1:=Ab (LX a E a2 bs w a7 ax aw a8);have bd:=Af bs E;have bm:Hid (Dc (rowB bs E) ((rowB bs E).length+1) ⟨0,[],[],0⟩=U):=Ab a5;clear a8 ax a5;go_enter Tryz.func39,Tryz.ntmps39
 go_wp2_with fail
 refine(Aa a1).mono ?_;rintro e Z ⟨rfl,ap⟩;have a9:=Ab ap;have a6:=ap.size;clear ap;have ah:Hid (UIs (fun g=>g<w.heap.size) w.heap.size (Z.alloc (.cells #[.string (text (rowB bs E)),.int .i64 0,.slice none 0 0,.slice none 0 0,.int .i64 0] 110)) Z.heap.size (rowB bs E) ⟨0,[],[],0⟩):=Ab (UIs.fresh _ _ Z _ a6 (by omega));have ae:=Ab ((Aa a9).alloc a6 (.cells #[.string (text (rowB bs E)),.int .i64 0,.slice none 0 0,.slice none 0 0,.int .i64 0] 110));generalize text (rowB bs E)=bi at*;go_wp2;obtain⟨W2,ay⟩:=exq (Z.alloc (.cells #[.string bi,.int .i64 0,.slice none 0 0,.slice none 0 0,.int .i64 0] 110));obtain⟨b,hb⟩:=exq (Z.heap.size);rw[ay]at ah ae ⊢;rw[hb]at ah ⊢;have bz:w.heap.size<=b:=by omega
 have b5:=(Aa ae).size;clear ay a1;go_loopw [12] (fun _ wr=>∃(F:Nat) (x:US),Hid (Dc (rowB bs E) F x=U)/\Hid ((rowB bs E).length<x.p+F/\x.p<=(rowB bs E).length/\x.out.length<=3000/\x.ks.length<=x.p)/\Hid (UUp (fun g=>g<w.heap.size) w.heap.size W2 b (rowB bs E) x wr)) (fun _ wr=>Z16 E b wr)
 case atStart=>exact⟨(rowB bs E).length+1,⟨0,[],[],0⟩,bm,Ab ⟨by simp only;omega,VH _,VH _,VH _⟩,Ab (UUp.refl (Aa ah))⟩
 case round=>
  obtain⟨F,x,ak,I,T⟩:=hrel
  cases F with
  |zero=>exact absurd (Aa I).1 (by have:=(Aa I).2.1;omega)
  |succ F=>
   obtain⟨t,y,O⟩:∃t y,Eh (rowB bs E) x=(t,y):=⟨_,_,rfl⟩
   have Y:Hid (Calls Tryz.prog 61 #[.pointer (some ⟨b,0,none⟩)] wr fun e w'=>e=.returned (.bool t)/\UUp (fun g=>g<w.heap.size) w.heap.size wr b (rowB bs E) y w'):=Ab (JJ (fun g=>g<w.heap.size) w.heap.size b E bs x wr (Aa T).is a7 aw (by have:=(Aa I).2.1;omega) (Aa I).2.2.1 (by have bw:=(Aa I).2.1;have cd:=(Aa I).2.2.2;omega) (fun g ag=>by have:=(Aa T).below.size;omega) (t,y) O);have aa:Dc (rowB bs E) (F+1) x=if t=false/\y.e=0 then Dc (rowB bs E) F y else y:=by rw[Dc,O]
   rw[Aa ak]at aa
   by_cases G:y.e=0
   . have ag:=Qb (row:=rowB bs E) (u:=x) (by rw[O];exact G);rw[O]at ag;obtain⟨a4,ao,bk,az,aj⟩:=ag.ahead;simp only at a4 ao az aj
     obtain⟨bn,bg,a3,bc⟩:=Aa I;have ac:Hid (((rowB bs E).length<y.p+F/\y.p<=(rowB bs E).length/\y.out.length<=3000/\y.ks.length<=y.p)/\x.p<y.p):=Ab ⟨⟨by omega,ao,aj a3,by omega⟩,by omega⟩;have ar:=Ab aa.symm;clear a4 ao bk az aj ak I aa ag bn bg a3 bc O
     cases t with
     |false=>
      go_wp2_with fail
      refine(Aa Y).mono ?_;rintro e w3 ⟨rfl,M⟩;have H:=Ab ((Aa T).trans M);clear M;obtain⟨_,_,af,_⟩:=(Aa H).is.cell;rw[G]at af;go_wp2;go_roundw
      case rel=>exact⟨F,y,Ab (by have:=Aa ar;simpa[G]using this),Ab (Aa ac).1,H⟩
      case measure=>
       rw[Jz (Aa T).is,Jz (Aa H).is];have b2:=(Aa ac).1.2.1;have b7:=(Aa ac).2;rw[bd]at b2;omega
     |true=>
      have ai:y=U:=by have:=Aa ar;simpa using this
      subst ai;clear ar;go_wp2_with fail
      refine(Aa Y).mono ?_;rintro e w3 ⟨rfl,M⟩;have H:=Ab ((Aa T).trans M);clear M Y;obtain⟨_,b0,af,_⟩:=(Aa H).is.cell;rw[G]at af;obtain⟨ov,kv,ce,b8,_,al,au,_⟩:=(Aa H).is.rows;have bu:=Ab (Pa al (B':=w.heap.size) (by omega));have bh:=Ab ((Aa ae).trans (Aa H).below);have b3:y.p<=200000:=by have:=(Aa ac).1.2.1;omega
      obtain⟨bq,bj,rfl⟩:=An al;obtain⟨bo,ba,rfl⟩:=An au;have bb:Hid (((y.p:Int)+7)/8=(((y.p+7)/8:Nat):Int)):=Ab (by omega);clear al au ac;go_wp2;go_region
      all_goals go_wp2
      refine bodyPost_ret (v:=.tuple #[.slice bq y.out.length bj,.int .i64 (((y.p:Int)+7)/8),.slice bo y.ks.length ba,.int .i64 0]) ?_ rfl ⟨(Aa bh).drew,.inl ⟨G,_,_,by rw[Aa bb],(Aa bu).drew⟩⟩
      first|rfl|kernel_rfl
   . have ai:y=U:=by rw[aa,if_neg (fun h=>G h.2)]
     subst ai;have b4:(y.e==0)=false:=by rw[beq_eq_false_iff_ne];exact G
     have b9:(y.e !=0)=true:=by simp only[bne_iff_ne,ne_eq];exact G
     have av:Hid (∀W,UUp (fun g=>g<w.heap.size) w.heap.size W2 b (rowB bs E) y W->UpA w y (.returned (.tuple #[.slice none 0 0,.int .i64 0,.slice none 0 0,.int .i64 y.e])) W.drew):=Ab (fun W h=>⟨((Aa ae).trans h.below).drew,.inr ⟨G,rfl⟩⟩);clear ak I aa O G
     cases t
     all_goals
      go_wp2_with fail
      refine(Aa Y).mono ?_;rintro e w3 ⟨rfl,M⟩;have H:=Ab ((Aa T).trans M);clear M Y;obtain⟨_,_,af,_⟩:=(Aa H).is.cell;have bv:=Ab (Aa av w3 (Aa H));clear av;generalize y.e=bf at*;go_wp2;go_region
      all_goals go_wp2
      refine bodyPost_ret (v:=.tuple #[.slice none 0 0,.int .i64 0,.slice none 0 0,.int .i64 bf]) ?_ rfl (Aa bv)
      first|rfl|kernel_rfl
theorem Z39:UnC True:=by
 intro W a n c pk hl hn O I _;refine(Wq a n c pk W hl (by omega) O (Er I) _ rfl).mono ?_;rintro e w' ⟨H,(⟨E,ov,kv,rfl,T⟩|⟨E,rfl⟩)⟩
 . obtain⟨G,F,rfl,k1,k2,U,M⟩:=Ve T;exact⟨H,.inl ⟨E,G,F,kv,rfl,⟨G,F,rfl,k2,k1⟩,M⟩⟩
 . exact⟨H,.inr ⟨E,rfl⟩⟩
end Go.Proofs.YtleocpdblhbimaaGreatDoor
