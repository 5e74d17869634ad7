import Derived.Test.YtleocpdblhbimaaGreatDoorQ49
import Derived.Deep.RegionHeld3
import Derived.Test.YtleocpdblhbimaaGreatDoorQ10
set_option linter.unusedSimpArgs false
set_option linter.unusedVariables false
set_option maxRecDepth 100000
set_option maxHeartbeats 8000000
namespace Go.Proofs.YtleocpdblhbimaaGreatDoor
open Go.RowKit
theorem O4 (No:Nat->Prop)(B b E:Nat)(bs:List Nat)(u:US)(w:World)(h:UIs No B w b (rowB bs E) u)(b3:bs.length=E)(bu:E<=25000)(od:u.p<=8*E)(dq:u.out.length<=3000)(ed:u.ks.length<=200000)(eh:∀g,w.heap.size<=g->¬No g)(l k:Nat)(b4 ay G:US)(ar:uget (rowB bs E) 1 u=(l,b4))(az:uget (rowB bs E) 2 b4=(k,ay))(ci:ay.e=0)(bm:k=1\/k=2)(LA LB:List Int)(O:uopen (rowB bs E) k ay=((LA,LB),G))(V:US)(dd:utok (rowB bs E) LA LB (rowB bs E).length G=V)(bk:Bool×US)(bz:(if G.e≠0 then (true,G)else (decide (l=1),ukept k V))=bk):
 Calls Tryz.prog 61 #[.pointer (some ⟨b,0,none⟩)] w fun e w'=>BkA No B w b (rowB bs E) bk e w':=by
 have bq:=Ab bz;clear bz;obtain⟨h8,hi,g7,i4,g9⟩:=info_parts Bv;have ox:=Af bs E;have dm:(rowB bs E).length<=200000:=by omega
 have i7:u.p<=(rowB bs E).length:=by omega
 obtain⟨lq,ep,c5,cp,nw⟩:=Bn az ci;obtain⟨k4,iz,cq,c7,_⟩:=Bn ar nw
 have e4:G.e=0->Good LA/\Good LB/\G.p<=(rowB bs E).length/\1<=G.p/\G.out.length<=3000/\G.ks=u.ks:=fun ap=>by
  rcases bm with rfl|rfl
  . unfold uopen at O;rw[if_pos rfl]at O;obtain⟨al,rfl⟩:=VN O;obtain⟨rfl,rfl⟩:=VN al;exact⟨PO,PN,ep,by omega,by rw[c5,cq];exact dq,cp.trans c7⟩
  . unfold uopen at O;rw[if_neg (by decide),if_pos rfl]at O;obtain⟨m0,n0,c0,nz,oo,b9,us,o4,oq,bh⟩:=Hd O ap;obtain⟨og,ha,g4,mz⟩:=Pu bh ep;exact⟨Ch (by rw[bh.ea];exact bh.ca),Ch (by rw[bh.ec];exact bh.cc),ha,by omega,by rw[g4,c5,cq];exact dq,mz.trans (cp.trans c7)⟩
 have H:=Ab h;have fq:=Ab eh;have f5:=Ab ar;have dl:=Ab az;have bf:=Ab e4;have bb:=Ab O;have a7:=Ab dd;have nc:=Ab ed;have ma:=iz;have ee:ay.p<=8*E:=by omega
 clear h eh ar az e4 O dd k4 lq cp c7 c5 cq ed;go_enter Tryz.func61,Tryz.ntmps61
 go_wp2_with fail
 refine(Hm No B b 1 _ u w (Aa H) (by omega) dm i7 l b4 (Aa f5)).mono ?_;rintro e h9 ⟨rfl,f3⟩;have cv:=Ab f3;clear f3;go_wp2_with fail
 refine(Hm No B b 2 _ b4 h9 (Aa cv).is (by omega) dm ma k ay (Aa dl)).mono ?_;rintro e dv ⟨rfl,e0⟩;have au:=Ab ((Aa cv).trans e0);clear e0 cv;obtain⟨_,_,fj,_⟩:=(Aa au).is.cell;rw[ci]at fj;clear f5 dl H;go_upto_block 0 with fail
 go_cut [3,4,5,6] (fun b9 cy im g0 wc=>∃b0 bi b8 bw cd cu,b9=.int .i64 (l:Int)/\cy=.int .i64 (k:Int)/\im=.slice b0 bi b8/\g0=.slice bw cd cu/\Hid (UUp No B w b (rowB bs E) G wc)/\Hid (G.e=0->LA.length=bi/\LB.length=cd/\RowIn .i64 wc b0 LA/\RowIn .i64 wc bw LB))
 case first=>
  rcases bm with rfl|rfl
  . have O:=Aa bb;unfold uopen at O;rw[if_pos rfl]at O;obtain⟨al,a1⟩:=VN O;obtain⟨c9,fx⟩:=VN al;have en:=Ab a1;have ey:=Ab c9;have du:=Ab fx;clear O al a1 c9 fx bb bf a7;go_wp2_with fail
    refine(PI dv).mono ?_;rintro e w3 ⟨gz,b8,l0,rfl,ou,o9,a8,ba,d6⟩;have Z:Hid (UUp No B w b (rowB bs E) G w3):=Ab (by rw[<-Aa en];exact(Aa au).trans (((UUp.refl (Aa au).is.opened).newer (VB _) d6).closed));have ac:Hid (G.e=0->LA.length=288/\LB.length=32/\RowIn .i64 w3 (some ⟨gz,0,none⟩) LA/\RowIn .i64 w3 (some ⟨l0,0,none⟩) LB):=Ab (fun _=>by rw[<-Aa ey,<-Aa du];exact⟨rfl,rfl,a8,ba⟩);clear a8 ba d6 en ey du;go_wp2;go_meet
    exact⟨_,_,_,_,_,_,rfl,rfl,rfl,rfl,Z,ac⟩
  . have O:=Aa bb;unfold uopen at O;rw[if_neg (by decide),if_pos rfl]at O;have dz:=Ab (TJ No B b E bs ay dv (Aa au).is b3 bu ee _ O);clear O bb bf a7;go_wp2_with fail
    refine(Aa dz).mono ?_;rintro e w3 ⟨fw,bz⟩;have Z:=Ab ((Aa au).trans fw);clear fw dz
    rcases bz with ⟨bj,rfl⟩|⟨o0,c1,ob,c2,mm,rfl,ft,d5⟩
    . have ac:Hid (G.e=0->LA.length=0/\LB.length=0/\RowIn .i64 w3 none LA/\RowIn .i64 w3 none LB):=Ab (fun iy=>absurd iy bj);clear bj;go_wp2;go_meet
      exact⟨_,_,_,_,_,_,rfl,rfl,rfl,rfl,Z,ac⟩
    . have ac:=Ab (And.intro ft d5);clear mm ft d5;go_wp2;go_meet
      exact⟨_,_,_,_,_,_,rfl,rfl,rfl,rfl,Z,Ab (fun _=>⟨rfl,rfl,(Aa ac).1,(Aa ac).2⟩)⟩
 case rest=>
 rename World=>w3
 obtain⟨b0,bi,b8,bw,cd,cu,rfl,rfl,rfl,rfl,Z,ac⟩:=hcut;obtain⟨_,_,dr,_⟩:=(Aa Z).is.cell;clear au fj bb ee
 by_cases ap:G.e≠0
 . have bj:(G.e !=0)=true:=by simp only[bne_iff_ne,ne_eq];exact ap
   have h7:Hid (BkA No B w b (rowB bs E) bk (.returned (.bool true)) w3):=Ab (by rw[<-Aa bq,if_pos ap];exact⟨rfl,Aa Z⟩);clear ap bf ac a7 bq;generalize G.e=e5 at*;go_wp2;go_ret;exact Aa h7
 have bo:G.e=0:=by omega
 have m3:Hid ((decide (l=1),ukept k V)=bk):=Ab (by rw[<-Aa bq,if_neg ap]);obtain⟨fg,gi,a8,ba⟩:=Aa ac bo;obtain⟨fy,dt,df,jp,fp,dy⟩:=Aa bf bo;have eo:=Ab a8;have ff:=Ab ba;have c6:=Ab fy;have cg:=Ab dt;rw[bo]at dr;clear ap ac bf a8 ba fy dt bq;go_wp2_with fail
 refine(LS w3).mono ?_;rintro e fk ⟨g1,oa,g2,oj,rfl,ar,az,eg,da,cm,de,f9⟩;have m6:=cm.size;have e7:=Ab eg;have eu:=Ab da;have b7:=Ab cm;clear eg da cm;have em:=Ab ((Aa eo).below (Aa b7) (VB _));go_wp2_with fail
 refine(Jm b0 bi b8 LA fk fg (Aa em) (Aa c6)).mono ?_;rintro e e1 ⟨fm,j9,rfl,na,cj,cw⟩;have jy:=cw.size;have fo:=Ab cj;have a6:=Ab cw;have jo:=cj.lt;clear cj cw;have f4:=Ab (((Aa ff).below (Aa b7) (VB _)).below (Aa a6) (VB _));go_wp2_with fail
 refine(Jm bw cd cu LB e1 gi (Aa f4) (Aa cg)).mono ?_;rintro e w6 ⟨mB,mr,rfl,jc,ck,av⟩;have ei:=av.size;have fh:=Ab ck;have gj:=ck.lt;have dc:=Ab (Wc (Aa fo) av jo);have h6:=Ab (Lr (Lr (Aa e7) (Aa a6) de) av (by omega));have mi:=Ab (Lr (Lr (Aa eu) (Aa a6) f9) av (by omega));have ct:Below w3.heap.size w3 w6:=(Aa b7).trans (((Aa a6).mono (by omega)).trans (av.mono (by omega)));have f6:Hid (UUp No B w b (rowB bs E) G w6):=Ab ((Aa Z).trans (((UUp.refl (Aa Z).is.opened).newer (VB _) ct).closed));obtain⟨N,dn⟩:=exq (w3.heap.size);obtain⟨M,dp⟩:=exq (w6.heap.size);have hw:b<N:=by have:=(Aa Z).is.lt;omega
 have gd:Hid (UIs (N2 No N M) B w6 b (rowB bs E) G):=Ab ((((Aa Z).is.opened).newer ct).more (fun e=>by rcases e with e|e;exact(Aa f6).is.no e;omega) (fun g b5=>by rw[dn];rcases b5 with e|e;exact .inl (.inl e);exact .inl (.inr e.1)));rw[dn]at ar az m6;rw[dp]at ei gj;have o5:w.heap.size<=N:=by have:=(Aa Z).below.size;omega
 have eb:Hid (∀W:World,w6.heap.size<=W.heap.size->∀g,W.heap.size<=g->¬N2 No N M g):=Ab (fun W I g b5 e=>by
  rcases e with e|e
  . exact Aa fq g (by omega) e
  . omega)
 have dx:Hid (TkI (rowB bs E) u.ks (rowB bs E).length G):=Ab ⟨fun _=>by omega,df,fp,dy⟩;have nv:Hid (∀(W:World) (x:US),UUp (N2 No N M) B w6 b (rowB bs E) x W->x.p<=(rowB bs E).length->Calls Tryz.prog 98 #[.pointer (some ⟨b,0,none⟩),.map (some fm)] W fun e w'=>e=.returned (.int .i64 ((uplace LA (rowB bs E) x).1:Int))/\UUp (N2 No N M) B W b (rowB bs E) (uplace LA (rowB bs E) x).2 w'):=Ab (fun W x I a1=>Km (N2 No N M) B b fm j9 E LA bs x W I.is (Aa c6) b3 bu (by omega) (I.book2 (by rw[fg];exact Aa dc) (by omega) (by omega)) (by omega));have nf:Hid (∀(W:World) (x:US),UUp (N2 No N M) B w6 b (rowB bs E) x W->x.p<=(rowB bs E).length->Calls Tryz.prog 98 #[.pointer (some ⟨b,0,none⟩),.map (some mB)] W fun e w'=>e=.returned (.int .i64 ((uplace LB (rowB bs E) x).1:Int))/\UUp (N2 No N M) B W b (rowB bs E) (uplace LB (rowB bs E) x).2 w'):=Ab (fun W x I a1=>Km (N2 No N M) B b mB mr E LB bs x W I.is (Aa cg) b3 bu (by omega) (I.book2 (by rw[gi];exact Aa fh) (by omega) (by omega)) (by omega));clear ck av ct b7 a6 fo e7 eu eo ff em f4 Z dr df jp fp dy c6 cg dc fh;go_upto_block 3 with fail
 go_cut [3,4] (fun b9 cy wc=>b9=.int .i64 (l:Int)/\cy=.int .i64 (k:Int)/\Hid (UUp No B w b (rowB bs E) V wc)/\Hid (V.ks=u.ks))
 case first=>
  have bc:Hid (∀(W:World) (x:US),x=V->x.ks=u.ks->UUp (N2 No N M) B w6 b (rowB bs E) x W->UUp No B w b (rowB bs E) V W/\V.ks=u.ks):=Ab (fun W x a1 bm I=>by subst a1;exact⟨(Aa f6).trans I.closed2,bm⟩);clear ci na jc bo;go_wp2_with fail
  go_loopw [14] (fun ej wr=>∃(F:Nat) (x:US),Hid (utok (rowB bs E) LA LB F x=V)/\Hid (TkI (rowB bs E) u.ks F x)/\Hid (UUp (N2 No N M) B w6 b (rowB bs E) x wr)) (fun _ wr=>Z16 E b wr)
  case atStart=>exact⟨(rowB bs E).length,G,a7,dx,Ab (UUp.refl (Aa gd))⟩
  case round=>
   obtain⟨F,x,af,aj,I⟩:=hrel;obtain⟨_,_,l7,_⟩:=(Aa I).is.cell;clear a7 dx gd
   by_cases cn:x.e≠0
   . have ny:(x.e==0)=false:=by rw[beq_eq_false_iff_ne];exact cn
     have e6:=Aa bc wr x (by have:=Aa af;rw[SR _ _ _ _ _ cn]at this;exact this) (Aa aj).2.2.2 (Aa I);have T:=Ab e6;clear e6 cn af aj;generalize x.e=e5 at*;go_wp2;go_meet
     exact⟨rfl,rfl,Ab (Aa T).1,Ab (Aa T).2⟩
   have ao:x.e=0:=by omega
   rw[ao]at l7;obtain⟨a9,e9,i5,ka⟩:=Aa aj;have a5:=a9 ao
   cases F with
   |zero=>exact absurd a5 (by omega)
   |succ F=>
   obtain⟨kk,y1,ae⟩:∃kk y1,uplace LA (rowB bs E) x=(kk,y1):=⟨_,_,rfl⟩
   have o1:=Wp LA (rowB bs E) x e9;rw[ae]at o1;obtain⟨di,db,h0,f7⟩:=o1;simp only at di db h0 f7
   have ah:=Aa af;have aa:=Ab (Aa nv wr x (Aa I) e9);rw[ae]at aa;have e8:y1.out.length<=3000:=by rw[di];exact i5
   have bn:y1.ks=u.ks:=db.trans ka
   by_cases bd:y1.e≠0
   . have bj:(y1.e !=0)=true:=by simp only[bne_iff_ne,ne_eq];exact bd
     have ai:y1=V:=by rw[<-ah,Nb ao ae (false,y1) (by rw[if_pos (Or.inl bd)])];rfl
     clear ah af aj a9 a5;go_wp2_with fail
     refine(Aa aa).mono ?_;rintro e ak ⟨rfl,U⟩;have T:=Ab (Aa bc ak y1 ai bn ((Aa I).trans U));obtain⟨_,_,aw,_⟩:=U.is.cell;clear U ai bd aa;generalize y1.e=e5 at*;go_wp2;go_meet
     exact⟨rfl,rfl,Ab (Aa T).1,Ab (Aa T).2⟩
   have a4:y1.e=0:=by omega
   have b5:=(Cn ae a4).1
   by_cases hj:kk=256
   . subst hj;have ai:y1=V:=by rw[<-ah,Nb ao ae (false,y1) (by rw[if_pos (Or.inr rfl)])];rfl
     clear ah af aj a9 a5;go_wp2_with fail
     refine(Aa aa).mono ?_;rintro e ak ⟨rfl,U⟩;have T:=Ab (Aa bc ak y1 ai bn ((Aa I).trans U));obtain⟨_,_,aw,_⟩:=U.is.cell;rw[a4]at aw;clear U ai aa;go_wp2;go_meet
     exact⟨rfl,rfl,Ab (Aa T).1,Ab (Aa T).2⟩
   have o6:((kk:Int)==256)=false:=by rw[beq_eq_false_iff_ne];omega
   have bv:¬(y1.e≠0\/kk=256):=by omega
   by_cases fe:kk<256
   . have d9:utok (rowB bs E) LA LB F (Fd kk y1)=V:=by rw[<-ah,Nb ao ae (true,Fd kk y1) (by rw[if_neg bv,if_pos fe])];rfl
     have jh:=Ab d9;have ax:=BA kk y1;have ig:Hid (TkI (rowB bs E) u.ks F (Fd kk y1)):=Ab ⟨fun _=>by rw[ax.2.2];omega,by rw[ax.2.2];exact f7,ax.1 e8,ax.2.1.trans bn⟩;have kq:=Ab ax.2.2;have gx:(kk:Int)<256:=by omega
     clear ah af aj a9 a5 d9 ax bv ae;go_wp2_with fail
     refine(Aa aa).mono ?_;rintro e ak ⟨rfl,U⟩;have ag:=Ab ((Aa I).trans U);clear U aa;obtain⟨_,_,aw,_⟩:=(Aa ag).is.cell;rw[a4]at aw;have jl:=(Aa ag).below.size;go_wp2_with fail
     refine(S8 (N2 No N M) B b kk _ y1 ak (Aa ag).is e8 (Aa eb ak jl)).mono ?_;rintro e d8 ⟨rfl,a2⟩;have gg:=Ab ((Aa ag).trans a2);clear a2;go_wp2;go_roundw
     case rel=>exact⟨F,_,jh,ig,gg⟩
     case measure=>
      rw[Jz (Aa I).is,Jz (Aa gg).is,Aa kq];omega
   have oi:¬(kk:Int)<256:=by omega
   by_cases ko:285<kk
   . have ai:Am 8 y1=V:=by rw[<-ah,Nb ao ae (false,Am 8 y1) (by rw[if_neg bv,if_neg fe,if_pos ko])];rfl
     have dj:=Om 8 y1;have co:Hid ((Am 8 y1).ks=u.ks):=Ab (dj.2.1.trans bn);have mq:=Ab ai;have gx:(285:Int)<(kk:Int):=by omega
     clear ah af aj a9 a5 ai dj bv ae;go_wp2_with fail
     refine(Aa aa).mono ?_;rintro e ak ⟨rfl,U⟩;have ag:=Ab ((Aa I).trans U);clear U aa;obtain⟨_,_,aw,_⟩:=(Aa ag).is.cell;rw[a4]at aw;have jt:=Ab (Dn (N2 No N M) B b (rowB bs E) y1 8 ak (Aa ag).is);go_wp2_with fail
     refine(Aa jt).mono ?_;rintro e d8 ⟨rfl,a2⟩;have T:=Ab (Aa bc d8 _ (Aa mq) (Aa co) ((Aa ag).trans a2));clear a2;go_wp2;go_meet
     exact⟨rfl,rfl,Ab (Aa T).1,Ab (Aa T).2⟩
   refine TM (No:=No) (B:=B) (hs4:=fk.heap.size) (hs5:=e1.heap.size) (N:=N) (M:=M) (w6:=w6) (ks:=u.ks) (LA:=LA) (LB:=LB) (V:=V) (x:=x) (F:=F) (y1:=y1) (kk:=kk) b3 bu ar az de f9 jy ei dp hw h6 mi eb aa nf ao aj af ae a4 (by omega) (by omega) I ?_ ?_
   . intro ej ik kh ku j3 nx jr ie lj mj l9 mg il j0 mh hk jz i1 iu kx l8 j1 gy hs k6 ia hf nr jb lf k8 ml md ix j4 ii g8 ho ij nt lz gq i9 i6 je g5 kj h2 nh hx jj ja nj lu js kt mn j8 hz jg h5 k3 m9 lw m5 ji lm m7 ki mx nk ib ic l4 jw lk l5 gw m8 lr gv k7 lg mo l6 ly mc kg hp k0 ir ju l3 m4 j5 nu kz jf ip nq h1 nl np hu hh h3 ll hv lv km ky lh gn kc i3 mp hq jm iw jk nb gu w' Y k5 dw h4 ds;dsimp only;go_roundw
     case rel=>exact⟨F,Y,k5,dw,ds⟩
     case measure=>
      rw[Jz (Aa I).is,Jz (Aa ds).is];have:=Aa h4
      have:=(Aa dw).2.1
      omega
   . intro ej ik kh ku j3 nx jr ie lj mj l9 mg il j0 mh hk jz i1 iu kx l8 j1 gy hs k6 ia hf nr jb lf k8 ml md ix j4 ii g8 ho ij nt lz gq i9 i6 je g5 kj h2 nh hx jj ja nj lu js kt mn j8 hz jg h5 k3 m9 lw m5 ji lm m7 ki mx nk ib ic l4 jw lk l5 gw m8 lr gv k7 lg mo l6 ly mc kg hp k0 ir ju l3 m4 j5 nu kz jf ip nq h1 nl np hu hh h3 ll hv lv km ky lh gn kc i3 mp hq jm iw jk nb gu w' y bd i0 j7;have T:=Ab (Aa bc w' y bd i0 j7);dsimp only;go_wp2_with fail
     go_meet
     exact⟨rfl,rfl,Ab (Aa T).1,Ab (Aa T).2⟩
 case rest=>
  rename World=>iq
  obtain⟨rfl,rfl,a3,ng⟩:=hcut;obtain⟨ov,kv,_,oh,al,ew,bg,gh,ek,c8⟩:=(Aa a3).is.rows;obtain⟨d7,ce⟩:=exq (V.ks.length);have fi:=bg;rw[ce]at bg;obtain⟨oc,oe,rfl⟩:=An bg;have o3:=(Aa a3).below.size;have ow:=(Aa a3).is.lt;have n3:d7<=200000:=by rw[<-ce,Aa ng];exact Aa nc
  have co:=Ab bg;have j6:=Ab fi;have ht:=Ab ew;have jv:=Ab al;have k9:=Ab gh;have mw:=Ab ek;have hg:=Ab c8;have li:=Ab ce;have dh:=Ab (Aa a3).is;clear bg fi ew al gh ek c8 ce;go_wp2_with (at_builtin;refine wpList_append_own_at _ rfl (.tmp 239) (.tmp 241) 76 rfl (b+1) 3 h8 (.int .i64 0) 1 8 Tryz.underlying76 hi g7 i4 g9 rfl (by decide) _ d7 (i64s V.ks) rfl ((Aa co).alloc _) ⟨iq.heap.size,0,none⟩ 1 1 [.int .i64 (k:Int)] rfl rfl (cell_one_new _ _ _) (Bc rfl) (by unfold maxLen;omega) (by omega) (by simp;omega) ?_)
  intro v' oz cz fu _ f8;obtain⟨ot,oy,et⟩:=UIs.keepK (k:=k) (X:=.cells #[.int .i64 (k:Int)] 3) (Aa dh).base (Aa dh).no (Aa jv) (Aa ht) (Aa j6) (Aa k9) (Aa mw) (Aa hg) (fun g b5=>Aa fq g (by omega)) (by rw[Aa li];exact cz) fu (by simpa using f8);obtain⟨o7,om,rfl,_,_⟩:=Ba cz (by omega);have jq:=Ab ((Aa a3).trans et);clear cz fu f8 et;go_wp2;go_ret;rw[<-Aa m3];exact⟨by rw[RM];rfl,Aa jq⟩
theorem JJ (No:Nat->Prop)(B b E:Nat)(bs:List Nat)(u:US)(w:World)(M:UIs No B w b (rowB bs E) u)(af:bs.length=E)(T:E<=25000)(I:u.p<=8*E)(aa:u.out.length<=3000)(ae:u.ks.length<=200000)(ac:∀g,w.heap.size<=g->¬No g)(R:Bool×US)(F:Eh (rowB bs E) u=R):
 Calls Tryz.prog 61 #[.pointer (some ⟨b,0,none⟩)] w fun e w'=>BkA No B w b (rowB bs E) R e w':=by
 obtain⟨l,x1,H⟩:∃l x1,uget (rowB bs E) 1 u=(l,x1):=⟨_,_,rfl⟩
 obtain⟨k,x2,G⟩:∃k x2,uget (rowB bs E) 2 x1=(k,x2):=⟨_,_,rfl⟩
 unfold Eh at F;simp only[H,G]at F
 by_cases Y:x2.e≠0
 . rw[if_pos Y]at F;subst F;exact JH No B b E bs u w M T I l k x1 x2 H G Y
 rw[if_neg Y]at F;have Z:x2.e=0:=by omega
 by_cases U:k=0
 . rw[if_pos U]at F;subst U F;exact RH No B b E bs u w M T I aa ae ac l x1 x2 H G Z _ rfl
 rw[if_neg U]at F
 by_cases ag:3<=k
 . have O:uopen (rowB bs E) k x2=(([],[]),Am 4 x2):=by unfold uopen;rw[if_neg (by omega),if_neg (by omega)]
   rw[O]at F;simp only at F
   rw[if_pos (Bm (by decide))]at F;subst F;exact JI No B b E bs u w M T I l k x1 x2 H G Z ag
 . obtain⟨LA,LB,x3,O⟩:∃LA LB x3,uopen (rowB bs E) k x2=((LA,LB),x3):=⟨_,_,_,rfl⟩
   rw[O]at F;exact O4 No B b E bs u w M af T I aa ae ac l k x1 x2 x3 H G Z (by omega) LA LB O _ rfl R F
theorem UIs.fresh (No:Nat->Prop)(B:Nat)(w:World)(row:List Bool)(E:B<=w.heap.size)(F:¬No w.heap.size):
 UIs No B (w.alloc (.cells #[.string (text row),.int .i64 0,.slice none 0 0,.slice none 0 0,.int .i64 0] 110)) w.heap.size row ⟨0,[],[],0⟩:=
 ⟨E,F,.slice none 0 0,.slice none 0 0,heap_alloc_new _ _,World.ownsRow_nil _ _ _ _,World.ownsRow_nil _ _ _ _,.inl rfl,(fun g e=>by cases e),(fun g e=>by cases e)⟩
def UpA (w:World)(U:US)(e:Ending)(w':World):Prop:=Below w.heap.size w w'/\((U.e=0/\∃ov kv,e=.returned (.tuple #[ov,.int .i64 (((U.p+7)/8:Nat):Int),kv,.int .i64 0])/\w'.ownsRow w.heap.size 5 1 ov U.out.length (u8s U.out))\/ (U.e≠0/\e=.returned (.tuple #[.slice none 0 0,.int .i64 0,.slice none 0 0,.int .i64 U.e])))
theorem Wq (a:Option Addr)(E aw:Nat)(bs:List Nat)(w:World)(av:bs.length=E)(a2:E<=25000)(a1:BytesIn w a bs)(az:∀j,bs.getD j 0<256)(O:US)(a4:Oh (rowB bs E)=O):
 Calls Tryz.prog 39 #[.slice a E aw] w fun e w'=>UpA w O e w':=by
 have a7:=Ab (LX a E aw bs w av az a2 a1);have bh:=Af bs E;have bk:Hid (Dc (rowB bs E) ((rowB bs E).length+1) ⟨0,[],[],0⟩=O):=Ab a4;clear a1 az a4;go_enter Tryz.func39,Tryz.ntmps39
 go_wp2_with fail
 refine(Aa a7).mono ?_;rintro e Y ⟨rfl,al⟩;have bb:=Ab al;have a8:=al.size;clear al;have ao:Hid (UIs (fun g=>g<w.heap.size) w.heap.size (Y.alloc (.cells #[.string (text (rowB bs E)),.int .i64 0,.slice none 0 0,.slice none 0 0,.int .i64 0] 110)) Y.heap.size (rowB bs E) ⟨0,[],[],0⟩):=Ab (UIs.fresh _ _ Y _ a8 (by omega));have ae:=Ab ((Aa bb).alloc a8 (.cells #[.string (text (rowB bs E)),.int .i64 0,.slice none 0 0,.slice none 0 0,.int .i64 0] 110));generalize text (rowB bs E)=bj at*;go_wp2;obtain⟨W2,a5⟩:=exq (Y.alloc (.cells #[.string bj,.int .i64 0,.slice none 0 0,.slice none 0 0,.int .i64 0] 110));obtain⟨b,hb⟩:=exq (Y.heap.size);rw[a5]at ao ae ⊢;rw[hb]at ao ⊢;have b3:w.heap.size<=b:=by omega
 have b9:=(Aa ae).size;clear a5 a7;go_loopw [12] (fun _ wr=>∃(F:Nat) (x:US),Hid (Dc (rowB bs E) F x=O)/\Hid ((rowB bs E).length<x.p+F/\x.p<=(rowB bs E).length/\x.out.length<=3000/\x.ks.length<=x.p)/\Hid (UUp (fun g=>g<w.heap.size) w.heap.size W2 b (rowB bs E) x wr)) (fun _ wr=>Z16 E b wr)
 case atStart=>exact⟨(rowB bs E).length+1,⟨0,[],[],0⟩,bk,Ab ⟨by simp only;omega,VH _,VH _,VH _⟩,Ab (UUp.refl (Aa ao))⟩
 case round=>
  obtain⟨F,x,ai,I,U⟩:=hrel
  cases F with
  |zero=>exact absurd (Aa I).1 (by have:=(Aa I).2.1;omega)
  |succ F=>
   obtain⟨t,y,T⟩:∃t y,Eh (rowB bs E) x=(t,y):=⟨_,_,rfl⟩
   have Z:Hid (Calls Tryz.prog 61 #[.pointer (some ⟨b,0,none⟩)] wr fun e w'=>e=.returned (.bool t)/\UUp (fun g=>g<w.heap.size) w.heap.size wr b (rowB bs E) y w'):=Ab (JJ (fun g=>g<w.heap.size) w.heap.size b E bs x wr (Aa U).is av a2 (by have:=(Aa I).2.1;omega) (Aa I).2.2.1 (by have cd:=(Aa I).2.1;have b7:=(Aa I).2.2.2;omega) (fun g af=>by have:=(Aa U).below.size;omega) (t,y) T);have aa:Dc (rowB bs E) (F+1) x=if t=false/\y.e=0 then Dc (rowB bs E) F y else y:=by rw[Dc,T]
   rw[Aa ai]at aa
   by_cases G:y.e=0
   . have af:=Qb (row:=rowB bs E) (u:=x) (by rw[T];exact G);rw[T]at af;obtain⟨a6,ar,bu,ax,ap⟩:=af.ahead;simp only at a6 ar ax ap
     obtain⟨bn,bf,a3,bi⟩:=Aa I;have ac:Hid (((rowB bs E).length<y.p+F/\y.p<=(rowB bs E).length/\y.out.length<=3000/\y.ks.length<=y.p)/\x.p<y.p):=Ab ⟨⟨by omega,ar,ap a3,by omega⟩,by omega⟩;have ah:=Ab aa.symm;clear a6 ar bu ax ap ai I aa af bn bf a3 bi T
     cases t with
     |false=>
      go_wp2_with fail
      refine(Aa Z).mono ?_;rintro e w3 ⟨rfl,M⟩;have H:=Ab ((Aa U).trans M);clear M;obtain⟨_,_,ag,_⟩:=(Aa H).is.cell;rw[G]at ag;go_wp2;go_roundw
      case rel=>exact⟨F,y,Ab (by have:=Aa ah;simpa[G]using this),Ab (Aa ac).1,H⟩
      case measure=>
       rw[Jz (Aa U).is,Jz (Aa H).is];have b2:=(Aa ac).1.2.1;have bw:=(Aa ac).2;rw[bh]at b2;omega
     |true=>
      have ak:y=O:=by have:=Aa ah;simpa using this
      subst ak;clear ah;go_wp2_with fail
      refine(Aa Z).mono ?_;rintro e w3 ⟨rfl,M⟩;have H:=Ab ((Aa U).trans M);clear M Z;obtain⟨_,b0,ag,_⟩:=(Aa H).is.cell;rw[G]at ag;obtain⟨ov,kv,b5,ce,_,aj,ay,_⟩:=(Aa H).is.rows;have bg:=Ab (Pa aj (B':=w.heap.size) (by omega));have bo:=Ab ((Aa ae).trans (Aa H).below);have b8:y.p<=200000:=by have:=(Aa ac).1.2.1;omega
      obtain⟨bq,bv,rfl⟩:=An aj;obtain⟨a9,ba,rfl⟩:=An ay;have bd:Hid (((y.p:Int)+7)/8=(((y.p+7)/8:Nat):Int)):=Ab (by omega);clear aj ay ac;go_wp2;go_region
      all_goals go_wp2
      refine bodyPost_ret (v:=.tuple #[.slice bq y.out.length bv,.int .i64 (((y.p:Int)+7)/8),.slice a9 y.ks.length ba,.int .i64 0]) ?_ rfl ⟨(Aa bo).drew,.inl ⟨G,_,_,by rw[Aa bd],(Aa bg).drew⟩⟩
      first|rfl|kernel_rfl
   . have ak:y=O:=by rw[aa,if_neg (fun h=>G h.2)]
     subst ak;have bz:(y.e==0)=false:=by rw[beq_eq_false_iff_ne];exact G
     have b4:(y.e !=0)=true:=by simp only[bne_iff_ne,ne_eq];exact G
     have au:Hid (∀W,UUp (fun g=>g<w.heap.size) w.heap.size W2 b (rowB bs E) y W->UpA w y (.returned (.tuple #[.slice none 0 0,.int .i64 0,.slice none 0 0,.int .i64 y.e])) W.drew):=Ab (fun W h=>⟨((Aa ae).trans h.below).drew,.inr ⟨G,rfl⟩⟩);clear ai I aa T G
     cases t
     all_goals
      go_wp2_with fail
      refine(Aa Z).mono ?_;rintro e w3 ⟨rfl,M⟩;have H:=Ab ((Aa U).trans M);clear M Z;obtain⟨_,_,ag,_⟩:=(Aa H).is.cell;have bm:=Ab (Aa au w3 (Aa H));clear au;generalize y.e=bc at*;go_wp2;go_region
      all_goals go_wp2
      refine bodyPost_ret (v:=.tuple #[.slice none 0 0,.int .i64 0,.slice none 0 0,.int .i64 bc]) ?_ rfl (Aa bm)
      first|rfl|kernel_rfl
theorem Z39:UnC True:=by
 intro W a n c pk hl hn T M _;refine(Wq a n c pk W hl (by omega) T (Er M) _ rfl).mono ?_;rintro e w' ⟨G,(⟨E,ov,kv,rfl,I⟩|⟨E,rfl⟩)⟩
 . obtain⟨F,H,rfl,k1,k2,U,O⟩:=Ve I;exact⟨G,.inl ⟨E,F,H,kv,rfl,⟨F,H,rfl,k2,k1⟩,O⟩⟩
 . exact⟨G,.inr ⟨E,rfl⟩⟩
end Go.Proofs.YtleocpdblhbimaaGreatDoor
