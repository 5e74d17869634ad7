import Derived.Test.YtleocpdblhbimaaGreatDoorQ23
set_option linter.unusedSimpArgs false
set_option maxHeartbeats 4000000
namespace Go.Proofs.YtleocpdblhbimaaGreatDoor
open Go.RowKit
set_option linter.unusedVariables false
set_option maxRecDepth 100000
def Bk (No:Nat->Prop)(B:Nat)(w0:World)(b:Nat)(R:Value)(u:US)(w:World):Prop:=
 ∃No' f1 f2,(∀g,No g->No' g)/\(∀g,w.heap.size<=g->¬No' g)/\IIs No' B w b R f1 f2 u/\Fx No' w b f1 f2/\Bl No B w0 w
def SC (No:Nat->Prop)(B:Nat)(w0:World)(b:Nat)(R:Value)(V:US)(e:Ending)(w':World):Prop:=
 (V.e=0/\e=.returned (.tuple #[])/\Bk No B w0 b R V w')\/ (V.e≠0/\e=Flt V.e/\Bl No B w0 w')
theorem Bl.outer {No No':Nat->Prop}{B:Nat}{E w w':World}(F:Bl No B E w)(k:Bl No' B w w')(G:∀g,No g->No' g):Bl No B E w':=F.trans (k.weaken G)
theorem JN (No:Nat->Prop)(B b:Nat)(a:Option Addr)(n F:Nat)(bs:List Nat)(u:US)(G w:World)(h:Bk No B G b (.slice a n F) u w)(af:Rd w No a n bs)(aa:u.p<=8*n)(Z:u.e=0)(ac:u.out.length<=3000)(T:u.ks.length<=48000):
 Calls Tryz.prog 231 #[.pointer (some ⟨b,0,none⟩),.int .i64 0] w fun e w'=>SC No B G b (.slice a n F) (Ds (rowB bs n) 0 u) e w':=by
 obtain⟨No',f1,f2,hn,H,I,U,M⟩:=h;have O:Ds (rowB bs n) 0 u=(if (Cj (rowB bs n) u).e=0 then ukept 0 (Cj (rowB bs n) u)else Cj (rowB bs n) u):=rfl;rw[O];refine(Sx No' B b a n F bs f1 f2 u w I (af.wide hn) aa Z ac T H I.base _ (Ab rfl)).mono ?_;rintro e w' (⟨e0,rfl,E⟩|⟨e0,rfl,Y⟩)
 . exact .inl ⟨e0,rfl,No',f1,f2,hn,fun g ae=>H g (VU E.below.size ae),E.is,U.keep E.below.size E.kp,M.outer E.bl hn⟩
 . exact .inr ⟨e0,rfl,M.outer Y hn⟩
theorem JK (No:Nat->Prop)(B b k:Nat)(R:Value)(u:US)(row:List Bool)(F w:World)(T:Bk No B F b R u w)(Y:3<=k)(aa:k<4):
 Calls Tryz.prog 231 #[.pointer (some ⟨b,0,none⟩),.int .i64 (k:Int)] w fun e w'=>SC No B F b R (Ds row k u) e w':=by
 obtain rfl:k=3:=by omega
 obtain⟨No',f1,f2,hn,U,I,O,H⟩:=T;have M:=Ab H;have E:Hid (Ds row 3 u= {u with e:=4}):=Ab rfl;obtain⟨V,G⟩:=exq (Ds row 3 u);rw[G]at E ⊢;clear I O H G;go_enter Tryz.func231,Tryz.ntmps231
 go_wp2_with fail
 refine(Cf 4 w).mono ?_;rintro e Z ⟨rfl,rfl⟩;go_wp2;exact⟨rfl,.inr ⟨by rw[Aa E];exact(by decide:(4:Int)≠0),by rw[Aa E],Aa M⟩⟩
theorem JM (No:Nat->Prop)(B b:Nat)(a:Option Addr)(n F:Nat)(bs:List Nat)(u:US)(Z w:World)(h:Bk No B Z b (.slice a n F) u w)(bn:Rd w No a n bs)(ba:u.p<=8*n)(bj:u.e=0)(ap:u.out.length<=3000)(a7:u.ks.length<=48000):
 Calls Tryz.prog 231 #[.pointer (some ⟨b,0,none⟩),.int .i64 1] w fun e w'=>SC No B Z b (.slice a n F) (Ds (rowB bs n) 1 u) e w':=by
 have bo:=Af bs n;obtain⟨No',f1,f2,hn,bk,bb,bh,a5⟩:=h;obtain⟨b7,bz,b5,cy,cp⟩:=info_parts Bv;obtain⟨V,M⟩:=exq (Hk (rowB bs n) Ky Ir (8*n+1) u);obtain⟨X,av⟩:=exq (Ds (rowB bs n) 1 u);have bc:Hid ((if V.e=0 then ukept 1 V else V)=X):=Ab (by rw[<-av,<-M,<-bo];rfl);rw[av]
 have cn:Hid (V.e=0->V.ks.length<=48000):=Ab (fun e=>by
  have:=(Jf (rowB bs n) Ky Ir (8*n+1) u (by omega) ap (by rw[M];exact e)).ks
  rw[M]at this;rw[this];exact a7)
 have ci:=Ab (Tr No' B b (.slice a n F) f1 f2 u w bb bh bk);have cg:=Ab (bn.wide hn);have bm:=Ab a5;have aa:=Ab hn;have ax:=Ab (And.intro ba (And.intro bj ap));have cv:=Ab M;clear bb bh a5 bn ba bj ap a7 bk M av hn;go_enter Tryz.func231,Tryz.ntmps231
 go_wp2_with fail
 refine(Aa ci).mono ?_;rintro e I ⟨H,g1,m1,b1,n1,g2,m2,b2,n2,ae,af,rfl,a8,al,aw,az,ak,O⟩;obtain⟨U,ao⟩:=exq (DV g1 m1);obtain⟨ac,aj⟩:=exq (DV g2 m2);have cd:=Ab (Un H B b a n F bs U ac u I (by rw[<-ao,<-aj];exact a8) (((Aa cg).keep O.below.size O.kp).wide ae) (Aa ax).1 (Aa ax).2.1 (Aa ax).2.2 g1 m1 b1 n1 g2 m2 b2 n2 Ky Ir al PO az aw PN ak af V cv)
 have cu:Hid (∀Y w',IUp H B I b (.slice a n F) U ac Y w'->Bk No B Z b (.slice a n F) Y w'):=Ab (fun Y w' G=>⟨H,U,ac,fun g E=>ae g (Aa aa g E),fun g E=>af g (VU G.below.size E),G.is,by
  have:Fx H I b U ac:=.inr ⟨g1,m1,b1,n1,g2,m2,b2,n2,ao.symm,aj.symm,al,aw,az,ak⟩
  exact this.keep G.below.size G.kp,((Aa bm).outer O (Aa aa)).outer G.bl (fun g E=>ae g (Aa aa g E))⟩)
 have cm:Hid (∀w',Bl H B I w'->Bl No B Z w'):=Ab (fun w' hb=>((Aa bm).outer O (Aa aa)).outer hb (fun g E=>ae g (Aa aa g E)));have b8:=Ab af;clear ae af a8 al aw az ak O ao aj;go_wp2_with fail
 refine(Aa cd).mono ?_;rintro e b4 E
 rcases E with ⟨e0,rfl,ai⟩|⟨e0,rfl,bi⟩
 rotate_left
 . have T:Hid (X=V):=Ab (by rw[<-Aa bc,if_neg e0]);have cw:=Ab (Aa cm _ bi);clear bi;go_wp2;exact⟨rfl,.inr ⟨by rw[Aa T];exact e0,by rw[Aa T],Aa cw⟩⟩
 have T:Hid (X= {V with ks:=V.ks++ [1]}):=Ab (by rw[<-Aa bc,if_pos e0];rfl);have b3:=ai.below.size;have ah:=ai.is;have de:=ah.lt;obtain⟨da,dc,ce,c7,bf,a2,au,a4,a3,a6⟩:=ah.rows;obtain⟨L,ar⟩:=exq (V.ks.length);have ag:=au;have bv:=Aa cn e0;rw[ar]at ag bv;obtain⟨dh,db,rfl⟩:=An ag;have bw:=Ab ag;have a1:=Ab ah;have bq:=Ab bf;have ct:=Ab a2;have cz:=Ab au;have ck:=Ab a4;have b0:=Ab a3;have b9:=Ab a6;have c5:=Ab ar;have cq:=Ab ai;clear ai ah bf a2 au a4 a3 a6 ag ar ce;go_wp2_with (at_builtin;refine wpList_append_own_at _ rfl _ _ 76 rfl (b+1) 3 b7 (.int .i64 0) 1 8 Tryz.underlying76 bz b5 cy cp rfl (by decide) _ L (i64s V.ks) rfl ((Aa bw).alloc _) ⟨b4.heap.size,0,none⟩ 1 1 [.int .i64 ((1:Nat):Int)] rfl rfl (cell_one_new _ _ _) (Bc rfl) (by unfold maxLen;omega) (by omega) (by simp;omega) ?_)
 intro v' c8 ay bd _ a9;obtain⟨dd,df,cj,_,_⟩:=Ba ay (by omega);obtain⟨c6,c9,bg⟩:=IIs.kept (c:=1) (v':=v') (Aa a1).base (Aa a1).no (Aa bq) (Aa ct) (Aa cz) (Aa ck) (Aa b0) (Aa b9) (fun g E=>Aa b8 g (VU b3 E)) (by rw[Aa c5];exact ay) bd (by simpa using a9);have co:=Ab ((Aa cq).trans bg);have bu:Hid (∀w',IUp H B I b (.slice a n F) U ac {V with ks:=V.ks++ [1]} w'->SC No B Z b (.slice a n F) X (.returned (.tuple #[])) w'):=Ab (fun w' G=>.inl ⟨by rw[Aa T];exact e0,rfl,by rw[Aa T];exact Aa cu _ w' G⟩);subst cj;clear bg ay bd a9;go_wp2;go_end0
 exact Aa bu _ (Aa co)
theorem JL (No:Nat->Prop)(B b:Nat)(a:Option Addr)(n I:Nat)(bs:List Nat)(u:US)(ag w:World)(h:Bk No B ag b (.slice a n I) u w)(ba:Rd w No a n bs)(bu:u.p<=8*n)(ci:u.e=0)(bv:u.out.length<=3000)(bm:u.ks.length<=48000):
 Calls Tryz.prog 231 #[.pointer (some ⟨b,0,none⟩),.int .i64 2] w fun e w'=>SC No B ag b (.slice a n I) (Ds (rowB bs n) 2 u) e w':=by
 have bc:=Af bs n;obtain⟨No',Z,ac,hn,a6,bw,ce,bj⟩:=h;obtain⟨c9,cy,c7,ds,dm⟩:=info_parts Bv;obtain⟨A,C,x,ah⟩:∃A C x,Db (rowB bs n) u=((A,C),x):=⟨_,_,_,rfl⟩
 obtain⟨V,af⟩:=exq (Hk (rowB bs n) A C (8*n+1) x);obtain⟨X,a1⟩:=exq (Ds (rowB bs n) 2 u)
 have bz:X=if x.e≠0 then x else (if V.e=0 then ukept 2 V else V):=by
  rw[<-a1,<-af,<-bc];show (if (Db (rowB bs n) u).2.e≠0 then (Db (rowB bs n) u).2 else Jg 2 (Hk (rowB bs n) (Db (rowB bs n) u).1.1 (Db (rowB bs n) u).1.2 ((rowB bs n).length+1) (Db (rowB bs n) u).2))=_
  rw[ah];rfl
 rw[a1];have b8:=Ab bz
 have b9:Hid (x.e=0->Ahd (rowB bs n) u x):=Ab (fun e=>by
  have:=Pv (rowB bs n) u (by omega) bv (by rw[ah];exact e)
  rw[ah]at this;exact this)
 have ar:Hid (V.e=0->x.e=0->V.ks.length<=48000):=Ab (fun e e2=>by
  have q:=Aa b9 e2;have:=(Jf (rowB bs n) A C (8*n+1) x q.le q.out (by rw[af];exact e)).ks
  rw[af]at this;rw[this,q.ks];exact bm)
 have c8:=Ab (D4 No' B b a n I bs Z ac u w bw (ba.wide hn) bu ci a6 A C x (Ab ah));have df:=Ab (ba.wide hn);have a7:=Ab bj;have aa:=Ab hn;have dt:=Ab a6;have cq:=Ab ce;have dr:=Ab af;clear bw ce bj ba bu ci bv bm a6 af a1 hn ah bz;go_enter Tryz.func231,Tryz.ntmps231
 go_wp2_with fail
 refine(Aa c8).mono ?_;rintro e M E
 rcases E with ⟨ex,rfl,ck⟩|⟨ex,G,b7,bn,g1,m1,b1,n1,g2,m2,b2,n2,rfl,al,au,av,ak⟩
 . have O:Hid (X=x):=Ab (by rw[Aa b8,if_pos ex]);have a4:=Ab ((Aa a7).outer ck (Aa aa));clear ck;go_wp2;exact⟨rfl,.inr ⟨by rw[Aa O];exact ex,by rw[Aa O],Aa a4⟩⟩
 have b0:Hid ((if V.e=0 then ukept 2 V else V)=X):=Ab (by
  have:=Aa b8
  rw[if_neg (show ¬x.e≠0 from fun c=>c ex)]at this;exact this.symm)
 have ax:=Aa b9 ex;have ay:=ax.le;rw[bc]at ay;have cd:=Ab (fun e=>Aa ar e ex);clear ar;have ar:=cd;clear cd;obtain⟨H,ae⟩:=exq (NK No' w.heap.size M.heap.size);have F:∀g,No' g->H g:=fun g E=>by rw[<-ae];exact .inl E
 have ai:∀g,M.heap.size<=g->¬H g:=fun g E e=>by
  rw[<-ae]at e;have:=G.bl.below.size
  rcases e with e|e
  . exact Aa dt g (by omega) e
  . omega
 have U:∀g,w.heap.size<=g->g<M.heap.size->H g:=fun g cm de=>by rw[<-ae];exact .inr ⟨cm,de⟩
 have bo:IIs H B M b (.slice a n I) Z ac x:=by rw[<-ae];exact G.inner
 have a3:=al.lt;have bg:=al.is.lt;have a9:=au.lt;have cj:=au.is.lt;have dc:=Ab (Un H B b a n I bs Z ac x M bo (((Aa df).keep G.bl.below.size G.bl.kp).wide F) ay ex ax.out g1 m1 b1 n1 g2 m2 b2 n2 A C al b7 ⟨U _ av.1 a3.1,U _ av.2.1 a3.2,U _ av.2.2 bg⟩ au bn ⟨U _ ak.1 a9.1,U _ ak.2.1 a9.2,U _ ak.2.2 cj⟩ ai V dr)
 have dq:Hid (∀Y w',IUp H B M b (.slice a n I) Z ac Y w'->Bk No B ag b (.slice a n I) Y w'):=Ab (fun Y w' T=>⟨H,Z,ac,fun g E=>F g (Aa aa g E),fun g E=>ai g (VU T.below.size E),T.is,by
  have f1:=(Aa cq).keep G.bl.below.size G.bl.kp;have f2:=f1.keep T.below.size (T.kp.weaken F)
  rcases f2 with f2|⟨g1,m1,b1,n1,g2,m2,b2,n2,cv,cw,bb,ct,a2,a5⟩
  . exact .inl f2
  . exact .inr ⟨g1,m1,b1,n1,g2,m2,b2,n2,cv,cw,bb,ct,⟨F _ a2.1,F _ a2.2.1,F _ a2.2.2⟩,⟨F _ a5.1,F _ a5.2.1,F _ a5.2.2⟩⟩,((Aa a7).outer G.bl (Aa aa)).outer T.bl (fun g E=>F g (Aa aa g E))⟩)
 have dj:Hid (∀w',Bl H B M w'->Bl No B ag w'):=Ab (fun w' hb=>((Aa a7).outer G.bl (Aa aa)).outer hb (fun g E=>F g (Aa aa g E)));have da:=Ab ai;clear F ai bo al au av ak G ae U a3 bg a9 cj ax ay b7 bn;go_wp2_with fail
 refine(Aa dc).mono ?_;rintro e c6 E
 rcases E with ⟨e0,rfl,ap⟩|⟨e0,rfl,cg⟩
 rotate_left
 . have O:Hid (X=V):=Ab (by rw[<-Aa b0,if_neg e0]);have a4:=Ab (Aa dj _ cg);clear cg;go_wp2;exact⟨rfl,.inr ⟨by rw[Aa O];exact e0,by rw[Aa O],Aa a4⟩⟩
 have O:Hid (X= {V with ks:=V.ks++ [2]}):=Ab (by rw[<-Aa b0,if_pos e0];rfl);have c5:=ap.below.size;have ao:=ap.is;have d8:=ao.lt;obtain⟨dz,d6,dd,dw,b4,bf,az,bi,bh,bk⟩:=ao.rows;obtain⟨L,aw⟩:=exq (V.ks.length);have aj:=az;have cp:=Aa ar e0;rw[aw]at aj cp;obtain⟨eb,d5,rfl⟩:=An aj;have cu:=Ab aj;have bd:=Ab ao;have cn:=Ab b4;have dp:=Ab bf;have du:=Ab az;have di:=Ab bi;have cz:=Ab bh;have db:=Ab bk;have dv:=Ab aw;have dn:=Ab ap;clear ap ao b4 bf az bi bh bk aj aw dd;go_wp2_with (at_builtin;refine wpList_append_own_at _ rfl _ _ 76 rfl (b+1) 3 c9 (.int .i64 0) 1 8 Tryz.underlying76 cy c7 ds dm rfl (by decide) _ L (i64s V.ks) rfl ((Aa cu).alloc _) ⟨c6.heap.size,0,none⟩ 1 1 [.int .i64 ((2:Nat):Int)] rfl rfl (cell_one_new _ _ _) (Bc rfl) (by unfold maxLen;omega) (by omega) (by simp;omega) ?_)
 intro v' dx a8 b3 _ bq;obtain⟨d7,d9,dh,_,_⟩:=Ba a8 (by omega);obtain⟨bb,dy,b5⟩:=IIs.kept (c:=2) (v':=v') (Aa bd).base (Aa bd).no (Aa cn) (Aa dp) (Aa du) (Aa di) (Aa cz) (Aa db) (fun g E=>Aa da g (VU c5 E)) (by rw[Aa dv];exact a8) b3 (by simpa using bq);have dl:=Ab ((Aa dn).trans b5);have co:Hid (∀w',IUp H B M b (.slice a n I) Z ac {V with ks:=V.ks++ [2]} w'->SC No B ag b (.slice a n I) X (.returned (.tuple #[])) w'):=Ab (fun w' T=>.inl ⟨by rw[Aa O];exact e0,rfl,by rw[Aa O];exact Aa dq _ w' T⟩);subst dh;clear b5 a8 b3 bq;go_wp2;go_end0
 exact Aa co _ (Aa dl)
theorem RI (No:Nat->Prop)(B b k:Nat)(a:Option Addr)(n F:Nat)(bs:List Nat)(u:US)(E w:World)(G:Bk No B E b (.slice a n F) u w)(O:Rd w No a n bs)(M:u.p<=8*n)(I:u.e=0)(T:u.out.length<=3000)(H:u.ks.length<=48000)(U:k<4):
 Calls Tryz.prog 231 #[.pointer (some ⟨b,0,none⟩),.int .i64 (k:Int)] w fun e w'=>SC No B E b (.slice a n F) (Ds (rowB bs n) k u) e w':=by
 rcases(by omega:k=0\/k=1\/k=2\/k=3)with rfl|rfl|rfl|rfl
 . exact JN No B b a n F bs u E w G O M I T H
 . exact JM No B b a n F bs u E w G O M I T H
 . exact JL No B b a n F bs u E w G O M I T H
 . exact JK No B b 3 (.slice a n F) u (rowB bs n) E w G (by decide) (by decide)
theorem Bk.cellP {No:Nat->Prop}{B b n:Nat}{G w:World}{R:Value}{u:US}(E:Bk No B G b R u w):NY n b w=8*n+1-u.p:=by
 obtain⟨No',f1,f2,_,_,F,_⟩:=E;exact Mb F
theorem O5 (No:Nat->Prop)(B b F:Nat)(a:Option Addr)(n H:Nat)(bs:List Nat)(u:US)(G w:World)(h:Bk No B G b (.slice a n H) u w)(af:Rd w No a n bs)(Y:u.p<=8*n)(T:u.e=0)(M:F<=16)(r:Nat)(v:US)(Z:uget (rowB bs n) F u=(r,v)):
 Calls Tryz.prog 230 #[.pointer (some ⟨b,0,none⟩),.int .i64 (F:Int)] w fun e w'=>(v.e=0/\e=.returned (.int .i64 (r:Int))/\Bk No B G b (.slice a n H) v w')\/ (v.e≠0/\e=Flt v.e/\Bl No B G w'):=by
 obtain⟨No',f1,f2,hn,aa,ac,O,I⟩:=h;refine(Dx No' B b a n H F bs f1 f2 u w ac (af.wide hn) Y T M r v (Ab Z)).mono ?_;rintro e w' (⟨e0,rfl,E⟩|⟨e0,rfl,U⟩)
 . exact .inl ⟨e0,rfl,No',f1,f2,hn,fun g ae=>aa g (VU E.below.size ae),E.is,O.keep E.below.size E.kp,I.outer E.bl hn⟩
 . exact .inr ⟨e0,rfl,I.outer U hn⟩
theorem Bk.bl {No:Nat->Prop}{B b:Nat}{E w:World}{R:Value}{u:US}(F:Bk No B E b R u w):Bl No B E w:=by
 obtain⟨No',f1,f2,_,_,_,_,G⟩:=F;exact G
theorem JG (No:Nat->Prop)(B b:Nat)(a:Option Addr)(n G:Nat)(bs:List Nat)(w:World)(h:IIs No B w b (.slice a n G) .nilFunc .nilFunc US0)(au:Rd w No a n bs)(bc:∀g,w.heap.size<=g->¬No g):
 Calls Tryz.prog 205 #[.pointer (some ⟨b,0,none⟩)] w fun e w'=>SC No B w b (.slice a n G) (Dk (rowB bs n)) e w':=by
 have U:=Af bs n;have ck:=au.few;obtain⟨row,ac⟩:=exq (rowB bs n);obtain⟨V,ag⟩:=exq (Dk row);have ci:Hid (Bk No B w b (.slice a n G) US0 w):=Ab ⟨No,.nilFunc,.nilFunc,fun _ h=>h,bc,h,.inl ⟨rfl,rfl⟩,Bl.refl _ _ _⟩;have a5:Hid (∀wr,Bl No B w wr->Rd wr No a n bs):=Ab (fun wr hb=>au.keep hb.below.size hb.kp);have ba:Hid (∀(wr:World) (u:US) (size r:Nat) (v:US),Bk No B w b (.slice a n G) u wr->u.p<=8*n->u.e=0->size<=16->uget row size u=(r,v)->Calls Tryz.prog 230 #[.pointer (some ⟨b,0,none⟩),.int .i64 (size:Int)] wr fun e w'=>(v.e=0/\e=.returned (.int .i64 (r:Int))/\Bk No B w b (.slice a n G) v w')\/ (v.e≠0/\e=Flt v.e/\Bl No B w w')):=Ab (fun wr u size r v hb I H O T=>O5 No B b size a n G bs u w wr hb (Aa a5 wr hb.bl) I H O r v (by rw[ac];exact T))
 have bm:Hid (∀(wr:World) (u:US) (k:Nat),Bk No B w b (.slice a n G) u wr->u.p<=8*n->u.e=0->u.out.length<=3000->u.ks.length<=48000->k<4->Calls Tryz.prog 231 #[.pointer (some ⟨b,0,none⟩),.int .i64 (k:Int)] wr fun e w'=>SC No B w b (.slice a n G) (Ds row k u) e w'):=Ab (fun wr u k hb I H O T bj=>by
  have:=RI No B b k a n G bs u w wr hb (Aa a5 wr hb.bl) I H O T bj
  rw[ac]at this;exact this)
 rw[ac]at U ⊢;rw[ag];obtain⟨av,ap⟩:=exq (row.length+1);have b7:Hid (Bw row av US0=V):=Ab (by rw[<-ap];exact ag);have b3:Hid (8*n+1<=US0.p+av):=Ab (by rw[<-ap,U];show _<=0+_;omega);clear h au bc ac ag ap;go_enter Tryz.func205,Tryz.ntmps205
 go_wp2;go_loopw [2] (fun E wr=>∃(u:US) (l f:Nat),E=.int .i64 (l:Int)/\Hid (u.e=0/\u.p<=8*n/\u.out.length<=3000/\u.ks.length<=u.p)/\Hid (Bk No B w b (.slice a n G) u wr)/\((l=0/\Hid (Bw row f u=V)/\Hid (8*n+1<=u.p+f))\/ (l≠0/\Hid (u=V)))) (fun _ wr=>NY n b wr)
 case atStart=>exact⟨US0,0,av,rfl,Ab ⟨rfl,VH _,VH _,VH _⟩,ci,.inl ⟨rfl,b7,b3⟩⟩
 case round=>
  obtain⟨u,l,f,rfl,cg,aj,b0⟩:=hrel;obtain⟨ar,bq,a2,cm⟩:=Aa cg
  rcases b0 with ⟨rfl,ay,a1⟩|⟨hl,ah⟩
  . have ce:=Aa a1
    cases f with
    |zero=>exact absurd ce (by omega)
    |succ f=>
     have al:=Aa ay;rw[Bw]at al;obtain⟨r1,F,I⟩:∃r1 F,uget row 1 u=(r1,F):=⟨_,_,rfl⟩
     obtain⟨r2,E,H⟩:∃r2 E,uget row 2 F=(r2,E):=⟨_,_,rfl⟩
     have bd:Bj row u=if F.e≠0 then (1,F)else if E.e≠0 then (1,E)else (r1,Ds row r2 E):=by
      unfold Bj;rw[I];simp only
      rw[H]
     have bi:F.p<=8*n:=by have:=Gr row 1 u (by omega);rw[I,U]at this;exact this
     have bk:E.p<=8*n:=by have:=Gr row 2 F (by omega);rw[H,U]at this;exact this
     have o1:F.out=u.out:=by have:=Cm row 1 u;rw[I]at this;exact this
     have o2:E.out=u.out:=by have:=Cm row 2 F;rw[H]at this;exact this.trans o1
     have a8:F.ks=u.ks:=by have:=Ic row 1 u;rw[I]at this;exact this
     have a6:E.ks=u.ks:=by have:=Ic row 2 F;rw[H]at this;exact this.trans a8
     have l2:r2<4:=by have:=SD row 2 F;rw[H]at this;exact this
     have b5:Hid ((Bj row u).2.e=0->(Bj row u).2.ks.length=u.ks.length+1/\u.p+3<=(Bj row u).2.p/\(Bj row u).2.p<=row.length/\(Bj row u).2.out.length<=3000):=Ab (Hl row n U u ar (by omega) a2);have bn:=Ab (Aa ba wr u 1 r1 F (Aa aj) bq ar (by decide) I);have bo:Hid (∀W,F.e=0->Bk No B w b (.slice a n G) F W->Calls Tryz.prog 230 #[.pointer (some ⟨b,0,none⟩),.int .i64 2] W fun e w'=>(E.e=0/\e=.returned (.int .i64 (r2:Int))/\Bk No B w b (.slice a n G) E w')\/ (E.e≠0/\e=Flt E.e/\Bl No B w w')):=Ab (fun W O T=>Aa ba W F 2 r2 E T bi O (by decide) H);have b8:Hid (∀W,E.e=0->Bk No B w b (.slice a n G) E W->Calls Tryz.prog 231 #[.pointer (some ⟨b,0,none⟩),.int .i64 (r2:Int)] W fun e w'=>SC No B w b (.slice a n G) (Ds row r2 E) e w'):=Ab (fun W O T=>Aa bm W E r2 T bk O (by rw[o2];exact a2) (by rw[a6];omega) l2);have ak:=Ab bd;have ao:=Ab al;have b4:=Ab ((Aa aj).cellP (n:=n));clear al bd I H o1 o2 a8 a6 ay a1;go_wp2_with fail
     refine(Aa bn).mono ?_;rintro e bg (⟨Z,rfl,aw⟩|⟨Z,rfl,a7⟩)
     rotate_left
     . have M:Hid (V=F):=Ab (by
        have:=Aa ao
        rw[Aa ak,if_pos Z,if_neg (fun c=>absurd (show (1:Nat)=0 from c.1) (by decide))]at this;exact this.symm)
       have aa:=Ab a7;clear a7;go_wp2;exact⟨rfl,.inr ⟨by rw[Aa M];exact Z,by rw[Aa M],Aa aa⟩⟩
     have cd:=Ab aw;clear aw;go_wp2_with fail
     refine(Aa bo bg Z (Aa cd)).mono ?_;rintro e bu (⟨e2,rfl,bf⟩|⟨e2,rfl,az⟩)
     rotate_left
     . have M:Hid (V=E):=Ab (by
        have:=Aa ao
        rw[Aa ak,if_neg (show ¬F.e≠0 from fun c=>c Z),if_pos e2,if_neg (fun c=>absurd (show (1:Nat)=0 from c.1) (by decide))]at this;exact this.symm)
       have aa:=Ab az;clear az;go_wp2;exact⟨rfl,.inr ⟨by rw[Aa M];exact e2,by rw[Aa M],Aa aa⟩⟩
     have bz:=Ab bf;have a9:Hid (Bj row u=(r1,Ds row r2 E)):=Ab (by rw[Aa ak,if_neg (show ¬F.e≠0 from fun c=>c Z),if_neg (show ¬E.e≠0 from fun c=>c e2)]);clear bf;go_wp2_with fail
     refine(Aa b8 bu e2 (Aa bz)).mono ?_;obtain⟨Y,a4⟩:=exq (Ds row r2 E);rw[a4]at a9 ⊢;have af:=Aa ao;have ae:=Aa b5;rw[Aa a9]at af ae;simp only at af ae
     have ax:=Ab af;have bv:=Ab ae;clear af ae a4;rintro e w3 (⟨e3,rfl,ai⟩|⟨e3,rfl,a3⟩)
     rotate_left
     . have M:Hid (V=Y):=Ab (by
        have:=Aa ax
        rw[if_neg (fun c=>e3 c.2)]at this;exact this.symm)
       have aa:=Ab a3;clear a3;go_wp2;exact⟨rfl,.inr ⟨by rw[Aa M];exact e3,by rw[Aa M],Aa aa⟩⟩
     obtain⟨y1,y2,bb,bw⟩:=Aa bv e3;rw[U]at bb;have bh:=Ab ai;have b9:=Ab (ai.cellP (n:=n))
     have cj:Hid ((r1=0/\Hid (Bw row f Y=V)/\Hid (8*n+1<=Y.p+f))\/ (r1≠0/\Hid (Y=V))):=Ab (by
      have:=Aa ax
      by_cases c:r1=0
      . rw[if_pos ⟨c,e3⟩]at this;exact .inl ⟨c,Ab this,Ab (by omega)⟩
      . rw[if_neg (fun d=>c d.1)]at this;exact .inr ⟨c,Ab this⟩)
     clear ai;go_wp2;go_roundw
     case rel=>exact⟨Y,r1,f,rfl,Ab ⟨e3,bb,bw,by omega⟩,bh,Aa cj⟩
     case measure=>rw[Aa b9,Aa b4];omega
  . have hb:((l:Int)==0)=false:=by rw[beq_eq_false_iff_ne];omega
    have M:Hid (SC No B w b (.slice a n G) V (.returned (.tuple #[])) wr):=Ab (.inl ⟨by rw[<-Aa ah];exact ar,rfl,by rw[<-Aa ah];exact Aa aj⟩);clear ah;go_wp2;go_end0
    exact Aa M
end Go.Proofs.YtleocpdblhbimaaGreatDoor
namespace Go.Proofs.YtleocpdblhbimaaGreatDoor
set_option linter.unusedVariables false
set_option maxRecDepth 100000
theorem Ci (row:List Bool)(n:Nat)(u:US)(E:0<=u.e):0<=(uget row n u).2.e:=by
 unfold uget
 split
 . split
   . exact(by decide:(0:Int)<=7)
   . exact E
 . exact E
theorem BZ (l:List Int)(row:List Bool)(p:Nat):∀f n,0<=(Ej l row p f n).2.2
 |0,n=>(by decide:(0:Int)<=8)
 |f+1,n=>by
  unfold Ej
  split
  . exact(by decide:(0:Int)<=7)
  . split
    . exact(by decide:(0:Int)<=0)
    . exact BZ l row p f (n+1)
theorem Ef (l:List Int)(row:List Bool)(u:US)(E:0<=u.e):0<=(uplace l row u).2.e:=by
 unfold uplace
 split
 . exact BZ l row u.p 15 1
 . exact E
theorem Ft (x:Int)(u:US)(F:0<=x)(E:0<=u.e):0<=(Am x u).e:=by
 unfold Am
 split
 . exact F
 . exact E
theorem KD (c:Nat)(u:US)(E:0<=u.e):0<=(Fd c u).e:=by
 unfold Fd
 split
 . split
   . exact(by decide:(0:Int)<=2)
   . exact E
 . exact E
theorem Zh (row:List Bool):∀(k:Nat) (u:US),0<=u.e->0<=(ustore row k u).e
 |0,u,h=>h
 |k+1,u,h=>by
  unfold ustore
  split
  . exact Zh row k _ (KD _ _ (Ci _ _ _ h))
  . exact h
theorem BF (d:Nat):∀(k:Nat) (u:US),0<=u.e->0<=(ucopy d k u).e
 |0,u,h=>h
 |k+1,u,h=>by
  unfold ucopy
  split
  . exact BF d k _ (KD _ _ h)
  . exact h
theorem GI (row:List Bool)(u:US)(E:0<=u.e):0<=(Cj row u).e:=by
 have F:0<=(Cl row u).2.e:=by
  unfold Cl;dsimp only
  split
  . exact Ft _ _ (by decide) (Ci _ _ _ (Ci _ _ _ E))
  . exact Ci _ _ _ (Ci _ _ _ E)
 unfold Cj;dsimp only
 split
 . exact Ft _ _ (by decide) F
 . exact Zh _ _ _ F
theorem OQ (row:List Bool)(l:List Int)(u:US)(E:0<=u.e):0<=(Me row l u).2.e:=by
 unfold Me
 split
 . exact Ef _ _ _ E
 . split
   . exact(by decide:(0:Int)<=8)
   . exact Ci _ _ _ (Ef _ _ _ E)
theorem Z1g (d k:Nat)(u:US)(E:0<=u.e):0<=(Jh d k u).e:=by
 unfold Jh
 split
 . exact(by decide:(0:Int)<=9)
 . split
   . exact(by decide:(0:Int)<=2)
   . exact BF _ _ _ E
theorem CK (row:List Bool)(lb:List Int)(k:Nat)(u:US)(E:0<=u.e):0<=(Co row lb k u).e:=by
 unfold Co
 split
 . split
   . exact(by decide:(0:Int)<=2)
   . exact E
 . split
   . exact(by decide:(0:Int)<=8)
   . split
     . exact Ci _ _ _ E
     . split
       . exact OQ _ _ _ (Ci _ _ _ E)
       . exact Z1g _ _ _ (OQ _ _ _ (Ci _ _ _ E))
theorem Xy (row:List Bool)(E lb:List Int):∀(f:Nat) (u:US),0<=u.e->0<=(Hk row E lb f u).e
 |0,u,h=>by
  unfold Hk
  split
  . exact Ef _ _ _ h
  . exact Ef _ _ _ h
 |f+1,u,h=>by
  rw[Hj]
  split
  . exact Ef _ _ _ h
  . split
    . exact Ef _ _ _ h
    . split
      . exact CK _ _ _ _ (Ef _ _ _ h)
      . exact Xy row E lb f _ (CK _ _ _ _ (Ef _ _ _ h))
theorem Zi (row:List Bool):∀(ks:List Nat) (s:List Int) (u:US),0<=u.e->0<=(usmall row ks s u).2.e
 | [],s,u,h=>h
 |k::r,s,u,h=>by
  rw[usmall];exact Zi row r _ _ (Ci _ _ _ h)
theorem TC (row:List Bool)(l:List Int)(k:Nat)(u:US)(E:0<=u.e):0<=(ukind row l k u).2.2.e:=by
 unfold ukind
 split
 . split
   . exact Ft _ _ (by decide) E
   . exact Ci _ _ _ E
 . split
   . exact Ci _ _ _ E
   . split
     . exact Ci _ _ _ E
     . exact E
theorem SW (tot:Nat)(l:List Int)(r:Int×Nat×US)(E:0<=r.2.2.e):0<=(Td tot l r).2.e:=by
 unfold Td;dsimp only
 split
 . exact Ft _ _ (by decide) E
 . exact E
theorem BD (row:List Bool)(S:List Int)(tot:Nat):∀(F:Nat) (l:List Int) (u:US),0<=u.e->0<=(ulens row S tot F l u).2.e
 |0,l,u,h=>h
 |F+1,l,u,h=>by
  rw[ulens]
  split
  . exact BD row S tot F _ _ (SW _ _ _ (TC _ _ _ _ (Ef _ _ _ h)))
  . exact h
theorem AY (row:List Bool)(u:US)(G:0<=u.e):0<=(Db row u).2.e:=by
 unfold Db;dsimp only;have E:=Ci row 4 _ (Ci row 5 _ (Ci row 5 u G));generalize (uget row 5 u).1=m0 at*;generalize (uget row 5 (uget row 5 u).2).1=n0 at*;generalize uget row 4 (uget row 5 (uget row 5 u).2).2=g at*
 have F:0<=(Gk row (m0+257) (n0+1) (g.1+4) g.2).2.e:=by
  unfold Gk;refine Zi _ _ _ _ ?_
  split
  . exact Ft _ _ (by decide) E
  . exact E
 generalize Gk row (m0+257) (n0+1) (g.1+4) g.2=s at*
 have hc:0<=(Qa s).e:=by
  unfold Qa
  split
  . exact Ft _ _ (by decide) F
  . exact F
 unfold Ke
 split
 . exact hc
 . have hl:=BD row s.1 (m0+257+(n0+1)) (m0+257+(n0+1)) [] (Qa s) hc;generalize ulens row s.1 (m0+257+(n0+1)) (m0+257+(n0+1)) [] (Qa s)=r at*;unfold Gl
   split
   . exact hl
   . split
     . exact Ft _ _ (by decide) hl
     . exact hl
theorem Yc (k:Nat)(u:US)(E:0<=u.e):0<=(Jg k u).e:=by
 unfold Jg
 split
 . exact E
 . exact E
theorem Z1d (row:List Bool)(k:Nat)(u:US)(E:0<=u.e):0<=(Ds row k u).e:=by
 unfold Ds
 split
 . exact Yc _ _ (GI _ _ E)
 . split
   . exact Yc _ _ (Xy _ _ _ _ _ E)
   . split
     . split
       . exact AY _ _ E
       . exact Yc _ _ (Xy _ _ _ _ _ (AY _ _ E))
     . exact(by decide:(0:Int)<=4)
theorem I9 (row:List Bool)(u:US)(E:0<=u.e):0<=(Bj row u).2.e:=by
 unfold Bj
 split
 . exact Ci _ _ _ E
 . split
   . exact Ci _ _ _ (Ci _ _ _ E)
   . exact Z1d _ _ _ (Ci _ _ _ (Ci _ _ _ E))
theorem Vo (row:List Bool):∀(F:Nat) (u:US),0<=u.e->0<=(Bw row F u).e
 |0,u,h=>h
 |F+1,u,h=>by
  rw[Bw]
  split
  . exact Vo row F _ (I9 row u h)
  . exact I9 row u h
theorem Z19 (row:List Bool):0<=(Dk row).e:=Vo row _ _ (by decide)
end Go.Proofs.YtleocpdblhbimaaGreatDoor
namespace Go.Proofs.YtleocpdblhbimaaGreatDoor
open Go.RowKit
set_option linter.unusedVariables false
set_option maxRecDepth 100000
theorem Wr (a:Option Addr)(n E:Nat)(bs:List Nat)(w:World)(ah:bs.length=n)(F:n<=6000)(I:BytesIn w a bs)(Z:∀j,bs.getD j 0<256):
 Calls Tryz.prog 166 #[.slice a n E] w fun e w'=>Z8h w bs n e w':=by
 refine(EL a n E bs w F (Dk (rowB bs n)) ?_ (Z19 _) (fun e=> ?_)).mono (fun e w' h=>h)
 . intro No B b W ag T ai au ap G
   have U:Rd w No a n bs:=⟨ah,F,I,Z,fun b o ea ae=>ai b (by
    rcases I with Y|⟨ao,ar,M,af,_⟩
    . exact absurd Y ae
    . rw[ea]at M;cases M;exact af)⟩
   have aa:Rd W No a n bs:=U.keep G.size (fun g H _=>G.block g H);refine(JG No B b a n E bs W ag aa (fun g H=>T g (by omega))).mono ?_;rintro e w' (⟨e0,rfl,hK⟩|⟨e0,rfl,hb⟩)
   . obtain⟨No',f1,f2,ac,ak,aj,al,O⟩:=hK;exact .inl ⟨e0,rfl,f1,f2,aj.weak ac,O.below,O.kp⟩
   . exact .inr ⟨e0,rfl,hb.below,hb.kp⟩
 . have:=(Rn (rowB bs n) n (Af bs n) e).2.1
   rw[Af]at this;omega
theorem Tc (a:Option Addr)(n E:Nat)(w:World)(F:6000<n)(G:n<=9223372036854775807):
 Calls Tryz.prog 166 #[.slice a n E] w fun e w'=>e=.returned (.tuple #[.slice none 0 0,.int .i64 0,.slice none 0 0,.int .i64 2])/\w'=w:=by
 have H:(6000:Int)<(n:Int):=by omega
 go_enter Tryz.func166,Tryz.ntmps166
 go_wp2;refine bodyPost_ret (v:=.tuple #[.slice none 0 0,.int .i64 0,.slice none 0 0,.int .i64 2]) ?_ rfl ⟨rfl,rfl⟩
 first|rfl|kernel_rfl
end Go.Proofs.YtleocpdblhbimaaGreatDoor
namespace Go.Proofs.YtleocpdblhbimaaGreatDoor
set_option linter.unusedVariables false
theorem Z8n:Z5u:=⟨Wr,Tc⟩
end Go.Proofs.YtleocpdblhbimaaGreatDoor
