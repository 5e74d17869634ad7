import Derived.Test.YtleocpdblhbimaaGreatDoorQ23
set_option linter.unusedSimpArgs false
set_option linter.unusedVariables false
set_option maxRecDepth 100000
set_option maxHeartbeats 4000000
namespace Go.Proofs.YtleocpdblhbimaaGreatDoor
open Go.RowKit
def Bk (No:Nat->Prop)(B:Nat)(w0:World)(b:Nat)(R:Value)(u:US)(w:World):Prop:=
 ∃No' f1 f2,(∀g,No g->No' g)/\(∀g,w.heap.size<=g->¬No' g)/\IIs No' B w b R f1 f2 u/\Fx No' w b f1 f2/\Bl No B w0 w
def SC (No:Nat->Prop)(B:Nat)(w0:World)(b:Nat)(R:Value)(V:US)(e:Ending)(w':World):Prop:=
 (V.e=0/\e=.returned (.tuple #[])/\Bk No B w0 b R V w')\/ (V.e≠0/\e=Flt V.e/\Bl No B w0 w')
theorem Bl.outer {No No':Nat->Prop}{B:Nat}{E w w':World}(F:Bl No B E w)(k:Bl No' B w w')(G:∀g,No g->No' g):Bl No B E w':=F.trans (k.weaken G)
theorem JN (No:Nat->Prop)(B b:Nat)(a:Option Addr)(n F:Nat)(bs:List Nat)(u:US)(M w:World)(Z:Bk No B M b (.slice a n F) u w)(aa:Rd w No a n bs)(T:u.p<=8*n)(af:u.e=0)(O:u.out.length<=3000)(Y:u.ks.length<=48000):
 Calls Tryz.prog 231 #[.pointer (some ⟨b,0,none⟩),.int .i64 0] w fun e w'=>SC No B M b (.slice a n F) (Ds (rowB bs n) 0 u) e w':=by
 obtain⟨No',f1,f2,hn,G,H,ag,I⟩:=Z;have ae:Ds (rowB bs n) 0 u=(if (Cj (rowB bs n) u).e=0 then ukept 0 (Cj (rowB bs n) u)else Cj (rowB bs n) u):=rfl;rw[ae];refine(Sx No' B b a n F bs f1 f2 u w H (aa.wide hn) T af O Y G H.base _ (Ab rfl)).mono ?_;rintro e w' (⟨e0,rfl,E⟩|⟨e0,rfl,U⟩)
 . exact .inl ⟨e0,rfl,No',f1,f2,hn,fun g ac=>G g (VU E.below.size ac),E.is,ag.keep E.below.size E.kp,I.outer E.bl hn⟩
 . exact .inr ⟨e0,rfl,I.outer U hn⟩
theorem JK (No:Nat->Prop)(B b k:Nat)(R:Value)(u:US)(row:List Bool)(H w:World)(M:Bk No B H b R u w)(U:3<=k)(Z:k<4):
 Calls Tryz.prog 231 #[.pointer (some ⟨b,0,none⟩),.int .i64 (k:Int)] w fun e w'=>SC No B H b R (Ds row k u) e w':=by
 obtain rfl:k=3:=by omega
 obtain⟨No',f1,f2,hn,aa,I,T,F⟩:=M;have O:=Ab F;have E:Hid (Ds row 3 u= {u with e:=4}):=Ab rfl;obtain⟨V,G⟩:=exq (Ds row 3 u);rw[G]at E ⊢;clear I T F G;go_enter Tryz.func231,Tryz.ntmps231
 go_wp2_with fail
 refine(Cf 4 w).mono ?_;rintro e Y ⟨rfl,rfl⟩;go_wp2;exact⟨rfl,.inr ⟨by rw[Aa E];exact(by decide:(4:Int)≠0),by rw[Aa E],Aa O⟩⟩
theorem JM (No:Nat->Prop)(B b:Nat)(a:Option Addr)(n F:Nat)(bs:List Nat)(u:US)(ae w:World)(h:Bk No B ae b (.slice a n F) u w)(bb:Rd w No a n bs)(bd:u.p<=8*n)(a3:u.e=0)(ax:u.out.length<=3000)(bn:u.ks.length<=48000):
 Calls Tryz.prog 231 #[.pointer (some ⟨b,0,none⟩),.int .i64 1] w fun e w'=>SC No B ae b (.slice a n F) (Ds (rowB bs n) 1 u) e w':=by
 have cj:=Af bs n;obtain⟨No',f1,f2,hn,bm,a5,bh,a9⟩:=h;obtain⟨bo,bq,bz,b8,b4⟩:=info_parts Bv;obtain⟨V,T⟩:=exq (Hk (rowB bs n) Ky Ir (8*n+1) u);obtain⟨X,aj⟩:=exq (Ds (rowB bs n) 1 u);have a1:Hid ((if V.e=0 then ukept 1 V else V)=X):=Ab (by rw[<-aj,<-T,<-cj];rfl);rw[aj]
 have cw:Hid (V.e=0->V.ks.length<=48000):=Ab (fun e=>by
  have:=(Jf (rowB bs n) Ky Ir (8*n+1) u (by omega) ax (by rw[T];exact e)).ks
  rw[T]at this;rw[this];exact bn)
 have bv:=Ab (Tr No' B b (.slice a n F) f1 f2 u w a5 bh bm);have cv:=Ab (bb.wide hn);have ba:=Ab a9;have I:=Ab hn;have az:=Ab (And.intro bd (And.intro a3 ax));have b3:=Ab T;clear a5 bh a9 bb bd a3 ax bn bm T aj hn;go_enter Tryz.func231,Tryz.ntmps231
 go_wp2_with fail
 refine(Aa bv).mono ?_;rintro e M ⟨H,g1,m1,b1,n1,g2,m2,b2,n2,aa,ai,rfl,a4,al,av,aw,ap,U⟩;obtain⟨Z,ao⟩:=exq (DV g1 m1);obtain⟨O,ak⟩:=exq (DV g2 m2);have bw:=Ab (Un H B b a n F bs Z O u M (by rw[<-ao,<-ak];exact a4) (((Aa cv).keep U.below.size U.kp).wide aa) (Aa az).1 (Aa az).2.1 (Aa az).2.2 g1 m1 b1 n1 g2 m2 b2 n2 Ky Ir al PO aw av PN ap ai V b3)
 have cu:Hid (∀Y w',IUp H B M b (.slice a n F) Z O Y w'->Bk No B ae b (.slice a n F) Y w'):=Ab (fun Y w' G=>⟨H,Z,O,fun g E=>aa g (Aa I g E),fun g E=>ai g (VU G.below.size E),G.is,by
  have:Fx H M b Z O:=.inr ⟨g1,m1,b1,n1,g2,m2,b2,n2,ao.symm,ak.symm,al,av,aw,ap⟩
  exact this.keep G.below.size G.kp,((Aa ba).outer U (Aa I)).outer G.bl (fun g E=>aa g (Aa I g E))⟩)
 have ck:Hid (∀w',Bl H B M w'->Bl No B ae w'):=Ab (fun w' hb=>((Aa ba).outer U (Aa I)).outer hb (fun g E=>aa g (Aa I g E)));have cd:=Ab ai;clear aa ai a4 al av aw ap U ao ak;go_wp2_with fail
 refine(Aa bw).mono ?_;rintro e cy E
 rcases E with ⟨e0,rfl,ag⟩|⟨e0,rfl,a2⟩
 rotate_left
 . have ac:Hid (X=V):=Ab (by rw[<-Aa a1,if_neg e0]);have b9:=Ab (Aa ck _ a2);clear a2;go_wp2;exact⟨rfl,.inr ⟨by rw[Aa ac];exact e0,by rw[Aa ac],Aa b9⟩⟩
 have ac:Hid (X= {V with ks:=V.ks++ [1]}):=Ab (by rw[<-Aa a1,if_pos e0];rfl);have ce:=ag.below.size;have ah:=ag.is;have c9:=ah.lt;obtain⟨dc,c8,ct,c6,a7,bk,ar,bi,bc,bg⟩:=ah.rows;obtain⟨L,au⟩:=exq (V.ks.length);have af:=ar;have cp:=Aa cw e0;rw[au]at af cp;obtain⟨df,da,rfl⟩:=An af;have ci:=Ab af;have a6:=Ab ah;have c5:=Ab a7;have co:=Ab bk;have cm:=Ab ar;have b7:=Ab bi;have b0:=Ab bc;have b5:=Ab bg;have cg:=Ab au;have cq:=Ab ag;clear ag ah a7 bk ar bi bc bg af au ct;go_wp2_with (at_builtin;refine wpList_append_own_at _ rfl _ _ 76 rfl (b+1) 3 bo (.int .i64 0) 1 8 Tryz.underlying76 bq bz b8 b4 rfl (by decide) _ L (i64s V.ks) rfl ((Aa ci).alloc _) ⟨cy.heap.size,0,none⟩ 1 1 [.int .i64 ((1:Nat):Int)] rfl rfl (cell_one_new _ _ _) (Bc rfl) (by unfold maxLen;omega) (by omega) (by simp;omega) ?_)
 intro v' db ay bf _ bj;obtain⟨dh,c7,bu,_,_⟩:=Ba ay (by omega);obtain⟨de,dd,a8⟩:=IIs.kept (c:=1) (v':=v') (Aa a6).base (Aa a6).no (Aa c5) (Aa co) (Aa cm) (Aa b7) (Aa b0) (Aa b5) (fun g E=>Aa cd g (VU ce E)) (by rw[Aa cg];exact ay) bf (by simpa using bj);have cz:=Ab ((Aa cq).trans a8);have cn:Hid (∀w',IUp H B M b (.slice a n F) Z O {V with ks:=V.ks++ [1]} w'->SC No B ae b (.slice a n F) X (.returned (.tuple #[])) w'):=Ab (fun w' G=>.inl ⟨by rw[Aa ac];exact e0,rfl,by rw[Aa ac];exact Aa cu _ w' G⟩);subst bu;clear a8 ay bf bj;go_wp2;go_end0
 exact Aa cn _ (Aa cz)
theorem JL (No:Nat->Prop)(B b:Nat)(a:Option Addr)(n G:Nat)(bs:List Nat)(u:US)(af w:World)(h:Bk No B af b (.slice a n G) u w)(a3:Rd w No a n bs)(bz:u.p<=8*n)(bf:u.e=0)(ce:u.out.length<=3000)(cj:u.ks.length<=48000):
 Calls Tryz.prog 231 #[.pointer (some ⟨b,0,none⟩),.int .i64 2] w fun e w'=>SC No B af b (.slice a n G) (Ds (rowB bs n) 2 u) e w':=by
 have b7:=Af bs n;obtain⟨No',ac,aa,hn,a8,bh,b5,bq⟩:=h;obtain⟨cn,co,cv,c7,cz⟩:=info_parts Bv;obtain⟨A,C,x,ah⟩:∃A C x,Db (rowB bs n) u=((A,C),x):=⟨_,_,_,rfl⟩
 obtain⟨V,ae⟩:=exq (Hk (rowB bs n) A C (8*n+1) x);obtain⟨X,aw⟩:=exq (Ds (rowB bs n) 2 u)
 have bj:X=if x.e≠0 then x else (if V.e=0 then ukept 2 V else V):=by
  rw[<-aw,<-ae,<-b7];show (if (Db (rowB bs n) u).2.e≠0 then (Db (rowB bs n) u).2 else Jg 2 (Hk (rowB bs n) (Db (rowB bs n) u).1.1 (Db (rowB bs n) u).1.2 ((rowB bs n).length+1) (Db (rowB bs n) u).2))=_
  rw[ah];rfl
 rw[aw];have b4:=Ab bj
 have ck:Hid (x.e=0->Ahd (rowB bs n) u x):=Ab (fun e=>by
  have:=Pv (rowB bs n) u (by omega) ce (by rw[ah];exact e)
  rw[ah]at this;exact this)
 have av:Hid (V.e=0->x.e=0->V.ks.length<=48000):=Ab (fun e e2=>by
  have q:=Aa ck e2;have:=(Jf (rowB bs n) A C (8*n+1) x q.le q.out (by rw[ae];exact e)).ks
  rw[ae]at this;rw[this,q.ks];exact cj)
 have dc:=Ab (D4 No' B b a n G bs ac aa u w bh (a3.wide hn) bz bf a8 A C x (Ab ah));have ds:=Ab (a3.wide hn);have a2:=Ab bq;have Z:=Ab hn;have cu:=Ab a8;have dd:=Ab b5;have cy:=Ab ae;clear bh b5 bq a3 bz bf ce cj a8 ae aw hn ah bj;go_enter Tryz.func231,Tryz.ntmps231
 go_wp2_with fail
 refine(Aa dc).mono ?_;rintro e M E
 rcases E with ⟨ex,rfl,b8⟩|⟨ex,I,bv,bu,g1,m1,b1,n1,g2,m2,b2,n2,rfl,ai,ap,au,ak⟩
 . have O:Hid (X=x):=Ab (by rw[Aa b4,if_pos ex]);have a4:=Ab ((Aa a2).outer b8 (Aa Z));clear b8;go_wp2;exact⟨rfl,.inr ⟨by rw[Aa O];exact ex,by rw[Aa O],Aa a4⟩⟩
 have bb:Hid ((if V.e=0 then ukept 2 V else V)=X):=Ab (by
  have:=Aa b4
  rw[if_neg (show ¬x.e≠0 from fun c=>c ex)]at this;exact this.symm)
 have ax:=Aa ck ex;have a6:=ax.le;rw[b7]at a6;have bd:=Ab (fun e=>Aa av e ex);clear av;have av:=bd;clear bd;obtain⟨H,ag⟩:=exq (NK No' w.heap.size M.heap.size);have F:∀g,No' g->H g:=fun g E=>by rw[<-ag];exact .inl E
 have ar:∀g,M.heap.size<=g->¬H g:=fun g E e=>by
  rw[<-ag]at e;have:=I.bl.below.size
  rcases e with e|e
  . exact Aa cu g (by omega) e
  . omega
 have T:∀g,w.heap.size<=g->g<M.heap.size->H g:=fun g du cq=>by rw[<-ag];exact .inr ⟨du,cq⟩
 have bg:IIs H B M b (.slice a n G) ac aa x:=by rw[<-ag];exact I.inner
 have a5:=ai.lt;have bk:=ai.is.lt;have az:=ap.lt;have bi:=ap.is.lt;have ct:=Ab (Un H B b a n G bs ac aa x M bg (((Aa ds).keep I.bl.below.size I.bl.kp).wide F) a6 ex ax.out g1 m1 b1 n1 g2 m2 b2 n2 A C ai bv ⟨T _ au.1 a5.1,T _ au.2.1 a5.2,T _ au.2.2 bk⟩ ap bu ⟨T _ ak.1 az.1,T _ ak.2.1 az.2,T _ ak.2.2 bi⟩ ar V cy)
 have dr:Hid (∀Y w',IUp H B M b (.slice a n G) ac aa Y w'->Bk No B af b (.slice a n G) Y w'):=Ab (fun Y w' U=>⟨H,ac,aa,fun g E=>F g (Aa Z g E),fun g E=>ar g (VU U.below.size E),U.is,by
  have f1:=(Aa dd).keep I.bl.below.size I.bl.kp;have f2:=f1.keep U.below.size (U.kp.weaken F)
  rcases f2 with f2|⟨g1,m1,b1,n1,g2,m2,b2,n2,c8,di,b9,cm,a7,ay⟩
  . exact .inl f2
  . exact .inr ⟨g1,m1,b1,n1,g2,m2,b2,n2,c8,di,b9,cm,⟨F _ a7.1,F _ a7.2.1,F _ a7.2.2⟩,⟨F _ ay.1,F _ ay.2.1,F _ ay.2.2⟩⟩,((Aa a2).outer I.bl (Aa Z)).outer U.bl (fun g E=>F g (Aa Z g E))⟩)
 have df:Hid (∀w',Bl H B M w'->Bl No B af w'):=Ab (fun w' hb=>((Aa a2).outer I.bl (Aa Z)).outer hb (fun g E=>F g (Aa Z g E)));have c9:=Ab ar;clear F ar bg ai ap au ak I ag T a5 bk az bi ax a6 bv bu;go_wp2_with fail
 refine(Aa ct).mono ?_;rintro e dt E
 rcases E with ⟨e0,rfl,al⟩|⟨e0,rfl,bc⟩
 rotate_left
 . have O:Hid (X=V):=Ab (by rw[<-Aa bb,if_neg e0]);have a4:=Ab (Aa df _ bc);clear bc;go_wp2;exact⟨rfl,.inr ⟨by rw[Aa O];exact e0,by rw[Aa O],Aa a4⟩⟩
 have O:Hid (X= {V with ks:=V.ks++ [2]}):=Ab (by rw[<-Aa bb,if_pos e0];rfl);have da:=al.below.size;have ao:=al.is;have dz:=ao.lt;obtain⟨d7,dy,dq,dw,bn,ci,ba,cd,bw,b3⟩:=ao.rows;obtain⟨L,a1⟩:=exq (V.ks.length);have aj:=ba;have dn:=Aa av e0;rw[a1]at aj dn;obtain⟨d9,d5,rfl⟩:=An aj;have de:=Ab aj;have bm:=Ab ao;have dj:=Ab bn;have dm:=Ab ci;have dh:=Ab ba;have c6:=Ab cd;have cw:=Ab bw;have c5:=Ab b3;have db:=Ab a1;have dp:=Ab al;clear al ao bn ci ba cd bw b3 aj a1 dq;go_wp2_with (at_builtin;refine wpList_append_own_at _ rfl _ _ 76 rfl (b+1) 3 cn (.int .i64 0) 1 8 Tryz.underlying76 co cv c7 cz rfl (by decide) _ L (i64s V.ks) rfl ((Aa de).alloc _) ⟨dt.heap.size,0,none⟩ 1 1 [.int .i64 ((2:Nat):Int)] rfl rfl (cell_one_new _ _ _) (Bc rfl) (by unfold maxLen;omega) (by omega) (by simp;omega) ?_)
 intro v' d6 a9 b0 _ cg;obtain⟨eb,dx,cp,_,_⟩:=Ba a9 (by omega);obtain⟨b9,d8,bo⟩:=IIs.kept (c:=2) (v':=v') (Aa bm).base (Aa bm).no (Aa dj) (Aa dm) (Aa dh) (Aa c6) (Aa cw) (Aa c5) (fun g E=>Aa c9 g (VU da E)) (by rw[Aa db];exact a9) b0 (by simpa using cg);have dv:=Ab ((Aa dp).trans bo);have dl:Hid (∀w',IUp H B M b (.slice a n G) ac aa {V with ks:=V.ks++ [2]} w'->SC No B af b (.slice a n G) X (.returned (.tuple #[])) w'):=Ab (fun w' U=>.inl ⟨by rw[Aa O];exact e0,rfl,by rw[Aa O];exact Aa dr _ w' U⟩);subst cp;clear bo a9 b0 cg;go_wp2;go_end0
 exact Aa dl _ (Aa dv)
theorem RI (No:Nat->Prop)(B b k:Nat)(a:Option Addr)(n E:Nat)(bs:List Nat)(u:US)(F w:World)(G:Bk No B F b (.slice a n E) u w)(O:Rd w No a n bs)(I:u.p<=8*n)(T:u.e=0)(H:u.out.length<=3000)(M:u.ks.length<=48000)(U:k<4):
 Calls Tryz.prog 231 #[.pointer (some ⟨b,0,none⟩),.int .i64 (k:Int)] w fun e w'=>SC No B F b (.slice a n E) (Ds (rowB bs n) k u) e w':=by
 rcases(by omega:k=0\/k=1\/k=2\/k=3)with rfl|rfl|rfl|rfl
 . exact JN No B b a n E bs u F w G O I T H M
 . exact JM No B b a n E bs u F w G O I T H M
 . exact JL No B b a n E bs u F w G O I T H M
 . exact JK No B b 3 (.slice a n E) u (rowB bs n) F w G (by decide) (by decide)
theorem Bk.cellP {No:Nat->Prop}{B b n:Nat}{G w:World}{R:Value}{u:US}(F:Bk No B G b R u w):NY n b w=8*n+1-u.p:=by
 obtain⟨No',f1,f2,_,_,E,_⟩:=F;exact Mb E
theorem O5 (No:Nat->Prop)(B b F:Nat)(a:Option Addr)(n G:Nat)(bs:List Nat)(u:US)(H w:World)(U:Bk No B H b (.slice a n G) u w)(aa:Rd w No a n bs)(M:u.p<=8*n)(Y:u.e=0)(Z:F<=16)(r:Nat)(v:US)(ae:uget (rowB bs n) F u=(r,v)):
 Calls Tryz.prog 230 #[.pointer (some ⟨b,0,none⟩),.int .i64 (F:Int)] w fun e w'=>(v.e=0/\e=.returned (.int .i64 (r:Int))/\Bk No B H b (.slice a n G) v w')\/ (v.e≠0/\e=Flt v.e/\Bl No B H w'):=by
 obtain⟨No',f1,f2,hn,af,T,ag,I⟩:=U;refine(Dx No' B b a n G F bs f1 f2 u w T (aa.wide hn) M Y Z r v (Ab ae)).mono ?_;rintro e w' (⟨e0,rfl,E⟩|⟨e0,rfl,O⟩)
 . exact .inl ⟨e0,rfl,No',f1,f2,hn,fun g ac=>af g (VU E.below.size ac),E.is,ag.keep E.below.size E.kp,I.outer E.bl hn⟩
 . exact .inr ⟨e0,rfl,I.outer O hn⟩
theorem Bk.bl {No:Nat->Prop}{B b:Nat}{E w:World}{R:Value}{u:US}(F:Bk No B E b R u w):Bl No B E w:=by
 obtain⟨No',f1,f2,_,_,_,_,G⟩:=F;exact G
theorem JG (No:Nat->Prop)(B b:Nat)(a:Option Addr)(n G:Nat)(bs:List Nat)(w:World)(h:IIs No B w b (.slice a n G) .nilFunc .nilFunc US0)(al:Rd w No a n bs)(bb:∀g,w.heap.size<=g->¬No g):
 Calls Tryz.prog 205 #[.pointer (some ⟨b,0,none⟩)] w fun e w'=>SC No B w b (.slice a n G) (Dk (rowB bs n)) e w':=by
 have U:=Af bs n;have ck:=al.few;obtain⟨row,ae⟩:=exq (rowB bs n);obtain⟨V,ai⟩:=exq (Dk row);have bw:Hid (Bk No B w b (.slice a n G) US0 w):=Ab ⟨No,.nilFunc,.nilFunc,fun _ h=>h,bb,h,.inl ⟨rfl,rfl⟩,Bl.refl _ _ _⟩;have a1:Hid (∀wr,Bl No B w wr->Rd wr No a n bs):=Ab (fun wr hb=>al.keep hb.below.size hb.kp);have bc:Hid (∀(wr:World) (u:US) (size r:Nat) (v:US),Bk No B w b (.slice a n G) u wr->u.p<=8*n->u.e=0->size<=16->uget row size u=(r,v)->Calls Tryz.prog 230 #[.pointer (some ⟨b,0,none⟩),.int .i64 (size:Int)] wr fun e w'=>(v.e=0/\e=.returned (.int .i64 (r:Int))/\Bk No B w b (.slice a n G) v w')\/ (v.e≠0/\e=Flt v.e/\Bl No B w w')):=Ab (fun wr u size r v hb M H T O=>O5 No B b size a n G bs u w wr hb (Aa a1 wr hb.bl) M H T r v (by rw[ae];exact O))
 have bn:Hid (∀(wr:World) (u:US) (k:Nat),Bk No B w b (.slice a n G) u wr->u.p<=8*n->u.e=0->u.out.length<=3000->u.ks.length<=48000->k<4->Calls Tryz.prog 231 #[.pointer (some ⟨b,0,none⟩),.int .i64 (k:Int)] wr fun e w'=>SC No B w b (.slice a n G) (Ds row k u) e w'):=Ab (fun wr u k hb M H T O bj=>by
  have:=RI No B b k a n G bs u w wr hb (Aa a1 wr hb.bl) M H T O bj
  rw[ae]at this;exact this)
 rw[ae]at U ⊢;rw[ai];obtain⟨ar,av⟩:=exq (row.length+1);have bu:Hid (Bw row ar US0=V):=Ab (by rw[<-av];exact ai);have cj:Hid (8*n+1<=US0.p+ar):=Ab (by rw[<-av,U];show _<=0+_;omega);clear h al bb ae ai av;go_enter Tryz.func205,Tryz.ntmps205
 go_wp2;go_loopw [2] (fun E wr=>∃(u:US) (l f:Nat),E=.int .i64 (l:Int)/\Hid (u.e=0/\u.p<=8*n/\u.out.length<=3000/\u.ks.length<=u.p)/\Hid (Bk No B w b (.slice a n G) u wr)/\((l=0/\Hid (Bw row f u=V)/\Hid (8*n+1<=u.p+f))\/ (l≠0/\Hid (u=V)))) (fun _ wr=>NY n b wr)
 case atStart=>exact⟨US0,0,ar,rfl,Ab ⟨rfl,VH _,VH _,VH _⟩,bw,.inl ⟨rfl,bu,cj⟩⟩
 case round=>
  obtain⟨u,l,f,rfl,bi,ah,cg⟩:=hrel;obtain⟨ag,b5,a8,cm⟩:=Aa bi
  rcases cg with ⟨rfl,ba,a6⟩|⟨hl,ak⟩
  . have bg:=Aa a6
    cases f with
    |zero=>exact absurd bg (by omega)
    |succ f=>
     have ap:=Aa ba;rw[Bw]at ap;obtain⟨r1,F,M⟩:∃r1 F,uget row 1 u=(r1,F):=⟨_,_,rfl⟩
     obtain⟨r2,E,H⟩:∃r2 E,uget row 2 F=(r2,E):=⟨_,_,rfl⟩
     have ax:Bj row u=if F.e≠0 then (1,F)else if E.e≠0 then (1,E)else (r1,Ds row r2 E):=by
      unfold Bj;rw[M];simp only
      rw[H]
     have b3:F.p<=8*n:=by have:=Gr row 1 u (by omega);rw[M,U]at this;exact this
     have b9:E.p<=8*n:=by have:=Gr row 2 F (by omega);rw[H,U]at this;exact this
     have o1:F.out=u.out:=by have:=Cm row 1 u;rw[M]at this;exact this
     have o2:E.out=u.out:=by have:=Cm row 2 F;rw[H]at this;exact this.trans o1
     have a5:F.ks=u.ks:=by have:=Ic row 1 u;rw[M]at this;exact this
     have ay:E.ks=u.ks:=by have:=Ic row 2 F;rw[H]at this;exact this.trans a5
     have l2:r2<4:=by have:=SD row 2 F;rw[H]at this;exact this
     have b0:Hid ((Bj row u).2.e=0->(Bj row u).2.ks.length=u.ks.length+1/\u.p+3<=(Bj row u).2.p/\(Bj row u).2.p<=row.length/\(Bj row u).2.out.length<=3000):=Ab (Hl row n U u ag (by omega) a8);have bq:=Ab (Aa bc wr u 1 r1 F (Aa ah) b5 ag (by decide) M);have bz:Hid (∀W,F.e=0->Bk No B w b (.slice a n G) F W->Calls Tryz.prog 230 #[.pointer (some ⟨b,0,none⟩),.int .i64 2] W fun e w'=>(E.e=0/\e=.returned (.int .i64 (r2:Int))/\Bk No B w b (.slice a n G) E w')\/ (E.e≠0/\e=Flt E.e/\Bl No B w w')):=Ab (fun W T O=>Aa bc W F 2 r2 E O b3 T (by decide) H);have b4:Hid (∀W,E.e=0->Bk No B w b (.slice a n G) E W->Calls Tryz.prog 231 #[.pointer (some ⟨b,0,none⟩),.int .i64 (r2:Int)] W fun e w'=>SC No B w b (.slice a n G) (Ds row r2 E) e w'):=Ab (fun W T O=>Aa bn W E r2 O b9 T (by rw[o2];exact a8) (by rw[ay];omega) l2);have au:=Ab ax;have aj:=Ab ap;have b8:=Ab ((Aa ah).cellP (n:=n));clear ap ax M H o1 o2 a5 ay ba a6;go_wp2_with fail
     refine(Aa bq).mono ?_;rintro e bh (⟨Z,rfl,bf⟩|⟨Z,rfl,a2⟩)
     rotate_left
     . have I:Hid (V=F):=Ab (by
        have:=Aa aj
        rw[Aa au,if_pos Z,if_neg (fun c=>absurd (show (1:Nat)=0 from c.1) (by decide))]at this;exact this.symm)
       have aa:=Ab a2;clear a2;go_wp2;exact⟨rfl,.inr ⟨by rw[Aa I];exact Z,by rw[Aa I],Aa aa⟩⟩
     have ci:=Ab bf;clear bf;go_wp2_with fail
     refine(Aa bz bh Z (Aa ci)).mono ?_;rintro e bk (⟨e2,rfl,az⟩|⟨e2,rfl,a4⟩)
     rotate_left
     . have I:Hid (V=E):=Ab (by
        have:=Aa aj
        rw[Aa au,if_neg (show ¬F.e≠0 from fun c=>c Z),if_pos e2,if_neg (fun c=>absurd (show (1:Nat)=0 from c.1) (by decide))]at this;exact this.symm)
       have aa:=Ab a4;clear a4;go_wp2;exact⟨rfl,.inr ⟨by rw[Aa I];exact e2,by rw[Aa I],Aa aa⟩⟩
     have b7:=Ab az;have a7:Hid (Bj row u=(r1,Ds row r2 E)):=Ab (by rw[Aa au,if_neg (show ¬F.e≠0 from fun c=>c Z),if_neg (show ¬E.e≠0 from fun c=>c e2)]);clear az;go_wp2_with fail
     refine(Aa b4 bk e2 (Aa b7)).mono ?_;obtain⟨Y,a9⟩:=exq (Ds row r2 E);rw[a9]at a7 ⊢;have af:=Aa aj;have ac:=Aa b0;rw[Aa a7]at af ac;simp only at af ac
     have a3:=Ab af;have bo:=Ab ac;clear af ac a9;rintro e w3 (⟨e3,rfl,ao⟩|⟨e3,rfl,aw⟩)
     rotate_left
     . have I:Hid (V=Y):=Ab (by
        have:=Aa a3
        rw[if_neg (fun c=>e3 c.2)]at this;exact this.symm)
       have aa:=Ab aw;clear aw;go_wp2;exact⟨rfl,.inr ⟨by rw[Aa I];exact e3,by rw[Aa I],Aa aa⟩⟩
     obtain⟨y1,y2,bd,cd⟩:=Aa bo e3;rw[U]at bd;have ce:=Ab ao;have bv:=Ab (ao.cellP (n:=n))
     have bm:Hid ((r1=0/\Hid (Bw row f Y=V)/\Hid (8*n+1<=Y.p+f))\/ (r1≠0/\Hid (Y=V))):=Ab (by
      have:=Aa a3
      by_cases c:r1=0
      . rw[if_pos ⟨c,e3⟩]at this;exact .inl ⟨c,Ab this,Ab (by omega)⟩
      . rw[if_neg (fun d=>c d.1)]at this;exact .inr ⟨c,Ab this⟩)
     clear ao;go_wp2;go_roundw
     case rel=>exact⟨Y,r1,f,rfl,Ab ⟨e3,bd,cd,by omega⟩,ce,Aa bm⟩
     case measure=>rw[Aa bv,Aa b8];omega
  . have hb:((l:Int)==0)=false:=by rw[beq_eq_false_iff_ne];omega
    have I:Hid (SC No B w b (.slice a n G) V (.returned (.tuple #[])) wr):=Ab (.inl ⟨by rw[<-Aa ak];exact ag,rfl,by rw[<-Aa ak];exact Aa ah⟩);clear ak;go_wp2;go_end0
    exact Aa I
theorem Ci (row:List Bool)(n:Nat)(u:US)(E:0<=u.e):0<=(uget row n u).2.e:=by
 unfold uget
 split
 . split
   . exact(by decide:(0:Int)<=7)
   . exact E
 . exact E
theorem BZ (l:List Int)(row:List Bool)(p:Nat):∀f n,0<=(Ej l row p f n).2.2
 |0,n=>(by decide:(0:Int)<=8)
 |f+1,n=>by
  unfold Ej
  split
  . exact(by decide:(0:Int)<=7)
  . split
    . exact(by decide:(0:Int)<=0)
    . exact BZ l row p f (n+1)
theorem Ef (l:List Int)(row:List Bool)(u:US)(E:0<=u.e):0<=(uplace l row u).2.e:=by
 unfold uplace
 split
 . exact BZ l row u.p 15 1
 . exact E
theorem Ft (x:Int)(u:US)(F:0<=x)(E:0<=u.e):0<=(Am x u).e:=by
 unfold Am
 split
 . exact F
 . exact E
theorem KD (c:Nat)(u:US)(E:0<=u.e):0<=(Fd c u).e:=by
 unfold Fd
 split
 . split
   . exact(by decide:(0:Int)<=2)
   . exact E
 . exact E
theorem Zh (row:List Bool):∀(k:Nat) (u:US),0<=u.e->0<=(ustore row k u).e
 |0,u,h=>h
 |k+1,u,h=>by
  unfold ustore
  split
  . exact Zh row k _ (KD _ _ (Ci _ _ _ h))
  . exact h
theorem BF (d:Nat):∀(k:Nat) (u:US),0<=u.e->0<=(ucopy d k u).e
 |0,u,h=>h
 |k+1,u,h=>by
  unfold ucopy
  split
  . exact BF d k _ (KD _ _ h)
  . exact h
theorem GI (row:List Bool)(u:US)(F:0<=u.e):0<=(Cj row u).e:=by
 have E:0<=(Cl row u).2.e:=by
  unfold Cl;dsimp only
  split
  . exact Ft _ _ (by decide) (Ci _ _ _ (Ci _ _ _ F))
  . exact Ci _ _ _ (Ci _ _ _ F)
 unfold Cj;dsimp only
 split
 . exact Ft _ _ (by decide) E
 . exact Zh _ _ _ E
theorem OQ (row:List Bool)(l:List Int)(u:US)(E:0<=u.e):0<=(Me row l u).2.e:=by
 unfold Me
 split
 . exact Ef _ _ _ E
 . split
   . exact(by decide:(0:Int)<=8)
   . exact Ci _ _ _ (Ef _ _ _ E)
theorem Z1g (d k:Nat)(u:US)(E:0<=u.e):0<=(Jh d k u).e:=by
 unfold Jh
 split
 . exact(by decide:(0:Int)<=9)
 . split
   . exact(by decide:(0:Int)<=2)
   . exact BF _ _ _ E
theorem CK (row:List Bool)(lb:List Int)(k:Nat)(u:US)(E:0<=u.e):0<=(Co row lb k u).e:=by
 unfold Co
 split
 . split
   . exact(by decide:(0:Int)<=2)
   . exact E
 . split
   . exact(by decide:(0:Int)<=8)
   . split
     . exact Ci _ _ _ E
     . split
       . exact OQ _ _ _ (Ci _ _ _ E)
       . exact Z1g _ _ _ (OQ _ _ _ (Ci _ _ _ E))
theorem Xy (row:List Bool)(E lb:List Int):∀(f:Nat) (u:US),0<=u.e->0<=(Hk row E lb f u).e
 |0,u,h=>by
  unfold Hk
  split
  . exact Ef _ _ _ h
  . exact Ef _ _ _ h
 |f+1,u,h=>by
  rw[Hj]
  split
  . exact Ef _ _ _ h
  . split
    . exact Ef _ _ _ h
    . split
      . exact CK _ _ _ _ (Ef _ _ _ h)
      . exact Xy row E lb f _ (CK _ _ _ _ (Ef _ _ _ h))
theorem Zi (row:List Bool):∀(ks:List Nat) (s:List Int) (u:US),0<=u.e->0<=(usmall row ks s u).2.e
 | [],s,u,h=>h
 |k::r,s,u,h=>by
  rw[usmall];exact Zi row r _ _ (Ci _ _ _ h)
theorem TC (row:List Bool)(l:List Int)(k:Nat)(u:US)(E:0<=u.e):0<=(ukind row l k u).2.2.e:=by
 unfold ukind
 split
 . split
   . exact Ft _ _ (by decide) E
   . exact Ci _ _ _ E
 . split
   . exact Ci _ _ _ E
   . split
     . exact Ci _ _ _ E
     . exact E
theorem SW (tot:Nat)(l:List Int)(r:Int×Nat×US)(E:0<=r.2.2.e):0<=(Td tot l r).2.e:=by
 unfold Td;dsimp only
 split
 . exact Ft _ _ (by decide) E
 . exact E
theorem BD (row:List Bool)(S:List Int)(tot:Nat):∀(F:Nat) (l:List Int) (u:US),0<=u.e->0<=(ulens row S tot F l u).2.e
 |0,l,u,h=>h
 |F+1,l,u,h=>by
  rw[ulens]
  split
  . exact BD row S tot F _ _ (SW _ _ _ (TC _ _ _ _ (Ef _ _ _ h)))
  . exact h
theorem AY (row:List Bool)(u:US)(G:0<=u.e):0<=(Db row u).2.e:=by
 unfold Db;dsimp only;have E:=Ci row 4 _ (Ci row 5 _ (Ci row 5 u G));generalize (uget row 5 u).1=m0 at*;generalize (uget row 5 (uget row 5 u).2).1=n0 at*;generalize uget row 4 (uget row 5 (uget row 5 u).2).2=g at*
 have F:0<=(Gk row (m0+257) (n0+1) (g.1+4) g.2).2.e:=by
  unfold Gk;refine Zi _ _ _ _ ?_
  split
  . exact Ft _ _ (by decide) E
  . exact E
 generalize Gk row (m0+257) (n0+1) (g.1+4) g.2=s at*
 have hc:0<=(Qa s).e:=by
  unfold Qa
  split
  . exact Ft _ _ (by decide) F
  . exact F
 unfold Ke
 split
 . exact hc
 . have hl:=BD row s.1 (m0+257+(n0+1)) (m0+257+(n0+1)) [] (Qa s) hc;generalize ulens row s.1 (m0+257+(n0+1)) (m0+257+(n0+1)) [] (Qa s)=r at*;unfold Gl
   split
   . exact hl
   . split
     . exact Ft _ _ (by decide) hl
     . exact hl
theorem Yc (k:Nat)(u:US)(E:0<=u.e):0<=(Jg k u).e:=by
 unfold Jg
 split
 . exact E
 . exact E
theorem Z1d (row:List Bool)(k:Nat)(u:US)(E:0<=u.e):0<=(Ds row k u).e:=by
 unfold Ds
 split
 . exact Yc _ _ (GI _ _ E)
 . split
   . exact Yc _ _ (Xy _ _ _ _ _ E)
   . split
     . split
       . exact AY _ _ E
       . exact Yc _ _ (Xy _ _ _ _ _ (AY _ _ E))
     . exact(by decide:(0:Int)<=4)
theorem I9 (row:List Bool)(u:US)(E:0<=u.e):0<=(Bj row u).2.e:=by
 unfold Bj
 split
 . exact Ci _ _ _ E
 . split
   . exact Ci _ _ _ (Ci _ _ _ E)
   . exact Z1d _ _ _ (Ci _ _ _ (Ci _ _ _ E))
theorem Vo (row:List Bool):∀(F:Nat) (u:US),0<=u.e->0<=(Bw row F u).e
 |0,u,h=>h
 |F+1,u,h=>by
  rw[Bw]
  split
  . exact Vo row F _ (I9 row u h)
  . exact I9 row u h
theorem Z19 (row:List Bool):0<=(Dk row).e:=Vo row _ _ (by decide)
theorem Wr (a:Option Addr)(n E:Nat)(bs:List Nat)(w:World)(T:bs.length=n)(O:n<=6000)(G:BytesIn w a bs)(U:∀j,bs.getD j 0<256):
 Calls Tryz.prog 166 #[.slice a n E] w fun e w'=>Z8h w bs n e w':=by
 refine(EL a n E bs w O (Dk (rowB bs n)) ?_ (Z19 _) (fun e=> ?_)).mono (fun e w' h=>h)
 . intro No B b W ae aj ac au ar H
   have af:Rd w No a n bs:=⟨T,O,G,U,fun b o ea Y=>ac b (by
    rcases G with ah|⟨ao,ak,M,ai,_⟩
    . exact absurd ah Y
    . rw[ea]at M;cases M;exact ai)⟩
   have aa:Rd W No a n bs:=af.keep H.size (fun g F _=>H.block g F);refine(JG No B b a n E bs W ae aa (fun g F=>aj g (by omega))).mono ?_;rintro e w' (⟨e0,rfl,hK⟩|⟨e0,rfl,hb⟩)
   . obtain⟨No',f1,f2,Z,ap,ag,al,I⟩:=hK;exact .inl ⟨e0,rfl,f1,f2,ag.weak Z,I.below,I.kp⟩
   . exact .inr ⟨e0,rfl,hb.below,hb.kp⟩
 . have:=(Rn (rowB bs n) n (Af bs n) e).2.1
   rw[Af]at this;omega
theorem Tc (a:Option Addr)(n E:Nat)(w:World)(F:6000<n)(G:n<=9223372036854775807):
 Calls Tryz.prog 166 #[.slice a n E] w fun e w'=>e=.returned (.tuple #[.slice none 0 0,.int .i64 0,.slice none 0 0,.int .i64 2])/\w'=w:=by
 have H:(6000:Int)<(n:Int):=by omega
 go_enter Tryz.func166,Tryz.ntmps166
 go_wp2;refine bodyPost_ret (v:=.tuple #[.slice none 0 0,.int .i64 0,.slice none 0 0,.int .i64 2]) ?_ rfl ⟨rfl,rfl⟩
 first|rfl|kernel_rfl
theorem Z8n:Z5u:=⟨Wr,Tc⟩
end Go.Proofs.YtleocpdblhbimaaGreatDoor
