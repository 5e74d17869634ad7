import Derived.Test.YtleocpdblhbimaaGreatDoorQ25
import Derived.Laws.EntriesVeiled
set_option linter.unusedSimpArgs false
set_option maxHeartbeats 4000000
namespace Go.Proofs.YtleocpdblhbimaaGreatDoor
open Go.RowKit
set_option linter.unusedVariables false
set_option maxRecDepth 100000
def Fx (No:Nat->Prop)(w:World)(b:Nat)(f1 f2:Value):Prop:=
 (f1=.nilFunc/\f2=.nilFunc)\/∃g1 m1 b1 n1 g2 m2 b2 n2,f1=DV g1 m1/\f2=DV g2 m2/\DIs w g1 m1 b1 n1 b Ky/\DIs w g2 m2 b2 n2 b Ir/\(No g1/\No m1/\No b1)/\(No g2/\No m2/\No b2)
theorem Fx.keep {No:Nat->Prop}{w w':World}{b:Nat}{M I:Value}(G:Fx No w b M I)(ab:w.heap.size<=w'.heap.size)(E:Kp No w w'):Fx No w' b M I:=by
 rcases G with G|⟨g1,m1,b1,n1,g2,m2,b2,n2,af,e2,H,F,⟨aa,U,Y⟩,⟨c1,c2,O⟩⟩
 . exact .inl G
 . have Z:=H.lt;have ac:=H.is.lt;have T:=F.lt;have ae:=F.is.lt;exact .inr ⟨g1,m1,b1,n1,g2,m2,b2,n2,af,e2,H.keep ab (E g1 Z.1 aa) (E m1 Z.2 U) (E b1 ac Y),F.keep ab (E g2 T.1 c1) (E m2 T.2 c2) (E b2 ae O),⟨aa,U,Y⟩,⟨c1,c2,O⟩⟩
def Z7f (No:Nat->Prop)(B:Nat)(w:World)(b:Nat)(R:Value)(u:US)(e:Ending)(w':World):Prop:=
 ∃No' g1 m1 b1 n1 g2 m2 b2 n2,(∀g,No g->No' g)/\(∀g,w'.heap.size<=g->¬No' g)/\e=.returned (.agg #[DV g1 m1,DV g2 m2])/\IIs No' B w' b R (DV g1 m1) (DV g2 m2) u/\DIs w' g1 m1 b1 n1 b Ky/\DIs w' g2 m2 b2 n2 b Ir/\(No' g1/\No' m1/\No' b1)/\(No' g2/\No' m2/\No' b2)/\Bl No B w w'
theorem IIs.cells45 {No:Nat->Prop}{B b:Nat}{w:World}{R G F:Value}{u:US}(H:IIs No B w b R G F u):w.cell? ⟨b,4,none⟩=some G/\w.cell? ⟨b,5,none⟩=some F/\∀j,w.frozen? ⟨b,j,none⟩=false:=by
 obtain⟨ov,kv,E,_⟩:=H.ex;exact⟨Ac E,Ac E,fun j=>frozen_of_row w b j _ _ E⟩
theorem Yg (No:Nat->Prop)(B b:Nat)(R:Value)(u:US)(w:World)(g1 E O ag g2 G T aa:Nat)(H:IIs No B w b R (DV g1 E) (DV g2 G) u)(I:DIs w g1 E O ag b Ky)(M:DIs w g2 G T aa b Ir)(ah:No g1/\No E/\No O)(ab:No g2/\No G/\No T)(ae:∀g,w.heap.size<=g->¬No g):
 Calls Tryz.prog 251 #[.pointer (some ⟨b,0,none⟩)] w fun e w'=>Z7f No B w b R u e w':=by
 have am:=H.lt;have aq:=H.base;obtain⟨ar,ap,_⟩:=H.cells45
 have ai:Hid (∀w',Below w.heap.size w w'->Z7f No B w b R u (.returned (.agg #[DV g1 E,DV g2 G])) w'):=Ab (fun w' F=>by
  have Y:=F.size;have U:=I.lt;have aj:=I.is.lt;have af:=M.lt;have ak:=M.is.lt;exact⟨No,g1,E,O,ag,g2,G,T,aa,fun _ H=>H,fun g ao=>ae g (by omega),rfl,H.past F,I.keep Y (F.block g1 U.1) (F.block E U.2) (F.block O aj),M.keep Y (F.block g2 af.1) (F.block G af.2) (F.block T ak),ah,ab,Z7c F (by omega)⟩)
 clear H I M ah ab ae;have an:∀W:World,(binOp .eql 259 (DV g1 E) .nilFunc).run Tryz.prog W=.ok (.bool false) W:=fun W=>by first|rfl|kernel_rfl
 go_enter Tryz.func251,Tryz.ntmps251
 have Z:(w.alloc (.cells #[.nilFunc,.nilFunc] 282)).heap[w.heap.size]? =some (.cells #[.nilFunc,.nilFunc] 282 (0,0)):=heap_alloc_new _ _;have ac:=Ab Z;have al:Hid (Below w.heap.size w ((w.alloc (.cells #[.nilFunc,.nilFunc] 282)).setRow w.heap.size #[DV g1 E,DV g2 G])):=Ab (Bg ((Below.refl w.heap.size w).alloc (VB _) _) (VB _) _);clear Z;go_wp2_with (refine wpList_store_row rfl 282 (.tmp 2) (.tmp 28) rfl w.heap.size #[DV g1 E,DV g2 G] rfl rfl 282 #[.nilFunc,.nilFunc] (Aa ac) Fq rfl (by first|rfl|simp[Value.oneCell']) ?_)
 refine bodyPost_ret (v:=.agg #[DV g1 E,DV g2 G]) ?_ rfl (Aa ai _ (Aa al));exact results_cell_row rfl _ _ w.heap.size _ _ _ _ (by first|rfl|kernel_rfl|simp) (setRow_heap _ _ _ _ _ _ (Aa ac)) Tryz.underlying282 rfl Fq
theorem L4 (No:Nat->Prop)(B b:Nat)(R:Value)(u:US)(w:World)(I:IIs No B w b R .nilFunc .nilFunc u)(bf:∀g,w.heap.size<=g->¬No g):
 Calls Tryz.prog 251 #[.pointer (some ⟨b,0,none⟩)] w fun e w'=>Z7f No B w b R u e w':=by
 have bu:=I.lt;have c8:=I.base;obtain⟨c9,dc,da⟩:=I.cells45;have c5:∀W:World,(binOp .eql 259 .nilFunc .nilFunc).run Tryz.prog W=.ok (.bool true) W:=fun W=>by first|rfl|kernel_rfl
 have co:=Ab (Rk.refl I);have a5:=Ab bf;obtain⟨O,ax⟩:=exq (Ky);obtain⟨Y,a0⟩:=exq (Ir);have ai:=Mj;have am:=Fk;have a3:=Mk;have au:=Mi;have bj:=Ab (fun W=>K7 W);simp only[ax,a0]at bj ai am a3 au;have b3:=Ab a3;have cn:=Ab au;have cl:=Ab ax;have bv:=Ab a0;have a4:(w.alloc (.cells #[.nilFunc,.nilFunc] 282)).heap[w.heap.size]? =some (.cells #[.nilFunc,.nilFunc] 282 (0,0)):=heap_alloc_new _ _;have b0:=Ab a4;have cu:Hid (Below w.heap.size w (w.alloc (.cells #[.nilFunc,.nilFunc] 282))):=Ab ((Below.refl w.heap.size w).alloc (VB _) _);clear I bf ax a0 a3 au a4;have b8:(Tryz.prog.info? 247).map (·.size)=some (iv O).toArray.size:=by rw[Ya];simp[ai]
 have bz:(Tryz.prog.info? 248).map (·.size)=some (iv Y).toArray.size:=by rw[CP];simp[am]
 go_enter Tryz.func251,Tryz.ntmps251
 go_wp2_with fail
 refine(Aa bj _).mono ?_;rintro e E ⟨rfl,ak⟩;have ck:=ak.size;simp only[World.size_alloc]at ck;have bq:Hid (Below w.heap.size w E):=Ab ((Aa cu).trans (ak.mono (by simp)));have b5:Hid (E.heap[w.heap.size]? =some (.cells #[.nilFunc,.nilFunc] 282 (0,0))):=Ab ((ak.block _ (by simp)).trans (Aa b0));clear ak;have bi:((E.alloc (.cells (iv (List.replicate 288 0)).toArray 247)).alloc (.cells (iv (List.replicate 32 0)).toArray 248)).heap[E.heap.size]? =some (.cells (iv (List.replicate 288 0)).toArray 247 (0,0)):=(Below.heap_alloc _ _ _ (by simp)).trans (heap_alloc_new _ _)
 have a8:(((E.alloc (.cells (iv (List.replicate 288 0)).toArray 247)).alloc (.cells (iv (List.replicate 32 0)).toArray 248)).setRow E.heap.size (iv O).toArray).heap[E.heap.size+1]? =some (.cells (iv (List.replicate 32 0)).toArray 248 (0,0)):=by
  rw[Go.setRow_other _ _ _ _ (by omega)];have e:E.heap.size+1=(E.alloc (.cells (iv (List.replicate 288 0)).toArray 247)).heap.size:=by simp
  rw[e];exact heap_alloc_new _ _
 have bn:=Ab bi;have bk:=Ab a8;have aj:=Ab (fun x y=>Jt E E x y 247 248 O Y (Below.refl _ _) (by simp));clear bi a8;go_upto_region 3 with (first|refine wpList_store_row rfl 247 (.tmp 3) (.tmp 13) rfl E.heap.size _ rfl rfl 247 (iv (List.replicate 288 0)).toArray (Aa bn) b8 (by simp[ai]) (Cy O) ?_|refine wpList_store_row rfl 248 (.tmp 4) (.tmp 14) rfl (E.heap.size+1) _ rfl rfl 248 (iv (List.replicate 32 0)).toArray (Aa bk) bz (by simp[am]) (Cy Y) ?_)
 simp only[Act.put];generalize ae:World.setRow (World.setRow (World.alloc (World.alloc _ _) _) _ _) _ _=W2;have F:ARow 247 W2 E.heap.size O:=by rw[<-ae];exact(Aa aj _ _).1
 have H:ARow 248 W2 (E.heap.size+1) Y:=by rw[<-ae];exact(Aa aj _ _).2.1
 have T:Below E.heap.size E W2:=by rw[<-ae];exact(Aa aj _ _).2.2
 clear ae aj bn bk;have c4:=T.size;have b7:Hid (Rk No B w b R .nilFunc .nilFunc u W2):=Ab ((Aa co).past ((Aa bq).trans (T.mono (by omega))));have ct:Hid (W2.heap[w.heap.size]? =some (.cells #[.nilFunc,.nilFunc] 282 (0,0))):=Ab ((T.block _ (by omega)).trans (Aa b5));have cq:=Ab (fun k=>Nr b (some ⟨E.heap.size,0,none⟩) 288 288 O (W2.drewN k) ai (.inr ⟨_,0,rfl,F.lt,F.row⟩) (Aa b3));have bw:Hid (∀W,Below W2.heap.size W2 W->Calls Tryz.prog 270 #[.pointer (some ⟨b,0,none⟩),.slice (some ⟨E.heap.size+1,0,none⟩) 32 32] W fun e w'=>∃gr gm mb nn,e=.returned (DV gr gm)/\W.heap.size<=gr/\W.heap.size<=gm/\W.heap.size<=mb/\mb<w'.heap.size/\DIs w' gr gm mb nn b Y/\Below W.heap.size W w'):=Ab (fun W bg=>Nr b (some ⟨E.heap.size+1,0,none⟩) 32 32 Y W am (.inr ⟨_,0,rfl,(H.keep (bg.block _ H.lt)).lt,(H.keep (bg.block _ H.lt)).row⟩) (Aa cn));clear F H T;refine wp_region_any (by kernel_rfl) ?_
 try (change wpAny _ _ _ _ _ _ _ (World.drew _))
 refine tkA (i:=0) (v:=.pointer (some ⟨b,0,none⟩)) ?_;simp only[Act.put,VA,VC,VD];refine tkA (i:=1) (v:=.pointer (some ⟨b,0,none⟩)) ?_;simp only[Act.put,VA,VC,VD];refine tkA (i:=2) (v:=.slice (some ⟨E.heap.size,0,none⟩) 288 288) ?_;simp only[Act.put,VA,VC,VD];refine tkA (i:=4) (v:=.pointer (some ⟨b,0,none⟩)) ?_;simp only[Act.put,VA,VC,VD];refine tkA (i:=5) (v:=.slice (some ⟨E.heap.size+1,0,none⟩) 32 32) ?_;simp only[Act.put,VA,VC,VD];refine rdA (i:=3) fun K hK=> ?_
 go_simp
 refine(Aa cq _).mono ?_;rintro e w6 ⟨g1,m1,b1,n1,rfl,bb,a6,bc,bt,ar,bh⟩;have an:Hid (Below W2.heap.size W2 w6):=Ab ((Ae (Below.refl _ _) _).trans bh);clear bh;dsimp only;refine hK _ _ ?_;clear hK K;refine rdA (i:=6) fun K hK=> ?_
 go_simp
 refine(Aa bw _ (Aa an)).mono ?_;rintro e G ⟨g2,m2,b2,n2,rfl,x1,x2,x3,x4,aq,aw⟩;have ag:=Ab aw;have a1:Hid (Below W2.heap.size W2 G):=Ab ((Aa an).trans (aw.mono (Aa an).size));clear aw;dsimp only;refine hK _ _ ?_;clear hK K;refine rdA (i:=7) fun K hK=> ?_
 go_simp
 refine hK _ _ ?_;clear hK K;refine rdA (i:=8) fun K hK=> ?_
 go_simp
 refine hK _ _ ?_;clear hK K;refine rdA (i:=9) fun K hK=> ?_
 go_simp
 refine hK _ _ ?_;clear hK K;have av:=(Aa b7).past (Aa a1);have a7:=Ab av;obtain⟨cj,cp,a2⟩:=av.is.cells45;have ci:=a2 4;have bo:=a2 5;clear av;refine rdA (i:=10) fun K hK=> ?_
 go_simp
 refine hK _ _ ?_;clear hK K;refine wpAny_done (by kernel_rfl) ?_ _;obtain⟨Z,aa⟩:=exq ((G.setCell ⟨b,4,none⟩ (DV g1 m1)).setCell ⟨b,5,none⟩ (DV g2 m2));have ab:=(Aa a7).is.set (g1:=DV g1 m1) (g2:=.nilFunc) 4 (DV g1 m1) u rfl rfl (fun _ _=>rfl);have ao:=ab.is.set (g1:=DV g1 m1) (g2:=DV g2 m2) 5 (DV g2 m2) u rfl rfl (fun _ _=>rfl);have c6:=(Aa a1).size
 have ay:Rk No B w b R (DV g1 m1) (DV g2 m2) u Z:=by
  rw[<-aa];exact⟨ao.is,(Aa a7).bl.trans ((ab.bl.trans ao.bl).weaken (fun _ I=>.inl I))⟩
 have as:∀g,g≠b->Z.heap[g]? =G.heap[g]? :=fun g az=>by
  rw[<-aa]
  by_cases ba:g<G.heap.size
  . have cg:=(Ad G b 4 (DV g1 m1)).block g ba (fun e=>az (VM e));have ce:=(Ad (G.setCell ⟨b,4,none⟩ (DV g1 m1)) b 5 (DV g2 m2)).block g (VG ba ab.below.size) (fun e=>az (VM e));exact ce.trans cg
  . have c3:((G.setCell ⟨b,4,none⟩ (DV g1 m1)).setCell ⟨b,5,none⟩ (DV g2 m2)).heap.size=G.heap.size:=by simp
    rw[ZN (by omega),ZN (by omega)]
 have cy:G.heap.size<=Z.heap.size:=by rw[<-aa];exact VU ab.below.size ao.below.size
 obtain⟨cz,db,_⟩:=ay.is.cells45;have bd:Hid (Z.heap[w.heap.size]? =some (.cells #[.nilFunc,.nilFunc] 282 (0,0))):=Ab ((as _ (by omega)).trans (((Aa a1).block _ (by omega)).trans (Aa ct)));obtain⟨M,ac⟩:=exq (Z.setRow w.heap.size #[DV g1 m1,DV g2 m2]);have ah:Z.grownBy M (some w.heap.size):=by rw[<-ac];exact Nz _ _ _
 have b4:Hid (M.heap[w.heap.size]? =some (.cells #[DV g1 m1,DV g2 m2] 282 (0,0))):=Ab (by rw[<-ac];exact setRow_heap _ _ _ _ _ _ (Aa bd));have ap:Rk No B w b R (DV g1 m1) (DV g2 m2) u M:=ay.aside ah (fun g e=>by cases e;exact VB _) (Aa a5) bu;have cw:=ah.size;have dd:=(Aa an).size;have be:W2.heap.size<=g1:=bb;have a9:W2.heap.size<=m1:=a6;have bm:W2.heap.size<=b1:=bc;have U:∀g,W2.heap.size<=g->g<G.heap.size->M.heap[g]? =G.heap[g]? :=fun g cv c7=>(ah.block g (by omega) (fun e=>by have:=VM e;omega)).trans (as g (by omega))
 have al:DIs M g1 m1 b1 n1 b O:=by
  have F:=ar.lt;have H:=ar.is.lt;have cm:=(Aa ag).size;exact(ar.keep cm ((Aa ag).block g1 F.1) ((Aa ag).block m1 F.2) ((Aa ag).block b1 H)).keep (by omega) (U g1 be (by omega)) (U m1 a9 (by omega)) (U b1 bm (by omega))
 have af:DIs M g2 m2 b2 n2 b Y:=by
  have F:=aq.lt;have H:=aq.is.lt;exact aq.keep (by omega) (U g2 (by omega) F.1) (U m2 (by omega) F.2) (U b2 (by omega) H)
 have ch:Hid (Z7f No B w b R u (.returned (.agg #[DV g1 m1,DV g2 m2])) M):=Ab (by
  have F:=al.lt;have H:=al.is.lt;have T:=af.lt;have b9:=af.is.lt;refine⟨NK No w.heap.size M.heap.size,g1,m1,b1,n1,g2,m2,b2,n2,fun _ I=>.inl I,fun g az e=> ?_,rfl,ap.inner,by rw[Aa cl];exact al,by rw[Aa bv];exact af,⟨.inr ⟨by omega,F.1⟩,.inr ⟨by omega,F.2⟩,.inr ⟨by omega,H⟩⟩,⟨.inr ⟨by omega,T.1⟩,.inr ⟨by omega,T.2⟩,.inr ⟨by omega,b9⟩⟩,ap.bl⟩
  rcases e with e|e
  . exact Aa a5 g (by have:=ap.bl.below.size;omega) e
  . omega)
 clear al af U be a9 bm ap ah as ay ab ao bb a6 bc bt ar x1 x2 x3 x4 aq cj cp a2 ci bo;have cd:=Ab ac;clear ac;change Exit.then _ _ Exit.normal _ ((G.setCell ⟨b,4,none⟩ (DV g1 m1)).setCell ⟨b,5,none⟩ (DV g2 m2))
 rw[aa];clear aa;go_wp2_with (refine wpList_store_row rfl 282 (.tmp 2) (.tmp 28) rfl w.heap.size #[DV g1 m1,DV g2 m2] rfl rfl 282 #[.nilFunc,.nilFunc] (Aa bd) Fq rfl (by first|rfl|simp[Value.oneCell']) ?_)
 rw[Aa cd];refine bodyPost_ret (v:=.agg #[DV g1 m1,DV g2 m2]) ?_ rfl (Aa ch);exact results_cell_row rfl _ _ w.heap.size _ _ _ _ (by first|rfl|kernel_rfl|simp) (Aa b4) Tryz.underlying282 rfl Fq
theorem Tr (No:Nat->Prop)(B b:Nat)(R G F:Value)(u:US)(w:World)(H:IIs No B w b R G F u)(M:Fx No w b G F)(E:∀g,w.heap.size<=g->¬No g):
 Calls Tryz.prog 251 #[.pointer (some ⟨b,0,none⟩)] w fun e w'=>Z7f No B w b R u e w':=by
 rcases M with ⟨rfl,rfl⟩|⟨g1,m1,b1,n1,g2,m2,b2,n2,rfl,rfl,T,I,U,O⟩
 . exact L4 No B b R u w H E
 . exact Yg No B b R u w g1 m1 b1 n1 g2 m2 b2 n2 H T I U O E
def Bk (No:Nat->Prop)(B:Nat)(w0:World)(b:Nat)(R:Value)(u:US)(w:World):Prop:=
 ∃No' f1 f2,(∀g,No g->No' g)/\(∀g,w.heap.size<=g->¬No' g)/\IIs No' B w b R f1 f2 u/\Fx No' w b f1 f2/\Bl No B w0 w
def SC (No:Nat->Prop)(B:Nat)(w0:World)(b:Nat)(R:Value)(V:US)(e:Ending)(w':World):Prop:=
 (V.e=0/\e=.returned (.tuple #[])/\Bk No B w0 b R V w')\/ (V.e≠0/\e=Flt V.e/\Bl No B w0 w')
theorem Bl.outer {No No':Nat->Prop}{B:Nat}{E w w':World}(G:Bl No B E w)(k:Bl No' B w w')(F:∀g,No g->No' g):Bl No B E w':=G.trans (k.weaken F)
theorem JN (No:Nat->Prop)(B b:Nat)(a:Option Addr)(n F:Nat)(bs:List Nat)(u:US)(M w:World)(h:Bk No B M b (.slice a n F) u w)(aa:Rd w No a n bs)(ae:u.p<=8*n)(U:u.e=0)(ab:u.out.length<=3000)(O:u.ks.length<=48000):
 Calls Tryz.prog 231 #[.pointer (some ⟨b,0,none⟩),.int .i64 0] w fun e w'=>SC No B M b (.slice a n F) (Ds (rowB bs n) 0 u) e w':=by
 obtain⟨No',f1,f2,hn,G,I,ac,H⟩:=h;have T:Ds (rowB bs n) 0 u=(if (Cj (rowB bs n) u).e=0 then ukept 0 (Cj (rowB bs n) u)else Cj (rowB bs n) u):=rfl;rw[T];refine(Sx No' B b a n F bs f1 f2 u w I (aa.wide hn) ae U ab O G I.base _ (Ab rfl)).mono ?_;rintro e w' (⟨e0,rfl,E⟩|⟨e0,rfl,Y⟩)
 . exact .inl ⟨e0,rfl,No',f1,f2,hn,fun g Z=>G g (VU E.below.size Z),E.is,ac.keep E.below.size E.kp,H.outer E.bl hn⟩
 . exact .inr ⟨e0,rfl,H.outer Y hn⟩
theorem JK (No:Nat->Prop)(B b k:Nat)(R:Value)(u:US)(row:List Bool)(G w:World)(M:Bk No B G b R u w)(Y:3<=k)(Z:k<4):
 Calls Tryz.prog 231 #[.pointer (some ⟨b,0,none⟩),.int .i64 (k:Int)] w fun e w'=>SC No B G b R (Ds row k u) e w':=by
 obtain rfl:k=3:=by omega
 obtain⟨No',f1,f2,hn,U,T,O,F⟩:=M;have I:=Ab F;have E:Hid (Ds row 3 u= {u with e:=4}):=Ab rfl;obtain⟨V,H⟩:=exq (Ds row 3 u);rw[H]at E ⊢;clear T O F H;go_enter Tryz.func231,Tryz.ntmps231
 go_wp2_with fail
 refine(Cf 4 w).mono ?_;rintro e aa ⟨rfl,rfl⟩;go_wp2;exact⟨rfl,.inr ⟨by rw[Aa E];exact(by decide:(4:Int)≠0),by rw[Aa E],Aa I⟩⟩
theorem JM (No:Nat->Prop)(B b:Nat)(a:Option Addr)(n F:Nat)(bs:List Nat)(u:US)(ac w:World)(h:Bk No B ac b (.slice a n F) u w)(a3:Rd w No a n bs)(av:u.p<=8*n)(a0:u.e=0)(au:u.out.length<=3000)(a9:u.ks.length<=48000):
 Calls Tryz.prog 231 #[.pointer (some ⟨b,0,none⟩),.int .i64 1] w fun e w'=>SC No B ac b (.slice a n F) (Ds (rowB bs n) 1 u) e w':=by
 have bq:=Af bs n;obtain⟨No',f1,f2,hn,ax,bf,a5,az⟩:=h;obtain⟨bm,bz,bu,bn,b9⟩:=info_parts Bv;obtain⟨V,I⟩:=exq (Hk (rowB bs n) Ky Ir (8*n+1) u);obtain⟨X,ak⟩:=exq (Ds (rowB bs n) 1 u);have aw:Hid ((if V.e=0 then ukept 1 V else V)=X):=Ab (by rw[<-ak,<-I,<-bq];rfl);rw[ak]
 have cn:Hid (V.e=0->V.ks.length<=48000):=Ab (fun e=>by
  have:=(Jf (rowB bs n) Ky Ir (8*n+1) u (by omega) au (by rw[I];exact e)).ks
  rw[I]at this;rw[this];exact a9)
 have bk:=Ab (Tr No' B b (.slice a n F) f1 f2 u w bf a5 ax);have cj:=Ab (a3.wide hn);have ba:=Ab az;have M:=Ab hn;have ar:=Ab (And.intro av (And.intro a0 au));have bi:=Ab I;clear bf a5 az a3 av a0 au a9 ax I ak hn;go_enter Tryz.func231,Tryz.ntmps231
 go_wp2_with fail
 refine(Aa bk).mono ?_;rintro e aa ⟨H,g1,m1,b1,n1,g2,m2,b2,n2,O,ah,rfl,a8,an,aj,al,ai,Z⟩;obtain⟨U,as⟩:=exq (DV g1 m1);obtain⟨ab,ap⟩:=exq (DV g2 m2);have cg:=Ab (Un H B b a n F bs U ab u aa (by rw[<-as,<-ap];exact a8) (((Aa cj).keep Z.below.size Z.kp).wide O) (Aa ar).1 (Aa ar).2.1 (Aa ar).2.2 g1 m1 b1 n1 g2 m2 b2 n2 Ky Ir an PO al aj PN ai ah V bi)
 have bg:Hid (∀Y w',IUp H B aa b (.slice a n F) U ab Y w'->Bk No B ac b (.slice a n F) Y w'):=Ab (fun Y w' G=>⟨H,U,ab,fun g E=>O g (Aa M g E),fun g E=>ah g (VU G.below.size E),G.is,by
  have:Fx H aa b U ab:=.inr ⟨g1,m1,b1,n1,g2,m2,b2,n2,as.symm,ap.symm,an,aj,al,ai⟩
  exact this.keep G.below.size G.kp,((Aa ba).outer Z (Aa M)).outer G.bl (fun g E=>O g (Aa M g E))⟩)
 have bv:Hid (∀w',Bl H B aa w'->Bl No B ac w'):=Ab (fun w' hb=>((Aa ba).outer Z (Aa M)).outer hb (fun g E=>O g (Aa M g E)));have ci:=Ab ah;clear O ah a8 an aj al ai Z as ap;go_wp2_with fail
 refine(Aa cg).mono ?_;rintro e ch E
 rcases E with ⟨e0,rfl,af⟩|⟨e0,rfl,a1⟩
 rotate_left
 . have T:Hid (X=V):=Ab (by rw[<-Aa aw,if_neg e0]);have bw:=Ab (Aa bv _ a1);clear a1;go_wp2;exact⟨rfl,.inr ⟨by rw[Aa T];exact e0,by rw[Aa T],Aa bw⟩⟩
 have T:Hid (X= {V with ks:=V.ks++ [1]}):=Ab (by rw[<-Aa aw,if_pos e0];rfl);have b0:=af.below.size;have ae:=af.is;have cy:=ae.lt;obtain⟨cv,cq,bo,cw,a6,a4,ao,bb,ay,a2⟩:=ae.rows;obtain⟨L,aq⟩:=exq (V.ks.length);have ag:=ao;have b3:=Aa cn e0;rw[aq]at ag b3;obtain⟨co,cz,rfl⟩:=An ag;have bh:=Ab ag;have a7:=Ab ae;have ce:=Ab a6;have ck:=Ab a4;have cm:=Ab ao;have b7:=Ab bb;have bt:=Ab ay;have bj:=Ab a2;have cl:=Ab aq;have b4:=Ab af;clear af ae a6 a4 ao bb ay a2 ag aq bo;go_wp2_with (at_builtin;refine wpList_append_own_at _ rfl _ _ 76 rfl (b+1) 3 bm (.int .i64 0) 1 8 Tryz.underlying76 bz bu bn b9 rfl (by decide) _ L (i64s V.ks) rfl ((Aa bh).alloc _) ⟨ch.heap.size,0,none⟩ 1 1 [.int .i64 ((1:Nat):Int)] rfl rfl (cell_one_new _ _ _) (Bc rfl) (by unfold maxLen;omega) (by omega) (by simp;omega) ?_)
 intro v' c3 am bd _ be;obtain⟨cp,c4,b5,_,_⟩:=Ba am (by omega);obtain⟨cu,ct,bc⟩:=IIs.kept (c:=1) (v':=v') (Aa a7).base (Aa a7).no (Aa ce) (Aa ck) (Aa cm) (Aa b7) (Aa bt) (Aa bj) (fun g E=>Aa ci g (VU b0 E)) (by rw[Aa cl];exact am) bd (by simpa using be);have cd:=Ab ((Aa b4).trans bc);have b8:Hid (∀w',IUp H B aa b (.slice a n F) U ab {V with ks:=V.ks++ [1]} w'->SC No B ac b (.slice a n F) X (.returned (.tuple #[])) w'):=Ab (fun w' G=>.inl ⟨by rw[Aa T];exact e0,rfl,by rw[Aa T];exact Aa bg _ w' G⟩);subst b5;clear bc am bd be;go_wp2;go_end0
 exact Aa b8 _ (Aa cd)
theorem JL (No:Nat->Prop)(B b:Nat)(a:Option Addr)(n G:Nat)(bs:List Nat)(u:US)(ag w:World)(h:Bk No B ag b (.slice a n G) u w)(az:Rd w No a n bs)(a7:u.p<=8*n)(bd:u.e=0)(bv:u.out.length<=3000)(bo:u.ks.length<=48000):
 Calls Tryz.prog 231 #[.pointer (some ⟨b,0,none⟩),.int .i64 2] w fun e w'=>SC No B ag b (.slice a n G) (Ds (rowB bs n) 2 u) e w':=by
 have bc:=Af bs n;obtain⟨No',aa,ab,hn,au,b7,bi,bb⟩:=h;obtain⟨cm,cv,cq,cn,c7⟩:=info_parts Bv;obtain⟨A,C,x,ae⟩:∃A C x,Db (rowB bs n) u=((A,C),x):=⟨_,_,_,rfl⟩
 obtain⟨V,ac⟩:=exq (Hk (rowB bs n) A C (8*n+1) x);obtain⟨X,aq⟩:=exq (Ds (rowB bs n) 2 u)
 have a6:X=if x.e≠0 then x else (if V.e=0 then ukept 2 V else V):=by
  rw[<-aq,<-ac,<-bc];show (if (Db (rowB bs n) u).2.e≠0 then (Db (rowB bs n) u).2 else Jg 2 (Hk (rowB bs n) (Db (rowB bs n) u).1.1 (Db (rowB bs n) u).1.2 ((rowB bs n).length+1) (Db (rowB bs n) u).2))=_
  rw[ae];rfl
 rw[aq];have a9:=Ab a6
 have b3:Hid (x.e=0->Ahd (rowB bs n) u x):=Ab (fun e=>by
  have:=Pv (rowB bs n) u (by omega) bv (by rw[ae];exact e)
  rw[ae]at this;exact this)
 have ao:Hid (V.e=0->x.e=0->V.ks.length<=48000):=Ab (fun e e2=>by
  have q:=Aa b3 e2;have:=(Jf (rowB bs n) A C (8*n+1) x q.le q.out (by rw[ac];exact e)).ks
  rw[ac]at this;rw[this,q.ks];exact bo)
 have ct:=Ab (D4 No' B b a n G bs aa ab u w b7 (az.wide hn) a7 bd au A C x (Ab ae));have dd:=Ab (az.wide hn);have a1:=Ab bb;have Z:=Ab hn;have cj:=Ab au;have c3:=Ab bi;have ck:=Ab ac;clear b7 bi bb az a7 bd bv bo au ac aq hn ae a6;go_enter Tryz.func231,Tryz.ntmps231
 go_wp2_with fail
 refine(Aa ct).mono ?_;rintro e O E
 rcases E with ⟨ex,rfl,b5⟩|⟨ex,I,bm,a5,g1,m1,b1,n1,g2,m2,b2,n2,rfl,am,ai,al,ah⟩
 . have M:Hid (X=x):=Ab (by rw[Aa a9,if_pos ex]);have a0:=Ab ((Aa a1).outer b5 (Aa Z));clear b5;go_wp2;exact⟨rfl,.inr ⟨by rw[Aa M];exact ex,by rw[Aa M],Aa a0⟩⟩
 have a8:Hid ((if V.e=0 then ukept 2 V else V)=X):=Ab (by
  have:=Aa a9
  rw[if_neg (show ¬x.e≠0 from fun c=>c ex)]at this;exact this.symm)
 have aw:=Aa b3 ex;have a4:=aw.le;rw[bc]at a4;have bw:=Ab (fun e=>Aa ao e ex);clear ao;have ao:=bw;clear bw;obtain⟨H,af⟩:=exq (NK No' w.heap.size O.heap.size);have F:∀g,No' g->H g:=fun g E=>by rw[<-af];exact .inl E
 have ap:∀g,O.heap.size<=g->¬H g:=fun g E e=>by
  rw[<-af]at e;have:=I.bl.below.size
  rcases e with e|e
  . exact Aa cj g (by omega) e
  . omega
 have T:∀g,w.heap.size<=g->g<O.heap.size->H g:=fun g cg ch=>by rw[<-af];exact .inr ⟨cg,ch⟩
 have bn:IIs H B O b (.slice a n G) aa ab x:=by rw[<-af];exact I.inner
 have a2:=am.lt;have bt:=am.is.lt;have a3:=ai.lt;have b4:=ai.is.lt;have da:=Ab (Un H B b a n G bs aa ab x O bn (((Aa dd).keep I.bl.below.size I.bl.kp).wide F) a4 ex aw.out g1 m1 b1 n1 g2 m2 b2 n2 A C am bm ⟨T _ al.1 a2.1,T _ al.2.1 a2.2,T _ al.2.2 bt⟩ ai a5 ⟨T _ ah.1 a3.1,T _ ah.2.1 a3.2,T _ ah.2.2 b4⟩ ap V ck)
 have cd:Hid (∀Y w',IUp H B O b (.slice a n G) aa ab Y w'->Bk No B ag b (.slice a n G) Y w'):=Ab (fun Y w' U=>⟨H,aa,ab,fun g E=>F g (Aa Z g E),fun g E=>ap g (VU U.below.size E),U.is,by
  have f1:=(Aa c3).keep I.bl.below.size I.bl.kp;have f2:=f1.keep U.below.size (U.kp.weaken F)
  rcases f2 with f2|⟨g1,m1,b1,n1,g2,m2,b2,n2,ce,b9,bf,b8,ax,ar⟩
  . exact .inl f2
  . exact .inr ⟨g1,m1,b1,n1,g2,m2,b2,n2,ce,b9,bf,b8,⟨F _ ax.1,F _ ax.2.1,F _ ax.2.2⟩,⟨F _ ar.1,F _ ar.2.1,F _ ar.2.2⟩⟩,((Aa a1).outer I.bl (Aa Z)).outer U.bl (fun g E=>F g (Aa Z g E))⟩)
 have cu:Hid (∀w',Bl H B O w'->Bl No B ag w'):=Ab (fun w' hb=>((Aa a1).outer I.bl (Aa Z)).outer hb (fun g E=>F g (Aa Z g E)));have dc:=Ab ap;clear F ap bn am ai al ah I af T a2 bt a3 b4 aw a4 bm a5;go_wp2_with fail
 refine(Aa da).mono ?_;rintro e db E
 rcases E with ⟨e0,rfl,ak⟩|⟨e0,rfl,be⟩
 rotate_left
 . have M:Hid (X=V):=Ab (by rw[<-Aa a8,if_neg e0]);have a0:=Ab (Aa cu _ be);clear be;go_wp2;exact⟨rfl,.inr ⟨by rw[Aa M];exact e0,by rw[Aa M],Aa a0⟩⟩
 have M:Hid (X= {V with ks:=V.ks++ [2]}):=Ab (by rw[<-Aa a8,if_pos e0];rfl);have cw:=ak.below.size;have aj:=ak.is;have dp:=aj.lt;obtain⟨dm,dj,co,dn,bj,bh,av,bq,ba,bg⟩:=aj.rows;obtain⟨L,ay⟩:=exq (V.ks.length);have an:=av;have cy:=Aa ao e0;rw[ay]at an cy;obtain⟨dh,dq,rfl⟩:=An an;have ci:=Ab an;have bk:=Ab aj;have c9:=Ab bj;have de:=Ab bh;have dg:=Ab av;have c5:=Ab bq;have cp:=Ab ba;have cl:=Ab bg;have df:=Ab ay;have cz:=Ab ak;clear ak aj bj bh av bq ba bg an ay co;go_wp2_with (at_builtin;refine wpList_append_own_at _ rfl _ _ 76 rfl (b+1) 3 cm (.int .i64 0) 1 8 Tryz.underlying76 cv cq cn c7 rfl (by decide) _ L (i64s V.ks) rfl ((Aa ci).alloc _) ⟨db.heap.size,0,none⟩ 1 1 [.int .i64 ((2:Nat):Int)] rfl rfl (cell_one_new _ _ _) (Bc rfl) (by unfold maxLen;omega) (by omega) (by simp;omega) ?_)
 intro v' dr as bz _ b0;obtain⟨di,ds,c4,_,_⟩:=Ba as (by omega);obtain⟨bf,dl,bu⟩:=IIs.kept (c:=2) (v':=v') (Aa bk).base (Aa bk).no (Aa c9) (Aa de) (Aa dg) (Aa c5) (Aa cp) (Aa cl) (fun g E=>Aa dc g (VU cw E)) (by rw[Aa df];exact as) bz (by simpa using b0);have c8:=Ab ((Aa cz).trans bu);have c6:Hid (∀w',IUp H B O b (.slice a n G) aa ab {V with ks:=V.ks++ [2]} w'->SC No B ag b (.slice a n G) X (.returned (.tuple #[])) w'):=Ab (fun w' U=>.inl ⟨by rw[Aa M];exact e0,rfl,by rw[Aa M];exact Aa cd _ w' U⟩);subst c4;clear bu as bz b0;go_wp2;go_end0
 exact Aa c6 _ (Aa c8)
theorem RI (No:Nat->Prop)(B b k:Nat)(a:Option Addr)(n E:Nat)(bs:List Nat)(u:US)(F w:World)(G:Bk No B F b (.slice a n E) u w)(H:Rd w No a n bs)(O:u.p<=8*n)(T:u.e=0)(M:u.out.length<=3000)(I:u.ks.length<=48000)(U:k<4):
 Calls Tryz.prog 231 #[.pointer (some ⟨b,0,none⟩),.int .i64 (k:Int)] w fun e w'=>SC No B F b (.slice a n E) (Ds (rowB bs n) k u) e w':=by
 rcases(by omega:k=0\/k=1\/k=2\/k=3)with rfl|rfl|rfl|rfl
 . exact JN No B b a n E bs u F w G H O T M I
 . exact JM No B b a n E bs u F w G H O T M I
 . exact JL No B b a n E bs u F w G H O T M I
 . exact JK No B b 3 (.slice a n E) u (rowB bs n) F w G (by decide) (by decide)
theorem Bk.cellP {No:Nat->Prop}{B b n:Nat}{E w:World}{R:Value}{u:US}(G:Bk No B E b R u w):NY n b w=8*n+1-u.p:=by
 obtain⟨No',f1,f2,_,_,F,_⟩:=G;exact Mb F
theorem O5 (No:Nat->Prop)(B b F:Nat)(a:Option Addr)(n G:Nat)(bs:List Nat)(u:US)(H w:World)(Z:Bk No B H b (.slice a n G) u w)(Y:Rd w No a n bs)(T:u.p<=8*n)(ae:u.e=0)(af:F<=16)(r:Nat)(v:US)(ab:uget (rowB bs n) F u=(r,v)):
 Calls Tryz.prog 230 #[.pointer (some ⟨b,0,none⟩),.int .i64 (F:Int)] w fun e w'=>(v.e=0/\e=.returned (.int .i64 (r:Int))/\Bk No B H b (.slice a n G) v w')\/ (v.e≠0/\e=Flt v.e/\Bl No B H w'):=by
 obtain⟨No',f1,f2,hn,M,ac,aa,I⟩:=Z;refine(Dx No' B b a n G F bs f1 f2 u w ac (Y.wide hn) T ae af r v (Ab ab)).mono ?_;rintro e w' (⟨e0,rfl,E⟩|⟨e0,rfl,O⟩)
 . exact .inl ⟨e0,rfl,No',f1,f2,hn,fun g U=>M g (VU E.below.size U),E.is,aa.keep E.below.size E.kp,I.outer E.bl hn⟩
 . exact .inr ⟨e0,rfl,I.outer O hn⟩
theorem Bk.bl {No:Nat->Prop}{B b:Nat}{E w:World}{R:Value}{u:US}(G:Bk No B E b R u w):Bl No B E w:=by
 obtain⟨No',f1,f2,_,_,_,_,F⟩:=G;exact F
theorem JG (No:Nat->Prop)(B b:Nat)(a:Option Addr)(n G:Nat)(bs:List Nat)(w:World)(h:IIs No B w b (.slice a n G) .nilFunc .nilFunc US0)(al:Rd w No a n bs)(ar:∀g,w.heap.size<=g->¬No g):
 Calls Tryz.prog 205 #[.pointer (some ⟨b,0,none⟩)] w fun e w'=>SC No B w b (.slice a n G) (Dk (rowB bs n)) e w':=by
 have Z:=Af bs n;have b8:=al.few;obtain⟨row,ac⟩:=exq (rowB bs n);obtain⟨V,ag⟩:=exq (Dk row);have bw:Hid (Bk No B w b (.slice a n G) US0 w):=Ab ⟨No,.nilFunc,.nilFunc,fun _ h=>h,ar,h,.inl ⟨rfl,rfl⟩,Bl.refl _ _ _⟩;have a5:Hid (∀wr,Bl No B w wr->Rd wr No a n bs):=Ab (fun wr hb=>al.keep hb.below.size hb.kp);have as:Hid (∀(wr:World) (u:US) (size r:Nat) (v:US),Bk No B w b (.slice a n G) u wr->u.p<=8*n->u.e=0->size<=16->uget row size u=(r,v)->Calls Tryz.prog 230 #[.pointer (some ⟨b,0,none⟩),.int .i64 (size:Int)] wr fun e w'=>(v.e=0/\e=.returned (.int .i64 (r:Int))/\Bk No B w b (.slice a n G) v w')\/ (v.e≠0/\e=Flt v.e/\Bl No B w w')):=Ab (fun wr u size r v hb I H O T=>O5 No B b size a n G bs u w wr hb (Aa a5 wr hb.bl) I H O r v (by rw[ac];exact T))
 have b5:Hid (∀(wr:World) (u:US) (k:Nat),Bk No B w b (.slice a n G) u wr->u.p<=8*n->u.e=0->u.out.length<=3000->u.ks.length<=48000->k<4->Calls Tryz.prog 231 #[.pointer (some ⟨b,0,none⟩),.int .i64 (k:Int)] wr fun e w'=>SC No B w b (.slice a n G) (Ds row k u) e w'):=Ab (fun wr u k hb I H O T be=>by
  have:=RI No B b k a n G bs u w wr hb (Aa a5 wr hb.bl) I H O T be
  rw[ac]at this;exact this)
 rw[ac]at Z ⊢;rw[ag];obtain⟨ai,af⟩:=exq (row.length+1);have bi:Hid (Bw row ai US0=V):=Ab (by rw[<-af];exact ag);have bg:Hid (8*n+1<=US0.p+ai):=Ab (by rw[<-af,Z];show _<=0+_;omega);clear h al ar ac ag af;go_enter Tryz.func205,Tryz.ntmps205
 go_wp2;go_loopw [2] (fun E wr=>∃(u:US) (l f:Nat),E=.int .i64 (l:Int)/\Hid (u.e=0/\u.p<=8*n/\u.out.length<=3000/\u.ks.length<=u.p)/\Hid (Bk No B w b (.slice a n G) u wr)/\((l=0/\Hid (Bw row f u=V)/\Hid (8*n+1<=u.p+f))\/ (l≠0/\Hid (u=V)))) (fun _ wr=>NY n b wr)
 case atStart=>exact⟨US0,0,ai,rfl,Ab ⟨rfl,VH _,VH _,VH _⟩,bw,.inl ⟨rfl,bi,bg⟩⟩
 case round=>
  obtain⟨u,l,f,rfl,bb,am,bo⟩:=hrel;obtain⟨ak,bh,a3,b7⟩:=Aa bb
  rcases bo with ⟨rfl,aw,a7⟩|⟨hl,ah⟩
  . have bm:=Aa a7
    cases f with
    |zero=>exact absurd bm (by omega)
    |succ f=>
     have ao:=Aa aw;rw[Bw]at ao;obtain⟨r1,F,I⟩:∃r1 F,uget row 1 u=(r1,F):=⟨_,_,rfl⟩
     obtain⟨r2,E,H⟩:∃r2 E,uget row 2 F=(r2,E):=⟨_,_,rfl⟩
     have aq:Bj row u=if F.e≠0 then (1,F)else if E.e≠0 then (1,E)else (r1,Ds row r2 E):=by
      unfold Bj;rw[I];simp only
      rw[H]
     have bc:F.p<=8*n:=by have:=Gr row 1 u (by omega);rw[I,Z]at this;exact this
     have a9:E.p<=8*n:=by have:=Gr row 2 F (by omega);rw[H,Z]at this;exact this
     have o1:F.out=u.out:=by have:=Cm row 1 u;rw[I]at this;exact this
     have o2:E.out=u.out:=by have:=Cm row 2 F;rw[H]at this;exact this.trans o1
     have au:F.ks=u.ks:=by have:=Ic row 1 u;rw[I]at this;exact this
     have a4:E.ks=u.ks:=by have:=Ic row 2 F;rw[H]at this;exact this.trans au
     have l2:r2<4:=by have:=SD row 2 F;rw[H]at this;exact this
     have bv:Hid ((Bj row u).2.e=0->(Bj row u).2.ks.length=u.ks.length+1/\u.p+3<=(Bj row u).2.p/\(Bj row u).2.p<=row.length/\(Bj row u).2.out.length<=3000):=Ab (Hl row n Z u ak (by omega) a3);have bk:=Ab (Aa as wr u 1 r1 F (Aa am) bh ak (by decide) I);have bj:Hid (∀W,F.e=0->Bk No B w b (.slice a n G) F W->Calls Tryz.prog 230 #[.pointer (some ⟨b,0,none⟩),.int .i64 2] W fun e w'=>(E.e=0/\e=.returned (.int .i64 (r2:Int))/\Bk No B w b (.slice a n G) E w')\/ (E.e≠0/\e=Flt E.e/\Bl No B w w')):=Ab (fun W O T=>Aa as W F 2 r2 E T bc O (by decide) H);have bn:Hid (∀W,E.e=0->Bk No B w b (.slice a n G) E W->Calls Tryz.prog 231 #[.pointer (some ⟨b,0,none⟩),.int .i64 (r2:Int)] W fun e w'=>SC No B w b (.slice a n G) (Ds row r2 E) e w'):=Ab (fun W O T=>Aa b5 W E r2 T a9 O (by rw[o2];exact a3) (by rw[a4];omega) l2);have an:=Ab aq;have ap:=Ab ao;have bt:=Ab ((Aa am).cellP (n:=n));clear ao aq I H o1 o2 au a4 aw a7;go_wp2_with fail
     refine(Aa bk).mono ?_;rintro e b3 (⟨U,rfl,a0⟩|⟨U,rfl,a8⟩)
     rotate_left
     . have M:Hid (V=F):=Ab (by
        have:=Aa ap
        rw[Aa an,if_pos U,if_neg (fun c=>absurd (show (1:Nat)=0 from c.1) (by decide))]at this;exact this.symm)
       have aa:=Ab a8;clear a8;go_wp2;exact⟨rfl,.inr ⟨by rw[Aa M];exact U,by rw[Aa M],Aa aa⟩⟩
     have b4:=Ab a0;clear a0;go_wp2_with fail
     refine(Aa bj b3 U (Aa b4)).mono ?_;rintro e bq (⟨e2,rfl,a1⟩|⟨e2,rfl,av⟩)
     rotate_left
     . have M:Hid (V=E):=Ab (by
        have:=Aa ap
        rw[Aa an,if_neg (show ¬F.e≠0 from fun c=>c U),if_pos e2,if_neg (fun c=>absurd (show (1:Nat)=0 from c.1) (by decide))]at this;exact this.symm)
       have aa:=Ab av;clear av;go_wp2;exact⟨rfl,.inr ⟨by rw[Aa M];exact e2,by rw[Aa M],Aa aa⟩⟩
     have bz:=Ab a1;have ax:Hid (Bj row u=(r1,Ds row r2 E)):=Ab (by rw[Aa an,if_neg (show ¬F.e≠0 from fun c=>c U),if_neg (show ¬E.e≠0 from fun c=>c e2)]);clear a1;go_wp2_with fail
     refine(Aa bn bq e2 (Aa bz)).mono ?_;obtain⟨Y,ay⟩:=exq (Ds row r2 E);rw[ay]at ax ⊢;have ae:=Aa ap;have ab:=Aa bv;rw[Aa ax]at ae ab;simp only at ae ab
     have az:=Ab ae;have bd:=Ab ab;clear ae ab ay;rintro e w3 (⟨e3,rfl,aj⟩|⟨e3,rfl,a6⟩)
     rotate_left
     . have M:Hid (V=Y):=Ab (by
        have:=Aa az
        rw[if_neg (fun c=>e3 c.2)]at this;exact this.symm)
       have aa:=Ab a6;clear a6;go_wp2;exact⟨rfl,.inr ⟨by rw[Aa M];exact e3,by rw[Aa M],Aa aa⟩⟩
     obtain⟨y1,y2,a2,b0⟩:=Aa bd e3;rw[Z]at a2;have bu:=Ab aj;have ba:=Ab (aj.cellP (n:=n))
     have bf:Hid ((r1=0/\Hid (Bw row f Y=V)/\Hid (8*n+1<=Y.p+f))\/ (r1≠0/\Hid (Y=V))):=Ab (by
      have:=Aa az
      by_cases c:r1=0
      . rw[if_pos ⟨c,e3⟩]at this;exact .inl ⟨c,Ab this,Ab (by omega)⟩
      . rw[if_neg (fun d=>c d.1)]at this;exact .inr ⟨c,Ab this⟩)
     clear aj;go_wp2;go_roundw
     case rel=>exact⟨Y,r1,f,rfl,Ab ⟨e3,a2,b0,by omega⟩,bu,Aa bf⟩
     case measure=>rw[Aa ba,Aa bt];omega
  . have hb:((l:Int)==0)=false:=by rw[beq_eq_false_iff_ne];omega
    have M:Hid (SC No B w b (.slice a n G) V (.returned (.tuple #[])) wr):=Ab (.inl ⟨by rw[<-Aa ah];exact ak,rfl,by rw[<-Aa ah];exact Aa am⟩);clear ah;go_wp2;go_end0
    exact Aa M
end Go.Proofs.YtleocpdblhbimaaGreatDoor
namespace Go.Proofs.YtleocpdblhbimaaGreatDoor
set_option linter.unusedVariables false
set_option maxRecDepth 100000
theorem Ci (row:List Bool)(n:Nat)(u:US)(E:0<=u.e):0<=(uget row n u).2.e:=by
 unfold uget
 split
 . split
   . exact(by decide:(0:Int)<=7)
   . exact E
 . exact E
theorem BZ (l:List Int)(row:List Bool)(p:Nat):∀f n,0<=(Ej l row p f n).2.2
 |0,n=>(by decide:(0:Int)<=8)
 |f+1,n=>by
  unfold Ej
  split
  . exact(by decide:(0:Int)<=7)
  . split
    . exact(by decide:(0:Int)<=0)
    . exact BZ l row p f (n+1)
theorem Ef (l:List Int)(row:List Bool)(u:US)(E:0<=u.e):0<=(uplace l row u).2.e:=by
 unfold uplace
 split
 . exact BZ l row u.p 15 1
 . exact E
theorem Ft (x:Int)(u:US)(E:0<=x)(F:0<=u.e):0<=(Am x u).e:=by
 unfold Am
 split
 . exact E
 . exact F
theorem KD (c:Nat)(u:US)(E:0<=u.e):0<=(Fd c u).e:=by
 unfold Fd
 split
 . split
   . exact(by decide:(0:Int)<=2)
   . exact E
 . exact E
theorem Zh (row:List Bool):∀(k:Nat) (u:US),0<=u.e->0<=(ustore row k u).e
 |0,u,h=>h
 |k+1,u,h=>by
  unfold ustore
  split
  . exact Zh row k _ (KD _ _ (Ci _ _ _ h))
  . exact h
theorem BF (d:Nat):∀(k:Nat) (u:US),0<=u.e->0<=(ucopy d k u).e
 |0,u,h=>h
 |k+1,u,h=>by
  unfold ucopy
  split
  . exact BF d k _ (KD _ _ h)
  . exact h
theorem GI (row:List Bool)(u:US)(F:0<=u.e):0<=(Cj row u).e:=by
 have E:0<=(Cl row u).2.e:=by
  unfold Cl;dsimp only
  split
  . exact Ft _ _ (by decide) (Ci _ _ _ (Ci _ _ _ F))
  . exact Ci _ _ _ (Ci _ _ _ F)
 unfold Cj;dsimp only
 split
 . exact Ft _ _ (by decide) E
 . exact Zh _ _ _ E
theorem OQ (row:List Bool)(l:List Int)(u:US)(E:0<=u.e):0<=(Me row l u).2.e:=by
 unfold Me
 split
 . exact Ef _ _ _ E
 . split
   . exact(by decide:(0:Int)<=8)
   . exact Ci _ _ _ (Ef _ _ _ E)
theorem Z1g (d k:Nat)(u:US)(E:0<=u.e):0<=(Jh d k u).e:=by
 unfold Jh
 split
 . exact(by decide:(0:Int)<=9)
 . split
   . exact(by decide:(0:Int)<=2)
   . exact BF _ _ _ E
theorem CK (row:List Bool)(lb:List Int)(k:Nat)(u:US)(E:0<=u.e):0<=(Co row lb k u).e:=by
 unfold Co
 split
 . split
   . exact(by decide:(0:Int)<=2)
   . exact E
 . split
   . exact(by decide:(0:Int)<=8)
   . split
     . exact Ci _ _ _ E
     . split
       . exact OQ _ _ _ (Ci _ _ _ E)
       . exact Z1g _ _ _ (OQ _ _ _ (Ci _ _ _ E))
theorem Xy (row:List Bool)(E lb:List Int):∀(f:Nat) (u:US),0<=u.e->0<=(Hk row E lb f u).e
 |0,u,h=>by
  unfold Hk
  split
  . exact Ef _ _ _ h
  . exact Ef _ _ _ h
 |f+1,u,h=>by
  rw[Hj]
  split
  . exact Ef _ _ _ h
  . split
    . exact Ef _ _ _ h
    . split
      . exact CK _ _ _ _ (Ef _ _ _ h)
      . exact Xy row E lb f _ (CK _ _ _ _ (Ef _ _ _ h))
theorem Zi (row:List Bool):∀(ks:List Nat) (s:List Int) (u:US),0<=u.e->0<=(usmall row ks s u).2.e
 | [],s,u,h=>h
 |k::r,s,u,h=>by
  rw[usmall];exact Zi row r _ _ (Ci _ _ _ h)
theorem TC (row:List Bool)(l:List Int)(k:Nat)(u:US)(E:0<=u.e):0<=(ukind row l k u).2.2.e:=by
 unfold ukind
 split
 . split
   . exact Ft _ _ (by decide) E
   . exact Ci _ _ _ E
 . split
   . exact Ci _ _ _ E
   . split
     . exact Ci _ _ _ E
     . exact E
theorem SW (tot:Nat)(l:List Int)(r:Int×Nat×US)(E:0<=r.2.2.e):0<=(Td tot l r).2.e:=by
 unfold Td;dsimp only
 split
 . exact Ft _ _ (by decide) E
 . exact E
theorem BD (row:List Bool)(S:List Int)(tot:Nat):∀(F:Nat) (l:List Int) (u:US),0<=u.e->0<=(ulens row S tot F l u).2.e
 |0,l,u,h=>h
 |F+1,l,u,h=>by
  rw[ulens]
  split
  . exact BD row S tot F _ _ (SW _ _ _ (TC _ _ _ _ (Ef _ _ _ h)))
  . exact h
theorem AY (row:List Bool)(u:US)(G:0<=u.e):0<=(Db row u).2.e:=by
 unfold Db;dsimp only;have E:=Ci row 4 _ (Ci row 5 _ (Ci row 5 u G));generalize (uget row 5 u).1=m0 at*;generalize (uget row 5 (uget row 5 u).2).1=n0 at*;generalize uget row 4 (uget row 5 (uget row 5 u).2).2=g at*
 have F:0<=(Gk row (m0+257) (n0+1) (g.1+4) g.2).2.e:=by
  unfold Gk;refine Zi _ _ _ _ ?_
  split
  . exact Ft _ _ (by decide) E
  . exact E
 generalize Gk row (m0+257) (n0+1) (g.1+4) g.2=s at*
 have hc:0<=(Qa s).e:=by
  unfold Qa
  split
  . exact Ft _ _ (by decide) F
  . exact F
 unfold Ke
 split
 . exact hc
 . have hl:=BD row s.1 (m0+257+(n0+1)) (m0+257+(n0+1)) [] (Qa s) hc;generalize ulens row s.1 (m0+257+(n0+1)) (m0+257+(n0+1)) [] (Qa s)=r at*;unfold Gl
   split
   . exact hl
   . split
     . exact Ft _ _ (by decide) hl
     . exact hl
theorem Yc (k:Nat)(u:US)(E:0<=u.e):0<=(Jg k u).e:=by
 unfold Jg
 split
 . exact E
 . exact E
theorem Z1d (row:List Bool)(k:Nat)(u:US)(E:0<=u.e):0<=(Ds row k u).e:=by
 unfold Ds
 split
 . exact Yc _ _ (GI _ _ E)
 . split
   . exact Yc _ _ (Xy _ _ _ _ _ E)
   . split
     . split
       . exact AY _ _ E
       . exact Yc _ _ (Xy _ _ _ _ _ (AY _ _ E))
     . exact(by decide:(0:Int)<=4)
theorem I9 (row:List Bool)(u:US)(E:0<=u.e):0<=(Bj row u).2.e:=by
 unfold Bj
 split
 . exact Ci _ _ _ E
 . split
   . exact Ci _ _ _ (Ci _ _ _ E)
   . exact Z1d _ _ _ (Ci _ _ _ (Ci _ _ _ E))
theorem Vo (row:List Bool):∀(F:Nat) (u:US),0<=u.e->0<=(Bw row F u).e
 |0,u,h=>h
 |F+1,u,h=>by
  rw[Bw]
  split
  . exact Vo row F _ (I9 row u h)
  . exact I9 row u h
theorem Z19 (row:List Bool):0<=(Dk row).e:=Vo row _ _ (by decide)
end Go.Proofs.YtleocpdblhbimaaGreatDoor
namespace Go.Proofs.YtleocpdblhbimaaGreatDoor
open Go.RowKit
set_option linter.unusedVariables false
set_option maxRecDepth 100000
theorem Wr (a:Option Addr)(n E:Nat)(bs:List Nat)(w:World)(ag:bs.length=n)(H:n<=6000)(G:BytesIn w a bs)(af:∀j,bs.getD j 0<256):
 Calls Tryz.prog 166 #[.slice a n E] w fun e w'=>Z8h w bs n e w':=by
 refine(EL a n E bs w H (Dk (rowB bs n)) ?_ (Z19 _) (fun e=> ?_)).mono (fun e w' h=>h)
 . intro No B b W ai U aa an ao I
   have ae:Rd w No a n bs:=⟨ag,H,G,af,fun b o ea ac=>aa b (by
    rcases G with T|⟨ak,al,M,ab,_⟩
    . exact absurd T ac
    . rw[ea]at M;cases M;exact ab)⟩
   have ah:Rd W No a n bs:=ae.keep I.size (fun g F _=>I.block g F);refine(JG No B b a n E bs W ai ah (fun g F=>U g (by omega))).mono ?_;rintro e w' (⟨e0,rfl,hK⟩|⟨e0,rfl,hb⟩)
   . obtain⟨No',f1,f2,Y,am,Z,aj,O⟩:=hK;exact .inl ⟨e0,rfl,f1,f2,Z.weak Y,O.below,O.kp⟩
   . exact .inr ⟨e0,rfl,hb.below,hb.kp⟩
 . have:=(Rn (rowB bs n) n (Af bs n) e).2.1
   rw[Af]at this;omega
theorem Tc (a:Option Addr)(n E:Nat)(w:World)(H:6000<n)(G:n<=9223372036854775807):
 Calls Tryz.prog 166 #[.slice a n E] w fun e w'=>e=.returned (.tuple #[.slice none 0 0,.int .i64 0,.slice none 0 0,.int .i64 2])/\w'=w:=by
 have F:(6000:Int)<(n:Int):=by omega
 go_enter Tryz.func166,Tryz.ntmps166
 go_wp2;refine bodyPost_ret (v:=.tuple #[.slice none 0 0,.int .i64 0,.slice none 0 0,.int .i64 2]) ?_ rfl ⟨rfl,rfl⟩
 first|rfl|kernel_rfl
end Go.Proofs.YtleocpdblhbimaaGreatDoor
namespace Go.Proofs.YtleocpdblhbimaaGreatDoor
set_option linter.unusedVariables false
theorem Z8n:Z5u:=⟨Wr,Tc⟩
end Go.Proofs.YtleocpdblhbimaaGreatDoor
