import Derived.Test.YtleocpdblhbimaaGreatDoorQ25
import Derived.Laws.EntriesVeiled
set_option linter.unusedSimpArgs false
set_option maxHeartbeats 4000000
namespace Go.Proofs.YtleocpdblhbimaaGreatDoor
open Go.RowKit
set_option linter.unusedVariables false
set_option maxRecDepth 100000
def Fx (No:Nat->Prop)(w:World)(b:Nat)(f1 f2:Value):Prop:=
 (f1=.nilFunc/\f2=.nilFunc)\/∃g1 m1 b1 n1 g2 m2 b2 n2,f1=DV g1 m1/\f2=DV g2 m2/\DIs w g1 m1 b1 n1 b Ky/\DIs w g2 m2 b2 n2 b Ir/\(No g1/\No m1/\No b1)/\(No g2/\No m2/\No b2)
theorem Fx.keep {No:Nat->Prop}{w w':World}{b:Nat}{f1 f2:Value}(h:Fx No w b f1 f2)(hs:w.heap.size<=w'.heap.size)(hk:Kp No w w'):Fx No w' b f1 f2:=by
 rcases h with h|⟨g1,m1,b1,n1,g2,m2,b2,n2,e1,e2,d1,d2,⟨a1,a2,a3⟩,⟨c1,c2,c3⟩⟩
 . exact .inl h
 . have t1:=d1.lt;have t2:=d1.is.lt;have t3:=d2.lt;have t4:=d2.is.lt;exact .inr ⟨g1,m1,b1,n1,g2,m2,b2,n2,e1,e2,d1.keep hs (hk g1 t1.1 a1) (hk m1 t1.2 a2) (hk b1 t2 a3),d2.keep hs (hk g2 t3.1 c1) (hk m2 t3.2 c2) (hk b2 t4 c3),⟨a1,a2,a3⟩,⟨c1,c2,c3⟩⟩
def Z7f (No:Nat->Prop)(B:Nat)(w:World)(b:Nat)(R:Value)(u:US)(e:Ending)(w':World):Prop:=
 ∃No' g1 m1 b1 n1 g2 m2 b2 n2,(∀g,No g->No' g)/\(∀g,w'.heap.size<=g->¬No' g)/\e=.returned (.agg #[DV g1 m1,DV g2 m2])/\IIs No' B w' b R (DV g1 m1) (DV g2 m2) u/\DIs w' g1 m1 b1 n1 b Ky/\DIs w' g2 m2 b2 n2 b Ir/\(No' g1/\No' m1/\No' b1)/\(No' g2/\No' m2/\No' b2)/\Bl No B w w'
theorem IIs.cells45 {No:Nat->Prop}{B b:Nat}{w:World}{R f1 f2:Value}{u:US}(h:IIs No B w b R f1 f2 u):w.cell? ⟨b,4,none⟩=some f1/\w.cell? ⟨b,5,none⟩=some f2/\∀j,w.frozen? ⟨b,j,none⟩=false:=by
 obtain⟨ov,kv,h1,_⟩:=h.ex;exact⟨Ac h1,Ac h1,fun j=>frozen_of_row w b j _ _ h1⟩
theorem Yg (No:Nat->Prop)(B b:Nat)(R:Value)(u:US)(w:World)(g1 m1 b1 n1 g2 m2 b2 n2:Nat)(h:IIs No B w b R (DV g1 m1) (DV g2 m2) u)(d1:DIs w g1 m1 b1 n1 b Ky)(d2:DIs w g2 m2 b2 n2 b Ir)(a1:No g1/\No m1/\No b1)(a2:No g2/\No m2/\No b2)(hNo:∀g,w.heap.size<=g->¬No g):
 Calls Tryz.prog 251 #[.pointer (some ⟨b,0,none⟩)] w fun e w'=>Z7f No B w b R u e w':=by
 have hbl:=h.lt;have hbB:=h.base;obtain⟨c4,c5,_⟩:=h.cells45
 have HF:Hid (∀w',Below w.heap.size w w'->Z7f No B w b R u (.returned (.agg #[DV g1 m1,DV g2 m2])) w'):=Ab (fun w' hB=>by
  have hs:=hB.size;have t1:=d1.lt;have t2:=d1.is.lt;have t3:=d2.lt;have t4:=d2.is.lt;exact⟨No,g1,m1,b1,n1,g2,m2,b2,n2,fun _ h=>h,fun g hg=>hNo g (by omega),rfl,h.past hB,d1.keep hs (hB.block g1 t1.1) (hB.block m1 t1.2) (hB.block b1 t2),d2.keep hs (hB.block g2 t3.1) (hB.block m2 t3.2) (hB.block b2 t4),a1,a2,Z7c hB (by omega)⟩)
 clear h d1 d2 a1 a2 hNo;have heq:∀W:World,(binOp .eql 259 (DV g1 m1) .nilFunc).run Tryz.prog W=.ok (.bool false) W:=fun W=>by first|rfl|kernel_rfl
 go_enter Tryz.func251,Tryz.ntmps251
 have hA0:(w.alloc (.cells #[.nilFunc,.nilFunc] 282)).heap[w.heap.size]? =some (.cells #[.nilFunc,.nilFunc] 282 (0,0)):=heap_alloc_new _ _;have HA0:=Ab hA0;have HB0:Hid (Below w.heap.size w ((w.alloc (.cells #[.nilFunc,.nilFunc] 282)).setRow w.heap.size #[DV g1 m1,DV g2 m2])):=Ab (Bg ((Below.refl w.heap.size w).alloc (VB _) _) (VB _) _);clear hA0;go_wp2_with (refine wpList_store_row rfl 282 (.tmp 2) (.tmp 28) rfl w.heap.size #[DV g1 m1,DV g2 m2] rfl rfl 282 #[.nilFunc,.nilFunc] (Aa HA0) Fq rfl (by first|rfl|simp[Value.oneCell']) ?_)
 refine bodyPost_ret (v:=.agg #[DV g1 m1,DV g2 m2]) ?_ rfl (Aa HF _ (Aa HB0));exact results_cell_row rfl _ _ w.heap.size _ _ _ _ (by first|rfl|kernel_rfl|simp) (setRow_heap _ _ _ _ _ _ (Aa HA0)) Tryz.underlying282 rfl Fq
theorem L4 (No:Nat->Prop)(B b:Nat)(R:Value)(u:US)(w:World)(h:IIs No B w b R .nilFunc .nilFunc u)(hNo:∀g,w.heap.size<=g->¬No g):
 Calls Tryz.prog 251 #[.pointer (some ⟨b,0,none⟩)] w fun e w'=>Z7f No B w b R u e w':=by
 have hbl:=h.lt;have hbB:=h.base;obtain⟨c4,c5,frz⟩:=h.cells45;have heq:∀W:World,(binOp .eql 259 .nilFunc .nilFunc).run Tryz.prog W=.ok (.bool true) W:=fun W=>by first|rfl|kernel_rfl
 have HK0:=Ab (Rk.refl h);have HNo:=Ab hNo;obtain⟨FA,hFA⟩:∃FA,Ky=FA:=⟨_,rfl⟩
 obtain⟨FB,hFB⟩:∃FB,Ir=FB:=⟨_,rfl⟩
 have hlA:=Mj;have hlB:=Fk;have hgA:=Mk;have hgB:=Mi;have HFL:=Ab (fun W=>K7 W);simp only[hFA,hFB]at HFL hlA hlB hgA hgB;have HGA:=Ab hgA;have HGB:=Ab hgB;have HFA:=Ab hFA;have HFB:=Ab hFB;have hA0:(w.alloc (.cells #[.nilFunc,.nilFunc] 282)).heap[w.heap.size]? =some (.cells #[.nilFunc,.nilFunc] 282 (0,0)):=heap_alloc_new _ _;have HA0:=Ab hA0;have HB0:Hid (Below w.heap.size w (w.alloc (.cells #[.nilFunc,.nilFunc] 282))):=Ab ((Below.refl w.heap.size w).alloc (VB _) _);clear h hNo hFA hFB hgA hgB hA0;have hi1:(Tryz.prog.info? 247).map (·.size)=some (iv FA).toArray.size:=by rw[Ya];simp[hlA]
 have hi2:(Tryz.prog.info? 248).map (·.size)=some (iv FB).toArray.size:=by rw[CP];simp[hlB]
 go_enter Tryz.func251,Tryz.ntmps251
 go_wp2_with fail
 refine(Aa HFL _).mono ?_;rintro e w1 ⟨rfl,hB1⟩;have hz1:=hB1.size;simp only[World.size_alloc]at hz1;have HB1:Hid (Below w.heap.size w w1):=Ab ((Aa HB0).trans (hB1.mono (by simp)));have HC1:Hid (w1.heap[w.heap.size]? =some (.cells #[.nilFunc,.nilFunc] 282 (0,0))):=Ab ((hB1.block _ (by simp)).trans (Aa HA0));clear hB1;have A1:((w1.alloc (.cells (iv (List.replicate 288 0)).toArray 247)).alloc (.cells (iv (List.replicate 32 0)).toArray 248)).heap[w1.heap.size]? =some (.cells (iv (List.replicate 288 0)).toArray 247 (0,0)):=(Below.heap_alloc _ _ _ (by simp)).trans (heap_alloc_new _ _)
 have A2:(((w1.alloc (.cells (iv (List.replicate 288 0)).toArray 247)).alloc (.cells (iv (List.replicate 32 0)).toArray 248)).setRow w1.heap.size (iv FA).toArray).heap[w1.heap.size+1]? =some (.cells (iv (List.replicate 32 0)).toArray 248 (0,0)):=by
  rw[Go.setRow_other _ _ _ _ (by omega)];have e:w1.heap.size+1=(w1.alloc (.cells (iv (List.replicate 288 0)).toArray 247)).heap.size:=by simp
  rw[e];exact heap_alloc_new _ _
 have HA1:=Ab A1;have HA2:=Ab A2;have HT:=Ab (fun x y=>Jt w1 w1 x y 247 248 FA FB (Below.refl _ _) (by simp));clear A1 A2;go_upto_region 3 with (first|refine wpList_store_row rfl 247 (.tmp 3) (.tmp 13) rfl w1.heap.size _ rfl rfl 247 (iv (List.replicate 288 0)).toArray (Aa HA1) hi1 (by simp[hlA]) (Cy FA) ?_|refine wpList_store_row rfl 248 (.tmp 4) (.tmp 14) rfl (w1.heap.size+1) _ rfl rfl 248 (iv (List.replicate 32 0)).toArray (Aa HA2) hi2 (by simp[hlB]) (Cy FB) ?_)
 simp only[Act.put];generalize hW2:World.setRow (World.setRow (World.alloc (World.alloc _ _) _) _ _) _ _=W2;have t1:ARow 247 W2 w1.heap.size FA:=by rw[<-hW2];exact(Aa HT _ _).1
 have t2:ARow 248 W2 (w1.heap.size+1) FB:=by rw[<-hW2];exact(Aa HT _ _).2.1
 have t3:Below w1.heap.size w1 W2:=by rw[<-hW2];exact(Aa HT _ _).2.2
 clear hW2 HT HA1 HA2;have hzW:=t3.size;have K2:Hid (Rk No B w b R .nilFunc .nilFunc u W2):=Ab ((Aa HK0).past ((Aa HB1).trans (t3.mono (by omega))));have HC2:Hid (W2.heap[w.heap.size]? =some (.cells #[.nilFunc,.nilFunc] 282 (0,0))):=Ab ((t3.block _ (by omega)).trans (Aa HC1));have HD1:=Ab (fun k=>Nr b (some ⟨w1.heap.size,0,none⟩) 288 288 FA (W2.drewN k) hlA (.inr ⟨_,0,rfl,t1.lt,t1.row⟩) (Aa HGA));have HD2:Hid (∀W,Below W2.heap.size W2 W->Calls Tryz.prog 270 #[.pointer (some ⟨b,0,none⟩),.slice (some ⟨w1.heap.size+1,0,none⟩) 32 32] W fun e w'=>∃gr gm mb nn,e=.returned (DV gr gm)/\W.heap.size<=gr/\W.heap.size<=gm/\W.heap.size<=mb/\mb<w'.heap.size/\DIs w' gr gm mb nn b FB/\Below W.heap.size W w'):=Ab (fun W hB=>Nr b (some ⟨w1.heap.size+1,0,none⟩) 32 32 FB W hlB (.inr ⟨_,0,rfl,(t2.keep (hB.block _ t2.lt)).lt,(t2.keep (hB.block _ t2.lt)).row⟩) (Aa HGB));clear t1 t2 t3;refine wp_region_any (by kernel_rfl) ?_
 try (change wpAny _ _ _ _ _ _ _ (World.drew _))
 refine wpAny_take (i:=0) (v:=.pointer (some ⟨b,0,none⟩)) rfl (by kernel_rfl) (by kernel_rfl) (by kernel_rfl) (fun _ _ _ h=>h) (Or.inl ⟨by rfl,fun W=>by go_simp⟩) ?_;simp only[Act.put,VA,VC,VD];refine wpAny_take (i:=1) (v:=.pointer (some ⟨b,0,none⟩)) rfl (by kernel_rfl) (by kernel_rfl) (by kernel_rfl) (fun _ _ _ h=>h) (Or.inl ⟨by rfl,fun W=>by go_simp⟩) ?_;simp only[Act.put,VA,VC,VD];refine wpAny_take (i:=2) (v:=.slice (some ⟨w1.heap.size,0,none⟩) 288 288) rfl (by kernel_rfl) (by kernel_rfl) (by kernel_rfl) (fun _ _ _ h=>h) (Or.inl ⟨by rfl,fun W=>by go_simp⟩) ?_;simp only[Act.put,VA,VC,VD];refine wpAny_take (i:=4) (v:=.pointer (some ⟨b,0,none⟩)) rfl (by kernel_rfl) (by kernel_rfl) (by kernel_rfl) (fun _ _ _ h=>h) (Or.inl ⟨by rfl,fun W=>by go_simp⟩) ?_;simp only[Act.put,VA,VC,VD];refine wpAny_take (i:=5) (v:=.slice (some ⟨w1.heap.size+1,0,none⟩) 32 32) rfl (by kernel_rfl) (by kernel_rfl) (by kernel_rfl) (fun _ _ _ h=>h) (Or.inl ⟨by rfl,fun W=>by go_simp⟩) ?_;simp only[Act.put,VA,VC,VD];refine wpAny_ready (rs:= [3]) (by kernel_rfl) (by simp) (AllReady.cons rfl (fun K hK=> ?_) AllReady.nil);go_simp
 refine(Aa HD1 _).mono ?_;rintro e w6 ⟨g1,m1,b1,n1,rfl,d1,d2,d3,d4,d5,hB6⟩;have HB6:Hid (Below W2.heap.size W2 w6):=Ab ((Ae (Below.refl _ _) _).trans hB6);clear hB6;dsimp only;refine hK _ _ ?_;clear hK K;refine wpAny_ready (rs:= [6]) (by kernel_rfl) (by simp) (AllReady.cons rfl (fun K hK=> ?_) AllReady.nil);go_simp
 refine(Aa HD2 _ (Aa HB6)).mono ?_;rintro e w7 ⟨g2,m2,b2,n2,rfl,x1,x2,x3,x4,x5,hB7⟩;have HB7:=Ab hB7;have HB27:Hid (Below W2.heap.size W2 w7):=Ab ((Aa HB6).trans (hB7.mono (Aa HB6).size));clear hB7;dsimp only;refine hK _ _ ?_;clear hK K;refine wpAny_ready (rs:= [7]) (by kernel_rfl) (by simp) (AllReady.cons rfl (fun K hK=> ?_) AllReady.nil);go_simp
 refine hK _ _ ?_;clear hK K;refine wpAny_ready (rs:= [8]) (by kernel_rfl) (by simp) (AllReady.cons rfl (fun K hK=> ?_) AllReady.nil);go_simp
 refine hK _ _ ?_;clear hK K;refine wpAny_ready (rs:= [9]) (by kernel_rfl) (by simp) (AllReady.cons rfl (fun K hK=> ?_) AllReady.nil);go_simp
 refine hK _ _ ?_;clear hK K;have hK7:=(Aa K2).past (Aa HB27);have HK7:=Ab hK7;obtain⟨z4,z5,zf⟩:=hK7.is.cells45;have zf4:=zf 4;have zf5:=zf 5;clear hK7;refine wpAny_ready (rs:= [10]) (by kernel_rfl) (by simp) (AllReady.cons rfl (fun K hK=> ?_) AllReady.nil);go_simp
 refine hK _ _ ?_;clear hK K;refine wpAny_done (by kernel_rfl) ?_ _;obtain⟨w8,hw8⟩:∃w8,(w7.setCell ⟨b,4,none⟩ (DV g1 m1)).setCell ⟨b,5,none⟩ (DV g2 m2)=w8:=⟨_,rfl⟩
 have I4:=(Aa HK7).is.set (g1:=DV g1 m1) (g2:=.nilFunc) 4 (DV g1 m1) u rfl rfl (fun _ _=>rfl);have I5:=I4.is.set (g1:=DV g1 m1) (g2:=DV g2 m2) 5 (DV g2 m2) u rfl rfl (fun _ _=>rfl);have hs7:=(Aa HB27).size
 have K8:Rk No B w b R (DV g1 m1) (DV g2 m2) u w8:=by
  rw[<-hw8];exact⟨I5.is,(Aa HK7).bl.trans ((I4.bl.trans I5.bl).weaken (fun _ h=>.inl h))⟩
 have hother:∀g,g≠b->w8.heap[g]? =w7.heap[g]? :=fun g hg=>by
  rw[<-hw8]
  by_cases hlt:g<w7.heap.size
  . have q1:=(Ad w7 b 4 (DV g1 m1)).block g hlt (fun e=>hg (VM e));have q2:=(Ad (w7.setCell ⟨b,4,none⟩ (DV g1 m1)) b 5 (DV g2 m2)).block g (VG hlt I4.below.size) (fun e=>hg (VM e));exact q2.trans q1
  . have z1:((w7.setCell ⟨b,4,none⟩ (DV g1 m1)).setCell ⟨b,5,none⟩ (DV g2 m2)).heap.size=w7.heap.size:=by simp
    rw[ZN (by omega),ZN (by omega)]
 have hs8:w7.heap.size<=w8.heap.size:=by rw[<-hw8];exact VU I4.below.size I5.below.size
 obtain⟨y4,y5,_⟩:=K8.is.cells45;have HC8:Hid (w8.heap[w.heap.size]? =some (.cells #[.nilFunc,.nilFunc] 282 (0,0))):=Ab ((hother _ (by omega)).trans (((Aa HB27).block _ (by omega)).trans (Aa HC2)));obtain⟨w9,hw9⟩:∃w9,w8.setRow w.heap.size #[DV g1 m1,DV g2 m2]=w9:=⟨_,rfl⟩
 have hgr:w8.grownBy w9 (some w.heap.size):=by rw[<-hw9];exact Nz _ _ _
 have HC9:Hid (w9.heap[w.heap.size]? =some (.cells #[DV g1 m1,DV g2 m2] 282 (0,0))):=Ab (by rw[<-hw9];exact setRow_heap _ _ _ _ _ _ (Aa HC8));have K9:Rk No B w b R (DV g1 m1) (DV g2 m2) u w9:=K8.aside hgr (fun g e=>by cases e;exact VB _) (Aa HNo) hbl;have hs9:=hgr.size;have hs6:=(Aa HB6).size;have d1':W2.heap.size<=g1:=d1;have d2':W2.heap.size<=m1:=d2;have d3':W2.heap.size<=b1:=d3;have hk9:∀g,W2.heap.size<=g->g<w7.heap.size->w9.heap[g]? =w7.heap[g]? :=fun g h1 h2=>(hgr.block g (by omega) (fun e=>by have:=VM e;omega)).trans (hother g (by omega))
 have D1:DIs w9 g1 m1 b1 n1 b FA:=by
  have t1:=d5.lt;have t2:=d5.is.lt;have hs67:=(Aa HB7).size;exact(d5.keep hs67 ((Aa HB7).block g1 t1.1) ((Aa HB7).block m1 t1.2) ((Aa HB7).block b1 t2)).keep (by omega) (hk9 g1 d1' (by omega)) (hk9 m1 d2' (by omega)) (hk9 b1 d3' (by omega))
 have D2:DIs w9 g2 m2 b2 n2 b FB:=by
  have t1:=x5.lt;have t2:=x5.is.lt;exact x5.keep (by omega) (hk9 g2 (by omega) t1.1) (hk9 m2 (by omega) t1.2) (hk9 b2 (by omega) t2)
 have HF:Hid (Z7f No B w b R u (.returned (.agg #[DV g1 m1,DV g2 m2])) w9):=Ab (by
  have t1:=D1.lt;have t2:=D1.is.lt;have t3:=D2.lt;have t4:=D2.is.lt;refine⟨NK No w.heap.size w9.heap.size,g1,m1,b1,n1,g2,m2,b2,n2,fun _ h=>.inl h,fun g hg e=> ?_,rfl,K9.inner,by rw[Aa HFA];exact D1,by rw[Aa HFB];exact D2,⟨.inr ⟨by omega,t1.1⟩,.inr ⟨by omega,t1.2⟩,.inr ⟨by omega,t2⟩⟩,⟨.inr ⟨by omega,t3.1⟩,.inr ⟨by omega,t3.2⟩,.inr ⟨by omega,t4⟩⟩,K9.bl⟩
  rcases e with e|e
  . exact Aa HNo g (by have:=K9.bl.below.size;omega) e
  . omega)
 clear D1 D2 hk9 d1' d2' d3' K9 hgr hother K8 I4 I5 d1 d2 d3 d4 d5 x1 x2 x3 x4 x5 z4 z5 zf zf4 zf5;have HW9:=Ab hw9;clear hw9;change Exit.then _ _ Exit.normal _ ((w7.setCell ⟨b,4,none⟩ (DV g1 m1)).setCell ⟨b,5,none⟩ (DV g2 m2))
 rw[hw8];clear hw8;go_wp2_with (refine wpList_store_row rfl 282 (.tmp 2) (.tmp 28) rfl w.heap.size #[DV g1 m1,DV g2 m2] rfl rfl 282 #[.nilFunc,.nilFunc] (Aa HC8) Fq rfl (by first|rfl|simp[Value.oneCell']) ?_)
 rw[Aa HW9];refine bodyPost_ret (v:=.agg #[DV g1 m1,DV g2 m2]) ?_ rfl (Aa HF);exact results_cell_row rfl _ _ w.heap.size _ _ _ _ (by first|rfl|kernel_rfl|simp) (Aa HC9) Tryz.underlying282 rfl Fq
theorem Tr (No:Nat->Prop)(B b:Nat)(R f1 f2:Value)(u:US)(w:World)(h:IIs No B w b R f1 f2 u)(hF:Fx No w b f1 f2)(hNo:∀g,w.heap.size<=g->¬No g):
 Calls Tryz.prog 251 #[.pointer (some ⟨b,0,none⟩)] w fun e w'=>Z7f No B w b R u e w':=by
 rcases hF with ⟨rfl,rfl⟩|⟨g1,m1,b1,n1,g2,m2,b2,n2,rfl,rfl,d1,d2,a1,a2⟩
 . exact L4 No B b R u w h hNo
 . exact Yg No B b R u w g1 m1 b1 n1 g2 m2 b2 n2 h d1 d2 a1 a2 hNo
def Bk (No:Nat->Prop)(B:Nat)(w0:World)(b:Nat)(R:Value)(u:US)(w:World):Prop:=
 ∃No' f1 f2,(∀g,No g->No' g)/\(∀g,w.heap.size<=g->¬No' g)/\IIs No' B w b R f1 f2 u/\Fx No' w b f1 f2/\Bl No B w0 w
def SC (No:Nat->Prop)(B:Nat)(w0:World)(b:Nat)(R:Value)(V:US)(e:Ending)(w':World):Prop:=
 (V.e=0/\e=.returned (.tuple #[])/\Bk No B w0 b R V w')\/ (V.e≠0/\e=Flt V.e/\Bl No B w0 w')
theorem Bl.outer {No No':Nat->Prop}{B:Nat}{w0 w w':World}(h:Bl No B w0 w)(k:Bl No' B w w')(hn:∀g,No g->No' g):Bl No B w0 w':=h.trans (k.weaken hn)
theorem JN (No:Nat->Prop)(B b:Nat)(a:Option Addr)(n cap:Nat)(bs:List Nat)(u:US)(w0 w:World)(h:Bk No B w0 b (.slice a n cap) u w)(hR:Rd w No a n bs)(hp:u.p<=8*n)(he:u.e=0)(ho:u.out.length<=3000)(hk:u.ks.length<=48000):
 Calls Tryz.prog 231 #[.pointer (some ⟨b,0,none⟩),.int .i64 0] w fun e w'=>SC No B w0 b (.slice a n cap) (Ds (rowB bs n) 0 u) e w':=by
 obtain⟨No',f1,f2,hn,hNo,hI,hF,hB⟩:=h;have hV:Ds (rowB bs n) 0 u=(if (Cj (rowB bs n) u).e=0 then ukept 0 (Cj (rowB bs n) u)else Cj (rowB bs n) u):=rfl;rw[hV];refine(Sx No' B b a n cap bs f1 f2 u w hI (hR.wide hn) hp he ho hk hNo hI.base _ (Ab rfl)).mono ?_;rintro e w' (⟨e0,rfl,hU⟩|⟨e0,rfl,hBl⟩)
 . exact .inl ⟨e0,rfl,No',f1,f2,hn,fun g hg=>hNo g (VU hU.below.size hg),hU.is,hF.keep hU.below.size hU.kp,hB.outer hU.bl hn⟩
 . exact .inr ⟨e0,rfl,hB.outer hBl hn⟩
theorem JK (No:Nat->Prop)(B b k:Nat)(R:Value)(u:US)(row:List Bool)(w0 w:World)(h:Bk No B w0 b R u w)(hk:3<=k)(hk4:k<4):
 Calls Tryz.prog 231 #[.pointer (some ⟨b,0,none⟩),.int .i64 (k:Int)] w fun e w'=>SC No B w0 b R (Ds row k u) e w':=by
 obtain rfl:k=3:=by omega
 obtain⟨No',f1,f2,hn,hNo,hI,hF,hB⟩:=h;have HB:=Ab hB;have HV:Hid (Ds row 3 u= {u with e:=4}):=Ab rfl;obtain⟨V,hV⟩:∃V,Ds row 3 u=V:=⟨_,rfl⟩
 rw[hV]at HV ⊢;clear hI hF hB hV;go_enter Tryz.func231,Tryz.ntmps231
 go_wp2_with fail
 refine(Cf 4 w).mono ?_;rintro e w1 ⟨rfl,rfl⟩;go_wp2;exact⟨rfl,.inr ⟨by rw[Aa HV];exact(by decide:(4:Int)≠0),by rw[Aa HV],Aa HB⟩⟩
theorem JM (No:Nat->Prop)(B b:Nat)(a:Option Addr)(n cap:Nat)(bs:List Nat)(u:US)(w0 w:World)(h:Bk No B w0 b (.slice a n cap) u w)(hR:Rd w No a n bs)(hp:u.p<=8*n)(he:u.e=0)(ho:u.out.length<=3000)(hk:u.ks.length<=48000):
 Calls Tryz.prog 231 #[.pointer (some ⟨b,0,none⟩),.int .i64 1] w fun e w'=>SC No B w0 b (.slice a n cap) (Ds (rowB bs n) 1 u) e w':=by
 have hrl:=Af bs n;obtain⟨No',f1,f2,hn,hNo,hI,hF,hB⟩:=h;obtain⟨i0,hi0,hz0,hz1,hz2⟩:=info_parts Bv;obtain⟨V,hV⟩:∃V,Hk (rowB bs n) Ky Ir (8*n+1) u=V:=⟨_,rfl⟩
 obtain⟨X,hX⟩:∃X,Ds (rowB bs n) 1 u=X:=⟨_,rfl⟩
 have HX:Hid ((if V.e=0 then ukept 1 V else V)=X):=Ab (by rw[<-hX,<-hV,<-hrl];rfl);rw[hX]
 have HVK:Hid (V.e=0->V.ks.length<=48000):=Ab (fun e=>by
  have:=(Jf (rowB bs n) Ky Ir (8*n+1) u (by omega) ho (by rw[hV];exact e)).ks
  rw[hV]at this;rw[this];exact hk)
 have HFC:=Ab (Tr No' B b (.slice a n cap) f1 f2 u w hI hF hNo);have HRD:=Ab (hR.wide hn);have HBB:=Ab hB;have HN:=Ab hn;have HPE:=Ab (And.intro hp (And.intro he ho));have HV:=Ab hV;clear hI hF hB hR hp he ho hk hNo hV hX hn;go_enter Tryz.func231,Tryz.ntmps231
 go_wp2_with fail
 refine(Aa HFC).mono ?_;rintro e w1 ⟨NX,g1,m1,b1,n1,g2,m2,b2,n2,hnx,hNX,rfl,hI1,hD1,hD2,hA1,hA2,hB1⟩;obtain⟨F1,hF1⟩:∃F1,DV g1 m1=F1:=⟨_,rfl⟩
 obtain⟨F2,hF2⟩:∃F2,DV g2 m2=F2:=⟨_,rfl⟩
 have HTK:=Ab (Un NX B b a n cap bs F1 F2 u w1 (by rw[<-hF1,<-hF2];exact hI1) (((Aa HRD).keep hB1.below.size hB1.kp).wide hnx) (Aa HPE).1 (Aa HPE).2.1 (Aa HPE).2.2 g1 m1 b1 n1 g2 m2 b2 n2 Ky Ir hD1 PO hA1 hD2 PN hA2 hNX V HV)
 have HEND:Hid (∀Y w',IUp NX B w1 b (.slice a n cap) F1 F2 Y w'->Bk No B w0 b (.slice a n cap) Y w'):=Ab (fun Y w' hu=>⟨NX,F1,F2,fun g hg=>hnx g (Aa HN g hg),fun g hg=>hNX g (VU hu.below.size hg),hu.is,by
  have:Fx NX w1 b F1 F2:=.inr ⟨g1,m1,b1,n1,g2,m2,b2,n2,hF1.symm,hF2.symm,hD1,hD2,hA1,hA2⟩
  exact this.keep hu.below.size hu.kp,((Aa HBB).outer hB1 (Aa HN)).outer hu.bl (fun g hg=>hnx g (Aa HN g hg))⟩)
 have HBL:Hid (∀w',Bl NX B w1 w'->Bl No B w0 w'):=Ab (fun w' hb=>((Aa HBB).outer hB1 (Aa HN)).outer hb (fun g hg=>hnx g (Aa HN g hg)));have HNX:=Ab hNX;clear hnx hNX hI1 hD1 hD2 hA1 hA2 hB1 hF1 hF2;go_wp2_with fail
 refine(Aa HTK).mono ?_;rintro e w4 hg
 rcases hg with ⟨e0,rfl,hU⟩|⟨e0,rfl,hBl⟩
 rotate_left
 . have HF2:Hid (X=V):=Ab (by rw[<-Aa HX,if_neg e0]);have HB2:=Ab (Aa HBL _ hBl);clear hBl;go_wp2;exact⟨rfl,.inr ⟨by rw[Aa HF2];exact e0,by rw[Aa HF2],Aa HB2⟩⟩
 have HF2:Hid (X= {V with ks:=V.ks++ [1]}):=Ab (by rw[<-Aa HX,if_pos e0];rfl);have hbel4:=hU.below.size;have hIs4:=hU.is;have hbl4:=hIs4.lt;obtain⟨ov4,kv4,d2,d3,hh4,hov4,hkv4,hap4,hn14,hn24⟩:=hIs4.rows;obtain⟨L,hL⟩:∃L,V.ks.length=L:=⟨_,rfl⟩
 have hkvL:=hkv4;have hVk2:=Aa HVK e0;rw[hL]at hkvL hVk2;obtain⟨oa,oc,rfl⟩:=An hkvL;have HKL:=Ab hkvL;have HIS:=Ab hIs4;have HH4:=Ab hh4;have HO4:=Ab hov4;have HK4:=Ab hkv4;have HA4:=Ab hap4;have HN1:=Ab hn14;have HN2:=Ab hn24;have HLL:=Ab hL;have HU:=Ab hU;clear hU hIs4 hh4 hov4 hkv4 hap4 hn14 hn24 hkvL hL d2;go_wp2_with (at_builtin;refine wpList_append_own_at _ rfl _ _ 76 rfl (b+1) 3 i0 (.int .i64 0) 1 8 Tryz.underlying76 hi0 hz0 hz1 hz2 rfl (by decide) _ L (i64s V.ks) rfl ((Aa HKL).alloc _) ⟨w4.heap.size,0,none⟩ 1 1 [.int .i64 ((1:Nat):Int)] rfl rfl (cell_one_new _ _ _) (Bc rfl) (by unfold maxLen;omega) (by omega) (by simp;omega) ?_)
 intro v' w5 hO5 hgrow5 _ hspot5;obtain⟨g9,c9,hv9,_,_⟩:=Ba hO5 (by omega);obtain⟨q3,f35,hI5⟩:=IIs.kept (c:=1) (v':=v') (Aa HIS).base (Aa HIS).no (Aa HH4) (Aa HO4) (Aa HK4) (Aa HA4) (Aa HN1) (Aa HN2) (fun g hg=>Aa HNX g (VU hbel4 hg)) (by rw[Aa HLL];exact hO5) hgrow5 (by simpa using hspot5);have HI5:=Ab ((Aa HU).trans hI5);have HFIN:Hid (∀w',IUp NX B w1 b (.slice a n cap) F1 F2 {V with ks:=V.ks++ [1]} w'->SC No B w0 b (.slice a n cap) X (.returned (.tuple #[])) w'):=Ab (fun w' hu=>.inl ⟨by rw[Aa HF2];exact e0,rfl,by rw[Aa HF2];exact Aa HEND _ w' hu⟩);subst hv9;clear hI5 hO5 hgrow5 hspot5;go_wp2;go_end0
 exact Aa HFIN _ (Aa HI5)
theorem JL (No:Nat->Prop)(B b:Nat)(a:Option Addr)(n cap:Nat)(bs:List Nat)(u:US)(w0 w:World)(h:Bk No B w0 b (.slice a n cap) u w)(hR:Rd w No a n bs)(hp:u.p<=8*n)(he:u.e=0)(ho:u.out.length<=3000)(hk:u.ks.length<=48000):
 Calls Tryz.prog 231 #[.pointer (some ⟨b,0,none⟩),.int .i64 2] w fun e w'=>SC No B w0 b (.slice a n cap) (Ds (rowB bs n) 2 u) e w':=by
 have hrl:=Af bs n;obtain⟨No',F1,F2,hn,hNo,hI,hF,hB⟩:=h;obtain⟨i0,hi0,hz0,hz1,hz2⟩:=info_parts Bv;obtain⟨A,C,x,hx⟩:∃A C x,Db (rowB bs n) u=((A,C),x):=⟨_,_,_,rfl⟩
 obtain⟨V,hV⟩:∃V,Hk (rowB bs n) A C (8*n+1) x=V:=⟨_,rfl⟩
 obtain⟨X,hX⟩:∃X,Ds (rowB bs n) 2 u=X:=⟨_,rfl⟩
 have hXX:X=if x.e≠0 then x else (if V.e=0 then ukept 2 V else V):=by
  rw[<-hX,<-hV,<-hrl];show (if (Db (rowB bs n) u).2.e≠0 then (Db (rowB bs n) u).2 else Jg 2 (Hk (rowB bs n) (Db (rowB bs n) u).1.1 (Db (rowB bs n) u).1.2 ((rowB bs n).length+1) (Db (rowB bs n) u).2))=_
  rw[hx];rfl
 rw[hX];have HXX:=Ab hXX
 have HXA:Hid (x.e=0->Ahd (rowB bs n) u x):=Ab (fun e=>by
  have:=Pv (rowB bs n) u (by omega) ho (by rw[hx];exact e)
  rw[hx]at this;exact this)
 have HVK:Hid (V.e=0->x.e=0->V.ks.length<=48000):=Ab (fun e e2=>by
  have q:=Aa HXA e2;have:=(Jf (rowB bs n) A C (8*n+1) x q.le q.out (by rw[hV];exact e)).ks
  rw[hV]at this;rw[this,q.ks];exact hk)
 have HOC:=Ab (D4 No' B b a n cap bs F1 F2 u w hI (hR.wide hn) hp he hNo A C x (Ab hx));have HRD:=Ab (hR.wide hn);have HBB:=Ab hB;have HN:=Ab hn;have HNo:=Ab hNo;have HFX:=Ab hF;have HV:=Ab hV;clear hI hF hB hR hp he ho hk hNo hV hX hn hx hXX;go_enter Tryz.func231,Tryz.ntmps231
 go_wp2_with fail
 refine(Aa HOC).mono ?_;rintro e w1 hg
 rcases hg with ⟨ex,rfl,hBx⟩|⟨ex,hK1,hGA,hGC,g1,m1,b1,n1,g2,m2,b2,n2,rfl,hD1,hD2,hA1,hA2⟩
 . have HF2:Hid (X=x):=Ab (by rw[Aa HXX,if_pos ex]);have HB2:=Ab ((Aa HBB).outer hBx (Aa HN));clear hBx;go_wp2;exact⟨rfl,.inr ⟨by rw[Aa HF2];exact ex,by rw[Aa HF2],Aa HB2⟩⟩
 have HX:Hid ((if V.e=0 then ukept 2 V else V)=X):=Ab (by
  have:=Aa HXX
  rw[if_neg (show ¬x.e≠0 from fun c=>c ex)]at this;exact this.symm)
 have hq:=Aa HXA ex;have hqp:=hq.le;rw[hrl]at hqp;have HVK2:=Ab (fun e=>Aa HVK e ex);clear HVK;have HVK:=HVK2;clear HVK2;obtain⟨NX,hNXe⟩:∃NX,NK No' w.heap.size w1.heap.size=NX:=⟨_,rfl⟩
 have hnx:∀g,No' g->NX g:=fun g hg=>by rw[<-hNXe];exact .inl hg
 have hNX:∀g,w1.heap.size<=g->¬NX g:=fun g hg e=>by
  rw[<-hNXe]at e;have:=hK1.bl.below.size
  rcases e with e|e
  . exact Aa HNo g (by omega) e
  . omega
 have hin:∀g,w.heap.size<=g->g<w1.heap.size->NX g:=fun g h1 h2=>by rw[<-hNXe];exact .inr ⟨h1,h2⟩
 have hI1:IIs NX B w1 b (.slice a n cap) F1 F2 x:=by rw[<-hNXe];exact hK1.inner
 have t1:=hD1.lt;have t2:=hD1.is.lt;have t3:=hD2.lt;have t4:=hD2.is.lt;have HTK:=Ab (Un NX B b a n cap bs F1 F2 x w1 hI1 (((Aa HRD).keep hK1.bl.below.size hK1.bl.kp).wide hnx) hqp ex hq.out g1 m1 b1 n1 g2 m2 b2 n2 A C hD1 hGA ⟨hin _ hA1.1 t1.1,hin _ hA1.2.1 t1.2,hin _ hA1.2.2 t2⟩ hD2 hGC ⟨hin _ hA2.1 t3.1,hin _ hA2.2.1 t3.2,hin _ hA2.2.2 t4⟩ hNX V HV)
 have HEND:Hid (∀Y w',IUp NX B w1 b (.slice a n cap) F1 F2 Y w'->Bk No B w0 b (.slice a n cap) Y w'):=Ab (fun Y w' hu=>⟨NX,F1,F2,fun g hg=>hnx g (Aa HN g hg),fun g hg=>hNX g (VU hu.below.size hg),hu.is,by
  have f1:=(Aa HFX).keep hK1.bl.below.size hK1.bl.kp;have f2:=f1.keep hu.below.size (hu.kp.weaken hnx)
  rcases f2 with f2|⟨g1,m1,b1,n1,g2,m2,b2,n2,q1,q2,q3,q4,q5,q6⟩
  . exact .inl f2
  . exact .inr ⟨g1,m1,b1,n1,g2,m2,b2,n2,q1,q2,q3,q4,⟨hnx _ q5.1,hnx _ q5.2.1,hnx _ q5.2.2⟩,⟨hnx _ q6.1,hnx _ q6.2.1,hnx _ q6.2.2⟩⟩,((Aa HBB).outer hK1.bl (Aa HN)).outer hu.bl (fun g hg=>hnx g (Aa HN g hg))⟩)
 have HBL:Hid (∀w',Bl NX B w1 w'->Bl No B w0 w'):=Ab (fun w' hb=>((Aa HBB).outer hK1.bl (Aa HN)).outer hb (fun g hg=>hnx g (Aa HN g hg)));have HNX:=Ab hNX;clear hnx hNX hI1 hD1 hD2 hA1 hA2 hK1 hNXe hin t1 t2 t3 t4 hq hqp hGA hGC;go_wp2_with fail
 refine(Aa HTK).mono ?_;rintro e w4 hg
 rcases hg with ⟨e0,rfl,hU⟩|⟨e0,rfl,hBl⟩
 rotate_left
 . have HF2:Hid (X=V):=Ab (by rw[<-Aa HX,if_neg e0]);have HB2:=Ab (Aa HBL _ hBl);clear hBl;go_wp2;exact⟨rfl,.inr ⟨by rw[Aa HF2];exact e0,by rw[Aa HF2],Aa HB2⟩⟩
 have HF2:Hid (X= {V with ks:=V.ks++ [2]}):=Ab (by rw[<-Aa HX,if_pos e0];rfl);have hbel4:=hU.below.size;have hIs4:=hU.is;have hbl4:=hIs4.lt;obtain⟨ov4,kv4,d2,d3,hh4,hov4,hkv4,hap4,hn14,hn24⟩:=hIs4.rows;obtain⟨L,hL⟩:∃L,V.ks.length=L:=⟨_,rfl⟩
 have hkvL:=hkv4;have hVk2:=Aa HVK e0;rw[hL]at hkvL hVk2;obtain⟨oa,oc,rfl⟩:=An hkvL;have HKL:=Ab hkvL;have HIS:=Ab hIs4;have HH4:=Ab hh4;have HO4:=Ab hov4;have HK4:=Ab hkv4;have HA4:=Ab hap4;have HN1:=Ab hn14;have HN2:=Ab hn24;have HLL:=Ab hL;have HU:=Ab hU;clear hU hIs4 hh4 hov4 hkv4 hap4 hn14 hn24 hkvL hL d2;go_wp2_with (at_builtin;refine wpList_append_own_at _ rfl _ _ 76 rfl (b+1) 3 i0 (.int .i64 0) 1 8 Tryz.underlying76 hi0 hz0 hz1 hz2 rfl (by decide) _ L (i64s V.ks) rfl ((Aa HKL).alloc _) ⟨w4.heap.size,0,none⟩ 1 1 [.int .i64 ((2:Nat):Int)] rfl rfl (cell_one_new _ _ _) (Bc rfl) (by unfold maxLen;omega) (by omega) (by simp;omega) ?_)
 intro v' w5 hO5 hgrow5 _ hspot5;obtain⟨g9,c9,hv9,_,_⟩:=Ba hO5 (by omega);obtain⟨q3,f35,hI5⟩:=IIs.kept (c:=2) (v':=v') (Aa HIS).base (Aa HIS).no (Aa HH4) (Aa HO4) (Aa HK4) (Aa HA4) (Aa HN1) (Aa HN2) (fun g hg=>Aa HNX g (VU hbel4 hg)) (by rw[Aa HLL];exact hO5) hgrow5 (by simpa using hspot5);have HI5:=Ab ((Aa HU).trans hI5);have HFIN:Hid (∀w',IUp NX B w1 b (.slice a n cap) F1 F2 {V with ks:=V.ks++ [2]} w'->SC No B w0 b (.slice a n cap) X (.returned (.tuple #[])) w'):=Ab (fun w' hu=>.inl ⟨by rw[Aa HF2];exact e0,rfl,by rw[Aa HF2];exact Aa HEND _ w' hu⟩);subst hv9;clear hI5 hO5 hgrow5 hspot5;go_wp2;go_end0
 exact Aa HFIN _ (Aa HI5)
theorem RI (No:Nat->Prop)(B b k:Nat)(a:Option Addr)(n cap:Nat)(bs:List Nat)(u:US)(w0 w:World)(h:Bk No B w0 b (.slice a n cap) u w)(hR:Rd w No a n bs)(hp:u.p<=8*n)(he:u.e=0)(ho:u.out.length<=3000)(hk:u.ks.length<=48000)(hk4:k<4):
 Calls Tryz.prog 231 #[.pointer (some ⟨b,0,none⟩),.int .i64 (k:Int)] w fun e w'=>SC No B w0 b (.slice a n cap) (Ds (rowB bs n) k u) e w':=by
 rcases(by omega:k=0\/k=1\/k=2\/k=3)with rfl|rfl|rfl|rfl
 . exact JN No B b a n cap bs u w0 w h hR hp he ho hk
 . exact JM No B b a n cap bs u w0 w h hR hp he ho hk
 . exact JL No B b a n cap bs u w0 w h hR hp he ho hk
 . exact JK No B b 3 (.slice a n cap) u (rowB bs n) w0 w h (by decide) (by decide)
theorem Bk.cellP {No:Nat->Prop}{B b n:Nat}{w0 w:World}{R:Value}{u:US}(h:Bk No B w0 b R u w):NY n b w=8*n+1-u.p:=by
 obtain⟨No',f1,f2,_,_,hI,_⟩:=h;exact Mb hI
theorem O5 (No:Nat->Prop)(B b size:Nat)(a:Option Addr)(n cap:Nat)(bs:List Nat)(u:US)(w0 w:World)(h:Bk No B w0 b (.slice a n cap) u w)(hR:Rd w No a n bs)(hp:u.p<=8*n)(he:u.e=0)(hs:size<=16)(r:Nat)(v:US)(hr:uget (rowB bs n) size u=(r,v)):
 Calls Tryz.prog 230 #[.pointer (some ⟨b,0,none⟩),.int .i64 (size:Int)] w fun e w'=>(v.e=0/\e=.returned (.int .i64 (r:Int))/\Bk No B w0 b (.slice a n cap) v w')\/ (v.e≠0/\e=Flt v.e/\Bl No B w0 w'):=by
 obtain⟨No',f1,f2,hn,hNo,hI,hF,hB⟩:=h;refine(Dx No' B b a n cap size bs f1 f2 u w hI (hR.wide hn) hp he hs r v (Ab hr)).mono ?_;rintro e w' (⟨e0,rfl,hU⟩|⟨e0,rfl,hBl⟩)
 . exact .inl ⟨e0,rfl,No',f1,f2,hn,fun g hg=>hNo g (VU hU.below.size hg),hU.is,hF.keep hU.below.size hU.kp,hB.outer hU.bl hn⟩
 . exact .inr ⟨e0,rfl,hB.outer hBl hn⟩
theorem Bk.bl {No:Nat->Prop}{B b:Nat}{w0 w:World}{R:Value}{u:US}(h:Bk No B w0 b R u w):Bl No B w0 w:=by
 obtain⟨No',f1,f2,_,_,_,_,hB⟩:=h;exact hB
theorem JG (No:Nat->Prop)(B b:Nat)(a:Option Addr)(n cap:Nat)(bs:List Nat)(w:World)(h:IIs No B w b (.slice a n cap) .nilFunc .nilFunc US0)(hR:Rd w No a n bs)(hNo:∀g,w.heap.size<=g->¬No g):
 Calls Tryz.prog 205 #[.pointer (some ⟨b,0,none⟩)] w fun e w'=>SC No B w b (.slice a n cap) (Dk (rowB bs n)) e w':=by
 have hrl:=Af bs n;have hfew:=hR.few;obtain⟨row,hrow⟩:∃row,rowB bs n=row:=⟨_,rfl⟩
 obtain⟨V,hV⟩:∃V,Dk row=V:=⟨_,rfl⟩
 have HBK0:Hid (Bk No B w b (.slice a n cap) US0 w):=Ab ⟨No,.nilFunc,.nilFunc,fun _ h=>h,hNo,h,.inl ⟨rfl,rfl⟩,Bl.refl _ _ _⟩;have HRW:Hid (∀wr,Bl No B w wr->Rd wr No a n bs):=Ab (fun wr hb=>hR.keep hb.below.size hb.kp);have HNUM:Hid (∀(wr:World) (u:US) (size r:Nat) (v:US),Bk No B w b (.slice a n cap) u wr->u.p<=8*n->u.e=0->size<=16->uget row size u=(r,v)->Calls Tryz.prog 230 #[.pointer (some ⟨b,0,none⟩),.int .i64 (size:Int)] wr fun e w'=>(v.e=0/\e=.returned (.int .i64 (r:Int))/\Bk No B w b (.slice a n cap) v w')\/ (v.e≠0/\e=Flt v.e/\Bl No B w w')):=Ab (fun wr u size r v hb h1 h2 h3 h4=>O5 No B b size a n cap bs u w wr hb (Aa HRW wr hb.bl) h1 h2 h3 r v (by rw[hrow];exact h4))
 have HBLK:Hid (∀(wr:World) (u:US) (k:Nat),Bk No B w b (.slice a n cap) u wr->u.p<=8*n->u.e=0->u.out.length<=3000->u.ks.length<=48000->k<4->Calls Tryz.prog 231 #[.pointer (some ⟨b,0,none⟩),.int .i64 (k:Int)] wr fun e w'=>SC No B w b (.slice a n cap) (Ds row k u) e w'):=Ab (fun wr u k hb h1 h2 h3 h4 h5=>by
  have:=RI No B b k a n cap bs u w wr hb (Aa HRW wr hb.bl) h1 h2 h3 h4 h5
  rw[hrow]at this;exact this)
 rw[hrow]at hrl ⊢;rw[hV];obtain⟨F0,hF0⟩:∃F0,row.length+1=F0:=⟨_,rfl⟩
 have HV:Hid (Bw row F0 US0=V):=Ab (by rw[<-hF0];exact hV);have HF0:Hid (8*n+1<=US0.p+F0):=Ab (by rw[<-hF0,hrl];show _<=0+_;omega);clear h hR hNo hrow hV hF0;go_enter Tryz.func205,Tryz.ntmps205
 go_wp2;go_loopw [2] (fun v2 wr=>∃(u:US) (l f:Nat),v2=.int .i64 (l:Int)/\Hid (u.e=0/\u.p<=8*n/\u.out.length<=3000/\u.ks.length<=u.p)/\Hid (Bk No B w b (.slice a n cap) u wr)/\((l=0/\Hid (Bw row f u=V)/\Hid (8*n+1<=u.p+f))\/ (l≠0/\Hid (u=V)))) (fun _ wr=>NY n b wr)
 case atStart=>exact⟨US0,0,F0,rfl,Ab ⟨rfl,VH _,VH _,VH _⟩,HBK0,.inl ⟨rfl,HV,HF0⟩⟩
 case round=>
  obtain⟨u,l,f,rfl,hst,hBK,hor⟩:=hrel;obtain⟨he,hp,ho,hks⟩:=Aa hst
  rcases hor with ⟨rfl,hIB,hf⟩|⟨hl,hVu⟩
  . have hf2:=Aa hf
    cases f with
    |zero=>exact absurd hf2 (by omega)
    |succ f=>
     have hib:=Aa hIB;rw[Bw]at hib;obtain⟨r1,v1,h1⟩:∃r1 v1,uget row 1 u=(r1,v1):=⟨_,_,rfl⟩
     obtain⟨r2,v2,h2⟩:∃r2 v2,uget row 2 v1=(r2,v2):=⟨_,_,rfl⟩
     have hib1:Bj row u=if v1.e≠0 then (1,v1)else if v2.e≠0 then (1,v2)else (r1,Ds row r2 v2):=by
      unfold Bj;rw[h1];simp only
      rw[h2]
     have q1:v1.p<=8*n:=by have:=Gr row 1 u (by omega);rw[h1,hrl]at this;exact this
     have q2:v2.p<=8*n:=by have:=Gr row 2 v1 (by omega);rw[h2,hrl]at this;exact this
     have o1:v1.out=u.out:=by have:=Cm row 1 u;rw[h1]at this;exact this
     have o2:v2.out=u.out:=by have:=Cm row 2 v1;rw[h2]at this;exact this.trans o1
     have s1:v1.ks=u.ks:=by have:=Ic row 1 u;rw[h1]at this;exact this
     have s2:v2.ks=u.ks:=by have:=Ic row 2 v1;rw[h2]at this;exact this.trans s1
     have l2:r2<4:=by have:=SD row 2 v1;rw[h2]at this;exact this
     have HAH:Hid ((Bj row u).2.e=0->(Bj row u).2.ks.length=u.ks.length+1/\u.p+3<=(Bj row u).2.p/\(Bj row u).2.p<=row.length/\(Bj row u).2.out.length<=3000):=Ab (Hl row n hrl u he (by omega) ho);have HN1:=Ab (Aa HNUM wr u 1 r1 v1 (Aa hBK) hp he (by decide) h1);have HN2:Hid (∀W,v1.e=0->Bk No B w b (.slice a n cap) v1 W->Calls Tryz.prog 230 #[.pointer (some ⟨b,0,none⟩),.int .i64 2] W fun e w'=>(v2.e=0/\e=.returned (.int .i64 (r2:Int))/\Bk No B w b (.slice a n cap) v2 w')\/ (v2.e≠0/\e=Flt v2.e/\Bl No B w w')):=Ab (fun W h3 h4=>Aa HNUM W v1 2 r2 v2 h4 q1 h3 (by decide) h2);have HB2:Hid (∀W,v2.e=0->Bk No B w b (.slice a n cap) v2 W->Calls Tryz.prog 231 #[.pointer (some ⟨b,0,none⟩),.int .i64 (r2:Int)] W fun e w'=>SC No B w b (.slice a n cap) (Ds row r2 v2) e w'):=Ab (fun W h3 h4=>Aa HBLK W v2 r2 h4 q2 h3 (by rw[o2];exact ho) (by rw[s2];omega) l2);have HIB1:=Ab hib1;have HIBS:=Ab hib;have HLEFT:=Ab ((Aa hBK).cellP (n:=n));clear hib hib1 h1 h2 o1 o2 s1 s2 hIB hf;go_wp2_with fail
     refine(Aa HN1).mono ?_;rintro e w1 (⟨e1,rfl,hK1⟩|⟨e1,rfl,hL1⟩)
     rotate_left
     . have HF:Hid (V=v1):=Ab (by
        have:=Aa HIBS
        rw[Aa HIB1,if_pos e1,if_neg (fun c=>absurd (show (1:Nat)=0 from c.1) (by decide))]at this;exact this.symm)
       have HL:=Ab hL1;clear hL1;go_wp2;exact⟨rfl,.inr ⟨by rw[Aa HF];exact e1,by rw[Aa HF],Aa HL⟩⟩
     have HK1:=Ab hK1;clear hK1;go_wp2_with fail
     refine(Aa HN2 w1 e1 (Aa HK1)).mono ?_;rintro e w2 (⟨e2,rfl,hK2⟩|⟨e2,rfl,hL2⟩)
     rotate_left
     . have HF:Hid (V=v2):=Ab (by
        have:=Aa HIBS
        rw[Aa HIB1,if_neg (show ¬v1.e≠0 from fun c=>c e1),if_pos e2,if_neg (fun c=>absurd (show (1:Nat)=0 from c.1) (by decide))]at this;exact this.symm)
       have HL:=Ab hL2;clear hL2;go_wp2;exact⟨rfl,.inr ⟨by rw[Aa HF];exact e2,by rw[Aa HF],Aa HL⟩⟩
     have HK2:=Ab hK2;have HIB3:Hid (Bj row u=(r1,Ds row r2 v2)):=Ab (by rw[Aa HIB1,if_neg (show ¬v1.e≠0 from fun c=>c e1),if_neg (show ¬v2.e≠0 from fun c=>c e2)]);clear hK2;go_wp2_with fail
     refine(Aa HB2 w2 e2 (Aa HK2)).mono ?_;obtain⟨Y,hY⟩:∃Y,Ds row r2 v2=Y:=⟨_,rfl⟩
     rw[hY]at HIB3 ⊢;have hibs:=Aa HIBS;have hah:=Aa HAH;rw[Aa HIB3]at hibs hah;simp only at hibs hah
     have HIS:=Ab hibs;have HAY:=Ab hah;clear hibs hah hY;rintro e w3 (⟨e3,rfl,hK3⟩|⟨e3,rfl,hL3⟩)
     rotate_left
     . have HF:Hid (V=Y):=Ab (by
        have:=Aa HIS
        rw[if_neg (fun c=>e3 c.2)]at this;exact this.symm)
       have HL:=Ab hL3;clear hL3;go_wp2;exact⟨rfl,.inr ⟨by rw[Aa HF];exact e3,by rw[Aa HF],Aa HL⟩⟩
     obtain⟨y1,y2,y3,y4⟩:=Aa HAY e3;rw[hrl]at y3;have HK3:=Ab hK3;have HLF3:=Ab (hK3.cellP (n:=n))
     have HNEXT:Hid ((r1=0/\Hid (Bw row f Y=V)/\Hid (8*n+1<=Y.p+f))\/ (r1≠0/\Hid (Y=V))):=Ab (by
      have:=Aa HIS
      by_cases c:r1=0
      . rw[if_pos ⟨c,e3⟩]at this;exact .inl ⟨c,Ab this,Ab (by omega)⟩
      . rw[if_neg (fun d=>c d.1)]at this;exact .inr ⟨c,Ab this⟩)
     clear hK3;go_wp2;go_roundw
     case rel=>exact⟨Y,r1,f,rfl,Ab ⟨e3,y3,y4,by omega⟩,HK3,Aa HNEXT⟩
     case measure=>rw[Aa HLF3,Aa HLEFT];omega
  . have hb:((l:Int)==0)=false:=by rw[beq_eq_false_iff_ne];omega
    have HF:Hid (SC No B w b (.slice a n cap) V (.returned (.tuple #[])) wr):=Ab (.inl ⟨by rw[<-Aa hVu];exact he,rfl,by rw[<-Aa hVu];exact Aa hBK⟩);clear hVu;go_wp2;go_end0
    exact Aa HF
end Go.Proofs.YtleocpdblhbimaaGreatDoor
namespace Go.Proofs.YtleocpdblhbimaaGreatDoor
set_option linter.unusedVariables false
set_option maxRecDepth 100000
theorem Ci (row:List Bool)(n:Nat)(u:US)(h:0<=u.e):0<=(uget row n u).2.e:=by
 unfold uget
 split
 . split
   . exact(by decide:(0:Int)<=7)
   . exact h
 . exact h
theorem BZ (l:List Int)(row:List Bool)(p:Nat):∀f n,0<=(Ej l row p f n).2.2
 |0,n=>(by decide:(0:Int)<=8)
 |f+1,n=>by
  unfold Ej
  split
  . exact(by decide:(0:Int)<=7)
  . split
    . exact(by decide:(0:Int)<=0)
    . exact BZ l row p f (n+1)
theorem Ef (l:List Int)(row:List Bool)(u:US)(h:0<=u.e):0<=(uplace l row u).2.e:=by
 unfold uplace
 split
 . exact BZ l row u.p 15 1
 . exact h
theorem Ft (x:Int)(u:US)(hx:0<=x)(h:0<=u.e):0<=(Am x u).e:=by
 unfold Am
 split
 . exact hx
 . exact h
theorem KD (c:Nat)(u:US)(h:0<=u.e):0<=(Fd c u).e:=by
 unfold Fd
 split
 . split
   . exact(by decide:(0:Int)<=2)
   . exact h
 . exact h
theorem Zh (row:List Bool):∀(k:Nat) (u:US),0<=u.e->0<=(ustore row k u).e
 |0,u,h=>h
 |k+1,u,h=>by
  unfold ustore
  split
  . exact Zh row k _ (KD _ _ (Ci _ _ _ h))
  . exact h
theorem BF (d:Nat):∀(k:Nat) (u:US),0<=u.e->0<=(ucopy d k u).e
 |0,u,h=>h
 |k+1,u,h=>by
  unfold ucopy
  split
  . exact BF d k _ (KD _ _ h)
  . exact h
theorem GI (row:List Bool)(u:US)(h:0<=u.e):0<=(Cj row u).e:=by
 have h1:0<=(Cl row u).2.e:=by
  unfold Cl;dsimp only
  split
  . exact Ft _ _ (by decide) (Ci _ _ _ (Ci _ _ _ h))
  . exact Ci _ _ _ (Ci _ _ _ h)
 unfold Cj;dsimp only
 split
 . exact Ft _ _ (by decide) h1
 . exact Zh _ _ _ h1
theorem OQ (row:List Bool)(l:List Int)(u:US)(h:0<=u.e):0<=(Me row l u).2.e:=by
 unfold Me
 split
 . exact Ef _ _ _ h
 . split
   . exact(by decide:(0:Int)<=8)
   . exact Ci _ _ _ (Ef _ _ _ h)
theorem Z1g (d k:Nat)(u:US)(h:0<=u.e):0<=(Jh d k u).e:=by
 unfold Jh
 split
 . exact(by decide:(0:Int)<=9)
 . split
   . exact(by decide:(0:Int)<=2)
   . exact BF _ _ _ h
theorem CK (row:List Bool)(lb:List Int)(k:Nat)(u:US)(h:0<=u.e):0<=(Co row lb k u).e:=by
 unfold Co
 split
 . split
   . exact(by decide:(0:Int)<=2)
   . exact h
 . split
   . exact(by decide:(0:Int)<=8)
   . split
     . exact Ci _ _ _ h
     . split
       . exact OQ _ _ _ (Ci _ _ _ h)
       . exact Z1g _ _ _ (OQ _ _ _ (Ci _ _ _ h))
theorem Xy (row:List Bool)(la lb:List Int):∀(f:Nat) (u:US),0<=u.e->0<=(Hk row la lb f u).e
 |0,u,h=>by
  unfold Hk
  split
  . exact Ef _ _ _ h
  . exact Ef _ _ _ h
 |f+1,u,h=>by
  rw[Hj]
  split
  . exact Ef _ _ _ h
  . split
    . exact Ef _ _ _ h
    . split
      . exact CK _ _ _ _ (Ef _ _ _ h)
      . exact Xy row la lb f _ (CK _ _ _ _ (Ef _ _ _ h))
theorem Zi (row:List Bool):∀(ks:List Nat) (s:List Int) (u:US),0<=u.e->0<=(usmall row ks s u).2.e
 | [],s,u,h=>h
 |k::r,s,u,h=>by
  rw[usmall];exact Zi row r _ _ (Ci _ _ _ h)
theorem TC (row:List Bool)(l:List Int)(k:Nat)(u:US)(h:0<=u.e):0<=(ukind row l k u).2.2.e:=by
 unfold ukind
 split
 . split
   . exact Ft _ _ (by decide) h
   . exact Ci _ _ _ h
 . split
   . exact Ci _ _ _ h
   . split
     . exact Ci _ _ _ h
     . exact h
theorem SW (tot:Nat)(l:List Int)(r:Int×Nat×US)(h:0<=r.2.2.e):0<=(Td tot l r).2.e:=by
 unfold Td;dsimp only
 split
 . exact Ft _ _ (by decide) h
 . exact h
theorem BD (row:List Bool)(S:List Int)(tot:Nat):∀(F:Nat) (l:List Int) (u:US),0<=u.e->0<=(ulens row S tot F l u).2.e
 |0,l,u,h=>h
 |F+1,l,u,h=>by
  rw[ulens]
  split
  . exact BD row S tot F _ _ (SW _ _ _ (TC _ _ _ _ (Ef _ _ _ h)))
  . exact h
theorem AY (row:List Bool)(u:US)(h:0<=u.e):0<=(Db row u).2.e:=by
 unfold Db;dsimp only;have h3:=Ci row 4 _ (Ci row 5 _ (Ci row 5 u h));generalize (uget row 5 u).1=m0 at*;generalize (uget row 5 (uget row 5 u).2).1=n0 at*;generalize uget row 4 (uget row 5 (uget row 5 u).2).2=g at*
 have hs:0<=(Gk row (m0+257) (n0+1) (g.1+4) g.2).2.e:=by
  unfold Gk;refine Zi _ _ _ _ ?_
  split
  . exact Ft _ _ (by decide) h3
  . exact h3
 generalize Gk row (m0+257) (n0+1) (g.1+4) g.2=s at*
 have hc:0<=(Qa s).e:=by
  unfold Qa
  split
  . exact Ft _ _ (by decide) hs
  . exact hs
 unfold Ke
 split
 . exact hc
 . have hl:=BD row s.1 (m0+257+(n0+1)) (m0+257+(n0+1)) [] (Qa s) hc;generalize ulens row s.1 (m0+257+(n0+1)) (m0+257+(n0+1)) [] (Qa s)=r at*;unfold Gl
   split
   . exact hl
   . split
     . exact Ft _ _ (by decide) hl
     . exact hl
theorem Yc (k:Nat)(u:US)(h:0<=u.e):0<=(Jg k u).e:=by
 unfold Jg
 split
 . exact h
 . exact h
theorem Z1d (row:List Bool)(k:Nat)(u:US)(h:0<=u.e):0<=(Ds row k u).e:=by
 unfold Ds
 split
 . exact Yc _ _ (GI _ _ h)
 . split
   . exact Yc _ _ (Xy _ _ _ _ _ h)
   . split
     . split
       . exact AY _ _ h
       . exact Yc _ _ (Xy _ _ _ _ _ (AY _ _ h))
     . exact(by decide:(0:Int)<=4)
theorem I9 (row:List Bool)(u:US)(h:0<=u.e):0<=(Bj row u).2.e:=by
 unfold Bj
 split
 . exact Ci _ _ _ h
 . split
   . exact Ci _ _ _ (Ci _ _ _ h)
   . exact Z1d _ _ _ (Ci _ _ _ (Ci _ _ _ h))
theorem Vo (row:List Bool):∀(F:Nat) (u:US),0<=u.e->0<=(Bw row F u).e
 |0,u,h=>h
 |F+1,u,h=>by
  rw[Bw]
  split
  . exact Vo row F _ (I9 row u h)
  . exact I9 row u h
theorem Z19 (row:List Bool):0<=(Dk row).e:=Vo row _ _ (by decide)
end Go.Proofs.YtleocpdblhbimaaGreatDoor
namespace Go.Proofs.YtleocpdblhbimaaGreatDoor
open Go.RowKit
set_option linter.unusedVariables false
set_option maxRecDepth 100000
theorem Wr (a:Option Addr)(n cap:Nat)(bs:List Nat)(w:World)(hl:bs.length=n)(hn:n<=6000)(hby:BytesIn w a bs)(hv:∀j,bs.getD j 0<256):
 Calls Tryz.prog 166 #[.slice a n cap] w fun e w'=>Z8h w bs n e w':=by
 refine(EL a n cap bs w hn (Dk (rowB bs n)) ?_ (Z19 _) (fun e=> ?_)).mono (fun e w' h=>h)
 . intro No B b W hI h1 h2 h3 h4 hBel
   have hRw:Rd w No a n bs:=⟨hl,hn,hby,hv,fun b o ea hne=>h2 b (by
    rcases hby with h0|⟨b',o',e',hb',_⟩
    . exact absurd h0 hne
    . rw[ea]at e';cases e';exact hb')⟩
   have hRW:Rd W No a n bs:=hRw.keep hBel.size (fun g hg _=>hBel.block g hg);refine(JG No B b a n cap bs W hI hRW (fun g hg=>h1 g (by omega))).mono ?_;rintro e w' (⟨e0,rfl,hK⟩|⟨e0,rfl,hb⟩)
   . obtain⟨No',f1,f2,hn',hNo',hI',hF',hB'⟩:=hK;exact .inl ⟨e0,rfl,f1,f2,hI'.weak hn',hB'.below,hB'.kp⟩
   . exact .inr ⟨e0,rfl,hb.below,hb.kp⟩
 . have:=(Rn (rowB bs n) n (Af bs n) e).2.1
   rw[Af]at this;omega
theorem Tc (a:Option Addr)(n cap:Nat)(w:World)(hn:6000<n)(hm:n<=9223372036854775807):
 Calls Tryz.prog 166 #[.slice a n cap] w fun e w'=>e=.returned (.tuple #[.slice none 0 0,.int .i64 0,.slice none 0 0,.int .i64 2])/\w'=w:=by
 have hnI:(6000:Int)<(n:Int):=by omega
 go_enter Tryz.func166,Tryz.ntmps166
 go_wp2;refine bodyPost_ret (v:=.tuple #[.slice none 0 0,.int .i64 0,.slice none 0 0,.int .i64 2]) ?_ rfl ⟨rfl,rfl⟩
 first|rfl|kernel_rfl
end Go.Proofs.YtleocpdblhbimaaGreatDoor
namespace Go.Proofs.YtleocpdblhbimaaGreatDoor
set_option linter.unusedVariables false
theorem Z8n:Z5u:=⟨Wr,Tc⟩
end Go.Proofs.YtleocpdblhbimaaGreatDoor
