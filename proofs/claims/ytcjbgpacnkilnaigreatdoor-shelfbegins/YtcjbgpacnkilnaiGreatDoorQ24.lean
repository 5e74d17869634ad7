import Derived.Test.YtcjbgpacnkilnaiGreatDoorQ23
import Derived.Laws.EntriesVeiled
set_option maxHeartbeats 4000000
namespace Go.Proofs.YtcjbgpacnkilnaiGreatDoor
open Go.RowKit
set_option linter.unusedVariables false
set_option linter.unusedSimpArgs false
set_option maxRecDepth 100000
def Fx (No:Nat->Prop)(w:World)(b:Nat)(f1 f2:Value):Prop:=
 (f1=.nilFunc/\f2=.nilFunc)\/∃g1 m1 b1 n1 g2 m2 b2 n2,f1=DV g1 m1/\f2=DV g2 m2/\DIs w g1 m1 b1 n1 b Qr/\DIs w g2 m2 b2 n2 b Jg/\(No g1/\No m1/\No b1)/\(No g2/\No m2/\No b2)
theorem Fx.keep {No:Nat->Prop}{w w':World}{b:Nat}{f1 f2:Value}(h:Fx No w b f1 f2)(hs:w.heap.size<=w'.heap.size)(hk:Kp No w w'):Fx No w' b f1 f2:=by
 rcases h with h|⟨g1,m1,b1,n1,g2,m2,b2,n2,e1,e2,d1,d2,⟨a1,a2,a3⟩,⟨c1,c2,c3⟩⟩
 . exact .inl h
 . have t1:=d1.lt;have t2:=d1.is.lt;have t3:=d2.lt;have t4:=d2.is.lt;exact .inr ⟨g1,m1,b1,n1,g2,m2,b2,n2,e1,e2,d1.keep hs (hk g1 t1.1 a1) (hk m1 t1.2 a2) (hk b1 t2 a3),d2.keep hs (hk g2 t3.1 c1) (hk m2 t3.2 c2) (hk b2 t4 c3),⟨a1,a2,a3⟩,⟨c1,c2,c3⟩⟩
def Zjf (No:Nat->Prop)(B:Nat)(w:World)(b:Nat)(R:Value)(u:US)(e:Ending)(w':World):Prop:=
 ∃No' g1 m1 b1 n1 g2 m2 b2 n2,(∀g,No g->No' g)/\(∀g,w'.heap.size<=g->¬No' g)/\e=.returned (.agg #[DV g1 m1,DV g2 m2])/\IIs No' B w' b R (DV g1 m1) (DV g2 m2) u/\DIs w' g1 m1 b1 n1 b Qr/\DIs w' g2 m2 b2 n2 b Jg/\(No' g1/\No' m1/\No' b1)/\(No' g2/\No' m2/\No' b2)/\Bl No B w w'
theorem IIs.cells45 {No:Nat->Prop}{B b:Nat}{w:World}{R f1 f2:Value}{u:US}(h:IIs No B w b R f1 f2 u):w.cell? ⟨b,4,none⟩=some f1/\w.cell? ⟨b,5,none⟩=some f2/\∀j,w.frozen? ⟨b,j,none⟩=false:=by
 obtain⟨ov,kv,h1,_⟩:=h.ex;exact⟨Ac h1,Ac h1,fun j=>frozen_of_row w b j _ _ h1⟩
theorem Uk (No:Nat->Prop)(B b:Nat)(R:Value)(u:US)(w:World)(g1 m1 b1 n1 g2 m2 b2 n2:Nat)(h:IIs No B w b R (DV g1 m1) (DV g2 m2) u)(d1:DIs w g1 m1 b1 n1 b Qr)(d2:DIs w g2 m2 b2 n2 b Jg)(a1:No g1/\No m1/\No b1)(a2:No g2/\No m2/\No b2)(hNo:∀g,w.heap.size<=g->¬No g):
 Calls Tryz.prog 122 #[.pointer (some ⟨b,0,none⟩)] w fun e w'=>Zjf No B w b R u e w':=by
 have hbl:=h.lt;have hbB:=h.base;obtain⟨c4,c5,_⟩:=h.cells45
 have HF:Hid (∀w',Below w.heap.size w w'->Zjf No B w b R u (.returned (.agg #[DV g1 m1,DV g2 m2])) w'):=Ab (fun w' hB=>by
  have hs:=hB.size;have t1:=d1.lt;have t2:=d1.is.lt;have t3:=d2.lt;have t4:=d2.is.lt;exact⟨No,g1,m1,b1,n1,g2,m2,b2,n2,fun _ h=>h,fun g hg=>hNo g (by omega),rfl,h.past hB,d1.keep hs (hB.block g1 t1.1) (hB.block m1 t1.2) (hB.block b1 t2),d2.keep hs (hB.block g2 t3.1) (hB.block m2 t3.2) (hB.block b2 t4),a1,a2,Zjc hB (by omega)⟩)
 clear h d1 d2 a1 a2 hNo;have heq:∀W:World,(binOp .eql 145 (DV g1 m1) .nilFunc).run Tryz.prog W=.ok (.bool false) W:=fun W=>by first|rfl|kernel_rfl
 go_enter Tryz.func122,Tryz.ntmps122
 have hA0:(w.alloc (.cells #[.nilFunc,.nilFunc] 147)).heap[w.heap.size]? =some (.cells #[.nilFunc,.nilFunc] 147 (0,0)):=heap_alloc_new _ _;have HA0:=Ab hA0;have HB0:Hid (Below w.heap.size w ((w.alloc (.cells #[.nilFunc,.nilFunc] 147)).setRow w.heap.size #[DV g1 m1,DV g2 m2])):=Ab (Au ((Below.refl w.heap.size w).alloc (Nat.le_refl _) _) (Nat.le_refl _) _);clear hA0;go_wp2_with (refine wpList_store_row rfl 147 (.tmp 2) (.tmp 28) rfl w.heap.size #[DV g1 m1,DV g2 m2] rfl rfl 147 #[.nilFunc,.nilFunc] (Aa HA0) El rfl (by first|rfl|simp[Value.oneCell']) ?_)
 refine bodyPost_ret (v:=.agg #[DV g1 m1,DV g2 m2]) ?_ rfl (Aa HF _ (Aa HB0));exact results_cell_row rfl _ _ w.heap.size _ _ _ _ (by first|rfl|kernel_rfl|simp) (setRow_heap _ _ _ _ _ _ (Aa HA0)) Tryz.underlying147 rfl El
theorem Yj (No:Nat->Prop)(B b:Nat)(R:Value)(u:US)(w:World)(h:IIs No B w b R .nilFunc .nilFunc u)(hNo:∀g,w.heap.size<=g->¬No g):
 Calls Tryz.prog 122 #[.pointer (some ⟨b,0,none⟩)] w fun e w'=>Zjf No B w b R u e w':=by
 have hbl:=h.lt;have hbB:=h.base;obtain⟨c4,c5,frz⟩:=h.cells45;have heq:∀W:World,(binOp .eql 145 .nilFunc .nilFunc).run Tryz.prog W=.ok (.bool true) W:=fun W=>by first|rfl|kernel_rfl
 have HK0:=Ab (Rk.refl h);have HNo:=Ab hNo;obtain⟨FA,hFA⟩:∃FA,Qr=FA:=⟨_,rfl⟩
 obtain⟨FB,hFB⟩:∃FB,Jg=FB:=⟨_,rfl⟩
 have hlA:=Kj;have hlB:=Ej;have hgA:=Kk;have hgB:=Kh;have HFL:=Ab (fun W=>Yi W);simp only[hFA,hFB]at HFL hlA hlB hgA hgB;have HGA:=Ab hgA;have HGB:=Ab hgB;have HFA:=Ab hFA;have HFB:=Ab hFB;have hA0:(w.alloc (.cells #[.nilFunc,.nilFunc] 147)).heap[w.heap.size]? =some (.cells #[.nilFunc,.nilFunc] 147 (0,0)):=heap_alloc_new _ _;have HA0:=Ab hA0;have HB0:Hid (Below w.heap.size w (w.alloc (.cells #[.nilFunc,.nilFunc] 147))):=Ab ((Below.refl w.heap.size w).alloc (Nat.le_refl _) _);clear h hNo hFA hFB hgA hgB hA0;have hi1:(Tryz.prog.info? 156).map (·.size)=some (iv FA).toArray.size:=by rw[Ug];simp[hlA]
 have hi2:(Tryz.prog.info? 157).map (·.size)=some (iv FB).toArray.size:=by rw[Z36];simp[hlB]
 go_enter Tryz.func122,Tryz.ntmps122
 go_wp2_with fail
 refine(Aa HFL _).mono ?_;rintro e w1 ⟨rfl,hB1⟩;have hz1:=hB1.size;simp only[World.size_alloc]at hz1;have HB1:Hid (Below w.heap.size w w1):=Ab ((Aa HB0).trans (hB1.mono (by simp)));have HC1:Hid (w1.heap[w.heap.size]? =some (.cells #[.nilFunc,.nilFunc] 147 (0,0))):=Ab ((hB1.block _ (by simp)).trans (Aa HA0));clear hB1;have A1:((w1.alloc (.cells (iv (List.replicate 288 0)).toArray 156)).alloc (.cells (iv (List.replicate 32 0)).toArray 157)).heap[w1.heap.size]? =some (.cells (iv (List.replicate 288 0)).toArray 156 (0,0)):=(Below.heap_alloc _ _ _ (by simp)).trans (heap_alloc_new _ _)
 have A2:(((w1.alloc (.cells (iv (List.replicate 288 0)).toArray 156)).alloc (.cells (iv (List.replicate 32 0)).toArray 157)).setRow w1.heap.size (iv FA).toArray).heap[w1.heap.size+1]? =some (.cells (iv (List.replicate 32 0)).toArray 157 (0,0)):=by
  rw[Go.setRow_other _ _ _ _ (by omega)];have e:w1.heap.size+1=(w1.alloc (.cells (iv (List.replicate 288 0)).toArray 156)).heap.size:=by simp
  rw[e];exact heap_alloc_new _ _
 have HA1:=Ab A1;have HA2:=Ab A2;have HT:=Ab (fun x y=>Ia w1 w1 x y 156 157 FA FB (Below.refl _ _) (by simp));clear A1 A2;go_upto_region 3 with (first|refine wpList_store_row rfl 156 (.tmp 3) (.tmp 13) rfl w1.heap.size _ rfl rfl 156 (iv (List.replicate 288 0)).toArray (Aa HA1) hi1 (by simp[hlA]) (Cl FA) ?_|refine wpList_store_row rfl 157 (.tmp 4) (.tmp 14) rfl (w1.heap.size+1) _ rfl rfl 157 (iv (List.replicate 32 0)).toArray (Aa HA2) hi2 (by simp[hlB]) (Cl FB) ?_)
 simp only[Act.put];generalize hW2:World.setRow (World.setRow (World.alloc (World.alloc _ _) _) _ _) _ _=W2;have t1:ARow 156 W2 w1.heap.size FA:=by rw[<-hW2];exact(Aa HT _ _).1
 have t2:ARow 157 W2 (w1.heap.size+1) FB:=by rw[<-hW2];exact(Aa HT _ _).2.1
 have t3:Below w1.heap.size w1 W2:=by rw[<-hW2];exact(Aa HT _ _).2.2
 clear hW2 HT HA1 HA2;have hzW:=t3.size;have K2:Hid (Rk No B w b R .nilFunc .nilFunc u W2):=Ab ((Aa HK0).past ((Aa HB1).trans (t3.mono (by omega))));have HC2:Hid (W2.heap[w.heap.size]? =some (.cells #[.nilFunc,.nilFunc] 147 (0,0))):=Ab ((t3.block _ (by omega)).trans (Aa HC1));have HD1:=Ab (fun k=>Lm b (some ⟨w1.heap.size,0,none⟩) 288 288 FA (W2.drewN k) hlA (.inr ⟨_,0,rfl,t1.lt,t1.row⟩) (Aa HGA));have HD2:Hid (∀W,Below W2.heap.size W2 W->Calls Tryz.prog 150 #[.pointer (some ⟨b,0,none⟩),.slice (some ⟨w1.heap.size+1,0,none⟩) 32 32] W fun e w'=>∃gr gm mb nn,e=.returned (DV gr gm)/\W.heap.size<=gr/\W.heap.size<=gm/\W.heap.size<=mb/\mb<w'.heap.size/\DIs w' gr gm mb nn b FB/\Below W.heap.size W w'):=Ab (fun W hB=>Lm b (some ⟨w1.heap.size+1,0,none⟩) 32 32 FB W hlB (.inr ⟨_,0,rfl,(t2.keep (hB.block _ t2.lt)).lt,(t2.keep (hB.block _ t2.lt)).row⟩) (Aa HGB));clear t1 t2 t3;refine wp_region_any (by kernel_rfl) ?_
 try (change wpAny _ _ _ _ _ _ _ (World.drew _))
 refine wpAny_take (i:=0) (v:=.pointer (some ⟨b,0,none⟩)) rfl (by kernel_rfl) (by kernel_rfl) (by kernel_rfl) (fun _ _ _ h=>h) (Or.inl ⟨by rfl,fun W=>by go_simp⟩) ?_;simp only[Act.put,List.setIfInBounds_toArray,List.set_cons_zero,List.set_cons_succ];refine wpAny_take (i:=1) (v:=.pointer (some ⟨b,0,none⟩)) rfl (by kernel_rfl) (by kernel_rfl) (by kernel_rfl) (fun _ _ _ h=>h) (Or.inl ⟨by rfl,fun W=>by go_simp⟩) ?_;simp only[Act.put,List.setIfInBounds_toArray,List.set_cons_zero,List.set_cons_succ];refine wpAny_take (i:=2) (v:=.slice (some ⟨w1.heap.size,0,none⟩) 288 288) rfl (by kernel_rfl) (by kernel_rfl) (by kernel_rfl) (fun _ _ _ h=>h) (Or.inl ⟨by rfl,fun W=>by go_simp⟩) ?_;simp only[Act.put,List.setIfInBounds_toArray,List.set_cons_zero,List.set_cons_succ];refine wpAny_take (i:=4) (v:=.pointer (some ⟨b,0,none⟩)) rfl (by kernel_rfl) (by kernel_rfl) (by kernel_rfl) (fun _ _ _ h=>h) (Or.inl ⟨by rfl,fun W=>by go_simp⟩) ?_;simp only[Act.put,List.setIfInBounds_toArray,List.set_cons_zero,List.set_cons_succ];refine wpAny_take (i:=5) (v:=.slice (some ⟨w1.heap.size+1,0,none⟩) 32 32) rfl (by kernel_rfl) (by kernel_rfl) (by kernel_rfl) (fun _ _ _ h=>h) (Or.inl ⟨by rfl,fun W=>by go_simp⟩) ?_;simp only[Act.put,List.setIfInBounds_toArray,List.set_cons_zero,List.set_cons_succ];refine wpAny_ready (rs:= [3]) (by kernel_rfl) (by simp) (AllReady.cons rfl (fun K hK=> ?_) AllReady.nil);go_simp
 refine(Aa HD1 _).mono ?_;rintro e w6 ⟨g1,m1,b1,n1,rfl,d1,d2,d3,d4,d5,hB6⟩;have HB6:Hid (Below W2.heap.size W2 w6):=Ab ((Ae (Below.refl _ _) _).trans hB6);clear hB6;dsimp only;refine hK _ _ ?_;clear hK K;refine wpAny_ready (rs:= [6]) (by kernel_rfl) (by simp) (AllReady.cons rfl (fun K hK=> ?_) AllReady.nil);go_simp
 refine(Aa HD2 _ (Aa HB6)).mono ?_;rintro e w7 ⟨g2,m2,b2,n2,rfl,x1,x2,x3,x4,x5,hB7⟩;have HB7:=Ab hB7;have HB27:Hid (Below W2.heap.size W2 w7):=Ab ((Aa HB6).trans (hB7.mono (Aa HB6).size));clear hB7;dsimp only;refine hK _ _ ?_;clear hK K;refine wpAny_ready (rs:= [7]) (by kernel_rfl) (by simp) (AllReady.cons rfl (fun K hK=> ?_) AllReady.nil);go_simp
 refine hK _ _ ?_;clear hK K;refine wpAny_ready (rs:= [8]) (by kernel_rfl) (by simp) (AllReady.cons rfl (fun K hK=> ?_) AllReady.nil);go_simp
 refine hK _ _ ?_;clear hK K;refine wpAny_ready (rs:= [9]) (by kernel_rfl) (by simp) (AllReady.cons rfl (fun K hK=> ?_) AllReady.nil);go_simp
 refine hK _ _ ?_;clear hK K;have hK7:=(Aa K2).past (Aa HB27);have HK7:=Ab hK7;obtain⟨z4,z5,zf⟩:=hK7.is.cells45;have zf4:=zf 4;have zf5:=zf 5;clear hK7;refine wpAny_ready (rs:= [10]) (by kernel_rfl) (by simp) (AllReady.cons rfl (fun K hK=> ?_) AllReady.nil);go_simp
 refine hK _ _ ?_;clear hK K;refine wpAny_done (by kernel_rfl) ?_ _;obtain⟨w8,hw8⟩:∃w8,(w7.setCell ⟨b,4,none⟩ (DV g1 m1)).setCell ⟨b,5,none⟩ (DV g2 m2)=w8:=⟨_,rfl⟩
 have I4:=(Aa HK7).is.set (g1:=DV g1 m1) (g2:=.nilFunc) 4 (DV g1 m1) u rfl rfl (fun _ _=>rfl);have I5:=I4.is.set (g1:=DV g1 m1) (g2:=DV g2 m2) 5 (DV g2 m2) u rfl rfl (fun _ _=>rfl);have hs7:=(Aa HB27).size
 have K8:Rk No B w b R (DV g1 m1) (DV g2 m2) u w8:=by
  rw[<-hw8];exact⟨I5.is,(Aa HK7).bl.trans ((I4.bl.trans I5.bl).weaken (fun _ h=>.inl h))⟩
 have hother:∀g,g≠b->w8.heap[g]? =w7.heap[g]? :=fun g hg=>by
  rw[<-hw8]
  by_cases hlt:g<w7.heap.size
  . have q1:=(Ad w7 b 4 (DV g1 m1)).block g hlt (fun e=>hg (Option.some.inj e));have q2:=(Ad (w7.setCell ⟨b,4,none⟩ (DV g1 m1)) b 5 (DV g2 m2)).block g (Nat.lt_of_lt_of_le hlt I4.below.size) (fun e=>hg (Option.some.inj e));exact q2.trans q1
  . have z1:((w7.setCell ⟨b,4,none⟩ (DV g1 m1)).setCell ⟨b,5,none⟩ (DV g2 m2)).heap.size=w7.heap.size:=by simp
    rw[Array.getElem?_eq_none (by omega),Array.getElem?_eq_none (by omega)]
 have hs8:w7.heap.size<=w8.heap.size:=by rw[<-hw8];exact Nat.le_trans I4.below.size I5.below.size
 obtain⟨y4,y5,_⟩:=K8.is.cells45;have HC8:Hid (w8.heap[w.heap.size]? =some (.cells #[.nilFunc,.nilFunc] 147 (0,0))):=Ab ((hother _ (by omega)).trans (((Aa HB27).block _ (by omega)).trans (Aa HC2)));obtain⟨w9,hw9⟩:∃w9,w8.setRow w.heap.size #[DV g1 m1,DV g2 m2]=w9:=⟨_,rfl⟩
 have hgr:w8.grownBy w9 (some w.heap.size):=by rw[<-hw9];exact Mb _ _ _
 have HC9:Hid (w9.heap[w.heap.size]? =some (.cells #[DV g1 m1,DV g2 m2] 147 (0,0))):=Ab (by rw[<-hw9];exact setRow_heap _ _ _ _ _ _ (Aa HC8));have K9:Rk No B w b R (DV g1 m1) (DV g2 m2) u w9:=K8.aside hgr (fun g e=>by cases e;exact Nat.le_refl _) (Aa HNo) hbl;have hs9:=hgr.size;have hs6:=(Aa HB6).size;have d1':W2.heap.size<=g1:=d1;have d2':W2.heap.size<=m1:=d2;have d3':W2.heap.size<=b1:=d3;have hk9:∀g,W2.heap.size<=g->g<w7.heap.size->w9.heap[g]? =w7.heap[g]? :=fun g h1 h2=>(hgr.block g (by omega) (fun e=>by have:=Option.some.inj e;omega)).trans (hother g (by omega))
 have D1:DIs w9 g1 m1 b1 n1 b FA:=by
  have t1:=d5.lt;have t2:=d5.is.lt;have hs67:=(Aa HB7).size;exact(d5.keep hs67 ((Aa HB7).block g1 t1.1) ((Aa HB7).block m1 t1.2) ((Aa HB7).block b1 t2)).keep (by omega) (hk9 g1 d1' (by omega)) (hk9 m1 d2' (by omega)) (hk9 b1 d3' (by omega))
 have D2:DIs w9 g2 m2 b2 n2 b FB:=by
  have t1:=x5.lt;have t2:=x5.is.lt;exact x5.keep (by omega) (hk9 g2 (by omega) t1.1) (hk9 m2 (by omega) t1.2) (hk9 b2 (by omega) t2)
 have HF:Hid (Zjf No B w b R u (.returned (.agg #[DV g1 m1,DV g2 m2])) w9):=Ab (by
  have t1:=D1.lt;have t2:=D1.is.lt;have t3:=D2.lt;have t4:=D2.is.lt;refine⟨NK No w.heap.size w9.heap.size,g1,m1,b1,n1,g2,m2,b2,n2,fun _ h=>.inl h,fun g hg e=> ?_,rfl,K9.inner,by rw[Aa HFA];exact D1,by rw[Aa HFB];exact D2,⟨.inr ⟨by omega,t1.1⟩,.inr ⟨by omega,t1.2⟩,.inr ⟨by omega,t2⟩⟩,⟨.inr ⟨by omega,t3.1⟩,.inr ⟨by omega,t3.2⟩,.inr ⟨by omega,t4⟩⟩,K9.bl⟩
  rcases e with e|e
  . exact Aa HNo g (by have:=K9.bl.below.size;omega) e
  . omega)
 clear D1 D2 hk9 d1' d2' d3' K9 hgr hother K8 I4 I5 d1 d2 d3 d4 d5 x1 x2 x3 x4 x5 z4 z5 zf zf4 zf5;have HW9:=Ab hw9;clear hw9;change Exit.then _ _ Exit.normal _ ((w7.setCell ⟨b,4,none⟩ (DV g1 m1)).setCell ⟨b,5,none⟩ (DV g2 m2))
 rw[hw8];clear hw8;go_wp2_with (refine wpList_store_row rfl 147 (.tmp 2) (.tmp 28) rfl w.heap.size #[DV g1 m1,DV g2 m2] rfl rfl 147 #[.nilFunc,.nilFunc] (Aa HC8) El rfl (by first|rfl|simp[Value.oneCell']) ?_)
 rw[Aa HW9];refine bodyPost_ret (v:=.agg #[DV g1 m1,DV g2 m2]) ?_ rfl (Aa HF);exact results_cell_row rfl _ _ w.heap.size _ _ _ _ (by first|rfl|kernel_rfl|simp) (Aa HC9) Tryz.underlying147 rfl El
theorem Qq (No:Nat->Prop)(B b:Nat)(R f1 f2:Value)(u:US)(w:World)(h:IIs No B w b R f1 f2 u)(hF:Fx No w b f1 f2)(hNo:∀g,w.heap.size<=g->¬No g):
 Calls Tryz.prog 122 #[.pointer (some ⟨b,0,none⟩)] w fun e w'=>Zjf No B w b R u e w':=by
 rcases hF with ⟨rfl,rfl⟩|⟨g1,m1,b1,n1,g2,m2,b2,n2,rfl,rfl,d1,d2,a1,a2⟩
 . exact Yj No B b R u w h hNo
 . exact Uk No B b R u w g1 m1 b1 n1 g2 m2 b2 n2 h d1 d2 a1 a2 hNo
def Bk (No:Nat->Prop)(B:Nat)(w0:World)(b:Nat)(R:Value)(u:US)(w:World):Prop:=
 ∃No' f1 f2,(∀g,No g->No' g)/\(∀g,w.heap.size<=g->¬No' g)/\IIs No' B w b R f1 f2 u/\Fx No' w b f1 f2/\Bl No B w0 w
def Zbe (No:Nat->Prop)(B:Nat)(w0:World)(b:Nat)(R:Value)(V:US)(e:Ending)(w':World):Prop:=
 (V.e=0/\e=.returned (.tuple #[])/\Bk No B w0 b R V w')\/ (V.e≠0/\e=Flt V.e/\Bl No B w0 w')
theorem Bl.outer {No No':Nat->Prop}{B:Nat}{w0 w w':World}(h:Bl No B w0 w)(k:Bl No' B w w')(hn:∀g,No g->No' g):Bl No B w0 w':=h.trans (k.weaken hn)
theorem Z6f (No:Nat->Prop)(B b:Nat)(a:Option Addr)(n cap:Nat)(bs:List Nat)(u:US)(w0 w:World)(h:Bk No B w0 b (.slice a n cap) u w)(hR:Rd w No a n bs)(hp:u.p<=8*n)(he:u.e=0)(ho:u.out.length<=3000)(hk:u.ks.length<=48000):
 Calls Tryz.prog 107 #[.pointer (some ⟨b,0,none⟩),.int .i64 0] w fun e w'=>Zbe No B w0 b (.slice a n cap) (Dx (rowB bs n) 0 u) e w':=by
 obtain⟨No',f1,f2,hn,hNo,hI,hF,hB⟩:=h;have hV:Dx (rowB bs n) 0 u=(if (Cu (rowB bs n) u).e=0 then Vs 0 (Cu (rowB bs n) u)else Cu (rowB bs n) u):=rfl;rw[hV];refine(Pw No' B b a n cap bs f1 f2 u w hI (hR.wide hn) hp he ho hk hNo hI.base _ (Ab rfl)).mono ?_;rintro e w' (⟨e0,rfl,hU⟩|⟨e0,rfl,hBl⟩)
 . exact .inl ⟨e0,rfl,No',f1,f2,hn,fun g hg=>hNo g (Nat.le_trans hU.below.size hg),hU.is,hF.keep hU.below.size hU.kp,hB.outer hU.bl hn⟩
 . exact .inr ⟨e0,rfl,hB.outer hBl hn⟩
theorem Z6c (No:Nat->Prop)(B b k:Nat)(R:Value)(u:US)(row:List Bool)(w0 w:World)(h:Bk No B w0 b R u w)(hk:3<=k)(hk4:k<4):
 Calls Tryz.prog 107 #[.pointer (some ⟨b,0,none⟩),.int .i64 (k:Int)] w fun e w'=>Zbe No B w0 b R (Dx row k u) e w':=by
 obtain rfl:k=3:=by omega
 obtain⟨No',f1,f2,hn,hNo,hI,hF,hB⟩:=h;have HB:=Ab hB;have HV:Hid (Dx row 3 u= {u with e:=4}):=Ab rfl;obtain⟨V,hV⟩:∃V,Dx row 3 u=V:=⟨_,rfl⟩
 rw[hV]at HV ⊢;clear hI hF hB hV;go_enter Tryz.func107,Tryz.ntmps107
 go_wp2_with fail
 refine(Bo 4 w).mono ?_;rintro e w1 ⟨rfl,rfl⟩;go_wp2;exact⟨rfl,.inr ⟨by rw[Aa HV];exact(by decide:(4:Int)≠0),by rw[Aa HV],Aa HB⟩⟩
theorem Z6e (No:Nat->Prop)(B b:Nat)(a:Option Addr)(n cap:Nat)(bs:List Nat)(u:US)(w0 w:World)(h:Bk No B w0 b (.slice a n cap) u w)(hR:Rd w No a n bs)(hp:u.p<=8*n)(he:u.e=0)(ho:u.out.length<=3000)(hk:u.ks.length<=48000):
 Calls Tryz.prog 107 #[.pointer (some ⟨b,0,none⟩),.int .i64 1] w fun e w'=>Zbe No B w0 b (.slice a n cap) (Dx (rowB bs n) 1 u) e w':=by
 have hrl:=Ag bs n;obtain⟨No',f1,f2,hn,hNo,hI,hF,hB⟩:=h;obtain⟨i0,hi0,hz0,hz1,hz2⟩:=info_parts Cg;obtain⟨V,hV⟩:∃V,Hu (rowB bs n) Qr Jg (8*n+1) u=V:=⟨_,rfl⟩
 obtain⟨X,hX⟩:∃X,Dx (rowB bs n) 1 u=X:=⟨_,rfl⟩
 have HX:Hid ((if V.e=0 then Vs 1 V else V)=X):=Ab (by rw[<-hX,<-hV,<-hrl];rfl);rw[hX]
 have HVK:Hid (V.e=0->V.ks.length<=48000):=Ab (fun e=>by
  have:=(Ht (rowB bs n) Qr Jg (8*n+1) u (by omega) ho (by rw[hV];exact e)).ks
  rw[hV]at this;rw[this];exact hk)
 have HFC:=Ab (Qq No' B b (.slice a n cap) f1 f2 u w hI hF hNo);have HRD:=Ab (hR.wide hn);have HBB:=Ab hB;have HN:=Ab hn;have HPE:=Ab (And.intro hp (And.intro he ho));have HV:=Ab hV;clear hI hF hB hR hp he ho hk hNo hV hX hn;go_enter Tryz.func107,Tryz.ntmps107
 go_wp2_with fail
 refine(Aa HFC).mono ?_;rintro e w1 ⟨NX,g1,m1,b1,n1,g2,m2,b2,n2,hnx,hNX,rfl,hI1,hD1,hD2,hA1,hA2,hB1⟩;obtain⟨F1,hF1⟩:∃F1,DV g1 m1=F1:=⟨_,rfl⟩
 obtain⟨F2,hF2⟩:∃F2,DV g2 m2=F2:=⟨_,rfl⟩
 have HTK:=Ab (Rh NX B b a n cap bs F1 F2 u w1 (by rw[<-hF1,<-hF2];exact hI1) (((Aa HRD).keep hB1.below.size hB1.kp).wide hnx) (Aa HPE).1 (Aa HPE).2.1 (Aa HPE).2.2 g1 m1 b1 n1 g2 m2 b2 n2 Qr Jg hD1 Zgy hA1 hD2 Zgw hA2 hNX V HV)
 have HEND:Hid (∀Y w',IUp NX B w1 b (.slice a n cap) F1 F2 Y w'->Bk No B w0 b (.slice a n cap) Y w'):=Ab (fun Y w' hu=>⟨NX,F1,F2,fun g hg=>hnx g (Aa HN g hg),fun g hg=>hNX g (Nat.le_trans hu.below.size hg),hu.is,by
  have:Fx NX w1 b F1 F2:=.inr ⟨g1,m1,b1,n1,g2,m2,b2,n2,hF1.symm,hF2.symm,hD1,hD2,hA1,hA2⟩
  exact this.keep hu.below.size hu.kp,((Aa HBB).outer hB1 (Aa HN)).outer hu.bl (fun g hg=>hnx g (Aa HN g hg))⟩)
 have HBL:Hid (∀w',Bl NX B w1 w'->Bl No B w0 w'):=Ab (fun w' hb=>((Aa HBB).outer hB1 (Aa HN)).outer hb (fun g hg=>hnx g (Aa HN g hg)));have HNX:=Ab hNX;clear hnx hNX hI1 hD1 hD2 hA1 hA2 hB1 hF1 hF2;go_wp2_with fail
 refine(Aa HTK).mono ?_;rintro e w4 hg
 rcases hg with ⟨e0,rfl,hU⟩|⟨e0,rfl,hBl⟩
 rotate_left
 . have HF2:Hid (X=V):=Ab (by rw[<-Aa HX,if_neg e0]);have HB2:=Ab (Aa HBL _ hBl);clear hBl;go_wp2;exact⟨rfl,.inr ⟨by rw[Aa HF2];exact e0,by rw[Aa HF2],Aa HB2⟩⟩
 have HF2:Hid (X= {V with ks:=V.ks++ [1]}):=Ab (by rw[<-Aa HX,if_pos e0];rfl);have hbel4:=hU.below.size;have hIs4:=hU.is;have hbl4:=hIs4.lt;obtain⟨ov4,kv4,d2,d3,hh4,hov4,hkv4,hap4,hn14,hn24⟩:=hIs4.rows;obtain⟨L,hL⟩:∃L,V.ks.length=L:=⟨_,rfl⟩
 have hkvL:=hkv4;have hVk2:=Aa HVK e0;rw[hL]at hkvL hVk2;obtain⟨oa,oc,rfl⟩:=An hkvL;have HKL:=Ab hkvL;have HIS:=Ab hIs4;have HH4:=Ab hh4;have HO4:=Ab hov4;have HK4:=Ab hkv4;have HA4:=Ab hap4;have HN1:=Ab hn14;have HN2:=Ab hn24;have HLL:=Ab hL;have HU:=Ab hU;clear hU hIs4 hh4 hov4 hkv4 hap4 hn14 hn24 hkvL hL d2;go_wp2_with (at_builtin;refine wpList_append_own_at _ rfl _ _ 77 rfl (b+1) 3 i0 (.int .i64 0) 1 8 Tryz.underlying77 hi0 hz0 hz1 hz2 rfl (by decide) _ L (i64s V.ks) rfl ((Aa HKL).alloc _) ⟨w4.heap.size,0,none⟩ 1 1 [.int .i64 ((1:Nat):Int)] rfl rfl (cell_one_new _ _ _) (Bb rfl) (by unfold maxLen;omega) (by omega) (by simp;omega) ?_)
 intro v' w5 hO5 hgrow5 _ hspot5;obtain⟨g9,c9,hv9,_,_⟩:=Bm hO5 (by omega);obtain⟨q3,f35,hI5⟩:=IIs.kept (c:=1) (v':=v') (Aa HIS).base (Aa HIS).no (Aa HH4) (Aa HO4) (Aa HK4) (Aa HA4) (Aa HN1) (Aa HN2) (fun g hg=>Aa HNX g (Nat.le_trans hbel4 hg)) (by rw[Aa HLL];exact hO5) hgrow5 (by simpa using hspot5);have HI5:=Ab ((Aa HU).trans hI5);have HFIN:Hid (∀w',IUp NX B w1 b (.slice a n cap) F1 F2 {V with ks:=V.ks++ [1]} w'->Zbe No B w0 b (.slice a n cap) X (.returned (.tuple #[])) w'):=Ab (fun w' hu=>.inl ⟨by rw[Aa HF2];exact e0,rfl,by rw[Aa HF2];exact Aa HEND _ w' hu⟩);subst hv9;clear hI5 hO5 hgrow5 hspot5;go_wp2;go_end0
 exact Aa HFIN _ (Aa HI5)
theorem Z6d (No:Nat->Prop)(B b:Nat)(a:Option Addr)(n cap:Nat)(bs:List Nat)(u:US)(w0 w:World)(h:Bk No B w0 b (.slice a n cap) u w)(hR:Rd w No a n bs)(hp:u.p<=8*n)(he:u.e=0)(ho:u.out.length<=3000)(hk:u.ks.length<=48000):
 Calls Tryz.prog 107 #[.pointer (some ⟨b,0,none⟩),.int .i64 2] w fun e w'=>Zbe No B w0 b (.slice a n cap) (Dx (rowB bs n) 2 u) e w':=by
 have hrl:=Ag bs n;obtain⟨No',F1,F2,hn,hNo,hI,hF,hB⟩:=h;obtain⟨i0,hi0,hz0,hz1,hz2⟩:=info_parts Cg;obtain⟨A,C,x,hx⟩:∃A C x,Dh (rowB bs n) u=((A,C),x):=⟨_,_,_,rfl⟩
 obtain⟨V,hV⟩:∃V,Hu (rowB bs n) A C (8*n+1) x=V:=⟨_,rfl⟩
 obtain⟨X,hX⟩:∃X,Dx (rowB bs n) 2 u=X:=⟨_,rfl⟩
 have hXX:X=if x.e≠0 then x else (if V.e=0 then Vs 2 V else V):=by
  rw[<-hX,<-hV,<-hrl];show (if (Dh (rowB bs n) u).2.e≠0 then (Dh (rowB bs n) u).2 else Oz 2 (Hu (rowB bs n) (Dh (rowB bs n) u).1.1 (Dh (rowB bs n) u).1.2 ((rowB bs n).length+1) (Dh (rowB bs n) u).2))=_
  rw[hx];rfl
 rw[hX];have HXX:=Ab hXX
 have HXA:Hid (x.e=0->Ahd (rowB bs n) u x):=Ab (fun e=>by
  have:=Vi (rowB bs n) u (by omega) ho (by rw[hx];exact e)
  rw[hx]at this;exact this)
 have HVK:Hid (V.e=0->x.e=0->V.ks.length<=48000):=Ab (fun e e2=>by
  have q:=Aa HXA e2;have:=(Ht (rowB bs n) A C (8*n+1) x q.le q.out (by rw[hV];exact e)).ks
  rw[hV]at this;rw[this,q.ks];exact hk)
 have HOC:=Ab (Xc No' B b a n cap bs F1 F2 u w hI (hR.wide hn) hp he hNo A C x (Ab hx));have HRD:=Ab (hR.wide hn);have HBB:=Ab hB;have HN:=Ab hn;have HNo:=Ab hNo;have HFX:=Ab hF;have HV:=Ab hV;clear hI hF hB hR hp he ho hk hNo hV hX hn hx hXX;go_enter Tryz.func107,Tryz.ntmps107
 go_wp2_with fail
 refine(Aa HOC).mono ?_;rintro e w1 hg
 rcases hg with ⟨ex,rfl,hBx⟩|⟨ex,hK1,hGA,hGC,g1,m1,b1,n1,g2,m2,b2,n2,rfl,hD1,hD2,hA1,hA2⟩
 . have HF2:Hid (X=x):=Ab (by rw[Aa HXX,if_pos ex]);have HB2:=Ab ((Aa HBB).outer hBx (Aa HN));clear hBx;go_wp2;exact⟨rfl,.inr ⟨by rw[Aa HF2];exact ex,by rw[Aa HF2],Aa HB2⟩⟩
 have HX:Hid ((if V.e=0 then Vs 2 V else V)=X):=Ab (by
  have:=Aa HXX
  rw[if_neg (show ¬x.e≠0 from fun c=>c ex)]at this;exact this.symm)
 have hq:=Aa HXA ex;have hqp:=hq.le;rw[hrl]at hqp;have HVK2:=Ab (fun e=>Aa HVK e ex);clear HVK;have HVK:=HVK2;clear HVK2;obtain⟨NX,hNXe⟩:∃NX,NK No' w.heap.size w1.heap.size=NX:=⟨_,rfl⟩
 have hnx:∀g,No' g->NX g:=fun g hg=>by rw[<-hNXe];exact .inl hg
 have hNX:∀g,w1.heap.size<=g->¬NX g:=fun g hg e=>by
  rw[<-hNXe]at e;have:=hK1.bl.below.size
  rcases e with e|e
  . exact Aa HNo g (by omega) e
  . omega
 have hin:∀g,w.heap.size<=g->g<w1.heap.size->NX g:=fun g h1 h2=>by rw[<-hNXe];exact .inr ⟨h1,h2⟩
 have hI1:IIs NX B w1 b (.slice a n cap) F1 F2 x:=by rw[<-hNXe];exact hK1.inner
 have t1:=hD1.lt;have t2:=hD1.is.lt;have t3:=hD2.lt;have t4:=hD2.is.lt;have HTK:=Ab (Rh NX B b a n cap bs F1 F2 x w1 hI1 (((Aa HRD).keep hK1.bl.below.size hK1.bl.kp).wide hnx) hqp ex hq.out g1 m1 b1 n1 g2 m2 b2 n2 A C hD1 hGA ⟨hin _ hA1.1 t1.1,hin _ hA1.2.1 t1.2,hin _ hA1.2.2 t2⟩ hD2 hGC ⟨hin _ hA2.1 t3.1,hin _ hA2.2.1 t3.2,hin _ hA2.2.2 t4⟩ hNX V HV)
 have HEND:Hid (∀Y w',IUp NX B w1 b (.slice a n cap) F1 F2 Y w'->Bk No B w0 b (.slice a n cap) Y w'):=Ab (fun Y w' hu=>⟨NX,F1,F2,fun g hg=>hnx g (Aa HN g hg),fun g hg=>hNX g (Nat.le_trans hu.below.size hg),hu.is,by
  have f1:=(Aa HFX).keep hK1.bl.below.size hK1.bl.kp;have f2:=f1.keep hu.below.size (hu.kp.weaken hnx)
  rcases f2 with f2|⟨g1,m1,b1,n1,g2,m2,b2,n2,q1,q2,q3,q4,q5,q6⟩
  . exact .inl f2
  . exact .inr ⟨g1,m1,b1,n1,g2,m2,b2,n2,q1,q2,q3,q4,⟨hnx _ q5.1,hnx _ q5.2.1,hnx _ q5.2.2⟩,⟨hnx _ q6.1,hnx _ q6.2.1,hnx _ q6.2.2⟩⟩,((Aa HBB).outer hK1.bl (Aa HN)).outer hu.bl (fun g hg=>hnx g (Aa HN g hg))⟩)
 have HBL:Hid (∀w',Bl NX B w1 w'->Bl No B w0 w'):=Ab (fun w' hb=>((Aa HBB).outer hK1.bl (Aa HN)).outer hb (fun g hg=>hnx g (Aa HN g hg)));have HNX:=Ab hNX;clear hnx hNX hI1 hD1 hD2 hA1 hA2 hK1 hNXe hin t1 t2 t3 t4 hq hqp hGA hGC;go_wp2_with fail
 refine(Aa HTK).mono ?_;rintro e w4 hg
 rcases hg with ⟨e0,rfl,hU⟩|⟨e0,rfl,hBl⟩
 rotate_left
 . have HF2:Hid (X=V):=Ab (by rw[<-Aa HX,if_neg e0]);have HB2:=Ab (Aa HBL _ hBl);clear hBl;go_wp2;exact⟨rfl,.inr ⟨by rw[Aa HF2];exact e0,by rw[Aa HF2],Aa HB2⟩⟩
 have HF2:Hid (X= {V with ks:=V.ks++ [2]}):=Ab (by rw[<-Aa HX,if_pos e0];rfl);have hbel4:=hU.below.size;have hIs4:=hU.is;have hbl4:=hIs4.lt;obtain⟨ov4,kv4,d2,d3,hh4,hov4,hkv4,hap4,hn14,hn24⟩:=hIs4.rows;obtain⟨L,hL⟩:∃L,V.ks.length=L:=⟨_,rfl⟩
 have hkvL:=hkv4;have hVk2:=Aa HVK e0;rw[hL]at hkvL hVk2;obtain⟨oa,oc,rfl⟩:=An hkvL;have HKL:=Ab hkvL;have HIS:=Ab hIs4;have HH4:=Ab hh4;have HO4:=Ab hov4;have HK4:=Ab hkv4;have HA4:=Ab hap4;have HN1:=Ab hn14;have HN2:=Ab hn24;have HLL:=Ab hL;have HU:=Ab hU;clear hU hIs4 hh4 hov4 hkv4 hap4 hn14 hn24 hkvL hL d2;go_wp2_with (at_builtin;refine wpList_append_own_at _ rfl _ _ 77 rfl (b+1) 3 i0 (.int .i64 0) 1 8 Tryz.underlying77 hi0 hz0 hz1 hz2 rfl (by decide) _ L (i64s V.ks) rfl ((Aa HKL).alloc _) ⟨w4.heap.size,0,none⟩ 1 1 [.int .i64 ((2:Nat):Int)] rfl rfl (cell_one_new _ _ _) (Bb rfl) (by unfold maxLen;omega) (by omega) (by simp;omega) ?_)
 intro v' w5 hO5 hgrow5 _ hspot5;obtain⟨g9,c9,hv9,_,_⟩:=Bm hO5 (by omega);obtain⟨q3,f35,hI5⟩:=IIs.kept (c:=2) (v':=v') (Aa HIS).base (Aa HIS).no (Aa HH4) (Aa HO4) (Aa HK4) (Aa HA4) (Aa HN1) (Aa HN2) (fun g hg=>Aa HNX g (Nat.le_trans hbel4 hg)) (by rw[Aa HLL];exact hO5) hgrow5 (by simpa using hspot5);have HI5:=Ab ((Aa HU).trans hI5);have HFIN:Hid (∀w',IUp NX B w1 b (.slice a n cap) F1 F2 {V with ks:=V.ks++ [2]} w'->Zbe No B w0 b (.slice a n cap) X (.returned (.tuple #[])) w'):=Ab (fun w' hu=>.inl ⟨by rw[Aa HF2];exact e0,rfl,by rw[Aa HF2];exact Aa HEND _ w' hu⟩);subst hv9;clear hI5 hO5 hgrow5 hspot5;go_wp2;go_end0
 exact Aa HFIN _ (Aa HI5)
end Go.Proofs.YtcjbgpacnkilnaiGreatDoor
