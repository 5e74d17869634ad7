import Derived.Test.YtieianhejdcgdaaGreatDoorQ17
import Derived.Laws.ResultCell
set_option maxHeartbeats 8000000
namespace Go.Proofs.YtieianhejdcgdaaGreatDoor
open Go.RowKit
set_option linter.unusedVariables false
set_option maxRecDepth 100000
theorem Dp {bs:List Nat}{p k q n:Nat}(hl:bs.length=n)(h:p+k=q)(hq:q<=n):Du k (bs.drop p)=some ((bs.drop p).take k,bs.drop q):=by
 unfold Du;rw[if_neg (by rw[VO];omega),YY,h]
theorem Bu {bs:List Nat}{p k q n:Nat}(hl:bs.length=n)(h:p+k=q)(hp:p<=n)(hq:n<q):Du k (bs.drop p)=none:=by
 unfold Du;rw[if_pos (by rw[VO];omega)]
abbrev ec (v0 v1 v2 v3 v4 v5 v6 v7:Value):Array Value:= #[v0,v1,v2,v3,v4,v5,v6,v7]
abbrev ez:Array Value:=ec (.string ⟨#[]⟩) (.slice none 0 0) (.int .i64 0) (.int .i64 0) (.bool false) (.int .u32 0) (.slice none 0 0) (.int .u32 0)
structure EW (w:World)(b:Nat)(R:Value)(p:Nat)(cs:Array Value)(wk:World):Prop where
 z:ZT w b R p wk
 x:wk.heap[w.heap.size+1]? =some (.cells cs 76 (0,0))
 r:wk.heap[w.heap.size]? =some (.cells ez 76 (0,0))
theorem EW.call {w wk w':World}{b p q:Nat}{R:Value}{cs:Array Value}(h:EW w b R p cs wk)(hb:b<w.heap.size)(hT:ZT wk b R q w'):EW w b R q cs w':=by
 have h1:=(VG.1 h.x).1;exact⟨h.z.trans hT,(hT.keep _ (by omega) h1).trans h.x,(hT.keep _ (by omega) (by omega)).trans h.r⟩
theorem EW.set {w wk:World}{b p:Nat}{R:Value}{cs:Array Value}(h:EW w b R p cs wk)(hb:b<w.heap.size)(i:Nat)(v:Value)(cs':Array Value)(he:cs.setIfInBounds i v=cs'):EW w b R p cs' (wk.setCell ⟨w.heap.size+1,i,none⟩ v):=by
 have h1:=(VG.1 h.x).1;have hg:=Ad wk (w.heap.size+1) i v;refine⟨⟨(hg.block b (by omega) (by simp;omega)).trans h.z.is,h.z.below.grown hg (by omega) (fun g e=>by cases e;omega),fun g h2 h3=>(hg.block g (by omega) (by simp;omega)).trans (h.z.keep g h2 h3)⟩, ?_,(hg.block _ (by omega) (by simp)).trans h.r⟩;rw[heap_setCell_same wk _ i _ _ _ h.x,he]
theorem EW.later {w wk w':World}{b p:Nat}{R:Value}{cs:Array Value}(h:EW w b R p cs wk)(hb:b<w.heap.size)(hB:Below wk.heap.size wk w'):EW w b R p cs w':=by
 have h1:=(VG.1 h.x).1;refine⟨⟨(hB.block b (by omega)).trans h.z.is,h.z.below.trans (hB.mono (by omega)),fun g h2 h3=>(hB.block g (by omega)).trans (h.z.keep g h2 h3)⟩,(hB.block _ h1).trans h.x,(hB.block _ (by omega)).trans h.r⟩
theorem EW.cell {w wk:World}{b p:Nat}{R:Value}{cs:Array Value}(h:EW w b R p cs wk)(i:Nat):wk.cell? ⟨w.heap.size+1,i,none⟩=cs[i]? /\wk.frozen? ⟨w.heap.size+1,i,none⟩=false:=⟨Ac h.x,frozen_of_row wk _ i _ _ h.x⟩
theorem Ex {bs:List Nat}(hv:∀x∈bs,x<256)(p k:Nat):Ai ((bs.drop p).take k)<256^k:=by
 refine VK (Lh _ (fun x hx=>hv x (WB (VS hx)))) (VV (by decide) ?_);rw[VL];exact ZE _ _
abbrev Mu (W:World)(g:Nat)(v0 v1 v2 v3 v4 v5 v6 v7:Value):World:=(((((((W.setCell ⟨g,0,none⟩ v0).setCell ⟨g,1,none⟩ v1).setCell ⟨g,2,none⟩ v2).setCell ⟨g,3,none⟩ v3).setCell ⟨g,4,none⟩ v4).setCell ⟨g,5,none⟩ v5).setCell ⟨g,6,none⟩ v6).setCell ⟨g,7,none⟩ v7
theorem Z66 (W:World)(g:Nat)(t:TypeId)(o0 o1 o2 o3 o4 o5 o6 o7 v0 v1 v2 v3 v4 v5 v6 v7:Value)(h:W.heap[g]? =some (.cells #[o0,o1,o2,o3,o4,o5,o6,o7] t (0,0))):
 (Mu W g v0 v1 v2 v3 v4 v5 v6 v7).heap[g]? =some (.cells #[v0,v1,v2,v3,v4,v5,v6,v7] t (0,0))/\W.grownBy (Mu W g v0 v1 v2 v3 v4 v5 v6 v7) (some g):=by
 have h0:=heap_setCell_same W g 0 _ _ v0 h;have h1:=heap_setCell_same _ g 1 _ _ v1 h0;have h2:=heap_setCell_same _ g 2 _ _ v2 h1;have h3:=heap_setCell_same _ g 3 _ _ v3 h2;have h4:=heap_setCell_same _ g 4 _ _ v4 h3;have h5:=heap_setCell_same _ g 5 _ _ v5 h4;have h6:=heap_setCell_same _ g 6 _ _ v6 h5;have h7:=heap_setCell_same _ g 7 _ _ v7 h6;exact⟨h7,Aj (Aj (Aj (Aj (Aj (Aj (Aj (Ad _ _ _ _) (Ad _ _ _ _)) (Ad _ _ _ _)) (Ad _ _ _ _)) (Ad _ _ _ _)) (Ad _ _ _ _)) (Ad _ _ _ _)) (Ad _ _ _ _)⟩
def Z7n (w:World)(b:Nat)(a:Option Addr)(n cap:Nat)(bs:List Nat)(p:Nat)(e:Ending)(w':World):Prop:=
 (Fo (bs.drop p)=none/\e=Z1f/\∃q,ZT w b (.slice a n cap) q w')\/ (∃(x:Ev) (q:Nat),Fo (bs.drop p)=some (x.e,bs.drop q)/\p+37<=q/\q<=n/\e=.returned x.val/\EvIn w' x/\(∀W,ZRow W b a n cap bs->PkIn W x.pa x.pc x.e.pk)/\(∀g o,x.fa=some ⟨g,o,none⟩->x.e.f.bytes≠ []->w.heap.size<=g)/\ZT w b (.slice a n cap) q w')
theorem CS (b p n cap:Nat)(a:Option Addr)(bs:List Nat)(w:World)(hI:w.heap[b]? =some (.cells #[.slice a n cap,.int .i64 (p:Int)] 121 (0,0)))(hp:p<=n)(hR:ZRow w b a n cap bs):
 Calls Tryz.prog 109 #[.pointer (some ⟨b,0,none⟩)] w fun e w'=>Z7n w b a n cap bs p e w':=by
 have hb:b<w.heap.size:=(VG.1 hI).1;have hval:=hR.val;have hlen:=hR.len;have hfew:=hR.few;have HR:=Ab hR
 have HE:Hid (EW w b (.slice a n cap) p ez ((w.alloc (.cells ez 76)).alloc (.cells ez 76))):=Ab (by
  have hB:Below w.heap.size w ((w.alloc (.cells ez 76)).alloc (.cells ez 76)):=((Below.refl _ _).alloc (VC _) _).alloc (by simp) _;refine⟨⟨(hB.block b hb).trans hI,hB.mono (by omega),fun g _ hg=>hB.block g hg⟩, ?_, ?_⟩
  . have:=heap_alloc_new (w.alloc (.cells ez 76)) (.cells ez 76)
    simpa using this
  . exact(Below.heap_alloc _ _ _ (by simp)).trans (heap_alloc_new w _))
 clear hI hR;go_enter Tryz.func109,Tryz.ntmps109
 obtain⟨x1,hx1⟩:∃y,(bs.drop p).take 4=y:=⟨_,rfl⟩
 obtain⟨p1,hp1⟩:∃y,p+4=y:=⟨_,rfl⟩
 have HC:=Ab (Ds b p 4 n cap a bs _ (Aa HE).z.is (by omega) ((Aa HR).after (Aa HE).z) (by omega));rw[hx1,hp1]at HC;have HG:Hid ((p1<=n->Du 4 (bs.drop p)=some (x1,bs.drop p1))/\(n<p1->Du 4 (bs.drop p)=none)):=Ab ⟨fun h=>by rw[<-hx1];exact Dp hlen hp1 h,fun h=>Bu hlen hp1 (by omega) h⟩;have HLX:Hid (p1<=n->x1.length=4):=Ab (fun h=>by rw[<-hx1,VL,VO,hlen];omega);have HVX:Hid (∀y∈x1,y<256):=Ab (fun y hy=>by rw[<-hx1]at hy;exact hval y (WB (VS hy)));have HQ1:=Ab hp1;clear hx1 hp1;go_wp2_with fail
 refine(Aa HC).mono ?_;rintro e w1 (⟨h1,rfl,hT⟩|⟨h1,⟨sa1,sc1,rfl,hc1,hP1⟩,hT⟩)
 . have HT:=Ab ((Aa HE).z.trans hT)
   have HN:Hid (Fo (bs.drop p)=none):=Ab (by
    have gn:=(Aa HG).2 h1;unfold Fo;rw[gn];rfl)
   clear hT HE HC HG HLX HVX;go_wp2;exact⟨rfl,.inl ⟨Aa HN,rfl,_,Aa HT⟩⟩
 have G1:=Ab ((Aa HG).1 h1);have HE2:=Ab ((Aa HE).call hb hT);clear hP1;clear hT HE HC HG HLX HVX;have HE:=HE2;clear HE2;obtain⟨x2,hx2⟩:∃y,(bs.drop p1).take 2=y:=⟨_,rfl⟩
 obtain⟨p2,hp2⟩:∃y,p1+2=y:=⟨_,rfl⟩
 have bmt:=Ex hval p1 2;obtain⟨mt,hmt⟩:∃y,Ai x2=y:=⟨_,rfl⟩
 rw[hx2,hmt]at bmt;simp only[Nat.reducePow]at bmt;have HC:=Ab (Et b p1 2 n cap a bs _ (Aa HE).z.is (by omega) ((Aa HR).after (Aa HE).z) (by decide));rw[hx2,hp2,hmt]at HC;have HBmt:=Ab hmt;clear hmt;have HG:Hid ((p2<=n->Du 2 (bs.drop p1)=some (x2,bs.drop p2))/\(n<p2->Du 2 (bs.drop p1)=none)):=Ab ⟨fun h=>by rw[<-hx2];exact Dp hlen hp2 h,fun h=>Bu hlen hp2 (by omega) h⟩;have HLX:Hid (p2<=n->x2.length=2):=Ab (fun h=>by rw[<-hx2,VL,VO,hlen];omega);have HVX:Hid (∀y∈x2,y<256):=Ab (fun y hy=>by rw[<-hx2]at hy;exact hval y (WB (VS hy)));have HQ2:=Ab hp2;clear hx2 hp2;go_wp2_with fail
 refine(Aa HC).mono ?_;rintro e w2 (⟨h2,rfl,hT⟩|⟨h2,rfl,hT⟩)
 . have HT:=Ab ((Aa HE).z.trans hT)
   have HN:Hid (Fo (bs.drop p)=none):=Ab (by
    have g1:=Aa G1;have gn:=(Aa HG).2 h2;unfold Fo;rw[g1,VF];dsimp only;rw[gn];rfl)
   clear hT HE HC HG HLX HVX;go_wp2;exact⟨rfl,.inl ⟨Aa HN,rfl,_,Aa HT⟩⟩
 have G2:=Ab ((Aa HG).1 h2);have HE2:=Ab ((Aa HE).call hb hT);clear hT HE HC HG HLX HVX;have HE:=HE2;clear HE2;have z5:=((Aa HE).cell 5).1;have y5:=((Aa HE).cell 5).2;simp only[WM,WH,WT]at z5;have HE2:=Ab ((Aa HE).set hb 5 (.int .u32 (mt:Int)) (ec (.string ⟨#[]⟩) (.slice none 0 0) (.int .i64 0) (.int .i64 0) (.bool false) (.int .u32 (mt:Int)) (.slice none 0 0) (.int .u32 0)) rfl);clear HE;have HE:=HE2;clear HE2;obtain⟨x3,hx3⟩:∃y,(bs.drop p2).take 4=y:=⟨_,rfl⟩
 obtain⟨p3,hp3⟩:∃y,p2+4=y:=⟨_,rfl⟩
 have HC:=Ab (Ds b p2 4 n cap a bs _ (Aa HE).z.is (by omega) ((Aa HR).after (Aa HE).z) (by omega));rw[hx3,hp3]at HC;have HG:Hid ((p3<=n->Du 4 (bs.drop p2)=some (x3,bs.drop p3))/\(n<p3->Du 4 (bs.drop p2)=none)):=Ab ⟨fun h=>by rw[<-hx3];exact Dp hlen hp3 h,fun h=>Bu hlen hp3 (by omega) h⟩;have HLX:Hid (p3<=n->x3.length=4):=Ab (fun h=>by rw[<-hx3,VL,VO,hlen];omega);have HVX:Hid (∀y∈x3,y<256):=Ab (fun y hy=>by rw[<-hx3]at hy;exact hval y (WB (VS hy)));have HQ3:=Ab hp3;clear hx3 hp3;go_wp2_with fail
 refine(Aa HC).mono ?_;rintro e w3 (⟨h3,rfl,hT⟩|⟨h3,⟨sa3,sc3,rfl,hc3,hP3⟩,hT⟩)
 . have HT:=Ab ((Aa HE).z.trans hT)
   have HN:Hid (Fo (bs.drop p)=none):=Ab (by
    have g1:=Aa G1;have g2:=Aa G2;have gn:=(Aa HG).2 h3;unfold Fo;rw[g1,VF];dsimp only;rw[g2,VF];dsimp only;rw[gn];rfl)
   clear hT HE HC HG HLX HVX;go_wp2;exact⟨rfl,.inl ⟨Aa HN,rfl,_,Aa HT⟩⟩
 have G3:=Ab ((Aa HG).1 h3);have HE2:=Ab ((Aa HE).call hb hT);clear hP3;clear hT HE HC HG HLX HVX;have HE:=HE2;clear HE2;obtain⟨x4,hx4⟩:∃y,(bs.drop p3).take 4=y:=⟨_,rfl⟩
 obtain⟨p4,hp4⟩:∃y,p3+4=y:=⟨_,rfl⟩
 have bcr:=Ex hval p3 4;obtain⟨cr,hcr⟩:∃y,Ai x4=y:=⟨_,rfl⟩
 rw[hx4,hcr]at bcr;simp only[Nat.reducePow]at bcr;have HC:=Ab (Et b p3 4 n cap a bs _ (Aa HE).z.is (by omega) ((Aa HR).after (Aa HE).z) (by decide));rw[hx4,hp4,hcr]at HC;have HBcr:=Ab hcr;clear hcr;have HG:Hid ((p4<=n->Du 4 (bs.drop p3)=some (x4,bs.drop p4))/\(n<p4->Du 4 (bs.drop p3)=none)):=Ab ⟨fun h=>by rw[<-hx4];exact Dp hlen hp4 h,fun h=>Bu hlen hp4 (by omega) h⟩;have HLX:Hid (p4<=n->x4.length=4):=Ab (fun h=>by rw[<-hx4,VL,VO,hlen];omega);have HVX:Hid (∀y∈x4,y<256):=Ab (fun y hy=>by rw[<-hx4]at hy;exact hval y (WB (VS hy)));have HQ4:=Ab hp4;clear hx4 hp4;go_wp2_with fail
 refine(Aa HC).mono ?_;rintro e w4 (⟨h4,rfl,hT⟩|⟨h4,rfl,hT⟩)
 . have HT:=Ab ((Aa HE).z.trans hT)
   have HN:Hid (Fo (bs.drop p)=none):=Ab (by
    have g1:=Aa G1;have g2:=Aa G2;have g3:=Aa G3;have gn:=(Aa HG).2 h4;unfold Fo;rw[g1,VF];dsimp only;rw[g2,VF];dsimp only;rw[g3,VF];dsimp only;rw[gn];rfl)
   clear hT HE HC HG HLX HVX;go_wp2;exact⟨rfl,.inl ⟨Aa HN,rfl,_,Aa HT⟩⟩
 have G4:=Ab ((Aa HG).1 h4);have HE2:=Ab ((Aa HE).call hb hT);clear hT HE HC HG HLX HVX;have HE:=HE2;clear HE2;have z7:=((Aa HE).cell 7).1;have y7:=((Aa HE).cell 7).2;simp only[WM,WH,WT]at z7;have HE2:=Ab ((Aa HE).set hb 7 (.int .u32 (cr:Int)) (ec (.string ⟨#[]⟩) (.slice none 0 0) (.int .i64 0) (.int .i64 0) (.bool false) (.int .u32 (mt:Int)) (.slice none 0 0) (.int .u32 (cr:Int))) rfl);clear HE;have HE:=HE2;clear HE2;obtain⟨x5,hx5⟩:∃y,(bs.drop p4).take 4=y:=⟨_,rfl⟩
 obtain⟨p5,hp5⟩:∃y,p4+4=y:=⟨_,rfl⟩
 have bpl:=Ex hval p4 4;obtain⟨pl,hpl⟩:∃y,Ai x5=y:=⟨_,rfl⟩
 rw[hx5,hpl]at bpl;simp only[Nat.reducePow]at bpl;have HC:=Ab (Et b p4 4 n cap a bs _ (Aa HE).z.is (by omega) ((Aa HR).after (Aa HE).z) (by decide));rw[hx5,hp5,hpl]at HC;have HBpl:=Ab hpl;clear hpl;have HG:Hid ((p5<=n->Du 4 (bs.drop p4)=some (x5,bs.drop p5))/\(n<p5->Du 4 (bs.drop p4)=none)):=Ab ⟨fun h=>by rw[<-hx5];exact Dp hlen hp5 h,fun h=>Bu hlen hp5 (by omega) h⟩;have HLX:Hid (p5<=n->x5.length=4):=Ab (fun h=>by rw[<-hx5,VL,VO,hlen];omega);have HVX:Hid (∀y∈x5,y<256):=Ab (fun y hy=>by rw[<-hx5]at hy;exact hval y (WB (VS hy)));have HQ5:=Ab hp5;clear hx5 hp5;go_wp2_with fail
 refine(Aa HC).mono ?_;rintro e w5 (⟨h5,rfl,hT⟩|⟨h5,rfl,hT⟩)
 . have HT:=Ab ((Aa HE).z.trans hT)
   have HN:Hid (Fo (bs.drop p)=none):=Ab (by
    have g1:=Aa G1;have g2:=Aa G2;have g3:=Aa G3;have g4:=Aa G4;have gn:=(Aa HG).2 h5;unfold Fo;rw[g1,VF];dsimp only;rw[g2,VF];dsimp only;rw[g3,VF];dsimp only;rw[g4,VF];dsimp only;rw[gn];rfl)
   clear hT HE HC HG HLX HVX;go_wp2;exact⟨rfl,.inl ⟨Aa HN,rfl,_,Aa HT⟩⟩
 have G5:=Ab ((Aa HG).1 h5);have HE2:=Ab ((Aa HE).call hb hT);clear hT HE HC HG HLX HVX;have HE:=HE2;clear HE2;obtain⟨x6,hx6⟩:∃y,(bs.drop p5).take 4=y:=⟨_,rfl⟩
 obtain⟨p6,hp6⟩:∃y,p5+4=y:=⟨_,rfl⟩
 have HC:=Ab (Ds b p5 4 n cap a bs _ (Aa HE).z.is (by omega) ((Aa HR).after (Aa HE).z) (by omega));rw[hx6,hp6]at HC;have HG:Hid ((p6<=n->Du 4 (bs.drop p5)=some (x6,bs.drop p6))/\(n<p6->Du 4 (bs.drop p5)=none)):=Ab ⟨fun h=>by rw[<-hx6];exact Dp hlen hp6 h,fun h=>Bu hlen hp6 (by omega) h⟩;have HLX:Hid (p6<=n->x6.length=4):=Ab (fun h=>by rw[<-hx6,VL,VO,hlen];omega);have HVX:Hid (∀y∈x6,y<256):=Ab (fun y hy=>by rw[<-hx6]at hy;exact hval y (WB (VS hy)));have HQ6:=Ab hp6;clear hx6 hp6;go_wp2_with fail
 refine(Aa HC).mono ?_;rintro e w6 (⟨h6,rfl,hT⟩|⟨h6,⟨sa6,sc6,rfl,hc6,hP6⟩,hT⟩)
 . have HT:=Ab ((Aa HE).z.trans hT)
   have HN:Hid (Fo (bs.drop p)=none):=Ab (by
    have g1:=Aa G1;have g2:=Aa G2;have g3:=Aa G3;have g4:=Aa G4;have g5:=Aa G5;have gn:=(Aa HG).2 h6;unfold Fo;rw[g1,VF];dsimp only;rw[g2,VF];dsimp only;rw[g3,VF];dsimp only;rw[g4,VF];dsimp only;rw[g5,VF];dsimp only;rw[gn];rfl)
   clear hT HE HC HG HLX HVX;go_wp2;exact⟨rfl,.inl ⟨Aa HN,rfl,_,Aa HT⟩⟩
 have G6:=Ab ((Aa HG).1 h6);have HE2:=Ab ((Aa HE).call hb hT);clear hP6;clear hT HE HC HG HLX HVX;have HE:=HE2;clear HE2;obtain⟨x7,hx7⟩:∃y,(bs.drop p6).take 2=y:=⟨_,rfl⟩
 obtain⟨p7,hp7⟩:∃y,p6+2=y:=⟨_,rfl⟩
 have bnl:=Ex hval p6 2;obtain⟨nl,hnl⟩:∃y,Ai x7=y:=⟨_,rfl⟩
 rw[hx7,hnl]at bnl;simp only[Nat.reducePow]at bnl;have HC:=Ab (Et b p6 2 n cap a bs _ (Aa HE).z.is (by omega) ((Aa HR).after (Aa HE).z) (by decide));rw[hx7,hp7,hnl]at HC;have HBnl:=Ab hnl;clear hnl;have HG:Hid ((p7<=n->Du 2 (bs.drop p6)=some (x7,bs.drop p7))/\(n<p7->Du 2 (bs.drop p6)=none)):=Ab ⟨fun h=>by rw[<-hx7];exact Dp hlen hp7 h,fun h=>Bu hlen hp7 (by omega) h⟩;have HLX:Hid (p7<=n->x7.length=2):=Ab (fun h=>by rw[<-hx7,VL,VO,hlen];omega);have HVX:Hid (∀y∈x7,y<256):=Ab (fun y hy=>by rw[<-hx7]at hy;exact hval y (WB (VS hy)));have HQ7:=Ab hp7;clear hx7 hp7;go_wp2_with fail
 refine(Aa HC).mono ?_;rintro e w7 (⟨h7,rfl,hT⟩|⟨h7,rfl,hT⟩)
 . have HT:=Ab ((Aa HE).z.trans hT)
   have HN:Hid (Fo (bs.drop p)=none):=Ab (by
    have g1:=Aa G1;have g2:=Aa G2;have g3:=Aa G3;have g4:=Aa G4;have g5:=Aa G5;have g6:=Aa G6;have gn:=(Aa HG).2 h7;unfold Fo;rw[g1,VF];dsimp only;rw[g2,VF];dsimp only;rw[g3,VF];dsimp only;rw[g4,VF];dsimp only;rw[g5,VF];dsimp only;rw[g6,VF];dsimp only;rw[gn];rfl)
   clear hT HE HC HG HLX HVX;go_wp2;exact⟨rfl,.inl ⟨Aa HN,rfl,_,Aa HT⟩⟩
 have G7:=Ab ((Aa HG).1 h7);have HE2:=Ab ((Aa HE).call hb hT);clear hT HE HC HG HLX HVX;have HE:=HE2;clear HE2;obtain⟨x8,hx8⟩:∃y,(bs.drop p7).take 2=y:=⟨_,rfl⟩
 obtain⟨p8,hp8⟩:∃y,p7+2=y:=⟨_,rfl⟩
 have HC:=Ab (Ds b p7 2 n cap a bs _ (Aa HE).z.is (by omega) ((Aa HR).after (Aa HE).z) (by omega));rw[hx8,hp8]at HC;have HG:Hid ((p8<=n->Du 2 (bs.drop p7)=some (x8,bs.drop p8))/\(n<p8->Du 2 (bs.drop p7)=none)):=Ab ⟨fun h=>by rw[<-hx8];exact Dp hlen hp8 h,fun h=>Bu hlen hp8 (by omega) h⟩;have HLX:Hid (p8<=n->x8.length=2):=Ab (fun h=>by rw[<-hx8,VL,VO,hlen];omega);have HVX:Hid (∀y∈x8,y<256):=Ab (fun y hy=>by rw[<-hx8]at hy;exact hval y (WB (VS hy)));have HQ8:=Ab hp8;clear hx8 hp8;go_wp2_with fail
 refine(Aa HC).mono ?_;rintro e w8 (⟨h8,rfl,hT⟩|⟨h8,⟨sa8,sc8,rfl,hc8,hP8⟩,hT⟩)
 . have HT:=Ab ((Aa HE).z.trans hT)
   have HN:Hid (Fo (bs.drop p)=none):=Ab (by
    have g1:=Aa G1;have g2:=Aa G2;have g3:=Aa G3;have g4:=Aa G4;have g5:=Aa G5;have g6:=Aa G6;have g7:=Aa G7;have gn:=(Aa HG).2 h8;unfold Fo;rw[g1,VF];dsimp only;rw[g2,VF];dsimp only;rw[g3,VF];dsimp only;rw[g4,VF];dsimp only;rw[g5,VF];dsimp only;rw[g6,VF];dsimp only;rw[g7,VF];dsimp only;rw[gn];rfl)
   clear hT HE HC HG HLX HVX;go_wp2;exact⟨rfl,.inl ⟨Aa HN,rfl,_,Aa HT⟩⟩
 have G8:=Ab ((Aa HG).1 h8);have HE2:=Ab ((Aa HE).call hb hT);clear hP8;clear hT HE HC HG HLX HVX;have HE:=HE2;clear HE2;obtain⟨x9,hx9⟩:∃y,(bs.drop p8).take nl=y:=⟨_,rfl⟩
 obtain⟨p9,hp9⟩:∃y,p8+nl=y:=⟨_,rfl⟩
 have HC:=Ab (Ds b p8 nl n cap a bs _ (Aa HE).z.is (by omega) ((Aa HR).after (Aa HE).z) (by omega));rw[hx9,hp9]at HC;have HG:Hid ((p9<=n->Du nl (bs.drop p8)=some (x9,bs.drop p9))/\(n<p9->Du nl (bs.drop p8)=none)):=Ab ⟨fun h=>by rw[<-hx9];exact Dp hlen hp9 h,fun h=>Bu hlen hp9 (by omega) h⟩;have HLX:Hid (p9<=n->x9.length=nl):=Ab (fun h=>by rw[<-hx9,VL,VO,hlen];omega);have HVX:Hid (∀y∈x9,y<256):=Ab (fun y hy=>by rw[<-hx9]at hy;exact hval y (WB (VS hy)));have HQ9:=Ab hp9;clear hx9 hp9;go_wp2_with fail
 refine(Aa HC).mono ?_;rintro e w9 (⟨h9,rfl,hT⟩|⟨h9,⟨sa9,sc9,rfl,hc9,hP9⟩,hT⟩)
 . have HT:=Ab ((Aa HE).z.trans hT)
   have HN:Hid (Fo (bs.drop p)=none):=Ab (by
    have g1:=Aa G1;have g2:=Aa G2;have g3:=Aa G3;have g4:=Aa G4;have g5:=Aa G5;have g6:=Aa G6;have g7:=Aa G7;have g8:=Aa G8;have gn:=(Aa HG).2 h9;unfold Fo;rw[g1,VF];dsimp only;rw[g2,VF];dsimp only;rw[g3,VF];dsimp only;rw[g4,VF];dsimp only;rw[g5,VF];dsimp only;rw[g6,VF];dsimp only;rw[g7,VF];dsimp only;rw[show Ai x7=nl from Aa HBnl];rw[g8,VF];dsimp only;rw[gn];rfl)
   clear hT HE HC HG HLX HVX;go_wp2;exact⟨rfl,.inl ⟨Aa HN,rfl,_,Aa HT⟩⟩
 have G9:=Ab ((Aa HG).1 h9);have HE2:=Ab ((Aa HE).call hb hT);have HX9:=Ab (And.intro ((Aa HLX) h9) (Aa HVX));have HP9:=Ab hP9;clear hP9;clear hT HE HC HG HLX HVX;have HE:=HE2;clear HE2;have hconv:=Xr (Z55 (Aa HP9 w9 ((Aa HR).after (Aa HE).z)) (by rw[(Aa HX9).1];exact hc9) (Aa HX9).2);rw[Li,(Aa HX9).1]at hconv;obtain⟨nm,hnm⟩:∃nm,B (o8 x9)=nm:=⟨_,rfl⟩
 rw[hnm]at hconv;have HNM:=Ab hnm;clear hnm;have z0:=((Aa HE).cell 0).1;have y0:=((Aa HE).cell 0).2;simp only[WM,WH]at z0;have HE2:=Ab ((Aa HE).set hb 0 (.string nm) (ec (.string nm) (.slice none 0 0) (.int .i64 0) (.int .i64 0) (.bool false) (.int .u32 (mt:Int)) (.slice none 0 0) (.int .u32 (cr:Int))) rfl);clear HE;have HE:=HE2;clear HE2;obtain⟨x10,hx10⟩:∃y,(bs.drop p9).take 4=y:=⟨_,rfl⟩
 obtain⟨p10,hp10⟩:∃y,p9+4=y:=⟨_,rfl⟩
 have HC:=Ab (Ds b p9 4 n cap a bs _ (Aa HE).z.is (by omega) ((Aa HR).after (Aa HE).z) (by omega));rw[hx10,hp10]at HC;have HG:Hid ((p10<=n->Du 4 (bs.drop p9)=some (x10,bs.drop p10))/\(n<p10->Du 4 (bs.drop p9)=none)):=Ab ⟨fun h=>by rw[<-hx10];exact Dp hlen hp10 h,fun h=>Bu hlen hp10 (by omega) h⟩;have HLX:Hid (p10<=n->x10.length=4):=Ab (fun h=>by rw[<-hx10,VL,VO,hlen];omega);have HVX:Hid (∀y∈x10,y<256):=Ab (fun y hy=>by rw[<-hx10]at hy;exact hval y (WB (VS hy)));have HQ10:=Ab hp10;clear hx10 hp10;go_wp2_with fail
 refine(Aa HC).mono ?_;rintro e w10 (⟨h10,rfl,hT⟩|⟨h10,⟨sa10,sc10,rfl,hc10,hP10⟩,hT⟩)
 . have HT:=Ab ((Aa HE).z.trans hT)
   have HN:Hid (Fo (bs.drop p)=none):=Ab (by
    have g1:=Aa G1;have g2:=Aa G2;have g3:=Aa G3;have g4:=Aa G4;have g5:=Aa G5;have g6:=Aa G6;have g7:=Aa G7;have g8:=Aa G8;have g9:=Aa G9;have gn:=(Aa HG).2 h10;unfold Fo;rw[g1,VF];dsimp only;rw[g2,VF];dsimp only;rw[g3,VF];dsimp only;rw[g4,VF];dsimp only;rw[g5,VF];dsimp only;rw[g6,VF];dsimp only;rw[g7,VF];dsimp only;rw[show Ai x7=nl from Aa HBnl];rw[g8,VF];dsimp only;rw[g9,VF];dsimp only;rw[gn];rfl)
   clear hT HE HC HG HLX HVX;go_wp2;exact⟨rfl,.inl ⟨Aa HN,rfl,_,Aa HT⟩⟩
 have G10:=Ab ((Aa HG).1 h10);have HE2:=Ab ((Aa HE).call hb hT);clear hP10;clear hT HE HC HG HLX HVX;have HE:=HE2;clear HE2;obtain⟨x11,hx11⟩:∃y,(bs.drop p10).take 4=y:=⟨_,rfl⟩
 obtain⟨p11,hp11⟩:∃y,p10+4=y:=⟨_,rfl⟩
 have bst:=Ex hval p10 4;obtain⟨st,hst⟩:∃y,Ai x11=y:=⟨_,rfl⟩
 rw[hx11,hst]at bst;simp only[Nat.reducePow]at bst;have HC:=Ab (Et b p10 4 n cap a bs _ (Aa HE).z.is (by omega) ((Aa HR).after (Aa HE).z) (by decide));rw[hx11,hp11,hst]at HC;have HBst:=Ab hst;clear hst;have HG:Hid ((p11<=n->Du 4 (bs.drop p10)=some (x11,bs.drop p11))/\(n<p11->Du 4 (bs.drop p10)=none)):=Ab ⟨fun h=>by rw[<-hx11];exact Dp hlen hp11 h,fun h=>Bu hlen hp11 (by omega) h⟩;have HLX:Hid (p11<=n->x11.length=4):=Ab (fun h=>by rw[<-hx11,VL,VO,hlen];omega);have HVX:Hid (∀y∈x11,y<256):=Ab (fun y hy=>by rw[<-hx11]at hy;exact hval y (WB (VS hy)));have HQ11:=Ab hp11;clear hx11 hp11;go_wp2_with fail
 refine(Aa HC).mono ?_;rintro e w11 (⟨h11,rfl,hT⟩|⟨h11,rfl,hT⟩)
 . have HT:=Ab ((Aa HE).z.trans hT)
   have HN:Hid (Fo (bs.drop p)=none):=Ab (by
    have g1:=Aa G1;have g2:=Aa G2;have g3:=Aa G3;have g4:=Aa G4;have g5:=Aa G5;have g6:=Aa G6;have g7:=Aa G7;have g8:=Aa G8;have g9:=Aa G9;have g10:=Aa G10;have gn:=(Aa HG).2 h11;unfold Fo;rw[g1,VF];dsimp only;rw[g2,VF];dsimp only;rw[g3,VF];dsimp only;rw[g4,VF];dsimp only;rw[g5,VF];dsimp only;rw[g6,VF];dsimp only;rw[g7,VF];dsimp only;rw[show Ai x7=nl from Aa HBnl];rw[g8,VF];dsimp only;rw[g9,VF];dsimp only;rw[g10,VF];dsimp only;rw[gn];rfl)
   clear hT HE HC HG HLX HVX;go_wp2;exact⟨rfl,.inl ⟨Aa HN,rfl,_,Aa HT⟩⟩
 have G11:=Ab ((Aa HG).1 h11);have HE2:=Ab ((Aa HE).call hb hT);clear hT HE HC HG HLX HVX;have HE:=HE2;clear HE2
 have ws:IntKind.i64.wrap (st:Int)=(st:Int):=by
  simp[IntKind.wrap,IntKind.bits,IntKind.signed]
  omega
 have z2:=((Aa HE).cell 2).1;have y2:=((Aa HE).cell 2).2;simp only[WM,WH,WT]at z2;have HE2:=Ab ((Aa HE).set hb 2 (.int .i64 (st:Int)) (ec (.string nm) (.slice none 0 0) (.int .i64 (st:Int)) (.int .i64 0) (.bool false) (.int .u32 (mt:Int)) (.slice none 0 0) (.int .u32 (cr:Int))) rfl);clear HE;have HE:=HE2;clear HE2;obtain⟨x12,hx12⟩:∃y,(bs.drop p11).take 2=y:=⟨_,rfl⟩
 obtain⟨p12,hp12⟩:∃y,p11+2=y:=⟨_,rfl⟩
 have bnd:=Ex hval p11 2;obtain⟨nd,hnd⟩:∃y,Ai x12=y:=⟨_,rfl⟩
 rw[hx12,hnd]at bnd;simp only[Nat.reducePow]at bnd;have HC:=Ab (Et b p11 2 n cap a bs _ (Aa HE).z.is (by omega) ((Aa HR).after (Aa HE).z) (by decide));rw[hx12,hp12,hnd]at HC;have HBnd:=Ab hnd;clear hnd;have HG:Hid ((p12<=n->Du 2 (bs.drop p11)=some (x12,bs.drop p12))/\(n<p12->Du 2 (bs.drop p11)=none)):=Ab ⟨fun h=>by rw[<-hx12];exact Dp hlen hp12 h,fun h=>Bu hlen hp12 (by omega) h⟩;have HLX:Hid (p12<=n->x12.length=2):=Ab (fun h=>by rw[<-hx12,VL,VO,hlen];omega);have HVX:Hid (∀y∈x12,y<256):=Ab (fun y hy=>by rw[<-hx12]at hy;exact hval y (WB (VS hy)));have HQ12:=Ab hp12;clear hx12 hp12;go_wp2_with fail
 refine(Aa HC).mono ?_;rintro e w12 (⟨h12,rfl,hT⟩|⟨h12,rfl,hT⟩)
 . have HT:=Ab ((Aa HE).z.trans hT)
   have HN:Hid (Fo (bs.drop p)=none):=Ab (by
    have g1:=Aa G1;have g2:=Aa G2;have g3:=Aa G3;have g4:=Aa G4;have g5:=Aa G5;have g6:=Aa G6;have g7:=Aa G7;have g8:=Aa G8;have g9:=Aa G9;have g10:=Aa G10;have g11:=Aa G11;have gn:=(Aa HG).2 h12;unfold Fo;rw[g1,VF];dsimp only;rw[g2,VF];dsimp only;rw[g3,VF];dsimp only;rw[g4,VF];dsimp only;rw[g5,VF];dsimp only;rw[g6,VF];dsimp only;rw[g7,VF];dsimp only;rw[show Ai x7=nl from Aa HBnl];rw[g8,VF];dsimp only;rw[g9,VF];dsimp only;rw[g10,VF];dsimp only;rw[g11,VF];dsimp only;rw[gn];rfl)
   clear hT HE HC HG HLX HVX;go_wp2;exact⟨rfl,.inl ⟨Aa HN,rfl,_,Aa HT⟩⟩
 have G12:=Ab ((Aa HG).1 h12);have HE2:=Ab ((Aa HE).call hb hT);clear hT HE HC HG HLX HVX;have HE:=HE2;clear HE2
 have wn:IntKind.i64.wrap (nd:Int)=(nd:Int):=by
  simp[IntKind.wrap,IntKind.bits,IntKind.signed]
  omega
 have z3:=((Aa HE).cell 3).1;have y3:=((Aa HE).cell 3).2;simp only[WM,WH,WT]at z3;have HE2:=Ab ((Aa HE).set hb 3 (.int .i64 (nd:Int)) (ec (.string nm) (.slice none 0 0) (.int .i64 (st:Int)) (.int .i64 (nd:Int)) (.bool false) (.int .u32 (mt:Int)) (.slice none 0 0) (.int .u32 (cr:Int))) rfl);clear HE;have HE:=HE2;clear HE2;obtain⟨x13,hx13⟩:∃y,(bs.drop p12).take 1=y:=⟨_,rfl⟩
 obtain⟨p13,hp13⟩:∃y,p12+1=y:=⟨_,rfl⟩
 have bgn:=Ex hval p12 1;obtain⟨gn,hgn⟩:∃y,Ai x13=y:=⟨_,rfl⟩
 rw[hx13,hgn]at bgn;simp only[Nat.reducePow]at bgn;have HC:=Ab (Et b p12 1 n cap a bs _ (Aa HE).z.is (by omega) ((Aa HR).after (Aa HE).z) (by decide));rw[hx13,hp13,hgn]at HC;have HBgn:=Ab hgn;clear hgn;have HG:Hid ((p13<=n->Du 1 (bs.drop p12)=some (x13,bs.drop p13))/\(n<p13->Du 1 (bs.drop p12)=none)):=Ab ⟨fun h=>by rw[<-hx13];exact Dp hlen hp13 h,fun h=>Bu hlen hp13 (by omega) h⟩;have HLX:Hid (p13<=n->x13.length=1):=Ab (fun h=>by rw[<-hx13,VL,VO,hlen];omega);have HVX:Hid (∀y∈x13,y<256):=Ab (fun y hy=>by rw[<-hx13]at hy;exact hval y (WB (VS hy)));have HQ13:=Ab hp13;clear hx13 hp13;go_wp2_with fail
 refine(Aa HC).mono ?_;rintro e w13 (⟨h13,rfl,hT⟩|⟨h13,rfl,hT⟩)
 . have HT:=Ab ((Aa HE).z.trans hT)
   have HN:Hid (Fo (bs.drop p)=none):=Ab (by
    have g1:=Aa G1;have g2:=Aa G2;have g3:=Aa G3;have g4:=Aa G4;have g5:=Aa G5;have g6:=Aa G6;have g7:=Aa G7;have g8:=Aa G8;have g9:=Aa G9;have g10:=Aa G10;have g11:=Aa G11;have g12:=Aa G12;have gn:=(Aa HG).2 h13;unfold Fo;rw[g1,VF];dsimp only;rw[g2,VF];dsimp only;rw[g3,VF];dsimp only;rw[g4,VF];dsimp only;rw[g5,VF];dsimp only;rw[g6,VF];dsimp only;rw[g7,VF];dsimp only;rw[show Ai x7=nl from Aa HBnl];rw[g8,VF];dsimp only;rw[g9,VF];dsimp only;rw[g10,VF];dsimp only;rw[g11,VF];dsimp only;rw[g12,VF];dsimp only;rw[gn];rfl)
   clear hT HE HC HG HLX HVX;go_wp2;exact⟨rfl,.inl ⟨Aa HN,rfl,_,Aa HT⟩⟩
 have G13:=Ab ((Aa HG).1 h13);have HE2:=Ab ((Aa HE).call hb hT);clear hT HE HC HG HLX HVX;have HE:=HE2;clear HE2;obtain⟨gb,hgb⟩:∃gb,((gn:Int)==1)=gb:=⟨_,rfl⟩
 have HGB:=Ab hgb;have z4:=((Aa HE).cell 4).1;have y4:=((Aa HE).cell 4).2;simp only[WM,WH,WT]at z4;have HE2:=Ab ((Aa HE).set hb 4 (.bool gb) (ec (.string nm) (.slice none 0 0) (.int .i64 (st:Int)) (.int .i64 (nd:Int)) (.bool gb) (.int .u32 (mt:Int)) (.slice none 0 0) (.int .u32 (cr:Int))) rfl);clear HE;have HE:=HE2;clear HE2;obtain⟨x14,hx14⟩:∃y,(bs.drop p13).take pl=y:=⟨_,rfl⟩
 obtain⟨p14,hp14⟩:∃y,p13+pl=y:=⟨_,rfl⟩
 have HC:=Ab (Ds b p13 pl n cap a bs _ (Aa HE).z.is (by omega) ((Aa HR).after (Aa HE).z) (by omega));rw[hx14,hp14]at HC;have HG:Hid ((p14<=n->Du pl (bs.drop p13)=some (x14,bs.drop p14))/\(n<p14->Du pl (bs.drop p13)=none)):=Ab ⟨fun h=>by rw[<-hx14];exact Dp hlen hp14 h,fun h=>Bu hlen hp14 (by omega) h⟩;have HLX:Hid (p14<=n->x14.length=pl):=Ab (fun h=>by rw[<-hx14,VL,VO,hlen];omega);have HVX:Hid (∀y∈x14,y<256):=Ab (fun y hy=>by rw[<-hx14]at hy;exact hval y (WB (VS hy)));have HQ14:=Ab hp14;clear hx14 hp14;go_wp2_with fail
 refine(Aa HC).mono ?_;rintro e w14 (⟨h14,rfl,hT⟩|⟨h14,⟨sa14,sc14,rfl,hc14,hP14⟩,hT⟩)
 . have HT:=Ab ((Aa HE).z.trans hT)
   have HN:Hid (Fo (bs.drop p)=none):=Ab (by
    have g1:=Aa G1;have g2:=Aa G2;have g3:=Aa G3;have g4:=Aa G4;have g5:=Aa G5;have g6:=Aa G6;have g7:=Aa G7;have g8:=Aa G8;have g9:=Aa G9;have g10:=Aa G10;have g11:=Aa G11;have g12:=Aa G12;have g13:=Aa G13;have gn:=(Aa HG).2 h14;unfold Fo;rw[g1,VF];dsimp only;rw[g2,VF];dsimp only;rw[g3,VF];dsimp only;rw[g4,VF];dsimp only;rw[g5,VF];dsimp only;rw[show Ai x5=pl from Aa HBpl];rw[g6,VF];dsimp only;rw[g7,VF];dsimp only;rw[show Ai x7=nl from Aa HBnl];rw[g8,VF];dsimp only;rw[g9,VF];dsimp only;rw[g10,VF];dsimp only;rw[g11,VF];dsimp only;rw[g12,VF];dsimp only;rw[g13,VF];dsimp only;rw[gn];rfl)
   clear hT HE HC HG HLX HVX;go_wp2;exact⟨rfl,.inl ⟨Aa HN,rfl,_,Aa HT⟩⟩
 have G14:=Ab ((Aa HG).1 h14);have HE2:=Ab ((Aa HE).call hb hT);have HX14:=Ab (And.intro ((Aa HLX) h14) (Aa HVX));have HP14:=Ab hP14;clear hP14;clear hT HE HC HG HLX HVX;have HE:=HE2;clear HE2;have z6:=((Aa HE).cell 6).1;have y6:=((Aa HE).cell 6).2;simp only[WM,WH,WT]at z6;have HE2:=Ab ((Aa HE).set hb 6 (.slice sa14 pl sc14) (ec (.string nm) (.slice none 0 0) (.int .i64 (st:Int)) (.int .i64 (nd:Int)) (.bool gb) (.int .u32 (mt:Int)) (.slice sa14 pl sc14) (.int .u32 (cr:Int))) rfl);clear HE;have HE:=HE2;clear HE2;have HC:=Ab (Yu mt pl sc14 sa14 x14 _ (Aa HX14).1 (by have:=Aa HQ14;omega) (Aa HP14 _ ((Aa HR).after (Aa HE).z)) (Aa HX14).2);have z5:=((Aa HE).cell 5).1;have z6:=((Aa HE).cell 6).1;simp only[WM,WH,WT]at z5 z6;clear hgb;go_wp2_with fail
 refine(Aa HC).mono ?_;rintro e w15 ⟨hB,(⟨hu,ua,ul,uc,rfl⟩|⟨ys,hu,hyb,hyv,ua,uc,rfl,huc,hUP,hug⟩)⟩
 . have HT:=Ab ((Aa HE).later hb hB).z
   have HN:Hid (Fo (bs.drop p)=none):=Ab (by
    have g1:=Aa G1;have g2:=Aa G2;have g3:=Aa G3;have g4:=Aa G4;have g5:=Aa G5;have g6:=Aa G6;have g7:=Aa G7;have g8:=Aa G8;have g9:=Aa G9;have g10:=Aa G10;have g11:=Aa G11;have g12:=Aa G12;have g13:=Aa G13;have g14:=Aa G14;unfold Fo;rw[g1,VF];dsimp only;rw[g2,VF];dsimp only;rw[g3,VF];dsimp only;rw[g4,VF];dsimp only;rw[g5,VF];dsimp only;rw[show Ai x5=pl from Aa HBpl];rw[g6,VF];dsimp only;rw[g7,VF];dsimp only;rw[show Ai x7=nl from Aa HBnl];rw[g8,VF];dsimp only;rw[g9,VF];dsimp only;rw[g10,VF];dsimp only;rw[g11,VF];dsimp only;rw[g12,VF];dsimp only;rw[g13,VF];dsimp only;rw[g14,VF];dsimp only;rw[show Ai x2=mt from Aa HBmt,hu];rfl)
   clear hB hu HE HC z5 z6;go_wp2;exact⟨rfl,.inl ⟨Aa HN,rfl,_,Aa HT⟩⟩
 have HN:Hid (Fo (bs.drop p)=some (⟨⟨o8 x9,o8 ys,(st:Int),(nd:Int),gb⟩,mt,x14,cr⟩,bs.drop p14)):=Ab (by
  have g1:=Aa G1;have g2:=Aa G2;have g3:=Aa G3;have g4:=Aa G4;have g5:=Aa G5;have g6:=Aa G6;have g7:=Aa G7;have g8:=Aa G8;have g9:=Aa G9;have g10:=Aa G10;have g11:=Aa G11;have g12:=Aa G12;have g13:=Aa G13;have g14:=Aa G14;unfold Fo;rw[g1,VF];dsimp only;rw[g2,VF];dsimp only;rw[g3,VF];dsimp only;rw[g4,VF];dsimp only;rw[g5,VF];dsimp only;rw[show Ai x5=pl from Aa HBpl];rw[g6,VF];dsimp only;rw[g7,VF];dsimp only;rw[show Ai x7=nl from Aa HBnl];rw[g8,VF];dsimp only;rw[g9,VF];dsimp only;rw[g10,VF];dsimp only;rw[g11,VF];dsimp only;rw[g12,VF];dsimp only;rw[g13,VF];dsimp only;rw[g14,VF];dsimp only;rw[show Ai x2=mt from Aa HBmt,hu,VF];rw[show Ai x4=cr from Aa HBcr,show Ai x11=st from Aa HBst,show Ai x12=nd from Aa HBnd,show Ai x13=gn from Aa HBgn]
  have hgb:decide (gn=1)=gb:=by
   rw[<-Aa HGB,YK,decide_eq_true_iff,beq_iff_eq];omega
  rw[hgb])
 obtain⟨yl,hyl⟩:∃yl,ys.length=yl:=⟨_,rfl⟩
 rw[hyl]at huc ⊢;have hE:=(Aa HE).later hb hB;have q0:=(hE.cell 0).1;have q1:=(hE.cell 1).1;have q2:=(hE.cell 2).1;have q3:=(hE.cell 3).1;have q4:=(hE.cell 4).1;have q5:=(hE.cell 5).1;have q6:=(hE.cell 6).1;have q7:=(hE.cell 7).1;have f1:=(hE.cell 1).2;have r0:=Ac (i:=0) hE.r;have g0:=frozen_of_row w15 w.heap.size 0 _ _ hE.r;have r1:=Ac (i:=1) hE.r;have g1:=frozen_of_row w15 w.heap.size 1 _ _ hE.r;have r2:=Ac (i:=2) hE.r;have g2:=frozen_of_row w15 w.heap.size 2 _ _ hE.r;have r3:=Ac (i:=3) hE.r;have g3:=frozen_of_row w15 w.heap.size 3 _ _ hE.r;have r4:=Ac (i:=4) hE.r;have g4:=frozen_of_row w15 w.heap.size 4 _ _ hE.r;have r5:=Ac (i:=5) hE.r;have g5:=frozen_of_row w15 w.heap.size 5 _ _ hE.r;have r6:=Ac (i:=6) hE.r;have g6:=frozen_of_row w15 w.heap.size 6 _ _ hE.r;have r7:=Ac (i:=7) hE.r;have g7:=frozen_of_row w15 w.heap.size 7 _ _ hE.r;simp only[WM,WH,WT]at q0 r0 q1 r1 q2 r2 q3 r3 q4 r4 q5 r5 q6 r6 q7 r7;have hE2:=hE.set hb 1 (.slice ua yl uc) (ec (.string nm) (.slice ua yl uc) (.int .i64 (st:Int)) (.int .i64 (nd:Int)) (.bool gb) (.int .u32 (mt:Int)) (.slice sa14 pl sc14) (.int .u32 (cr:Int))) rfl;have k1:=Ad w15 (w.heap.size+1) 1 (.slice ua yl uc);obtain⟨p1',p2'⟩:=Z66 (w15.setCell ⟨w.heap.size+1,1,none⟩ (.slice ua yl uc)) w.heap.size 76 _ _ _ _ _ _ _ _ (.string nm) (.slice ua yl uc) (.int .i64 (st:Int)) (.int .i64 (nd:Int)) (.bool gb) (.int .u32 (mt:Int)) (.slice sa14 pl sc14) (.int .u32 (cr:Int)) hE2.r;have hsz:=(VG.1 (Aa HE).x).1
 have hZ:ZT w b (.slice a n cap) p14 (Mu (w15.setCell ⟨w.heap.size+1,1,none⟩ (.slice ua yl uc)) w.heap.size (.string nm) (.slice ua yl uc) (.int .i64 (st:Int)) (.int .i64 (nd:Int)) (.bool gb) (.int .u32 (mt:Int)) (.slice sa14 pl sc14) (.int .u32 (cr:Int))):=
  ⟨(p2'.block b (by have:=(VG.1 hE2.z.is).1;omega) (by simp;omega)).trans hE2.z.is,hE2.z.below.grown p2' (by have:=(VG.1 hE2.z.is).1;omega) (fun g e=>by cases e;omega),fun g h1 h2=>(p2'.block g (by have:=hE2.z.below.size;omega) (by simp;omega)).trans (hE2.z.keep g h1 h2)⟩
 have hUP2:=(hUP.grown k1 (fun g o e1 e2=>by have:=hug g o e1 e2;simp;omega)).grown p2' (fun g o e1 e2=>by have:=hug g o e1 e2;simp;omega);have HEV:Hid (EvIn (Mu (w15.setCell ⟨w.heap.size+1,1,none⟩ (.slice ua yl uc)) w.heap.size (.string nm) (.slice ua yl uc) (.int .i64 (st:Int)) (.int .i64 (nd:Int)) (.bool gb) (.int .u32 (mt:Int)) (.slice sa14 pl sc14) (.int .u32 (cr:Int))) ⟨⟨⟨o8 x9,o8 ys,(st:Int),(nd:Int),gb⟩,mt,x14,cr⟩,ua,uc,sa14,sc14⟩):=Ab ⟨by dsimp only;rw[Z6g hyv];exact hUP2,by dsimp only;rw[Li,hyl];exact huc,by dsimp only;rw[Li];omega,by dsimp only;rw[Li,(Aa HX9).1];omega,Aa HP14 _ ((Aa HR).after hZ)⟩;have HUG:Hid (∀g o,ua=some ⟨g,o,none⟩->o8 ys≠ []->w.heap.size<=g):=Ab (fun g o e1 e2=>by have:=hug g o e1 (fun e=>e2 (by rw[e];rfl));omega);have HZ:=Ab hZ;have HP1:=Ab p1'
 have HPP:Hid (p+37<=p14):=Ab (by
  have:=Aa HQ1
  have:=Aa HQ2
  have:=Aa HQ3
  have:=Aa HQ4
  have:=Aa HQ5
  have:=Aa HQ6
  have:=Aa HQ7
  have:=Aa HQ8
  have:=Aa HQ9
  have:=Aa HQ10
  have:=Aa HQ11
  have:=Aa HQ12
  have:=Aa HQ13
  have:=Aa HQ14
  omega)
 have HYL:=Ab hyl;clear hB hE hE2 k1 p1' p2' hZ hUP hUP2 hug HE HC hu hyv z5 z6 hyl hyb;go_wp2;refine bodyPost_ret (v:=.agg #[.string nm,.slice ua yl uc,.int .i64 (st:Int),.int .i64 (nd:Int),.bool gb,.int .u32 (mt:Int),.slice sa14 pl sc14,.int .u32 (cr:Int)]) ?_ rfl (.inr ⟨⟨⟨⟨o8 x9,o8 ys,(st:Int),(nd:Int),gb⟩,mt,x14,cr⟩,ua,uc,sa14,sc14⟩,p14,Aa HN,Aa HPP,h14, ?_,Aa HEV,Aa HP14,Aa HUG,Aa HZ⟩)
 . exact results_cell_row rfl _ _ _ _ _ _ _ rfl (Aa HP1) Tryz.underlying76 rfl (by kernel_rfl)
 . unfold Ev.val;dsimp only;rw[Aa HNM,Li,Aa HYL,(Aa HX14).1]
end Go.Proofs.YtieianhejdcgdaaGreatDoor
