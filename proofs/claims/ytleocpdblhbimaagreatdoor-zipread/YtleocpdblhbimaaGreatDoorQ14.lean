import Derived.Test.YtleocpdblhbimaaGreatDoorQ13
import Derived.Laws.ResultCell
set_option linter.unusedSimpArgs false
set_option maxHeartbeats 8000000
namespace Go.Proofs.YtleocpdblhbimaaGreatDoor
open Go.RowKit
set_option linter.unusedVariables false
set_option maxRecDepth 100000
theorem Dt {bs:List Nat}{p k q n:Nat}(F:bs.length=n)(E:p+k=q)(G:q<=n):Dy k (bs.drop p)=some ((bs.drop p).take k,bs.drop q):=by
 unfold Dy;rw[if_neg (by rw[VQ];omega),YK,E]
theorem Cc {bs:List Nat}{p k q n:Nat}(F:bs.length=n)(H:p+k=q)(E:p<=n)(G:n<q):Dy k (bs.drop p)=none:=by
 unfold Dy;rw[if_pos (by rw[VQ];omega)]
abbrev ec (v0 v1 v2 v3 v4 v5 v6 v7:Value):Array Value:= #[v0,v1,v2,v3,v4,v5,v6,v7]
abbrev ez:Array Value:=ec (.string ⟨#[]⟩) (.slice none 0 0) (.int .i64 0) (.int .i64 0) (.bool false) (.int .u32 0) (.slice none 0 0) (.int .u32 0)
structure EW (w:World)(b:Nat)(R:Value)(p:Nat)(cs:Array Value)(wk:World):Prop where
 z:ZT w b R p wk
 x:wk.heap[w.heap.size+1]? =some (.cells cs 71 (0,0))
 r:wk.heap[w.heap.size]? =some (.cells ez 71 (0,0))
theorem EW.call {w H w':World}{b p q:Nat}{R:Value}{G:Array Value}(E:EW w b R p G H)(M:b<w.heap.size)(F:ZT H b R q w'):EW w b R q G w':=by
 have I:=(VK.1 E.x).1;exact⟨E.z.trans F,(F.keep _ (by omega) I).trans E.x,(F.keep _ (by omega) (by omega)).trans E.r⟩
theorem EW.set {w G:World}{b p:Nat}{R:Value}{H:Array Value}(E:EW w b R p H G)(U:b<w.heap.size)(i:Nat)(v:Value)(I:Array Value)(T:H.setIfInBounds i v=I):EW w b R p I (G.setCell ⟨w.heap.size+1,i,none⟩ v):=by
 have Y:=(VK.1 E.x).1;have F:=Ad G (w.heap.size+1) i v;refine⟨⟨(F.block b (by omega) (by simp;omega)).trans E.z.is,E.z.below.grown F (by omega) (fun g e=>by cases e;omega),fun g O M=>(F.block g (by omega) (by simp;omega)).trans (E.z.keep g O M)⟩, ?_,(F.block _ (by omega) (by simp)).trans E.r⟩;rw[heap_setCell_same G _ i _ _ _ E.x,T]
theorem EW.later {w G w':World}{b p:Nat}{R:Value}{H:Array Value}(E:EW w b R p H G)(T:b<w.heap.size)(F:Below G.heap.size G w'):EW w b R p H w':=by
 have O:=(VK.1 E.x).1;refine⟨⟨(F.block b (by omega)).trans E.z.is,E.z.below.trans (F.mono (by omega)),fun g M I=>(F.block g (by omega)).trans (E.z.keep g M I)⟩,(F.block _ O).trans E.x,(F.block _ (by omega)).trans E.r⟩
theorem EW.cell {w E:World}{b p:Nat}{R:Value}{F:Array Value}(G:EW w b R p F E)(i:Nat):E.cell? ⟨w.heap.size+1,i,none⟩=F[i]? /\E.frozen? ⟨w.heap.size+1,i,none⟩=false:=⟨Ac G.x,frozen_of_row E _ i _ _ G.x⟩
theorem Ex {bs:List Nat}(F:∀x∈bs,x<256)(p k:Nat):Ak ((bs.drop p).take k)<256^k:=by
 refine VG (Jx _ (fun x E=>F x (VW (VR E)))) (VO (by decide) ?_);rw[VL];exact ZP _ _
abbrev Ni (W:World)(g:Nat)(v0 v1 v2 v3 v4 v5 v6 v7:Value):World:=(((((((W.setCell ⟨g,0,none⟩ v0).setCell ⟨g,1,none⟩ v1).setCell ⟨g,2,none⟩ v2).setCell ⟨g,3,none⟩ v3).setCell ⟨g,4,none⟩ v4).setCell ⟨g,5,none⟩ v5).setCell ⟨g,6,none⟩ v6).setCell ⟨g,7,none⟩ v7
theorem Z7g (W:World)(E:Nat)(t:TypeId)(Z aa ah ae ac ag af am F T I M H G O U:Value)(h:W.heap[E]? =some (.cells #[Z,aa,ah,ae,ac,ag,af,am] t (0,0))):
 (Ni W E F T I M H G O U).heap[E]? =some (.cells #[F,T,I,M,H,G,O,U] t (0,0))/\W.grownBy (Ni W E F T I M H G O U) (some E):=by
 have Y:=heap_setCell_same W E 0 _ _ F h;have ai:=heap_setCell_same _ E 1 _ _ T Y;have al:=heap_setCell_same _ E 2 _ _ I ai;have aj:=heap_setCell_same _ E 3 _ _ M al;have an:=heap_setCell_same _ E 4 _ _ H aj;have ak:=heap_setCell_same _ E 5 _ _ G an;have ao:=heap_setCell_same _ E 6 _ _ O ak;have ab:=heap_setCell_same _ E 7 _ _ U ao;exact⟨ab,Aj (Aj (Aj (Aj (Aj (Aj (Aj (Ad _ _ _ _) (Ad _ _ _ _)) (Ad _ _ _ _)) (Ad _ _ _ _)) (Ad _ _ _ _)) (Ad _ _ _ _)) (Ad _ _ _ _)) (Ad _ _ _ _)⟩
def Z9m (w:World)(b:Nat)(a:Option Addr)(n cap:Nat)(bs:List Nat)(p:Nat)(e:Ending)(w':World):Prop:=
 (Fe (bs.drop p)=none/\e=Z31/\∃q,ZT w b (.slice a n cap) q w')\/ (∃(x:Ev) (q:Nat),Fe (bs.drop p)=some (x.e,bs.drop q)/\p+37<=q/\q<=n/\e=.returned x.val/\EvIn w' x/\(∀W,ZRow W b a n cap bs->PkIn W x.pa x.pc x.e.pk)/\(∀g o,x.fa=some ⟨g,o,none⟩->x.e.f.bytes≠ []->w.heap.size<=g)/\ZT w b (.slice a n cap) q w')
theorem EC (b p n af:Nat)(a:Option Addr)(bs:List Nat)(w:World)(ei:w.heap[b]? =some (.cells #[.slice a n af,.int .i64 (p:Int)] 116 (0,0)))(ic:p<=n)(c4:ZRow w b a n af bs)(e6:Z5u\/Ak ((bs.drop (p+4)).take 2)≠8):
 Calls Tryz.prog 101 #[.pointer (some ⟨b,0,none⟩)] w fun e w'=>Z9m w b a n af bs p e w':=by
 have hb:b<w.heap.size:=(VK.1 ei).1;have ae:=c4.val;have T:=c4.len;have ht:=c4.few;have ah:=Ab c4
 have E:Hid (EW w b (.slice a n af) p ez ((w.alloc (.cells ez 71)).alloc (.cells ez 71))):=Ab (by
  have bi:Below w.heap.size w ((w.alloc (.cells ez 71)).alloc (.cells ez 71)):=((Below.refl _ _).alloc (VB _) _).alloc (by simp) _;refine⟨⟨(bi.block b hb).trans ei,bi.mono (by omega),fun g _ fr=>bi.block g fr⟩, ?_, ?_⟩
  . have:=heap_alloc_new (w.alloc (.cells ez 71)) (.cells ez 71)
    simpa using this
  . exact(Below.heap_alloc _ _ _ (by simp)).trans (heap_alloc_new w _))
 have ek:=Ab e6;clear ei c4 e6;go_enter Tryz.func101,Tryz.ntmps101
 obtain⟨x1,cy⟩:=exq ((bs.drop p).take 4);obtain⟨a3,ci⟩:=exq (p+4);have G:=Ab (Dv b p 4 n af a bs _ (Aa E).z.is (by omega) ((Aa ah).after (Aa E).z) (by omega));rw[cy,ci]at G;have H:Hid ((a3<=n->Dy 4 (bs.drop p)=some (x1,bs.drop a3))/\(n<a3->Dy 4 (bs.drop p)=none)):=Ab ⟨fun h=>by rw[<-cy];exact Dt T ci h,fun h=>Cc T ci (by omega) h⟩;have O:Hid (a3<=n->x1.length=4):=Ab (fun h=>by rw[<-cy,VL,VQ,T];omega);have M:Hid (∀y∈x1,y<256):=Ab (fun y U=>by rw[<-cy]at U;exact ae y (VW (VR U)));have e9:=Ab ci;clear cy ci;go_wp2_with fail
 refine(Aa G).mono ?_;rintro e h3 (⟨b7,rfl,F⟩|⟨b7,⟨sa1,h7,rfl,ir,fu⟩,F⟩)
 . have Z:=Ab ((Aa E).z.trans F)
   have Y:Hid (Fe (bs.drop p)=none):=Ab (by
    have gn:=(Aa H).2 b7;unfold Fe;rw[gn];rfl)
   clear F E G H O M;go_wp2;exact⟨rfl,.inl ⟨Aa Y,rfl,_,Aa Z⟩⟩
 have aj:=Ab ((Aa H).1 b7);have I:=Ab ((Aa E).call hb F);clear fu;clear F E G H O M;have E:=I;clear I;obtain⟨x2,bm⟩:=exq ((bs.drop a3).take 2);obtain⟨bd,ch⟩:=exq (a3+2);have em:=Ex ae a3 2;obtain⟨mt,da⟩:=exq (Ak x2);have gj:Hid (Z5u\/mt≠8):=Ab (by rw[<-da,<-bm,<-Aa e9];exact Aa ek);clear ek;rw[bm,da]at em;simp only[Nat.reducePow]at em;have G:=Ab (Et b a3 2 n af a bs _ (Aa E).z.is (by omega) ((Aa ah).after (Aa E).z) (by decide));rw[bm,ch,da]at G;have e5:=Ab da;clear da;have H:Hid ((bd<=n->Dy 2 (bs.drop a3)=some (x2,bs.drop bd))/\(n<bd->Dy 2 (bs.drop a3)=none)):=Ab ⟨fun h=>by rw[<-bm];exact Dt T ch h,fun h=>Cc T ch (by omega) h⟩;have O:Hid (bd<=n->x2.length=2):=Ab (fun h=>by rw[<-bm,VL,VQ,T];omega);have M:Hid (∀y∈x2,y<256):=Ab (fun y U=>by rw[<-bm]at U;exact ae y (VW (VR U)));have gz:=Ab ch;clear bm ch;go_wp2_with fail
 refine(Aa G).mono ?_;rintro e im (⟨cu,rfl,F⟩|⟨cu,rfl,F⟩)
 . have Z:=Ab ((Aa E).z.trans F)
   have Y:Hid (Fe (bs.drop p)=none):=Ab (by
    have g1:=Aa aj;have gn:=(Aa H).2 cu;unfold Fe;rw[g1,VF];dsimp only;rw[gn];rfl)
   clear F E G H O M;go_wp2;exact⟨rfl,.inl ⟨Aa Y,rfl,_,Aa Z⟩⟩
 have ak:=Ab ((Aa H).1 cu);have I:=Ab ((Aa E).call hb F);clear F E G H O M;have E:=I;clear I;have db:=((Aa E).cell 5).1;have ip:=((Aa E).cell 5).2;simp only[VZ,VY,WI]at db;have I:=Ab ((Aa E).set hb 5 (.int .u32 (mt:Int)) (ec (.string ⟨#[]⟩) (.slice none 0 0) (.int .i64 0) (.int .i64 0) (.bool false) (.int .u32 (mt:Int)) (.slice none 0 0) (.int .u32 0)) rfl);clear E;have E:=I;clear I;obtain⟨x3,cv⟩:=exq ((bs.drop bd).take 4);obtain⟨aw,b9⟩:=exq (bd+4);have G:=Ab (Dv b bd 4 n af a bs _ (Aa E).z.is (by omega) ((Aa ah).after (Aa E).z) (by omega));rw[cv,b9]at G;have H:Hid ((aw<=n->Dy 4 (bs.drop bd)=some (x3,bs.drop aw))/\(n<aw->Dy 4 (bs.drop bd)=none)):=Ab ⟨fun h=>by rw[<-cv];exact Dt T b9 h,fun h=>Cc T b9 (by omega) h⟩;have O:Hid (aw<=n->x3.length=4):=Ab (fun h=>by rw[<-cv,VL,VQ,T];omega);have M:Hid (∀y∈x3,y<256):=Ab (fun y U=>by rw[<-cv]at U;exact ae y (VW (VR U)));have fe:=Ab b9;clear cv b9;go_wp2_with fail
 refine(Aa G).mono ?_;rintro e w3 (⟨d7,rfl,F⟩|⟨d7,⟨hv,iw,rfl,ie,g5⟩,F⟩)
 . have Z:=Ab ((Aa E).z.trans F)
   have Y:Hid (Fe (bs.drop p)=none):=Ab (by
    have g1:=Aa aj;have g2:=Aa ak;have gn:=(Aa H).2 d7;unfold Fe;rw[g1,VF];dsimp only;rw[g2,VF];dsimp only;rw[gn];rfl)
   clear F E G H O M;go_wp2;exact⟨rfl,.inl ⟨Aa Y,rfl,_,Aa Z⟩⟩
 have ap:=Ab ((Aa H).1 d7);have I:=Ab ((Aa E).call hb F);clear g5;clear F E G H O M;have E:=I;clear I;obtain⟨x4,b4⟩:=exq ((bs.drop aw).take 4);obtain⟨a2,cd⟩:=exq (aw+4);have e0:=Ex ae aw 4;obtain⟨cr,dg⟩:=exq (Ak x4);rw[b4,dg]at e0;simp only[Nat.reducePow]at e0;have G:=Ab (Et b aw 4 n af a bs _ (Aa E).z.is (by omega) ((Aa ah).after (Aa E).z) (by decide));rw[b4,cd,dg]at G;have fp:=Ab dg;clear dg;have H:Hid ((a2<=n->Dy 4 (bs.drop aw)=some (x4,bs.drop a2))/\(n<a2->Dy 4 (bs.drop aw)=none)):=Ab ⟨fun h=>by rw[<-b4];exact Dt T cd h,fun h=>Cc T cd (by omega) h⟩;have O:Hid (a2<=n->x4.length=4):=Ab (fun h=>by rw[<-b4,VL,VQ,T];omega);have M:Hid (∀y∈x4,y<256):=Ab (fun y U=>by rw[<-b4]at U;exact ae y (VW (VR U)));have hk:=Ab cd;clear b4 cd;go_wp2_with fail
 refine(Aa G).mono ?_;rintro e h1 (⟨ee,rfl,F⟩|⟨ee,rfl,F⟩)
 . have Z:=Ab ((Aa E).z.trans F)
   have Y:Hid (Fe (bs.drop p)=none):=Ab (by
    have g1:=Aa aj;have g2:=Aa ak;have g3:=Aa ap;have gn:=(Aa H).2 ee;unfold Fe;rw[g1,VF];dsimp only;rw[g2,VF];dsimp only;rw[g3,VF];dsimp only;rw[gn];rfl)
   clear F E G H O M;go_wp2;exact⟨rfl,.inl ⟨Aa Y,rfl,_,Aa Z⟩⟩
 have ar:=Ab ((Aa H).1 ee);have I:=Ab ((Aa E).call hb F);clear F E G H O M;have E:=I;clear I;have f7:=((Aa E).cell 7).1;have hq:=((Aa E).cell 7).2;simp only[VZ,VY,WI]at f7;have I:=Ab ((Aa E).set hb 7 (.int .u32 (cr:Int)) (ec (.string ⟨#[]⟩) (.slice none 0 0) (.int .i64 0) (.int .i64 0) (.bool false) (.int .u32 (mt:Int)) (.slice none 0 0) (.int .u32 (cr:Int))) rfl);clear E;have E:=I;clear I;obtain⟨bt,bv⟩:=exq ((bs.drop a2).take 4);obtain⟨bc,df⟩:=exq (a2+4);have e4:=Ex ae a2 4;obtain⟨pl,dl⟩:=exq (Ak bt);rw[bv,dl]at e4;simp only[Nat.reducePow]at e4;have G:=Ab (Et b a2 4 n af a bs _ (Aa E).z.is (by omega) ((Aa ah).after (Aa E).z) (by decide));rw[bv,df,dl]at G;have du:=Ab dl;clear dl;have H:Hid ((bc<=n->Dy 4 (bs.drop a2)=some (bt,bs.drop bc))/\(n<bc->Dy 4 (bs.drop a2)=none)):=Ab ⟨fun h=>by rw[<-bv];exact Dt T df h,fun h=>Cc T df (by omega) h⟩;have O:Hid (bc<=n->bt.length=4):=Ab (fun h=>by rw[<-bv,VL,VQ,T];omega);have M:Hid (∀y∈bt,y<256):=Ab (fun y U=>by rw[<-bv]at U;exact ae y (VW (VR U)));have fy:=Ab df;clear bv df;go_wp2_with fail
 refine(Aa G).mono ?_;rintro e h4 (⟨d4,rfl,F⟩|⟨d4,rfl,F⟩)
 . have Z:=Ab ((Aa E).z.trans F)
   have Y:Hid (Fe (bs.drop p)=none):=Ab (by
    have g1:=Aa aj;have g2:=Aa ak;have g3:=Aa ap;have ab:=Aa ar;have gn:=(Aa H).2 d4;unfold Fe;rw[g1,VF];dsimp only;rw[g2,VF];dsimp only;rw[g3,VF];dsimp only;rw[ab,VF];dsimp only;rw[gn];rfl)
   clear F E G H O M;go_wp2;exact⟨rfl,.inl ⟨Aa Y,rfl,_,Aa Z⟩⟩
 have av:=Ab ((Aa H).1 d4);have I:=Ab ((Aa E).call hb F);clear F E G H O M;have E:=I;clear I;obtain⟨dz,cg⟩:=exq ((bs.drop bc).take 4);obtain⟨a0,cq⟩:=exq (bc+4);have G:=Ab (Dv b bc 4 n af a bs _ (Aa E).z.is (by omega) ((Aa ah).after (Aa E).z) (by omega));rw[cg,cq]at G;have H:Hid ((a0<=n->Dy 4 (bs.drop bc)=some (dz,bs.drop a0))/\(n<a0->Dy 4 (bs.drop bc)=none)):=Ab ⟨fun h=>by rw[<-cg];exact Dt T cq h,fun h=>Cc T cq (by omega) h⟩;have O:Hid (a0<=n->dz.length=4):=Ab (fun h=>by rw[<-cg,VL,VQ,T];omega);have M:Hid (∀y∈dz,y<256):=Ab (fun y U=>by rw[<-cg]at U;exact ae y (VW (VR U)));have g9:=Ab cq;clear cg cq;go_wp2_with fail
 refine(Aa G).mono ?_;rintro e w6 (⟨eg,rfl,F⟩|⟨eg,⟨ik,hu,rfl,il,gv⟩,F⟩)
 . have Z:=Ab ((Aa E).z.trans F)
   have Y:Hid (Fe (bs.drop p)=none):=Ab (by
    have g1:=Aa aj;have g2:=Aa ak;have g3:=Aa ap;have ab:=Aa ar;have ac:=Aa av;have gn:=(Aa H).2 eg;unfold Fe;rw[g1,VF];dsimp only;rw[g2,VF];dsimp only;rw[g3,VF];dsimp only;rw[ab,VF];dsimp only;rw[ac,VF];dsimp only;rw[gn];rfl)
   clear F E G H O M;go_wp2;exact⟨rfl,.inl ⟨Aa Y,rfl,_,Aa Z⟩⟩
 have ax:=Ab ((Aa H).1 eg);have I:=Ab ((Aa E).call hb F);clear gv;clear F E G H O M;have E:=I;clear I;obtain⟨aq,b3⟩:=exq ((bs.drop a0).take 2);obtain⟨a9,c3⟩:=exq (a0+2);have ep:=Ex ae a0 2;obtain⟨am,dj⟩:=exq (Ak aq);rw[b3,dj]at ep;simp only[Nat.reducePow]at ep;have G:=Ab (Et b a0 2 n af a bs _ (Aa E).z.is (by omega) ((Aa ah).after (Aa E).z) (by decide));rw[b3,c3,dj]at G;have bh:=Ab dj;clear dj;have H:Hid ((a9<=n->Dy 2 (bs.drop a0)=some (aq,bs.drop a9))/\(n<a9->Dy 2 (bs.drop a0)=none)):=Ab ⟨fun h=>by rw[<-b3];exact Dt T c3 h,fun h=>Cc T c3 (by omega) h⟩;have O:Hid (a9<=n->aq.length=2):=Ab (fun h=>by rw[<-b3,VL,VQ,T];omega);have M:Hid (∀y∈aq,y<256):=Ab (fun y U=>by rw[<-b3]at U;exact ae y (VW (VR U)));have gw:=Ab c3;clear b3 c3;go_wp2_with fail
 refine(Aa G).mono ?_;rintro e id (⟨dy,rfl,F⟩|⟨dy,rfl,F⟩)
 . have Z:=Ab ((Aa E).z.trans F)
   have Y:Hid (Fe (bs.drop p)=none):=Ab (by
    have g1:=Aa aj;have g2:=Aa ak;have g3:=Aa ap;have ab:=Aa ar;have ac:=Aa av;have g6:=Aa ax;have gn:=(Aa H).2 dy;unfold Fe;rw[g1,VF];dsimp only;rw[g2,VF];dsimp only;rw[g3,VF];dsimp only;rw[ab,VF];dsimp only;rw[ac,VF];dsimp only;rw[g6,VF];dsimp only;rw[gn];rfl)
   clear F E G H O M;go_wp2;exact⟨rfl,.inl ⟨Aa Y,rfl,_,Aa Z⟩⟩
 have a7:=Ab ((Aa H).1 dy);have I:=Ab ((Aa E).call hb F);clear F E G H O M;have E:=I;clear I;obtain⟨d8,b8⟩:=exq ((bs.drop a9).take 2);obtain⟨be,cj⟩:=exq (a9+2);have G:=Ab (Dv b a9 2 n af a bs _ (Aa E).z.is (by omega) ((Aa ah).after (Aa E).z) (by omega));rw[b8,cj]at G;have H:Hid ((be<=n->Dy 2 (bs.drop a9)=some (d8,bs.drop be))/\(n<be->Dy 2 (bs.drop a9)=none)):=Ab ⟨fun h=>by rw[<-b8];exact Dt T cj h,fun h=>Cc T cj (by omega) h⟩;have O:Hid (be<=n->d8.length=2):=Ab (fun h=>by rw[<-b8,VL,VQ,T];omega);have M:Hid (∀y∈d8,y<256):=Ab (fun y U=>by rw[<-b8]at U;exact ae y (VW (VR U)));have f6:=Ab cj;clear b8 cj;go_wp2_with fail
 refine(Aa G).mono ?_;rintro e iq (⟨eb,rfl,F⟩|⟨eb,⟨hs,h8,rfl,ho,g4⟩,F⟩)
 . have Z:=Ab ((Aa E).z.trans F)
   have Y:Hid (Fe (bs.drop p)=none):=Ab (by
    have g1:=Aa aj;have g2:=Aa ak;have g3:=Aa ap;have ab:=Aa ar;have ac:=Aa av;have g6:=Aa ax;have ag:=Aa a7;have gn:=(Aa H).2 eb;unfold Fe;rw[g1,VF];dsimp only;rw[g2,VF];dsimp only;rw[g3,VF];dsimp only;rw[ab,VF];dsimp only;rw[ac,VF];dsimp only;rw[g6,VF];dsimp only;rw[ag,VF];dsimp only;rw[gn];rfl)
   clear F E G H O M;go_wp2;exact⟨rfl,.inl ⟨Aa Y,rfl,_,Aa Z⟩⟩
 have bj:=Ab ((Aa H).1 eb);have I:=Ab ((Aa E).call hb F);clear g4;clear F E G H O M;have E:=I;clear I;obtain⟨bo,c5⟩:=exq ((bs.drop be).take am);obtain⟨a8,ck⟩:=exq (be+am);have G:=Ab (Dv b be am n af a bs _ (Aa E).z.is (by omega) ((Aa ah).after (Aa E).z) (by omega));rw[c5,ck]at G;have H:Hid ((a8<=n->Dy am (bs.drop be)=some (bo,bs.drop a8))/\(n<a8->Dy am (bs.drop be)=none)):=Ab ⟨fun h=>by rw[<-c5];exact Dt T ck h,fun h=>Cc T ck (by omega) h⟩;have O:Hid (a8<=n->bo.length=am):=Ab (fun h=>by rw[<-c5,VL,VQ,T];omega);have M:Hid (∀y∈bo,y<256):=Ab (fun y U=>by rw[<-c5]at U;exact ae y (VW (VR U)));have hg:=Ab ck;clear c5 ck;go_wp2_with fail
 refine(Aa G).mono ?_;rintro e fj (⟨dn,rfl,F⟩|⟨dn,⟨ix,it,rfl,hh,e7⟩,F⟩)
 . have Z:=Ab ((Aa E).z.trans F)
   have Y:Hid (Fe (bs.drop p)=none):=Ab (by
    have g1:=Aa aj;have g2:=Aa ak;have g3:=Aa ap;have ab:=Aa ar;have ac:=Aa av;have g6:=Aa ax;have ag:=Aa a7;have ai:=Aa bj;have gn:=(Aa H).2 dn;unfold Fe;rw[g1,VF];dsimp only;rw[g2,VF];dsimp only;rw[g3,VF];dsimp only;rw[ab,VF];dsimp only;rw[ac,VF];dsimp only;rw[g6,VF];dsimp only;rw[ag,VF];dsimp only;rw[show Ak aq=am from Aa bh];rw[ai,VF];dsimp only;rw[gn];rfl)
   clear F E G H O M;go_wp2;exact⟨rfl,.inl ⟨Aa Y,rfl,_,Aa Z⟩⟩
 have bk:=Ab ((Aa H).1 dn);have I:=Ab ((Aa E).call hb F);have dh:=Ab (And.intro ((Aa O) dn) (Aa M));have fi:=Ab e7;clear e7;clear F E G H O M;have E:=I;clear I;have et:=Po (Z6e (Aa fi fj ((Aa ah).after (Aa E).z)) (by rw[(Aa dh).1];exact hh) (Aa dh).2);rw[Ey,(Aa dh).1]at et;obtain⟨nm,dv⟩:=exq (B (o8 bo));rw[dv]at et;have gu:=Ab dv;clear dv;have hd:=((Aa E).cell 0).1;have ii:=((Aa E).cell 0).2;simp only[VZ,VY]at hd;have I:=Ab ((Aa E).set hb 0 (.string nm) (ec (.string nm) (.slice none 0 0) (.int .i64 0) (.int .i64 0) (.bool false) (.int .u32 (mt:Int)) (.slice none 0 0) (.int .u32 (cr:Int))) rfl);clear E;have E:=I;clear I;obtain⟨d3,de⟩:=exq ((bs.drop a8).take 4);obtain⟨ay,cz⟩:=exq (a8+4);have G:=Ab (Dv b a8 4 n af a bs _ (Aa E).z.is (by omega) ((Aa ah).after (Aa E).z) (by omega));rw[de,cz]at G;have H:Hid ((ay<=n->Dy 4 (bs.drop a8)=some (d3,bs.drop ay))/\(n<ay->Dy 4 (bs.drop a8)=none)):=Ab ⟨fun h=>by rw[<-de];exact Dt T cz h,fun h=>Cc T cz (by omega) h⟩;have O:Hid (ay<=n->d3.length=4):=Ab (fun h=>by rw[<-de,VL,VQ,T];omega);have M:Hid (∀y∈d3,y<256):=Ab (fun y U=>by rw[<-de]at U;exact ae y (VW (VR U)));have gx:=Ab cz;clear de cz;go_wp2_with fail
 refine(Aa G).mono ?_;rintro e hx (⟨d1,rfl,F⟩|⟨d1,⟨ig,h5,rfl,h0,fg⟩,F⟩)
 . have Z:=Ab ((Aa E).z.trans F)
   have Y:Hid (Fe (bs.drop p)=none):=Ab (by
    have g1:=Aa aj;have g2:=Aa ak;have g3:=Aa ap;have ab:=Aa ar;have ac:=Aa av;have g6:=Aa ax;have ag:=Aa a7;have ai:=Aa bj;have an:=Aa bk;have gn:=(Aa H).2 d1;unfold Fe;rw[g1,VF];dsimp only;rw[g2,VF];dsimp only;rw[g3,VF];dsimp only;rw[ab,VF];dsimp only;rw[ac,VF];dsimp only;rw[g6,VF];dsimp only;rw[ag,VF];dsimp only;rw[show Ak aq=am from Aa bh];rw[ai,VF];dsimp only;rw[an,VF];dsimp only;rw[gn];rfl)
   clear F E G H O M;go_wp2;exact⟨rfl,.inl ⟨Aa Y,rfl,_,Aa Z⟩⟩
 have bu:=Ab ((Aa H).1 d1);have I:=Ab ((Aa E).call hb F);clear fg;clear F E G H O M;have E:=I;clear I;obtain⟨c9,b0⟩:=exq ((bs.drop ay).take 4);obtain⟨a4,cp⟩:=exq (ay+4);have bst:=Ex ae ay 4;obtain⟨st,dm⟩:=exq (Ak c9);rw[b0,dm]at bst;simp only[Nat.reducePow]at bst;have G:=Ab (Et b ay 4 n af a bs _ (Aa E).z.is (by omega) ((Aa ah).after (Aa E).z) (by decide));rw[b0,cp,dm]at G;have g8:=Ab dm;clear dm;have H:Hid ((a4<=n->Dy 4 (bs.drop ay)=some (c9,bs.drop a4))/\(n<a4->Dy 4 (bs.drop ay)=none)):=Ab ⟨fun h=>by rw[<-b0];exact Dt T cp h,fun h=>Cc T cp (by omega) h⟩;have O:Hid (a4<=n->c9.length=4):=Ab (fun h=>by rw[<-b0,VL,VQ,T];omega);have M:Hid (∀y∈c9,y<256):=Ab (fun y U=>by rw[<-b0]at U;exact ae y (VW (VR U)));have gg:=Ab cp;clear b0 cp;go_wp2_with fail
 refine(Aa G).mono ?_;rintro e hp (⟨ed,rfl,F⟩|⟨ed,rfl,F⟩)
 . have Z:=Ab ((Aa E).z.trans F)
   have Y:Hid (Fe (bs.drop p)=none):=Ab (by
    have g1:=Aa aj;have g2:=Aa ak;have g3:=Aa ap;have ab:=Aa ar;have ac:=Aa av;have g6:=Aa ax;have ag:=Aa a7;have ai:=Aa bj;have an:=Aa bk;have au:=Aa bu;have gn:=(Aa H).2 ed;unfold Fe;rw[g1,VF];dsimp only;rw[g2,VF];dsimp only;rw[g3,VF];dsimp only;rw[ab,VF];dsimp only;rw[ac,VF];dsimp only;rw[g6,VF];dsimp only;rw[ag,VF];dsimp only;rw[show Ak aq=am from Aa bh];rw[ai,VF];dsimp only;rw[an,VF];dsimp only;rw[au,VF];dsimp only;rw[gn];rfl)
   clear F E G H O M;go_wp2;exact⟨rfl,.inl ⟨Aa Y,rfl,_,Aa Z⟩⟩
 have cw:=Ab ((Aa H).1 ed);have I:=Ab ((Aa E).call hb F);clear F E G H O M;have E:=I;clear I
 have ws:IntKind.i64.wrap (st:Int)=(st:Int):=by
  simp[IntKind.wrap,IntKind.bits,IntKind.signed]
  omega
 have he:=((Aa E).cell 2).1;have y2:=((Aa E).cell 2).2;simp only[VZ,VY,WI]at he;have I:=Ab ((Aa E).set hb 2 (.int .i64 (st:Int)) (ec (.string nm) (.slice none 0 0) (.int .i64 (st:Int)) (.int .i64 0) (.bool false) (.int .u32 (mt:Int)) (.slice none 0 0) (.int .u32 (cr:Int))) rfl);clear E;have E:=I;clear I;obtain⟨cl,bw⟩:=exq ((bs.drop a4).take 2);obtain⟨a5,c6⟩:=exq (a4+2);have el:=Ex ae a4 2;obtain⟨nd,dr⟩:=exq (Ak cl);rw[bw,dr]at el;simp only[Nat.reducePow]at el;have G:=Ab (Et b a4 2 n af a bs _ (Aa E).z.is (by omega) ((Aa ah).after (Aa E).z) (by decide));rw[bw,c6,dr]at G;have ha:=Ab dr;clear dr;have H:Hid ((a5<=n->Dy 2 (bs.drop a4)=some (cl,bs.drop a5))/\(n<a5->Dy 2 (bs.drop a4)=none)):=Ab ⟨fun h=>by rw[<-bw];exact Dt T c6 h,fun h=>Cc T c6 (by omega) h⟩;have O:Hid (a5<=n->cl.length=2):=Ab (fun h=>by rw[<-bw,VL,VQ,T];omega);have M:Hid (∀y∈cl,y<256):=Ab (fun y U=>by rw[<-bw]at U;exact ae y (VW (VR U)));have gh:=Ab c6;clear bw c6;go_wp2_with fail
 refine(Aa G).mono ?_;rintro e io (⟨dw,rfl,F⟩|⟨dw,rfl,F⟩)
 . have Z:=Ab ((Aa E).z.trans F)
   have Y:Hid (Fe (bs.drop p)=none):=Ab (by
    have g1:=Aa aj;have g2:=Aa ak;have g3:=Aa ap;have ab:=Aa ar;have ac:=Aa av;have g6:=Aa ax;have ag:=Aa a7;have ai:=Aa bj;have an:=Aa bk;have au:=Aa bu;have ba:=Aa cw;have gn:=(Aa H).2 dw;unfold Fe;rw[g1,VF];dsimp only;rw[g2,VF];dsimp only;rw[g3,VF];dsimp only;rw[ab,VF];dsimp only;rw[ac,VF];dsimp only;rw[g6,VF];dsimp only;rw[ag,VF];dsimp only;rw[show Ak aq=am from Aa bh];rw[ai,VF];dsimp only;rw[an,VF];dsimp only;rw[au,VF];dsimp only;rw[ba,VF];dsimp only;rw[gn];rfl)
   clear F E G H O M;go_wp2;exact⟨rfl,.inl ⟨Aa Y,rfl,_,Aa Z⟩⟩
 have dp:=Ab ((Aa H).1 dw);have I:=Ab ((Aa E).call hb F);clear F E G H O M;have E:=I;clear I
 have h9:IntKind.i64.wrap (nd:Int)=(nd:Int):=by
  simp[IntKind.wrap,IntKind.bits,IntKind.signed]
  omega
 have ft:=((Aa E).cell 3).1;have hz:=((Aa E).cell 3).2;simp only[VZ,VY,WI]at ft;have I:=Ab ((Aa E).set hb 3 (.int .i64 (nd:Int)) (ec (.string nm) (.slice none 0 0) (.int .i64 (st:Int)) (.int .i64 (nd:Int)) (.bool false) (.int .u32 (mt:Int)) (.slice none 0 0) (.int .u32 (cr:Int))) rfl);clear E;have E:=I;clear I;obtain⟨cn,bz⟩:=exq ((bs.drop a5).take 1);obtain⟨bb,dd⟩:=exq (a5+1);have ej:=Ex ae a5 1;obtain⟨gn,ds⟩:=exq (Ak cn);rw[bz,ds]at ej;simp only[Nat.reducePow]at ej;have G:=Ab (Et b a5 1 n af a bs _ (Aa E).z.is (by omega) ((Aa ah).after (Aa E).z) (by decide));rw[bz,dd,ds]at G;have fx:=Ab ds;clear ds;have H:Hid ((bb<=n->Dy 1 (bs.drop a5)=some (cn,bs.drop bb))/\(n<bb->Dy 1 (bs.drop a5)=none)):=Ab ⟨fun h=>by rw[<-bz];exact Dt T dd h,fun h=>Cc T dd (by omega) h⟩;have O:Hid (bb<=n->cn.length=1):=Ab (fun h=>by rw[<-bz,VL,VQ,T];omega);have M:Hid (∀y∈cn,y<256):=Ab (fun y U=>by rw[<-bz]at U;exact ae y (VW (VR U)));have f4:=Ab dd;clear bz dd;go_wp2_with fail
 refine(Aa G).mono ?_;rintro e hw (⟨d6,rfl,F⟩|⟨d6,rfl,F⟩)
 . have Z:=Ab ((Aa E).z.trans F)
   have Y:Hid (Fe (bs.drop p)=none):=Ab (by
    have g1:=Aa aj;have g2:=Aa ak;have g3:=Aa ap;have ab:=Aa ar;have ac:=Aa av;have g6:=Aa ax;have ag:=Aa a7;have ai:=Aa bj;have an:=Aa bk;have au:=Aa bu;have ba:=Aa cw;have bn:=Aa dp;have gn:=(Aa H).2 d6;unfold Fe;rw[g1,VF];dsimp only;rw[g2,VF];dsimp only;rw[g3,VF];dsimp only;rw[ab,VF];dsimp only;rw[ac,VF];dsimp only;rw[g6,VF];dsimp only;rw[ag,VF];dsimp only;rw[show Ak aq=am from Aa bh];rw[ai,VF];dsimp only;rw[an,VF];dsimp only;rw[au,VF];dsimp only;rw[ba,VF];dsimp only;rw[bn,VF];dsimp only;rw[gn];rfl)
   clear F E G H O M;go_wp2;exact⟨rfl,.inl ⟨Aa Y,rfl,_,Aa Z⟩⟩
 have d5:=Ab ((Aa H).1 d6);have I:=Ab ((Aa E).call hb F);clear F E G H O M;have E:=I;clear I;obtain⟨gb,di⟩:=exq (((gn:Int)==1));have g0:=Ab di;have gt:=((Aa E).cell 4).1;have h2:=((Aa E).cell 4).2;simp only[VZ,VY,WI]at gt;have I:=Ab ((Aa E).set hb 4 (.bool gb) (ec (.string nm) (.slice none 0 0) (.int .i64 (st:Int)) (.int .i64 (nd:Int)) (.bool gb) (.int .u32 (mt:Int)) (.slice none 0 0) (.int .u32 (cr:Int))) rfl);clear E;have E:=I;clear I;obtain⟨bq,ct⟩:=exq ((bs.drop bb).take pl);obtain⟨bf,c7⟩:=exq (bb+pl);have G:=Ab (Dv b bb pl n af a bs _ (Aa E).z.is (by omega) ((Aa ah).after (Aa E).z) (by omega));rw[ct,c7]at G;have H:Hid ((bf<=n->Dy pl (bs.drop bb)=some (bq,bs.drop bf))/\(n<bf->Dy pl (bs.drop bb)=none)):=Ab ⟨fun h=>by rw[<-ct];exact Dt T c7 h,fun h=>Cc T c7 (by omega) h⟩;have O:Hid (bf<=n->bq.length=pl):=Ab (fun h=>by rw[<-ct,VL,VQ,T];omega);have M:Hid (∀y∈bq,y<256):=Ab (fun y U=>by rw[<-ct]at U;exact ae y (VW (VR U)));have e1:=Ab c7;clear ct c7;go_wp2_with fail
 refine(Aa G).mono ?_;rintro e iu (⟨ce,rfl,F⟩|⟨ce,⟨a6,a1,rfl,h6,en⟩,F⟩)
 . have Z:=Ab ((Aa E).z.trans F)
   have Y:Hid (Fe (bs.drop p)=none):=Ab (by
    have g1:=Aa aj;have g2:=Aa ak;have g3:=Aa ap;have ab:=Aa ar;have ac:=Aa av;have g6:=Aa ax;have ag:=Aa a7;have ai:=Aa bj;have an:=Aa bk;have au:=Aa bu;have ba:=Aa cw;have bn:=Aa dp;have co:=Aa d5;have gn:=(Aa H).2 ce;unfold Fe;rw[g1,VF];dsimp only;rw[g2,VF];dsimp only;rw[g3,VF];dsimp only;rw[ab,VF];dsimp only;rw[ac,VF];dsimp only;rw[show Ak bt=pl from Aa du];rw[g6,VF];dsimp only;rw[ag,VF];dsimp only;rw[show Ak aq=am from Aa bh];rw[ai,VF];dsimp only;rw[an,VF];dsimp only;rw[au,VF];dsimp only;rw[ba,VF];dsimp only;rw[bn,VF];dsimp only;rw[co,VF];dsimp only;rw[gn];rfl)
   clear F E G H O M;go_wp2;exact⟨rfl,.inl ⟨Aa Y,rfl,_,Aa Z⟩⟩
 have ey:=Ab ((Aa H).1 ce);have I:=Ab ((Aa E).call hb F);have d9:=Ab (And.intro ((Aa O) ce) (Aa M));have eh:=Ab en;clear en;clear F E G H O M;have E:=I;clear I;have c8:=((Aa E).cell 6).1;have ij:=((Aa E).cell 6).2;simp only[VZ,VY,WI]at c8;have I:=Ab ((Aa E).set hb 6 (.slice a6 pl a1) (ec (.string nm) (.slice none 0 0) (.int .i64 (st:Int)) (.int .i64 (nd:Int)) (.bool gb) (.int .u32 (mt:Int)) (.slice a6 pl a1) (.int .u32 (cr:Int))) rfl);clear E;have E:=I;clear I;have G:=Ab (Zk mt pl a1 a6 bq _ (Aa d9).1 (by have:=Aa e1;omega) (Aa eh _ ((Aa ah).after (Aa E).z)) (Aa d9).2 (Aa gj));have db:=((Aa E).cell 5).1;have c8:=((Aa E).cell 6).1;simp only[VZ,VY,WI]at db c8;clear di;go_wp2_with fail
 refine(Aa G).mono ?_;rintro e as ⟨bi,(⟨dc,al,ib,ao,rfl⟩|⟨ys,dc,fo,e8,al,ao,rfl,eq,eo,dq⟩)⟩
 . have Z:=Ab ((Aa E).later hb bi).z
   have Y:Hid (Fe (bs.drop p)=none):=Ab (by
    have g1:=Aa aj;have g2:=Aa ak;have g3:=Aa ap;have ab:=Aa ar;have ac:=Aa av;have g6:=Aa ax;have ag:=Aa a7;have ai:=Aa bj;have an:=Aa bk;have au:=Aa bu;have ba:=Aa cw;have bn:=Aa dp;have co:=Aa d5;have dx:=Aa ey;unfold Fe;rw[g1,VF];dsimp only;rw[g2,VF];dsimp only;rw[g3,VF];dsimp only;rw[ab,VF];dsimp only;rw[ac,VF];dsimp only;rw[show Ak bt=pl from Aa du];rw[g6,VF];dsimp only;rw[ag,VF];dsimp only;rw[show Ak aq=am from Aa bh];rw[ai,VF];dsimp only;rw[an,VF];dsimp only;rw[au,VF];dsimp only;rw[ba,VF];dsimp only;rw[bn,VF];dsimp only;rw[co,VF];dsimp only;rw[dx,VF];dsimp only;rw[show Ak x2=mt from Aa e5,dc];rfl)
   clear bi dc E G db c8;go_wp2;exact⟨rfl,.inl ⟨Aa Y,rfl,_,Aa Z⟩⟩
 have Y:Hid (Fe (bs.drop p)=some (⟨⟨o8 bo,o8 ys,(st:Int),(nd:Int),gb⟩,mt,bq,cr⟩,bs.drop bf)):=Ab (by
  have g1:=Aa aj;have g2:=Aa ak;have g3:=Aa ap;have ab:=Aa ar;have ac:=Aa av;have g6:=Aa ax;have ag:=Aa a7;have ai:=Aa bj;have an:=Aa bk;have au:=Aa bu;have ba:=Aa cw;have bn:=Aa dp;have co:=Aa d5;have dx:=Aa ey;unfold Fe;rw[g1,VF];dsimp only;rw[g2,VF];dsimp only;rw[g3,VF];dsimp only;rw[ab,VF];dsimp only;rw[ac,VF];dsimp only;rw[show Ak bt=pl from Aa du];rw[g6,VF];dsimp only;rw[ag,VF];dsimp only;rw[show Ak aq=am from Aa bh];rw[ai,VF];dsimp only;rw[an,VF];dsimp only;rw[au,VF];dsimp only;rw[ba,VF];dsimp only;rw[bn,VF];dsimp only;rw[co,VF];dsimp only;rw[dx,VF];dsimp only;rw[show Ak x2=mt from Aa e5,dc,VF];rw[show Ak x4=cr from Aa fp,show Ak c9=st from Aa g8,show Ak cl=nd from Aa ha,show Ak cn=gn from Aa fx]
  have di:decide (gn=1)=gb:=by
   rw[<-Aa g0,XZ,decide_eq_true_iff,beq_iff_eq];omega
  rw[di])
 obtain⟨az,dt⟩:=exq (ys.length);rw[dt]at eq ⊢;have aa:=(Aa E).later hb bi;have fq:=(aa.cell 0).1;have gi:=(aa.cell 1).1;have f8:=(aa.cell 2).1;have gy:=(aa.cell 3).1;have f9:=(aa.cell 4).1;have fh:=(aa.cell 5).1;have gq:=(aa.cell 6).1;have fw:=(aa.cell 7).1;have f1:=(aa.cell 1).2;have r0:=Ac (i:=0) aa.r;have ia:=frozen_of_row as w.heap.size 0 _ _ aa.r;have r1:=Ac (i:=1) aa.r;have g1:=frozen_of_row as w.heap.size 1 _ _ aa.r;have r2:=Ac (i:=2) aa.r;have g2:=frozen_of_row as w.heap.size 2 _ _ aa.r;have g7:=Ac (i:=3) aa.r;have g3:=frozen_of_row as w.heap.size 3 _ _ aa.r;have hf:=Ac (i:=4) aa.r;have ab:=frozen_of_row as w.heap.size 4 _ _ aa.r;have f5:=Ac (i:=5) aa.r;have ac:=frozen_of_row as w.heap.size 5 _ _ aa.r;have fd:=Ac (i:=6) aa.r;have g6:=frozen_of_row as w.heap.size 6 _ _ aa.r;have fm:=Ac (i:=7) aa.r;have ag:=frozen_of_row as w.heap.size 7 _ _ aa.r;simp only[VZ,VY,WI]at fq r0 gi r1 f8 r2 gy g7 f9 hf fh f5 gq fd fw fm;have bg:=aa.set hb 1 (.slice al az ao) (ec (.string nm) (.slice al az ao) (.int .i64 (st:Int)) (.int .i64 (nd:Int)) (.bool gb) (.int .u32 (mt:Int)) (.slice a6 pl a1) (.int .u32 (cr:Int))) rfl;have k1:=Ad as (w.heap.size+1) 1 (.slice al az ao);obtain⟨eu,cm⟩:=Z7g (as.setCell ⟨w.heap.size+1,1,none⟩ (.slice al az ao)) w.heap.size 71 _ _ _ _ _ _ _ _ (.string nm) (.slice al az ao) (.int .i64 (st:Int)) (.int .i64 (nd:Int)) (.bool gb) (.int .u32 (mt:Int)) (.slice a6 pl a1) (.int .u32 (cr:Int)) bg.r;have hy:=(VK.1 (Aa E).x).1
 have d2:ZT w b (.slice a n af) bf (Ni (as.setCell ⟨w.heap.size+1,1,none⟩ (.slice al az ao)) w.heap.size (.string nm) (.slice al az ao) (.int .i64 (st:Int)) (.int .i64 (nd:Int)) (.bool gb) (.int .u32 (mt:Int)) (.slice a6 pl a1) (.int .u32 (cr:Int))):=
  ⟨(cm.block b (by have:=(VK.1 bg.z.is).1;omega) (by simp;omega)).trans bg.z.is,bg.z.below.grown cm (by have:=(VK.1 bg.z.is).1;omega) (fun g e=>by cases e;omega),fun g b7 cu=>(cm.block g (by have:=bg.z.below.size;omega) (by simp;omega)).trans (bg.z.keep g b7 cu)⟩
 have ew:=(eo.grown k1 (fun g o b5 e2=>by have:=dq g o b5 e2;simp;omega)).grown cm (fun g o b5 e2=>by have:=dq g o b5 e2;simp;omega);have fn:Hid (EvIn (Ni (as.setCell ⟨w.heap.size+1,1,none⟩ (.slice al az ao)) w.heap.size (.string nm) (.slice al az ao) (.int .i64 (st:Int)) (.int .i64 (nd:Int)) (.bool gb) (.int .u32 (mt:Int)) (.slice a6 pl a1) (.int .u32 (cr:Int))) ⟨⟨⟨o8 bo,o8 ys,(st:Int),(nd:Int),gb⟩,mt,bq,cr⟩,al,ao,a6,a1⟩):=Ab ⟨by dsimp only;rw[Z0w e8];exact ew,by dsimp only;rw[Ey,dt];exact eq,by dsimp only;rw[Ey];omega,by dsimp only;rw[Ey,(Aa dh).1];omega,Aa eh _ ((Aa ah).after d2)⟩;have gd:Hid (∀g o,al=some ⟨g,o,none⟩->o8 ys≠ []->w.heap.size<=g):=Ab (fun g o b5 e2=>by have:=dq g o b5 (fun e=>e2 (by rw[e];rfl));omega);have hj:=Ab d2;have f3:=Ab eu
 have fk:Hid (p+37<=bf):=Ab (by
  have:=Aa e9
  have:=Aa gz
  have:=Aa fe
  have:=Aa hk
  have:=Aa fy
  have:=Aa g9
  have:=Aa gw
  have:=Aa f6
  have:=Aa hg
  have:=Aa gx
  have:=Aa gg
  have:=Aa gh
  have:=Aa f4
  have:=Aa e1
  omega)
 have ff:=Ab dt;clear bi aa bg k1 eu cm d2 eo ew dq E G dc e8 db c8 dt fo;go_wp2;refine bodyPost_ret (v:=.agg #[.string nm,.slice al az ao,.int .i64 (st:Int),.int .i64 (nd:Int),.bool gb,.int .u32 (mt:Int),.slice a6 pl a1,.int .u32 (cr:Int)]) ?_ rfl (.inr ⟨⟨⟨⟨o8 bo,o8 ys,(st:Int),(nd:Int),gb⟩,mt,bq,cr⟩,al,ao,a6,a1⟩,bf,Aa Y,Aa fk,ce, ?_,Aa fn,Aa eh,Aa gd,Aa hj⟩)
 . exact results_cell_row rfl _ _ _ _ _ _ _ rfl (Aa f3) Tryz.underlying71 rfl (by kernel_rfl)
 . unfold Ev.val;dsimp only;rw[Aa gu,Ey,Aa ff,(Aa d9).1]
end Go.Proofs.YtleocpdblhbimaaGreatDoor
