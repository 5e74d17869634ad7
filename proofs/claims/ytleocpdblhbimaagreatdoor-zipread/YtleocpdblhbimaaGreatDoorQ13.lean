import Derived.Test.YtleocpdblhbimaaGreatDoorQ12
import Derived.Laws.ResultCell
import Derived.Defers
import Derived.Recover
import Derived.Laws.Pointers
set_option linter.unusedSimpArgs false
set_option linter.unusedVariables false
set_option maxRecDepth 100000
set_option maxHeartbeats 8000000
namespace Go.Proofs.YtleocpdblhbimaaGreatDoor
open Go.RowKit
theorem Dt {bs:List Nat}{p k q n:Nat}(G:bs.length=n)(E:p+k=q)(F:q<=n):Dy k (bs.drop p)=some ((bs.drop p).take k,bs.drop q):=by
 unfold Dy;rw[if_neg (by rw[VQ];omega),YK,E]
theorem Cc {bs:List Nat}{p k q n:Nat}(H:bs.length=n)(F:p+k=q)(G:p<=n)(E:n<q):Dy k (bs.drop p)=none:=by
 unfold Dy;rw[if_pos (by rw[VQ];omega)]
abbrev ec (v0 v1 v2 v3 v4 v5 v6 v7:Value):Array Value:= #[v0,v1,v2,v3,v4,v5,v6,v7]
abbrev ez:Array Value:=ec (.string ⟨#[]⟩) (.slice none 0 0) (.int .i64 0) (.int .i64 0) (.bool false) (.int .u32 0) (.slice none 0 0) (.int .u32 0)
structure EW (w:World)(b:Nat)(R:Value)(p:Nat)(cs:Array Value)(wk:World):Prop where
 z:ZT w b R p wk
 x:wk.heap[w.heap.size+1]? =some (.cells cs 71 (0,0))
 r:wk.heap[w.heap.size]? =some (.cells ez 71 (0,0))
theorem EW.call {w G w':World}{b p q:Nat}{R:Value}{H:Array Value}(E:EW w b R p H G)(M:b<w.heap.size)(F:ZT G b R q w'):EW w b R q H w':=by
 have I:=(VK.1 E.x).1;exact⟨E.z.trans F,(F.keep _ (by omega) I).trans E.x,(F.keep _ (by omega) (by omega)).trans E.r⟩
theorem EW.set {w F:World}{b p:Nat}{R:Value}{H:Array Value}(E:EW w b R p H F)(Y:b<w.heap.size)(i:Nat)(v:Value)(I:Array Value)(O:H.setIfInBounds i v=I):EW w b R p I (F.setCell ⟨w.heap.size+1,i,none⟩ v):=by
 have U:=(VK.1 E.x).1;have G:=Ad F (w.heap.size+1) i v;refine⟨⟨(G.block b (by omega) (by simp;omega)).trans E.z.is,E.z.below.grown G (by omega) (fun g e=>by cases e;omega),fun g M T=>(G.block g (by omega) (by simp;omega)).trans (E.z.keep g M T)⟩, ?_,(G.block _ (by omega) (by simp)).trans E.r⟩;rw[heap_setCell_same F _ i _ _ _ E.x,O]
theorem EW.later {w G w':World}{b p:Nat}{R:Value}{H:Array Value}(E:EW w b R p H G)(T:b<w.heap.size)(F:Below G.heap.size G w'):EW w b R p H w':=by
 have M:=(VK.1 E.x).1;refine⟨⟨(F.block b (by omega)).trans E.z.is,E.z.below.trans (F.mono (by omega)),fun g I O=>(F.block g (by omega)).trans (E.z.keep g I O)⟩,(F.block _ M).trans E.x,(F.block _ (by omega)).trans E.r⟩
theorem EW.cell {w E:World}{b p:Nat}{R:Value}{G:Array Value}(F:EW w b R p G E)(i:Nat):E.cell? ⟨w.heap.size+1,i,none⟩=G[i]? /\E.frozen? ⟨w.heap.size+1,i,none⟩=false:=⟨Ac F.x,frozen_of_row E _ i _ _ F.x⟩
theorem Ex {bs:List Nat}(F:∀x∈bs,x<256)(p k:Nat):Ak ((bs.drop p).take k)<256^k:=by
 refine VG (Jx _ (fun x E=>F x (VW (VR E)))) (VO (by decide) ?_);rw[VL];exact ZP _ _
abbrev Ni (W:World)(g:Nat)(v0 v1 v2 v3 v4 v5 v6 v7:Value):World:=(((((((W.setCell ⟨g,0,none⟩ v0).setCell ⟨g,1,none⟩ v1).setCell ⟨g,2,none⟩ v2).setCell ⟨g,3,none⟩ v3).setCell ⟨g,4,none⟩ v4).setCell ⟨g,5,none⟩ v5).setCell ⟨g,6,none⟩ v6).setCell ⟨g,7,none⟩ v7
theorem Z7g (W:World)(E:Nat)(t:TypeId)(af aa Z ai au ae al ac F T U M O H G I:Value)(h:W.heap[E]? =some (.cells #[af,aa,Z,ai,au,ae,al,ac] t (0,0))):
 (Ni W E F T U M O H G I).heap[E]? =some (.cells #[F,T,U,M,O,H,G,I] t (0,0))/\W.grownBy (Ni W E F T U M O H G I) (some E):=by
 have aj:=heap_setCell_same W E 0 _ _ F h;have ao:=heap_setCell_same _ E 1 _ _ T aj;have Y:=heap_setCell_same _ E 2 _ _ U ao;have ar:=heap_setCell_same _ E 3 _ _ M Y;have ah:=heap_setCell_same _ E 4 _ _ O ar;have ag:=heap_setCell_same _ E 5 _ _ H ah;have ap:=heap_setCell_same _ E 6 _ _ G ag;have ak:=heap_setCell_same _ E 7 _ _ I ap;exact⟨ak,Aj (Aj (Aj (Aj (Aj (Aj (Aj (Ad _ _ _ _) (Ad _ _ _ _)) (Ad _ _ _ _)) (Ad _ _ _ _)) (Ad _ _ _ _)) (Ad _ _ _ _)) (Ad _ _ _ _)) (Ad _ _ _ _)⟩
def Z9m (w:World)(b:Nat)(a:Option Addr)(n cap:Nat)(bs:List Nat)(p:Nat)(e:Ending)(w':World):Prop:=
 (Fe (bs.drop p)=none/\e=Z31/\∃q,ZT w b (.slice a n cap) q w')\/ (∃(x:Ev) (q:Nat),Fe (bs.drop p)=some (x.e,bs.drop q)/\p+37<=q/\q<=n/\e=.returned x.val/\EvIn w' x/\(∀W,ZRow W b a n cap bs->PkIn W x.pa x.pc x.e.pk)/\(∀g o,x.fa=some ⟨g,o,none⟩->x.e.f.bytes≠ []->w.heap.size<=g)/\ZT w b (.slice a n cap) q w')
theorem EC (b p n ag:Nat)(a:Option Addr)(bs:List Nat)(w:World)(ey:w.heap[b]? =some (.cells #[.slice a n ag,.int .i64 (p:Int)] 116 (0,0)))(iu:p<=n)(dn:ZRow w b a n ag bs)(fo:Z5u\/Ak ((bs.drop (p+4)).take 2)≠8):
 Calls Tryz.prog 101 #[.pointer (some ⟨b,0,none⟩)] w fun e w'=>Z9m w b a n ag bs p e w':=by
 have hb:b<w.heap.size:=(VK.1 ey).1;have af:=dn.val;have T:=dn.len;have i0:=dn.few;have ai:=Ab dn
 have E:Hid (EW w b (.slice a n ag) p ez ((w.alloc (.cells ez 71)).alloc (.cells ez 71))):=Ab (by
  have bq:Below w.heap.size w ((w.alloc (.cells ez 71)).alloc (.cells ez 71)):=((Below.refl _ _).alloc (VB _) _).alloc (by simp) _;refine⟨⟨(bq.block b hb).trans ey,bq.mono (by omega),fun g _ hs=>bq.block g hs⟩, ?_, ?_⟩
  . have:=heap_alloc_new (w.alloc (.cells ez 71)) (.cells ez 71)
    simpa using this
  . exact(Below.heap_alloc _ _ _ (by simp)).trans (heap_alloc_new w _))
 have fi:=Ab fo;clear ey dn fo;go_enter Tryz.func101,Tryz.ntmps101
 obtain⟨x1,cm⟩:=exq ((bs.drop p).take 4);obtain⟨a6,dc⟩:=exq (p+4);have G:=Ab (Dv b p 4 n ag a bs _ (Aa E).z.is (by omega) ((Aa ai).after (Aa E).z) (by omega));rw[cm,dc]at G;have H:Hid ((a6<=n->Dy 4 (bs.drop p)=some (x1,bs.drop a6))/\(n<a6->Dy 4 (bs.drop p)=none)):=Ab ⟨fun h=>by rw[<-cm];exact Dt T dc h,fun h=>Cc T dc (by omega) h⟩;have O:Hid (a6<=n->x1.length=4):=Ab (fun h=>by rw[<-cm,VL,VQ,T];omega);have M:Hid (∀y∈x1,y<256):=Ab (fun y U=>by rw[<-cm]at U;exact af y (VW (VR U)));have fk:=Ab dc;clear cm dc;go_wp2_with fail
 refine(Aa G).mono ?_;rintro e i6 (⟨da,rfl,F⟩|⟨da,⟨sa1,i9,rfl,jr,ib⟩,F⟩)
 . have Z:=Ab ((Aa E).z.trans F)
   have Y:Hid (Fe (bs.drop p)=none):=Ab (by
    have gn:=(Aa H).2 da;unfold Fe;rw[gn];rfl)
   clear F E G H O M;go_wp2;exact⟨rfl,.inl ⟨Aa Y,rfl,_,Aa Z⟩⟩
 have ak:=Ab ((Aa H).1 da);have I:=Ab ((Aa E).call hb F);clear ib;clear F E G H O M;have E:=I;clear I;obtain⟨x2,b5⟩:=exq ((bs.drop a6).take 2);obtain⟨bh,de⟩:=exq (a6+2);have ft:=Ex af a6 2;obtain⟨mt,du⟩:=exq (Ak x2);have hg:Hid (Z5u\/mt≠8):=Ab (by rw[<-du,<-b5,<-Aa fk];exact Aa fi);clear fi;rw[b5,du]at ft;simp only[Nat.reducePow]at ft;have G:=Ab (Et b a6 2 n ag a bs _ (Aa E).z.is (by omega) ((Aa ai).after (Aa E).z) (by decide));rw[b5,de,du]at G;have fe:=Ab du;clear du;have H:Hid ((bh<=n->Dy 2 (bs.drop a6)=some (x2,bs.drop bh))/\(n<bh->Dy 2 (bs.drop a6)=none)):=Ab ⟨fun h=>by rw[<-b5];exact Dt T de h,fun h=>Cc T de (by omega) h⟩;have O:Hid (bh<=n->x2.length=2):=Ab (fun h=>by rw[<-b5,VL,VQ,T];omega);have M:Hid (∀y∈x2,y<256):=Ab (fun y U=>by rw[<-b5]at U;exact af y (VW (VR U)));have gi:=Ab de;clear b5 de;go_wp2_with fail
 refine(Aa G).mono ?_;rintro e i7 (⟨cq,rfl,F⟩|⟨cq,rfl,F⟩)
 . have Z:=Ab ((Aa E).z.trans F)
   have Y:Hid (Fe (bs.drop p)=none):=Ab (by
    have g1:=Aa ak;have gn:=(Aa H).2 cq;unfold Fe;rw[g1,VF];dsimp only;rw[gn];rfl)
   clear F E G H O M;go_wp2;exact⟨rfl,.inl ⟨Aa Y,rfl,_,Aa Z⟩⟩
 have ao:=Ab ((Aa H).1 cq);have I:=Ab ((Aa E).call hb F);clear F E G H O M;have E:=I;clear I;have dq:=((Aa E).cell 5).1;have iq:=((Aa E).cell 5).2;simp only[VZ,VY,WI]at dq;have I:=Ab ((Aa E).set hb 5 (.int .u32 (mt:Int)) (ec (.string ⟨#[]⟩) (.slice none 0 0) (.int .i64 0) (.int .i64 0) (.bool false) (.int .u32 (mt:Int)) (.slice none 0 0) (.int .u32 0)) rfl);clear E;have E:=I;clear I;obtain⟨x3,cp⟩:=exq ((bs.drop bh).take 4);obtain⟨a4,cj⟩:=exq (bh+4);have G:=Ab (Dv b bh 4 n ag a bs _ (Aa E).z.is (by omega) ((Aa ai).after (Aa E).z) (by omega));rw[cp,cj]at G;have H:Hid ((a4<=n->Dy 4 (bs.drop bh)=some (x3,bs.drop a4))/\(n<a4->Dy 4 (bs.drop bh)=none)):=Ab ⟨fun h=>by rw[<-cp];exact Dt T cj h,fun h=>Cc T cj (by omega) h⟩;have O:Hid (a4<=n->x3.length=4):=Ab (fun h=>by rw[<-cp,VL,VQ,T];omega);have M:Hid (∀y∈x3,y<256):=Ab (fun y U=>by rw[<-cp]at U;exact af y (VW (VR U)));have hz:=Ab cj;clear cp cj;go_wp2_with fail
 refine(Aa G).mono ?_;rintro e w3 (⟨ek,rfl,F⟩|⟨ek,⟨ja,ip,rfl,jo,gh⟩,F⟩)
 . have Z:=Ab ((Aa E).z.trans F)
   have Y:Hid (Fe (bs.drop p)=none):=Ab (by
    have g1:=Aa ak;have g2:=Aa ao;have gn:=(Aa H).2 ek;unfold Fe;rw[g1,VF];dsimp only;rw[g2,VF];dsimp only;rw[gn];rfl)
   clear F E G H O M;go_wp2;exact⟨rfl,.inl ⟨Aa Y,rfl,_,Aa Z⟩⟩
 have au:=Ab ((Aa H).1 ek);have I:=Ab ((Aa E).call hb F);clear gh;clear F E G H O M;have E:=I;clear I;obtain⟨x4,cg⟩:=exq ((bs.drop a4).take 4);obtain⟨a5,cu⟩:=exq (a4+4);have fx:=Ex af a4 4;obtain⟨cr,dw⟩:=exq (Ak x4);rw[cg,dw]at fx;simp only[Nat.reducePow]at fx;have G:=Ab (Et b a4 4 n ag a bs _ (Aa E).z.is (by omega) ((Aa ai).after (Aa E).z) (by decide));rw[cg,cu,dw]at G;have hu:=Ab dw;clear dw;have H:Hid ((a5<=n->Dy 4 (bs.drop a4)=some (x4,bs.drop a5))/\(n<a5->Dy 4 (bs.drop a4)=none)):=Ab ⟨fun h=>by rw[<-cg];exact Dt T cu h,fun h=>Cc T cu (by omega) h⟩;have O:Hid (a5<=n->x4.length=4):=Ab (fun h=>by rw[<-cg,VL,VQ,T];omega);have M:Hid (∀y∈x4,y<256):=Ab (fun y U=>by rw[<-cg]at U;exact af y (VW (VR U)));have h0:=Ab cu;clear cg cu;go_wp2_with fail
 refine(Aa G).mono ?_;rintro e i4 (⟨e0,rfl,F⟩|⟨e0,rfl,F⟩)
 . have Z:=Ab ((Aa E).z.trans F)
   have Y:Hid (Fe (bs.drop p)=none):=Ab (by
    have g1:=Aa ak;have g2:=Aa ao;have g3:=Aa au;have gn:=(Aa H).2 e0;unfold Fe;rw[g1,VF];dsimp only;rw[g2,VF];dsimp only;rw[g3,VF];dsimp only;rw[gn];rfl)
   clear F E G H O M;go_wp2;exact⟨rfl,.inl ⟨Aa Y,rfl,_,Aa Z⟩⟩
 have ay:=Ab ((Aa H).1 e0);have I:=Ab ((Aa E).call hb F);clear F E G H O M;have E:=I;clear I;have h5:=((Aa E).cell 7).1;have jc:=((Aa E).cell 7).2;simp only[VZ,VY,WI]at h5;have I:=Ab ((Aa E).set hb 7 (.int .u32 (cr:Int)) (ec (.string ⟨#[]⟩) (.slice none 0 0) (.int .i64 0) (.int .i64 0) (.bool false) (.int .u32 (mt:Int)) (.slice none 0 0) (.int .u32 (cr:Int))) rfl);clear E;have E:=I;clear I;obtain⟨b0,ce⟩:=exq ((bs.drop a5).take 4);obtain⟨bk,co⟩:=exq (a5+4);have fh:=Ex af a5 4;obtain⟨pl,dv⟩:=exq (Ak b0);rw[ce,dv]at fh;simp only[Nat.reducePow]at fh;have G:=Ab (Et b a5 4 n ag a bs _ (Aa E).z.is (by omega) ((Aa ai).after (Aa E).z) (by decide));rw[ce,co,dv]at G;have eh:=Ab dv;clear dv;have H:Hid ((bk<=n->Dy 4 (bs.drop a5)=some (b0,bs.drop bk))/\(n<bk->Dy 4 (bs.drop a5)=none)):=Ab ⟨fun h=>by rw[<-ce];exact Dt T co h,fun h=>Cc T co (by omega) h⟩;have O:Hid (bk<=n->b0.length=4):=Ab (fun h=>by rw[<-ce,VL,VQ,T];omega);have M:Hid (∀y∈b0,y<256):=Ab (fun y U=>by rw[<-ce]at U;exact af y (VW (VR U)));have f8:=Ab co;clear ce co;go_wp2_with fail
 refine(Aa G).mono ?_;rintro e ir (⟨ee,rfl,F⟩|⟨ee,rfl,F⟩)
 . have Z:=Ab ((Aa E).z.trans F)
   have Y:Hid (Fe (bs.drop p)=none):=Ab (by
    have g1:=Aa ak;have g2:=Aa ao;have g3:=Aa au;have ac:=Aa ay;have gn:=(Aa H).2 ee;unfold Fe;rw[g1,VF];dsimp only;rw[g2,VF];dsimp only;rw[g3,VF];dsimp only;rw[ac,VF];dsimp only;rw[gn];rfl)
   clear F E G H O M;go_wp2;exact⟨rfl,.inl ⟨Aa Y,rfl,_,Aa Z⟩⟩
 have az:=Ab ((Aa H).1 ee);have I:=Ab ((Aa E).call hb F);clear F E G H O M;have E:=I;clear I;obtain⟨em,ck⟩:=exq ((bs.drop bk).take 4);obtain⟨bc,dl⟩:=exq (bk+4);have G:=Ab (Dv b bk 4 n ag a bs _ (Aa E).z.is (by omega) ((Aa ai).after (Aa E).z) (by omega));rw[ck,dl]at G;have H:Hid ((bc<=n->Dy 4 (bs.drop bk)=some (em,bs.drop bc))/\(n<bc->Dy 4 (bs.drop bk)=none)):=Ab ⟨fun h=>by rw[<-ck];exact Dt T dl h,fun h=>Cc T dl (by omega) h⟩;have O:Hid (bc<=n->em.length=4):=Ab (fun h=>by rw[<-ck,VL,VQ,T];omega);have M:Hid (∀y∈em,y<256):=Ab (fun y U=>by rw[<-ck]at U;exact af y (VW (VR U)));have f9:=Ab dl;clear ck dl;go_wp2_with fail
 refine(Aa G).mono ?_;rintro e w6 (⟨ew,rfl,F⟩|⟨ew,⟨jl,ix,rfl,js,hw⟩,F⟩)
 . have Z:=Ab ((Aa E).z.trans F)
   have Y:Hid (Fe (bs.drop p)=none):=Ab (by
    have g1:=Aa ak;have g2:=Aa ao;have g3:=Aa au;have ac:=Aa ay;have ae:=Aa az;have gn:=(Aa H).2 ew;unfold Fe;rw[g1,VF];dsimp only;rw[g2,VF];dsimp only;rw[g3,VF];dsimp only;rw[ac,VF];dsimp only;rw[ae,VF];dsimp only;rw[gn];rfl)
   clear F E G H O M;go_wp2;exact⟨rfl,.inl ⟨Aa Y,rfl,_,Aa Z⟩⟩
 have a9:=Ab ((Aa H).1 ew);have I:=Ab ((Aa E).call hb F);clear hw;clear F E G H O M;have E:=I;clear I;obtain⟨aw,b8⟩:=exq ((bs.drop bc).take 2);obtain⟨bf,cz⟩:=exq (bc+2);have f4:=Ex af bc 2;obtain⟨ap,d8⟩:=exq (Ak aw);rw[b8,d8]at f4;simp only[Nat.reducePow]at f4;have G:=Ab (Et b bc 2 n ag a bs _ (Aa E).z.is (by omega) ((Aa ai).after (Aa E).z) (by decide));rw[b8,cz,d8]at G;have bv:=Ab d8;clear d8;have H:Hid ((bf<=n->Dy 2 (bs.drop bc)=some (aw,bs.drop bf))/\(n<bf->Dy 2 (bs.drop bc)=none)):=Ab ⟨fun h=>by rw[<-b8];exact Dt T cz h,fun h=>Cc T cz (by omega) h⟩;have O:Hid (bf<=n->aw.length=2):=Ab (fun h=>by rw[<-b8,VL,VQ,T];omega);have M:Hid (∀y∈aw,y<256):=Ab (fun y U=>by rw[<-b8]at U;exact af y (VW (VR U)));have h6:=Ab cz;clear b8 cz;go_wp2_with fail
 refine(Aa G).mono ?_;rintro e jh (⟨et,rfl,F⟩|⟨et,rfl,F⟩)
 . have Z:=Ab ((Aa E).z.trans F)
   have Y:Hid (Fe (bs.drop p)=none):=Ab (by
    have g1:=Aa ak;have g2:=Aa ao;have g3:=Aa au;have ac:=Aa ay;have ae:=Aa az;have g6:=Aa a9;have gn:=(Aa H).2 et;unfold Fe;rw[g1,VF];dsimp only;rw[g2,VF];dsimp only;rw[g3,VF];dsimp only;rw[ac,VF];dsimp only;rw[ae,VF];dsimp only;rw[g6,VF];dsimp only;rw[gn];rfl)
   clear F E G H O M;go_wp2;exact⟨rfl,.inl ⟨Aa Y,rfl,_,Aa Z⟩⟩
 have bg:=Ab ((Aa H).1 et);have I:=Ab ((Aa E).call hb F);clear F E G H O M;have E:=I;clear I;obtain⟨e8,dd⟩:=exq ((bs.drop bf).take 2);obtain⟨bd,dt⟩:=exq (bf+2);have G:=Ab (Dv b bf 2 n ag a bs _ (Aa E).z.is (by omega) ((Aa ai).after (Aa E).z) (by omega));rw[dd,dt]at G;have H:Hid ((bd<=n->Dy 2 (bs.drop bf)=some (e8,bs.drop bd))/\(n<bd->Dy 2 (bs.drop bf)=none)):=Ab ⟨fun h=>by rw[<-dd];exact Dt T dt h,fun h=>Cc T dt (by omega) h⟩;have O:Hid (bd<=n->e8.length=2):=Ab (fun h=>by rw[<-dd,VL,VQ,T];omega);have M:Hid (∀y∈e8,y<256):=Ab (fun y U=>by rw[<-dd]at U;exact af y (VW (VR U)));have ht:=Ab dt;clear dd dt;go_wp2_with fail
 refine(Aa G).mono ?_;rintro e jm (⟨eu,rfl,F⟩|⟨eu,⟨iz,ik,rfl,ij,ic⟩,F⟩)
 . have Z:=Ab ((Aa E).z.trans F)
   have Y:Hid (Fe (bs.drop p)=none):=Ab (by
    have g1:=Aa ak;have g2:=Aa ao;have g3:=Aa au;have ac:=Aa ay;have ae:=Aa az;have g6:=Aa a9;have ah:=Aa bg;have gn:=(Aa H).2 eu;unfold Fe;rw[g1,VF];dsimp only;rw[g2,VF];dsimp only;rw[g3,VF];dsimp only;rw[ac,VF];dsimp only;rw[ae,VF];dsimp only;rw[g6,VF];dsimp only;rw[ah,VF];dsimp only;rw[gn];rfl)
   clear F E G H O M;go_wp2;exact⟨rfl,.inl ⟨Aa Y,rfl,_,Aa Z⟩⟩
 have bu:=Ab ((Aa H).1 eu);have I:=Ab ((Aa E).call hb F);clear ic;clear F E G H O M;have E:=I;clear I;obtain⟨b3,df⟩:=exq ((bs.drop bd).take ap);obtain⟨bj,dr⟩:=exq (bd+ap);have G:=Ab (Dv b bd ap n ag a bs _ (Aa E).z.is (by omega) ((Aa ai).after (Aa E).z) (by omega));rw[df,dr]at G;have H:Hid ((bj<=n->Dy ap (bs.drop bd)=some (b3,bs.drop bj))/\(n<bj->Dy ap (bs.drop bd)=none)):=Ab ⟨fun h=>by rw[<-df];exact Dt T dr h,fun h=>Cc T dr (by omega) h⟩;have O:Hid (bj<=n->b3.length=ap):=Ab (fun h=>by rw[<-df,VL,VQ,T];omega);have M:Hid (∀y∈b3,y<256):=Ab (fun y U=>by rw[<-df]at U;exact af y (VW (VR U)));have ho:=Ab dr;clear df dr;go_wp2_with fail
 refine(Aa G).mono ?_;rintro e ha (⟨dy,rfl,F⟩|⟨dy,⟨jg,jq,rfl,h1,e9⟩,F⟩)
 . have Z:=Ab ((Aa E).z.trans F)
   have Y:Hid (Fe (bs.drop p)=none):=Ab (by
    have g1:=Aa ak;have g2:=Aa ao;have g3:=Aa au;have ac:=Aa ay;have ae:=Aa az;have g6:=Aa a9;have ah:=Aa bg;have aj:=Aa bu;have gn:=(Aa H).2 dy;unfold Fe;rw[g1,VF];dsimp only;rw[g2,VF];dsimp only;rw[g3,VF];dsimp only;rw[ac,VF];dsimp only;rw[ae,VF];dsimp only;rw[g6,VF];dsimp only;rw[ah,VF];dsimp only;rw[show Ak aw=ap from Aa bv];rw[aj,VF];dsimp only;rw[gn];rfl)
   clear F E G H O M;go_wp2;exact⟨rfl,.inl ⟨Aa Y,rfl,_,Aa Z⟩⟩
 have b4:=Ab ((Aa H).1 dy);have I:=Ab ((Aa E).call hb F);have eb:=Ab (And.intro ((Aa O) dy) (Aa M));have hp:=Ab e9;clear e9;clear F E G H O M;have E:=I;clear I;have f3:=Po (Z6e (Aa hp ha ((Aa ai).after (Aa E).z)) (by rw[(Aa eb).1];exact h1) (Aa eb).2);rw[Ey,(Aa eb).1]at f3;obtain⟨nm,eo⟩:=exq (B (o8 b3));rw[eo]at f3;have ig:=Ab eo;clear eo;have gv:=((Aa E).cell 0).1;have jt:=((Aa E).cell 0).2;simp only[VZ,VY]at gv;have I:=Ab ((Aa E).set hb 0 (.string nm) (ec (.string nm) (.slice none 0 0) (.int .i64 0) (.int .i64 0) (.bool false) (.int .u32 (mt:Int)) (.slice none 0 0) (.int .u32 (cr:Int))) rfl);clear E;have E:=I;clear I;obtain⟨e4,c7⟩:=exq ((bs.drop bj).take 4);obtain⟨a8,dm⟩:=exq (bj+4);have G:=Ab (Dv b bj 4 n ag a bs _ (Aa E).z.is (by omega) ((Aa ai).after (Aa E).z) (by omega));rw[c7,dm]at G;have H:Hid ((a8<=n->Dy 4 (bs.drop bj)=some (e4,bs.drop a8))/\(n<a8->Dy 4 (bs.drop bj)=none)):=Ab ⟨fun h=>by rw[<-c7];exact Dt T dm h,fun h=>Cc T dm (by omega) h⟩;have O:Hid (a8<=n->e4.length=4):=Ab (fun h=>by rw[<-c7,VL,VQ,T];omega);have M:Hid (∀y∈e4,y<256):=Ab (fun y U=>by rw[<-c7]at U;exact af y (VW (VR U)));have ia:=Ab dm;clear c7 dm;go_wp2_with fail
 refine(Aa G).mono ?_;rintro e i5 (⟨e7,rfl,F⟩|⟨e7,⟨jk,jb,rfl,je,gu⟩,F⟩)
 . have Z:=Ab ((Aa E).z.trans F)
   have Y:Hid (Fe (bs.drop p)=none):=Ab (by
    have g1:=Aa ak;have g2:=Aa ao;have g3:=Aa au;have ac:=Aa ay;have ae:=Aa az;have g6:=Aa a9;have ah:=Aa bg;have aj:=Aa bu;have av:=Aa b4;have gn:=(Aa H).2 e7;unfold Fe;rw[g1,VF];dsimp only;rw[g2,VF];dsimp only;rw[g3,VF];dsimp only;rw[ac,VF];dsimp only;rw[ae,VF];dsimp only;rw[g6,VF];dsimp only;rw[ah,VF];dsimp only;rw[show Ak aw=ap from Aa bv];rw[aj,VF];dsimp only;rw[av,VF];dsimp only;rw[gn];rfl)
   clear F E G H O M;go_wp2;exact⟨rfl,.inl ⟨Aa Y,rfl,_,Aa Z⟩⟩
 have b7:=Ab ((Aa H).1 e7);have I:=Ab ((Aa E).call hb F);clear gu;clear F E G H O M;have E:=I;clear I;obtain⟨dj,cd⟩:=exq ((bs.drop a8).take 4);obtain⟨a7,c5⟩:=exq (a8+4);have bst:=Ex af a8 4;obtain⟨st,d5⟩:=exq (Ak dj);rw[cd,d5]at bst;simp only[Nat.reducePow]at bst;have G:=Ab (Et b a8 4 n ag a bs _ (Aa E).z.is (by omega) ((Aa ai).after (Aa E).z) (by decide));rw[cd,c5,d5]at G;have hq:=Ab d5;clear d5;have H:Hid ((a7<=n->Dy 4 (bs.drop a8)=some (dj,bs.drop a7))/\(n<a7->Dy 4 (bs.drop a8)=none)):=Ab ⟨fun h=>by rw[<-cd];exact Dt T c5 h,fun h=>Cc T c5 (by omega) h⟩;have O:Hid (a7<=n->dj.length=4):=Ab (fun h=>by rw[<-cd,VL,VQ,T];omega);have M:Hid (∀y∈dj,y<256):=Ab (fun y U=>by rw[<-cd]at U;exact af y (VW (VR U)));have hf:=Ab c5;clear cd c5;go_wp2_with fail
 refine(Aa G).mono ?_;rintro e jf (⟨e5,rfl,F⟩|⟨e5,rfl,F⟩)
 . have Z:=Ab ((Aa E).z.trans F)
   have Y:Hid (Fe (bs.drop p)=none):=Ab (by
    have g1:=Aa ak;have g2:=Aa ao;have g3:=Aa au;have ac:=Aa ay;have ae:=Aa az;have g6:=Aa a9;have ah:=Aa bg;have aj:=Aa bu;have av:=Aa b4;have a1:=Aa b7;have gn:=(Aa H).2 e5;unfold Fe;rw[g1,VF];dsimp only;rw[g2,VF];dsimp only;rw[g3,VF];dsimp only;rw[ac,VF];dsimp only;rw[ae,VF];dsimp only;rw[g6,VF];dsimp only;rw[ah,VF];dsimp only;rw[show Ak aw=ap from Aa bv];rw[aj,VF];dsimp only;rw[av,VF];dsimp only;rw[a1,VF];dsimp only;rw[gn];rfl)
   clear F E G H O M;go_wp2;exact⟨rfl,.inl ⟨Aa Y,rfl,_,Aa Z⟩⟩
 have dp:=Ab ((Aa H).1 e5);have I:=Ab ((Aa E).call hb F);clear F E G H O M;have E:=I;clear I
 have ws:IntKind.i64.wrap (st:Int)=(st:Int):=by
  simp[IntKind.wrap,IntKind.bits,IntKind.signed]
  omega
 have f7:=((Aa E).cell 2).1;have y2:=((Aa E).cell 2).2;simp only[VZ,VY,WI]at f7;have I:=Ab ((Aa E).set hb 2 (.int .i64 (st:Int)) (ec (.string nm) (.slice none 0 0) (.int .i64 (st:Int)) (.int .i64 0) (.bool false) (.int .u32 (mt:Int)) (.slice none 0 0) (.int .u32 (cr:Int))) rfl);clear E;have E:=I;clear I;obtain⟨cy,ci⟩:=exq ((bs.drop a7).take 2);obtain⟨a2,ds⟩:=exq (a7+2);have fy:=Ex af a7 2;obtain⟨nd,d6⟩:=exq (Ak cy);rw[ci,d6]at fy;simp only[Nat.reducePow]at fy;have G:=Ab (Et b a7 2 n ag a bs _ (Aa E).z.is (by omega) ((Aa ai).after (Aa E).z) (by decide));rw[ci,ds,d6]at G;have gd:=Ab d6;clear d6;have H:Hid ((a2<=n->Dy 2 (bs.drop a7)=some (cy,bs.drop a2))/\(n<a2->Dy 2 (bs.drop a7)=none)):=Ab ⟨fun h=>by rw[<-ci];exact Dt T ds h,fun h=>Cc T ds (by omega) h⟩;have O:Hid (a2<=n->cy.length=2):=Ab (fun h=>by rw[<-ci,VL,VQ,T];omega);have M:Hid (∀y∈cy,y<256):=Ab (fun y U=>by rw[<-ci]at U;exact af y (VW (VR U)));have g8:=Ab ds;clear ci ds;go_wp2_with fail
 refine(Aa G).mono ?_;rintro e iy (⟨en,rfl,F⟩|⟨en,rfl,F⟩)
 . have Z:=Ab ((Aa E).z.trans F)
   have Y:Hid (Fe (bs.drop p)=none):=Ab (by
    have g1:=Aa ak;have g2:=Aa ao;have g3:=Aa au;have ac:=Aa ay;have ae:=Aa az;have g6:=Aa a9;have ah:=Aa bg;have aj:=Aa bu;have av:=Aa b4;have a1:=Aa b7;have bm:=Aa dp;have gn:=(Aa H).2 en;unfold Fe;rw[g1,VF];dsimp only;rw[g2,VF];dsimp only;rw[g3,VF];dsimp only;rw[ac,VF];dsimp only;rw[ae,VF];dsimp only;rw[g6,VF];dsimp only;rw[ah,VF];dsimp only;rw[show Ak aw=ap from Aa bv];rw[aj,VF];dsimp only;rw[av,VF];dsimp only;rw[a1,VF];dsimp only;rw[bm,VF];dsimp only;rw[gn];rfl)
   clear F E G H O M;go_wp2;exact⟨rfl,.inl ⟨Aa Y,rfl,_,Aa Z⟩⟩
 have dx:=Ab ((Aa H).1 en);have I:=Ab ((Aa E).call hb F);clear F E G H O M;have E:=I;clear I
 have jj:IntKind.i64.wrap (nd:Int)=(nd:Int):=by
  simp[IntKind.wrap,IntKind.bits,IntKind.signed]
  omega
 have h8:=((Aa E).cell 3).1;have ju:=((Aa E).cell 3).2;simp only[VZ,VY,WI]at h8;have I:=Ab ((Aa E).set hb 3 (.int .i64 (nd:Int)) (ec (.string nm) (.slice none 0 0) (.int .i64 (st:Int)) (.int .i64 (nd:Int)) (.bool false) (.int .u32 (mt:Int)) (.slice none 0 0) (.int .u32 (cr:Int))) rfl);clear E;have E:=I;clear I;obtain⟨cv,b9⟩:=exq ((bs.drop a2).take 1);obtain⟨bi,db⟩:=exq (a2+1);have f5:=Ex af a2 1;obtain⟨gn,d7⟩:=exq (Ak cv);rw[b9,d7]at f5;simp only[Nat.reducePow]at f5;have G:=Ab (Et b a2 1 n ag a bs _ (Aa E).z.is (by omega) ((Aa ai).after (Aa E).z) (by decide));rw[b9,db,d7]at G;have h7:=Ab d7;clear d7;have H:Hid ((bi<=n->Dy 1 (bs.drop a2)=some (cv,bs.drop bi))/\(n<bi->Dy 1 (bs.drop a2)=none)):=Ab ⟨fun h=>by rw[<-b9];exact Dt T db h,fun h=>Cc T db (by omega) h⟩;have O:Hid (bi<=n->cv.length=1):=Ab (fun h=>by rw[<-b9,VL,VQ,T];omega);have M:Hid (∀y∈cv,y<256):=Ab (fun y U=>by rw[<-b9]at U;exact af y (VW (VR U)));have gz:=Ab db;clear b9 db;go_wp2_with fail
 refine(Aa G).mono ?_;rintro e i3 (⟨e1,rfl,F⟩|⟨e1,rfl,F⟩)
 . have Z:=Ab ((Aa E).z.trans F)
   have Y:Hid (Fe (bs.drop p)=none):=Ab (by
    have g1:=Aa ak;have g2:=Aa ao;have g3:=Aa au;have ac:=Aa ay;have ae:=Aa az;have g6:=Aa a9;have ah:=Aa bg;have aj:=Aa bu;have av:=Aa b4;have a1:=Aa b7;have bm:=Aa dp;have bz:=Aa dx;have gn:=(Aa H).2 e1;unfold Fe;rw[g1,VF];dsimp only;rw[g2,VF];dsimp only;rw[g3,VF];dsimp only;rw[ac,VF];dsimp only;rw[ae,VF];dsimp only;rw[g6,VF];dsimp only;rw[ah,VF];dsimp only;rw[show Ak aw=ap from Aa bv];rw[aj,VF];dsimp only;rw[av,VF];dsimp only;rw[a1,VF];dsimp only;rw[bm,VF];dsimp only;rw[bz,VF];dsimp only;rw[gn];rfl)
   clear F E G H O M;go_wp2;exact⟨rfl,.inl ⟨Aa Y,rfl,_,Aa Z⟩⟩
 have ep:=Ab ((Aa H).1 e1);have I:=Ab ((Aa E).call hb F);clear F E G H O M;have E:=I;clear I;obtain⟨gb,ed⟩:=exq (((gn:Int)==1));have gw:=Ab ed;have h2:=((Aa E).cell 4).1;have i1:=((Aa E).cell 4).2;simp only[VZ,VY,WI]at h2;have I:=Ab ((Aa E).set hb 4 (.bool gb) (ec (.string nm) (.slice none 0 0) (.int .i64 (st:Int)) (.int .i64 (nd:Int)) (.bool gb) (.int .u32 (mt:Int)) (.slice none 0 0) (.int .u32 (cr:Int))) rfl);clear E;have E:=I;clear I;obtain⟨bw,c6⟩:=exq ((bs.drop bi).take pl);obtain⟨bo,ct⟩:=exq (bi+pl);have G:=Ab (Dv b bi pl n ag a bs _ (Aa E).z.is (by omega) ((Aa ai).after (Aa E).z) (by omega));rw[c6,ct]at G;have H:Hid ((bo<=n->Dy pl (bs.drop bi)=some (bw,bs.drop bo))/\(n<bo->Dy pl (bs.drop bi)=none)):=Ab ⟨fun h=>by rw[<-c6];exact Dt T ct h,fun h=>Cc T ct (by omega) h⟩;have O:Hid (bo<=n->bw.length=pl):=Ab (fun h=>by rw[<-c6,VL,VQ,T];omega);have M:Hid (∀y∈bw,y<256):=Ab (fun y U=>by rw[<-c6]at U;exact af y (VW (VR U)));have fm:=Ab ct;clear c6 ct;go_wp2_with fail
 refine(Aa G).mono ?_;rintro e im (⟨di,rfl,F⟩|⟨di,⟨ba,bb,rfl,ji,fq⟩,F⟩)
 . have Z:=Ab ((Aa E).z.trans F)
   have Y:Hid (Fe (bs.drop p)=none):=Ab (by
    have g1:=Aa ak;have g2:=Aa ao;have g3:=Aa au;have ac:=Aa ay;have ae:=Aa az;have g6:=Aa a9;have ah:=Aa bg;have aj:=Aa bu;have av:=Aa b4;have a1:=Aa b7;have bm:=Aa dp;have bz:=Aa dx;have c9:=Aa ep;have gn:=(Aa H).2 di;unfold Fe;rw[g1,VF];dsimp only;rw[g2,VF];dsimp only;rw[g3,VF];dsimp only;rw[ac,VF];dsimp only;rw[ae,VF];dsimp only;rw[show Ak b0=pl from Aa eh];rw[g6,VF];dsimp only;rw[ah,VF];dsimp only;rw[show Ak aw=ap from Aa bv];rw[aj,VF];dsimp only;rw[av,VF];dsimp only;rw[a1,VF];dsimp only;rw[bm,VF];dsimp only;rw[bz,VF];dsimp only;rw[c9,VF];dsimp only;rw[gn];rfl)
   clear F E G H O M;go_wp2;exact⟨rfl,.inl ⟨Aa Y,rfl,_,Aa Z⟩⟩
 have fg:=Ab ((Aa H).1 di);have I:=Ab ((Aa E).call hb F);have ei:=Ab (And.intro ((Aa O) di) (Aa M));have eg:=Ab fq;clear fq;clear F E G H O M;have E:=I;clear I;have cw:=((Aa E).cell 6).1;have ii:=((Aa E).cell 6).2;simp only[VZ,VY,WI]at cw;have I:=Ab ((Aa E).set hb 6 (.slice ba pl bb) (ec (.string nm) (.slice none 0 0) (.int .i64 (st:Int)) (.int .i64 (nd:Int)) (.bool gb) (.int .u32 (mt:Int)) (.slice ba pl bb) (.int .u32 (cr:Int))) rfl);clear E;have E:=I;clear I;have G:=Ab (Zk mt pl bb ba bw _ (Aa ei).1 (by have:=Aa fm;omega) (Aa eg _ ((Aa ai).after (Aa E).z)) (Aa ei).2 (Aa hg));have dq:=((Aa E).cell 5).1;have cw:=((Aa E).cell 6).1;simp only[VZ,VY,WI]at dq cw;clear ed;go_wp2_with fail
 refine(Aa G).mono ?_;rintro e ax ⟨bq,(⟨dh,al,jp,ar,rfl⟩|⟨ys,dh,hx,fp,al,ar,rfl,ff,fw,d9⟩)⟩
 . have Z:=Ab ((Aa E).later hb bq).z
   have Y:Hid (Fe (bs.drop p)=none):=Ab (by
    have g1:=Aa ak;have g2:=Aa ao;have g3:=Aa au;have ac:=Aa ay;have ae:=Aa az;have g6:=Aa a9;have ah:=Aa bg;have aj:=Aa bu;have av:=Aa b4;have a1:=Aa b7;have bm:=Aa dp;have bz:=Aa dx;have c9:=Aa ep;have e6:=Aa fg;unfold Fe;rw[g1,VF];dsimp only;rw[g2,VF];dsimp only;rw[g3,VF];dsimp only;rw[ac,VF];dsimp only;rw[ae,VF];dsimp only;rw[show Ak b0=pl from Aa eh];rw[g6,VF];dsimp only;rw[ah,VF];dsimp only;rw[show Ak aw=ap from Aa bv];rw[aj,VF];dsimp only;rw[av,VF];dsimp only;rw[a1,VF];dsimp only;rw[bm,VF];dsimp only;rw[bz,VF];dsimp only;rw[c9,VF];dsimp only;rw[e6,VF];dsimp only;rw[show Ak x2=mt from Aa fe,dh];rfl)
   clear bq dh E G dq cw;go_wp2;exact⟨rfl,.inl ⟨Aa Y,rfl,_,Aa Z⟩⟩
 have Y:Hid (Fe (bs.drop p)=some (⟨⟨o8 b3,o8 ys,(st:Int),(nd:Int),gb⟩,mt,bw,cr⟩,bs.drop bo)):=Ab (by
  have g1:=Aa ak;have g2:=Aa ao;have g3:=Aa au;have ac:=Aa ay;have ae:=Aa az;have g6:=Aa a9;have ah:=Aa bg;have aj:=Aa bu;have av:=Aa b4;have a1:=Aa b7;have bm:=Aa dp;have bz:=Aa dx;have c9:=Aa ep;have e6:=Aa fg;unfold Fe;rw[g1,VF];dsimp only;rw[g2,VF];dsimp only;rw[g3,VF];dsimp only;rw[ac,VF];dsimp only;rw[ae,VF];dsimp only;rw[show Ak b0=pl from Aa eh];rw[g6,VF];dsimp only;rw[ah,VF];dsimp only;rw[show Ak aw=ap from Aa bv];rw[aj,VF];dsimp only;rw[av,VF];dsimp only;rw[a1,VF];dsimp only;rw[bm,VF];dsimp only;rw[bz,VF];dsimp only;rw[c9,VF];dsimp only;rw[e6,VF];dsimp only;rw[show Ak x2=mt from Aa fe,dh,VF];rw[show Ak x4=cr from Aa hu,show Ak dj=st from Aa hq,show Ak cy=nd from Aa gd,show Ak cv=gn from Aa h7]
  have ed:decide (gn=1)=gb:=by
   rw[<-Aa gw,XZ,decide_eq_true_iff,beq_iff_eq];omega
  rw[ed])
 obtain⟨a3,dz⟩:=exq (ys.length);rw[dz]at ff ⊢;have aa:=(Aa E).later hb bq;have gy:=(aa.cell 0).1;have g4:=(aa.cell 1).1;have hh:=(aa.cell 2).1;have h9:=(aa.cell 3).1;have f6:=(aa.cell 4).1;have hj:=(aa.cell 5).1;have gg:=(aa.cell 6).1;have h3:=(aa.cell 7).1;have f1:=(aa.cell 1).2;have r0:=Ac (i:=0) aa.r;have il:=frozen_of_row ax w.heap.size 0 _ _ aa.r;have r1:=Ac (i:=1) aa.r;have g1:=frozen_of_row ax w.heap.size 1 _ _ aa.r;have r2:=Ac (i:=2) aa.r;have g2:=frozen_of_row ax w.heap.size 2 _ _ aa.r;have g0:=Ac (i:=3) aa.r;have g3:=frozen_of_row ax w.heap.size 3 _ _ aa.r;have g9:=Ac (i:=4) aa.r;have ac:=frozen_of_row ax w.heap.size 4 _ _ aa.r;have gj:=Ac (i:=5) aa.r;have ae:=frozen_of_row ax w.heap.size 5 _ _ aa.r;have hv:=Ac (i:=6) aa.r;have g6:=frozen_of_row ax w.heap.size 6 _ _ aa.r;have g5:=Ac (i:=7) aa.r;have ah:=frozen_of_row ax w.heap.size 7 _ _ aa.r;simp only[VZ,VY,WI]at gy r0 g4 r1 hh r2 h9 g0 f6 g9 hj gj gg hv h3 g5;have bn:=aa.set hb 1 (.slice al a3 ar) (ec (.string nm) (.slice al a3 ar) (.int .i64 (st:Int)) (.int .i64 (nd:Int)) (.bool gb) (.int .u32 (mt:Int)) (.slice ba pl bb) (.int .u32 (cr:Int))) rfl;have k1:=Ad ax (w.heap.size+1) 1 (.slice al a3 ar);obtain⟨fj,cn⟩:=Z7g (ax.setCell ⟨w.heap.size+1,1,none⟩ (.slice al a3 ar)) w.heap.size 71 _ _ _ _ _ _ _ _ (.string nm) (.slice al a3 ar) (.int .i64 (st:Int)) (.int .i64 (nd:Int)) (.bool gb) (.int .u32 (mt:Int)) (.slice ba pl bb) (.int .u32 (cr:Int)) bn.r;have iw:=(VK.1 (Aa E).x).1
 have ej:ZT w b (.slice a n ag) bo (Ni (ax.setCell ⟨w.heap.size+1,1,none⟩ (.slice al a3 ar)) w.heap.size (.string nm) (.slice al a3 ar) (.int .i64 (st:Int)) (.int .i64 (nd:Int)) (.bool gb) (.int .u32 (mt:Int)) (.slice ba pl bb) (.int .u32 (cr:Int))):=
  ⟨(cn.block b (by have:=(VK.1 bn.z.is).1;omega) (by simp;omega)).trans bn.z.is,bn.z.below.grown cn (by have:=(VK.1 bn.z.is).1;omega) (fun g e=>by cases e;omega),fun g da cq=>(cn.block g (by have:=bn.z.below.size;omega) (by simp;omega)).trans (bn.z.keep g da cq)⟩
 have fu:=(fw.grown k1 (fun g o c8 e2=>by have:=d9 g o c8 e2;simp;omega)).grown cn (fun g o c8 e2=>by have:=d9 g o c8 e2;simp;omega);have ie:Hid (EvIn (Ni (ax.setCell ⟨w.heap.size+1,1,none⟩ (.slice al a3 ar)) w.heap.size (.string nm) (.slice al a3 ar) (.int .i64 (st:Int)) (.int .i64 (nd:Int)) (.bool gb) (.int .u32 (mt:Int)) (.slice ba pl bb) (.int .u32 (cr:Int))) ⟨⟨⟨o8 b3,o8 ys,(st:Int),(nd:Int),gb⟩,mt,bw,cr⟩,al,ar,ba,bb⟩):=Ab ⟨by dsimp only;rw[Z0w fp];exact fu,by dsimp only;rw[Ey,dz];exact ff,by dsimp only;rw[Ey];omega,by dsimp only;rw[Ey,(Aa eb).1];omega,Aa eg _ ((Aa ai).after ej)⟩;have gx:Hid (∀g o,al=some ⟨g,o,none⟩->o8 ys≠ []->w.heap.size<=g):=Ab (fun g o c8 e2=>by have:=d9 g o c8 (fun e=>e2 (by rw[e];rfl));omega);have hk:=Ab ej;have g7:=Ab fj
 have h4:Hid (p+37<=bo):=Ab (by
  have:=Aa fk
  have:=Aa gi
  have:=Aa hz
  have:=Aa h0
  have:=Aa f8
  have:=Aa f9
  have:=Aa h6
  have:=Aa ht
  have:=Aa ho
  have:=Aa ia
  have:=Aa hf
  have:=Aa g8
  have:=Aa gz
  have:=Aa fm
  omega)
 have gq:=Ab dz;clear bq aa bn k1 fj cn ej fw fu d9 E G dh fp dq cw dz hx;go_wp2;refine bodyPost_ret (v:=.agg #[.string nm,.slice al a3 ar,.int .i64 (st:Int),.int .i64 (nd:Int),.bool gb,.int .u32 (mt:Int),.slice ba pl bb,.int .u32 (cr:Int)]) ?_ rfl (.inr ⟨⟨⟨⟨o8 b3,o8 ys,(st:Int),(nd:Int),gb⟩,mt,bw,cr⟩,al,ar,ba,bb⟩,bo,Aa Y,Aa h4,di, ?_,Aa ie,Aa eg,Aa gx,Aa hk⟩)
 . exact results_cell_row rfl _ _ _ _ _ _ _ rfl (Aa g7) Tryz.underlying71 rfl (by kernel_rfl)
 . unfold Ev.val;dsimp only;rw[Aa ig,Ey,Aa gq,(Aa ei).1]
structure ERd (w:World)(b:Nat)(a:Option Addr)(n cap:Nat)(bs:List Nat)(v:Value)(es:List Ev)(q:Nat)(wr:World):Prop where
 z:ZT w b (.slice a n cap) q wr
 row:ERow wr w.heap.size v es
 pks:∀x∈es,∀W,ZRow W b a n cap bs->PkIn W x.pa x.pc x.e.pk
 fas:∀x∈es,∀g o,x.fa=some ⟨g,o,none⟩->x.e.f.bytes≠ []->w.heap.size<=g
theorem ERd.call {w wr w':World}{b n H q q':Nat}{a:Option Addr}{bs:List Nat}{v:Value}{T:List Ev}(E:ERd w b a n H bs v T q wr)(ae:b<w.heap.size)(U:ZRow w b a n H bs)(F:ZT wr b (.slice a n H) q' w'):ERd w b a n H bs v T q' w':=by
 have aa:ZRow w' b a n H bs:=(U.after E.z).after F;refine⟨E.z.trans F,⟨Au E.row.own (fun g G=>F.keep g (by have:=(E.row.own.lt g G).1;omega) (E.row.own.lt g G).2),fun x M=> ?_,E.row.apart⟩,E.pks,E.fas⟩;have I:=E.row.all x M;refine⟨⟨?_,I.fb.2⟩,I.fl,I.big,I.txt,E.pks x M w' aa⟩
 by_cases O:n8 x.e.f.bytes= []
 . exact .inl O
 . rcases I.fb.1 with Y|⟨g,o,e,G,hc⟩
   . exact absurd Y O
   . have ac:=E.fas x M g o e (NM O);exact .inr ⟨g,o,e,VG G F.below.size,fun j Z=>(World.cell?_of_block (w:=wr) (a:=⟨g,_,none⟩) (F.keep g (by omega) G)).trans (hc j Z)⟩
theorem ERd.later {w wr w':World}{b n H q:Nat}{a:Option Addr}{bs:List Nat}{v:Value}{G:List Ev}(E:ERd w b a n H bs v G q wr)(F:Below wr.heap.size wr w'):ERd w b a n H bs v G q w':=by
 have hb:=(VK.1 E.z.is).1;have O:=E.z.below.size;exact⟨⟨(F.block b hb).trans E.z.is,E.z.below.trans (F.mono (by omega)),fun g M I=>(F.block g (by omega)).trans (E.z.keep g M I)⟩,E.row.below F,E.pks,E.fas⟩
theorem ERd.app {w W H:World}{b n M q:Nat}{a:Option Addr}{bs:List Nat}{v v':Value}{G:List Ev}{x:Ev}(F:ERd w b a n M bs v G q W)(ac:b<w.heap.size)(I:W.grownBy H v.ownBlock)(ae:ERow H w.heap.size v' (G++ [x]))(U:∀W,ZRow W b a n M bs->PkIn W x.pa x.pc x.e.pk)(Z:∀g o,x.fa=some ⟨g,o,none⟩->x.e.f.bytes≠ []->w.heap.size<=g):ERd w b a n M bs v' (G++ [x]) q H:=by
 have Y:=(VK.1 F.z.is).1;have af:=F.z.below.size;have T:∀g,g<w.heap.size->some g≠v.ownBlock:=fun g ag e=>by have:=(F.row.own.lt g e.symm).1;omega
 refine⟨⟨(I.block b Y (T b ac)).trans F.z.is,F.z.below.grown I (by omega) (fun g e=>by have:=(F.row.own.lt g e).1;omega),fun g aa O=>(I.block g (by omega) (T g O)).trans (F.z.keep g aa O)⟩,ae,fun y E=> ?_,fun y E=> ?_⟩
 . rcases WP.1 E with E|E
   . exact F.pks y E
   . rw[WO.1 E];exact U
 . rcases WP.1 E with E|E
   . exact F.fas y E
   . rw[WO.1 E];exact Z
def Z8j:Value->Nat
 | .slice _ n _=>n
 |_=>0
theorem ERow.len {w:World}{B:Nat}{v:Value}{xs:List Ev}(E:ERow w B v xs):Z8j v=xs.length:=by
 obtain⟨a,c,rfl⟩:=An E.own;rfl
def Z24 (w:World)(b:Nat)(a:Option Addr)(n cap:Nat)(bs:List Nat)(e:Ending)(w':World):Prop:=
 (Cd (n+1) bs=none/\e=Z31/\∃q,ZT w b (.slice a n cap) q w')\/ (∃v es q,Cd (n+1) bs=some (es.map Ev.e)/\e=.returned v/\ERd w b a n cap bs v es q w')
theorem IF {F:Nat}{r m q:List Nat}(E:Dy 4 r=some (m,q))(G:Ak m≠67324752):Cd (F+1) r=some []:=by
 unfold Cd;rw[E,VF];dsimp only;rw[if_neg G]
theorem IE {F:Nat}{r:List Nat}(E:Dy 4 r=none):Cd (F+1) r=none:=by
 unfold Cd;rw[E];rfl
theorem Vt {F:Nat}{r m q:List Nat}(E:Dy 4 r=some (m,q))(G:Ak m=67324752)(H:Fe q=none):Cd (F+1) r=none:=by
 unfold Cd;rw[E,VF];dsimp only;rw[if_pos G,H];rfl
theorem Vu {F:Nat}{r m q q':List Nat}{x:En}(E:Dy 4 r=some (m,q))(G:Ak m=67324752)(H:Fe q=some (x,q')):Cd (F+1) r=(Cd F q').map (x:: ·):=by
 conv=>lhs;unfold Cd
 rw[E,VF];dsimp only;rw[if_pos G,H];rfl
theorem TI (m:Nat)(E:m≠67324752):((m:Int)==67324752)=false:=by rw[beq_eq_false_iff_ne];omega
def Z5x (bs:List Nat):Prop:=Z5u\/∃l,Cd (bs.length+1) bs=some l/\∀x∈l,x.meth≠8
theorem PX {r q:List Nat}{x:En}(E:Fe r=some (x,q)):x.meth=Ak ((r.drop 4).take 2):=by
 unfold Fe at E;obtain⟨G,r1,rfl,l1,E⟩:=Ap E;dsimp only at E;obtain⟨F,r2,rfl,l2,E⟩:=Ap E;dsimp only at E;rw[YT l1,YS l2]
 iterate 12 (obtain⟨_,_,rfl,_,E⟩:=Ap E;dsimp only at E)
 obtain⟨b,hb,E⟩:=Option.bind_eq_some_iff.1 E;simp only[YB,YD]at E;rw[<-E.1]
theorem Zb (b n E:Nat)(a:Option Addr)(bs:List Nat)(w:World)(az:w.heap[b]? =some (.cells #[.slice a n E,.int .i64 0] 116 (0,0)))(av:ZRow w b a n E bs)(bj:Z5x bs):
 Calls Tryz.prog 65 #[.pointer (some ⟨b,0,none⟩)] w fun e w'=>Z24 w b a n E bs e w':=by
 have hb:b<w.heap.size:=(VK.1 az).1;have a2:=av.len;have cp:=av.few;have al:=Ab av;have b5:=Ab bj;clear bj;have b9:Hid (ERd w b a n E bs (.slice none 0 0) [] 0 w):=Ab ⟨⟨az,Below.refl _ _,fun _ _ _=>rfl⟩,ERow.nil _ _,(fun x a6=>absurd a6 XE),(fun x a6=>absurd a6 XE)⟩;clear az av;go_enter Tryz.func65,Tryz.ntmps65
 go_wp2;go_loopw [3] (fun v wr=>∃(es:List Ev) (q F:Nat),q<=n/\n-q<F/\Hid ((Cd F (bs.drop q)).map (es.map Ev.e++ ·)=Cd (n+1) bs)/\Hid (es.length*41<=q)/\Hid (ERd w b a n E bs v es q wr)) (fun v _=>n+1-Z8j v)
 case atStart=>exact⟨[],0,n+1,VH _,by omega,Ab (by rw[List.drop_zero];cases Cd (n+1) bs<;>simp),Ab (VH _),b9⟩
 case round=>
  obtain⟨es,q,F,bf,cj,M,a5,O⟩:=hrel;obtain⟨F,rfl⟩:∃b3,F=b3+1:=⟨F-1,by omega⟩
  have a1:=(Aa al).after (Aa O).z;have a9:=a1.val;obtain⟨x4,ar⟩:=exq ((bs.drop q).take 4);obtain⟨Z,ak⟩:=exq (q+4);have bc:=Ex a9 q 4;obtain⟨m,hm⟩:=exq (Ak x4);rw[ar,hm]at bc;simp only[Nat.reducePow]at bc;have ah:=Ab (Et b q 4 n E a bs wr (Aa O).z.is bf a1 (by decide));rw[ar,ak,hm]at ah;have G:Hid ((Z<=n->Dy 4 (bs.drop q)=some (x4,bs.drop Z))/\(n<Z->Dy 4 (bs.drop q)=none)):=Ab ⟨fun h=>by rw[<-ar];exact Dt a2 ak h,fun h=>Cc a2 ak bf h⟩;have ae:=Ab hm;have a7:=Ab ak;have bm:=(Aa O).row.len;have bz:=Ab bm;clear a1 a9 ar hm bm ak;go_wp2_with fail
  refine(Aa ah).mono ?_;rintro e aw (⟨T,rfl,ac⟩|⟨T,rfl,ac⟩)
  . have af:Hid (Z24 w b a n E bs Z31 aw):=Ab (.inl ⟨by rw[<-Aa M,IE ((Aa G).2 T)];rfl,rfl,q,(Aa O).z.trans ac⟩);clear ac O ah G M;go_wp2;exact⟨rfl,Aa af⟩
  . have Y:=(Aa O).call hb (Aa al) ac
    by_cases au:m=67324752
    . subst au;have ag:=Ab Y
      have bi:Z5u\/Ak ((bs.drop (Z+4)).take 2)≠8:=by
       rcases Aa b5 with h|⟨l,ba,bw⟩
       . exact .inl h
       . refine .inr ?_;have I:=Aa M;rw[a2]at ba;rw[ba]at I
         cases H:Fe (bs.drop Z)with
         |none=>rw[Vt ((Aa G).1 T) (Aa ae) H]at I;cases I
         |some y=>
          rw[Vu ((Aa G).1 T) (Aa ae) (x:=y.1) (q':=y.2) H]at I
          cases ao:Cd F y.2 with
          |none=>rw[ao]at I;cases I
          |some l2=>
           rw[ao]at I;simp only[Option.map_some,YB]at I;have ap:=bw y.1 (by rw[<-I];simp);rw[PX (x:=y.1) (q:=y.2) H,YK]at ap;exact ap
      have ay:=Ab (EC b Z n E a bs aw Y.z.is T ((Aa al).after Y.z) bi);clear bi;have co:=Y.z.below.size;clear ac O ah Y;go_wp2_with fail
      refine(Aa ay).mono ?_;rintro e U (⟨H,rfl,aa,ai⟩|⟨x,aa,H,cq,b0,rfl,bg,ax,a3,ai⟩)
      . have af:Hid (Z24 w b a n E bs Z31 U):=Ab (.inl ⟨by rw[<-Aa M,Vt ((Aa G).1 T) (Aa ae) H];rfl,rfl,aa,(Aa ag).z.trans ai⟩);clear ai ag ay G M H;go_wp2;exact⟨rfl,Aa af⟩
      . have a4:=(Aa ag).call hb (Aa al) ai
        have ce:Hid ((Cd F (bs.drop aa)).map ((es++ [x]).map Ev.e++ ·)=Cd (n+1) bs):=Ab (by
         rw[<-Aa M,Vu ((Aa G).1 T) (Aa ae) H]
         cases Cd F (bs.drop aa)<;>simp)
        have bv:Hid ((es++ [x]).length*41<=aa):=Ab (by
         have:=Aa a5
         have:=Aa a7
         rw[VE,List.length_singleton];omega)
        have bb:x.lies (fun g=>some g≠(u3).ownBlock):=by
         constructor
         . intro g o aj e2 e3;have ao:=a3 g o aj e2;have ap:=((Aa ag).row.own.lt g e3.symm).2;omega
         . intro g o aj e2 e3;have ao:=Xm (ax w (Aa al)) g o aj e2;have ap:=((Aa ag).row.own.lt g e3.symm).1;omega
        have bh:=Ab (fun o1:Obj=>a4.later ((Below.refl _ _).alloc (VB _) o1));have bq:=Ab (fun o1:Obj=>bg.below ((Below.refl U.heap.size U).alloc (VB _) o1));have b4:=Ab bb;have b7:=Ab ax;have b8:Hid (∀g o,x.fa=some ⟨g,o,none⟩->x.e.f.bytes≠ []->w.heap.size<=g):=Ab (fun g o aj e2=>by have:=a3 g o aj e2;omega);have ck:=a4.z.below.size;have bd:es.length+1<=100000:=by have:=Aa a5;omega
        have cd:=Ab bd
        have bu:Hid (∀o1,o1=Obj.cells x.cells.toArray 71->∀j u,x.cells[j]? =some u->(U.alloc o1).cell? ⟨U.heap.size,j,none⟩=some u):=Ab (fun o1 e j u bo=>by
         subst e;rw[Ac (heap_alloc_new U _)];simpa using bo)
        clear ai a4 bb bg ax a3 H bd G ay ae;unfold Ev.val;go_wp2_with (at_builtin;refine Fr _ rfl _ _ rfl w.heap.size _ es rfl (Aa bh _).row U.heap.size x rfl (Aa bu _ rfl) (Aa bq _) (Aa b4) (Aa cd) (by simp;omega) ?_)
        intro v' w3 bn a8;have bk:Hid (ERd w b a n E bs v' (es++ [x]) aa w3):=Ab ((Aa bh _).app hb (Aa a8) (Aa bn) (Aa b7) (Aa b8));have cg:=(Aa bk).row.len;clear bn a8;go_wp2;go_roundw
        case rel=>exact⟨es++ [x],aa,F,b0,by have:=Aa a7;omega,ce,bv,bk⟩
        case measure=>
         have cm:=Aa bz;rw[VE,List.length_singleton]at cg;have cn:=Aa a5;simp
         omega
    . have af:Hid (Z24 w b a n E bs (.returned u3) aw):=Ab (.inr ⟨u3,es,Z,by rw[<-Aa M,IF ((Aa G).1 T) (by rw[Aa ae];exact au)];simp,rfl,Y⟩);have ci:=TI m au;clear ac O ah G M Y au;go_wp2;go_ret;exact Aa af
end Go.Proofs.YtleocpdblhbimaaGreatDoor
