import Derived.Test.YtleocpdblhbimaaGreatDoorQ12
import Derived.Laws.ResultCell
import Derived.Defers
import Derived.Recover
import Derived.Laws.Pointers
set_option linter.unusedSimpArgs false
set_option maxHeartbeats 8000000
namespace Go.Proofs.YtleocpdblhbimaaGreatDoor
open Go.RowKit
set_option linter.unusedVariables false
set_option maxRecDepth 100000
theorem Dt {bs:List Nat}{p k q n:Nat}(F:bs.length=n)(E:p+k=q)(G:q<=n):Dy k (bs.drop p)=some ((bs.drop p).take k,bs.drop q):=by
 unfold Dy;rw[if_neg (by rw[VQ];omega),YK,E]
theorem Cc {bs:List Nat}{p k q n:Nat}(E:bs.length=n)(H:p+k=q)(G:p<=n)(F:n<q):Dy k (bs.drop p)=none:=by
 unfold Dy;rw[if_pos (by rw[VQ];omega)]
abbrev ec (v0 v1 v2 v3 v4 v5 v6 v7:Value):Array Value:= #[v0,v1,v2,v3,v4,v5,v6,v7]
abbrev ez:Array Value:=ec (.string ⟨#[]⟩) (.slice none 0 0) (.int .i64 0) (.int .i64 0) (.bool false) (.int .u32 0) (.slice none 0 0) (.int .u32 0)
structure EW (w:World)(b:Nat)(R:Value)(p:Nat)(cs:Array Value)(wk:World):Prop where
 z:ZT w b R p wk
 x:wk.heap[w.heap.size+1]? =some (.cells cs 71 (0,0))
 r:wk.heap[w.heap.size]? =some (.cells ez 71 (0,0))
theorem EW.call {w G w':World}{b p q:Nat}{R:Value}{H:Array Value}(E:EW w b R p H G)(M:b<w.heap.size)(F:ZT G b R q w'):EW w b R q H w':=by
 have I:=(VK.1 E.x).1;exact⟨E.z.trans F,(F.keep _ (by omega) I).trans E.x,(F.keep _ (by omega) (by omega)).trans E.r⟩
theorem EW.set {w F:World}{b p:Nat}{R:Value}{H:Array Value}(E:EW w b R p H F)(Y:b<w.heap.size)(i:Nat)(v:Value)(I:Array Value)(O:H.setIfInBounds i v=I):EW w b R p I (F.setCell ⟨w.heap.size+1,i,none⟩ v):=by
 have U:=(VK.1 E.x).1;have G:=Ad F (w.heap.size+1) i v;refine⟨⟨(G.block b (by omega) (by simp;omega)).trans E.z.is,E.z.below.grown G (by omega) (fun g e=>by cases e;omega),fun g T M=>(G.block g (by omega) (by simp;omega)).trans (E.z.keep g T M)⟩, ?_,(G.block _ (by omega) (by simp)).trans E.r⟩;rw[heap_setCell_same F _ i _ _ _ E.x,O]
theorem EW.later {w G w':World}{b p:Nat}{R:Value}{H:Array Value}(E:EW w b R p H G)(T:b<w.heap.size)(F:Below G.heap.size G w'):EW w b R p H w':=by
 have I:=(VK.1 E.x).1;refine⟨⟨(F.block b (by omega)).trans E.z.is,E.z.below.trans (F.mono (by omega)),fun g O M=>(F.block g (by omega)).trans (E.z.keep g O M)⟩,(F.block _ I).trans E.x,(F.block _ (by omega)).trans E.r⟩
theorem EW.cell {w E:World}{b p:Nat}{R:Value}{G:Array Value}(F:EW w b R p G E)(i:Nat):E.cell? ⟨w.heap.size+1,i,none⟩=G[i]? /\E.frozen? ⟨w.heap.size+1,i,none⟩=false:=⟨Ac F.x,frozen_of_row E _ i _ _ F.x⟩
theorem Ex {bs:List Nat}(F:∀x∈bs,x<256)(p k:Nat):Ak ((bs.drop p).take k)<256^k:=by
 refine VG (Jx _ (fun x E=>F x (VW (VR E)))) (VO (by decide) ?_);rw[VL];exact ZP _ _
abbrev Ni (W:World)(g:Nat)(v0 v1 v2 v3 v4 v5 v6 v7:Value):World:=(((((((W.setCell ⟨g,0,none⟩ v0).setCell ⟨g,1,none⟩ v1).setCell ⟨g,2,none⟩ v2).setCell ⟨g,3,none⟩ v3).setCell ⟨g,4,none⟩ v4).setCell ⟨g,5,none⟩ v5).setCell ⟨g,6,none⟩ v6).setCell ⟨g,7,none⟩ v7
theorem Z7g (W:World)(E:Nat)(t:TypeId)(au ar aa ai ae aj ao ap T H F I U M O G:Value)(h:W.heap[E]? =some (.cells #[au,ar,aa,ai,ae,aj,ao,ap] t (0,0))):
 (Ni W E T H F I U M O G).heap[E]? =some (.cells #[T,H,F,I,U,M,O,G] t (0,0))/\W.grownBy (Ni W E T H F I U M O G) (some E):=by
 have ag:=heap_setCell_same W E 0 _ _ T h;have Y:=heap_setCell_same _ E 1 _ _ H ag;have ak:=heap_setCell_same _ E 2 _ _ F Y;have af:=heap_setCell_same _ E 3 _ _ I ak;have Z:=heap_setCell_same _ E 4 _ _ U af;have al:=heap_setCell_same _ E 5 _ _ M Z;have ah:=heap_setCell_same _ E 6 _ _ O al;have ac:=heap_setCell_same _ E 7 _ _ G ah;exact⟨ac,Aj (Aj (Aj (Aj (Aj (Aj (Aj (Ad _ _ _ _) (Ad _ _ _ _)) (Ad _ _ _ _)) (Ad _ _ _ _)) (Ad _ _ _ _)) (Ad _ _ _ _)) (Ad _ _ _ _)) (Ad _ _ _ _)⟩
def Z9m (w:World)(b:Nat)(a:Option Addr)(n cap:Nat)(bs:List Nat)(p:Nat)(e:Ending)(w':World):Prop:=
 (Fe (bs.drop p)=none/\e=Z31/\∃q,ZT w b (.slice a n cap) q w')\/ (∃(x:Ev) (q:Nat),Fe (bs.drop p)=some (x.e,bs.drop q)/\p+37<=q/\q<=n/\e=.returned x.val/\EvIn w' x/\(∀W,ZRow W b a n cap bs->PkIn W x.pa x.pc x.e.pk)/\(∀g o,x.fa=some ⟨g,o,none⟩->x.e.f.bytes≠ []->w.heap.size<=g)/\ZT w b (.slice a n cap) q w')
theorem EC (b p n ag:Nat)(a:Option Addr)(bs:List Nat)(w:World)(ej:w.heap[b]? =some (.cells #[.slice a n ag,.int .i64 (p:Int)] 116 (0,0)))(iq:p<=n)(c8:ZRow w b a n ag bs)(e9:Z5u\/Ak ((bs.drop (p+4)).take 2)≠8):
 Calls Tryz.prog 101 #[.pointer (some ⟨b,0,none⟩)] w fun e w'=>Z9m w b a n ag bs p e w':=by
 have hb:b<w.heap.size:=(VK.1 ej).1;have af:=c8.val;have T:=c8.len;have ij:=c8.few;have ai:=Ab c8
 have E:Hid (EW w b (.slice a n ag) p ez ((w.alloc (.cells ez 71)).alloc (.cells ez 71))):=Ab (by
  have bq:Below w.heap.size w ((w.alloc (.cells ez 71)).alloc (.cells ez 71)):=((Below.refl _ _).alloc (VB _) _).alloc (by simp) _;refine⟨⟨(bq.block b hb).trans ej,bq.mono (by omega),fun g _ g0=>bq.block g g0⟩, ?_, ?_⟩
  . have:=heap_alloc_new (w.alloc (.cells ez 71)) (.cells ez 71)
    simpa using this
  . exact(Below.heap_alloc _ _ _ (by simp)).trans (heap_alloc_new w _))
 have fp:=Ab e9;clear ej c8 e9;go_enter Tryz.func101,Tryz.ntmps101
 obtain⟨x1,de⟩:=exq ((bs.drop p).take 4);obtain⟨a4,c5⟩:=exq (p+4);have G:=Ab (Dv b p 4 n ag a bs _ (Aa E).z.is (by omega) ((Aa ai).after (Aa E).z) (by omega));rw[de,c5]at G;have H:Hid ((a4<=n->Dy 4 (bs.drop p)=some (x1,bs.drop a4))/\(n<a4->Dy 4 (bs.drop p)=none)):=Ab ⟨fun h=>by rw[<-de];exact Dt T c5 h,fun h=>Cc T c5 (by omega) h⟩;have O:Hid (a4<=n->x1.length=4):=Ab (fun h=>by rw[<-de,VL,VQ,T];omega);have M:Hid (∀y∈x1,y<256):=Ab (fun y U=>by rw[<-de]at U;exact af y (VW (VR U)));have fj:=Ab c5;clear de c5;go_wp2_with fail
 refine(Aa G).mono ?_;rintro e jb (⟨da,rfl,F⟩|⟨da,⟨sa1,jp,rfl,i5,hh⟩,F⟩)
 . have Z:=Ab ((Aa E).z.trans F)
   have Y:Hid (Fe (bs.drop p)=none):=Ab (by
    have gn:=(Aa H).2 da;unfold Fe;rw[gn];rfl)
   clear F E G H O M;go_wp2;exact⟨rfl,.inl ⟨Aa Y,rfl,_,Aa Z⟩⟩
 have aj:=Ab ((Aa H).1 da);have I:=Ab ((Aa E).call hb F);clear hh;clear F E G H O M;have E:=I;clear I;obtain⟨x2,b0⟩:=exq ((bs.drop a4).take 2);obtain⟨bh,ds⟩:=exq (a4+2);have f4:=Ex af a4 2;obtain⟨mt,cj⟩:=exq (Ak x2);have hu:Hid (Z5u\/mt≠8):=Ab (by rw[<-cj,<-b0,<-Aa fj];exact Aa fp);clear fp;rw[b0,cj]at f4;simp only[Nat.reducePow]at f4;have G:=Ab (Et b a4 2 n ag a bs _ (Aa E).z.is (by omega) ((Aa ai).after (Aa E).z) (by decide));rw[b0,ds,cj]at G;have ff:=Ab cj;clear cj;have H:Hid ((bh<=n->Dy 2 (bs.drop a4)=some (x2,bs.drop bh))/\(n<bh->Dy 2 (bs.drop a4)=none)):=Ab ⟨fun h=>by rw[<-b0];exact Dt T ds h,fun h=>Cc T ds (by omega) h⟩;have O:Hid (bh<=n->x2.length=2):=Ab (fun h=>by rw[<-b0,VL,VQ,T];omega);have M:Hid (∀y∈x2,y<256):=Ab (fun y U=>by rw[<-b0]at U;exact af y (VW (VR U)));have ha:=Ab ds;clear b0 ds;go_wp2_with fail
 refine(Aa G).mono ?_;rintro e jk (⟨cp,rfl,F⟩|⟨cp,rfl,F⟩)
 . have Z:=Ab ((Aa E).z.trans F)
   have Y:Hid (Fe (bs.drop p)=none):=Ab (by
    have g1:=Aa aj;have gn:=(Aa H).2 cp;unfold Fe;rw[g1,VF];dsimp only;rw[gn];rfl)
   clear F E G H O M;go_wp2;exact⟨rfl,.inl ⟨Aa Y,rfl,_,Aa Z⟩⟩
 have ao:=Ab ((Aa H).1 cp);have I:=Ab ((Aa E).call hb F);clear F E G H O M;have E:=I;clear I;have dm:=((Aa E).cell 5).1;have i7:=((Aa E).cell 5).2;simp only[VZ,VY,WI]at dm;have I:=Ab ((Aa E).set hb 5 (.int .u32 (mt:Int)) (ec (.string ⟨#[]⟩) (.slice none 0 0) (.int .i64 0) (.int .i64 0) (.bool false) (.int .u32 (mt:Int)) (.slice none 0 0) (.int .u32 0)) rfl);clear E;have E:=I;clear I;obtain⟨x3,c9⟩:=exq ((bs.drop bh).take 4);obtain⟨a3,dt⟩:=exq (bh+4);have G:=Ab (Dv b bh 4 n ag a bs _ (Aa E).z.is (by omega) ((Aa ai).after (Aa E).z) (by omega));rw[c9,dt]at G;have H:Hid ((a3<=n->Dy 4 (bs.drop bh)=some (x3,bs.drop a3))/\(n<a3->Dy 4 (bs.drop bh)=none)):=Ab ⟨fun h=>by rw[<-c9];exact Dt T dt h,fun h=>Cc T dt (by omega) h⟩;have O:Hid (a3<=n->x3.length=4):=Ab (fun h=>by rw[<-c9,VL,VQ,T];omega);have M:Hid (∀y∈x3,y<256):=Ab (fun y U=>by rw[<-c9]at U;exact af y (VW (VR U)));have f9:=Ab dt;clear c9 dt;go_wp2_with fail
 refine(Aa G).mono ?_;rintro e w3 (⟨eh,rfl,F⟩|⟨eh,⟨ju,iz,rfl,js,hz⟩,F⟩)
 . have Z:=Ab ((Aa E).z.trans F)
   have Y:Hid (Fe (bs.drop p)=none):=Ab (by
    have g1:=Aa aj;have g2:=Aa ao;have gn:=(Aa H).2 eh;unfold Fe;rw[g1,VF];dsimp only;rw[g2,VF];dsimp only;rw[gn];rfl)
   clear F E G H O M;go_wp2;exact⟨rfl,.inl ⟨Aa Y,rfl,_,Aa Z⟩⟩
 have ar:=Ab ((Aa H).1 eh);have I:=Ab ((Aa E).call hb F);clear hz;clear F E G H O M;have E:=I;clear I;obtain⟨x4,cg⟩:=exq ((bs.drop a3).take 4);obtain⟨a8,cn⟩:=exq (a3+4);have fg:=Ex af a3 4;obtain⟨cr,dw⟩:=exq (Ak x4);rw[cg,dw]at fg;simp only[Nat.reducePow]at fg;have G:=Ab (Et b a3 4 n ag a bs _ (Aa E).z.is (by omega) ((Aa ai).after (Aa E).z) (by decide));rw[cg,cn,dw]at G;have h0:=Ab dw;clear dw;have H:Hid ((a8<=n->Dy 4 (bs.drop a3)=some (x4,bs.drop a8))/\(n<a8->Dy 4 (bs.drop a3)=none)):=Ab ⟨fun h=>by rw[<-cg];exact Dt T cn h,fun h=>Cc T cn (by omega) h⟩;have O:Hid (a8<=n->x4.length=4):=Ab (fun h=>by rw[<-cg,VL,VQ,T];omega);have M:Hid (∀y∈x4,y<256):=Ab (fun y U=>by rw[<-cg]at U;exact af y (VW (VR U)));have h4:=Ab cn;clear cg cn;go_wp2_with fail
 refine(Aa G).mono ?_;rintro e ip (⟨e6,rfl,F⟩|⟨e6,rfl,F⟩)
 . have Z:=Ab ((Aa E).z.trans F)
   have Y:Hid (Fe (bs.drop p)=none):=Ab (by
    have g1:=Aa aj;have g2:=Aa ao;have g3:=Aa ar;have gn:=(Aa H).2 e6;unfold Fe;rw[g1,VF];dsimp only;rw[g2,VF];dsimp only;rw[g3,VF];dsimp only;rw[gn];rfl)
   clear F E G H O M;go_wp2;exact⟨rfl,.inl ⟨Aa Y,rfl,_,Aa Z⟩⟩
 have aw:=Ab ((Aa H).1 e6);have I:=Ab ((Aa E).call hb F);clear F E G H O M;have E:=I;clear I;have h8:=((Aa E).cell 7).1;have jm:=((Aa E).cell 7).2;simp only[VZ,VY,WI]at h8;have I:=Ab ((Aa E).set hb 7 (.int .u32 (cr:Int)) (ec (.string ⟨#[]⟩) (.slice none 0 0) (.int .i64 0) (.int .i64 0) (.bool false) (.int .u32 (mt:Int)) (.slice none 0 0) (.int .u32 (cr:Int))) rfl);clear E;have E:=I;clear I;obtain⟨bz,ce⟩:=exq ((bs.drop a8).take 4);obtain⟨bi,dh⟩:=exq (a8+4);have fo:=Ex af a8 4;obtain⟨pl,d5⟩:=exq (Ak bz);rw[ce,d5]at fo;simp only[Nat.reducePow]at fo;have G:=Ab (Et b a8 4 n ag a bs _ (Aa E).z.is (by omega) ((Aa ai).after (Aa E).z) (by decide));rw[ce,dh,d5]at G;have et:=Ab d5;clear d5;have H:Hid ((bi<=n->Dy 4 (bs.drop a8)=some (bz,bs.drop bi))/\(n<bi->Dy 4 (bs.drop a8)=none)):=Ab ⟨fun h=>by rw[<-ce];exact Dt T dh h,fun h=>Cc T dh (by omega) h⟩;have O:Hid (bi<=n->bz.length=4):=Ab (fun h=>by rw[<-ce,VL,VQ,T];omega);have M:Hid (∀y∈bz,y<256):=Ab (fun y U=>by rw[<-ce]at U;exact af y (VW (VR U)));have ig:=Ab dh;clear ce dh;go_wp2_with fail
 refine(Aa G).mono ?_;rintro e jj (⟨ew,rfl,F⟩|⟨ew,rfl,F⟩)
 . have Z:=Ab ((Aa E).z.trans F)
   have Y:Hid (Fe (bs.drop p)=none):=Ab (by
    have g1:=Aa aj;have g2:=Aa ao;have g3:=Aa ar;have ac:=Aa aw;have gn:=(Aa H).2 ew;unfold Fe;rw[g1,VF];dsimp only;rw[g2,VF];dsimp only;rw[g3,VF];dsimp only;rw[ac,VF];dsimp only;rw[gn];rfl)
   clear F E G H O M;go_wp2;exact⟨rfl,.inl ⟨Aa Y,rfl,_,Aa Z⟩⟩
 have a1:=Ab ((Aa H).1 ew);have I:=Ab ((Aa E).call hb F);clear F E G H O M;have E:=I;clear I;obtain⟨eu,cy⟩:=exq ((bs.drop bi).take 4);obtain⟨bc,cq⟩:=exq (bi+4);have G:=Ab (Dv b bi 4 n ag a bs _ (Aa E).z.is (by omega) ((Aa ai).after (Aa E).z) (by omega));rw[cy,cq]at G;have H:Hid ((bc<=n->Dy 4 (bs.drop bi)=some (eu,bs.drop bc))/\(n<bc->Dy 4 (bs.drop bi)=none)):=Ab ⟨fun h=>by rw[<-cy];exact Dt T cq h,fun h=>Cc T cq (by omega) h⟩;have O:Hid (bc<=n->eu.length=4):=Ab (fun h=>by rw[<-cy,VL,VQ,T];omega);have M:Hid (∀y∈eu,y<256):=Ab (fun y U=>by rw[<-cy]at U;exact af y (VW (VR U)));have gg:=Ab cq;clear cy cq;go_wp2_with fail
 refine(Aa G).mono ?_;rintro e w6 (⟨ei,rfl,F⟩|⟨ei,⟨jt,i0,rfl,jc,gh⟩,F⟩)
 . have Z:=Ab ((Aa E).z.trans F)
   have Y:Hid (Fe (bs.drop p)=none):=Ab (by
    have g1:=Aa aj;have g2:=Aa ao;have g3:=Aa ar;have ac:=Aa aw;have ae:=Aa a1;have gn:=(Aa H).2 ei;unfold Fe;rw[g1,VF];dsimp only;rw[g2,VF];dsimp only;rw[g3,VF];dsimp only;rw[ac,VF];dsimp only;rw[ae,VF];dsimp only;rw[gn];rfl)
   clear F E G H O M;go_wp2;exact⟨rfl,.inl ⟨Aa Y,rfl,_,Aa Z⟩⟩
 have a9:=Ab ((Aa H).1 ei);have I:=Ab ((Aa E).call hb F);clear gh;clear F E G H O M;have E:=I;clear I;obtain⟨ax,cd⟩:=exq ((bs.drop bc).take 2);obtain⟨bd,di⟩:=exq (bc+2);have fu:=Ex af bc 2;obtain⟨al,d7⟩:=exq (Ak ax);rw[cd,d7]at fu;simp only[Nat.reducePow]at fu;have G:=Ab (Et b bc 2 n ag a bs _ (Aa E).z.is (by omega) ((Aa ai).after (Aa E).z) (by decide));rw[cd,di,d7]at G;have bn:=Ab d7;clear d7;have H:Hid ((bd<=n->Dy 2 (bs.drop bc)=some (ax,bs.drop bd))/\(n<bd->Dy 2 (bs.drop bc)=none)):=Ab ⟨fun h=>by rw[<-cd];exact Dt T di h,fun h=>Cc T di (by omega) h⟩;have O:Hid (bd<=n->ax.length=2):=Ab (fun h=>by rw[<-cd,VL,VQ,T];omega);have M:Hid (∀y∈ax,y<256):=Ab (fun y U=>by rw[<-cd]at U;exact af y (VW (VR U)));have gq:=Ab di;clear cd di;go_wp2_with fail
 refine(Aa G).mono ?_;rintro e im (⟨eo,rfl,F⟩|⟨eo,rfl,F⟩)
 . have Z:=Ab ((Aa E).z.trans F)
   have Y:Hid (Fe (bs.drop p)=none):=Ab (by
    have g1:=Aa aj;have g2:=Aa ao;have g3:=Aa ar;have ac:=Aa aw;have ae:=Aa a1;have g6:=Aa a9;have gn:=(Aa H).2 eo;unfold Fe;rw[g1,VF];dsimp only;rw[g2,VF];dsimp only;rw[g3,VF];dsimp only;rw[ac,VF];dsimp only;rw[ae,VF];dsimp only;rw[g6,VF];dsimp only;rw[gn];rfl)
   clear F E G H O M;go_wp2;exact⟨rfl,.inl ⟨Aa Y,rfl,_,Aa Z⟩⟩
 have bm:=Ab ((Aa H).1 eo);have I:=Ab ((Aa E).call hb F);clear F E G H O M;have E:=I;clear I;obtain⟨e0,ck⟩:=exq ((bs.drop bd).take 2);obtain⟨bk,cm⟩:=exq (bd+2);have G:=Ab (Dv b bd 2 n ag a bs _ (Aa E).z.is (by omega) ((Aa ai).after (Aa E).z) (by omega));rw[ck,cm]at G;have H:Hid ((bk<=n->Dy 2 (bs.drop bd)=some (e0,bs.drop bk))/\(n<bk->Dy 2 (bs.drop bd)=none)):=Ab ⟨fun h=>by rw[<-ck];exact Dt T cm h,fun h=>Cc T cm (by omega) h⟩;have O:Hid (bk<=n->e0.length=2):=Ab (fun h=>by rw[<-ck,VL,VQ,T];omega);have M:Hid (∀y∈e0,y<256):=Ab (fun y U=>by rw[<-ck]at U;exact af y (VW (VR U)));have hf:=Ab cm;clear ck cm;go_wp2_with fail
 refine(Aa G).mono ?_;rintro e jf (⟨e8,rfl,F⟩|⟨e8,⟨i9,i4,rfl,je,hs⟩,F⟩)
 . have Z:=Ab ((Aa E).z.trans F)
   have Y:Hid (Fe (bs.drop p)=none):=Ab (by
    have g1:=Aa aj;have g2:=Aa ao;have g3:=Aa ar;have ac:=Aa aw;have ae:=Aa a1;have g6:=Aa a9;have ah:=Aa bm;have gn:=(Aa H).2 e8;unfold Fe;rw[g1,VF];dsimp only;rw[g2,VF];dsimp only;rw[g3,VF];dsimp only;rw[ac,VF];dsimp only;rw[ae,VF];dsimp only;rw[g6,VF];dsimp only;rw[ah,VF];dsimp only;rw[gn];rfl)
   clear F E G H O M;go_wp2;exact⟨rfl,.inl ⟨Aa Y,rfl,_,Aa Z⟩⟩
 have bv:=Ab ((Aa H).1 e8);have I:=Ab ((Aa E).call hb F);clear hs;clear F E G H O M;have E:=I;clear I;obtain⟨b5,cz⟩:=exq ((bs.drop bk).take al);obtain⟨bf,dj⟩:=exq (bk+al);have G:=Ab (Dv b bk al n ag a bs _ (Aa E).z.is (by omega) ((Aa ai).after (Aa E).z) (by omega));rw[cz,dj]at G;have H:Hid ((bf<=n->Dy al (bs.drop bk)=some (b5,bs.drop bf))/\(n<bf->Dy al (bs.drop bk)=none)):=Ab ⟨fun h=>by rw[<-cz];exact Dt T dj h,fun h=>Cc T dj (by omega) h⟩;have O:Hid (bf<=n->b5.length=al):=Ab (fun h=>by rw[<-cz,VL,VQ,T];omega);have M:Hid (∀y∈b5,y<256):=Ab (fun y U=>by rw[<-cz]at U;exact af y (VW (VR U)));have gd:=Ab dj;clear cz dj;go_wp2_with fail
 refine(Aa G).mono ?_;rintro e ht (⟨dz,rfl,F⟩|⟨dz,⟨jq,jo,rfl,gx,fx⟩,F⟩)
 . have Z:=Ab ((Aa E).z.trans F)
   have Y:Hid (Fe (bs.drop p)=none):=Ab (by
    have g1:=Aa aj;have g2:=Aa ao;have g3:=Aa ar;have ac:=Aa aw;have ae:=Aa a1;have g6:=Aa a9;have ah:=Aa bm;have ak:=Aa bv;have gn:=(Aa H).2 dz;unfold Fe;rw[g1,VF];dsimp only;rw[g2,VF];dsimp only;rw[g3,VF];dsimp only;rw[ac,VF];dsimp only;rw[ae,VF];dsimp only;rw[g6,VF];dsimp only;rw[ah,VF];dsimp only;rw[show Ak ax=al from Aa bn];rw[ak,VF];dsimp only;rw[gn];rfl)
   clear F E G H O M;go_wp2;exact⟨rfl,.inl ⟨Aa Y,rfl,_,Aa Z⟩⟩
 have bw:=Ab ((Aa H).1 dz);have I:=Ab ((Aa E).call hb F);have dv:=Ab (And.intro ((Aa O) dz) (Aa M));have ia:=Ab fx;clear fx;clear F E G H O M;have E:=I;clear I;have fe:=Po (Z6e (Aa ia ht ((Aa ai).after (Aa E).z)) (by rw[(Aa dv).1];exact gx) (Aa dv).2);rw[Ey,(Aa dv).1]at fe;obtain⟨nm,e5⟩:=exq (B (o8 b5));rw[e5]at fe;have f6:=Ab e5;clear e5;have gi:=((Aa E).cell 0).1;have iy:=((Aa E).cell 0).2;simp only[VZ,VY]at gi;have I:=Ab ((Aa E).set hb 0 (.string nm) (ec (.string nm) (.slice none 0 0) (.int .i64 0) (.int .i64 0) (.bool false) (.int .u32 (mt:Int)) (.slice none 0 0) (.int .u32 (cr:Int))) rfl);clear E;have E:=I;clear I;obtain⟨e4,c7⟩:=exq ((bs.drop bf).take 4);obtain⟨a7,dq⟩:=exq (bf+4);have G:=Ab (Dv b bf 4 n ag a bs _ (Aa E).z.is (by omega) ((Aa ai).after (Aa E).z) (by omega));rw[c7,dq]at G;have H:Hid ((a7<=n->Dy 4 (bs.drop bf)=some (e4,bs.drop a7))/\(n<a7->Dy 4 (bs.drop bf)=none)):=Ab ⟨fun h=>by rw[<-c7];exact Dt T dq h,fun h=>Cc T dq (by omega) h⟩;have O:Hid (a7<=n->e4.length=4):=Ab (fun h=>by rw[<-c7,VL,VQ,T];omega);have M:Hid (∀y∈e4,y<256):=Ab (fun y U=>by rw[<-c7]at U;exact af y (VW (VR U)));have gz:=Ab dq;clear c7 dq;go_wp2_with fail
 refine(Aa G).mono ?_;rintro e jl (⟨ey,rfl,F⟩|⟨ey,⟨iu,jr,rfl,ik,hq⟩,F⟩)
 . have Z:=Ab ((Aa E).z.trans F)
   have Y:Hid (Fe (bs.drop p)=none):=Ab (by
    have g1:=Aa aj;have g2:=Aa ao;have g3:=Aa ar;have ac:=Aa aw;have ae:=Aa a1;have g6:=Aa a9;have ah:=Aa bm;have ak:=Aa bv;have av:=Aa bw;have gn:=(Aa H).2 ey;unfold Fe;rw[g1,VF];dsimp only;rw[g2,VF];dsimp only;rw[g3,VF];dsimp only;rw[ac,VF];dsimp only;rw[ae,VF];dsimp only;rw[g6,VF];dsimp only;rw[ah,VF];dsimp only;rw[show Ak ax=al from Aa bn];rw[ak,VF];dsimp only;rw[av,VF];dsimp only;rw[gn];rfl)
   clear F E G H O M;go_wp2;exact⟨rfl,.inl ⟨Aa Y,rfl,_,Aa Z⟩⟩
 have b9:=Ab ((Aa H).1 ey);have I:=Ab ((Aa E).call hb F);clear hq;clear F E G H O M;have E:=I;clear I;obtain⟨dl,b7⟩:=exq ((bs.drop a7).take 4);obtain⟨a6,db⟩:=exq (a7+4);have bst:=Ex af a7 4;obtain⟨st,dy⟩:=exq (Ak dl);rw[b7,dy]at bst;simp only[Nat.reducePow]at bst;have G:=Ab (Et b a7 4 n ag a bs _ (Aa E).z.is (by omega) ((Aa ai).after (Aa E).z) (by decide));rw[b7,db,dy]at G;have h2:=Ab dy;clear dy;have H:Hid ((a6<=n->Dy 4 (bs.drop a7)=some (dl,bs.drop a6))/\(n<a6->Dy 4 (bs.drop a7)=none)):=Ab ⟨fun h=>by rw[<-b7];exact Dt T db h,fun h=>Cc T db (by omega) h⟩;have O:Hid (a6<=n->dl.length=4):=Ab (fun h=>by rw[<-b7,VL,VQ,T];omega);have M:Hid (∀y∈dl,y<256):=Ab (fun y U=>by rw[<-b7]at U;exact af y (VW (VR U)));have hg:=Ab db;clear b7 db;go_wp2_with fail
 refine(Aa G).mono ?_;rintro e i3 (⟨ee,rfl,F⟩|⟨ee,rfl,F⟩)
 . have Z:=Ab ((Aa E).z.trans F)
   have Y:Hid (Fe (bs.drop p)=none):=Ab (by
    have g1:=Aa aj;have g2:=Aa ao;have g3:=Aa ar;have ac:=Aa aw;have ae:=Aa a1;have g6:=Aa a9;have ah:=Aa bm;have ak:=Aa bv;have av:=Aa bw;have az:=Aa b9;have gn:=(Aa H).2 ee;unfold Fe;rw[g1,VF];dsimp only;rw[g2,VF];dsimp only;rw[g3,VF];dsimp only;rw[ac,VF];dsimp only;rw[ae,VF];dsimp only;rw[g6,VF];dsimp only;rw[ah,VF];dsimp only;rw[show Ak ax=al from Aa bn];rw[ak,VF];dsimp only;rw[av,VF];dsimp only;rw[az,VF];dsimp only;rw[gn];rfl)
   clear F E G H O M;go_wp2;exact⟨rfl,.inl ⟨Aa Y,rfl,_,Aa Z⟩⟩
 have du:=Ab ((Aa H).1 ee);have I:=Ab ((Aa E).call hb F);clear F E G H O M;have E:=I;clear I
 have ws:IntKind.i64.wrap (st:Int)=(st:Int):=by
  simp[IntKind.wrap,IntKind.bits,IntKind.signed]
  omega
 have hj:=((Aa E).cell 2).1;have y2:=((Aa E).cell 2).2;simp only[VZ,VY,WI]at hj;have I:=Ab ((Aa E).set hb 2 (.int .i64 (st:Int)) (ec (.string nm) (.slice none 0 0) (.int .i64 (st:Int)) (.int .i64 0) (.bool false) (.int .u32 (mt:Int)) (.slice none 0 0) (.int .u32 (cr:Int))) rfl);clear E;have E:=I;clear I;obtain⟨dr,ci⟩:=exq ((bs.drop a6).take 2);obtain⟨ba,c6⟩:=exq (a6+2);have fy:=Ex af a6 2;obtain⟨nd,d6⟩:=exq (Ak dr);rw[ci,d6]at fy;simp only[Nat.reducePow]at fy;have G:=Ab (Et b a6 2 n ag a bs _ (Aa E).z.is (by omega) ((Aa ai).after (Aa E).z) (by decide));rw[ci,c6,d6]at G;have h3:=Ab d6;clear d6;have H:Hid ((ba<=n->Dy 2 (bs.drop a6)=some (dr,bs.drop ba))/\(n<ba->Dy 2 (bs.drop a6)=none)):=Ab ⟨fun h=>by rw[<-ci];exact Dt T c6 h,fun h=>Cc T c6 (by omega) h⟩;have O:Hid (ba<=n->dr.length=2):=Ab (fun h=>by rw[<-ci,VL,VQ,T];omega);have M:Hid (∀y∈dr,y<256):=Ab (fun y U=>by rw[<-ci]at U;exact af y (VW (VR U)));have g7:=Ab c6;clear ci c6;go_wp2_with fail
 refine(Aa G).mono ?_;rintro e ji (⟨e1,rfl,F⟩|⟨e1,rfl,F⟩)
 . have Z:=Ab ((Aa E).z.trans F)
   have Y:Hid (Fe (bs.drop p)=none):=Ab (by
    have g1:=Aa aj;have g2:=Aa ao;have g3:=Aa ar;have ac:=Aa aw;have ae:=Aa a1;have g6:=Aa a9;have ah:=Aa bm;have ak:=Aa bv;have av:=Aa bw;have az:=Aa b9;have bg:=Aa du;have gn:=(Aa H).2 e1;unfold Fe;rw[g1,VF];dsimp only;rw[g2,VF];dsimp only;rw[g3,VF];dsimp only;rw[ac,VF];dsimp only;rw[ae,VF];dsimp only;rw[g6,VF];dsimp only;rw[ah,VF];dsimp only;rw[show Ak ax=al from Aa bn];rw[ak,VF];dsimp only;rw[av,VF];dsimp only;rw[az,VF];dsimp only;rw[bg,VF];dsimp only;rw[gn];rfl)
   clear F E G H O M;go_wp2;exact⟨rfl,.inl ⟨Aa Y,rfl,_,Aa Z⟩⟩
 have ed:=Ab ((Aa H).1 e1);have I:=Ab ((Aa E).call hb F);clear F E G H O M;have E:=I;clear I
 have ii:IntKind.i64.wrap (nd:Int)=(nd:Int):=by
  simp[IntKind.wrap,IntKind.bits,IntKind.signed]
  omega
 have h9:=((Aa E).cell 3).1;have i1:=((Aa E).cell 3).2;simp only[VZ,VY,WI]at h9;have I:=Ab ((Aa E).set hb 3 (.int .i64 (nd:Int)) (ec (.string nm) (.slice none 0 0) (.int .i64 (st:Int)) (.int .i64 (nd:Int)) (.bool false) (.int .u32 (mt:Int)) (.slice none 0 0) (.int .u32 (cr:Int))) rfl);clear E;have E:=I;clear I;obtain⟨cw,b8⟩:=exq ((bs.drop ba).take 1);obtain⟨bj,ct⟩:=exq (ba+1);have fw:=Ex af ba 1;obtain⟨gn,d8⟩:=exq (Ak cw);rw[b8,d8]at fw;simp only[Nat.reducePow]at fw;have G:=Ab (Et b ba 1 n ag a bs _ (Aa E).z.is (by omega) ((Aa ai).after (Aa E).z) (by decide));rw[b8,ct,d8]at G;have gy:=Ab d8;clear d8;have H:Hid ((bj<=n->Dy 1 (bs.drop ba)=some (cw,bs.drop bj))/\(n<bj->Dy 1 (bs.drop ba)=none)):=Ab ⟨fun h=>by rw[<-b8];exact Dt T ct h,fun h=>Cc T ct (by omega) h⟩;have O:Hid (bj<=n->cw.length=1):=Ab (fun h=>by rw[<-b8,VL,VQ,T];omega);have M:Hid (∀y∈cw,y<256):=Ab (fun y U=>by rw[<-b8]at U;exact af y (VW (VR U)));have hx:=Ab ct;clear b8 ct;go_wp2_with fail
 refine(Aa G).mono ?_;rintro e iw (⟨em,rfl,F⟩|⟨em,rfl,F⟩)
 . have Z:=Ab ((Aa E).z.trans F)
   have Y:Hid (Fe (bs.drop p)=none):=Ab (by
    have g1:=Aa aj;have g2:=Aa ao;have g3:=Aa ar;have ac:=Aa aw;have ae:=Aa a1;have g6:=Aa a9;have ah:=Aa bm;have ak:=Aa bv;have av:=Aa bw;have az:=Aa b9;have bg:=Aa du;have b3:=Aa ed;have gn:=(Aa H).2 em;unfold Fe;rw[g1,VF];dsimp only;rw[g2,VF];dsimp only;rw[g3,VF];dsimp only;rw[ac,VF];dsimp only;rw[ae,VF];dsimp only;rw[g6,VF];dsimp only;rw[ah,VF];dsimp only;rw[show Ak ax=al from Aa bn];rw[ak,VF];dsimp only;rw[av,VF];dsimp only;rw[az,VF];dsimp only;rw[bg,VF];dsimp only;rw[b3,VF];dsimp only;rw[gn];rfl)
   clear F E G H O M;go_wp2;exact⟨rfl,.inl ⟨Aa Y,rfl,_,Aa Z⟩⟩
 have ek:=Ab ((Aa H).1 em);have I:=Ab ((Aa E).call hb F);clear F E G H O M;have E:=I;clear I;obtain⟨gb,d9⟩:=exq (((gn:Int)==1));have h6:=Ab d9;have g8:=((Aa E).cell 4).1;have ir:=((Aa E).cell 4).2;simp only[VZ,VY,WI]at g8;have I:=Ab ((Aa E).set hb 4 (.bool gb) (ec (.string nm) (.slice none 0 0) (.int .i64 (st:Int)) (.int .i64 (nd:Int)) (.bool gb) (.int .u32 (mt:Int)) (.slice none 0 0) (.int .u32 (cr:Int))) rfl);clear E;have E:=I;clear I;obtain⟨b4,dn⟩:=exq ((bs.drop bj).take pl);obtain⟨bu,cv⟩:=exq (bj+pl);have G:=Ab (Dv b bj pl n ag a bs _ (Aa E).z.is (by omega) ((Aa ai).after (Aa E).z) (by omega));rw[dn,cv]at G;have H:Hid ((bu<=n->Dy pl (bs.drop bj)=some (b4,bs.drop bu))/\(n<bu->Dy pl (bs.drop bj)=none)):=Ab ⟨fun h=>by rw[<-dn];exact Dt T cv h,fun h=>Cc T cv (by omega) h⟩;have O:Hid (bu<=n->b4.length=pl):=Ab (fun h=>by rw[<-dn,VL,VQ,T];omega);have M:Hid (∀y∈b4,y<256):=Ab (fun y U=>by rw[<-dn]at U;exact af y (VW (VR U)));have ft:=Ab cv;clear dn cv;go_wp2_with fail
 refine(Aa G).mono ?_;rintro e i6 (⟨df,rfl,F⟩|⟨df,⟨a5,a2,rfl,jh,f5⟩,F⟩)
 . have Z:=Ab ((Aa E).z.trans F)
   have Y:Hid (Fe (bs.drop p)=none):=Ab (by
    have g1:=Aa aj;have g2:=Aa ao;have g3:=Aa ar;have ac:=Aa aw;have ae:=Aa a1;have g6:=Aa a9;have ah:=Aa bm;have ak:=Aa bv;have av:=Aa bw;have az:=Aa b9;have bg:=Aa du;have b3:=Aa ed;have dd:=Aa ek;have gn:=(Aa H).2 df;unfold Fe;rw[g1,VF];dsimp only;rw[g2,VF];dsimp only;rw[g3,VF];dsimp only;rw[ac,VF];dsimp only;rw[ae,VF];dsimp only;rw[show Ak bz=pl from Aa et];rw[g6,VF];dsimp only;rw[ah,VF];dsimp only;rw[show Ak ax=al from Aa bn];rw[ak,VF];dsimp only;rw[av,VF];dsimp only;rw[az,VF];dsimp only;rw[bg,VF];dsimp only;rw[b3,VF];dsimp only;rw[dd,VF];dsimp only;rw[gn];rfl)
   clear F E G H O M;go_wp2;exact⟨rfl,.inl ⟨Aa Y,rfl,_,Aa Z⟩⟩
 have fk:=Ab ((Aa H).1 df);have I:=Ab ((Aa E).call hb F);have en:=Ab (And.intro ((Aa O) df) (Aa M));have ep:=Ab f5;clear f5;clear F E G H O M;have E:=I;clear I;have dp:=((Aa E).cell 6).1;have il:=((Aa E).cell 6).2;simp only[VZ,VY,WI]at dp;have I:=Ab ((Aa E).set hb 6 (.slice a5 pl a2) (ec (.string nm) (.slice none 0 0) (.int .i64 (st:Int)) (.int .i64 (nd:Int)) (.bool gb) (.int .u32 (mt:Int)) (.slice a5 pl a2) (.int .u32 (cr:Int))) rfl);clear E;have E:=I;clear I;have G:=Ab (Zk mt pl a2 a5 b4 _ (Aa en).1 (by have:=Aa ft;omega) (Aa ep _ ((Aa ai).after (Aa E).z)) (Aa en).2 (Aa hu));have dm:=((Aa E).cell 5).1;have dp:=((Aa E).cell 6).1;simp only[VZ,VY,WI]at dm dp;clear d9;go_wp2_with fail
 refine(Aa G).mono ?_;rintro e ay ⟨bq,(⟨co,ap,jg,au,rfl⟩|⟨ys,co,h7,fh,ap,au,rfl,f3,fi,dx⟩)⟩
 . have Z:=Ab ((Aa E).later hb bq).z
   have Y:Hid (Fe (bs.drop p)=none):=Ab (by
    have g1:=Aa aj;have g2:=Aa ao;have g3:=Aa ar;have ac:=Aa aw;have ae:=Aa a1;have g6:=Aa a9;have ah:=Aa bm;have ak:=Aa bv;have av:=Aa bw;have az:=Aa b9;have bg:=Aa du;have b3:=Aa ed;have dd:=Aa ek;have eg:=Aa fk;unfold Fe;rw[g1,VF];dsimp only;rw[g2,VF];dsimp only;rw[g3,VF];dsimp only;rw[ac,VF];dsimp only;rw[ae,VF];dsimp only;rw[show Ak bz=pl from Aa et];rw[g6,VF];dsimp only;rw[ah,VF];dsimp only;rw[show Ak ax=al from Aa bn];rw[ak,VF];dsimp only;rw[av,VF];dsimp only;rw[az,VF];dsimp only;rw[bg,VF];dsimp only;rw[b3,VF];dsimp only;rw[dd,VF];dsimp only;rw[eg,VF];dsimp only;rw[show Ak x2=mt from Aa ff,co];rfl)
   clear bq co E G dm dp;go_wp2;exact⟨rfl,.inl ⟨Aa Y,rfl,_,Aa Z⟩⟩
 have Y:Hid (Fe (bs.drop p)=some (⟨⟨o8 b5,o8 ys,(st:Int),(nd:Int),gb⟩,mt,b4,cr⟩,bs.drop bu)):=Ab (by
  have g1:=Aa aj;have g2:=Aa ao;have g3:=Aa ar;have ac:=Aa aw;have ae:=Aa a1;have g6:=Aa a9;have ah:=Aa bm;have ak:=Aa bv;have av:=Aa bw;have az:=Aa b9;have bg:=Aa du;have b3:=Aa ed;have dd:=Aa ek;have eg:=Aa fk;unfold Fe;rw[g1,VF];dsimp only;rw[g2,VF];dsimp only;rw[g3,VF];dsimp only;rw[ac,VF];dsimp only;rw[ae,VF];dsimp only;rw[show Ak bz=pl from Aa et];rw[g6,VF];dsimp only;rw[ah,VF];dsimp only;rw[show Ak ax=al from Aa bn];rw[ak,VF];dsimp only;rw[av,VF];dsimp only;rw[az,VF];dsimp only;rw[bg,VF];dsimp only;rw[b3,VF];dsimp only;rw[dd,VF];dsimp only;rw[eg,VF];dsimp only;rw[show Ak x2=mt from Aa ff,co,VF];rw[show Ak x4=cr from Aa h0,show Ak dl=st from Aa h2,show Ak dr=nd from Aa h3,show Ak cw=gn from Aa gy]
  have d9:decide (gn=1)=gb:=by
   rw[<-Aa h6,XZ,decide_eq_true_iff,beq_iff_eq];omega
  rw[d9])
 obtain⟨bb,eb⟩:=exq (ys.length);rw[eb]at f3 ⊢;have aa:=(Aa E).later hb bq;have ib:=(aa.cell 0).1;have f7:=(aa.cell 1).1;have hv:=(aa.cell 2).1;have hk:=(aa.cell 3).1;have hp:=(aa.cell 4).1;have h1:=(aa.cell 5).1;have g9:=(aa.cell 6).1;have gj:=(aa.cell 7).1;have f1:=(aa.cell 1).2;have r0:=Ac (i:=0) aa.r;have ix:=frozen_of_row ay w.heap.size 0 _ _ aa.r;have r1:=Ac (i:=1) aa.r;have g1:=frozen_of_row ay w.heap.size 1 _ _ aa.r;have r2:=Ac (i:=2) aa.r;have g2:=frozen_of_row ay w.heap.size 2 _ _ aa.r;have gu:=Ac (i:=3) aa.r;have g3:=frozen_of_row ay w.heap.size 3 _ _ aa.r;have gv:=Ac (i:=4) aa.r;have ac:=frozen_of_row ay w.heap.size 4 _ _ aa.r;have g4:=Ac (i:=5) aa.r;have ae:=frozen_of_row ay w.heap.size 5 _ _ aa.r;have ic:=Ac (i:=6) aa.r;have g6:=frozen_of_row ay w.heap.size 6 _ _ aa.r;have gw:=Ac (i:=7) aa.r;have ah:=frozen_of_row ay w.heap.size 7 _ _ aa.r;simp only[VZ,VY,WI]at ib r0 f7 r1 hv r2 hk gu hp gv h1 g4 g9 ic gj gw;have bo:=aa.set hb 1 (.slice ap bb au) (ec (.string nm) (.slice ap bb au) (.int .i64 (st:Int)) (.int .i64 (nd:Int)) (.bool gb) (.int .u32 (mt:Int)) (.slice a5 pl a2) (.int .u32 (cr:Int))) rfl;have k1:=Ad ay (w.heap.size+1) 1 (.slice ap bb au);obtain⟨fm,dc⟩:=Z7g (ay.setCell ⟨w.heap.size+1,1,none⟩ (.slice ap bb au)) w.heap.size 71 _ _ _ _ _ _ _ _ (.string nm) (.slice ap bb au) (.int .i64 (st:Int)) (.int .i64 (nd:Int)) (.bool gb) (.int .u32 (mt:Int)) (.slice a5 pl a2) (.int .u32 (cr:Int)) bo.r;have ja:=(VK.1 (Aa E).x).1
 have e7:ZT w b (.slice a n ag) bu (Ni (ay.setCell ⟨w.heap.size+1,1,none⟩ (.slice ap bb au)) w.heap.size (.string nm) (.slice ap bb au) (.int .i64 (st:Int)) (.int .i64 (nd:Int)) (.bool gb) (.int .u32 (mt:Int)) (.slice a5 pl a2) (.int .u32 (cr:Int))):=
  ⟨(dc.block b (by have:=(VK.1 bo.z.is).1;omega) (by simp;omega)).trans bo.z.is,bo.z.below.grown dc (by have:=(VK.1 bo.z.is).1;omega) (fun g e=>by cases e;omega),fun g da cp=>(dc.block g (by have:=bo.z.below.size;omega) (by simp;omega)).trans (bo.z.keep g da cp)⟩
 have fq:=(fi.grown k1 (fun g o cu e2=>by have:=dx g o cu e2;simp;omega)).grown dc (fun g o cu e2=>by have:=dx g o cu e2;simp;omega);have f8:Hid (EvIn (Ni (ay.setCell ⟨w.heap.size+1,1,none⟩ (.slice ap bb au)) w.heap.size (.string nm) (.slice ap bb au) (.int .i64 (st:Int)) (.int .i64 (nd:Int)) (.bool gb) (.int .u32 (mt:Int)) (.slice a5 pl a2) (.int .u32 (cr:Int))) ⟨⟨⟨o8 b5,o8 ys,(st:Int),(nd:Int),gb⟩,mt,b4,cr⟩,ap,au,a5,a2⟩):=Ab ⟨by dsimp only;rw[Z0w fh];exact fq,by dsimp only;rw[Ey,eb];exact f3,by dsimp only;rw[Ey];omega,by dsimp only;rw[Ey,(Aa dv).1];omega,Aa ep _ ((Aa ai).after e7)⟩;have ho:Hid (∀g o,ap=some ⟨g,o,none⟩->o8 ys≠ []->w.heap.size<=g):=Ab (fun g o cu e2=>by have:=dx g o cu (fun e=>e2 (by rw[e];rfl));omega);have hw:=Ab e7;have ie:=Ab fm
 have g5:Hid (p+37<=bu):=Ab (by
  have:=Aa fj
  have:=Aa ha
  have:=Aa f9
  have:=Aa h4
  have:=Aa ig
  have:=Aa gg
  have:=Aa gq
  have:=Aa hf
  have:=Aa gd
  have:=Aa gz
  have:=Aa hg
  have:=Aa g7
  have:=Aa hx
  have:=Aa ft
  omega)
 have h5:=Ab eb;clear bq aa bo k1 fm dc e7 fi fq dx E G co fh dm dp eb h7;go_wp2;refine bodyPost_ret (v:=.agg #[.string nm,.slice ap bb au,.int .i64 (st:Int),.int .i64 (nd:Int),.bool gb,.int .u32 (mt:Int),.slice a5 pl a2,.int .u32 (cr:Int)]) ?_ rfl (.inr ⟨⟨⟨⟨o8 b5,o8 ys,(st:Int),(nd:Int),gb⟩,mt,b4,cr⟩,ap,au,a5,a2⟩,bu,Aa Y,Aa g5,df, ?_,Aa f8,Aa ep,Aa ho,Aa hw⟩)
 . exact results_cell_row rfl _ _ _ _ _ _ _ rfl (Aa ie) Tryz.underlying71 rfl (by kernel_rfl)
 . unfold Ev.val;dsimp only;rw[Aa f6,Ey,Aa h5,(Aa en).1]
structure ERd (w:World)(b:Nat)(a:Option Addr)(n cap:Nat)(bs:List Nat)(v:Value)(es:List Ev)(q:Nat)(wr:World):Prop where
 z:ZT w b (.slice a n cap) q wr
 row:ERow wr w.heap.size v es
 pks:∀x∈es,∀W,ZRow W b a n cap bs->PkIn W x.pa x.pc x.e.pk
 fas:∀x∈es,∀g o,x.fa=some ⟨g,o,none⟩->x.e.f.bytes≠ []->w.heap.size<=g
theorem ERd.call {w wr w':World}{b n H q q':Nat}{a:Option Addr}{bs:List Nat}{v:Value}{T:List Ev}(E:ERd w b a n H bs v T q wr)(ac:b<w.heap.size)(aa:ZRow w b a n H bs)(G:ZT wr b (.slice a n H) q' w'):ERd w b a n H bs v T q' w':=by
 have U:ZRow w' b a n H bs:=(aa.after E.z).after G;refine⟨E.z.trans G,⟨Au E.row.own (fun g F=>G.keep g (by have:=(E.row.own.lt g F).1;omega) (E.row.own.lt g F).2),fun x M=> ?_,E.row.apart⟩,E.pks,E.fas⟩;have I:=E.row.all x M;refine⟨⟨?_,I.fb.2⟩,I.fl,I.big,I.txt,E.pks x M w' U⟩
 by_cases O:n8 x.e.f.bytes= []
 . exact .inl O
 . rcases I.fb.1 with Y|⟨g,o,e,F,hc⟩
   . exact absurd Y O
   . have ae:=E.fas x M g o e (NM O);exact .inr ⟨g,o,e,VG F G.below.size,fun j Z=>(World.cell?_of_block (w:=wr) (a:=⟨g,_,none⟩) (G.keep g (by omega) F)).trans (hc j Z)⟩
theorem ERd.later {w wr w':World}{b n H q:Nat}{a:Option Addr}{bs:List Nat}{v:Value}{G:List Ev}(E:ERd w b a n H bs v G q wr)(F:Below wr.heap.size wr w'):ERd w b a n H bs v G q w':=by
 have hb:=(VK.1 E.z.is).1;have O:=E.z.below.size;exact⟨⟨(F.block b hb).trans E.z.is,E.z.below.trans (F.mono (by omega)),fun g I M=>(F.block g (by omega)).trans (E.z.keep g I M)⟩,E.row.below F,E.pks,E.fas⟩
theorem ERd.app {w W M:World}{b n I q:Nat}{a:Option Addr}{bs:List Nat}{v v':Value}{G:List Ev}{x:Ev}(F:ERd w b a n I bs v G q W)(Y:b<w.heap.size)(H:W.grownBy M v.ownBlock)(ae:ERow M w.heap.size v' (G++ [x]))(ac:∀W,ZRow W b a n I bs->PkIn W x.pa x.pc x.e.pk)(aa:∀g o,x.fa=some ⟨g,o,none⟩->x.e.f.bytes≠ []->w.heap.size<=g):ERd w b a n I bs v' (G++ [x]) q M:=by
 have Z:=(VK.1 F.z.is).1;have af:=F.z.below.size;have T:∀g,g<w.heap.size->some g≠v.ownBlock:=fun g ag e=>by have:=(F.row.own.lt g e.symm).1;omega
 refine⟨⟨(H.block b Z (T b Y)).trans F.z.is,F.z.below.grown H (by omega) (fun g e=>by have:=(F.row.own.lt g e).1;omega),fun g U O=>(H.block g (by omega) (T g O)).trans (F.z.keep g U O)⟩,ae,fun y E=> ?_,fun y E=> ?_⟩
 . rcases WP.1 E with E|E
   . exact F.pks y E
   . rw[WO.1 E];exact ac
 . rcases WP.1 E with E|E
   . exact F.fas y E
   . rw[WO.1 E];exact aa
def Z8j:Value->Nat
 | .slice _ n _=>n
 |_=>0
theorem ERow.len {w:World}{B:Nat}{v:Value}{xs:List Ev}(E:ERow w B v xs):Z8j v=xs.length:=by
 obtain⟨a,c,rfl⟩:=An E.own;rfl
def Z24 (w:World)(b:Nat)(a:Option Addr)(n cap:Nat)(bs:List Nat)(e:Ending)(w':World):Prop:=
 (Cd (n+1) bs=none/\e=Z31/\∃q,ZT w b (.slice a n cap) q w')\/ (∃v es q,Cd (n+1) bs=some (es.map Ev.e)/\e=.returned v/\ERd w b a n cap bs v es q w')
theorem IF {F:Nat}{r m q:List Nat}(E:Dy 4 r=some (m,q))(G:Ak m≠67324752):Cd (F+1) r=some []:=by
 unfold Cd;rw[E,VF];dsimp only;rw[if_neg G]
theorem IE {F:Nat}{r:List Nat}(E:Dy 4 r=none):Cd (F+1) r=none:=by
 unfold Cd;rw[E];rfl
theorem Vt {F:Nat}{r m q:List Nat}(E:Dy 4 r=some (m,q))(H:Ak m=67324752)(G:Fe q=none):Cd (F+1) r=none:=by
 unfold Cd;rw[E,VF];dsimp only;rw[if_pos H,G];rfl
theorem Vu {F:Nat}{r m q q':List Nat}{x:En}(E:Dy 4 r=some (m,q))(H:Ak m=67324752)(G:Fe q=some (x,q')):Cd (F+1) r=(Cd F q').map (x:: ·):=by
 conv=>lhs;unfold Cd
 rw[E,VF];dsimp only;rw[if_pos H,G];rfl
theorem TI (m:Nat)(E:m≠67324752):((m:Int)==67324752)=false:=by rw[beq_eq_false_iff_ne];omega
def Z5x (bs:List Nat):Prop:=Z5u\/∃l,Cd (bs.length+1) bs=some l/\∀x∈l,x.meth≠8
theorem PX {r q:List Nat}{x:En}(E:Fe r=some (x,q)):x.meth=Ak ((r.drop 4).take 2):=by
 unfold Fe at E;obtain⟨F,r1,rfl,l1,E⟩:=Ap E;dsimp only at E;obtain⟨G,r2,rfl,l2,E⟩:=Ap E;dsimp only at E;rw[YT l1,YS l2]
 iterate 12 (obtain⟨_,_,rfl,_,E⟩:=Ap E;dsimp only at E)
 obtain⟨b,hb,E⟩:=Option.bind_eq_some_iff.1 E;simp only[YB,YD]at E;rw[<-E.1]
theorem Zb (b n E:Nat)(a:Option Addr)(bs:List Nat)(w:World)(a4:w.heap[b]? =some (.cells #[.slice a n E,.int .i64 0] 116 (0,0)))(av:ZRow w b a n E bs)(bg:Z5x bs):
 Calls Tryz.prog 65 #[.pointer (some ⟨b,0,none⟩)] w fun e w'=>Z24 w b a n E bs e w':=by
 have hb:b<w.heap.size:=(VK.1 a4).1;have a5:=av.len;have ck:=av.few;have al:=Ab av;have bw:=Ab bg;clear bg;have cg:Hid (ERd w b a n E bs (.slice none 0 0) [] 0 w):=Ab ⟨⟨a4,Below.refl _ _,fun _ _ _=>rfl⟩,ERow.nil _ _,(fun x a3=>absurd a3 XE),(fun x a3=>absurd a3 XE)⟩;clear a4 av;go_enter Tryz.func65,Tryz.ntmps65
 go_wp2;go_loopw [3] (fun v wr=>∃(es:List Ev) (q F:Nat),q<=n/\n-q<F/\Hid ((Cd F (bs.drop q)).map (es.map Ev.e++ ·)=Cd (n+1) bs)/\Hid (es.length*41<=q)/\Hid (ERd w b a n E bs v es q wr)) (fun v _=>n+1-Z8j v)
 case atStart=>exact⟨[],0,n+1,VH _,by omega,Ab (by rw[List.drop_zero];cases Cd (n+1) bs<;>simp),Ab (VH _),cg⟩
 case round=>
  obtain⟨es,q,F,bj,co,O,ax,T⟩:=hrel;obtain⟨F,rfl⟩:∃b0,F=b0+1:=⟨F-1,by omega⟩
  have aw:=(Aa al).after (Aa T).z;have ba:=aw.val;obtain⟨x4,ao⟩:=exq ((bs.drop q).take 4);obtain⟨aa,ak⟩:=exq (q+4);have bm:=Ex ba q 4;obtain⟨m,hm⟩:=exq (Ak x4);rw[ao,hm]at bm;simp only[Nat.reducePow]at bm;have af:=Ab (Et b q 4 n E a bs wr (Aa T).z.is bj aw (by decide));rw[ao,ak,hm]at af;have G:Hid ((aa<=n->Dy 4 (bs.drop q)=some (x4,bs.drop aa))/\(n<aa->Dy 4 (bs.drop q)=none)):=Ab ⟨fun h=>by rw[<-ao];exact Dt a5 ak h,fun h=>Cc a5 ak bj h⟩;have ae:=Ab hm;have bk:=Ab ak;have bi:=(Aa T).row.len;have bq:=Ab bi;clear aw ba ao hm bi ak;go_wp2_with fail
  refine(Aa af).mono ?_;rintro e ay (⟨M,rfl,ac⟩|⟨M,rfl,ac⟩)
  . have ah:Hid (Z24 w b a n E bs Z31 ay):=Ab (.inl ⟨by rw[<-Aa O,IE ((Aa G).2 M)];rfl,rfl,q,(Aa T).z.trans ac⟩);clear ac T af G O;go_wp2;exact⟨rfl,Aa ah⟩
  . have U:=(Aa T).call hb (Aa al) ac
    by_cases ar:m=67324752
    . subst ar;have ai:=Ab U
      have a7:Z5u\/Ak ((bs.drop (aa+4)).take 2)≠8:=by
       rcases Aa bw with h|⟨l,bh,b5⟩
       . exact .inl h
       . refine .inr ?_;have H:=Aa O;rw[a5]at bh;rw[bh]at H
         cases I:Fe (bs.drop aa)with
         |none=>rw[Vt ((Aa G).1 M) (Aa ae) I]at H;cases H
         |some y=>
          rw[Vu ((Aa G).1 M) (Aa ae) (x:=y.1) (q':=y.2) I]at H
          cases ap:Cd F y.2 with
          |none=>rw[ap]at H;cases H
          |some l2=>
           rw[ap]at H;simp only[Option.map_some,YB]at H;have au:=b5 y.1 (by rw[<-H];simp);rw[PX (x:=y.1) (q:=y.2) I,YK]at au;exact au
      have a1:=Ab (EC b aa n E a bs ay U.z.is M ((Aa al).after U.z) a7);clear a7;have cm:=U.z.below.size;clear ac T af U;go_wp2_with fail
      refine(Aa a1).mono ?_;rintro e Z (⟨I,rfl,Y,aj⟩|⟨x,Y,I,cq,b4,rfl,a8,a6,a2,aj⟩)
      . have ah:Hid (Z24 w b a n E bs Z31 Z):=Ab (.inl ⟨by rw[<-Aa O,Vt ((Aa G).1 M) (Aa ae) I];rfl,rfl,Y,(Aa ai).z.trans aj⟩);clear aj ai a1 G O I;go_wp2;exact⟨rfl,Aa ah⟩
      . have az:=(Aa ai).call hb (Aa al) aj
        have ce:Hid ((Cd F (bs.drop Y)).map ((es++ [x]).map Ev.e++ ·)=Cd (n+1) bs):=Ab (by
         rw[<-Aa O,Vu ((Aa G).1 M) (Aa ae) I]
         cases Cd F (bs.drop Y)<;>simp)
        have bo:Hid ((es++ [x]).length*41<=Y):=Ab (by
         have:=Aa ax
         have:=Aa bk
         rw[VE,List.length_singleton];omega)
        have a9:x.lies (fun g=>some g≠(u3).ownBlock):=by
         constructor
         . intro g o ag e2 e3;have ap:=a2 g o ag e2;have au:=((Aa ai).row.own.lt g e3.symm).2;omega
         . intro g o ag e2 e3;have ap:=Xm (a6 w (Aa al)) g o ag e2;have au:=((Aa ai).row.own.lt g e3.symm).1;omega
        have bn:=Ab (fun o1:Obj=>az.later ((Below.refl _ _).alloc (VB _) o1));have b7:=Ab (fun o1:Obj=>a8.below ((Below.refl Z.heap.size Z).alloc (VB _) o1));have cd:=Ab a9;have bz:=Ab a6;have bu:Hid (∀g o,x.fa=some ⟨g,o,none⟩->x.e.f.bytes≠ []->w.heap.size<=g):=Ab (fun g o ag e2=>by have:=a2 g o ag e2;omega);have ci:=az.z.below.size;have bc:es.length+1<=100000:=by have:=Aa ax;omega
        have b9:=Ab bc
        have b3:Hid (∀o1,o1=Obj.cells x.cells.toArray 71->∀j u,x.cells[j]? =some u->(Z.alloc o1).cell? ⟨Z.heap.size,j,none⟩=some u):=Ab (fun o1 e j u b8=>by
         subst e;rw[Ac (heap_alloc_new Z _)];simpa using b8)
        clear aj az a9 a8 a6 a2 I bc G a1 ae;unfold Ev.val;go_wp2_with (at_builtin;refine Fr _ rfl _ _ rfl w.heap.size _ es rfl (Aa bn _).row Z.heap.size x rfl (Aa b3 _ rfl) (Aa b7 _) (Aa cd) (Aa b9) (by simp;omega) ?_)
        intro v' w3 bd bb;have bf:Hid (ERd w b a n E bs v' (es++ [x]) Y w3):=Ab ((Aa bn _).app hb (Aa bb) (Aa bd) (Aa bz) (Aa bu));have bv:=(Aa bf).row.len;clear bd bb;go_wp2;go_roundw
        case rel=>exact⟨es++ [x],Y,F,b4,by have:=Aa bk;omega,ce,bo,bf⟩
        case measure=>
         have cn:=Aa bq;rw[VE,List.length_singleton]at bv;have cp:=Aa ax;simp
         omega
    . have ah:Hid (Z24 w b a n E bs (.returned u3) ay):=Ab (.inr ⟨u3,es,aa,by rw[<-Aa O,IF ((Aa G).1 M) (by rw[Aa ae];exact ar)];simp,rfl,U⟩);have cj:=TI m ar;clear ac T af G O U ar;go_wp2;go_ret;exact Aa ah
end Go.Proofs.YtleocpdblhbimaaGreatDoor
