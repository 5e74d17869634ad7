import Derived.Test.YtleocpdblhbimaaGreatDoorQ5
import Derived.Deep.RegionHeld3
import Derived.Deep.RegionWith
set_option linter.unusedSimpArgs false
set_option maxHeartbeats 4000000
namespace Go.Proofs.YtleocpdblhbimaaGreatDoor
open Go.RowKit
set_option linter.unusedVariables false
set_option maxRecDepth 100000
structure Ev where
 e:En
 fa:Option Addr
 fc:Nat
 pa:Option Addr
 pc:Nat
def Ev.cells (x:Ev):List Value:= [.string (B x.e.f.name),.slice x.fa x.e.f.bytes.length x.fc,.int .i64 x.e.f.stamp,.int .i64 x.e.f.node,.bool x.e.f.gone,.int .u32 (x.e.meth:Int),.slice x.pa x.e.pk.length x.pc,.int .u32 (x.e.crc:Int)]
def Ev.val (x:Ev):Value:=.agg #[.string (B x.e.f.name),.slice x.fa x.e.f.bytes.length x.fc,.int .i64 x.e.f.stamp,.int .i64 x.e.f.node,.bool x.e.f.gone,.int .u32 (x.e.meth:Int),.slice x.pa x.e.pk.length x.pc,.int .u32 (x.e.crc:Int)]
structure ENum (x:En):Prop where
 st:0<=x.f.stamp/\x.f.stamp<=1000000
 nd:0<=x.f.node/\x.f.node<=3
 nm:x.f.name.length<=40
 bl:x.f.bytes.length<=3000
 pl:x.pk.length<=12000
 cr:x.crc<4294967296
 mt:x.meth<65536
theorem Bh {n:Nat}(h:n<4294967296):IntKind.u32.wrap (n:Int)=(n:Int):=by
 simp[IntKind.wrap,IntKind.bits,IntKind.signed]
 omega
abbrev Bx (w:World)(X:Nat)(nm:ByteArray)(fa:Option Addr)(bl fc:Nat)(st nd:Nat)(gn:Bool)(mt:Nat)(pa:Option Addr)(pl pc cr:Nat):Prop:=
 w.heap[X]? =some (.cells #[.string nm,.slice fa bl fc,.int .i64 (st:Int),.int .i64 (nd:Int),.bool gn,.int .u32 (mt:Int),.slice pa pl pc,.int .u32 (cr:Int)] 71 (0,0))
theorem Ax {w:World}{X:Nat}{nm:ByteArray}{fa:Option Addr}{bl fc st nd:Nat}{gn:Bool}{mt:Nat}{pa:Option Addr}{pl pc cr:Nat}(h:Bx w X nm fa bl fc st nd gn mt pa pl pc cr):w.cell? ⟨X,0,none⟩=some (.string nm)/\w.cell? ⟨X,1,none⟩=some (.slice fa bl fc)/\w.cell? ⟨X,2,none⟩=some (.int .i64 (st:Int))/\w.cell? ⟨X,3,none⟩=some (.int .i64 (nd:Int))/\w.cell? ⟨X,4,none⟩=some (.bool gn)/\w.cell? ⟨X,5,none⟩=some (.int .u32 (mt:Int))/\w.cell? ⟨X,6,none⟩=some (.slice pa pl pc)/\w.cell? ⟨X,7,none⟩=some (.int .u32 (cr:Int)):=⟨Ac h,Ac h,Ac h,Ac h,Ac h,Ac h,Ac h,Ac h⟩
theorem AK (Bs b:Nat)(x:Ev)(xs:List Nat)(w:World)(h:∃ov,ZC Bs w b xs ov)(hn:ENum x.e)(hx:xs.length<=800000):
 Calls Tryz.prog 78 #[.pointer (some ⟨b,0,none⟩),x.val] w fun e w'=>e=.returned (.tuple #[])/\ZUp Bs w b (xs++To x.e) w':=by
 obtain⟨x,fa,fc,pa,pc⟩:=x;obtain⟨⟨nml,bys,sti,ndi,gn⟩,mt,pk,cr⟩:=x;obtain⟨⟨st0,st1⟩,⟨nd0,nd1⟩,hnm,hbl,hpl,hcr,hmt⟩:=hn;simp only at st0 st1 nd0 nd1 hnm hbl hpl hcr hmt
 obtain⟨st,rfl⟩:∃st:Nat,sti=(st:Int):=⟨sti.toNat,by omega⟩
 obtain⟨nd,rfl⟩:∃nd:Nat,ndi=(nd:Int):=⟨ndi.toNat,by omega⟩
 have hwst:=Bh (n:=st) (by omega);have hwnd:=Bh (n:=nd) (by omega);have HGOAL:=(show To ⟨⟨nml,bys,(st:Int),(nd:Int),gn⟩,mt,pk,cr⟩=Ag 20 2++Ag 0 2++Ag mt 2++Ag 0 4++Ag cr 4++Ag pk.length 4++Ag bys.length 4++Ag nml.length 2++Ag 11 2 from rfl)
 unfold Ev.val;dsimp only;obtain⟨nm,hnmv⟩:∃nm,B nml=nm:=⟨_,rfl⟩
 obtain⟨nl,hnl⟩:∃nl,nml.length=nl:=⟨_,rfl⟩
 obtain⟨bl,hblv⟩:∃bl,bys.length=bl:=⟨_,rfl⟩
 obtain⟨pl,hplv⟩:∃pl,pk.length=pl:=⟨_,rfl⟩
 have hnsz:nm.size=nl:=by rw[<-hnmv,Im,hnl]
 rw[hnl]at hnm;rw[hblv]at hbl;rw[hplv]at hpl;rw[hnmv,hblv,hplv];have HNM:=Ab hnmv;have HNL:=Ab hnl;have HBL:=Ab hblv;have HPL:=Ab hplv;have hwbl:=Bh (n:=bl) (by omega);have hwpl:=Bh (n:=pl) (by omega);have hwnl:IntKind.u32.wrap (nm.size:Int)=(nl:Int):=by rw[hnsz];exact Bh (by omega)
 clear hnmv hnl hblv hplv hnsz;obtain⟨ov,hC⟩:=h;have HX:Hid (Bx (w.alloc (.cells #[.string nm,.slice fa bl fc,.int .i64 (st:Int),.int .i64 (nd:Int),.bool gn,.int .u32 (mt:Int),.slice pa pl pc,.int .u32 (cr:Int)] 71)) w.heap.size nm fa bl fc st nd gn mt pa pl pc cr):=Ab (heap_alloc_new w _)
 have HU:Hid (ZUp Bs w b xs (w.alloc (.cells #[.string nm,.slice fa bl fc,.int .i64 (st:Int),.int .i64 (nd:Int),.bool gn,.int .u32 (mt:Int),.slice pa pl pc,.int .u32 (cr:Int)] 71))):=
  Ab ⟨⟨ov,hC.later ((Below.refl _ _).alloc (VB _) _)⟩,(Below.refl Bs w).alloc (by have:=hC.lt;have:=hC.base;omega) _,KpT.below ((Below.refl _ _).alloc (VB _) _)⟩
 obtain⟨X,hXX⟩:∃X,w.heap.size=X:=⟨_,rfl⟩
 rw[hXX]at HX;have HXX:=Ab hXX;obtain⟨c0,c1,c2,c3,c4,c5,c6,c7⟩:=Ax (Aa HX);clear hC;go_enter Tryz.func78,Tryz.ntmps78
 go_wp2_with fail
 refine(Bb Bs b 2 20 _ _ (Aa HU).is (by decide) (by omega) (by omega)).mono ?_;rintro e w1 ⟨rfl,hU1⟩;have HU2:=Ab ((Aa HU).trans hU1);have HX2:Hid (Bx w1 X nm fa bl fc st nd gn mt pa pl pc cr):=Ab (hU1.kp _ _ _ _ (by decide) (by decide) (Aa HX));clear hU1 HU HX c0 c1 c2 c3 c4 c5 c6 c7;have HU:=HU2;clear HU2;have HX:=HX2;clear HX2;obtain⟨c0,c1,c2,c3,c4,c5,c6,c7⟩:=Ax (Aa HX);go_wp2_with fail
 refine(Hc Bs b 2 _ _ (Aa HU).is (by decide) (by simp only[VE,Ai];omega)).mono ?_;rintro e w2 ⟨rfl,hU1⟩;have HU2:=Ab ((Aa HU).trans hU1);have HX2:Hid (Bx w2 X nm fa bl fc st nd gn mt pa pl pc cr):=Ab (hU1.kp _ _ _ _ (by decide) (by decide) (Aa HX));clear hU1 HU HX c0 c1 c2 c3 c4 c5 c6 c7;have HU:=HU2;clear HU2;have HX:=HX2;clear HX2;obtain⟨c0,c1,c2,c3,c4,c5,c6,c7⟩:=Ax (Aa HX);go_wp2_with fail
 refine(Bb Bs b 2 mt _ _ (Aa HU).is (by decide) (by omega) (by simp only[VE,Ai];omega)).mono ?_;rintro e w3 ⟨rfl,hU1⟩;have HU2:=Ab ((Aa HU).trans hU1);have HX2:Hid (Bx w3 X nm fa bl fc st nd gn mt pa pl pc cr):=Ab (hU1.kp _ _ _ _ (by decide) (by decide) (Aa HX));clear hU1 HU HX c0 c1 c2 c3 c4 c5 c6 c7;have HU:=HU2;clear HU2;have HX:=HX2;clear HX2;obtain⟨c0,c1,c2,c3,c4,c5,c6,c7⟩:=Ax (Aa HX);go_wp2_with fail
 refine(Hc Bs b 4 _ _ (Aa HU).is (by decide) (by simp only[VE,Ai];omega)).mono ?_;rintro e w4 ⟨rfl,hU1⟩;have HU2:=Ab ((Aa HU).trans hU1);have HX2:Hid (Bx w4 X nm fa bl fc st nd gn mt pa pl pc cr):=Ab (hU1.kp _ _ _ _ (by decide) (by decide) (Aa HX));clear hU1 HU HX c0 c1 c2 c3 c4 c5 c6 c7;have HU:=HU2;clear HU2;have HX:=HX2;clear HX2;obtain⟨c0,c1,c2,c3,c4,c5,c6,c7⟩:=Ax (Aa HX);go_wp2_with fail
 refine(Bb Bs b 4 cr _ _ (Aa HU).is (by decide) (by omega) (by simp only[VE,Ai];omega)).mono ?_;rintro e w5 ⟨rfl,hU1⟩;have HU2:=Ab ((Aa HU).trans hU1);have HX2:Hid (Bx w5 X nm fa bl fc st nd gn mt pa pl pc cr):=Ab (hU1.kp _ _ _ _ (by decide) (by decide) (Aa HX));clear hU1 HU HX c0 c1 c2 c3 c4 c5 c6 c7;have HU:=HU2;clear HU2;have HX:=HX2;clear HX2;obtain⟨c0,c1,c2,c3,c4,c5,c6,c7⟩:=Ax (Aa HX);go_wp2_with fail
 refine(Bb Bs b 4 pl _ _ (Aa HU).is (by decide) (by omega) (by simp only[VE,Ai];omega)).mono ?_;rintro e w6 ⟨rfl,hU1⟩;have HU2:=Ab ((Aa HU).trans hU1);have HX2:Hid (Bx w6 X nm fa bl fc st nd gn mt pa pl pc cr):=Ab (hU1.kp _ _ _ _ (by decide) (by decide) (Aa HX));clear hU1 HU HX c0 c1 c2 c3 c4 c5 c6 c7;have HU:=HU2;clear HU2;have HX:=HX2;clear HX2;obtain⟨c0,c1,c2,c3,c4,c5,c6,c7⟩:=Ax (Aa HX);go_wp2_with fail
 refine(Bb Bs b 4 bl _ _ (Aa HU).is (by decide) (by omega) (by simp only[VE,Ai];omega)).mono ?_;rintro e w7 ⟨rfl,hU1⟩;have HU2:=Ab ((Aa HU).trans hU1);have HX2:Hid (Bx w7 X nm fa bl fc st nd gn mt pa pl pc cr):=Ab (hU1.kp _ _ _ _ (by decide) (by decide) (Aa HX));clear hU1 HU HX c0 c1 c2 c3 c4 c5 c6 c7;have HU:=HU2;clear HU2;have HX:=HX2;clear HX2;obtain⟨c0,c1,c2,c3,c4,c5,c6,c7⟩:=Ax (Aa HX);go_wp2_with fail
 refine(Bb Bs b 2 nl _ _ (Aa HU).is (by decide) (by omega) (by simp only[VE,Ai];omega)).mono ?_;rintro e w8 ⟨rfl,hU1⟩;have HU2:=Ab ((Aa HU).trans hU1);have HX2:Hid (Bx w8 X nm fa bl fc st nd gn mt pa pl pc cr):=Ab (hU1.kp _ _ _ _ (by decide) (by decide) (Aa HX));clear hU1 HU HX c0 c1 c2 c3 c4 c5 c6 c7;have HU:=HU2;clear HU2;have HX:=HX2;clear HX2;obtain⟨c0,c1,c2,c3,c4,c5,c6,c7⟩:=Ax (Aa HX);go_wp2_with fail
 refine(Bb Bs b 2 11 _ _ (Aa HU).is (by decide) (by omega) (by simp only[VE,Ai];omega)).mono ?_;rintro e w9 ⟨rfl,hU1⟩;have HU2:=Ab ((Aa HU).trans hU1);have HX2:Hid (Bx w9 X nm fa bl fc st nd gn mt pa pl pc cr):=Ab (hU1.kp _ _ _ _ (by decide) (by decide) (Aa HX));clear hU1 HU HX c0 c1 c2 c3 c4 c5 c6 c7;have HU:=HU2;clear HU2;have HX:=HX2;clear HX2;obtain⟨c0,c1,c2,c3,c4,c5,c6,c7⟩:=Ax (Aa HX);go_wp2;go_end0
 refine⟨rfl, ?_⟩;rw[HGOAL];simp only[<-VS];rw[Aa HNL,Aa HBL,Aa HPL];exact Aa HU
theorem AM (Bs b:Nat)(x:Ev)(xs:List Nat)(w:World)(h:∃ov,ZC Bs w b xs ov)(hn:ENum x.e)(hx:xs.length<=800000):
 Calls Tryz.prog 79 #[.pointer (some ⟨b,0,none⟩),x.val] w fun e w'=>e=.returned (.tuple #[])/\ZUp Bs w b (xs++Jj x.e) w':=by
 obtain⟨x,fa,fc,pa,pc⟩:=x;obtain⟨⟨nml,bys,sti,ndi,gn⟩,mt,pk,cr⟩:=x;obtain⟨⟨st0,st1⟩,⟨nd0,nd1⟩,hnm,hbl,hpl,hcr,hmt⟩:=hn;simp only at st0 st1 nd0 nd1 hnm hbl hpl hcr hmt
 obtain⟨st,rfl⟩:∃st:Nat,sti=(st:Int):=⟨sti.toNat,by omega⟩
 obtain⟨nd,rfl⟩:∃nd:Nat,ndi=(nd:Int):=⟨ndi.toNat,by omega⟩
 have hwst:=Bh (n:=st) (by omega);have hwnd:=Bh (n:=nd) (by omega);have HGOAL:=(show Jj ⟨⟨nml,bys,(st:Int),(nd:Int),gn⟩,mt,pk,cr⟩=Ag 29297 2++Ag 7 2++Ag st 4++Ag nd 2++Ag (Ed gn) 1 from rfl)
 unfold Ev.val;dsimp only;obtain⟨nm,hnmv⟩:∃nm,B nml=nm:=⟨_,rfl⟩
 obtain⟨nl,hnl⟩:∃nl,nml.length=nl:=⟨_,rfl⟩
 obtain⟨bl,hblv⟩:∃bl,bys.length=bl:=⟨_,rfl⟩
 obtain⟨pl,hplv⟩:∃pl,pk.length=pl:=⟨_,rfl⟩
 have hnsz:nm.size=nl:=by rw[<-hnmv,Im,hnl]
 rw[hnl]at hnm;rw[hblv]at hbl;rw[hplv]at hpl;rw[hnmv,hblv,hplv];have HNM:=Ab hnmv;have HNL:=Ab hnl;have HBL:=Ab hblv;have HPL:=Ab hplv;have hwbl:=Bh (n:=bl) (by omega);have hwpl:=Bh (n:=pl) (by omega);have hwnl:IntKind.u32.wrap (nm.size:Int)=(nl:Int):=by rw[hnsz];exact Bh (by omega)
 clear hnmv hnl hblv hplv hnsz
 cases gn
 . obtain⟨ov,hC⟩:=h;have HX:Hid (Bx (w.alloc (.cells #[.string nm,.slice fa bl fc,.int .i64 (st:Int),.int .i64 (nd:Int),.bool false,.int .u32 (mt:Int),.slice pa pl pc,.int .u32 (cr:Int)] 71)) w.heap.size nm fa bl fc st nd false mt pa pl pc cr):=Ab (heap_alloc_new w _)
   have HU:Hid (ZUp Bs w b xs (w.alloc (.cells #[.string nm,.slice fa bl fc,.int .i64 (st:Int),.int .i64 (nd:Int),.bool false,.int .u32 (mt:Int),.slice pa pl pc,.int .u32 (cr:Int)] 71))):=
    Ab ⟨⟨ov,hC.later ((Below.refl _ _).alloc (VB _) _)⟩,(Below.refl Bs w).alloc (by have:=hC.lt;have:=hC.base;omega) _,KpT.below ((Below.refl _ _).alloc (VB _) _)⟩
   obtain⟨X,hXX⟩:∃X,w.heap.size=X:=⟨_,rfl⟩
   rw[hXX]at HX;have HXX:=Ab hXX;obtain⟨c0,c1,c2,c3,c4,c5,c6,c7⟩:=Ax (Aa HX);clear hC;go_enter Tryz.func79,Tryz.ntmps79
   go_wp2_with fail
   refine(Bb Bs b 2 29297 _ _ (Aa HU).is (by decide) (by omega) (by omega)).mono ?_;rintro e w1 ⟨rfl,hU1⟩;have HU2:=Ab ((Aa HU).trans hU1);have HX2:Hid (Bx w1 X nm fa bl fc st nd false mt pa pl pc cr):=Ab (hU1.kp _ _ _ _ (by decide) (by decide) (Aa HX));clear hU1 HU HX c0 c1 c2 c3 c4 c5 c6 c7;have HU:=HU2;clear HU2;have HX:=HX2;clear HX2;obtain⟨c0,c1,c2,c3,c4,c5,c6,c7⟩:=Ax (Aa HX);go_wp2_with fail
   refine(Bb Bs b 2 7 _ _ (Aa HU).is (by decide) (by omega) (by simp only[VE,Ai];omega)).mono ?_;rintro e w2 ⟨rfl,hU1⟩;have HU2:=Ab ((Aa HU).trans hU1);have HX2:Hid (Bx w2 X nm fa bl fc st nd false mt pa pl pc cr):=Ab (hU1.kp _ _ _ _ (by decide) (by decide) (Aa HX));clear hU1 HU HX c0 c1 c2 c3 c4 c5 c6 c7;have HU:=HU2;clear HU2;have HX:=HX2;clear HX2;obtain⟨c0,c1,c2,c3,c4,c5,c6,c7⟩:=Ax (Aa HX);go_wp2_with fail
   refine(Bb Bs b 4 st _ _ (Aa HU).is (by decide) (by omega) (by simp only[VE,Ai];omega)).mono ?_;rintro e w3 ⟨rfl,hU1⟩;have HU2:=Ab ((Aa HU).trans hU1);have HX2:Hid (Bx w3 X nm fa bl fc st nd false mt pa pl pc cr):=Ab (hU1.kp _ _ _ _ (by decide) (by decide) (Aa HX));clear hU1 HU HX c0 c1 c2 c3 c4 c5 c6 c7;have HU:=HU2;clear HU2;have HX:=HX2;clear HX2;obtain⟨c0,c1,c2,c3,c4,c5,c6,c7⟩:=Ax (Aa HX);go_wp2_with fail
   refine(Bb Bs b 2 nd _ _ (Aa HU).is (by decide) (by omega) (by simp only[VE,Ai];omega)).mono ?_;rintro e w4 ⟨rfl,hU1⟩;have HU2:=Ab ((Aa HU).trans hU1);have HX2:Hid (Bx w4 X nm fa bl fc st nd false mt pa pl pc cr):=Ab (hU1.kp _ _ _ _ (by decide) (by decide) (Aa HX));clear hU1 HU HX c0 c1 c2 c3 c4 c5 c6 c7;have HU:=HU2;clear HU2;have HX:=HX2;clear HX2;obtain⟨c0,c1,c2,c3,c4,c5,c6,c7⟩:=Ax (Aa HX);go_wp2_with fail
   refine(Bb Bs b 1 0 _ _ (Aa HU).is (by decide) (by omega) (by simp only[VE,Ai];omega)).mono ?_;rintro e w5 ⟨rfl,hU1⟩;have HU2:=Ab ((Aa HU).trans hU1);clear hU1 HU;have HU:=HU2;clear HU2;go_wp2;go_end0
   refine⟨rfl, ?_⟩;rw[HGOAL];simp only[<-VS];exact Aa HU
 . obtain⟨ov,hC⟩:=h;have HX:Hid (Bx (w.alloc (.cells #[.string nm,.slice fa bl fc,.int .i64 (st:Int),.int .i64 (nd:Int),.bool true,.int .u32 (mt:Int),.slice pa pl pc,.int .u32 (cr:Int)] 71)) w.heap.size nm fa bl fc st nd true mt pa pl pc cr):=Ab (heap_alloc_new w _)
   have HU:Hid (ZUp Bs w b xs (w.alloc (.cells #[.string nm,.slice fa bl fc,.int .i64 (st:Int),.int .i64 (nd:Int),.bool true,.int .u32 (mt:Int),.slice pa pl pc,.int .u32 (cr:Int)] 71))):=
    Ab ⟨⟨ov,hC.later ((Below.refl _ _).alloc (VB _) _)⟩,(Below.refl Bs w).alloc (by have:=hC.lt;have:=hC.base;omega) _,KpT.below ((Below.refl _ _).alloc (VB _) _)⟩
   obtain⟨X,hXX⟩:∃X,w.heap.size=X:=⟨_,rfl⟩
   rw[hXX]at HX;have HXX:=Ab hXX;obtain⟨c0,c1,c2,c3,c4,c5,c6,c7⟩:=Ax (Aa HX);clear hC;go_enter Tryz.func79,Tryz.ntmps79
   go_wp2_with fail
   refine(Bb Bs b 2 29297 _ _ (Aa HU).is (by decide) (by omega) (by omega)).mono ?_;rintro e w1 ⟨rfl,hU1⟩;have HU2:=Ab ((Aa HU).trans hU1);have HX2:Hid (Bx w1 X nm fa bl fc st nd true mt pa pl pc cr):=Ab (hU1.kp _ _ _ _ (by decide) (by decide) (Aa HX));clear hU1 HU HX c0 c1 c2 c3 c4 c5 c6 c7;have HU:=HU2;clear HU2;have HX:=HX2;clear HX2;obtain⟨c0,c1,c2,c3,c4,c5,c6,c7⟩:=Ax (Aa HX);go_wp2_with fail
   refine(Bb Bs b 2 7 _ _ (Aa HU).is (by decide) (by omega) (by simp only[VE,Ai];omega)).mono ?_;rintro e w2 ⟨rfl,hU1⟩;have HU2:=Ab ((Aa HU).trans hU1);have HX2:Hid (Bx w2 X nm fa bl fc st nd true mt pa pl pc cr):=Ab (hU1.kp _ _ _ _ (by decide) (by decide) (Aa HX));clear hU1 HU HX c0 c1 c2 c3 c4 c5 c6 c7;have HU:=HU2;clear HU2;have HX:=HX2;clear HX2;obtain⟨c0,c1,c2,c3,c4,c5,c6,c7⟩:=Ax (Aa HX);go_wp2_with fail
   refine(Bb Bs b 4 st _ _ (Aa HU).is (by decide) (by omega) (by simp only[VE,Ai];omega)).mono ?_;rintro e w3 ⟨rfl,hU1⟩;have HU2:=Ab ((Aa HU).trans hU1);have HX2:Hid (Bx w3 X nm fa bl fc st nd true mt pa pl pc cr):=Ab (hU1.kp _ _ _ _ (by decide) (by decide) (Aa HX));clear hU1 HU HX c0 c1 c2 c3 c4 c5 c6 c7;have HU:=HU2;clear HU2;have HX:=HX2;clear HX2;obtain⟨c0,c1,c2,c3,c4,c5,c6,c7⟩:=Ax (Aa HX);go_wp2_with fail
   refine(Bb Bs b 2 nd _ _ (Aa HU).is (by decide) (by omega) (by simp only[VE,Ai];omega)).mono ?_;rintro e w4 ⟨rfl,hU1⟩;have HU2:=Ab ((Aa HU).trans hU1);have HX2:Hid (Bx w4 X nm fa bl fc st nd true mt pa pl pc cr):=Ab (hU1.kp _ _ _ _ (by decide) (by decide) (Aa HX));clear hU1 HU HX c0 c1 c2 c3 c4 c5 c6 c7;have HU:=HU2;clear HU2;have HX:=HX2;clear HX2;obtain⟨c0,c1,c2,c3,c4,c5,c6,c7⟩:=Ax (Aa HX);go_wp2_with fail
   refine(Bb Bs b 1 1 _ _ (Aa HU).is (by decide) (by omega) (by simp only[VE,Ai];omega)).mono ?_;rintro e w5 ⟨rfl,hU1⟩;have HU2:=Ab ((Aa HU).trans hU1);clear hU1 HU;have HU:=HU2;clear HU2;go_wp2;go_end0
   refine⟨rfl, ?_⟩;rw[HGOAL];simp only[<-VS];exact Aa HU
theorem SL (Bs b m s t:Nat)(xs:List Nat)(w:World)(h:∃ov,ZC Bs w b xs ov)(hm:m<=60000)(hs:s<=1000000)(ht:t<=1000000)(hx:xs.length<=800000):
 Calls Tryz.prog 57 #[.pointer (some ⟨b,0,none⟩),.int .i64 (m:Int),.int .i64 (s:Int),.int .i64 (t:Int)] w fun e w'=>e=.returned (.tuple #[])/\ZUp Bs w b (xs++Pm m s t) w':=by
 have HGOAL:=(show Pm m s t=Ag 101010256 4++Ag 0 4++Ag m 2++Ag m 2++Ag s 4++Ag t 4++Ag 0 2 from rfl)
 have hwm:=Bh (n:=m) (by omega);have hws:=Bh (n:=s) (by omega);have hwt:=Bh (n:=t) (by omega);obtain⟨ov,hC⟩:=h;have HU:=Ab (ZUp.refl hC);clear hC;go_enter Tryz.func57,Tryz.ntmps57
 go_wp2_with fail
 refine(Bb Bs b 4 101010256 _ _ (Aa HU).is (by decide) (by omega) (by omega)).mono ?_;rintro e w1 ⟨rfl,hU1⟩;have HU2:=Ab ((Aa HU).trans hU1);clear hU1 HU;have HU:=HU2;clear HU2;go_wp2_with fail
 refine(Hc Bs b 4 _ _ (Aa HU).is (by decide) (by simp only[VE,Ai];omega)).mono ?_;rintro e w2 ⟨rfl,hU1⟩;have HU2:=Ab ((Aa HU).trans hU1);clear hU1 HU;have HU:=HU2;clear HU2;go_wp2_with fail
 refine(Bb Bs b 2 m _ _ (Aa HU).is (by decide) (by omega) (by simp only[VE,Ai];omega)).mono ?_;rintro e w3 ⟨rfl,hU1⟩;have HU2:=Ab ((Aa HU).trans hU1);clear hU1 HU;have HU:=HU2;clear HU2;go_wp2_with fail
 refine(Bb Bs b 2 m _ _ (Aa HU).is (by decide) (by omega) (by simp only[VE,Ai];omega)).mono ?_;rintro e w4 ⟨rfl,hU1⟩;have HU2:=Ab ((Aa HU).trans hU1);clear hU1 HU;have HU:=HU2;clear HU2;go_wp2_with fail
 refine(Bb Bs b 4 s _ _ (Aa HU).is (by decide) (by omega) (by simp only[VE,Ai];omega)).mono ?_;rintro e w5 ⟨rfl,hU1⟩;have HU2:=Ab ((Aa HU).trans hU1);clear hU1 HU;have HU:=HU2;clear HU2;go_wp2_with fail
 refine(Bb Bs b 4 t _ _ (Aa HU).is (by decide) (by omega) (by simp only[VE,Ai];omega)).mono ?_;rintro e w6 ⟨rfl,hU1⟩;have HU2:=Ab ((Aa HU).trans hU1);clear hU1 HU;have HU:=HU2;clear HU2;go_wp2_with fail
 refine(Hc Bs b 2 _ _ (Aa HU).is (by decide) (by simp only[VE,Ai];omega)).mono ?_;rintro e w7 ⟨rfl,hU1⟩;have HU2:=Ab ((Aa HU).trans hU1);clear hU1 HU;have HU:=HU2;clear HU2;go_wp2;go_end0
 refine⟨rfl, ?_⟩;rw[HGOAL];simp only[<-VS];exact Aa HU
theorem Z0d {w w' W:World}{Bs c:Nat}{a:Option Addr}{ys:List Nat}(h:PkIn w a c ys)(hB:Below Bs w w')(hb:∀g o,a=some ⟨g,o,none⟩->ys≠ []->g<Bs)(hW:w'.grownBy W none):PkIn W a c ys:=by
 refine⟨?_,h.2⟩
 by_cases h0:ys= []
 . exact .inl h0
 . rcases h.1 with h1|⟨b,o,e,hl,hc⟩
   . exact absurd h1 h0
   . have hbl:=hb b o e h0;have hs:=hB.size;refine .inr ⟨b,o,e,VG hl (VU hs hW.size),fun j hj=> ?_⟩;have e1:w'.heap[b]? =w.heap[b]? :=hB.block b hbl;have e2:W.heap[b]? =w'.heap[b]? :=hW.block b (by omega) (by simp);exact(World.cell?_of_block (w:=w) (a:=⟨b,_,none⟩) (e2.trans e1)).trans (hc j hj)
theorem SI (Bs b:Nat)(x:Ev)(xs:List Nat)(w:World)(h:∃ov,ZC Bs w b xs ov)(hn:ENum x.e)(hpk:PkIn w x.pa x.pc x.e.pk)(hpb:∀g o,x.pa=some ⟨g,o,none⟩->x.e.pk≠ []->g<Bs)(hx:xs.length<=700000):
 Calls Tryz.prog 55 #[.pointer (some ⟨b,0,none⟩),x.val] w fun e w'=>e=.returned (.tuple #[])/\ZUp Bs w b (xs++Vr x.e) w':=by
 obtain⟨x,fa,fc,pa,pc⟩:=x;obtain⟨⟨nml,bys,sti,ndi,gn⟩,mt,pk,cr⟩:=x;have hn':=hn;obtain⟨⟨st0,st1⟩,⟨nd0,nd1⟩,hnm,hbl,hpl,hcr,hmt⟩:=hn;simp only at st0 st1 nd0 nd1 hnm hbl hpl hcr hmt
 obtain⟨st,rfl⟩:∃st:Nat,sti=(st:Int):=⟨sti.toNat,by omega⟩
 obtain⟨nd,rfl⟩:∃nd:Nat,ndi=(nd:Int):=⟨ndi.toNat,by omega⟩
 have hst2:((st:Int)).toNat=st:=by omega
 have hwst:=Bh (n:=st) (by omega);have hwnd:=Bh (n:=nd) (by omega);have HGOAL:=(show Vr ⟨⟨nml,bys,(st:Int),(nd:Int),gn⟩,mt,pk,cr⟩=Ag 67324752 4++To ⟨⟨nml,bys,(st:Int),(nd:Int),gn⟩,mt,pk,cr⟩++n8 nml++Jj ⟨⟨nml,bys,(st:Int),(nd:Int),gn⟩,mt,pk,cr⟩++pk from rfl)
 have HM:=Ab (fun ys W h1 h2=>AK Bs b ⟨⟨⟨nml,bys,(st:Int),(nd:Int),gn⟩,mt,pk,cr⟩,fa,fc,pa,pc⟩ ys W h1 hn' h2);have HE:=Ab (fun ys W h1 h2=>AM Bs b ⟨⟨⟨nml,bys,(st:Int),(nd:Int),gn⟩,mt,pk,cr⟩,fa,fc,pa,pc⟩ ys W h1 hn' h2);obtain⟨MID,hMID⟩:∃MID,To ⟨⟨nml,bys,(st:Int),(nd:Int),gn⟩,mt,pk,cr⟩=MID:=⟨_,rfl⟩
 obtain⟨EXT,hEXT⟩:∃EXT,Jj ⟨⟨nml,bys,(st:Int),(nd:Int),gn⟩,mt,pk,cr⟩=EXT:=⟨_,rfl⟩
 have hMl:MID.length=26:=by rw[<-hMID];exact Ly _
 have hEl:EXT.length=11:=by rw[<-hEXT];exact Ie _
 unfold Ev.val at HM HE;dsimp only at HM HE;rw[hMID,hEXT]at HGOAL;rw[hMID]at HM;rw[hEXT]at HE;clear hMID hEXT;unfold Ev.val;dsimp only;have HPK:=Ab hpk;have HPB:=Ab hpb;clear hpk hpb;obtain⟨nm,hnmv⟩:∃nm,B nml=nm:=⟨_,rfl⟩
 obtain⟨nl,hnl⟩:∃nl,nml.length=nl:=⟨_,rfl⟩
 obtain⟨bl,hblv⟩:∃bl,bys.length=bl:=⟨_,rfl⟩
 obtain⟨pl,hplv⟩:∃pl,pk.length=pl:=⟨_,rfl⟩
 have hnsz:nm.size=nl:=by rw[<-hnmv,Im,hnl]
 rw[hnl]at hnm;rw[hblv]at hbl;rw[hplv]at hpl;rw[hnmv,hblv,hplv]at HM HE ⊢;have HNM:=Ab hnmv;have HNL:=Ab hnl;have HBL:=Ab hblv;have HPL:=Ab hplv;have hwbl:=Bh (n:=bl) (by omega);have hwpl:=Bh (n:=pl) (by omega);have hwnl:IntKind.u32.wrap (nm.size:Int)=(nl:Int):=by rw[hnsz];exact Bh (by omega)
 clear hnmv hnl hblv hplv hnsz;obtain⟨ov,hC⟩:=h;have HX:Hid (Bx (w.alloc (.cells #[.string nm,.slice fa bl fc,.int .i64 (st:Int),.int .i64 (nd:Int),.bool gn,.int .u32 (mt:Int),.slice pa pl pc,.int .u32 (cr:Int)] 71)) w.heap.size nm fa bl fc st nd gn mt pa pl pc cr):=Ab (heap_alloc_new w _)
 have HU:Hid (ZUp Bs w b xs (w.alloc (.cells #[.string nm,.slice fa bl fc,.int .i64 (st:Int),.int .i64 (nd:Int),.bool gn,.int .u32 (mt:Int),.slice pa pl pc,.int .u32 (cr:Int)] 71))):=
  Ab ⟨⟨ov,hC.later ((Below.refl _ _).alloc (VB _) _)⟩,(Below.refl Bs w).alloc (by have:=hC.lt;have:=hC.base;omega) _,KpT.below ((Below.refl _ _).alloc (VB _) _)⟩
 obtain⟨X,hXX⟩:∃X,w.heap.size=X:=⟨_,rfl⟩
 rw[hXX]at HX;have HXX:=Ab hXX;obtain⟨c0,c1,c2,c3,c4,c5,c6,c7⟩:=Ax (Aa HX);clear hC;go_enter Tryz.func55,Tryz.ntmps55
 go_wp2_with fail
 refine(Bb Bs b 4 67324752 _ _ (Aa HU).is (by decide) (by omega) (by omega)).mono ?_;rintro e w1 ⟨rfl,hU1⟩;have HU2:=Ab ((Aa HU).trans hU1);have HX2:Hid (Bx w1 X nm fa bl fc st nd gn mt pa pl pc cr):=Ab (hU1.kp _ _ _ _ (by decide) (by decide) (Aa HX));clear hU1 HU HX c0 c1 c2 c3 c4 c5 c6 c7;have HU:=HU2;clear HU2;have HX:=HX2;clear HX2;obtain⟨c0,c1,c2,c3,c4,c5,c6,c7⟩:=Ax (Aa HX);go_wp2_with fail
 refine(Aa HM _ _ (Aa HU).is (by simp only[VE,Ai];omega)).mono ?_;rintro e w2 ⟨rfl,hU1⟩;have HU2:=Ab ((Aa HU).trans hU1);have HX2:Hid (Bx w2 X nm fa bl fc st nd gn mt pa pl pc cr):=Ab (hU1.kp _ _ _ _ (by decide) (by decide) (Aa HX));clear hU1 HU HX c0 c1 c2 c3 c4 c5 c6 c7;have HU:=HU2;clear HU2;have HX:=HX2;clear HX2;obtain⟨c0,c1,c2,c3,c4,c5,c6,c7⟩:=Ax (Aa HX);obtain⟨ov1,hC1⟩:=(Aa HU).is;obtain⟨d0,g0⟩:=hC1.new;have HC1:=Ab hC1;clear hC1;go_wp2;go_region_law (refine LL rfl (.tmp 13) (.tmp 16) rfl w2 Bs b _ nml _ rfl (Aa HC1) (by repeat (first|with_reducible exact Aw _ _|with_reducible refine Cb ?_|with_reducible refine ga ?_ _)) (congrArg Value.string (Aa HNM).symm) (by simp only[VE,Ai,hMl,Aa HNL];omega) ?_;intro a' l' c' w' q1 q2 q3)
 all_goals
  have HU2:=Ab ((Aa HU).trans (Aa q3));have HX2:Hid (Bx (w'.setCell ⟨b,0,none⟩ (.slice a' l' c')) X nm fa bl fc st nd gn mt pa pl pc cr):=Ab ((Aa q3).kp _ _ _ _ (by decide) (by decide) (Aa HX));clear q1 q2 q3 HU HX c0 c1 c2 c3 c4 c5 c6 c7 d0 g0 HC1;have HU:=HU2;have HX:=HX2;clear HU2 HX2;obtain⟨c0,c1,c2,c3,c4,c5,c6,c7⟩:=Ax (Aa HX);go_wp2_with fail
  refine(Aa HE _ _ (Aa HU).is (by simp only[VE,Ai,hMl,Da,Aa HNL];omega)).mono ?_;rintro e w3 ⟨rfl,hU1⟩;have HU2:=Ab ((Aa HU).trans hU1);have HX2:Hid (Bx w3 X nm fa bl fc st nd gn mt pa pl pc cr):=Ab (hU1.kp _ _ _ _ (by decide) (by decide) (Aa HX));clear hU1 HU HX c0 c1 c2 c3 c4 c5 c6 c7;have HU:=HU2;clear HU2;have HX:=HX2;clear HX2;obtain⟨c0,c1,c2,c3,c4,c5,c6,c7⟩:=Ax (Aa HX);obtain⟨ov1,hC1⟩:=(Aa HU).is;obtain⟨d0,g0⟩:=hC1.new;have HC1:=Ab hC1;clear hC1;go_wp2;go_region_law (refine LM rfl (.tmp 27) (.tmp 29) rfl w3 Bs b _ pk _ rfl (Aa HC1) (by repeat (first|with_reducible exact Aw _ _|with_reducible refine Cb ?_|with_reducible refine ga ?_ _)) pa pl pc rfl (Aa HPL) (Z0d (Aa HPK) (Aa HU).below (Aa HPB) (by repeat (first|with_reducible exact Aw _ _|with_reducible refine Cb ?_|with_reducible refine ga ?_ _))) (by simp only[VE,Ai,hMl,hEl,Da,Aa HNL];omega) ?_;intro a' l' c' w' q1 q2 q3)
  all_goals
   have HU2:=Ab ((Aa HU).trans (Aa q3));clear q1 q2 q3 HU HX c0 c1 c2 c3 c4 c5 c6 c7 d0 g0 HC1;have HU:=HU2;clear HU2;go_wp2;go_end0
   refine⟨rfl, ?_⟩;rw[HGOAL];simp only[<-VS];exact Aa HU
theorem SH (Bs b p:Nat)(x:Ev)(xs:List Nat)(w:World)(h:∃ov,ZC Bs w b xs ov)(hn:ENum x.e)(hp:p<=1000000)(hx:xs.length<=700000):
 Calls Tryz.prog 56 #[.pointer (some ⟨b,0,none⟩),x.val,.int .i64 (p:Int)] w fun e w'=>e=.returned (.tuple #[])/\ZUp Bs w b (xs++Qo x.e p) w':=by
 obtain⟨x,fa,fc,pa,pc⟩:=x;obtain⟨⟨nml,bys,sti,ndi,gn⟩,mt,pk,cr⟩:=x;have hn':=hn;obtain⟨⟨st0,st1⟩,⟨nd0,nd1⟩,hnm,hbl,hpl,hcr,hmt⟩:=hn;simp only at st0 st1 nd0 nd1 hnm hbl hpl hcr hmt
 obtain⟨st,rfl⟩:∃st:Nat,sti=(st:Int):=⟨sti.toNat,by omega⟩
 obtain⟨nd,rfl⟩:∃nd:Nat,ndi=(nd:Int):=⟨ndi.toNat,by omega⟩
 have hst2:((st:Int)).toNat=st:=by omega
 have hwst:=Bh (n:=st) (by omega);have hwnd:=Bh (n:=nd) (by omega);have HGOAL:=(show Qo ⟨⟨nml,bys,(st:Int),(nd:Int),gn⟩,mt,pk,cr⟩ p=Ag 33639248 4++Ag 20 2++To ⟨⟨nml,bys,(st:Int),(nd:Int),gn⟩,mt,pk,cr⟩++Ag 0 10++Ag p 4++n8 nml++Jj ⟨⟨nml,bys,(st:Int),(nd:Int),gn⟩,mt,pk,cr⟩ from rfl)
 have HM:=Ab (fun ys W h1 h2=>AK Bs b ⟨⟨⟨nml,bys,(st:Int),(nd:Int),gn⟩,mt,pk,cr⟩,fa,fc,pa,pc⟩ ys W h1 hn' h2);have HE:=Ab (fun ys W h1 h2=>AM Bs b ⟨⟨⟨nml,bys,(st:Int),(nd:Int),gn⟩,mt,pk,cr⟩,fa,fc,pa,pc⟩ ys W h1 hn' h2);obtain⟨MID,hMID⟩:∃MID,To ⟨⟨nml,bys,(st:Int),(nd:Int),gn⟩,mt,pk,cr⟩=MID:=⟨_,rfl⟩
 obtain⟨EXT,hEXT⟩:∃EXT,Jj ⟨⟨nml,bys,(st:Int),(nd:Int),gn⟩,mt,pk,cr⟩=EXT:=⟨_,rfl⟩
 have hMl:MID.length=26:=by rw[<-hMID];exact Ly _
 have hEl:EXT.length=11:=by rw[<-hEXT];exact Ie _
 unfold Ev.val at HM HE;dsimp only at HM HE;rw[hMID,hEXT]at HGOAL;rw[hMID]at HM;rw[hEXT]at HE;clear hMID hEXT;unfold Ev.val;dsimp only;have hwp:=Bh (n:=p) (by omega);obtain⟨nm,hnmv⟩:∃nm,B nml=nm:=⟨_,rfl⟩
 obtain⟨nl,hnl⟩:∃nl,nml.length=nl:=⟨_,rfl⟩
 obtain⟨bl,hblv⟩:∃bl,bys.length=bl:=⟨_,rfl⟩
 obtain⟨pl,hplv⟩:∃pl,pk.length=pl:=⟨_,rfl⟩
 have hnsz:nm.size=nl:=by rw[<-hnmv,Im,hnl]
 rw[hnl]at hnm;rw[hblv]at hbl;rw[hplv]at hpl;rw[hnmv,hblv,hplv]at HM HE ⊢;have HNM:=Ab hnmv;have HNL:=Ab hnl;have HBL:=Ab hblv;have HPL:=Ab hplv;have hwbl:=Bh (n:=bl) (by omega);have hwpl:=Bh (n:=pl) (by omega);have hwnl:IntKind.u32.wrap (nm.size:Int)=(nl:Int):=by rw[hnsz];exact Bh (by omega)
 clear hnmv hnl hblv hplv hnsz;obtain⟨ov,hC⟩:=h;have HX:Hid (Bx (w.alloc (.cells #[.string nm,.slice fa bl fc,.int .i64 (st:Int),.int .i64 (nd:Int),.bool gn,.int .u32 (mt:Int),.slice pa pl pc,.int .u32 (cr:Int)] 71)) w.heap.size nm fa bl fc st nd gn mt pa pl pc cr):=Ab (heap_alloc_new w _)
 have HU:Hid (ZUp Bs w b xs (w.alloc (.cells #[.string nm,.slice fa bl fc,.int .i64 (st:Int),.int .i64 (nd:Int),.bool gn,.int .u32 (mt:Int),.slice pa pl pc,.int .u32 (cr:Int)] 71))):=
  Ab ⟨⟨ov,hC.later ((Below.refl _ _).alloc (VB _) _)⟩,(Below.refl Bs w).alloc (by have:=hC.lt;have:=hC.base;omega) _,KpT.below ((Below.refl _ _).alloc (VB _) _)⟩
 obtain⟨X,hXX⟩:∃X,w.heap.size=X:=⟨_,rfl⟩
 rw[hXX]at HX;have HXX:=Ab hXX;obtain⟨c0,c1,c2,c3,c4,c5,c6,c7⟩:=Ax (Aa HX);clear hC;go_enter Tryz.func56,Tryz.ntmps56
 go_wp2_with fail
 refine(Bb Bs b 4 33639248 _ _ (Aa HU).is (by decide) (by omega) (by omega)).mono ?_;rintro e w1 ⟨rfl,hU1⟩;have HU2:=Ab ((Aa HU).trans hU1);have HX2:Hid (Bx w1 X nm fa bl fc st nd gn mt pa pl pc cr):=Ab (hU1.kp _ _ _ _ (by decide) (by decide) (Aa HX));clear hU1 HU HX c0 c1 c2 c3 c4 c5 c6 c7;have HU:=HU2;clear HU2;have HX:=HX2;clear HX2;obtain⟨c0,c1,c2,c3,c4,c5,c6,c7⟩:=Ax (Aa HX);go_wp2_with fail
 refine(Bb Bs b 2 20 _ _ (Aa HU).is (by decide) (by omega) (by simp only[VE,Ai];omega)).mono ?_;rintro e w2 ⟨rfl,hU1⟩;have HU2:=Ab ((Aa HU).trans hU1);have HX2:Hid (Bx w2 X nm fa bl fc st nd gn mt pa pl pc cr):=Ab (hU1.kp _ _ _ _ (by decide) (by decide) (Aa HX));clear hU1 HU HX c0 c1 c2 c3 c4 c5 c6 c7;have HU:=HU2;clear HU2;have HX:=HX2;clear HX2;obtain⟨c0,c1,c2,c3,c4,c5,c6,c7⟩:=Ax (Aa HX);go_wp2_with fail
 refine(Aa HM _ _ (Aa HU).is (by simp only[VE,Ai];omega)).mono ?_;rintro e w3 ⟨rfl,hU1⟩;have HU2:=Ab ((Aa HU).trans hU1);have HX2:Hid (Bx w3 X nm fa bl fc st nd gn mt pa pl pc cr):=Ab (hU1.kp _ _ _ _ (by decide) (by decide) (Aa HX));clear hU1 HU HX c0 c1 c2 c3 c4 c5 c6 c7;have HU:=HU2;clear HU2;have HX:=HX2;clear HX2;obtain⟨c0,c1,c2,c3,c4,c5,c6,c7⟩:=Ax (Aa HX);go_wp2_with fail
 refine(Hc Bs b 10 _ _ (Aa HU).is (by decide) (by simp only[VE,Ai,hMl];omega)).mono ?_;rintro e w4 ⟨rfl,hU1⟩;have HU2:=Ab ((Aa HU).trans hU1);have HX2:Hid (Bx w4 X nm fa bl fc st nd gn mt pa pl pc cr):=Ab (hU1.kp _ _ _ _ (by decide) (by decide) (Aa HX));clear hU1 HU HX c0 c1 c2 c3 c4 c5 c6 c7;have HU:=HU2;clear HU2;have HX:=HX2;clear HX2;obtain⟨c0,c1,c2,c3,c4,c5,c6,c7⟩:=Ax (Aa HX);go_wp2_with fail
 refine(Bb Bs b 4 p _ _ (Aa HU).is (by decide) (by omega) (by simp only[VE,Ai,hMl];omega)).mono ?_;rintro e w5 ⟨rfl,hU1⟩;have HU2:=Ab ((Aa HU).trans hU1);have HX2:Hid (Bx w5 X nm fa bl fc st nd gn mt pa pl pc cr):=Ab (hU1.kp _ _ _ _ (by decide) (by decide) (Aa HX));clear hU1 HU HX c0 c1 c2 c3 c4 c5 c6 c7;have HU:=HU2;clear HU2;have HX:=HX2;clear HX2;obtain⟨c0,c1,c2,c3,c4,c5,c6,c7⟩:=Ax (Aa HX);obtain⟨ov1,hC1⟩:=(Aa HU).is;obtain⟨d0,g0⟩:=hC1.new;have HC1:=Ab hC1;clear hC1;go_wp2;go_region_law (refine LL rfl (.tmp 23) (.tmp 26) rfl w5 Bs b _ nml _ rfl (Aa HC1) (by repeat (first|with_reducible exact Aw _ _|with_reducible refine Cb ?_|with_reducible refine ga ?_ _)) (congrArg Value.string (Aa HNM).symm) (by simp only[VE,Ai,hMl,Aa HNL];omega) ?_;intro a' l' c' w' q1 q2 q3)
 all_goals
  have HU2:=Ab ((Aa HU).trans (Aa q3));have HX2:Hid (Bx (w'.setCell ⟨b,0,none⟩ (.slice a' l' c')) X nm fa bl fc st nd gn mt pa pl pc cr):=Ab ((Aa q3).kp _ _ _ _ (by decide) (by decide) (Aa HX));clear q1 q2 q3 HU HX c0 c1 c2 c3 c4 c5 c6 c7 d0 g0 HC1;have HU:=HU2;have HX:=HX2;clear HU2 HX2;obtain⟨c0,c1,c2,c3,c4,c5,c6,c7⟩:=Ax (Aa HX);go_wp2_with fail
  refine(Aa HE _ _ (Aa HU).is (by simp only[VE,Ai,hMl,Da,Aa HNL];omega)).mono ?_;rintro e w6 ⟨rfl,hU1⟩;have HU2:=Ab ((Aa HU).trans hU1);clear hU1 HU;have HU:=HU2;clear HU2;go_wp2;go_end0
  refine⟨rfl, ?_⟩;rw[HGOAL];simp only[<-VS];exact Aa HU
theorem Z5j {w:World}{a:Option Addr}{c:Nat}{bs:List UInt8}(h:BsIn w a c bs):PkIn w a c (n8 bs):=by
 rcases h with ⟨rfl,rfl,rfl⟩|⟨rfl,ad,rfl⟩|⟨b,o,rfl,h2,h3,h4⟩
 . exact⟨.inl rfl,fun _=>rfl⟩
 . exact⟨.inl rfl,fun e=>by cases e⟩
 . refine⟨.inr ⟨b,o,rfl,h2,fun j hj=> ?_⟩,fun e=>by cases e⟩;rw[Da]at hj;rw[h4 j hj];simp[n8,List.getD,hj]
theorem Z6e {w:World}{a:Option Addr}{c:Nat}{ys:List Nat}(h:PkIn w a c ys)(hc:ys.length<=c)(hv:∀x∈ys,x<256):BsIn w a c (o8 ys):=by
 cases a with
 |none=>
  have h0:=h.2 rfl;have:ys= []:=WV (by omega)
  subst this;exact .inl ⟨rfl,rfl,h0⟩
 |some ad=>
  rcases h.1 with rfl|⟨b,o,e,hb,hB⟩
  . exact .inr (.inl ⟨rfl,ad,rfl⟩)
  . refine .inr (.inr ⟨b,o,e,hb,by rw[Ey];exact hc,fun j hj=> ?_⟩);rw[Ey]at hj;rw[hB j hj];have h1:=hv ys[j] (WK hj);simp[o8,List.getD,hj]
    omega
structure EvIn (w:World)(x:Ev):Prop where
 fb:PkIn w x.fa x.fc (n8 x.e.f.bytes)
 fl:x.e.f.bytes.length<=x.fc
 big:x.e.f.bytes.length<=140737488355328
 txt:x.e.f.name.length<=140737488355328
 pk:PkIn w x.pa x.pc x.e.pk
theorem EvIn.below {w w':World}{x:Ev}(h:EvIn w x)(hB:Below w.heap.size w w'):EvIn w' x:=⟨h.fb.below hB,h.fl,h.big,h.txt,h.pk.below hB⟩
theorem EvIn.fv {w:World}{x:Ev}(h:EvIn w x):FvIn w ⟨x.e.f,x.fa,x.fc⟩:=⟨by have:=Z6e h.fb (by rw[Da];exact h.fl) (Lv _);rw[FQ]at this;exact this,h.big,h.txt⟩
theorem RE {w:World}{a:Option Addr}{c:Nat}{bs:List UInt8}(h:BsIn w a c bs):bs.length<=c:=by
 rcases h with ⟨rfl,rfl,rfl⟩|⟨rfl,ad,rfl⟩|⟨b,o,rfl,h2,h3,h4⟩
 . exact VB _
 . exact VH _
 . exact h3
theorem PkIn.grown {w w':World}{c:Nat}{r:Option Nat}{a:Option Addr}{ys:List Nat}(h:PkIn w a c ys)(hg:w.grownBy w' r)(hX:∀g o,a=some ⟨g,o,none⟩->ys≠ []->some g≠r):PkIn w' a c ys:=by
 refine⟨?_,h.2⟩
 by_cases h0:ys= []
 . exact .inl h0
 . rcases h.1 with h1|⟨b,o,e,hb,hc⟩
   . exact absurd h1 h0
   . exact .inr ⟨b,o,e,VG hb hg.size,hc.grown hg (hX b o e h0)⟩
def Ev.lies (x:Ev)(Pr:Nat->Prop):Prop:=(∀g o,x.fa=some ⟨g,o,none⟩->x.e.f.bytes≠ []->Pr g)/\(∀g o,x.pa=some ⟨g,o,none⟩->x.e.pk≠ []->Pr g)
theorem NM {l:List UInt8}(h:n8 l≠ []):l≠ []:=fun e=>h (by rw[e];rfl)
theorem EvIn.grown {w w':World}{x:Ev}{r:Option Nat}(h:EvIn w x)(hg:w.grownBy w' r)(hr:x.lies (fun g=>some g≠r)):EvIn w' x:=
 ⟨h.fb.grown hg (fun g o e1 e2=>hr.1 g o e1 (NM e2)),h.fl,h.big,h.txt,h.pk.grown hg (fun g o e1 e2=>hr.2 g o e1 e2)⟩
theorem Ev.lies.mono {x:Ev}{A C:Nat->Prop}(h:x.lies A)(hm:∀g,A g->C g):x.lies C:=⟨fun g o e1 e2=>hm g (h.1 g o e1 e2),fun g o e1 e2=>hm g (h.2 g o e1 e2)⟩
theorem EvIn.lt {w:World}{x:Ev}(h:EvIn w x):x.lies (fun g=>g<w.heap.size):=by
 constructor
 . intro g o e1 e2
   rcases h.fb.1 with h1|⟨b,o',e,hb,_⟩
   . exact absurd (by rw[<-FQ x.e.f.bytes,h1];rfl) e2
   . rw[e1]at e;cases e;exact hb
 . intro g o e1 e2
   rcases h.pk.1 with h1|⟨b,o',e,hb,_⟩
   . exact absurd h1 e2
   . rw[e1]at e;cases e;exact hb
theorem Xm {w:World}{a:Option Addr}{c:Nat}{ys:List Nat}(h:PkIn w a c ys):∀g o,a=some ⟨g,o,none⟩->ys≠ []->g<w.heap.size:=by
 intro g o e hne
 rcases h.1 with h1|⟨b,o',e',hb,_⟩
 . exact absurd h1 hne
 . rw[e]at e';cases e';exact hb
theorem Eu {α:Type}{l:List α}{k:Nat}{x:α}(h:l[k]? =some x):l.take (k+1)=l.take k++ [x]:=by
 obtain⟨hk,e⟩:=XT.1 h;rw[XB hk,e]
def ecells (xs:List Ev):List Value:=xs.flatMap Ev.cells
theorem II (xs:List Ev):(ecells xs).length=xs.length*8:=by
 induction xs with
 |nil=>rfl
 |cons x r ih=>
  have:ecells (x::r)=x.cells++ecells r:=rfl
  rw[this,VE,ih,VJ];show 8+_=_
  omega
theorem IJ (xs ys:List Ev):ecells (xs++ys)=ecells xs++ecells ys:=by simp[ecells]
theorem IH (y:Ev):ecells [y]=y.cells:=by simp[ecells]
theorem N6:∀(xs:List Ev) (j:Nat) (x:Ev) (i:Nat),xs[j]? =some x->i<8->(ecells xs)[j*8+i]? =x.cells[i]?
 | [],j,x,i,h,_=>by simp at h
 |y::r,0,x,i,h,hi=>by
  have:ecells (y::r)=y.cells++ecells r:=rfl
  simp at h
  subst h;rw[this,YJ,WG,WN (show i<8 from hi)]
 |y::r,j+1,x,i,h,hi=>by
  have e:ecells (y::r)=y.cells++ecells r:=rfl;have hl:y.cells.length=8:=rfl;have ih:=N6 r j x i (by simpa using h) hi;rw[e,VX (by rw[hl];omega),hl,show (j+1)*8+i-8=j*8+i by omega,ih]
theorem Z5 (y:Ev):∀u∈y.cells,u.oneCell'=true:=by
 intro u hu;simp only[Ev.cells,WH,XE,or_false]at hu
 rcases hu with rfl|rfl|rfl|rfl|rfl|rfl|rfl|rfl<;>rfl
structure ERow (w:World)(B:Nat)(v:Value)(xs:List Ev):Prop where
 own:w.ownsRow B 71 8 v xs.length (ecells xs)
 all:∀x∈xs,EvIn w x
 apart:∀x∈xs,x.lies (fun g=>some g≠v.ownBlock)
theorem ERow.nil (w:World)(B:Nat):ERow w B (.slice none 0 0) []:=⟨World.ownsRow_nil _ _ _ _,(fun x hx=>absurd hx XE),(fun x hx=>absurd hx XE)⟩
theorem ERow.below {w w':World}{B:Nat}{v:Value}{xs:List Ev}(h:ERow w B v xs)(hB:Below w.heap.size w w'):ERow w' B v xs:=
 ⟨Au h.own (fun g hg=>hB.block g (h.own.lt g hg).2),fun x hx=>(h.all x hx).below hB,h.apart⟩
theorem GM:(Tryz.prog.info? 71).map (fun i=>(i.zero,i.size,i.bytes))=some (some (.agg #[.string ⟨#[]⟩,.slice none 0 0,.int .i64 0,.int .i64 0,.bool false,.int .u32 0,.slice none 0 0,.int .u32 0]),8,104):=by kernel_rfl
theorem Fr (w:World){ops:Array Oper}{rest:List Oper}{o:Oper}{a:Act}{Q:Exit->Act->World->Prop}(hgd:o.guard=none)(s x:Operand)
 (ho:o.op=.call {callee:=.builtin .append,args:= #[s,x],argTypes:= #[69,69]}) (base:Nat) (v:Value) (xs:List Ev) (hs:a.eval s=v) (hown:ERow w base v xs)
 (g:Nat) (y:Ev) (hx:a.eval x=.slice (some ⟨g,0,none⟩) 1 1) (hc:∀j u,y.cells[j]? =some u->w.cell? ⟨g,j,none⟩=some u) (hy:EvIn w y) (hyb:y.lies (fun g=>some g≠v.ownBlock)) (hsz:xs.length+1<=100000) (hbase:base<=w.heap.size)
 (h:∀v' w',Hid (ERow w' base v' (xs++ [y]))->Hid (w.grownBy w' v.ownBlock)->wpList Tryz.prog ops Q rest (a.put o.dst v') w'):wpList Tryz.prog ops Q (o::rest) a w:=by
 obtain⟨i0,hi,hz0,hz1,hz2⟩:=info_parts GM;refine wpList_append_own_at w hgd s x 69 ho base 71 i0 _ 8 104 Tryz.underlying69 hi hz0 hz1 hz2 rfl (by decide) v xs.length (ecells xs) hs hown.own ⟨g,0,none⟩ 1 1 y.cells hx rfl ?_ (Z5 y) (by unfold maxLen;omega) (by omega) hbase ?_
 . intro j u hj;have e2:(⟨g,0,none⟩:Addr).add j=⟨g,j,none⟩:=by unfold Addr.add;split<;>simp_all
   rw[e2];exact hc j u hj
 . intro v' w' h1 h2 _ h4
   have hne:∀z∈xs++ [y],z.lies (fun g=>some g≠v.ownBlock):=by
    intro z hz
    rcases WP.1 hz with hz|hz
    . exact hown.apart z hz
    . rw[WO.1 hz];exact hyb
   have hin:∀z∈xs++ [y],EvIn w z:=by
    intro z hz
    rcases WP.1 hz with hz|hz
    . exact hown.all z hz
    . rw[WO.1 hz];exact hy
   refine h v' w' (Ab ⟨?_,fun z hz=>(hin z hz).grown h2 (hne z hz),fun z hz=> ?_⟩) (Ab h2)
   . rw[IJ,IH,VE];exact h1
   . have hl:=(hin z hz).lt;have hn:=hne z hz
     rcases h4 with h4|h4
     . rw[h4];exact hn
     . rw[h4];exact hl.mono (fun g hg e=>by have:=VM e;omega)
def Es (w:World)(b o:Nat)(xs:List Ev):Prop:=∀j x,xs[j]? =some x->∀i,i<8->w.cell? ⟨b,o+j*8+i,none⟩=x.cells[i]?
structure EsIn (w:World)(ad:Option Addr)(c:Nat)(xs:List Ev):Prop where
 at_:xs= []\/∃b o,ad=some ⟨b,o,none⟩/\b<w.heap.size/\Es w b o xs
 all:∀x∈xs,EvIn w x
theorem EsIn.below {w w':World}{ad:Option Addr}{c:Nat}{xs:List Ev}(h:EsIn w ad c xs)(hB:Below w.heap.size w w'):EsIn w' ad c xs:=by
 refine⟨?_,fun x hx=>(h.all x hx).below hB⟩
 rcases h.at_ with h1|⟨b,o,e,hb,hE⟩
 . exact .inl h1
 . exact .inr ⟨b,o,e,VG hb hB.size,fun j x hj i hi=>(World.cell?_of_block (w:=w) (a:=⟨b,_,none⟩) (hB.block b hb)).trans (hE j x hj i hi)⟩
theorem EsIn.get {w w':World}{ad:Option Addr}{c k:Nat}{xs:List Ev}{x:Ev}(h:EsIn w ad c xs)(hB:Below w.heap.size w w')(hk:xs[k]? =some x):
 ∃b o,ad=some ⟨b,o,none⟩/\b<w.heap.size/\w'.cell? ⟨b,o+k*8,none⟩=some (.string (B x.e.f.name))/\w'.cell? ⟨b,o+k*8+1,none⟩=some (.slice x.fa x.e.f.bytes.length x.fc)/\w'.cell? ⟨b,o+k*8+2,none⟩=some (.int .i64 x.e.f.stamp)/\w'.cell? ⟨b,o+k*8+3,none⟩=some (.int .i64 x.e.f.node)/\w'.cell? ⟨b,o+k*8+4,none⟩=some (.bool x.e.f.gone)/\w'.cell? ⟨b,o+k*8+5,none⟩=some (.int .u32 (x.e.meth:Int))/\w'.cell? ⟨b,o+k*8+6,none⟩=some (.slice x.pa x.e.pk.length x.pc)/\w'.cell? ⟨b,o+k*8+7,none⟩=some (.int .u32 (x.e.crc:Int)):=by
 rcases(h.below hB).at_ with h1|⟨b,o,e,hb,hE⟩
 . subst h1;simp at hk
 . have hb':b<w.heap.size:=by
    rcases h.at_ with h1|⟨b',o',e',hb',_⟩
    . subst h1;simp at hk
    . rw[e]at e';cases e';exact hb'
   exact⟨b,o,e,hb',hE k x hk 0 (by decide),hE k x hk 1 (by decide),hE k x hk 2 (by decide),hE k x hk 3 (by decide),hE k x hk 4 (by decide),hE k x hk 5 (by decide),hE k x hk 6 (by decide),hE k x hk 7 (by decide)⟩
def Tl:Nat->List En->List Nat
 |_,[]=> []
 |p,x::r=>p::Tl (p+(Vr x).length) r
theorem BQ:∀(a:List En) (x:En) (p:Nat),Tl p (a++ [x])=Tl p a++ [p+(Av a).length]
 | [],x,p=>by simp[Tl,Av]
 |y::a,x,p=>by rw[XL,Tl,BQ a x,Tl,Av,VE,XL,WT]
theorem V4:∀(a:List En) (p:Nat),(Tl p a).length=a.length
 | [],p=>rfl
 |y::a,p=>by rw[Tl,VJ,V4 a,VJ]
theorem Z2j:∀(a:List En) (p k:Nat),k<a.length->(Tl p a).getD k 0=p+(Av (a.take k)).length
 | [],p,k,h=>by simp at h
 |y::a,p,0,h=>by simp[Tl,Av]
 |y::a,p,k+1,h=>by
  have:=Z2j a (p+(Vr y).length) k (by simpa using h)
  simp only[Tl,List.getD_cons_succ,XU,Av,VE];rw[this];omega
theorem J3 (a:List En)(x:En):Av (a++ [x])=Av a++Vr x:=by rw[CW];simp[Av]
theorem Uq (a:List En)(x:En):Ao 0 (a++ [x])=Ao 0 a++Qo x (Av a).length:=by rw[Zv];simp[Ao]
theorem ERow.entries {w:World}{B:Nat}{v:Value}{xs:List Ev}(h:ERow w B v xs):∃ad c,v=.slice ad xs.length c/\EsIn w ad c xs:=by
 rcases h.own.2 with ⟨h1,h2⟩|⟨g,cap,cur,h1,h2,h3,h4,h5⟩
 . exact⟨none,0,by rw[h1,h2],.inl (WV h2),h.all⟩
 . refine⟨some ⟨g,0,none⟩,cap,h1,.inr ⟨g,0,rfl,(h.own.lt g (by rw[h1];rfl)).2,fun j x hj i hi=> ?_⟩,h.all⟩;have hown:=h.own;rw[h1]at hown;have hl:=II xs;have hj2:=(XT.1 hj).1;rw[WG,hown.cellAt _ (by omega)];exact N6 xs j x i hj hi
structure AS (w:World)(Bs b:Nat)(xs:List Nat)(v:Value)(ps:List Nat)(wr:World):Prop where
 z:∃ov,ZC Bs wr b xs ov
 p:wr.ownsRow (b+1) 3 1 v ps.length (i64s ps)
 below:Below Bs w wr
theorem AS.later {w wr w':World}{Bs b:Nat}{xs ps:List Nat}{v:Value}(h:AS w Bs b xs v ps wr)(hB:Below wr.heap.size wr w'):AS w Bs b xs v ps w':=by
 obtain⟨ov,hz⟩:=h.z;refine⟨⟨ov,hz.later hB⟩,Au h.p (fun g hg=>hB.block g (h.p.lt g hg).2),h.below.trans (hB.mono (by have:=hz.lt;have:=hz.base;omega))⟩
theorem AS.app {w W w3:World}{Bs b y:Nat}{xs ps:List Nat}{v v':Value}(h:AS w Bs b xs v ps W)(hg:W.grownBy w3 v.ownBlock)(ho:w3.ownsRow (b+1) 3 1 v' (ps.length+1) (i64s ps++ [.int .i64 (y:Int)])):AS w Bs b xs v' (ps++ [y]) w3:=by
 obtain⟨ov,hz⟩:=h.z;have hlt:=hz.lt;have hbb:=hz.base;have hgs:=hg.size;refine⟨⟨ov,hz.base, ?_, ?_⟩, ?_, ?_⟩
 . refine(hg.block b hlt (fun e=> ?_)).trans hz.cell;have:=(h.p.lt b e.symm).1
   omega
 . refine Au hz.own (fun g hgo=>hg.block g (hz.own.lt g hgo).2 (fun e=> ?_));obtain⟨c1,e1⟩:=Oy hz.own hgo;obtain⟨c2,e2⟩:=Oy h.p e.symm;rw[e1]at e2
   injection e2 with e2
   injection e2 with _ e2
   exact absurd e2 (by decide)
 . rw[VE,i64s,WU];exact ho
 . exact h.below.grown hg (by omega) (fun g e=>by have:=(h.p.lt g e).1;omega)
theorem AS.up {w w3 w4:World}{Bs b:Nat}{xs ys ps:List Nat}{v:Value}(h:AS w Bs b xs v ps w3)(hU:ZUp Bs w3 b ys w4):AS w Bs b ys v ps w4:=by
 refine⟨hU.is,Au h.p (fun g hg=> ?_),h.below.trans hU.below⟩;obtain⟨cs,e⟩:=Oy h.p hg;rw[e];exact hU.kp g cs _ _ (by decide) (by decide) e
theorem OI:(Tryz.prog.info? 3).map (fun i=>(i.zero,i.size,i.bytes))=some (some (.int .i64 0),1,8):=by kernel_rfl
theorem OU:∀(l:List En),(∀x∈l,ENum x)->(Av l).length<=12081*l.length
 | [],_=>by simp[Av]
 |x::r,h=>by
  have h1:=OU r (fun y hy=>h y (WR _ hy));have h2:=h x (by simp);have h3:=h2.nm;have h4:=h2.pl;rw[Av,VE,Kc,VJ];omega
theorem BH:∀(l:List En) (p:Nat),(∀x∈l,ENum x)->(Ao p l).length<=97*l.length
 | [],p,_=>by simp[Ao]
 |x::r,p,h=>by
  have h1:=BH r (p+(Vr x).length) (fun y hy=>h y (WR _ hy));have h3:=(h x (by simp)).nm;rw[Ao,VE,Lk,VJ];omega
end Go.Proofs.YtleocpdblhbimaaGreatDoor
