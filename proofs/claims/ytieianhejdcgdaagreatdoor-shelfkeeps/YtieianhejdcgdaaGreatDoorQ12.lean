import Derived.Test.YtieianhejdcgdaaGreatDoorQ11
set_option maxHeartbeats 4000000
namespace Go.Proofs.YtieianhejdcgdaaGreatDoor
open Go.RowKit
set_option linter.unusedVariables false
set_option maxRecDepth 100000
structure Ev where
 e:En
 fa:Option Addr
 fc:Nat
 pa:Option Addr
 pc:Nat
def Ev.cells (x:Ev):List Value:= [.string (B x.e.f.name),.slice x.fa x.e.f.bytes.length x.fc,.int .i64 x.e.f.stamp,.int .i64 x.e.f.node,.bool x.e.f.gone,.int .u32 (x.e.meth:Int),.slice x.pa x.e.pk.length x.pc,.int .u32 (x.e.crc:Int)]
def Ev.val (x:Ev):Value:=.agg #[.string (B x.e.f.name),.slice x.fa x.e.f.bytes.length x.fc,.int .i64 x.e.f.stamp,.int .i64 x.e.f.node,.bool x.e.f.gone,.int .u32 (x.e.meth:Int),.slice x.pa x.e.pk.length x.pc,.int .u32 (x.e.crc:Int)]
structure ENum (x:En):Prop where
 st:0<=x.f.stamp/\x.f.stamp<=1000000
 nd:0<=x.f.node/\x.f.node<=3
 nm:x.f.name.length<=40
 bl:x.f.bytes.length<=3000
 pl:x.pk.length<=12000
 cr:x.crc<4294967296
 mt:x.meth<65536
theorem Az {n:Nat}(h:n<4294967296):IntKind.u32.wrap (n:Int)=(n:Int):=by
 simp[IntKind.wrap,IntKind.bits,IntKind.signed]
 omega
abbrev Bx (w:World)(X:Nat)(nm:ByteArray)(fa:Option Addr)(bl fc:Nat)(st nd:Nat)(gn:Bool)(mt:Nat)(pa:Option Addr)(pl pc cr:Nat):Prop:=
 w.heap[X]? =some (.cells #[.string nm,.slice fa bl fc,.int .i64 (st:Int),.int .i64 (nd:Int),.bool gn,.int .u32 (mt:Int),.slice pa pl pc,.int .u32 (cr:Int)] 76 (0,0))
theorem As {w:World}{X:Nat}{nm:ByteArray}{fa:Option Addr}{bl fc st nd:Nat}{gn:Bool}{mt:Nat}{pa:Option Addr}{pl pc cr:Nat}(h:Bx w X nm fa bl fc st nd gn mt pa pl pc cr):w.cell? ⟨X,0,none⟩=some (.string nm)/\w.cell? ⟨X,1,none⟩=some (.slice fa bl fc)/\w.cell? ⟨X,2,none⟩=some (.int .i64 (st:Int))/\w.cell? ⟨X,3,none⟩=some (.int .i64 (nd:Int))/\w.cell? ⟨X,4,none⟩=some (.bool gn)/\w.cell? ⟨X,5,none⟩=some (.int .u32 (mt:Int))/\w.cell? ⟨X,6,none⟩=some (.slice pa pl pc)/\w.cell? ⟨X,7,none⟩=some (.int .u32 (cr:Int)):=⟨Ac h,Ac h,Ac h,Ac h,Ac h,Ac h,Ac h,Ac h⟩
theorem X5 (Bs b:Nat)(x:Ev)(xs:List Nat)(w:World)(h:∃ov,ZC Bs w b xs ov)(hn:ENum x.e)(hx:xs.length<=800000):
 Calls Tryz.prog 86 #[.pointer (some ⟨b,0,none⟩),x.val] w fun e w'=>e=.returned (.tuple #[])/\ZUp Bs w b (xs++C5 x.e) w':=by
 obtain⟨x,fa,fc,pa,pc⟩:=x;obtain⟨⟨nml,bys,sti,ndi,gn⟩,mt,pk,cr⟩:=x;obtain⟨⟨st0,st1⟩,⟨nd0,nd1⟩,hnm,hbl,hpl,hcr,hmt⟩:=hn;simp only at st0 st1 nd0 nd1 hnm hbl hpl hcr hmt
 obtain⟨st,rfl⟩:∃st:Nat,sti=(st:Int):=⟨sti.toNat,by omega⟩
 obtain⟨nd,rfl⟩:∃nd:Nat,ndi=(nd:Int):=⟨ndi.toNat,by omega⟩
 have hwst:=Az (n:=st) (by omega);have hwnd:=Az (n:=nd) (by omega);have HGOAL:=(show C5 ⟨⟨nml,bys,(st:Int),(nd:Int),gn⟩,mt,pk,cr⟩=Bd 20 2++Bd 0 2++Bd mt 2++Bd 0 4++Bd cr 4++Bd pk.length 4++Bd bys.length 4++Bd nml.length 2++Bd 11 2 from rfl)
 unfold Ev.val;dsimp only;obtain⟨nm,hnmv⟩:∃nm,B nml=nm:=⟨_,rfl⟩
 obtain⟨nl,hnl⟩:∃nl,nml.length=nl:=⟨_,rfl⟩
 obtain⟨bl,hblv⟩:∃bl,bys.length=bl:=⟨_,rfl⟩
 obtain⟨pl,hplv⟩:∃pl,pk.length=pl:=⟨_,rfl⟩
 have hnsz:nm.size=nl:=by rw[<-hnmv,Vk,hnl]
 rw[hnl]at hnm;rw[hblv]at hbl;rw[hplv]at hpl;rw[hnmv,hblv,hplv];have HNM:=Ab hnmv;have HNL:=Ab hnl;have HBL:=Ab hblv;have HPL:=Ab hplv;have hwbl:=Az (n:=bl) (by omega);have hwpl:=Az (n:=pl) (by omega);have hwnl:IntKind.u32.wrap (nm.size:Int)=(nl:Int):=by rw[hnsz];exact Az (by omega)
 clear hnmv hnl hblv hplv hnsz;obtain⟨ov,hC⟩:=h;have HX:Hid (Bx (w.alloc (.cells #[.string nm,.slice fa bl fc,.int .i64 (st:Int),.int .i64 (nd:Int),.bool gn,.int .u32 (mt:Int),.slice pa pl pc,.int .u32 (cr:Int)] 76)) w.heap.size nm fa bl fc st nd gn mt pa pl pc cr):=Ab (heap_alloc_new w _)
 have HU:Hid (ZUp Bs w b xs (w.alloc (.cells #[.string nm,.slice fa bl fc,.int .i64 (st:Int),.int .i64 (nd:Int),.bool gn,.int .u32 (mt:Int),.slice pa pl pc,.int .u32 (cr:Int)] 76))):=
  Ab ⟨⟨ov,hC.later ((Below.refl _ _).alloc (VC _) _)⟩,(Below.refl Bs w).alloc (by have:=hC.lt;have:=hC.base;omega) _,KpT.below ((Below.refl _ _).alloc (VC _) _)⟩
 obtain⟨X,hXX⟩:∃X,w.heap.size=X:=⟨_,rfl⟩
 rw[hXX]at HX;have HXX:=Ab hXX;obtain⟨c0,c1,c2,c3,c4,c5,c6,c7⟩:=As (Aa HX);clear hC;go_enter Tryz.func86,Tryz.ntmps86
 go_wp2_with fail
 refine(Ax Bs b 2 20 _ _ (Aa HU).is (by decide) (by omega) (by omega)).mono ?_;rintro e w1 ⟨rfl,hU1⟩;have HU2:=Ab ((Aa HU).trans hU1);have HX2:Hid (Bx w1 X nm fa bl fc st nd gn mt pa pl pc cr):=Ab (hU1.kp _ _ _ _ (by decide) (by decide) (Aa HX));clear hU1 HU HX c0 c1 c2 c3 c4 c5 c6 c7;have HU:=HU2;clear HU2;have HX:=HX2;clear HX2;obtain⟨c0,c1,c2,c3,c4,c5,c6,c7⟩:=As (Aa HX);go_wp2_with fail
 refine(Ha Bs b 2 _ _ (Aa HU).is (by decide) (by simp only[VB,Ak];omega)).mono ?_;rintro e w2 ⟨rfl,hU1⟩;have HU2:=Ab ((Aa HU).trans hU1);have HX2:Hid (Bx w2 X nm fa bl fc st nd gn mt pa pl pc cr):=Ab (hU1.kp _ _ _ _ (by decide) (by decide) (Aa HX));clear hU1 HU HX c0 c1 c2 c3 c4 c5 c6 c7;have HU:=HU2;clear HU2;have HX:=HX2;clear HX2;obtain⟨c0,c1,c2,c3,c4,c5,c6,c7⟩:=As (Aa HX);go_wp2_with fail
 refine(Ax Bs b 2 mt _ _ (Aa HU).is (by decide) (by omega) (by simp only[VB,Ak];omega)).mono ?_;rintro e w3 ⟨rfl,hU1⟩;have HU2:=Ab ((Aa HU).trans hU1);have HX2:Hid (Bx w3 X nm fa bl fc st nd gn mt pa pl pc cr):=Ab (hU1.kp _ _ _ _ (by decide) (by decide) (Aa HX));clear hU1 HU HX c0 c1 c2 c3 c4 c5 c6 c7;have HU:=HU2;clear HU2;have HX:=HX2;clear HX2;obtain⟨c0,c1,c2,c3,c4,c5,c6,c7⟩:=As (Aa HX);go_wp2_with fail
 refine(Ha Bs b 4 _ _ (Aa HU).is (by decide) (by simp only[VB,Ak];omega)).mono ?_;rintro e w4 ⟨rfl,hU1⟩;have HU2:=Ab ((Aa HU).trans hU1);have HX2:Hid (Bx w4 X nm fa bl fc st nd gn mt pa pl pc cr):=Ab (hU1.kp _ _ _ _ (by decide) (by decide) (Aa HX));clear hU1 HU HX c0 c1 c2 c3 c4 c5 c6 c7;have HU:=HU2;clear HU2;have HX:=HX2;clear HX2;obtain⟨c0,c1,c2,c3,c4,c5,c6,c7⟩:=As (Aa HX);go_wp2_with fail
 refine(Ax Bs b 4 cr _ _ (Aa HU).is (by decide) (by omega) (by simp only[VB,Ak];omega)).mono ?_;rintro e w5 ⟨rfl,hU1⟩;have HU2:=Ab ((Aa HU).trans hU1);have HX2:Hid (Bx w5 X nm fa bl fc st nd gn mt pa pl pc cr):=Ab (hU1.kp _ _ _ _ (by decide) (by decide) (Aa HX));clear hU1 HU HX c0 c1 c2 c3 c4 c5 c6 c7;have HU:=HU2;clear HU2;have HX:=HX2;clear HX2;obtain⟨c0,c1,c2,c3,c4,c5,c6,c7⟩:=As (Aa HX);go_wp2_with fail
 refine(Ax Bs b 4 pl _ _ (Aa HU).is (by decide) (by omega) (by simp only[VB,Ak];omega)).mono ?_;rintro e w6 ⟨rfl,hU1⟩;have HU2:=Ab ((Aa HU).trans hU1);have HX2:Hid (Bx w6 X nm fa bl fc st nd gn mt pa pl pc cr):=Ab (hU1.kp _ _ _ _ (by decide) (by decide) (Aa HX));clear hU1 HU HX c0 c1 c2 c3 c4 c5 c6 c7;have HU:=HU2;clear HU2;have HX:=HX2;clear HX2;obtain⟨c0,c1,c2,c3,c4,c5,c6,c7⟩:=As (Aa HX);go_wp2_with fail
 refine(Ax Bs b 4 bl _ _ (Aa HU).is (by decide) (by omega) (by simp only[VB,Ak];omega)).mono ?_;rintro e w7 ⟨rfl,hU1⟩;have HU2:=Ab ((Aa HU).trans hU1);have HX2:Hid (Bx w7 X nm fa bl fc st nd gn mt pa pl pc cr):=Ab (hU1.kp _ _ _ _ (by decide) (by decide) (Aa HX));clear hU1 HU HX c0 c1 c2 c3 c4 c5 c6 c7;have HU:=HU2;clear HU2;have HX:=HX2;clear HX2;obtain⟨c0,c1,c2,c3,c4,c5,c6,c7⟩:=As (Aa HX);go_wp2_with fail
 refine(Ax Bs b 2 nl _ _ (Aa HU).is (by decide) (by omega) (by simp only[VB,Ak];omega)).mono ?_;rintro e w8 ⟨rfl,hU1⟩;have HU2:=Ab ((Aa HU).trans hU1);have HX2:Hid (Bx w8 X nm fa bl fc st nd gn mt pa pl pc cr):=Ab (hU1.kp _ _ _ _ (by decide) (by decide) (Aa HX));clear hU1 HU HX c0 c1 c2 c3 c4 c5 c6 c7;have HU:=HU2;clear HU2;have HX:=HX2;clear HX2;obtain⟨c0,c1,c2,c3,c4,c5,c6,c7⟩:=As (Aa HX);go_wp2_with fail
 refine(Ax Bs b 2 11 _ _ (Aa HU).is (by decide) (by omega) (by simp only[VB,Ak];omega)).mono ?_;rintro e w9 ⟨rfl,hU1⟩;have HU2:=Ab ((Aa HU).trans hU1);have HX2:Hid (Bx w9 X nm fa bl fc st nd gn mt pa pl pc cr):=Ab (hU1.kp _ _ _ _ (by decide) (by decide) (Aa HX));clear hU1 HU HX c0 c1 c2 c3 c4 c5 c6 c7;have HU:=HU2;clear HU2;have HX:=HX2;clear HX2;obtain⟨c0,c1,c2,c3,c4,c5,c6,c7⟩:=As (Aa HX);go_wp2;go_end0
 refine⟨rfl, ?_⟩;rw[HGOAL];simp only[<-VJ];rw[Aa HNL,Aa HBL,Aa HPL];exact Aa HU
theorem X6 (Bs b:Nat)(x:Ev)(xs:List Nat)(w:World)(h:∃ov,ZC Bs w b xs ov)(hn:ENum x.e)(hx:xs.length<=800000):
 Calls Tryz.prog 87 #[.pointer (some ⟨b,0,none⟩),x.val] w fun e w'=>e=.returned (.tuple #[])/\ZUp Bs w b (xs++I3 x.e) w':=by
 obtain⟨x,fa,fc,pa,pc⟩:=x;obtain⟨⟨nml,bys,sti,ndi,gn⟩,mt,pk,cr⟩:=x;obtain⟨⟨st0,st1⟩,⟨nd0,nd1⟩,hnm,hbl,hpl,hcr,hmt⟩:=hn;simp only at st0 st1 nd0 nd1 hnm hbl hpl hcr hmt
 obtain⟨st,rfl⟩:∃st:Nat,sti=(st:Int):=⟨sti.toNat,by omega⟩
 obtain⟨nd,rfl⟩:∃nd:Nat,ndi=(nd:Int):=⟨ndi.toNat,by omega⟩
 have hwst:=Az (n:=st) (by omega);have hwnd:=Az (n:=nd) (by omega);have HGOAL:=(show I3 ⟨⟨nml,bys,(st:Int),(nd:Int),gn⟩,mt,pk,cr⟩=Bd 29297 2++Bd 7 2++Bd st 4++Bd nd 2++Bd (U4 gn) 1 from rfl)
 unfold Ev.val;dsimp only;obtain⟨nm,hnmv⟩:∃nm,B nml=nm:=⟨_,rfl⟩
 obtain⟨nl,hnl⟩:∃nl,nml.length=nl:=⟨_,rfl⟩
 obtain⟨bl,hblv⟩:∃bl,bys.length=bl:=⟨_,rfl⟩
 obtain⟨pl,hplv⟩:∃pl,pk.length=pl:=⟨_,rfl⟩
 have hnsz:nm.size=nl:=by rw[<-hnmv,Vk,hnl]
 rw[hnl]at hnm;rw[hblv]at hbl;rw[hplv]at hpl;rw[hnmv,hblv,hplv];have HNM:=Ab hnmv;have HNL:=Ab hnl;have HBL:=Ab hblv;have HPL:=Ab hplv;have hwbl:=Az (n:=bl) (by omega);have hwpl:=Az (n:=pl) (by omega);have hwnl:IntKind.u32.wrap (nm.size:Int)=(nl:Int):=by rw[hnsz];exact Az (by omega)
 clear hnmv hnl hblv hplv hnsz
 cases gn
 . obtain⟨ov,hC⟩:=h;have HX:Hid (Bx (w.alloc (.cells #[.string nm,.slice fa bl fc,.int .i64 (st:Int),.int .i64 (nd:Int),.bool false,.int .u32 (mt:Int),.slice pa pl pc,.int .u32 (cr:Int)] 76)) w.heap.size nm fa bl fc st nd false mt pa pl pc cr):=Ab (heap_alloc_new w _)
   have HU:Hid (ZUp Bs w b xs (w.alloc (.cells #[.string nm,.slice fa bl fc,.int .i64 (st:Int),.int .i64 (nd:Int),.bool false,.int .u32 (mt:Int),.slice pa pl pc,.int .u32 (cr:Int)] 76))):=
    Ab ⟨⟨ov,hC.later ((Below.refl _ _).alloc (VC _) _)⟩,(Below.refl Bs w).alloc (by have:=hC.lt;have:=hC.base;omega) _,KpT.below ((Below.refl _ _).alloc (VC _) _)⟩
   obtain⟨X,hXX⟩:∃X,w.heap.size=X:=⟨_,rfl⟩
   rw[hXX]at HX;have HXX:=Ab hXX;obtain⟨c0,c1,c2,c3,c4,c5,c6,c7⟩:=As (Aa HX);clear hC;go_enter Tryz.func87,Tryz.ntmps87
   go_wp2_with fail
   refine(Ax Bs b 2 29297 _ _ (Aa HU).is (by decide) (by omega) (by omega)).mono ?_;rintro e w1 ⟨rfl,hU1⟩;have HU2:=Ab ((Aa HU).trans hU1);have HX2:Hid (Bx w1 X nm fa bl fc st nd false mt pa pl pc cr):=Ab (hU1.kp _ _ _ _ (by decide) (by decide) (Aa HX));clear hU1 HU HX c0 c1 c2 c3 c4 c5 c6 c7;have HU:=HU2;clear HU2;have HX:=HX2;clear HX2;obtain⟨c0,c1,c2,c3,c4,c5,c6,c7⟩:=As (Aa HX);go_wp2_with fail
   refine(Ax Bs b 2 7 _ _ (Aa HU).is (by decide) (by omega) (by simp only[VB,Ak];omega)).mono ?_;rintro e w2 ⟨rfl,hU1⟩;have HU2:=Ab ((Aa HU).trans hU1);have HX2:Hid (Bx w2 X nm fa bl fc st nd false mt pa pl pc cr):=Ab (hU1.kp _ _ _ _ (by decide) (by decide) (Aa HX));clear hU1 HU HX c0 c1 c2 c3 c4 c5 c6 c7;have HU:=HU2;clear HU2;have HX:=HX2;clear HX2;obtain⟨c0,c1,c2,c3,c4,c5,c6,c7⟩:=As (Aa HX);go_wp2_with fail
   refine(Ax Bs b 4 st _ _ (Aa HU).is (by decide) (by omega) (by simp only[VB,Ak];omega)).mono ?_;rintro e w3 ⟨rfl,hU1⟩;have HU2:=Ab ((Aa HU).trans hU1);have HX2:Hid (Bx w3 X nm fa bl fc st nd false mt pa pl pc cr):=Ab (hU1.kp _ _ _ _ (by decide) (by decide) (Aa HX));clear hU1 HU HX c0 c1 c2 c3 c4 c5 c6 c7;have HU:=HU2;clear HU2;have HX:=HX2;clear HX2;obtain⟨c0,c1,c2,c3,c4,c5,c6,c7⟩:=As (Aa HX);go_wp2_with fail
   refine(Ax Bs b 2 nd _ _ (Aa HU).is (by decide) (by omega) (by simp only[VB,Ak];omega)).mono ?_;rintro e w4 ⟨rfl,hU1⟩;have HU2:=Ab ((Aa HU).trans hU1);have HX2:Hid (Bx w4 X nm fa bl fc st nd false mt pa pl pc cr):=Ab (hU1.kp _ _ _ _ (by decide) (by decide) (Aa HX));clear hU1 HU HX c0 c1 c2 c3 c4 c5 c6 c7;have HU:=HU2;clear HU2;have HX:=HX2;clear HX2;obtain⟨c0,c1,c2,c3,c4,c5,c6,c7⟩:=As (Aa HX);go_wp2_with fail
   refine(Ax Bs b 1 0 _ _ (Aa HU).is (by decide) (by omega) (by simp only[VB,Ak];omega)).mono ?_;rintro e w5 ⟨rfl,hU1⟩;have HU2:=Ab ((Aa HU).trans hU1);clear hU1 HU;have HU:=HU2;clear HU2;go_wp2;go_end0
   refine⟨rfl, ?_⟩;rw[HGOAL];simp only[<-VJ];exact Aa HU
 . obtain⟨ov,hC⟩:=h;have HX:Hid (Bx (w.alloc (.cells #[.string nm,.slice fa bl fc,.int .i64 (st:Int),.int .i64 (nd:Int),.bool true,.int .u32 (mt:Int),.slice pa pl pc,.int .u32 (cr:Int)] 76)) w.heap.size nm fa bl fc st nd true mt pa pl pc cr):=Ab (heap_alloc_new w _)
   have HU:Hid (ZUp Bs w b xs (w.alloc (.cells #[.string nm,.slice fa bl fc,.int .i64 (st:Int),.int .i64 (nd:Int),.bool true,.int .u32 (mt:Int),.slice pa pl pc,.int .u32 (cr:Int)] 76))):=
    Ab ⟨⟨ov,hC.later ((Below.refl _ _).alloc (VC _) _)⟩,(Below.refl Bs w).alloc (by have:=hC.lt;have:=hC.base;omega) _,KpT.below ((Below.refl _ _).alloc (VC _) _)⟩
   obtain⟨X,hXX⟩:∃X,w.heap.size=X:=⟨_,rfl⟩
   rw[hXX]at HX;have HXX:=Ab hXX;obtain⟨c0,c1,c2,c3,c4,c5,c6,c7⟩:=As (Aa HX);clear hC;go_enter Tryz.func87,Tryz.ntmps87
   go_wp2_with fail
   refine(Ax Bs b 2 29297 _ _ (Aa HU).is (by decide) (by omega) (by omega)).mono ?_;rintro e w1 ⟨rfl,hU1⟩;have HU2:=Ab ((Aa HU).trans hU1);have HX2:Hid (Bx w1 X nm fa bl fc st nd true mt pa pl pc cr):=Ab (hU1.kp _ _ _ _ (by decide) (by decide) (Aa HX));clear hU1 HU HX c0 c1 c2 c3 c4 c5 c6 c7;have HU:=HU2;clear HU2;have HX:=HX2;clear HX2;obtain⟨c0,c1,c2,c3,c4,c5,c6,c7⟩:=As (Aa HX);go_wp2_with fail
   refine(Ax Bs b 2 7 _ _ (Aa HU).is (by decide) (by omega) (by simp only[VB,Ak];omega)).mono ?_;rintro e w2 ⟨rfl,hU1⟩;have HU2:=Ab ((Aa HU).trans hU1);have HX2:Hid (Bx w2 X nm fa bl fc st nd true mt pa pl pc cr):=Ab (hU1.kp _ _ _ _ (by decide) (by decide) (Aa HX));clear hU1 HU HX c0 c1 c2 c3 c4 c5 c6 c7;have HU:=HU2;clear HU2;have HX:=HX2;clear HX2;obtain⟨c0,c1,c2,c3,c4,c5,c6,c7⟩:=As (Aa HX);go_wp2_with fail
   refine(Ax Bs b 4 st _ _ (Aa HU).is (by decide) (by omega) (by simp only[VB,Ak];omega)).mono ?_;rintro e w3 ⟨rfl,hU1⟩;have HU2:=Ab ((Aa HU).trans hU1);have HX2:Hid (Bx w3 X nm fa bl fc st nd true mt pa pl pc cr):=Ab (hU1.kp _ _ _ _ (by decide) (by decide) (Aa HX));clear hU1 HU HX c0 c1 c2 c3 c4 c5 c6 c7;have HU:=HU2;clear HU2;have HX:=HX2;clear HX2;obtain⟨c0,c1,c2,c3,c4,c5,c6,c7⟩:=As (Aa HX);go_wp2_with fail
   refine(Ax Bs b 2 nd _ _ (Aa HU).is (by decide) (by omega) (by simp only[VB,Ak];omega)).mono ?_;rintro e w4 ⟨rfl,hU1⟩;have HU2:=Ab ((Aa HU).trans hU1);have HX2:Hid (Bx w4 X nm fa bl fc st nd true mt pa pl pc cr):=Ab (hU1.kp _ _ _ _ (by decide) (by decide) (Aa HX));clear hU1 HU HX c0 c1 c2 c3 c4 c5 c6 c7;have HU:=HU2;clear HU2;have HX:=HX2;clear HX2;obtain⟨c0,c1,c2,c3,c4,c5,c6,c7⟩:=As (Aa HX);go_wp2_with fail
   refine(Ax Bs b 1 1 _ _ (Aa HU).is (by decide) (by omega) (by simp only[VB,Ak];omega)).mono ?_;rintro e w5 ⟨rfl,hU1⟩;have HU2:=Ab ((Aa HU).trans hU1);clear hU1 HU;have HU:=HU2;clear HU2;go_wp2;go_end0
   refine⟨rfl, ?_⟩;rw[HGOAL];simp only[<-VJ];exact Aa HU
theorem QD (Bs b m s t:Nat)(xs:List Nat)(w:World)(h:∃ov,ZC Bs w b xs ov)(hm:m<=60000)(hs:s<=1000000)(ht:t<=1000000)(hx:xs.length<=800000):
 Calls Tryz.prog 65 #[.pointer (some ⟨b,0,none⟩),.int .i64 (m:Int),.int .i64 (s:Int),.int .i64 (t:Int)] w fun e w'=>e=.returned (.tuple #[])/\ZUp Bs w b (xs++GW m s t) w':=by
 have HGOAL:=(show GW m s t=Bd 101010256 4++Bd 0 4++Bd m 2++Bd m 2++Bd s 4++Bd t 4++Bd 0 2 from rfl)
 have hwm:=Az (n:=m) (by omega);have hws:=Az (n:=s) (by omega);have hwt:=Az (n:=t) (by omega);obtain⟨ov,hC⟩:=h;have HU:=Ab (ZUp.refl hC);clear hC;go_enter Tryz.func65,Tryz.ntmps65
 go_wp2_with fail
 refine(Ax Bs b 4 101010256 _ _ (Aa HU).is (by decide) (by omega) (by omega)).mono ?_;rintro e w1 ⟨rfl,hU1⟩;have HU2:=Ab ((Aa HU).trans hU1);clear hU1 HU;have HU:=HU2;clear HU2;go_wp2_with fail
 refine(Ha Bs b 4 _ _ (Aa HU).is (by decide) (by simp only[VB,Ak];omega)).mono ?_;rintro e w2 ⟨rfl,hU1⟩;have HU2:=Ab ((Aa HU).trans hU1);clear hU1 HU;have HU:=HU2;clear HU2;go_wp2_with fail
 refine(Ax Bs b 2 m _ _ (Aa HU).is (by decide) (by omega) (by simp only[VB,Ak];omega)).mono ?_;rintro e w3 ⟨rfl,hU1⟩;have HU2:=Ab ((Aa HU).trans hU1);clear hU1 HU;have HU:=HU2;clear HU2;go_wp2_with fail
 refine(Ax Bs b 2 m _ _ (Aa HU).is (by decide) (by omega) (by simp only[VB,Ak];omega)).mono ?_;rintro e w4 ⟨rfl,hU1⟩;have HU2:=Ab ((Aa HU).trans hU1);clear hU1 HU;have HU:=HU2;clear HU2;go_wp2_with fail
 refine(Ax Bs b 4 s _ _ (Aa HU).is (by decide) (by omega) (by simp only[VB,Ak];omega)).mono ?_;rintro e w5 ⟨rfl,hU1⟩;have HU2:=Ab ((Aa HU).trans hU1);clear hU1 HU;have HU:=HU2;clear HU2;go_wp2_with fail
 refine(Ax Bs b 4 t _ _ (Aa HU).is (by decide) (by omega) (by simp only[VB,Ak];omega)).mono ?_;rintro e w6 ⟨rfl,hU1⟩;have HU2:=Ab ((Aa HU).trans hU1);clear hU1 HU;have HU:=HU2;clear HU2;go_wp2_with fail
 refine(Ha Bs b 2 _ _ (Aa HU).is (by decide) (by simp only[VB,Ak];omega)).mono ?_;rintro e w7 ⟨rfl,hU1⟩;have HU2:=Ab ((Aa HU).trans hU1);clear hU1 HU;have HU:=HU2;clear HU2;go_wp2;go_end0
 refine⟨rfl, ?_⟩;rw[HGOAL];simp only[<-VJ];exact Aa HU
theorem RW {w w' W:World}{Bs c:Nat}{a:Option Addr}{ys:List Nat}(h:PkIn w a c ys)(hB:Below Bs w w')(hb:∀g o,a=some ⟨g,o,none⟩->ys≠ []->g<Bs)(hW:w'.grownBy W none):PkIn W a c ys:=by
 refine⟨?_,h.2⟩
 by_cases h0:ys= []
 . exact .inl h0
 . rcases h.1 with h1|⟨b,o,e,hl,hc⟩
   . exact absurd h1 h0
   . have hbl:=hb b o e h0;have hs:=hB.size;refine .inr ⟨b,o,e,VK hl (VX hs hW.size),fun j hj=> ?_⟩;have e1:w'.heap[b]? =w.heap[b]? :=hB.block b hbl;have e2:W.heap[b]? =w'.heap[b]? :=hW.block b (by omega) (by simp);exact(World.cell?_of_block (w:=w) (a:=⟨b,_,none⟩) (e2.trans e1)).trans (hc j hj)
theorem QB (Bs b:Nat)(x:Ev)(xs:List Nat)(w:World)(h:∃ov,ZC Bs w b xs ov)(hn:ENum x.e)(hpk:PkIn w x.pa x.pc x.e.pk)(hpb:∀g o,x.pa=some ⟨g,o,none⟩->x.e.pk≠ []->g<Bs)(hx:xs.length<=700000):
 Calls Tryz.prog 63 #[.pointer (some ⟨b,0,none⟩),x.val] w fun e w'=>e=.returned (.tuple #[])/\ZUp Bs w b (xs++N5 x.e) w':=by
 obtain⟨x,fa,fc,pa,pc⟩:=x;obtain⟨⟨nml,bys,sti,ndi,gn⟩,mt,pk,cr⟩:=x;have hn':=hn;obtain⟨⟨st0,st1⟩,⟨nd0,nd1⟩,hnm,hbl,hpl,hcr,hmt⟩:=hn;simp only at st0 st1 nd0 nd1 hnm hbl hpl hcr hmt
 obtain⟨st,rfl⟩:∃st:Nat,sti=(st:Int):=⟨sti.toNat,by omega⟩
 obtain⟨nd,rfl⟩:∃nd:Nat,ndi=(nd:Int):=⟨ndi.toNat,by omega⟩
 have hst2:((st:Int)).toNat=st:=by omega
 have hwst:=Az (n:=st) (by omega);have hwnd:=Az (n:=nd) (by omega);have HGOAL:=(show N5 ⟨⟨nml,bys,(st:Int),(nd:Int),gn⟩,mt,pk,cr⟩=Bd 67324752 4++C5 ⟨⟨nml,bys,(st:Int),(nd:Int),gn⟩,mt,pk,cr⟩++n8 nml++I3 ⟨⟨nml,bys,(st:Int),(nd:Int),gn⟩,mt,pk,cr⟩++pk from rfl)
 have HM:=Ab (fun ys W h1 h2=>X5 Bs b ⟨⟨⟨nml,bys,(st:Int),(nd:Int),gn⟩,mt,pk,cr⟩,fa,fc,pa,pc⟩ ys W h1 hn' h2);have HE:=Ab (fun ys W h1 h2=>X6 Bs b ⟨⟨⟨nml,bys,(st:Int),(nd:Int),gn⟩,mt,pk,cr⟩,fa,fc,pa,pc⟩ ys W h1 hn' h2);obtain⟨MID,hMID⟩:∃MID,C5 ⟨⟨nml,bys,(st:Int),(nd:Int),gn⟩,mt,pk,cr⟩=MID:=⟨_,rfl⟩
 obtain⟨EXT,hEXT⟩:∃EXT,I3 ⟨⟨nml,bys,(st:Int),(nd:Int),gn⟩,mt,pk,cr⟩=EXT:=⟨_,rfl⟩
 have hMl:MID.length=26:=by rw[<-hMID];exact Pa _
 have hEl:EXT.length=11:=by rw[<-hEXT];exact Pj _
 unfold Ev.val at HM HE;dsimp only at HM HE;rw[hMID,hEXT]at HGOAL;rw[hMID]at HM;rw[hEXT]at HE;clear hMID hEXT;unfold Ev.val;dsimp only;have HPK:=Ab hpk;have HPB:=Ab hpb;clear hpk hpb;obtain⟨nm,hnmv⟩:∃nm,B nml=nm:=⟨_,rfl⟩
 obtain⟨nl,hnl⟩:∃nl,nml.length=nl:=⟨_,rfl⟩
 obtain⟨bl,hblv⟩:∃bl,bys.length=bl:=⟨_,rfl⟩
 obtain⟨pl,hplv⟩:∃pl,pk.length=pl:=⟨_,rfl⟩
 have hnsz:nm.size=nl:=by rw[<-hnmv,Vk,hnl]
 rw[hnl]at hnm;rw[hblv]at hbl;rw[hplv]at hpl;rw[hnmv,hblv,hplv]at HM HE ⊢;have HNM:=Ab hnmv;have HNL:=Ab hnl;have HBL:=Ab hblv;have HPL:=Ab hplv;have hwbl:=Az (n:=bl) (by omega);have hwpl:=Az (n:=pl) (by omega);have hwnl:IntKind.u32.wrap (nm.size:Int)=(nl:Int):=by rw[hnsz];exact Az (by omega)
 clear hnmv hnl hblv hplv hnsz;obtain⟨ov,hC⟩:=h;have HX:Hid (Bx (w.alloc (.cells #[.string nm,.slice fa bl fc,.int .i64 (st:Int),.int .i64 (nd:Int),.bool gn,.int .u32 (mt:Int),.slice pa pl pc,.int .u32 (cr:Int)] 76)) w.heap.size nm fa bl fc st nd gn mt pa pl pc cr):=Ab (heap_alloc_new w _)
 have HU:Hid (ZUp Bs w b xs (w.alloc (.cells #[.string nm,.slice fa bl fc,.int .i64 (st:Int),.int .i64 (nd:Int),.bool gn,.int .u32 (mt:Int),.slice pa pl pc,.int .u32 (cr:Int)] 76))):=
  Ab ⟨⟨ov,hC.later ((Below.refl _ _).alloc (VC _) _)⟩,(Below.refl Bs w).alloc (by have:=hC.lt;have:=hC.base;omega) _,KpT.below ((Below.refl _ _).alloc (VC _) _)⟩
 obtain⟨X,hXX⟩:∃X,w.heap.size=X:=⟨_,rfl⟩
 rw[hXX]at HX;have HXX:=Ab hXX;obtain⟨c0,c1,c2,c3,c4,c5,c6,c7⟩:=As (Aa HX);clear hC;go_enter Tryz.func63,Tryz.ntmps63
 go_wp2_with fail
 refine(Ax Bs b 4 67324752 _ _ (Aa HU).is (by decide) (by omega) (by omega)).mono ?_;rintro e w1 ⟨rfl,hU1⟩;have HU2:=Ab ((Aa HU).trans hU1);have HX2:Hid (Bx w1 X nm fa bl fc st nd gn mt pa pl pc cr):=Ab (hU1.kp _ _ _ _ (by decide) (by decide) (Aa HX));clear hU1 HU HX c0 c1 c2 c3 c4 c5 c6 c7;have HU:=HU2;clear HU2;have HX:=HX2;clear HX2;obtain⟨c0,c1,c2,c3,c4,c5,c6,c7⟩:=As (Aa HX);go_wp2_with fail
 refine(Aa HM _ _ (Aa HU).is (by simp only[VB,Ak];omega)).mono ?_;rintro e w2 ⟨rfl,hU1⟩;have HU2:=Ab ((Aa HU).trans hU1);have HX2:Hid (Bx w2 X nm fa bl fc st nd gn mt pa pl pc cr):=Ab (hU1.kp _ _ _ _ (by decide) (by decide) (Aa HX));clear hU1 HU HX c0 c1 c2 c3 c4 c5 c6 c7;have HU:=HU2;clear HU2;have HX:=HX2;clear HX2;obtain⟨c0,c1,c2,c3,c4,c5,c6,c7⟩:=As (Aa HX);obtain⟨ov1,hC1⟩:=(Aa HU).is;obtain⟨d0,g0⟩:=hC1.new;have HC1:=Ab hC1;clear hC1;go_wp2;go_region_law (refine JS rfl (.tmp 13) (.tmp 16) rfl w2 Bs b _ nml _ rfl (Aa HC1) (by repeat (first|with_reducible exact Ap _ _|with_reducible refine Bp ?_|with_reducible refine ga ?_ _)) (congrArg Value.string (Aa HNM).symm) (by simp only[VB,Ak,hMl,Aa HNL];omega) ?_;intro a' l' c' w' q1 q2 q3)
 all_goals
  have HU2:=Ab ((Aa HU).trans (Aa q3));have HX2:Hid (Bx (w'.setCell ⟨b,0,none⟩ (.slice a' l' c')) X nm fa bl fc st nd gn mt pa pl pc cr):=Ab ((Aa q3).kp _ _ _ _ (by decide) (by decide) (Aa HX));clear q1 q2 q3 HU HX c0 c1 c2 c3 c4 c5 c6 c7 d0 g0 HC1;have HU:=HU2;have HX:=HX2;clear HU2 HX2;obtain⟨c0,c1,c2,c3,c4,c5,c6,c7⟩:=As (Aa HX);go_wp2_with fail
  refine(Aa HE _ _ (Aa HU).is (by simp only[VB,Ak,hMl,Gn,Aa HNL];omega)).mono ?_;rintro e w3 ⟨rfl,hU1⟩;have HU2:=Ab ((Aa HU).trans hU1);have HX2:Hid (Bx w3 X nm fa bl fc st nd gn mt pa pl pc cr):=Ab (hU1.kp _ _ _ _ (by decide) (by decide) (Aa HX));clear hU1 HU HX c0 c1 c2 c3 c4 c5 c6 c7;have HU:=HU2;clear HU2;have HX:=HX2;clear HX2;obtain⟨c0,c1,c2,c3,c4,c5,c6,c7⟩:=As (Aa HX);obtain⟨ov1,hC1⟩:=(Aa HU).is;obtain⟨d0,g0⟩:=hC1.new;have HC1:=Ab hC1;clear hC1;go_wp2;go_region_law (refine JT rfl (.tmp 27) (.tmp 29) rfl w3 Bs b _ pk _ rfl (Aa HC1) (by repeat (first|with_reducible exact Ap _ _|with_reducible refine Bp ?_|with_reducible refine ga ?_ _)) pa pl pc rfl (Aa HPL) (RW (Aa HPK) (Aa HU).below (Aa HPB) (by repeat (first|with_reducible exact Ap _ _|with_reducible refine Bp ?_|with_reducible refine ga ?_ _))) (by simp only[VB,Ak,hMl,hEl,Gn,Aa HNL];omega) ?_;intro a' l' c' w' q1 q2 q3)
  all_goals
   have HU2:=Ab ((Aa HU).trans (Aa q3));clear q1 q2 q3 HU HX c0 c1 c2 c3 c4 c5 c6 c7 d0 g0 HC1;have HU:=HU2;clear HU2;go_wp2;go_end0
   refine⟨rfl, ?_⟩;rw[HGOAL];simp only[<-VJ];exact Aa HU
theorem QA (Bs b p:Nat)(x:Ev)(xs:List Nat)(w:World)(h:∃ov,ZC Bs w b xs ov)(hn:ENum x.e)(hp:p<=1000000)(hx:xs.length<=700000):
 Calls Tryz.prog 64 #[.pointer (some ⟨b,0,none⟩),x.val,.int .i64 (p:Int)] w fun e w'=>e=.returned (.tuple #[])/\ZUp Bs w b (xs++RI x.e p) w':=by
 obtain⟨x,fa,fc,pa,pc⟩:=x;obtain⟨⟨nml,bys,sti,ndi,gn⟩,mt,pk,cr⟩:=x;have hn':=hn;obtain⟨⟨st0,st1⟩,⟨nd0,nd1⟩,hnm,hbl,hpl,hcr,hmt⟩:=hn;simp only at st0 st1 nd0 nd1 hnm hbl hpl hcr hmt
 obtain⟨st,rfl⟩:∃st:Nat,sti=(st:Int):=⟨sti.toNat,by omega⟩
 obtain⟨nd,rfl⟩:∃nd:Nat,ndi=(nd:Int):=⟨ndi.toNat,by omega⟩
 have hst2:((st:Int)).toNat=st:=by omega
 have hwst:=Az (n:=st) (by omega);have hwnd:=Az (n:=nd) (by omega);have HGOAL:=(show RI ⟨⟨nml,bys,(st:Int),(nd:Int),gn⟩,mt,pk,cr⟩ p=Bd 33639248 4++Bd 20 2++C5 ⟨⟨nml,bys,(st:Int),(nd:Int),gn⟩,mt,pk,cr⟩++Bd 0 10++Bd p 4++n8 nml++I3 ⟨⟨nml,bys,(st:Int),(nd:Int),gn⟩,mt,pk,cr⟩ from rfl)
 have HM:=Ab (fun ys W h1 h2=>X5 Bs b ⟨⟨⟨nml,bys,(st:Int),(nd:Int),gn⟩,mt,pk,cr⟩,fa,fc,pa,pc⟩ ys W h1 hn' h2);have HE:=Ab (fun ys W h1 h2=>X6 Bs b ⟨⟨⟨nml,bys,(st:Int),(nd:Int),gn⟩,mt,pk,cr⟩,fa,fc,pa,pc⟩ ys W h1 hn' h2);obtain⟨MID,hMID⟩:∃MID,C5 ⟨⟨nml,bys,(st:Int),(nd:Int),gn⟩,mt,pk,cr⟩=MID:=⟨_,rfl⟩
 obtain⟨EXT,hEXT⟩:∃EXT,I3 ⟨⟨nml,bys,(st:Int),(nd:Int),gn⟩,mt,pk,cr⟩=EXT:=⟨_,rfl⟩
 have hMl:MID.length=26:=by rw[<-hMID];exact Pa _
 have hEl:EXT.length=11:=by rw[<-hEXT];exact Pj _
 unfold Ev.val at HM HE;dsimp only at HM HE;rw[hMID,hEXT]at HGOAL;rw[hMID]at HM;rw[hEXT]at HE;clear hMID hEXT;unfold Ev.val;dsimp only;have hwp:=Az (n:=p) (by omega);obtain⟨nm,hnmv⟩:∃nm,B nml=nm:=⟨_,rfl⟩
 obtain⟨nl,hnl⟩:∃nl,nml.length=nl:=⟨_,rfl⟩
 obtain⟨bl,hblv⟩:∃bl,bys.length=bl:=⟨_,rfl⟩
 obtain⟨pl,hplv⟩:∃pl,pk.length=pl:=⟨_,rfl⟩
 have hnsz:nm.size=nl:=by rw[<-hnmv,Vk,hnl]
 rw[hnl]at hnm;rw[hblv]at hbl;rw[hplv]at hpl;rw[hnmv,hblv,hplv]at HM HE ⊢;have HNM:=Ab hnmv;have HNL:=Ab hnl;have HBL:=Ab hblv;have HPL:=Ab hplv;have hwbl:=Az (n:=bl) (by omega);have hwpl:=Az (n:=pl) (by omega);have hwnl:IntKind.u32.wrap (nm.size:Int)=(nl:Int):=by rw[hnsz];exact Az (by omega)
 clear hnmv hnl hblv hplv hnsz;obtain⟨ov,hC⟩:=h;have HX:Hid (Bx (w.alloc (.cells #[.string nm,.slice fa bl fc,.int .i64 (st:Int),.int .i64 (nd:Int),.bool gn,.int .u32 (mt:Int),.slice pa pl pc,.int .u32 (cr:Int)] 76)) w.heap.size nm fa bl fc st nd gn mt pa pl pc cr):=Ab (heap_alloc_new w _)
 have HU:Hid (ZUp Bs w b xs (w.alloc (.cells #[.string nm,.slice fa bl fc,.int .i64 (st:Int),.int .i64 (nd:Int),.bool gn,.int .u32 (mt:Int),.slice pa pl pc,.int .u32 (cr:Int)] 76))):=
  Ab ⟨⟨ov,hC.later ((Below.refl _ _).alloc (VC _) _)⟩,(Below.refl Bs w).alloc (by have:=hC.lt;have:=hC.base;omega) _,KpT.below ((Below.refl _ _).alloc (VC _) _)⟩
 obtain⟨X,hXX⟩:∃X,w.heap.size=X:=⟨_,rfl⟩
 rw[hXX]at HX;have HXX:=Ab hXX;obtain⟨c0,c1,c2,c3,c4,c5,c6,c7⟩:=As (Aa HX);clear hC;go_enter Tryz.func64,Tryz.ntmps64
 go_wp2_with fail
 refine(Ax Bs b 4 33639248 _ _ (Aa HU).is (by decide) (by omega) (by omega)).mono ?_;rintro e w1 ⟨rfl,hU1⟩;have HU2:=Ab ((Aa HU).trans hU1);have HX2:Hid (Bx w1 X nm fa bl fc st nd gn mt pa pl pc cr):=Ab (hU1.kp _ _ _ _ (by decide) (by decide) (Aa HX));clear hU1 HU HX c0 c1 c2 c3 c4 c5 c6 c7;have HU:=HU2;clear HU2;have HX:=HX2;clear HX2;obtain⟨c0,c1,c2,c3,c4,c5,c6,c7⟩:=As (Aa HX);go_wp2_with fail
 refine(Ax Bs b 2 20 _ _ (Aa HU).is (by decide) (by omega) (by simp only[VB,Ak];omega)).mono ?_;rintro e w2 ⟨rfl,hU1⟩;have HU2:=Ab ((Aa HU).trans hU1);have HX2:Hid (Bx w2 X nm fa bl fc st nd gn mt pa pl pc cr):=Ab (hU1.kp _ _ _ _ (by decide) (by decide) (Aa HX));clear hU1 HU HX c0 c1 c2 c3 c4 c5 c6 c7;have HU:=HU2;clear HU2;have HX:=HX2;clear HX2;obtain⟨c0,c1,c2,c3,c4,c5,c6,c7⟩:=As (Aa HX);go_wp2_with fail
 refine(Aa HM _ _ (Aa HU).is (by simp only[VB,Ak];omega)).mono ?_;rintro e w3 ⟨rfl,hU1⟩;have HU2:=Ab ((Aa HU).trans hU1);have HX2:Hid (Bx w3 X nm fa bl fc st nd gn mt pa pl pc cr):=Ab (hU1.kp _ _ _ _ (by decide) (by decide) (Aa HX));clear hU1 HU HX c0 c1 c2 c3 c4 c5 c6 c7;have HU:=HU2;clear HU2;have HX:=HX2;clear HX2;obtain⟨c0,c1,c2,c3,c4,c5,c6,c7⟩:=As (Aa HX);go_wp2_with fail
 refine(Ha Bs b 10 _ _ (Aa HU).is (by decide) (by simp only[VB,Ak,hMl];omega)).mono ?_;rintro e w4 ⟨rfl,hU1⟩;have HU2:=Ab ((Aa HU).trans hU1);have HX2:Hid (Bx w4 X nm fa bl fc st nd gn mt pa pl pc cr):=Ab (hU1.kp _ _ _ _ (by decide) (by decide) (Aa HX));clear hU1 HU HX c0 c1 c2 c3 c4 c5 c6 c7;have HU:=HU2;clear HU2;have HX:=HX2;clear HX2;obtain⟨c0,c1,c2,c3,c4,c5,c6,c7⟩:=As (Aa HX);go_wp2_with fail
 refine(Ax Bs b 4 p _ _ (Aa HU).is (by decide) (by omega) (by simp only[VB,Ak,hMl];omega)).mono ?_;rintro e w5 ⟨rfl,hU1⟩;have HU2:=Ab ((Aa HU).trans hU1);have HX2:Hid (Bx w5 X nm fa bl fc st nd gn mt pa pl pc cr):=Ab (hU1.kp _ _ _ _ (by decide) (by decide) (Aa HX));clear hU1 HU HX c0 c1 c2 c3 c4 c5 c6 c7;have HU:=HU2;clear HU2;have HX:=HX2;clear HX2;obtain⟨c0,c1,c2,c3,c4,c5,c6,c7⟩:=As (Aa HX);obtain⟨ov1,hC1⟩:=(Aa HU).is;obtain⟨d0,g0⟩:=hC1.new;have HC1:=Ab hC1;clear hC1;go_wp2;go_region_law (refine JS rfl (.tmp 23) (.tmp 26) rfl w5 Bs b _ nml _ rfl (Aa HC1) (by repeat (first|with_reducible exact Ap _ _|with_reducible refine Bp ?_|with_reducible refine ga ?_ _)) (congrArg Value.string (Aa HNM).symm) (by simp only[VB,Ak,hMl,Aa HNL];omega) ?_;intro a' l' c' w' q1 q2 q3)
 all_goals
  have HU2:=Ab ((Aa HU).trans (Aa q3));have HX2:Hid (Bx (w'.setCell ⟨b,0,none⟩ (.slice a' l' c')) X nm fa bl fc st nd gn mt pa pl pc cr):=Ab ((Aa q3).kp _ _ _ _ (by decide) (by decide) (Aa HX));clear q1 q2 q3 HU HX c0 c1 c2 c3 c4 c5 c6 c7 d0 g0 HC1;have HU:=HU2;have HX:=HX2;clear HU2 HX2;obtain⟨c0,c1,c2,c3,c4,c5,c6,c7⟩:=As (Aa HX);go_wp2_with fail
  refine(Aa HE _ _ (Aa HU).is (by simp only[VB,Ak,hMl,Gn,Aa HNL];omega)).mono ?_;rintro e w6 ⟨rfl,hU1⟩;have HU2:=Ab ((Aa HU).trans hU1);clear hU1 HU;have HU:=HU2;clear HU2;go_wp2;go_end0
  refine⟨rfl, ?_⟩;rw[HGOAL];simp only[<-VJ];exact Aa HU
end Go.Proofs.YtieianhejdcgdaaGreatDoor
