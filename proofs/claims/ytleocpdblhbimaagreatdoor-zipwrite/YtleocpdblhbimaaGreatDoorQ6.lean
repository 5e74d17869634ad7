import Derived.Test.YtleocpdblhbimaaGreatDoorQ5
import Derived.Laws.BytesArg
import Derived.Laws.Externs
import Derived.Lib.BytesEntry
import Derived.Laws.ResultCell
set_option linter.unusedSimpArgs false
set_option maxHeartbeats 4000000
namespace Go.Proofs.YtleocpdblhbimaaGreatDoor
open Go.RowKit
set_option linter.unusedVariables false
set_option maxRecDepth 100000
def BsIn (w:World)(a:Option Addr)(c:Nat)(bs:List UInt8):Prop:=
 (a=none/\bs= []/\c=0)\/ (bs= []/\∃ad,a=some ad)\/∃b o,a=some ⟨b,o,none⟩/\b<w.heap.size/\bs.length<=c/\∀j,j<bs.length->w.cell? ⟨b,o+j,none⟩=some (.int .u8 (((bs.getD j 0).toNat:Nat):Int))
theorem BsIn.below {w w':World}{B:Nat}{a:Option Addr}{c:Nat}{bs:List UInt8}(h:BsIn w a c bs)(hB:Below B w w')(hb:w.heap.size<=B):BsIn w' a c bs:=by
 rcases h with h|h|⟨b,o,h1,h2,h3,h4⟩
 . exact .inl h
 . exact .inr (.inl h)
 . refine .inr (.inr ?_);exact⟨b,o,h1,VG h2 hB.size,h3,fun j hj=>(hB.cell (p:=⟨b,o+j,none⟩) (by simp;omega)).trans (h4 j hj)⟩
abbrev Z1h (bs:List UInt8):List Int:=bs.map fun x:UInt8=>((x.toNat:Nat):Int)
theorem JL (bs:List UInt8)(j:Nat):(Z1h bs).getD j 0=(((bs.getD j 0).toNat:Nat):Int):=by
 unfold Z1h
 by_cases h:j<bs.length
 . simp[List.getD,h]
 . simp[List.getD,h]
theorem Z3j (bs:List UInt8):(Z1h bs).map (fun n=>UInt8.ofNat n.toNat)=bs:=by
 unfold Z1h;rw[ZL];have:((fun n:Int=>UInt8.ofNat n.toNat) ∘ fun x:UInt8=>((x.toNat:Nat):Int))=id:=by funext x;simp
 rw[this,List.map_id]
theorem K7 (bs:List UInt8):strOfNums (Z1h bs)=B bs:=by
 unfold strOfNums B;rw[Z3j]
theorem Pn {w:World}{a:Option Addr}{c:Nat}{bs:List UInt8}(h:BsIn w a c bs):(convert 23 9 (.slice a bs.length c)).run Tryz.prog w=.ok (.string (B bs)) w:=by
 rcases h with ⟨rfl,rfl,rfl⟩|⟨rfl,ad,rfl⟩|⟨b,o,rfl,h2,h3,h4⟩
 . exact run_convert_bytes_nil w _ _ Tryz.underlying23 Tryz.underlying5 0 0 _ Tryz.underlying9
 . show (convert 23 9 (.slice (some ad) 0 c)).run Tryz.prog w=.ok (.string (B [])) w
   rw[run_convert_bytes_string w _ _ _ (some ad) 0 c Tryz.underlying23 Tryz.underlying5 Tryz.underlying9];exact(run_bytesToString (P:=Tryz.prog) w ad 0 c [] (by rfl)).trans rfl
 . have:=run_convert_bytes_arg (P:=Tryz.prog) w _ _ Tryz.underlying23 Tryz.underlying5 b o bs.length c (Z1h bs) (by simp[Z1h]) (fun i hi=>by rw[h4 i hi,JL]) _ Tryz.underlying9
   rw[this,K7]
structure Fv where
 f:Fl
 a:Option Addr
 c:Nat
def Fv.sl (x:Fv):Value:=.slice x.a x.f.bytes.length x.c
def Fv.val (x:Fv):Value:=.agg #[.string (B x.f.name),x.sl,.int .i64 x.f.stamp,.int .i64 x.f.node,.bool x.f.gone]
def Fv.cells (x:Fv):List Value:= [.string (B x.f.name),x.sl,.int .i64 x.f.stamp,.int .i64 x.f.node,.bool x.f.gone]
structure FvIn (w:World)(x:Fv):Prop where
 bs:BsIn w x.a x.c x.f.bytes
 big:x.f.bytes.length<=140737488355328
 txt:x.f.name.length<=140737488355328
theorem FvIn.below {w w':World}{B:Nat}{x:Fv}(h:FvIn w x)(hB:Below B w w')(hb:w.heap.size<=B):FvIn w' x:=⟨h.bs.below hB hb,h.big,h.txt⟩
theorem FvIn.alloc {w:World}{x:Fv}(h:FvIn w x)(o:Obj):FvIn (w.alloc o) x:=h.below ((Below.refl w.heap.size w).alloc (VC _) o) (VC _)
def Fs (w:World)(b o:Nat)(xs:List Fv):Prop:=∀j x,xs[j]? =some x->w.cell? ⟨b,o+j*5,none⟩=some (.string (B x.f.name))/\w.cell? ⟨b,o+j*5+1,none⟩=some x.sl/\w.cell? ⟨b,o+j*5+2,none⟩=some (.int .i64 x.f.stamp)/\w.cell? ⟨b,o+j*5+3,none⟩=some (.int .i64 x.f.node)/\w.cell? ⟨b,o+j*5+4,none⟩=some (.bool x.f.gone)
structure FsIn (w:World)(ad:Option Addr)(c:Nat)(xs:List Fv):Prop where
 at_:xs= []\/∃b o,ad=some ⟨b,o,none⟩/\b<w.heap.size/\Fs w b o xs
 cap:xs.length<=c
 capm:c<=9223372036854775807
 lim:xs.length<=2199023255552
 all:∀x∈xs,FvIn w x
theorem FsIn.below {w w':World}{B:Nat}{ad:Option Addr}{c:Nat}{xs:List Fv}(h:FsIn w ad c xs)(hB:Below B w w')(hb:w.heap.size<=B):FsIn w' ad c xs:=by
 refine⟨?_,h.cap,h.capm,h.lim,fun x hx=>(h.all x hx).below hB hb⟩
 rcases h.at_ with h1|⟨b,o,h1,h2,h3⟩
 . exact .inl h1
 . refine .inr ⟨b,o,h1,VG h2 hB.size, ?_⟩;intro j x hj;obtain⟨k1,k2,k3,k4,k5⟩:=h3 j x hj;have hbB:b<B:=by omega
   exact⟨(hB.cell (p:=⟨b,_,none⟩) hbB).trans k1,(hB.cell (p:=⟨b,_,none⟩) hbB).trans k2,(hB.cell (p:=⟨b,_,none⟩) hbB).trans k3,(hB.cell (p:=⟨b,_,none⟩) hbB).trans k4,(hB.cell (p:=⟨b,_,none⟩) hbB).trans k5⟩
theorem FsIn.nil (w:World):FsIn w none 0 []:=⟨.inl rfl,VC _,by omega,by simp,fun x hx=>by cases hx⟩
theorem FsIn.get {w w':World}{ad:Option Addr}{c k:Nat}{xs:List Fv}{x:Fv}(h:FsIn w ad c xs)(hB:Below w.heap.size w w')(hk:xs[k]? =some x):
 ∃b o,ad=some ⟨b,o,none⟩/\b<w.heap.size/\w'.cell? ⟨b,o+k*5,none⟩=some (.string (B x.f.name))/\w'.cell? ⟨b,o+k*5+1,none⟩=some x.sl/\w'.cell? ⟨b,o+k*5+2,none⟩=some (.int .i64 x.f.stamp)/\w'.cell? ⟨b,o+k*5+3,none⟩=some (.int .i64 x.f.node)/\w'.cell? ⟨b,o+k*5+4,none⟩=some (.bool x.f.gone):=by
 rcases(h.below hB (VC _)).at_ with rfl|⟨b,o,h1,h2,h3⟩
 . simp at hk
 . rcases h.at_ with rfl|⟨b',o',h1',h2',_⟩
   . simp at hk
   . rw[h1]at h1'
     cases h1'
     obtain⟨k1,k2,k3,k4,k5⟩:=h3 k x hk;exact⟨b,o,h1,h2',k1,k2,k3,k4,k5⟩
theorem Ri {xs:List Fv}{k:Nat}(h:k<xs.length):∃x,xs[k]? =some x/\x∈xs:=⟨xs[k],VR h,WK h⟩
abbrev fls (xs:List Fv):List Fl:=xs.map Fv.f
theorem Tj (x:Fv):x.val=.agg #[.string (B x.f.name),.slice x.a x.f.bytes.length x.c,.int .i64 x.f.stamp,.int .i64 x.f.node,.bool x.f.gone]:=rfl
theorem Fc (l:List UInt8):(B l).toList=l:=by rw[ByteArray.toList_eq];rfl
theorem RQ {w:World}{a a2:Option Addr}{c c2:Nat}{x y:List UInt8}(h:BsIn w a c x)(h2:BsIn w a2 c2 y):
 Calls Tryz.prog 13 #[.slice a x.length c,.slice a2 y.length c2] w fun e w'=>e=.returned (.bool (decide (x=y)))/\w'=w:=by
 have e1:=Pn h;have e2:=Pn h2;have e3:((B x).toList==(B y).toList)=decide (x=y):=by rw[Fc,Fc,YR,beq_iff_eq,decide_eq_true_iff]
 clear h h2;generalize B x=s at*;generalize B y=t at*;go_enter Tryz.func13,Tryz.ntmps13
 go_wp2;go_ret;exact⟨rfl,rfl⟩
structure Ev where
 e:En
 fa:Option Addr
 fc:Nat
 pa:Option Addr
 pc:Nat
def Ev.cells (x:Ev):List Value:= [.string (B x.e.f.name),.slice x.fa x.e.f.bytes.length x.fc,.int .i64 x.e.f.stamp,.int .i64 x.e.f.node,.bool x.e.f.gone,.int .u32 (x.e.meth:Int),.slice x.pa x.e.pk.length x.pc,.int .u32 (x.e.crc:Int)]
def Ev.val (x:Ev):Value:=.agg #[.string (B x.e.f.name),.slice x.fa x.e.f.bytes.length x.fc,.int .i64 x.e.f.stamp,.int .i64 x.e.f.node,.bool x.e.f.gone,.int .u32 (x.e.meth:Int),.slice x.pa x.e.pk.length x.pc,.int .u32 (x.e.crc:Int)]
structure ENum (x:En):Prop where
 st:0<=x.f.stamp/\x.f.stamp<=1000000
 nd:0<=x.f.node/\x.f.node<=3
 nm:x.f.name.length<=40
 bl:x.f.bytes.length<=3000
 pl:x.pk.length<=12000
 cr:x.crc<4294967296
 mt:x.meth<65536
theorem Bd {n:Nat}(h:n<4294967296):IntKind.u32.wrap (n:Int)=(n:Int):=by
 simp[IntKind.wrap,IntKind.bits,IntKind.signed]
 omega
abbrev Bx (w:World)(X:Nat)(nm:ByteArray)(fa:Option Addr)(bl fc:Nat)(st nd:Nat)(gn:Bool)(mt:Nat)(pa:Option Addr)(pl pc cr:Nat):Prop:=
 w.heap[X]? =some (.cells #[.string nm,.slice fa bl fc,.int .i64 (st:Int),.int .i64 (nd:Int),.bool gn,.int .u32 (mt:Int),.slice pa pl pc,.int .u32 (cr:Int)] 71 (0,0))
theorem Av {w:World}{X:Nat}{nm:ByteArray}{fa:Option Addr}{bl fc st nd:Nat}{gn:Bool}{mt:Nat}{pa:Option Addr}{pl pc cr:Nat}(h:Bx w X nm fa bl fc st nd gn mt pa pl pc cr):w.cell? ⟨X,0,none⟩=some (.string nm)/\w.cell? ⟨X,1,none⟩=some (.slice fa bl fc)/\w.cell? ⟨X,2,none⟩=some (.int .i64 (st:Int))/\w.cell? ⟨X,3,none⟩=some (.int .i64 (nd:Int))/\w.cell? ⟨X,4,none⟩=some (.bool gn)/\w.cell? ⟨X,5,none⟩=some (.int .u32 (mt:Int))/\w.cell? ⟨X,6,none⟩=some (.slice pa pl pc)/\w.cell? ⟨X,7,none⟩=some (.int .u32 (cr:Int)):=⟨Ac h,Ac h,Ac h,Ac h,Ac h,Ac h,Ac h,Ac h⟩
theorem R9 (Bs b:Nat)(x:Ev)(xs:List Nat)(w:World)(h:∃ov,ZC Bs w b xs ov)(hn:ENum x.e)(hx:xs.length<=800000):
 Calls Tryz.prog 78 #[.pointer (some ⟨b,0,none⟩),x.val] w fun e w'=>e=.returned (.tuple #[])/\ZUp Bs w b (xs++Sv x.e) w':=by
 obtain⟨x,fa,fc,pa,pc⟩:=x;obtain⟨⟨nml,bys,sti,ndi,gn⟩,mt,pk,cr⟩:=x;obtain⟨⟨st0,st1⟩,⟨nd0,nd1⟩,hnm,hbl,hpl,hcr,hmt⟩:=hn;simp only at st0 st1 nd0 nd1 hnm hbl hpl hcr hmt
 obtain⟨st,rfl⟩:∃st:Nat,sti=(st:Int):=⟨sti.toNat,by omega⟩
 obtain⟨nd,rfl⟩:∃nd:Nat,ndi=(nd:Int):=⟨ndi.toNat,by omega⟩
 have hwst:=Bd (n:=st) (by omega);have hwnd:=Bd (n:=nd) (by omega);have HGOAL:=(show Sv ⟨⟨nml,bys,(st:Int),(nd:Int),gn⟩,mt,pk,cr⟩=Ag 20 2++Ag 0 2++Ag mt 2++Ag 0 4++Ag cr 4++Ag pk.length 4++Ag bys.length 4++Ag nml.length 2++Ag 11 2 from rfl)
 unfold Ev.val;dsimp only;obtain⟨nm,hnmv⟩:∃nm,B nml=nm:=⟨_,rfl⟩
 obtain⟨nl,hnl⟩:∃nl,nml.length=nl:=⟨_,rfl⟩
 obtain⟨bl,hblv⟩:∃bl,bys.length=bl:=⟨_,rfl⟩
 obtain⟨pl,hplv⟩:∃pl,pk.length=pl:=⟨_,rfl⟩
 have hnsz:nm.size=nl:=by rw[<-hnmv,Ha,hnl]
 rw[hnl]at hnm;rw[hblv]at hbl;rw[hplv]at hpl;rw[hnmv,hblv,hplv];have HNM:=Ab hnmv;have HNL:=Ab hnl;have HBL:=Ab hblv;have HPL:=Ab hplv;have hwbl:=Bd (n:=bl) (by omega);have hwpl:=Bd (n:=pl) (by omega);have hwnl:IntKind.u32.wrap (nm.size:Int)=(nl:Int):=by rw[hnsz];exact Bd (by omega)
 clear hnmv hnl hblv hplv hnsz;obtain⟨ov,hC⟩:=h;have HX:Hid (Bx (w.alloc (.cells #[.string nm,.slice fa bl fc,.int .i64 (st:Int),.int .i64 (nd:Int),.bool gn,.int .u32 (mt:Int),.slice pa pl pc,.int .u32 (cr:Int)] 71)) w.heap.size nm fa bl fc st nd gn mt pa pl pc cr):=Ab (heap_alloc_new w _)
 have HU:Hid (ZUp Bs w b xs (w.alloc (.cells #[.string nm,.slice fa bl fc,.int .i64 (st:Int),.int .i64 (nd:Int),.bool gn,.int .u32 (mt:Int),.slice pa pl pc,.int .u32 (cr:Int)] 71))):=
  Ab ⟨⟨ov,hC.later ((Below.refl _ _).alloc (VC _) _)⟩,(Below.refl Bs w).alloc (by have:=hC.lt;have:=hC.base;omega) _,KpT.below ((Below.refl _ _).alloc (VC _) _)⟩
 obtain⟨X,hXX⟩:∃X,w.heap.size=X:=⟨_,rfl⟩
 rw[hXX]at HX;have HXX:=Ab hXX;obtain⟨c0,c1,c2,c3,c4,c5,c6,c7⟩:=Av (Aa HX);clear hC;go_enter Tryz.func78,Tryz.ntmps78
 go_wp2_with fail
 refine(Bb Bs b 2 20 _ _ (Aa HU).is (by decide) (by omega) (by omega)).mono ?_;rintro e w1 ⟨rfl,hU1⟩;have HU2:=Ab ((Aa HU).trans hU1);have HX2:Hid (Bx w1 X nm fa bl fc st nd gn mt pa pl pc cr):=Ab (hU1.kp _ _ _ _ (by decide) (by decide) (Aa HX));clear hU1 HU HX c0 c1 c2 c3 c4 c5 c6 c7;have HU:=HU2;clear HU2;have HX:=HX2;clear HX2;obtain⟨c0,c1,c2,c3,c4,c5,c6,c7⟩:=Av (Aa HX);go_wp2_with fail
 refine(Gs Bs b 2 _ _ (Aa HU).is (by decide) (by simp only[VB,Aj];omega)).mono ?_;rintro e w2 ⟨rfl,hU1⟩;have HU2:=Ab ((Aa HU).trans hU1);have HX2:Hid (Bx w2 X nm fa bl fc st nd gn mt pa pl pc cr):=Ab (hU1.kp _ _ _ _ (by decide) (by decide) (Aa HX));clear hU1 HU HX c0 c1 c2 c3 c4 c5 c6 c7;have HU:=HU2;clear HU2;have HX:=HX2;clear HX2;obtain⟨c0,c1,c2,c3,c4,c5,c6,c7⟩:=Av (Aa HX);go_wp2_with fail
 refine(Bb Bs b 2 mt _ _ (Aa HU).is (by decide) (by omega) (by simp only[VB,Aj];omega)).mono ?_;rintro e w3 ⟨rfl,hU1⟩;have HU2:=Ab ((Aa HU).trans hU1);have HX2:Hid (Bx w3 X nm fa bl fc st nd gn mt pa pl pc cr):=Ab (hU1.kp _ _ _ _ (by decide) (by decide) (Aa HX));clear hU1 HU HX c0 c1 c2 c3 c4 c5 c6 c7;have HU:=HU2;clear HU2;have HX:=HX2;clear HX2;obtain⟨c0,c1,c2,c3,c4,c5,c6,c7⟩:=Av (Aa HX);go_wp2_with fail
 refine(Gs Bs b 4 _ _ (Aa HU).is (by decide) (by simp only[VB,Aj];omega)).mono ?_;rintro e w4 ⟨rfl,hU1⟩;have HU2:=Ab ((Aa HU).trans hU1);have HX2:Hid (Bx w4 X nm fa bl fc st nd gn mt pa pl pc cr):=Ab (hU1.kp _ _ _ _ (by decide) (by decide) (Aa HX));clear hU1 HU HX c0 c1 c2 c3 c4 c5 c6 c7;have HU:=HU2;clear HU2;have HX:=HX2;clear HX2;obtain⟨c0,c1,c2,c3,c4,c5,c6,c7⟩:=Av (Aa HX);go_wp2_with fail
 refine(Bb Bs b 4 cr _ _ (Aa HU).is (by decide) (by omega) (by simp only[VB,Aj];omega)).mono ?_;rintro e w5 ⟨rfl,hU1⟩;have HU2:=Ab ((Aa HU).trans hU1);have HX2:Hid (Bx w5 X nm fa bl fc st nd gn mt pa pl pc cr):=Ab (hU1.kp _ _ _ _ (by decide) (by decide) (Aa HX));clear hU1 HU HX c0 c1 c2 c3 c4 c5 c6 c7;have HU:=HU2;clear HU2;have HX:=HX2;clear HX2;obtain⟨c0,c1,c2,c3,c4,c5,c6,c7⟩:=Av (Aa HX);go_wp2_with fail
 refine(Bb Bs b 4 pl _ _ (Aa HU).is (by decide) (by omega) (by simp only[VB,Aj];omega)).mono ?_;rintro e w6 ⟨rfl,hU1⟩;have HU2:=Ab ((Aa HU).trans hU1);have HX2:Hid (Bx w6 X nm fa bl fc st nd gn mt pa pl pc cr):=Ab (hU1.kp _ _ _ _ (by decide) (by decide) (Aa HX));clear hU1 HU HX c0 c1 c2 c3 c4 c5 c6 c7;have HU:=HU2;clear HU2;have HX:=HX2;clear HX2;obtain⟨c0,c1,c2,c3,c4,c5,c6,c7⟩:=Av (Aa HX);go_wp2_with fail
 refine(Bb Bs b 4 bl _ _ (Aa HU).is (by decide) (by omega) (by simp only[VB,Aj];omega)).mono ?_;rintro e w7 ⟨rfl,hU1⟩;have HU2:=Ab ((Aa HU).trans hU1);have HX2:Hid (Bx w7 X nm fa bl fc st nd gn mt pa pl pc cr):=Ab (hU1.kp _ _ _ _ (by decide) (by decide) (Aa HX));clear hU1 HU HX c0 c1 c2 c3 c4 c5 c6 c7;have HU:=HU2;clear HU2;have HX:=HX2;clear HX2;obtain⟨c0,c1,c2,c3,c4,c5,c6,c7⟩:=Av (Aa HX);go_wp2_with fail
 refine(Bb Bs b 2 nl _ _ (Aa HU).is (by decide) (by omega) (by simp only[VB,Aj];omega)).mono ?_;rintro e w8 ⟨rfl,hU1⟩;have HU2:=Ab ((Aa HU).trans hU1);have HX2:Hid (Bx w8 X nm fa bl fc st nd gn mt pa pl pc cr):=Ab (hU1.kp _ _ _ _ (by decide) (by decide) (Aa HX));clear hU1 HU HX c0 c1 c2 c3 c4 c5 c6 c7;have HU:=HU2;clear HU2;have HX:=HX2;clear HX2;obtain⟨c0,c1,c2,c3,c4,c5,c6,c7⟩:=Av (Aa HX);go_wp2_with fail
 refine(Bb Bs b 2 11 _ _ (Aa HU).is (by decide) (by omega) (by simp only[VB,Aj];omega)).mono ?_;rintro e w9 ⟨rfl,hU1⟩;have HU2:=Ab ((Aa HU).trans hU1);have HX2:Hid (Bx w9 X nm fa bl fc st nd gn mt pa pl pc cr):=Ab (hU1.kp _ _ _ _ (by decide) (by decide) (Aa HX));clear hU1 HU HX c0 c1 c2 c3 c4 c5 c6 c7;have HU:=HU2;clear HU2;have HX:=HX2;clear HX2;obtain⟨c0,c1,c2,c3,c4,c5,c6,c7⟩:=Av (Aa HX);go_wp2;go_end0
 refine⟨rfl, ?_⟩;rw[HGOAL];simp only[<-VH];rw[Aa HNL,Aa HBL,Aa HPL];exact Aa HU
theorem S5 (Bs b:Nat)(x:Ev)(xs:List Nat)(w:World)(h:∃ov,ZC Bs w b xs ov)(hn:ENum x.e)(hx:xs.length<=800000):
 Calls Tryz.prog 79 #[.pointer (some ⟨b,0,none⟩),x.val] w fun e w'=>e=.returned (.tuple #[])/\ZUp Bs w b (xs++Jb x.e) w':=by
 obtain⟨x,fa,fc,pa,pc⟩:=x;obtain⟨⟨nml,bys,sti,ndi,gn⟩,mt,pk,cr⟩:=x;obtain⟨⟨st0,st1⟩,⟨nd0,nd1⟩,hnm,hbl,hpl,hcr,hmt⟩:=hn;simp only at st0 st1 nd0 nd1 hnm hbl hpl hcr hmt
 obtain⟨st,rfl⟩:∃st:Nat,sti=(st:Int):=⟨sti.toNat,by omega⟩
 obtain⟨nd,rfl⟩:∃nd:Nat,ndi=(nd:Int):=⟨ndi.toNat,by omega⟩
 have hwst:=Bd (n:=st) (by omega);have hwnd:=Bd (n:=nd) (by omega);have HGOAL:=(show Jb ⟨⟨nml,bys,(st:Int),(nd:Int),gn⟩,mt,pk,cr⟩=Ag 29297 2++Ag 7 2++Ag st 4++Ag nd 2++Ag (Dp gn) 1 from rfl)
 unfold Ev.val;dsimp only;obtain⟨nm,hnmv⟩:∃nm,B nml=nm:=⟨_,rfl⟩
 obtain⟨nl,hnl⟩:∃nl,nml.length=nl:=⟨_,rfl⟩
 obtain⟨bl,hblv⟩:∃bl,bys.length=bl:=⟨_,rfl⟩
 obtain⟨pl,hplv⟩:∃pl,pk.length=pl:=⟨_,rfl⟩
 have hnsz:nm.size=nl:=by rw[<-hnmv,Ha,hnl]
 rw[hnl]at hnm;rw[hblv]at hbl;rw[hplv]at hpl;rw[hnmv,hblv,hplv];have HNM:=Ab hnmv;have HNL:=Ab hnl;have HBL:=Ab hblv;have HPL:=Ab hplv;have hwbl:=Bd (n:=bl) (by omega);have hwpl:=Bd (n:=pl) (by omega);have hwnl:IntKind.u32.wrap (nm.size:Int)=(nl:Int):=by rw[hnsz];exact Bd (by omega)
 clear hnmv hnl hblv hplv hnsz
 cases gn
 . obtain⟨ov,hC⟩:=h;have HX:Hid (Bx (w.alloc (.cells #[.string nm,.slice fa bl fc,.int .i64 (st:Int),.int .i64 (nd:Int),.bool false,.int .u32 (mt:Int),.slice pa pl pc,.int .u32 (cr:Int)] 71)) w.heap.size nm fa bl fc st nd false mt pa pl pc cr):=Ab (heap_alloc_new w _)
   have HU:Hid (ZUp Bs w b xs (w.alloc (.cells #[.string nm,.slice fa bl fc,.int .i64 (st:Int),.int .i64 (nd:Int),.bool false,.int .u32 (mt:Int),.slice pa pl pc,.int .u32 (cr:Int)] 71))):=
    Ab ⟨⟨ov,hC.later ((Below.refl _ _).alloc (VC _) _)⟩,(Below.refl Bs w).alloc (by have:=hC.lt;have:=hC.base;omega) _,KpT.below ((Below.refl _ _).alloc (VC _) _)⟩
   obtain⟨X,hXX⟩:∃X,w.heap.size=X:=⟨_,rfl⟩
   rw[hXX]at HX;have HXX:=Ab hXX;obtain⟨c0,c1,c2,c3,c4,c5,c6,c7⟩:=Av (Aa HX);clear hC;go_enter Tryz.func79,Tryz.ntmps79
   go_wp2_with fail
   refine(Bb Bs b 2 29297 _ _ (Aa HU).is (by decide) (by omega) (by omega)).mono ?_;rintro e w1 ⟨rfl,hU1⟩;have HU2:=Ab ((Aa HU).trans hU1);have HX2:Hid (Bx w1 X nm fa bl fc st nd false mt pa pl pc cr):=Ab (hU1.kp _ _ _ _ (by decide) (by decide) (Aa HX));clear hU1 HU HX c0 c1 c2 c3 c4 c5 c6 c7;have HU:=HU2;clear HU2;have HX:=HX2;clear HX2;obtain⟨c0,c1,c2,c3,c4,c5,c6,c7⟩:=Av (Aa HX);go_wp2_with fail
   refine(Bb Bs b 2 7 _ _ (Aa HU).is (by decide) (by omega) (by simp only[VB,Aj];omega)).mono ?_;rintro e w2 ⟨rfl,hU1⟩;have HU2:=Ab ((Aa HU).trans hU1);have HX2:Hid (Bx w2 X nm fa bl fc st nd false mt pa pl pc cr):=Ab (hU1.kp _ _ _ _ (by decide) (by decide) (Aa HX));clear hU1 HU HX c0 c1 c2 c3 c4 c5 c6 c7;have HU:=HU2;clear HU2;have HX:=HX2;clear HX2;obtain⟨c0,c1,c2,c3,c4,c5,c6,c7⟩:=Av (Aa HX);go_wp2_with fail
   refine(Bb Bs b 4 st _ _ (Aa HU).is (by decide) (by omega) (by simp only[VB,Aj];omega)).mono ?_;rintro e w3 ⟨rfl,hU1⟩;have HU2:=Ab ((Aa HU).trans hU1);have HX2:Hid (Bx w3 X nm fa bl fc st nd false mt pa pl pc cr):=Ab (hU1.kp _ _ _ _ (by decide) (by decide) (Aa HX));clear hU1 HU HX c0 c1 c2 c3 c4 c5 c6 c7;have HU:=HU2;clear HU2;have HX:=HX2;clear HX2;obtain⟨c0,c1,c2,c3,c4,c5,c6,c7⟩:=Av (Aa HX);go_wp2_with fail
   refine(Bb Bs b 2 nd _ _ (Aa HU).is (by decide) (by omega) (by simp only[VB,Aj];omega)).mono ?_;rintro e w4 ⟨rfl,hU1⟩;have HU2:=Ab ((Aa HU).trans hU1);have HX2:Hid (Bx w4 X nm fa bl fc st nd false mt pa pl pc cr):=Ab (hU1.kp _ _ _ _ (by decide) (by decide) (Aa HX));clear hU1 HU HX c0 c1 c2 c3 c4 c5 c6 c7;have HU:=HU2;clear HU2;have HX:=HX2;clear HX2;obtain⟨c0,c1,c2,c3,c4,c5,c6,c7⟩:=Av (Aa HX);go_wp2_with fail
   refine(Bb Bs b 1 0 _ _ (Aa HU).is (by decide) (by omega) (by simp only[VB,Aj];omega)).mono ?_;rintro e w5 ⟨rfl,hU1⟩;have HU2:=Ab ((Aa HU).trans hU1);clear hU1 HU;have HU:=HU2;clear HU2;go_wp2;go_end0
   refine⟨rfl, ?_⟩;rw[HGOAL];simp only[<-VH];exact Aa HU
 . obtain⟨ov,hC⟩:=h;have HX:Hid (Bx (w.alloc (.cells #[.string nm,.slice fa bl fc,.int .i64 (st:Int),.int .i64 (nd:Int),.bool true,.int .u32 (mt:Int),.slice pa pl pc,.int .u32 (cr:Int)] 71)) w.heap.size nm fa bl fc st nd true mt pa pl pc cr):=Ab (heap_alloc_new w _)
   have HU:Hid (ZUp Bs w b xs (w.alloc (.cells #[.string nm,.slice fa bl fc,.int .i64 (st:Int),.int .i64 (nd:Int),.bool true,.int .u32 (mt:Int),.slice pa pl pc,.int .u32 (cr:Int)] 71))):=
    Ab ⟨⟨ov,hC.later ((Below.refl _ _).alloc (VC _) _)⟩,(Below.refl Bs w).alloc (by have:=hC.lt;have:=hC.base;omega) _,KpT.below ((Below.refl _ _).alloc (VC _) _)⟩
   obtain⟨X,hXX⟩:∃X,w.heap.size=X:=⟨_,rfl⟩
   rw[hXX]at HX;have HXX:=Ab hXX;obtain⟨c0,c1,c2,c3,c4,c5,c6,c7⟩:=Av (Aa HX);clear hC;go_enter Tryz.func79,Tryz.ntmps79
   go_wp2_with fail
   refine(Bb Bs b 2 29297 _ _ (Aa HU).is (by decide) (by omega) (by omega)).mono ?_;rintro e w1 ⟨rfl,hU1⟩;have HU2:=Ab ((Aa HU).trans hU1);have HX2:Hid (Bx w1 X nm fa bl fc st nd true mt pa pl pc cr):=Ab (hU1.kp _ _ _ _ (by decide) (by decide) (Aa HX));clear hU1 HU HX c0 c1 c2 c3 c4 c5 c6 c7;have HU:=HU2;clear HU2;have HX:=HX2;clear HX2;obtain⟨c0,c1,c2,c3,c4,c5,c6,c7⟩:=Av (Aa HX);go_wp2_with fail
   refine(Bb Bs b 2 7 _ _ (Aa HU).is (by decide) (by omega) (by simp only[VB,Aj];omega)).mono ?_;rintro e w2 ⟨rfl,hU1⟩;have HU2:=Ab ((Aa HU).trans hU1);have HX2:Hid (Bx w2 X nm fa bl fc st nd true mt pa pl pc cr):=Ab (hU1.kp _ _ _ _ (by decide) (by decide) (Aa HX));clear hU1 HU HX c0 c1 c2 c3 c4 c5 c6 c7;have HU:=HU2;clear HU2;have HX:=HX2;clear HX2;obtain⟨c0,c1,c2,c3,c4,c5,c6,c7⟩:=Av (Aa HX);go_wp2_with fail
   refine(Bb Bs b 4 st _ _ (Aa HU).is (by decide) (by omega) (by simp only[VB,Aj];omega)).mono ?_;rintro e w3 ⟨rfl,hU1⟩;have HU2:=Ab ((Aa HU).trans hU1);have HX2:Hid (Bx w3 X nm fa bl fc st nd true mt pa pl pc cr):=Ab (hU1.kp _ _ _ _ (by decide) (by decide) (Aa HX));clear hU1 HU HX c0 c1 c2 c3 c4 c5 c6 c7;have HU:=HU2;clear HU2;have HX:=HX2;clear HX2;obtain⟨c0,c1,c2,c3,c4,c5,c6,c7⟩:=Av (Aa HX);go_wp2_with fail
   refine(Bb Bs b 2 nd _ _ (Aa HU).is (by decide) (by omega) (by simp only[VB,Aj];omega)).mono ?_;rintro e w4 ⟨rfl,hU1⟩;have HU2:=Ab ((Aa HU).trans hU1);have HX2:Hid (Bx w4 X nm fa bl fc st nd true mt pa pl pc cr):=Ab (hU1.kp _ _ _ _ (by decide) (by decide) (Aa HX));clear hU1 HU HX c0 c1 c2 c3 c4 c5 c6 c7;have HU:=HU2;clear HU2;have HX:=HX2;clear HX2;obtain⟨c0,c1,c2,c3,c4,c5,c6,c7⟩:=Av (Aa HX);go_wp2_with fail
   refine(Bb Bs b 1 1 _ _ (Aa HU).is (by decide) (by omega) (by simp only[VB,Aj];omega)).mono ?_;rintro e w5 ⟨rfl,hU1⟩;have HU2:=Ab ((Aa HU).trans hU1);clear hU1 HU;have HU:=HU2;clear HU2;go_wp2;go_end0
   refine⟨rfl, ?_⟩;rw[HGOAL];simp only[<-VH];exact Aa HU
theorem NZ (Bs b m s t:Nat)(xs:List Nat)(w:World)(h:∃ov,ZC Bs w b xs ov)(hm:m<=60000)(hs:s<=1000000)(ht:t<=1000000)(hx:xs.length<=800000):
 Calls Tryz.prog 57 #[.pointer (some ⟨b,0,none⟩),.int .i64 (m:Int),.int .i64 (s:Int),.int .i64 (t:Int)] w fun e w'=>e=.returned (.tuple #[])/\ZUp Bs w b (xs++Pm m s t) w':=by
 have HGOAL:=(show Pm m s t=Ag 101010256 4++Ag 0 4++Ag m 2++Ag m 2++Ag s 4++Ag t 4++Ag 0 2 from rfl)
 have hwm:=Bd (n:=m) (by omega);have hws:=Bd (n:=s) (by omega);have hwt:=Bd (n:=t) (by omega);obtain⟨ov,hC⟩:=h;have HU:=Ab (ZUp.refl hC);clear hC;go_enter Tryz.func57,Tryz.ntmps57
 go_wp2_with fail
 refine(Bb Bs b 4 101010256 _ _ (Aa HU).is (by decide) (by omega) (by omega)).mono ?_;rintro e w1 ⟨rfl,hU1⟩;have HU2:=Ab ((Aa HU).trans hU1);clear hU1 HU;have HU:=HU2;clear HU2;go_wp2_with fail
 refine(Gs Bs b 4 _ _ (Aa HU).is (by decide) (by simp only[VB,Aj];omega)).mono ?_;rintro e w2 ⟨rfl,hU1⟩;have HU2:=Ab ((Aa HU).trans hU1);clear hU1 HU;have HU:=HU2;clear HU2;go_wp2_with fail
 refine(Bb Bs b 2 m _ _ (Aa HU).is (by decide) (by omega) (by simp only[VB,Aj];omega)).mono ?_;rintro e w3 ⟨rfl,hU1⟩;have HU2:=Ab ((Aa HU).trans hU1);clear hU1 HU;have HU:=HU2;clear HU2;go_wp2_with fail
 refine(Bb Bs b 2 m _ _ (Aa HU).is (by decide) (by omega) (by simp only[VB,Aj];omega)).mono ?_;rintro e w4 ⟨rfl,hU1⟩;have HU2:=Ab ((Aa HU).trans hU1);clear hU1 HU;have HU:=HU2;clear HU2;go_wp2_with fail
 refine(Bb Bs b 4 s _ _ (Aa HU).is (by decide) (by omega) (by simp only[VB,Aj];omega)).mono ?_;rintro e w5 ⟨rfl,hU1⟩;have HU2:=Ab ((Aa HU).trans hU1);clear hU1 HU;have HU:=HU2;clear HU2;go_wp2_with fail
 refine(Bb Bs b 4 t _ _ (Aa HU).is (by decide) (by omega) (by simp only[VB,Aj];omega)).mono ?_;rintro e w6 ⟨rfl,hU1⟩;have HU2:=Ab ((Aa HU).trans hU1);clear hU1 HU;have HU:=HU2;clear HU2;go_wp2_with fail
 refine(Gs Bs b 2 _ _ (Aa HU).is (by decide) (by simp only[VB,Aj];omega)).mono ?_;rintro e w7 ⟨rfl,hU1⟩;have HU2:=Ab ((Aa HU).trans hU1);clear hU1 HU;have HU:=HU2;clear HU2;go_wp2;go_end0
 refine⟨rfl, ?_⟩;rw[HGOAL];simp only[<-VH];exact Aa HU
theorem PX {w w' W:World}{Bs c:Nat}{a:Option Addr}{ys:List Nat}(h:PkIn w a c ys)(hB:Below Bs w w')(hb:∀g o,a=some ⟨g,o,none⟩->ys≠ []->g<Bs)(hW:w'.grownBy W none):PkIn W a c ys:=by
 refine⟨?_,h.2⟩
 by_cases h0:ys= []
 . exact .inl h0
 . rcases h.1 with h1|⟨b,o,e,hl,hc⟩
   . exact absurd h1 h0
   . have hbl:=hb b o e h0;have hs:=hB.size;refine .inr ⟨b,o,e,VG hl (WC hs hW.size),fun j hj=> ?_⟩;have e1:w'.heap[b]? =w.heap[b]? :=hB.block b hbl;have e2:W.heap[b]? =w'.heap[b]? :=hW.block b (by omega) (by simp);exact(World.cell?_of_block (w:=w) (a:=⟨b,_,none⟩) (e2.trans e1)).trans (hc j hj)
theorem NY (Bs b:Nat)(x:Ev)(xs:List Nat)(w:World)(h:∃ov,ZC Bs w b xs ov)(hn:ENum x.e)(hpk:PkIn w x.pa x.pc x.e.pk)(hpb:∀g o,x.pa=some ⟨g,o,none⟩->x.e.pk≠ []->g<Bs)(hx:xs.length<=700000):
 Calls Tryz.prog 55 #[.pointer (some ⟨b,0,none⟩),x.val] w fun e w'=>e=.returned (.tuple #[])/\ZUp Bs w b (xs++Sy x.e) w':=by
 obtain⟨x,fa,fc,pa,pc⟩:=x;obtain⟨⟨nml,bys,sti,ndi,gn⟩,mt,pk,cr⟩:=x;have hn':=hn;obtain⟨⟨st0,st1⟩,⟨nd0,nd1⟩,hnm,hbl,hpl,hcr,hmt⟩:=hn;simp only at st0 st1 nd0 nd1 hnm hbl hpl hcr hmt
 obtain⟨st,rfl⟩:∃st:Nat,sti=(st:Int):=⟨sti.toNat,by omega⟩
 obtain⟨nd,rfl⟩:∃nd:Nat,ndi=(nd:Int):=⟨ndi.toNat,by omega⟩
 have hst2:((st:Int)).toNat=st:=by omega
 have hwst:=Bd (n:=st) (by omega);have hwnd:=Bd (n:=nd) (by omega);have HGOAL:=(show Sy ⟨⟨nml,bys,(st:Int),(nd:Int),gn⟩,mt,pk,cr⟩=Ag 67324752 4++Sv ⟨⟨nml,bys,(st:Int),(nd:Int),gn⟩,mt,pk,cr⟩++n8 nml++Jb ⟨⟨nml,bys,(st:Int),(nd:Int),gn⟩,mt,pk,cr⟩++pk from rfl)
 have HM:=Ab (fun ys W h1 h2=>R9 Bs b ⟨⟨⟨nml,bys,(st:Int),(nd:Int),gn⟩,mt,pk,cr⟩,fa,fc,pa,pc⟩ ys W h1 hn' h2);have HE:=Ab (fun ys W h1 h2=>S5 Bs b ⟨⟨⟨nml,bys,(st:Int),(nd:Int),gn⟩,mt,pk,cr⟩,fa,fc,pa,pc⟩ ys W h1 hn' h2);obtain⟨MID,hMID⟩:∃MID,Sv ⟨⟨nml,bys,(st:Int),(nd:Int),gn⟩,mt,pk,cr⟩=MID:=⟨_,rfl⟩
 obtain⟨EXT,hEXT⟩:∃EXT,Jb ⟨⟨nml,bys,(st:Int),(nd:Int),gn⟩,mt,pk,cr⟩=EXT:=⟨_,rfl⟩
 have hMl:MID.length=26:=by rw[<-hMID];exact Lr _
 have hEl:EXT.length=11:=by rw[<-hEXT];exact Ht _
 unfold Ev.val at HM HE;dsimp only at HM HE;rw[hMID,hEXT]at HGOAL;rw[hMID]at HM;rw[hEXT]at HE;clear hMID hEXT;unfold Ev.val;dsimp only;have HPK:=Ab hpk;have HPB:=Ab hpb;clear hpk hpb;obtain⟨nm,hnmv⟩:∃nm,B nml=nm:=⟨_,rfl⟩
 obtain⟨nl,hnl⟩:∃nl,nml.length=nl:=⟨_,rfl⟩
 obtain⟨bl,hblv⟩:∃bl,bys.length=bl:=⟨_,rfl⟩
 obtain⟨pl,hplv⟩:∃pl,pk.length=pl:=⟨_,rfl⟩
 have hnsz:nm.size=nl:=by rw[<-hnmv,Ha,hnl]
 rw[hnl]at hnm;rw[hblv]at hbl;rw[hplv]at hpl;rw[hnmv,hblv,hplv]at HM HE ⊢;have HNM:=Ab hnmv;have HNL:=Ab hnl;have HBL:=Ab hblv;have HPL:=Ab hplv;have hwbl:=Bd (n:=bl) (by omega);have hwpl:=Bd (n:=pl) (by omega);have hwnl:IntKind.u32.wrap (nm.size:Int)=(nl:Int):=by rw[hnsz];exact Bd (by omega)
 clear hnmv hnl hblv hplv hnsz;obtain⟨ov,hC⟩:=h;have HX:Hid (Bx (w.alloc (.cells #[.string nm,.slice fa bl fc,.int .i64 (st:Int),.int .i64 (nd:Int),.bool gn,.int .u32 (mt:Int),.slice pa pl pc,.int .u32 (cr:Int)] 71)) w.heap.size nm fa bl fc st nd gn mt pa pl pc cr):=Ab (heap_alloc_new w _)
 have HU:Hid (ZUp Bs w b xs (w.alloc (.cells #[.string nm,.slice fa bl fc,.int .i64 (st:Int),.int .i64 (nd:Int),.bool gn,.int .u32 (mt:Int),.slice pa pl pc,.int .u32 (cr:Int)] 71))):=
  Ab ⟨⟨ov,hC.later ((Below.refl _ _).alloc (VC _) _)⟩,(Below.refl Bs w).alloc (by have:=hC.lt;have:=hC.base;omega) _,KpT.below ((Below.refl _ _).alloc (VC _) _)⟩
 obtain⟨X,hXX⟩:∃X,w.heap.size=X:=⟨_,rfl⟩
 rw[hXX]at HX;have HXX:=Ab hXX;obtain⟨c0,c1,c2,c3,c4,c5,c6,c7⟩:=Av (Aa HX);clear hC;go_enter Tryz.func55,Tryz.ntmps55
 go_wp2_with fail
 refine(Bb Bs b 4 67324752 _ _ (Aa HU).is (by decide) (by omega) (by omega)).mono ?_;rintro e w1 ⟨rfl,hU1⟩;have HU2:=Ab ((Aa HU).trans hU1);have HX2:Hid (Bx w1 X nm fa bl fc st nd gn mt pa pl pc cr):=Ab (hU1.kp _ _ _ _ (by decide) (by decide) (Aa HX));clear hU1 HU HX c0 c1 c2 c3 c4 c5 c6 c7;have HU:=HU2;clear HU2;have HX:=HX2;clear HX2;obtain⟨c0,c1,c2,c3,c4,c5,c6,c7⟩:=Av (Aa HX);go_wp2_with fail
 refine(Aa HM _ _ (Aa HU).is (by simp only[VB,Aj];omega)).mono ?_;rintro e w2 ⟨rfl,hU1⟩;have HU2:=Ab ((Aa HU).trans hU1);have HX2:Hid (Bx w2 X nm fa bl fc st nd gn mt pa pl pc cr):=Ab (hU1.kp _ _ _ _ (by decide) (by decide) (Aa HX));clear hU1 HU HX c0 c1 c2 c3 c4 c5 c6 c7;have HU:=HU2;clear HU2;have HX:=HX2;clear HX2;obtain⟨c0,c1,c2,c3,c4,c5,c6,c7⟩:=Av (Aa HX);obtain⟨ov1,hC1⟩:=(Aa HU).is;obtain⟨d0,g0⟩:=hC1.new;have HC1:=Ab hC1;clear hC1;go_wp2;go_region_law (refine GV rfl (.tmp 13) (.tmp 16) rfl w2 Bs b _ nml _ rfl (Aa HC1) (by repeat (first|with_reducible exact Au _ _|with_reducible refine Br ?_|with_reducible refine ga ?_ _)) (congrArg Value.string (Aa HNM).symm) (by simp only[VB,Aj,hMl,Aa HNL];omega) ?_;intro a' l' c' w' q1 q2 q3)
 all_goals
  have HU2:=Ab ((Aa HU).trans (Aa q3));have HX2:Hid (Bx (w'.setCell ⟨b,0,none⟩ (.slice a' l' c')) X nm fa bl fc st nd gn mt pa pl pc cr):=Ab ((Aa q3).kp _ _ _ _ (by decide) (by decide) (Aa HX));clear q1 q2 q3 HU HX c0 c1 c2 c3 c4 c5 c6 c7 d0 g0 HC1;have HU:=HU2;have HX:=HX2;clear HU2 HX2;obtain⟨c0,c1,c2,c3,c4,c5,c6,c7⟩:=Av (Aa HX);go_wp2_with fail
  refine(Aa HE _ _ (Aa HU).is (by simp only[VB,Aj,hMl,Cd,Aa HNL];omega)).mono ?_;rintro e w3 ⟨rfl,hU1⟩;have HU2:=Ab ((Aa HU).trans hU1);have HX2:Hid (Bx w3 X nm fa bl fc st nd gn mt pa pl pc cr):=Ab (hU1.kp _ _ _ _ (by decide) (by decide) (Aa HX));clear hU1 HU HX c0 c1 c2 c3 c4 c5 c6 c7;have HU:=HU2;clear HU2;have HX:=HX2;clear HX2;obtain⟨c0,c1,c2,c3,c4,c5,c6,c7⟩:=Av (Aa HX);obtain⟨ov1,hC1⟩:=(Aa HU).is;obtain⟨d0,g0⟩:=hC1.new;have HC1:=Ab hC1;clear hC1;go_wp2;go_region_law (refine GW rfl (.tmp 27) (.tmp 29) rfl w3 Bs b _ pk _ rfl (Aa HC1) (by repeat (first|with_reducible exact Au _ _|with_reducible refine Br ?_|with_reducible refine ga ?_ _)) pa pl pc rfl (Aa HPL) (PX (Aa HPK) (Aa HU).below (Aa HPB) (by repeat (first|with_reducible exact Au _ _|with_reducible refine Br ?_|with_reducible refine ga ?_ _))) (by simp only[VB,Aj,hMl,hEl,Cd,Aa HNL];omega) ?_;intro a' l' c' w' q1 q2 q3)
  all_goals
   have HU2:=Ab ((Aa HU).trans (Aa q3));clear q1 q2 q3 HU HX c0 c1 c2 c3 c4 c5 c6 c7 d0 g0 HC1;have HU:=HU2;clear HU2;go_wp2;go_end0
   refine⟨rfl, ?_⟩;rw[HGOAL];simp only[<-VH];exact Aa HU
theorem NX (Bs b p:Nat)(x:Ev)(xs:List Nat)(w:World)(h:∃ov,ZC Bs w b xs ov)(hn:ENum x.e)(hp:p<=1000000)(hx:xs.length<=700000):
 Calls Tryz.prog 56 #[.pointer (some ⟨b,0,none⟩),x.val,.int .i64 (p:Int)] w fun e w'=>e=.returned (.tuple #[])/\ZUp Bs w b (xs++Qe x.e p) w':=by
 obtain⟨x,fa,fc,pa,pc⟩:=x;obtain⟨⟨nml,bys,sti,ndi,gn⟩,mt,pk,cr⟩:=x;have hn':=hn;obtain⟨⟨st0,st1⟩,⟨nd0,nd1⟩,hnm,hbl,hpl,hcr,hmt⟩:=hn;simp only at st0 st1 nd0 nd1 hnm hbl hpl hcr hmt
 obtain⟨st,rfl⟩:∃st:Nat,sti=(st:Int):=⟨sti.toNat,by omega⟩
 obtain⟨nd,rfl⟩:∃nd:Nat,ndi=(nd:Int):=⟨ndi.toNat,by omega⟩
 have hst2:((st:Int)).toNat=st:=by omega
 have hwst:=Bd (n:=st) (by omega);have hwnd:=Bd (n:=nd) (by omega);have HGOAL:=(show Qe ⟨⟨nml,bys,(st:Int),(nd:Int),gn⟩,mt,pk,cr⟩ p=Ag 33639248 4++Ag 20 2++Sv ⟨⟨nml,bys,(st:Int),(nd:Int),gn⟩,mt,pk,cr⟩++Ag 0 10++Ag p 4++n8 nml++Jb ⟨⟨nml,bys,(st:Int),(nd:Int),gn⟩,mt,pk,cr⟩ from rfl)
 have HM:=Ab (fun ys W h1 h2=>R9 Bs b ⟨⟨⟨nml,bys,(st:Int),(nd:Int),gn⟩,mt,pk,cr⟩,fa,fc,pa,pc⟩ ys W h1 hn' h2);have HE:=Ab (fun ys W h1 h2=>S5 Bs b ⟨⟨⟨nml,bys,(st:Int),(nd:Int),gn⟩,mt,pk,cr⟩,fa,fc,pa,pc⟩ ys W h1 hn' h2);obtain⟨MID,hMID⟩:∃MID,Sv ⟨⟨nml,bys,(st:Int),(nd:Int),gn⟩,mt,pk,cr⟩=MID:=⟨_,rfl⟩
 obtain⟨EXT,hEXT⟩:∃EXT,Jb ⟨⟨nml,bys,(st:Int),(nd:Int),gn⟩,mt,pk,cr⟩=EXT:=⟨_,rfl⟩
 have hMl:MID.length=26:=by rw[<-hMID];exact Lr _
 have hEl:EXT.length=11:=by rw[<-hEXT];exact Ht _
 unfold Ev.val at HM HE;dsimp only at HM HE;rw[hMID,hEXT]at HGOAL;rw[hMID]at HM;rw[hEXT]at HE;clear hMID hEXT;unfold Ev.val;dsimp only;have hwp:=Bd (n:=p) (by omega);obtain⟨nm,hnmv⟩:∃nm,B nml=nm:=⟨_,rfl⟩
 obtain⟨nl,hnl⟩:∃nl,nml.length=nl:=⟨_,rfl⟩
 obtain⟨bl,hblv⟩:∃bl,bys.length=bl:=⟨_,rfl⟩
 obtain⟨pl,hplv⟩:∃pl,pk.length=pl:=⟨_,rfl⟩
 have hnsz:nm.size=nl:=by rw[<-hnmv,Ha,hnl]
 rw[hnl]at hnm;rw[hblv]at hbl;rw[hplv]at hpl;rw[hnmv,hblv,hplv]at HM HE ⊢;have HNM:=Ab hnmv;have HNL:=Ab hnl;have HBL:=Ab hblv;have HPL:=Ab hplv;have hwbl:=Bd (n:=bl) (by omega);have hwpl:=Bd (n:=pl) (by omega);have hwnl:IntKind.u32.wrap (nm.size:Int)=(nl:Int):=by rw[hnsz];exact Bd (by omega)
 clear hnmv hnl hblv hplv hnsz;obtain⟨ov,hC⟩:=h;have HX:Hid (Bx (w.alloc (.cells #[.string nm,.slice fa bl fc,.int .i64 (st:Int),.int .i64 (nd:Int),.bool gn,.int .u32 (mt:Int),.slice pa pl pc,.int .u32 (cr:Int)] 71)) w.heap.size nm fa bl fc st nd gn mt pa pl pc cr):=Ab (heap_alloc_new w _)
 have HU:Hid (ZUp Bs w b xs (w.alloc (.cells #[.string nm,.slice fa bl fc,.int .i64 (st:Int),.int .i64 (nd:Int),.bool gn,.int .u32 (mt:Int),.slice pa pl pc,.int .u32 (cr:Int)] 71))):=
  Ab ⟨⟨ov,hC.later ((Below.refl _ _).alloc (VC _) _)⟩,(Below.refl Bs w).alloc (by have:=hC.lt;have:=hC.base;omega) _,KpT.below ((Below.refl _ _).alloc (VC _) _)⟩
 obtain⟨X,hXX⟩:∃X,w.heap.size=X:=⟨_,rfl⟩
 rw[hXX]at HX;have HXX:=Ab hXX;obtain⟨c0,c1,c2,c3,c4,c5,c6,c7⟩:=Av (Aa HX);clear hC;go_enter Tryz.func56,Tryz.ntmps56
 go_wp2_with fail
 refine(Bb Bs b 4 33639248 _ _ (Aa HU).is (by decide) (by omega) (by omega)).mono ?_;rintro e w1 ⟨rfl,hU1⟩;have HU2:=Ab ((Aa HU).trans hU1);have HX2:Hid (Bx w1 X nm fa bl fc st nd gn mt pa pl pc cr):=Ab (hU1.kp _ _ _ _ (by decide) (by decide) (Aa HX));clear hU1 HU HX c0 c1 c2 c3 c4 c5 c6 c7;have HU:=HU2;clear HU2;have HX:=HX2;clear HX2;obtain⟨c0,c1,c2,c3,c4,c5,c6,c7⟩:=Av (Aa HX);go_wp2_with fail
 refine(Bb Bs b 2 20 _ _ (Aa HU).is (by decide) (by omega) (by simp only[VB,Aj];omega)).mono ?_;rintro e w2 ⟨rfl,hU1⟩;have HU2:=Ab ((Aa HU).trans hU1);have HX2:Hid (Bx w2 X nm fa bl fc st nd gn mt pa pl pc cr):=Ab (hU1.kp _ _ _ _ (by decide) (by decide) (Aa HX));clear hU1 HU HX c0 c1 c2 c3 c4 c5 c6 c7;have HU:=HU2;clear HU2;have HX:=HX2;clear HX2;obtain⟨c0,c1,c2,c3,c4,c5,c6,c7⟩:=Av (Aa HX);go_wp2_with fail
 refine(Aa HM _ _ (Aa HU).is (by simp only[VB,Aj];omega)).mono ?_;rintro e w3 ⟨rfl,hU1⟩;have HU2:=Ab ((Aa HU).trans hU1);have HX2:Hid (Bx w3 X nm fa bl fc st nd gn mt pa pl pc cr):=Ab (hU1.kp _ _ _ _ (by decide) (by decide) (Aa HX));clear hU1 HU HX c0 c1 c2 c3 c4 c5 c6 c7;have HU:=HU2;clear HU2;have HX:=HX2;clear HX2;obtain⟨c0,c1,c2,c3,c4,c5,c6,c7⟩:=Av (Aa HX);go_wp2_with fail
 refine(Gs Bs b 10 _ _ (Aa HU).is (by decide) (by simp only[VB,Aj,hMl];omega)).mono ?_;rintro e w4 ⟨rfl,hU1⟩;have HU2:=Ab ((Aa HU).trans hU1);have HX2:Hid (Bx w4 X nm fa bl fc st nd gn mt pa pl pc cr):=Ab (hU1.kp _ _ _ _ (by decide) (by decide) (Aa HX));clear hU1 HU HX c0 c1 c2 c3 c4 c5 c6 c7;have HU:=HU2;clear HU2;have HX:=HX2;clear HX2;obtain⟨c0,c1,c2,c3,c4,c5,c6,c7⟩:=Av (Aa HX);go_wp2_with fail
 refine(Bb Bs b 4 p _ _ (Aa HU).is (by decide) (by omega) (by simp only[VB,Aj,hMl];omega)).mono ?_;rintro e w5 ⟨rfl,hU1⟩;have HU2:=Ab ((Aa HU).trans hU1);have HX2:Hid (Bx w5 X nm fa bl fc st nd gn mt pa pl pc cr):=Ab (hU1.kp _ _ _ _ (by decide) (by decide) (Aa HX));clear hU1 HU HX c0 c1 c2 c3 c4 c5 c6 c7;have HU:=HU2;clear HU2;have HX:=HX2;clear HX2;obtain⟨c0,c1,c2,c3,c4,c5,c6,c7⟩:=Av (Aa HX);obtain⟨ov1,hC1⟩:=(Aa HU).is;obtain⟨d0,g0⟩:=hC1.new;have HC1:=Ab hC1;clear hC1;go_wp2;go_region_law (refine GV rfl (.tmp 23) (.tmp 26) rfl w5 Bs b _ nml _ rfl (Aa HC1) (by repeat (first|with_reducible exact Au _ _|with_reducible refine Br ?_|with_reducible refine ga ?_ _)) (congrArg Value.string (Aa HNM).symm) (by simp only[VB,Aj,hMl,Aa HNL];omega) ?_;intro a' l' c' w' q1 q2 q3)
 all_goals
  have HU2:=Ab ((Aa HU).trans (Aa q3));have HX2:Hid (Bx (w'.setCell ⟨b,0,none⟩ (.slice a' l' c')) X nm fa bl fc st nd gn mt pa pl pc cr):=Ab ((Aa q3).kp _ _ _ _ (by decide) (by decide) (Aa HX));clear q1 q2 q3 HU HX c0 c1 c2 c3 c4 c5 c6 c7 d0 g0 HC1;have HU:=HU2;have HX:=HX2;clear HU2 HX2;obtain⟨c0,c1,c2,c3,c4,c5,c6,c7⟩:=Av (Aa HX);go_wp2_with fail
  refine(Aa HE _ _ (Aa HU).is (by simp only[VB,Aj,hMl,Cd,Aa HNL];omega)).mono ?_;rintro e w6 ⟨rfl,hU1⟩;have HU2:=Ab ((Aa HU).trans hU1);clear hU1 HU;have HU:=HU2;clear HU2;go_wp2;go_end0
  refine⟨rfl, ?_⟩;rw[HGOAL];simp only[<-VH];exact Aa HU
end Go.Proofs.YtleocpdblhbimaaGreatDoor
