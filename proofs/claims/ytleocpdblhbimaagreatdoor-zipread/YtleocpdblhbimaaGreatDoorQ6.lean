import Derived.Test.YtleocpdblhbimaaGreatDoorQ5
import Derived.Deep.RegionHeld3
import Derived.Deep.RegionWith
set_option linter.unusedSimpArgs false
set_option maxHeartbeats 4000000
namespace Go.Proofs.YtleocpdblhbimaaGreatDoor
open Go.RowKit
set_option linter.unusedVariables false
set_option maxRecDepth 100000
structure Ev where
 e:En
 fa:Option Addr
 fc:Nat
 pa:Option Addr
 pc:Nat
def Ev.cells (x:Ev):List Value:= [.string (B x.e.f.name),.slice x.fa x.e.f.bytes.length x.fc,.int .i64 x.e.f.stamp,.int .i64 x.e.f.node,.bool x.e.f.gone,.int .u32 (x.e.meth:Int),.slice x.pa x.e.pk.length x.pc,.int .u32 (x.e.crc:Int)]
def Ev.val (x:Ev):Value:=.agg #[.string (B x.e.f.name),.slice x.fa x.e.f.bytes.length x.fc,.int .i64 x.e.f.stamp,.int .i64 x.e.f.node,.bool x.e.f.gone,.int .u32 (x.e.meth:Int),.slice x.pa x.e.pk.length x.pc,.int .u32 (x.e.crc:Int)]
structure ENum (x:En):Prop where
 st:0<=x.f.stamp/\x.f.stamp<=1000000
 nd:0<=x.f.node/\x.f.node<=3
 nm:x.f.name.length<=40
 bl:x.f.bytes.length<=3000
 pl:x.pk.length<=12000
 cr:x.crc<4294967296
 mt:x.meth<65536
theorem Bh {n:Nat}(E:n<4294967296):IntKind.u32.wrap (n:Int)=(n:Int):=by
 simp[IntKind.wrap,IntKind.bits,IntKind.signed]
 omega
abbrev Bx (w:World)(X:Nat)(nm:ByteArray)(fa:Option Addr)(bl fc:Nat)(st nd:Nat)(gn:Bool)(mt:Nat)(pa:Option Addr)(pl pc cr:Nat):Prop:=
 w.heap[X]? =some (.cells #[.string nm,.slice fa bl fc,.int .i64 (st:Int),.int .i64 (nd:Int),.bool gn,.int .u32 (mt:Int),.slice pa pl pc,.int .u32 (cr:Int)] 71 (0,0))
theorem Ax {w:World}{X:Nat}{G:ByteArray}{O:Option Addr}{H M st nd:Nat}{gn:Bool}{mt:Nat}{I:Option Addr}{T F cr:Nat}(E:Bx w X G O H M st nd gn mt I T F cr):w.cell? ⟨X,0,none⟩=some (.string G)/\w.cell? ⟨X,1,none⟩=some (.slice O H M)/\w.cell? ⟨X,2,none⟩=some (.int .i64 (st:Int))/\w.cell? ⟨X,3,none⟩=some (.int .i64 (nd:Int))/\w.cell? ⟨X,4,none⟩=some (.bool gn)/\w.cell? ⟨X,5,none⟩=some (.int .u32 (mt:Int))/\w.cell? ⟨X,6,none⟩=some (.slice I T F)/\w.cell? ⟨X,7,none⟩=some (.int .u32 (cr:Int)):=⟨Ac E,Ac E,Ac E,Ac E,Ac E,Ac E,Ac E,Ac E⟩
theorem AK (Z b:Nat)(x:Ev)(xs:List Nat)(w:World)(h:∃ov,ZC Z w b xs ov)(ax:ENum x.e)(a9:xs.length<=800000):
 Calls Tryz.prog 78 #[.pointer (some ⟨b,0,none⟩),x.val] w fun e w'=>e=.returned (.tuple #[])/\ZUp Z w b (xs++To x.e) w':=by
 obtain⟨x,fa,fc,pa,pc⟩:=x;obtain⟨⟨nml,bys,al,an,gn⟩,mt,pk,cr⟩:=x;obtain⟨⟨ay,st1⟩,⟨a4,a3⟩,aj,ah,am,av,au⟩:=ax;simp only at ay st1 a4 a3 aj ah am av au
 obtain⟨st,rfl⟩:∃st:Nat,al=(st:Int):=⟨al.toNat,by omega⟩
 obtain⟨nd,rfl⟩:∃nd:Nat,an=(nd:Int):=⟨an.toNat,by omega⟩
 have bd:=Bh (n:=st) (by omega);have a6:=Bh (n:=nd) (by omega);have aq:=(show To ⟨⟨nml,bys,(st:Int),(nd:Int),gn⟩,mt,pk,cr⟩=Ag 20 2++Ag 0 2++Ag mt 2++Ag 0 4++Ag cr 4++Ag pk.length 4++Ag bys.length 4++Ag nml.length 2++Ag 11 2 from rfl)
 unfold Ev.val;dsimp only;obtain⟨nm,af⟩:=exq (B nml);obtain⟨ag,ac⟩:=exq (nml.length);obtain⟨bl,aa⟩:=exq (bys.length);obtain⟨pl,ae⟩:=exq (pk.length);have ai:nm.size=ag:=by rw[<-af,Im,ac]
 rw[ac]at aj;rw[aa]at ah;rw[ae]at am;rw[af,aa,ae];have ba:=Ab af;have ap:=Ab ac;have ao:=Ab aa;have ar:=Ab ae;have a8:=Bh (n:=bl) (by omega);have a7:=Bh (n:=pl) (by omega);have bc:IntKind.u32.wrap (nm.size:Int)=(ag:Int):=by rw[ai];exact Bh (by omega)
 clear af ac aa ae ai;obtain⟨ov,ab⟩:=h;have E:Hid (Bx (w.alloc (.cells #[.string nm,.slice fa bl fc,.int .i64 (st:Int),.int .i64 (nd:Int),.bool gn,.int .u32 (mt:Int),.slice pa pl pc,.int .u32 (cr:Int)] 71)) w.heap.size nm fa bl fc st nd gn mt pa pl pc cr):=Ab (heap_alloc_new w _)
 have F:Hid (ZUp Z w b xs (w.alloc (.cells #[.string nm,.slice fa bl fc,.int .i64 (st:Int),.int .i64 (nd:Int),.bool gn,.int .u32 (mt:Int),.slice pa pl pc,.int .u32 (cr:Int)] 71))):=
  Ab ⟨⟨ov,ab.later ((Below.refl _ _).alloc (VB _) _)⟩,(Below.refl Z w).alloc (by have:=ab.lt;have:=ab.base;omega) _,KpT.below ((Below.refl _ _).alloc (VB _) _)⟩
 obtain⟨X,ak⟩:=exq (w.heap.size);rw[ak]at E;have bb:=Ab ak;obtain⟨c0,c1,c2,T,U,O,Y,M⟩:=Ax (Aa E);clear ab;go_enter Tryz.func78,Tryz.ntmps78
 go_wp2_with fail
 refine(Bb Z b 2 20 _ _ (Aa F).is (by decide) (by omega) (by omega)).mono ?_;rintro e a0 ⟨rfl,G⟩;have H:=Ab ((Aa F).trans G);have I:Hid (Bx a0 X nm fa bl fc st nd gn mt pa pl pc cr):=Ab (G.kp _ _ _ _ (by decide) (by decide) (Aa E));clear G F E c0 c1 c2 T U O Y M;have F:=H;clear H;have E:=I;clear I;obtain⟨c0,c1,c2,T,U,O,Y,M⟩:=Ax (Aa E);go_wp2_with fail
 refine(Hc Z b 2 _ _ (Aa F).is (by decide) (by simp only[VE,Ai];omega)).mono ?_;rintro e as ⟨rfl,G⟩;have H:=Ab ((Aa F).trans G);have I:Hid (Bx as X nm fa bl fc st nd gn mt pa pl pc cr):=Ab (G.kp _ _ _ _ (by decide) (by decide) (Aa E));clear G F E c0 c1 c2 T U O Y M;have F:=H;clear H;have E:=I;clear I;obtain⟨c0,c1,c2,T,U,O,Y,M⟩:=Ax (Aa E);go_wp2_with fail
 refine(Bb Z b 2 mt _ _ (Aa F).is (by decide) (by omega) (by simp only[VE,Ai];omega)).mono ?_;rintro e w3 ⟨rfl,G⟩;have H:=Ab ((Aa F).trans G);have I:Hid (Bx w3 X nm fa bl fc st nd gn mt pa pl pc cr):=Ab (G.kp _ _ _ _ (by decide) (by decide) (Aa E));clear G F E c0 c1 c2 T U O Y M;have F:=H;clear H;have E:=I;clear I;obtain⟨c0,c1,c2,T,U,O,Y,M⟩:=Ax (Aa E);go_wp2_with fail
 refine(Hc Z b 4 _ _ (Aa F).is (by decide) (by simp only[VE,Ai];omega)).mono ?_;rintro e az ⟨rfl,G⟩;have H:=Ab ((Aa F).trans G);have I:Hid (Bx az X nm fa bl fc st nd gn mt pa pl pc cr):=Ab (G.kp _ _ _ _ (by decide) (by decide) (Aa E));clear G F E c0 c1 c2 T U O Y M;have F:=H;clear H;have E:=I;clear I;obtain⟨c0,c1,c2,T,U,O,Y,M⟩:=Ax (Aa E);go_wp2_with fail
 refine(Bb Z b 4 cr _ _ (Aa F).is (by decide) (by omega) (by simp only[VE,Ai];omega)).mono ?_;rintro e a2 ⟨rfl,G⟩;have H:=Ab ((Aa F).trans G);have I:Hid (Bx a2 X nm fa bl fc st nd gn mt pa pl pc cr):=Ab (G.kp _ _ _ _ (by decide) (by decide) (Aa E));clear G F E c0 c1 c2 T U O Y M;have F:=H;clear H;have E:=I;clear I;obtain⟨c0,c1,c2,T,U,O,Y,M⟩:=Ax (Aa E);go_wp2_with fail
 refine(Bb Z b 4 pl _ _ (Aa F).is (by decide) (by omega) (by simp only[VE,Ai];omega)).mono ?_;rintro e w6 ⟨rfl,G⟩;have H:=Ab ((Aa F).trans G);have I:Hid (Bx w6 X nm fa bl fc st nd gn mt pa pl pc cr):=Ab (G.kp _ _ _ _ (by decide) (by decide) (Aa E));clear G F E c0 c1 c2 T U O Y M;have F:=H;clear H;have E:=I;clear I;obtain⟨c0,c1,c2,T,U,O,Y,M⟩:=Ax (Aa E);go_wp2_with fail
 refine(Bb Z b 4 bl _ _ (Aa F).is (by decide) (by omega) (by simp only[VE,Ai];omega)).mono ?_;rintro e a1 ⟨rfl,G⟩;have H:=Ab ((Aa F).trans G);have I:Hid (Bx a1 X nm fa bl fc st nd gn mt pa pl pc cr):=Ab (G.kp _ _ _ _ (by decide) (by decide) (Aa E));clear G F E c0 c1 c2 T U O Y M;have F:=H;clear H;have E:=I;clear I;obtain⟨c0,c1,c2,T,U,O,Y,M⟩:=Ax (Aa E);go_wp2_with fail
 refine(Bb Z b 2 ag _ _ (Aa F).is (by decide) (by omega) (by simp only[VE,Ai];omega)).mono ?_;rintro e aw ⟨rfl,G⟩;have H:=Ab ((Aa F).trans G);have I:Hid (Bx aw X nm fa bl fc st nd gn mt pa pl pc cr):=Ab (G.kp _ _ _ _ (by decide) (by decide) (Aa E));clear G F E c0 c1 c2 T U O Y M;have F:=H;clear H;have E:=I;clear I;obtain⟨c0,c1,c2,T,U,O,Y,M⟩:=Ax (Aa E);go_wp2_with fail
 refine(Bb Z b 2 11 _ _ (Aa F).is (by decide) (by omega) (by simp only[VE,Ai];omega)).mono ?_;rintro e a5 ⟨rfl,G⟩;have H:=Ab ((Aa F).trans G);have I:Hid (Bx a5 X nm fa bl fc st nd gn mt pa pl pc cr):=Ab (G.kp _ _ _ _ (by decide) (by decide) (Aa E));clear G F E c0 c1 c2 T U O Y M;have F:=H;clear H;have E:=I;clear I;obtain⟨c0,c1,c2,T,U,O,Y,M⟩:=Ax (Aa E);go_wp2;go_end0
 refine⟨rfl, ?_⟩;rw[aq];simp only[<-VS];rw[Aa ap,Aa ao,Aa ar];exact Aa F
theorem AM (Z b:Nat)(x:Ev)(xs:List Nat)(w:World)(h:∃ov,ZC Z w b xs ov)(av:ENum x.e)(a7:xs.length<=800000):
 Calls Tryz.prog 79 #[.pointer (some ⟨b,0,none⟩),x.val] w fun e w'=>e=.returned (.tuple #[])/\ZUp Z w b (xs++Jj x.e) w':=by
 obtain⟨x,fa,fc,pa,pc⟩:=x;obtain⟨⟨nml,bys,ao,ar,gn⟩,mt,pk,cr⟩:=x;obtain⟨⟨aw,st1⟩,⟨a0,az⟩,an,ak,aq,au,as⟩:=av;simp only at aw st1 a0 az an ak aq au as
 obtain⟨st,rfl⟩:∃st:Nat,ao=(st:Int):=⟨ao.toNat,by omega⟩
 obtain⟨nd,rfl⟩:∃nd:Nat,ar=(nd:Int):=⟨ar.toNat,by omega⟩
 have ba:=Bh (n:=st) (by omega);have a4:=Bh (n:=nd) (by omega);have al:=(show Jj ⟨⟨nml,bys,(st:Int),(nd:Int),gn⟩,mt,pk,cr⟩=Ag 29297 2++Ag 7 2++Ag st 4++Ag nd 2++Ag (Ed gn) 1 from rfl)
 unfold Ev.val;dsimp only;obtain⟨nm,ag⟩:=exq (B nml);obtain⟨ap,ae⟩:=exq (nml.length);obtain⟨bl,ac⟩:=exq (bys.length);obtain⟨pl,af⟩:=exq (pk.length);have am:nm.size=ap:=by rw[<-ag,Im,ae]
 rw[ae]at an;rw[ac]at ak;rw[af]at aq;rw[ag,ac,af];have a8:=Ab ag;have a2:=Ab ae;have a1:=Ab ac;have a3:=Ab af;have a6:=Bh (n:=bl) (by omega);have a5:=Bh (n:=pl) (by omega);have a9:IntKind.u32.wrap (nm.size:Int)=(ap:Int):=by rw[am];exact Bh (by omega)
 clear ag ae ac af am
 cases gn
 . obtain⟨ov,aa⟩:=h;have G:Hid (Bx (w.alloc (.cells #[.string nm,.slice fa bl fc,.int .i64 (st:Int),.int .i64 (nd:Int),.bool false,.int .u32 (mt:Int),.slice pa pl pc,.int .u32 (cr:Int)] 71)) w.heap.size nm fa bl fc st nd false mt pa pl pc cr):=Ab (heap_alloc_new w _)
   have E:Hid (ZUp Z w b xs (w.alloc (.cells #[.string nm,.slice fa bl fc,.int .i64 (st:Int),.int .i64 (nd:Int),.bool false,.int .u32 (mt:Int),.slice pa pl pc,.int .u32 (cr:Int)] 71))):=
    Ab ⟨⟨ov,aa.later ((Below.refl _ _).alloc (VB _) _)⟩,(Below.refl Z w).alloc (by have:=aa.lt;have:=aa.base;omega) _,KpT.below ((Below.refl _ _).alloc (VB _) _)⟩
   obtain⟨X,ab⟩:=exq (w.heap.size);rw[ab]at G;have ax:=Ab ab;obtain⟨c0,c1,c2,T,U,O,Y,M⟩:=Ax (Aa G);clear aa;go_enter Tryz.func79,Tryz.ntmps79
   go_wp2_with fail
   refine(Bb Z b 2 29297 _ _ (Aa E).is (by decide) (by omega) (by omega)).mono ?_;rintro e aj ⟨rfl,F⟩;have H:=Ab ((Aa E).trans F);have I:Hid (Bx aj X nm fa bl fc st nd false mt pa pl pc cr):=Ab (F.kp _ _ _ _ (by decide) (by decide) (Aa G));clear F E G c0 c1 c2 T U O Y M;have E:=H;clear H;have G:=I;clear I;obtain⟨c0,c1,c2,T,U,O,Y,M⟩:=Ax (Aa G);go_wp2_with fail
   refine(Bb Z b 2 7 _ _ (Aa E).is (by decide) (by omega) (by simp only[VE,Ai];omega)).mono ?_;rintro e ah ⟨rfl,F⟩;have H:=Ab ((Aa E).trans F);have I:Hid (Bx ah X nm fa bl fc st nd false mt pa pl pc cr):=Ab (F.kp _ _ _ _ (by decide) (by decide) (Aa G));clear F E G c0 c1 c2 T U O Y M;have E:=H;clear H;have G:=I;clear I;obtain⟨c0,c1,c2,T,U,O,Y,M⟩:=Ax (Aa G);go_wp2_with fail
   refine(Bb Z b 4 st _ _ (Aa E).is (by decide) (by omega) (by simp only[VE,Ai];omega)).mono ?_;rintro e w3 ⟨rfl,F⟩;have H:=Ab ((Aa E).trans F);have I:Hid (Bx w3 X nm fa bl fc st nd false mt pa pl pc cr):=Ab (F.kp _ _ _ _ (by decide) (by decide) (Aa G));clear F E G c0 c1 c2 T U O Y M;have E:=H;clear H;have G:=I;clear I;obtain⟨c0,c1,c2,T,U,O,Y,M⟩:=Ax (Aa G);go_wp2_with fail
   refine(Bb Z b 2 nd _ _ (Aa E).is (by decide) (by omega) (by simp only[VE,Ai];omega)).mono ?_;rintro e ai ⟨rfl,F⟩;have H:=Ab ((Aa E).trans F);have I:Hid (Bx ai X nm fa bl fc st nd false mt pa pl pc cr):=Ab (F.kp _ _ _ _ (by decide) (by decide) (Aa G));clear F E G c0 c1 c2 T U O Y M;have E:=H;clear H;have G:=I;clear I;obtain⟨c0,c1,c2,T,U,O,Y,M⟩:=Ax (Aa G);go_wp2_with fail
   refine(Bb Z b 1 0 _ _ (Aa E).is (by decide) (by omega) (by simp only[VE,Ai];omega)).mono ?_;rintro e ay ⟨rfl,F⟩;have H:=Ab ((Aa E).trans F);clear F E;have E:=H;clear H;go_wp2;go_end0
   refine⟨rfl, ?_⟩;rw[al];simp only[<-VS];exact Aa E
 . obtain⟨ov,aa⟩:=h;have G:Hid (Bx (w.alloc (.cells #[.string nm,.slice fa bl fc,.int .i64 (st:Int),.int .i64 (nd:Int),.bool true,.int .u32 (mt:Int),.slice pa pl pc,.int .u32 (cr:Int)] 71)) w.heap.size nm fa bl fc st nd true mt pa pl pc cr):=Ab (heap_alloc_new w _)
   have E:Hid (ZUp Z w b xs (w.alloc (.cells #[.string nm,.slice fa bl fc,.int .i64 (st:Int),.int .i64 (nd:Int),.bool true,.int .u32 (mt:Int),.slice pa pl pc,.int .u32 (cr:Int)] 71))):=
    Ab ⟨⟨ov,aa.later ((Below.refl _ _).alloc (VB _) _)⟩,(Below.refl Z w).alloc (by have:=aa.lt;have:=aa.base;omega) _,KpT.below ((Below.refl _ _).alloc (VB _) _)⟩
   obtain⟨X,ab⟩:=exq (w.heap.size);rw[ab]at G;have ax:=Ab ab;obtain⟨c0,c1,c2,T,U,O,Y,M⟩:=Ax (Aa G);clear aa;go_enter Tryz.func79,Tryz.ntmps79
   go_wp2_with fail
   refine(Bb Z b 2 29297 _ _ (Aa E).is (by decide) (by omega) (by omega)).mono ?_;rintro e aj ⟨rfl,F⟩;have H:=Ab ((Aa E).trans F);have I:Hid (Bx aj X nm fa bl fc st nd true mt pa pl pc cr):=Ab (F.kp _ _ _ _ (by decide) (by decide) (Aa G));clear F E G c0 c1 c2 T U O Y M;have E:=H;clear H;have G:=I;clear I;obtain⟨c0,c1,c2,T,U,O,Y,M⟩:=Ax (Aa G);go_wp2_with fail
   refine(Bb Z b 2 7 _ _ (Aa E).is (by decide) (by omega) (by simp only[VE,Ai];omega)).mono ?_;rintro e ah ⟨rfl,F⟩;have H:=Ab ((Aa E).trans F);have I:Hid (Bx ah X nm fa bl fc st nd true mt pa pl pc cr):=Ab (F.kp _ _ _ _ (by decide) (by decide) (Aa G));clear F E G c0 c1 c2 T U O Y M;have E:=H;clear H;have G:=I;clear I;obtain⟨c0,c1,c2,T,U,O,Y,M⟩:=Ax (Aa G);go_wp2_with fail
   refine(Bb Z b 4 st _ _ (Aa E).is (by decide) (by omega) (by simp only[VE,Ai];omega)).mono ?_;rintro e w3 ⟨rfl,F⟩;have H:=Ab ((Aa E).trans F);have I:Hid (Bx w3 X nm fa bl fc st nd true mt pa pl pc cr):=Ab (F.kp _ _ _ _ (by decide) (by decide) (Aa G));clear F E G c0 c1 c2 T U O Y M;have E:=H;clear H;have G:=I;clear I;obtain⟨c0,c1,c2,T,U,O,Y,M⟩:=Ax (Aa G);go_wp2_with fail
   refine(Bb Z b 2 nd _ _ (Aa E).is (by decide) (by omega) (by simp only[VE,Ai];omega)).mono ?_;rintro e ai ⟨rfl,F⟩;have H:=Ab ((Aa E).trans F);have I:Hid (Bx ai X nm fa bl fc st nd true mt pa pl pc cr):=Ab (F.kp _ _ _ _ (by decide) (by decide) (Aa G));clear F E G c0 c1 c2 T U O Y M;have E:=H;clear H;have G:=I;clear I;obtain⟨c0,c1,c2,T,U,O,Y,M⟩:=Ax (Aa G);go_wp2_with fail
   refine(Bb Z b 1 1 _ _ (Aa E).is (by decide) (by omega) (by simp only[VE,Ai];omega)).mono ?_;rintro e ay ⟨rfl,F⟩;have H:=Ab ((Aa E).trans F);clear F E;have E:=H;clear H;go_wp2;go_end0
   refine⟨rfl, ?_⟩;rw[al];simp only[<-VS];exact Aa E
theorem SL (H b m s t:Nat)(xs:List Nat)(w:World)(O:∃ov,ZC H w b xs ov)(Z:m<=60000)(Y:s<=1000000)(U:t<=1000000)(aa:xs.length<=800000):
 Calls Tryz.prog 57 #[.pointer (some ⟨b,0,none⟩),.int .i64 (m:Int),.int .i64 (s:Int),.int .i64 (t:Int)] w fun e w'=>e=.returned (.tuple #[])/\ZUp H w b (xs++Pm m s t) w':=by
 have M:=(show Pm m s t=Ag 101010256 4++Ag 0 4++Ag m 2++Ag m 2++Ag s 4++Ag t 4++Ag 0 2 from rfl)
 have ab:=Bh (n:=m) (by omega);have ae:=Bh (n:=s) (by omega);have ai:=Bh (n:=t) (by omega);obtain⟨ov,I⟩:=O;have E:=Ab (ZUp.refl I);clear I;go_enter Tryz.func57,Tryz.ntmps57
 go_wp2_with fail
 refine(Bb H b 4 101010256 _ _ (Aa E).is (by decide) (by omega) (by omega)).mono ?_;rintro e af ⟨rfl,F⟩;have G:=Ab ((Aa E).trans F);clear F E;have E:=G;clear G;go_wp2_with fail
 refine(Hc H b 4 _ _ (Aa E).is (by decide) (by simp only[VE,Ai];omega)).mono ?_;rintro e T ⟨rfl,F⟩;have G:=Ab ((Aa E).trans F);clear F E;have E:=G;clear G;go_wp2_with fail
 refine(Bb H b 2 m _ _ (Aa E).is (by decide) (by omega) (by simp only[VE,Ai];omega)).mono ?_;rintro e w3 ⟨rfl,F⟩;have G:=Ab ((Aa E).trans F);clear F E;have E:=G;clear G;go_wp2_with fail
 refine(Bb H b 2 m _ _ (Aa E).is (by decide) (by omega) (by simp only[VE,Ai];omega)).mono ?_;rintro e ac ⟨rfl,F⟩;have G:=Ab ((Aa E).trans F);clear F E;have E:=G;clear G;go_wp2_with fail
 refine(Bb H b 4 s _ _ (Aa E).is (by decide) (by omega) (by simp only[VE,Ai];omega)).mono ?_;rintro e ah ⟨rfl,F⟩;have G:=Ab ((Aa E).trans F);clear F E;have E:=G;clear G;go_wp2_with fail
 refine(Bb H b 4 t _ _ (Aa E).is (by decide) (by omega) (by simp only[VE,Ai];omega)).mono ?_;rintro e w6 ⟨rfl,F⟩;have G:=Ab ((Aa E).trans F);clear F E;have E:=G;clear G;go_wp2_with fail
 refine(Hc H b 2 _ _ (Aa E).is (by decide) (by simp only[VE,Ai];omega)).mono ?_;rintro e ag ⟨rfl,F⟩;have G:=Ab ((Aa E).trans F);clear F E;have E:=G;clear G;go_wp2;go_end0
 refine⟨rfl, ?_⟩;rw[M];simp only[<-VS];exact Aa E
theorem Z0d {w w' W:World}{F c:Nat}{a:Option Addr}{ys:List Nat}(H:PkIn w a c ys)(I:Below F w w')(O:∀g o,a=some ⟨g,o,none⟩->ys≠ []->g<F)(G:w'.grownBy W none):PkIn W a c ys:=by
 refine⟨?_,H.2⟩
 by_cases E:ys= []
 . exact .inl E
 . rcases H.1 with Y|⟨b,o,e,hl,hc⟩
   . exact absurd Y E
   . have M:=O b o e E;have Z:=I.size;refine .inr ⟨b,o,e,VG hl (VU Z G.size),fun j T=> ?_⟩;have U:w'.heap[b]? =w.heap[b]? :=I.block b M;have e2:W.heap[b]? =w'.heap[b]? :=G.block b (by omega) (by simp);exact(World.cell?_of_block (w:=w) (a:=⟨b,_,none⟩) (e2.trans U)).trans (hc j T)
theorem SI (M b:Nat)(x:Ev)(xs:List Nat)(w:World)(h:∃ov,ZC M w b xs ov)(a1:ENum x.e)(a7:PkIn w x.pa x.pc x.e.pk)(a4:∀g o,x.pa=some ⟨g,o,none⟩->x.e.pk≠ []->g<M)(bz:xs.length<=700000):
 Calls Tryz.prog 55 #[.pointer (some ⟨b,0,none⟩),x.val] w fun e w'=>e=.returned (.tuple #[])/\ZUp M w b (xs++Vr x.e) w':=by
 obtain⟨x,fa,fc,pa,pc⟩:=x;obtain⟨⟨nml,bys,a2,a3,gn⟩,mt,pk,cr⟩:=x;have ax:=a1;obtain⟨⟨bg,st1⟩,⟨bo,bn⟩,ay,a5,bb,be,bi⟩:=a1;simp only at bg st1 bo bn ay a5 bb be bi
 obtain⟨st,rfl⟩:∃st:Nat,a2=(st:Int):=⟨a2.toNat,by omega⟩
 obtain⟨nd,rfl⟩:∃nd:Nat,a3=(nd:Int):=⟨a3.toNat,by omega⟩
 have bw:((st:Int)).toNat=st:=by omega
 have b3:=Bh (n:=st) (by omega);have bu:=Bh (n:=nd) (by omega);have av:=(show Vr ⟨⟨nml,bys,(st:Int),(nd:Int),gn⟩,mt,pk,cr⟩=Ag 67324752 4++To ⟨⟨nml,bys,(st:Int),(nd:Int),gn⟩,mt,pk,cr⟩++n8 nml++Jj ⟨⟨nml,bys,(st:Int),(nd:Int),gn⟩,mt,pk,cr⟩++pk from rfl)
 have ae:=Ab (fun ys W aq ar=>AK M b ⟨⟨⟨nml,bys,(st:Int),(nd:Int),gn⟩,mt,pk,cr⟩,fa,fc,pa,pc⟩ ys W aq ax ar);have ac:=Ab (fun ys W aq ar=>AM M b ⟨⟨⟨nml,bys,(st:Int),(nd:Int),gn⟩,mt,pk,cr⟩,fa,fc,pa,pc⟩ ys W aq ax ar);obtain⟨bk,ah⟩:=exq (To ⟨⟨nml,bys,(st:Int),(nd:Int),gn⟩,mt,pk,cr⟩);obtain⟨bd,aj⟩:=exq (Jj ⟨⟨nml,bys,(st:Int),(nd:Int),gn⟩,mt,pk,cr⟩);have au:bk.length=26:=by rw[<-ah];exact Ly _
 have bq:bd.length=11:=by rw[<-aj];exact Ie _
 unfold Ev.val at ae ac;dsimp only at ae ac;rw[ah,aj]at av;rw[ah]at ae;rw[aj]at ac;clear ah aj;unfold Ev.val;dsimp only;have bj:=Ab a7;have bt:=Ab a4;clear a7 a4;obtain⟨nm,am⟩:=exq (B nml);obtain⟨ba,ak⟩:=exq (nml.length);obtain⟨bl,ai⟩:=exq (bys.length);obtain⟨pl,al⟩:=exq (pk.length);have a6:nm.size=ba:=by rw[<-am,Im,ak]
 rw[ak]at ay;rw[ai]at a5;rw[al]at bb;rw[am,ai,al]at ae ac ⊢;have bf:=Ab am;have an:=Ab ak;have b4:=Ab ai;have bc:=Ab al;have b5:=Bh (n:=bl) (by omega);have bv:=Bh (n:=pl) (by omega);have b7:IntKind.u32.wrap (nm.size:Int)=(ba:Int):=by rw[a6];exact Bh (by omega)
 clear am ak ai al a6;obtain⟨ov,ag⟩:=h;have F:Hid (Bx (w.alloc (.cells #[.string nm,.slice fa bl fc,.int .i64 (st:Int),.int .i64 (nd:Int),.bool gn,.int .u32 (mt:Int),.slice pa pl pc,.int .u32 (cr:Int)] 71)) w.heap.size nm fa bl fc st nd gn mt pa pl pc cr):=Ab (heap_alloc_new w _)
 have E:Hid (ZUp M w b xs (w.alloc (.cells #[.string nm,.slice fa bl fc,.int .i64 (st:Int),.int .i64 (nd:Int),.bool gn,.int .u32 (mt:Int),.slice pa pl pc,.int .u32 (cr:Int)] 71))):=
  Ab ⟨⟨ov,ag.later ((Below.refl _ _).alloc (VB _) _)⟩,(Below.refl M w).alloc (by have:=ag.lt;have:=ag.base;omega) _,KpT.below ((Below.refl _ _).alloc (VB _) _)⟩
 obtain⟨X,az⟩:=exq (w.heap.size);rw[az]at F;have b0:=Ab az;obtain⟨c0,c1,c2,T,U,Y,Z,O⟩:=Ax (Aa F);clear ag;go_enter Tryz.func55,Tryz.ntmps55
 go_wp2_with fail
 refine(Bb M b 4 67324752 _ _ (Aa E).is (by decide) (by omega) (by omega)).mono ?_;rintro e bm ⟨rfl,H⟩;have G:=Ab ((Aa E).trans H);have I:Hid (Bx bm X nm fa bl fc st nd gn mt pa pl pc cr):=Ab (H.kp _ _ _ _ (by decide) (by decide) (Aa F));clear H E F c0 c1 c2 T U Y Z O;have E:=G;clear G;have F:=I;clear I;obtain⟨c0,c1,c2,T,U,Y,Z,O⟩:=Ax (Aa F);go_wp2_with fail
 refine(Aa ae _ _ (Aa E).is (by simp only[VE,Ai];omega)).mono ?_;rintro e a8 ⟨rfl,H⟩;have G:=Ab ((Aa E).trans H);have I:Hid (Bx a8 X nm fa bl fc st nd gn mt pa pl pc cr):=Ab (H.kp _ _ _ _ (by decide) (by decide) (Aa F));clear H E F c0 c1 c2 T U Y Z O;have E:=G;clear G;have F:=I;clear I;obtain⟨c0,c1,c2,T,U,Y,Z,O⟩:=Ax (Aa F);obtain⟨bh,aa⟩:=(Aa E).is;obtain⟨d0,as⟩:=aa.new;have af:=Ab aa;clear aa;go_wp2;go_region_law (refine LL rfl (.tmp 13) (.tmp 16) rfl a8 M b _ nml _ rfl (Aa af) (by repeat (first|with_reducible exact Aw _ _|with_reducible refine Cb ?_|with_reducible refine ga ?_ _)) (congrArg Value.string (Aa bf).symm) (by simp only[VE,Ai,au,Aa an];omega) ?_;intro aw a9 a0 w' ap ao ab)
 all_goals
  have G:=Ab ((Aa E).trans (Aa ab));have I:Hid (Bx (w'.setCell ⟨b,0,none⟩ (.slice aw a9 a0)) X nm fa bl fc st nd gn mt pa pl pc cr):=Ab ((Aa ab).kp _ _ _ _ (by decide) (by decide) (Aa F));clear ap ao ab E F c0 c1 c2 T U Y Z O d0 as af;have E:=G;have F:=I;clear G I;obtain⟨c0,c1,c2,T,U,Y,Z,O⟩:=Ax (Aa F);go_wp2_with fail
  refine(Aa ac _ _ (Aa E).is (by simp only[VE,Ai,au,Da,Aa an];omega)).mono ?_;rintro e w3 ⟨rfl,H⟩;have G:=Ab ((Aa E).trans H);have I:Hid (Bx w3 X nm fa bl fc st nd gn mt pa pl pc cr):=Ab (H.kp _ _ _ _ (by decide) (by decide) (Aa F));clear H E F c0 c1 c2 T U Y Z O;have E:=G;clear G;have F:=I;clear I;obtain⟨c0,c1,c2,T,U,Y,Z,O⟩:=Ax (Aa F);obtain⟨bh,aa⟩:=(Aa E).is;obtain⟨d0,as⟩:=aa.new;have af:=Ab aa;clear aa;go_wp2;go_region_law (refine LM rfl (.tmp 27) (.tmp 29) rfl w3 M b _ pk _ rfl (Aa af) (by repeat (first|with_reducible exact Aw _ _|with_reducible refine Cb ?_|with_reducible refine ga ?_ _)) pa pl pc rfl (Aa bc) (Z0d (Aa bj) (Aa E).below (Aa bt) (by repeat (first|with_reducible exact Aw _ _|with_reducible refine Cb ?_|with_reducible refine ga ?_ _))) (by simp only[VE,Ai,au,bq,Da,Aa an];omega) ?_;intro aw a9 a0 w' ap ao ab)
  all_goals
   have G:=Ab ((Aa E).trans (Aa ab));clear ap ao ab E F c0 c1 c2 T U Y Z O d0 as af;have E:=G;clear G;go_wp2;go_end0
   refine⟨rfl, ?_⟩;rw[av];simp only[<-VS];exact Aa E
theorem SH (Z b p:Nat)(x:Ev)(xs:List Nat)(w:World)(h:∃ov,ZC Z w b xs ov)(av:ENum x.e)(bt:p<=1000000)(bu:xs.length<=700000):
 Calls Tryz.prog 56 #[.pointer (some ⟨b,0,none⟩),x.val,.int .i64 (p:Int)] w fun e w'=>e=.returned (.tuple #[])/\ZUp Z w b (xs++Qo x.e p) w':=by
 obtain⟨x,fa,fc,pa,pc⟩:=x;obtain⟨⟨nml,bys,aw,ax,gn⟩,mt,pk,cr⟩:=x;have ar:=av;obtain⟨⟨bc,st1⟩,⟨bk,bj⟩,as,ay,a3,a8,be⟩:=av;simp only at bc st1 bk bj as ay a3 a8 be
 obtain⟨st,rfl⟩:∃st:Nat,aw=(st:Int):=⟨aw.toNat,by omega⟩
 obtain⟨nd,rfl⟩:∃nd:Nat,ax=(nd:Int):=⟨ax.toNat,by omega⟩
 have bq:((st:Int)).toNat=st:=by omega
 have bw:=Bh (n:=st) (by omega);have bn:=Bh (n:=nd) (by omega);have aq:=(show Qo ⟨⟨nml,bys,(st:Int),(nd:Int),gn⟩,mt,pk,cr⟩ p=Ag 33639248 4++Ag 20 2++To ⟨⟨nml,bys,(st:Int),(nd:Int),gn⟩,mt,pk,cr⟩++Ag 0 10++Ag p 4++n8 nml++Jj ⟨⟨nml,bys,(st:Int),(nd:Int),gn⟩,mt,pk,cr⟩ from rfl)
 have ab:=Ab (fun ys W al am=>AK Z b ⟨⟨⟨nml,bys,(st:Int),(nd:Int),gn⟩,mt,pk,cr⟩,fa,fc,pa,pc⟩ ys W al ar am);have aa:=Ab (fun ys W al am=>AM Z b ⟨⟨⟨nml,bys,(st:Int),(nd:Int),gn⟩,mt,pk,cr⟩,fa,fc,pa,pc⟩ ys W al ar am);obtain⟨bg,ae⟩:=exq (To ⟨⟨nml,bys,(st:Int),(nd:Int),gn⟩,mt,pk,cr⟩);obtain⟨a6,ag⟩:=exq (Jj ⟨⟨nml,bys,(st:Int),(nd:Int),gn⟩,mt,pk,cr⟩);have ak:bg.length=26:=by rw[<-ae];exact Ly _
 have b7:a6.length=11:=by rw[<-ag];exact Ie _
 unfold Ev.val at ab aa;dsimp only at ab aa;rw[ae,ag]at aq;rw[ae]at ab;rw[ag]at aa;clear ae ag;unfold Ev.val;dsimp only;have b3:=Bh (n:=p) (by omega);obtain⟨nm,aj⟩:=exq (B nml);obtain⟨a1,ah⟩:=exq (nml.length);obtain⟨bl,af⟩:=exq (bys.length);obtain⟨pl,ai⟩:=exq (pk.length);have az:nm.size=a1:=by rw[<-aj,Im,ah]
 rw[ah]at as;rw[af]at ay;rw[ai]at a3;rw[aj,af,ai]at ab aa ⊢;have bb:=Ab aj;have ap:=Ab ah;have b0:=Ab af;have bm:=Ab ai;have b4:=Bh (n:=bl) (by omega);have bo:=Bh (n:=pl) (by omega);have b5:IntKind.u32.wrap (nm.size:Int)=(a1:Int):=by rw[az];exact Bh (by omega)
 clear aj ah af ai az;obtain⟨ov,ac⟩:=h;have F:Hid (Bx (w.alloc (.cells #[.string nm,.slice fa bl fc,.int .i64 (st:Int),.int .i64 (nd:Int),.bool gn,.int .u32 (mt:Int),.slice pa pl pc,.int .u32 (cr:Int)] 71)) w.heap.size nm fa bl fc st nd gn mt pa pl pc cr):=Ab (heap_alloc_new w _)
 have E:Hid (ZUp Z w b xs (w.alloc (.cells #[.string nm,.slice fa bl fc,.int .i64 (st:Int),.int .i64 (nd:Int),.bool gn,.int .u32 (mt:Int),.slice pa pl pc,.int .u32 (cr:Int)] 71))):=
  Ab ⟨⟨ov,ac.later ((Below.refl _ _).alloc (VB _) _)⟩,(Below.refl Z w).alloc (by have:=ac.lt;have:=ac.base;omega) _,KpT.below ((Below.refl _ _).alloc (VB _) _)⟩
 obtain⟨X,au⟩:=exq (w.heap.size);rw[au]at F;have bv:=Ab au;obtain⟨c0,c1,c2,O,T,U,Y,M⟩:=Ax (Aa F);clear ac;go_enter Tryz.func56,Tryz.ntmps56
 go_wp2_with fail
 refine(Bb Z b 4 33639248 _ _ (Aa E).is (by decide) (by omega) (by omega)).mono ?_;rintro e bi ⟨rfl,G⟩;have H:=Ab ((Aa E).trans G);have I:Hid (Bx bi X nm fa bl fc st nd gn mt pa pl pc cr):=Ab (G.kp _ _ _ _ (by decide) (by decide) (Aa F));clear G E F c0 c1 c2 O T U Y M;have E:=H;clear H;have F:=I;clear I;obtain⟨c0,c1,c2,O,T,U,Y,M⟩:=Ax (Aa F);go_wp2_with fail
 refine(Bb Z b 2 20 _ _ (Aa E).is (by decide) (by omega) (by simp only[VE,Ai];omega)).mono ?_;rintro e bd ⟨rfl,G⟩;have H:=Ab ((Aa E).trans G);have I:Hid (Bx bd X nm fa bl fc st nd gn mt pa pl pc cr):=Ab (G.kp _ _ _ _ (by decide) (by decide) (Aa F));clear G E F c0 c1 c2 O T U Y M;have E:=H;clear H;have F:=I;clear I;obtain⟨c0,c1,c2,O,T,U,Y,M⟩:=Ax (Aa F);go_wp2_with fail
 refine(Aa ab _ _ (Aa E).is (by simp only[VE,Ai];omega)).mono ?_;rintro e w3 ⟨rfl,G⟩;have H:=Ab ((Aa E).trans G);have I:Hid (Bx w3 X nm fa bl fc st nd gn mt pa pl pc cr):=Ab (G.kp _ _ _ _ (by decide) (by decide) (Aa F));clear G E F c0 c1 c2 O T U Y M;have E:=H;clear H;have F:=I;clear I;obtain⟨c0,c1,c2,O,T,U,Y,M⟩:=Ax (Aa F);go_wp2_with fail
 refine(Hc Z b 10 _ _ (Aa E).is (by decide) (by simp only[VE,Ai,ak];omega)).mono ?_;rintro e bh ⟨rfl,G⟩;have H:=Ab ((Aa E).trans G);have I:Hid (Bx bh X nm fa bl fc st nd gn mt pa pl pc cr):=Ab (G.kp _ _ _ _ (by decide) (by decide) (Aa F));clear G E F c0 c1 c2 O T U Y M;have E:=H;clear H;have F:=I;clear I;obtain⟨c0,c1,c2,O,T,U,Y,M⟩:=Ax (Aa F);go_wp2_with fail
 refine(Bb Z b 4 p _ _ (Aa E).is (by decide) (by omega) (by simp only[VE,Ai,ak];omega)).mono ?_;rintro e a2 ⟨rfl,G⟩;have H:=Ab ((Aa E).trans G);have I:Hid (Bx a2 X nm fa bl fc st nd gn mt pa pl pc cr):=Ab (G.kp _ _ _ _ (by decide) (by decide) (Aa F));clear G E F c0 c1 c2 O T U Y M;have E:=H;clear H;have F:=I;clear I;obtain⟨c0,c1,c2,O,T,U,Y,M⟩:=Ax (Aa F);obtain⟨bz,an⟩:=(Aa E).is;obtain⟨d0,a9⟩:=an.new;have a0:=Ab an;clear an;go_wp2;go_region_law (refine LL rfl (.tmp 23) (.tmp 26) rfl a2 Z b _ nml _ rfl (Aa a0) (by repeat (first|with_reducible exact Aw _ _|with_reducible refine Cb ?_|with_reducible refine ga ?_ _)) (congrArg Value.string (Aa bb).symm) (by simp only[VE,Ai,ak,Aa ap];omega) ?_;intro a5 bf ba w' a7 a4 ao)
 all_goals
  have H:=Ab ((Aa E).trans (Aa ao));have I:Hid (Bx (w'.setCell ⟨b,0,none⟩ (.slice a5 bf ba)) X nm fa bl fc st nd gn mt pa pl pc cr):=Ab ((Aa ao).kp _ _ _ _ (by decide) (by decide) (Aa F));clear a7 a4 ao E F c0 c1 c2 O T U Y M d0 a9 a0;have E:=H;have F:=I;clear H I;obtain⟨c0,c1,c2,O,T,U,Y,M⟩:=Ax (Aa F);go_wp2_with fail
  refine(Aa aa _ _ (Aa E).is (by simp only[VE,Ai,ak,Da,Aa ap];omega)).mono ?_;rintro e w6 ⟨rfl,G⟩;have H:=Ab ((Aa E).trans G);clear G E;have E:=H;clear H;go_wp2;go_end0
  refine⟨rfl, ?_⟩;rw[aq];simp only[<-VS];exact Aa E
theorem Z5j {w:World}{a:Option Addr}{c:Nat}{bs:List UInt8}(H:BsIn w a c bs):PkIn w a c (n8 bs):=by
 rcases H with ⟨rfl,rfl,rfl⟩|⟨rfl,ad,rfl⟩|⟨b,o,rfl,F,I,G⟩
 . exact⟨.inl rfl,fun _=>rfl⟩
 . exact⟨.inl rfl,fun e=>by cases e⟩
 . refine⟨.inr ⟨b,o,rfl,F,fun j E=> ?_⟩,fun e=>by cases e⟩;rw[Da]at E;rw[G j E];simp[n8,List.getD,E]
theorem Z6e {w:World}{a:Option Addr}{c:Nat}{ys:List Nat}(F:PkIn w a c ys)(M:ys.length<=c)(G:∀x∈ys,x<256):BsIn w a c (o8 ys):=by
 cases a with
 |none=>
  have H:=F.2 rfl;have:ys= []:=WV (by omega)
  subst this;exact .inl ⟨rfl,rfl,H⟩
 |some ad=>
  rcases F.1 with rfl|⟨b,o,e,hb,I⟩
  . exact .inr (.inl ⟨rfl,ad,rfl⟩)
  . refine .inr (.inr ⟨b,o,e,hb,by rw[Ey];exact M,fun j E=> ?_⟩);rw[Ey]at E;rw[I j E];have O:=G ys[j] (WK E);simp[o8,List.getD,E]
    omega
structure EvIn (w:World)(x:Ev):Prop where
 fb:PkIn w x.fa x.fc (n8 x.e.f.bytes)
 fl:x.e.f.bytes.length<=x.fc
 big:x.e.f.bytes.length<=140737488355328
 txt:x.e.f.name.length<=140737488355328
 pk:PkIn w x.pa x.pc x.e.pk
theorem EvIn.below {w w':World}{x:Ev}(E:EvIn w x)(F:Below w.heap.size w w'):EvIn w' x:=⟨E.fb.below F,E.fl,E.big,E.txt,E.pk.below F⟩
theorem EvIn.fv {w:World}{x:Ev}(E:EvIn w x):FvIn w ⟨x.e.f,x.fa,x.fc⟩:=⟨by have:=Z6e E.fb (by rw[Da];exact E.fl) (Lv _);rw[FQ]at this;exact this,E.big,E.txt⟩
theorem RE {w:World}{a:Option Addr}{c:Nat}{bs:List UInt8}(F:BsIn w a c bs):bs.length<=c:=by
 rcases F with ⟨rfl,rfl,rfl⟩|⟨rfl,ad,rfl⟩|⟨b,o,rfl,G,E,H⟩
 . exact VB _
 . exact VH _
 . exact E
theorem PkIn.grown {w w':World}{c:Nat}{r:Option Nat}{a:Option Addr}{ys:List Nat}(G:PkIn w a c ys)(F:w.grownBy w' r)(I:∀g o,a=some ⟨g,o,none⟩->ys≠ []->some g≠r):PkIn w' a c ys:=by
 refine⟨?_,G.2⟩
 by_cases E:ys= []
 . exact .inl E
 . rcases G.1 with H|⟨b,o,e,hb,hc⟩
   . exact absurd H E
   . exact .inr ⟨b,o,e,VG hb F.size,hc.grown F (I b o e E)⟩
def Ev.lies (x:Ev)(Pr:Nat->Prop):Prop:=(∀g o,x.fa=some ⟨g,o,none⟩->x.e.f.bytes≠ []->Pr g)/\(∀g o,x.pa=some ⟨g,o,none⟩->x.e.pk≠ []->Pr g)
theorem NM {l:List UInt8}(E:n8 l≠ []):l≠ []:=fun e=>E (by rw[e];rfl)
theorem EvIn.grown {w w':World}{x:Ev}{r:Option Nat}(E:EvIn w x)(G:w.grownBy w' r)(H:x.lies (fun g=>some g≠r)):EvIn w' x:=
 ⟨E.fb.grown G (fun g o F e2=>H.1 g o F (NM e2)),E.fl,E.big,E.txt,E.pk.grown G (fun g o F e2=>H.2 g o F e2)⟩
theorem Ev.lies.mono {x:Ev}{F C:Nat->Prop}(H:x.lies F)(G:∀g,F g->C g):x.lies C:=⟨fun g o E e2=>G g (H.1 g o E e2),fun g o E e2=>G g (H.2 g o E e2)⟩
theorem EvIn.lt {w:World}{x:Ev}(G:EvIn w x):x.lies (fun g=>g<w.heap.size):=by
 constructor
 . intro g o E e2
   rcases G.fb.1 with F|⟨b,H,e,hb,_⟩
   . exact absurd (by rw[<-FQ x.e.f.bytes,F];rfl) e2
   . rw[E]at e;cases e;exact hb
 . intro g o E e2
   rcases G.pk.1 with F|⟨b,H,e,hb,_⟩
   . exact absurd F e2
   . rw[E]at e;cases e;exact hb
theorem Xm {w:World}{a:Option Addr}{c:Nat}{ys:List Nat}(G:PkIn w a c ys):∀g o,a=some ⟨g,o,none⟩->ys≠ []->g<w.heap.size:=by
 intro g o e F
 rcases G.1 with H|⟨b,I,E,hb,_⟩
 . exact absurd H F
 . rw[e]at E;cases E;exact hb
theorem Eu {E:Type}{l:List E}{k:Nat}{x:E}(G:l[k]? =some x):l.take (k+1)=l.take k++ [x]:=by
 obtain⟨F,e⟩:=XT.1 G;rw[XB F,e]
def ecells (xs:List Ev):List Value:=xs.flatMap Ev.cells
theorem II (xs:List Ev):(ecells xs).length=xs.length*8:=by
 induction xs with
 |nil=>rfl
 |cons x r ih=>
  have:ecells (x::r)=x.cells++ecells r:=rfl
  rw[this,VE,ih,VJ];show 8+_=_
  omega
theorem IJ (xs ys:List Ev):ecells (xs++ys)=ecells xs++ecells ys:=by simp[ecells]
theorem IH (y:Ev):ecells [y]=y.cells:=by simp[ecells]
theorem N6:∀(xs:List Ev) (j:Nat) (x:Ev) (i:Nat),xs[j]? =some x->i<8->(ecells xs)[j*8+i]? =x.cells[i]?
 | [],j,x,i,h,_=>by simp at h
 |y::r,0,x,i,h,hi=>by
  have:ecells (y::r)=y.cells++ecells r:=rfl
  simp at h
  subst h;rw[this,YJ,WG,WN (show i<8 from hi)]
 |y::r,j+1,x,i,h,hi=>by
  have e:ecells (y::r)=y.cells++ecells r:=rfl;have hl:y.cells.length=8:=rfl;have ih:=N6 r j x i (by simpa using h) hi;rw[e,VX (by rw[hl];omega),hl,show (j+1)*8+i-8=j*8+i by omega,ih]
theorem Z5 (y:Ev):∀u∈y.cells,u.oneCell'=true:=by
 intro u E;simp only[Ev.cells,WH,XE,or_false]at E
 rcases E with rfl|rfl|rfl|rfl|rfl|rfl|rfl|rfl<;>rfl
structure ERow (w:World)(B:Nat)(v:Value)(xs:List Ev):Prop where
 own:w.ownsRow B 71 8 v xs.length (ecells xs)
 all:∀x∈xs,EvIn w x
 apart:∀x∈xs,x.lies (fun g=>some g≠v.ownBlock)
theorem ERow.nil (w:World)(B:Nat):ERow w B (.slice none 0 0) []:=⟨World.ownsRow_nil _ _ _ _,(fun x E=>absurd E XE),(fun x E=>absurd E XE)⟩
theorem ERow.below {w w':World}{B:Nat}{v:Value}{xs:List Ev}(E:ERow w B v xs)(F:Below w.heap.size w w'):ERow w' B v xs:=
 ⟨Au E.own (fun g H=>F.block g (E.own.lt g H).2),fun x G=>(E.all x G).below F,E.apart⟩
theorem GM:(Tryz.prog.info? 71).map (fun i=>(i.zero,i.size,i.bytes))=some (some (.agg #[.string ⟨#[]⟩,.slice none 0 0,.int .i64 0,.int .i64 0,.bool false,.int .u32 0,.slice none 0 0,.int .u32 0]),8,104):=by kernel_rfl
theorem Fr (w:World){T:Array Oper}{O:List Oper}{o:Oper}{a:Act}{Q:Exit->Act->World->Prop}(ae:o.guard=none)(s x:Operand)
 (al:o.op=.call {callee:=.builtin .append,args:= #[s,x],argTypes:= #[69,69]}) (H:Nat) (v:Value) (xs:List Ev) (ai:a.eval s=v) (I:ERow w H v xs)
 (F:Nat) (y:Ev) (Z:a.eval x=.slice (some ⟨F,0,none⟩) 1 1) (ab:∀j u,y.cells[j]? =some u->w.cell? ⟨F,j,none⟩=some u) (an:EvIn w y) (aa:y.lies (fun F=>some F≠v.ownBlock)) (ao:xs.length+1<=100000) (af:H<=w.heap.size)
 (h:∀v' w',Hid (ERow w' H v' (xs++ [y]))->Hid (w.grownBy w' v.ownBlock)->wpList Tryz.prog T Q O (a.put o.dst v') w'):wpList Tryz.prog T Q (o::O) a w:=by
 obtain⟨ac,hi,aj,ag,am⟩:=info_parts GM;refine wpList_append_own_at w ae s x 69 al H 71 ac _ 8 104 Tryz.underlying69 hi aj ag am rfl (by decide) v xs.length (ecells xs) ai I.own ⟨F,0,none⟩ 1 1 y.cells Z rfl ?_ (Z5 y) (by unfold maxLen;omega) (by omega) af ?_
 . intro j u ak;have e2:(⟨F,0,none⟩:Addr).add j=⟨F,j,none⟩:=by unfold Addr.add;split<;>simp_all
   rw[e2];exact ab j u ak
 . intro v' w' ah U _ G
   have M:∀z∈xs++ [y],z.lies (fun F=>some F≠v.ownBlock):=by
    intro z E
    rcases WP.1 E with E|E
    . exact I.apart z E
    . rw[WO.1 E];exact aa
   have Y:∀z∈xs++ [y],EvIn w z:=by
    intro z E
    rcases WP.1 E with E|E
    . exact I.all z E
    . rw[WO.1 E];exact an
   refine h v' w' (Ab ⟨?_,fun z E=>(Y z E).grown U (M z E),fun z E=> ?_⟩) (Ab U)
   . rw[IJ,IH,VE];exact ah
   . have hl:=(Y z E).lt;have hn:=M z E
     rcases G with G|G
     . rw[G];exact hn
     . rw[G];exact hl.mono (fun F ap e=>by have:=VM e;omega)
def Es (w:World)(b o:Nat)(xs:List Ev):Prop:=∀j x,xs[j]? =some x->∀i,i<8->w.cell? ⟨b,o+j*8+i,none⟩=x.cells[i]?
structure EsIn (w:World)(ad:Option Addr)(c:Nat)(xs:List Ev):Prop where
 at_:xs= []\/∃b o,ad=some ⟨b,o,none⟩/\b<w.heap.size/\Es w b o xs
 all:∀x∈xs,EvIn w x
theorem EsIn.below {w w':World}{F:Option Addr}{c:Nat}{xs:List Ev}(G:EsIn w F c xs)(E:Below w.heap.size w w'):EsIn w' F c xs:=by
 refine⟨?_,fun x H=>(G.all x H).below E⟩
 rcases G.at_ with O|⟨b,o,e,hb,I⟩
 . exact .inl O
 . exact .inr ⟨b,o,e,VG hb E.size,fun j x M i hi=>(World.cell?_of_block (w:=w) (a:=⟨b,_,none⟩) (E.block b hb)).trans (I j x M i hi)⟩
theorem EsIn.get {w w':World}{I:Option Addr}{c k:Nat}{xs:List Ev}{x:Ev}(M:EsIn w I c xs)(T:Below w.heap.size w w')(E:xs[k]? =some x):
 ∃b o,I=some ⟨b,o,none⟩/\b<w.heap.size/\w'.cell? ⟨b,o+k*8,none⟩=some (.string (B x.e.f.name))/\w'.cell? ⟨b,o+k*8+1,none⟩=some (.slice x.fa x.e.f.bytes.length x.fc)/\w'.cell? ⟨b,o+k*8+2,none⟩=some (.int .i64 x.e.f.stamp)/\w'.cell? ⟨b,o+k*8+3,none⟩=some (.int .i64 x.e.f.node)/\w'.cell? ⟨b,o+k*8+4,none⟩=some (.bool x.e.f.gone)/\w'.cell? ⟨b,o+k*8+5,none⟩=some (.int .u32 (x.e.meth:Int))/\w'.cell? ⟨b,o+k*8+6,none⟩=some (.slice x.pa x.e.pk.length x.pc)/\w'.cell? ⟨b,o+k*8+7,none⟩=some (.int .u32 (x.e.crc:Int)):=by
 rcases(M.below T).at_ with H|⟨b,o,e,hb,F⟩
 . subst H;simp at E
 . have G:b<w.heap.size:=by
    rcases M.at_ with H|⟨U,Y,O,G,_⟩
    . subst H;simp at E
    . rw[e]at O;cases O;exact G
   exact⟨b,o,e,G,F k x E 0 (by decide),F k x E 1 (by decide),F k x E 2 (by decide),F k x E 3 (by decide),F k x E 4 (by decide),F k x E 5 (by decide),F k x E 6 (by decide),F k x E 7 (by decide)⟩
def Tl:Nat->List En->List Nat
 |_,[]=> []
 |p,x::r=>p::Tl (p+(Vr x).length) r
theorem BQ:∀(a:List En) (x:En) (p:Nat),Tl p (a++ [x])=Tl p a++ [p+(Av a).length]
 | [],x,p=>by simp[Tl,Av]
 |y::a,x,p=>by rw[XL,Tl,BQ a x,Tl,Av,VE,XL,WT]
theorem V4:∀(a:List En) (p:Nat),(Tl p a).length=a.length
 | [],p=>rfl
 |y::a,p=>by rw[Tl,VJ,V4 a,VJ]
theorem Z2j:∀(a:List En) (p k:Nat),k<a.length->(Tl p a).getD k 0=p+(Av (a.take k)).length
 | [],p,k,h=>by simp at h
 |y::a,p,0,h=>by simp[Tl,Av]
 |y::a,p,k+1,h=>by
  have:=Z2j a (p+(Vr y).length) k (by simpa using h)
  simp only[Tl,List.getD_cons_succ,XU,Av,VE];rw[this];omega
theorem J3 (a:List En)(x:En):Av (a++ [x])=Av a++Vr x:=by rw[CW];simp[Av]
theorem Uq (a:List En)(x:En):Ao 0 (a++ [x])=Ao 0 a++Qo x (Av a).length:=by rw[Zv];simp[Ao]
theorem ERow.entries {w:World}{B:Nat}{v:Value}{xs:List Ev}(E:ERow w B v xs):∃ad c,v=.slice ad xs.length c/\EsIn w ad c xs:=by
 rcases E.own.2 with ⟨F,G⟩|⟨g,cap,cur,F,G,M,T,O⟩
 . exact⟨none,0,by rw[F,G],.inl (WV G),E.all⟩
 . refine⟨some ⟨g,0,none⟩,cap,F,.inr ⟨g,0,rfl,(E.own.lt g (by rw[F];rfl)).2,fun j x I i hi=> ?_⟩,E.all⟩;have H:=E.own;rw[F]at H;have hl:=II xs;have U:=(XT.1 I).1;rw[WG,H.cellAt _ (by omega)];exact N6 xs j x i I hi
structure AS (w:World)(Bs b:Nat)(xs:List Nat)(v:Value)(ps:List Nat)(wr:World):Prop where
 z:∃ov,ZC Bs wr b xs ov
 p:wr.ownsRow (b+1) 3 1 v ps.length (i64s ps)
 below:Below Bs w wr
theorem AS.later {w wr w':World}{H b:Nat}{xs I:List Nat}{v:Value}(E:AS w H b xs v I wr)(F:Below wr.heap.size wr w'):AS w H b xs v I w':=by
 obtain⟨ov,G⟩:=E.z;refine⟨⟨ov,G.later F⟩,Au E.p (fun g M=>F.block g (E.p.lt g M).2),E.below.trans (F.mono (by have:=G.lt;have:=G.base;omega))⟩
theorem AS.app {w W I:World}{M b y:Nat}{xs H:List Nat}{v v':Value}(F:AS w M b xs v H W)(G:W.grownBy I v.ownBlock)(T:I.ownsRow (b+1) 3 1 v' (H.length+1) (i64s H++ [.int .i64 (y:Int)])):AS w M b xs v' (H++ [y]) I:=by
 obtain⟨ov,E⟩:=F.z;have U:=E.lt;have aa:=E.base;have Z:=G.size;refine⟨⟨ov,E.base, ?_, ?_⟩, ?_, ?_⟩
 . refine(G.block b U (fun e=> ?_)).trans E.cell;have:=(F.p.lt b e.symm).1
   omega
 . refine Au E.own (fun g O=>G.block g (E.own.lt g O).2 (fun e=> ?_));obtain⟨c1,Y⟩:=Oy E.own O;obtain⟨c2,e2⟩:=Oy F.p e.symm;rw[Y]at e2
   injection e2 with e2
   injection e2 with _ e2
   exact absurd e2 (by decide)
 . rw[VE,i64s,WU];exact T
 . exact F.below.grown G (by omega) (fun g e=>by have:=(F.p.lt g e).1;omega)
theorem AS.up {w H I:World}{E b:Nat}{xs ys M:List Nat}{v:Value}(F:AS w E b xs v M H)(G:ZUp E H b ys I):AS w E b ys v M I:=by
 refine⟨G.is,Au F.p (fun g O=> ?_),F.below.trans G.below⟩;obtain⟨cs,e⟩:=Oy F.p O;rw[e];exact G.kp g cs _ _ (by decide) (by decide) e
theorem OI:(Tryz.prog.info? 3).map (fun i=>(i.zero,i.size,i.bytes))=some (some (.int .i64 0),1,8):=by kernel_rfl
theorem OU:∀(l:List En),(∀x∈l,ENum x)->(Av l).length<=12081*l.length
 | [],_=>by simp[Av]
 |x::r,h=>by
  have I:=OU r (fun y F=>h y (WR _ F));have E:=h x (by simp);have G:=E.nm;have H:=E.pl;rw[Av,VE,Kc,VJ];omega
theorem BH:∀(l:List En) (p:Nat),(∀x∈l,ENum x)->(Ao p l).length<=97*l.length
 | [],p,_=>by simp[Ao]
 |x::r,p,h=>by
  have G:=BH r (p+(Vr x).length) (fun y E=>h y (WR _ E));have F:=(h x (by simp)).nm;rw[Ao,VE,Lk,VJ];omega
end Go.Proofs.YtleocpdblhbimaaGreatDoor
