import Derived.Test.YtleocpdblhbimaaGreatDoorQ4
import Derived.Deep.RegionHeld3
import Derived.Deep.RegionWith
import Derived.Maps.Own
set_option linter.unusedSimpArgs false
set_option linter.unusedVariables false
set_option maxRecDepth 100000
set_option maxHeartbeats 4000000
namespace Go.Proofs.YtleocpdblhbimaaGreatDoor
open Go.RowKit
structure Ev where
 e:En
 fa:Option Addr
 fc:Nat
 pa:Option Addr
 pc:Nat
def Ev.cells (x:Ev):List Value:= [.string (B x.e.f.name),.slice x.fa x.e.f.bytes.length x.fc,.int .i64 x.e.f.stamp,.int .i64 x.e.f.node,.bool x.e.f.gone,.int .u32 (x.e.meth:Int),.slice x.pa x.e.pk.length x.pc,.int .u32 (x.e.crc:Int)]
def Ev.val (x:Ev):Value:=.agg #[.string (B x.e.f.name),.slice x.fa x.e.f.bytes.length x.fc,.int .i64 x.e.f.stamp,.int .i64 x.e.f.node,.bool x.e.f.gone,.int .u32 (x.e.meth:Int),.slice x.pa x.e.pk.length x.pc,.int .u32 (x.e.crc:Int)]
structure ENum (x:En):Prop where
 st:0<=x.f.stamp/\x.f.stamp<=1000000
 nd:0<=x.f.node/\x.f.node<=3
 nm:x.f.name.length<=40
 bl:x.f.bytes.length<=3000
 pl:x.pk.length<=12000
 cr:x.crc<4294967296
 mt:x.meth<65536
theorem Bh {n:Nat}(E:n<4294967296):IntKind.u32.wrap (n:Int)=(n:Int):=by
 simp[IntKind.wrap,IntKind.bits,IntKind.signed]
 omega
abbrev Bx (w:World)(X:Nat)(nm:ByteArray)(fa:Option Addr)(bl fc:Nat)(st nd:Nat)(gn:Bool)(mt:Nat)(pa:Option Addr)(pl pc cr:Nat):Prop:=
 w.heap[X]? =some (.cells #[.string nm,.slice fa bl fc,.int .i64 (st:Int),.int .i64 (nd:Int),.bool gn,.int .u32 (mt:Int),.slice pa pl pc,.int .u32 (cr:Int)] 71 (0,0))
theorem Ax {w:World}{X:Nat}{O:ByteArray}{I:Option Addr}{M F st nd:Nat}{gn:Bool}{mt:Nat}{H:Option Addr}{G T cr:Nat}(E:Bx w X O I M F st nd gn mt H G T cr):w.cell? ⟨X,0,none⟩=some (.string O)/\w.cell? ⟨X,1,none⟩=some (.slice I M F)/\w.cell? ⟨X,2,none⟩=some (.int .i64 (st:Int))/\w.cell? ⟨X,3,none⟩=some (.int .i64 (nd:Int))/\w.cell? ⟨X,4,none⟩=some (.bool gn)/\w.cell? ⟨X,5,none⟩=some (.int .u32 (mt:Int))/\w.cell? ⟨X,6,none⟩=some (.slice H G T)/\w.cell? ⟨X,7,none⟩=some (.int .u32 (cr:Int)):=⟨Ac E,Ac E,Ac E,Ac E,Ac E,Ac E,Ac E,Ac E⟩
theorem AK (Z b:Nat)(x:Ev)(xs:List Nat)(w:World)(h:∃ov,ZC Z w b xs ov)(a1:ENum x.e)(bk:xs.length<=800000):
 Calls Tryz.prog 78 #[.pointer (some ⟨b,0,none⟩),x.val] w fun e w'=>e=.returned (.tuple #[])/\ZUp Z w b (xs++To x.e) w':=by
 obtain⟨x,fa,fc,pa,pc⟩:=x;obtain⟨⟨nml,bys,ap,ao,gn⟩,mt,pk,cr⟩:=x;obtain⟨⟨a6,st1⟩,⟨au,a5⟩,ak,al,aj,ax,bb⟩:=a1;simp only at a6 st1 au a5 ak al aj ax bb
 obtain⟨st,rfl⟩:∃st:Nat,ap=(st:Int):=⟨ap.toNat,by omega⟩
 obtain⟨nd,rfl⟩:∃nd:Nat,ao=(nd:Int):=⟨ao.toNat,by omega⟩
 have bf:=Bh (n:=st) (by omega);have bg:=Bh (n:=nd) (by omega);have a2:=(show To ⟨⟨nml,bys,(st:Int),(nd:Int),gn⟩,mt,pk,cr⟩=Ag 20 2++Ag 0 2++Ag mt 2++Ag 0 4++Ag cr 4++Ag pk.length 4++Ag bys.length 4++Ag nml.length 2++Ag 11 2 from rfl)
 unfold Ev.val;dsimp only;obtain⟨nm,ae⟩:=exq (B nml);obtain⟨ah,aa⟩:=exq (nml.length);obtain⟨bl,ac⟩:=exq (bys.length);obtain⟨pl,af⟩:=exq (pk.length);have ai:nm.size=ah:=by rw[<-ae,Im,aa]
 rw[aa]at ak;rw[ac]at al;rw[af]at aj;rw[ae,ac,af];have bi:=Ab ae;have az:=Ab aa;have a3:=Ab ac;have a9:=Ab af;have bc:=Bh (n:=bl) (by omega);have bh:=Bh (n:=pl) (by omega);have bj:IntKind.u32.wrap (nm.size:Int)=(ah:Int):=by rw[ai];exact Bh (by omega)
 clear ae aa ac af ai;obtain⟨ov,ag⟩:=h;have E:Hid (Bx (w.alloc (.cells #[.string nm,.slice fa bl fc,.int .i64 (st:Int),.int .i64 (nd:Int),.bool gn,.int .u32 (mt:Int),.slice pa pl pc,.int .u32 (cr:Int)] 71)) w.heap.size nm fa bl fc st nd gn mt pa pl pc cr):=Ab (heap_alloc_new w _)
 have F:Hid (ZUp Z w b xs (w.alloc (.cells #[.string nm,.slice fa bl fc,.int .i64 (st:Int),.int .i64 (nd:Int),.bool gn,.int .u32 (mt:Int),.slice pa pl pc,.int .u32 (cr:Int)] 71))):=
  Ab ⟨⟨ov,ag.later ((Below.refl _ _).alloc (VB _) _)⟩,(Below.refl Z w).alloc (by have:=ag.lt;have:=ag.base;omega) _,KpT.below ((Below.refl _ _).alloc (VB _) _)⟩
 obtain⟨X,ar⟩:=exq (w.heap.size);rw[ar]at E;have bd:=Ab ar;obtain⟨c0,c1,c2,M,Y,U,T,O⟩:=Ax (Aa E);clear ag;go_enter Tryz.func78,Tryz.ntmps78
 go_wp2_with fail
 refine(Bb Z b 2 20 _ _ (Aa F).is (by decide) (by omega) (by omega)).mono ?_;rintro e av ⟨rfl,G⟩;have H:=Ab ((Aa F).trans G);have I:Hid (Bx av X nm fa bl fc st nd gn mt pa pl pc cr):=Ab (G.kp _ _ _ _ (by decide) (by decide) (Aa E));clear G F E c0 c1 c2 M Y U T O;have F:=H;clear H;have E:=I;clear I;obtain⟨c0,c1,c2,M,Y,U,T,O⟩:=Ax (Aa E);go_wp2_with fail
 refine(Hc Z b 2 _ _ (Aa F).is (by decide) (by simp only[VE,Ai];omega)).mono ?_;rintro e aw ⟨rfl,G⟩;have H:=Ab ((Aa F).trans G);have I:Hid (Bx aw X nm fa bl fc st nd gn mt pa pl pc cr):=Ab (G.kp _ _ _ _ (by decide) (by decide) (Aa E));clear G F E c0 c1 c2 M Y U T O;have F:=H;clear H;have E:=I;clear I;obtain⟨c0,c1,c2,M,Y,U,T,O⟩:=Ax (Aa E);go_wp2_with fail
 refine(Bb Z b 2 mt _ _ (Aa F).is (by decide) (by omega) (by simp only[VE,Ai];omega)).mono ?_;rintro e w3 ⟨rfl,G⟩;have H:=Ab ((Aa F).trans G);have I:Hid (Bx w3 X nm fa bl fc st nd gn mt pa pl pc cr):=Ab (G.kp _ _ _ _ (by decide) (by decide) (Aa E));clear G F E c0 c1 c2 M Y U T O;have F:=H;clear H;have E:=I;clear I;obtain⟨c0,c1,c2,M,Y,U,T,O⟩:=Ax (Aa E);go_wp2_with fail
 refine(Hc Z b 4 _ _ (Aa F).is (by decide) (by simp only[VE,Ai];omega)).mono ?_;rintro e a8 ⟨rfl,G⟩;have H:=Ab ((Aa F).trans G);have I:Hid (Bx a8 X nm fa bl fc st nd gn mt pa pl pc cr):=Ab (G.kp _ _ _ _ (by decide) (by decide) (Aa E));clear G F E c0 c1 c2 M Y U T O;have F:=H;clear H;have E:=I;clear I;obtain⟨c0,c1,c2,M,Y,U,T,O⟩:=Ax (Aa E);go_wp2_with fail
 refine(Bb Z b 4 cr _ _ (Aa F).is (by decide) (by omega) (by simp only[VE,Ai];omega)).mono ?_;rintro e ba ⟨rfl,G⟩;have H:=Ab ((Aa F).trans G);have I:Hid (Bx ba X nm fa bl fc st nd gn mt pa pl pc cr):=Ab (G.kp _ _ _ _ (by decide) (by decide) (Aa E));clear G F E c0 c1 c2 M Y U T O;have F:=H;clear H;have E:=I;clear I;obtain⟨c0,c1,c2,M,Y,U,T,O⟩:=Ax (Aa E);go_wp2_with fail
 refine(Bb Z b 4 pl _ _ (Aa F).is (by decide) (by omega) (by simp only[VE,Ai];omega)).mono ?_;rintro e w6 ⟨rfl,G⟩;have H:=Ab ((Aa F).trans G);have I:Hid (Bx w6 X nm fa bl fc st nd gn mt pa pl pc cr):=Ab (G.kp _ _ _ _ (by decide) (by decide) (Aa E));clear G F E c0 c1 c2 M Y U T O;have F:=H;clear H;have E:=I;clear I;obtain⟨c0,c1,c2,M,Y,U,T,O⟩:=Ax (Aa E);go_wp2_with fail
 refine(Bb Z b 4 bl _ _ (Aa F).is (by decide) (by omega) (by simp only[VE,Ai];omega)).mono ?_;rintro e a7 ⟨rfl,G⟩;have H:=Ab ((Aa F).trans G);have I:Hid (Bx a7 X nm fa bl fc st nd gn mt pa pl pc cr):=Ab (G.kp _ _ _ _ (by decide) (by decide) (Aa E));clear G F E c0 c1 c2 M Y U T O;have F:=H;clear H;have E:=I;clear I;obtain⟨c0,c1,c2,M,Y,U,T,O⟩:=Ax (Aa E);go_wp2_with fail
 refine(Bb Z b 2 ah _ _ (Aa F).is (by decide) (by omega) (by simp only[VE,Ai];omega)).mono ?_;rintro e ay ⟨rfl,G⟩;have H:=Ab ((Aa F).trans G);have I:Hid (Bx ay X nm fa bl fc st nd gn mt pa pl pc cr):=Ab (G.kp _ _ _ _ (by decide) (by decide) (Aa E));clear G F E c0 c1 c2 M Y U T O;have F:=H;clear H;have E:=I;clear I;obtain⟨c0,c1,c2,M,Y,U,T,O⟩:=Ax (Aa E);go_wp2_with fail
 refine(Bb Z b 2 11 _ _ (Aa F).is (by decide) (by omega) (by simp only[VE,Ai];omega)).mono ?_;rintro e a4 ⟨rfl,G⟩;have H:=Ab ((Aa F).trans G);have I:Hid (Bx a4 X nm fa bl fc st nd gn mt pa pl pc cr):=Ab (G.kp _ _ _ _ (by decide) (by decide) (Aa E));clear G F E c0 c1 c2 M Y U T O;have F:=H;clear H;have E:=I;clear I;obtain⟨c0,c1,c2,M,Y,U,T,O⟩:=Ax (Aa E);go_wp2;go_end0
 refine⟨rfl, ?_⟩;rw[a2];simp only[<-VS];rw[Aa az,Aa a3,Aa a9];exact Aa F
theorem AM (Z b:Nat)(x:Ev)(xs:List Nat)(w:World)(h:∃ov,ZC Z w b xs ov)(a2:ENum x.e)(bh:xs.length<=800000):
 Calls Tryz.prog 79 #[.pointer (some ⟨b,0,none⟩),x.val] w fun e w'=>e=.returned (.tuple #[])/\ZUp Z w b (xs++Jj x.e) w':=by
 obtain⟨x,fa,fc,pa,pc⟩:=x;obtain⟨⟨nml,bys,aw,av,gn⟩,mt,pk,cr⟩:=x;obtain⟨⟨a4,st1⟩,⟨ay,a3⟩,ap,au,ao,az,a6⟩:=a2;simp only at a4 st1 ay a3 ap au ao az a6
 obtain⟨st,rfl⟩:∃st:Nat,aw=(st:Int):=⟨aw.toNat,by omega⟩
 obtain⟨nd,rfl⟩:∃nd:Nat,av=(nd:Int):=⟨av.toNat,by omega⟩
 have a8:=Bh (n:=st) (by omega);have bb:=Bh (n:=nd) (by omega);have ar:=(show Jj ⟨⟨nml,bys,(st:Int),(nd:Int),gn⟩,mt,pk,cr⟩=Ag 29297 2++Ag 7 2++Ag st 4++Ag nd 2++Ag (Ed gn) 1 from rfl)
 unfold Ev.val;dsimp only;obtain⟨nm,ag⟩:=exq (B nml);obtain⟨ax,ae⟩:=exq (nml.length);obtain⟨bl,af⟩:=exq (bys.length);obtain⟨pl,ah⟩:=exq (pk.length);have al:nm.size=ax:=by rw[<-ag,Im,ae]
 rw[ae]at ap;rw[af]at au;rw[ah]at ao;rw[ag,af,ah];have bd:=Ab ag;have a9:=Ab ae;have ba:=Ab af;have bg:=Ab ah;have a7:=Bh (n:=bl) (by omega);have bc:=Bh (n:=pl) (by omega);have bf:IntKind.u32.wrap (nm.size:Int)=(ax:Int):=by rw[al];exact Bh (by omega)
 clear ag ae af ah al
 cases gn
 . obtain⟨ov,aa⟩:=h;have F:Hid (Bx (w.alloc (.cells #[.string nm,.slice fa bl fc,.int .i64 (st:Int),.int .i64 (nd:Int),.bool false,.int .u32 (mt:Int),.slice pa pl pc,.int .u32 (cr:Int)] 71)) w.heap.size nm fa bl fc st nd false mt pa pl pc cr):=Ab (heap_alloc_new w _)
   have E:Hid (ZUp Z w b xs (w.alloc (.cells #[.string nm,.slice fa bl fc,.int .i64 (st:Int),.int .i64 (nd:Int),.bool false,.int .u32 (mt:Int),.slice pa pl pc,.int .u32 (cr:Int)] 71))):=
    Ab ⟨⟨ov,aa.later ((Below.refl _ _).alloc (VB _) _)⟩,(Below.refl Z w).alloc (by have:=aa.lt;have:=aa.base;omega) _,KpT.below ((Below.refl _ _).alloc (VB _) _)⟩
   obtain⟨X,ac⟩:=exq (w.heap.size);rw[ac]at F;have a1:=Ab ac;obtain⟨c0,c1,c2,M,Y,U,T,O⟩:=Ax (Aa F);clear aa;go_enter Tryz.func79,Tryz.ntmps79
   go_wp2_with fail
   refine(Bb Z b 2 29297 _ _ (Aa E).is (by decide) (by omega) (by omega)).mono ?_;rintro e ai ⟨rfl,G⟩;have H:=Ab ((Aa E).trans G);have I:Hid (Bx ai X nm fa bl fc st nd false mt pa pl pc cr):=Ab (G.kp _ _ _ _ (by decide) (by decide) (Aa F));clear G E F c0 c1 c2 M Y U T O;have E:=H;clear H;have F:=I;clear I;obtain⟨c0,c1,c2,M,Y,U,T,O⟩:=Ax (Aa F);go_wp2_with fail
   refine(Bb Z b 2 7 _ _ (Aa E).is (by decide) (by omega) (by simp only[VE,Ai];omega)).mono ?_;rintro e aj ⟨rfl,G⟩;have H:=Ab ((Aa E).trans G);have I:Hid (Bx aj X nm fa bl fc st nd false mt pa pl pc cr):=Ab (G.kp _ _ _ _ (by decide) (by decide) (Aa F));clear G E F c0 c1 c2 M Y U T O;have E:=H;clear H;have F:=I;clear I;obtain⟨c0,c1,c2,M,Y,U,T,O⟩:=Ax (Aa F);go_wp2_with fail
   refine(Bb Z b 4 st _ _ (Aa E).is (by decide) (by omega) (by simp only[VE,Ai];omega)).mono ?_;rintro e w3 ⟨rfl,G⟩;have H:=Ab ((Aa E).trans G);have I:Hid (Bx w3 X nm fa bl fc st nd false mt pa pl pc cr):=Ab (G.kp _ _ _ _ (by decide) (by decide) (Aa F));clear G E F c0 c1 c2 M Y U T O;have E:=H;clear H;have F:=I;clear I;obtain⟨c0,c1,c2,M,Y,U,T,O⟩:=Ax (Aa F);go_wp2_with fail
   refine(Bb Z b 2 nd _ _ (Aa E).is (by decide) (by omega) (by simp only[VE,Ai];omega)).mono ?_;rintro e ak ⟨rfl,G⟩;have H:=Ab ((Aa E).trans G);have I:Hid (Bx ak X nm fa bl fc st nd false mt pa pl pc cr):=Ab (G.kp _ _ _ _ (by decide) (by decide) (Aa F));clear G E F c0 c1 c2 M Y U T O;have E:=H;clear H;have F:=I;clear I;obtain⟨c0,c1,c2,M,Y,U,T,O⟩:=Ax (Aa F);go_wp2_with fail
   refine(Bb Z b 1 0 _ _ (Aa E).is (by decide) (by omega) (by simp only[VE,Ai];omega)).mono ?_;rintro e a5 ⟨rfl,G⟩;have H:=Ab ((Aa E).trans G);clear G E;have E:=H;clear H;go_wp2;go_end0
   refine⟨rfl, ?_⟩;rw[ar];simp only[<-VS];exact Aa E
 . obtain⟨ov,aa⟩:=h;have F:Hid (Bx (w.alloc (.cells #[.string nm,.slice fa bl fc,.int .i64 (st:Int),.int .i64 (nd:Int),.bool true,.int .u32 (mt:Int),.slice pa pl pc,.int .u32 (cr:Int)] 71)) w.heap.size nm fa bl fc st nd true mt pa pl pc cr):=Ab (heap_alloc_new w _)
   have E:Hid (ZUp Z w b xs (w.alloc (.cells #[.string nm,.slice fa bl fc,.int .i64 (st:Int),.int .i64 (nd:Int),.bool true,.int .u32 (mt:Int),.slice pa pl pc,.int .u32 (cr:Int)] 71))):=
    Ab ⟨⟨ov,aa.later ((Below.refl _ _).alloc (VB _) _)⟩,(Below.refl Z w).alloc (by have:=aa.lt;have:=aa.base;omega) _,KpT.below ((Below.refl _ _).alloc (VB _) _)⟩
   obtain⟨X,ac⟩:=exq (w.heap.size);rw[ac]at F;have a1:=Ab ac;obtain⟨c0,c1,c2,M,Y,U,T,O⟩:=Ax (Aa F);clear aa;go_enter Tryz.func79,Tryz.ntmps79
   go_wp2_with fail
   refine(Bb Z b 2 29297 _ _ (Aa E).is (by decide) (by omega) (by omega)).mono ?_;rintro e ai ⟨rfl,G⟩;have H:=Ab ((Aa E).trans G);have I:Hid (Bx ai X nm fa bl fc st nd true mt pa pl pc cr):=Ab (G.kp _ _ _ _ (by decide) (by decide) (Aa F));clear G E F c0 c1 c2 M Y U T O;have E:=H;clear H;have F:=I;clear I;obtain⟨c0,c1,c2,M,Y,U,T,O⟩:=Ax (Aa F);go_wp2_with fail
   refine(Bb Z b 2 7 _ _ (Aa E).is (by decide) (by omega) (by simp only[VE,Ai];omega)).mono ?_;rintro e aj ⟨rfl,G⟩;have H:=Ab ((Aa E).trans G);have I:Hid (Bx aj X nm fa bl fc st nd true mt pa pl pc cr):=Ab (G.kp _ _ _ _ (by decide) (by decide) (Aa F));clear G E F c0 c1 c2 M Y U T O;have E:=H;clear H;have F:=I;clear I;obtain⟨c0,c1,c2,M,Y,U,T,O⟩:=Ax (Aa F);go_wp2_with fail
   refine(Bb Z b 4 st _ _ (Aa E).is (by decide) (by omega) (by simp only[VE,Ai];omega)).mono ?_;rintro e w3 ⟨rfl,G⟩;have H:=Ab ((Aa E).trans G);have I:Hid (Bx w3 X nm fa bl fc st nd true mt pa pl pc cr):=Ab (G.kp _ _ _ _ (by decide) (by decide) (Aa F));clear G E F c0 c1 c2 M Y U T O;have E:=H;clear H;have F:=I;clear I;obtain⟨c0,c1,c2,M,Y,U,T,O⟩:=Ax (Aa F);go_wp2_with fail
   refine(Bb Z b 2 nd _ _ (Aa E).is (by decide) (by omega) (by simp only[VE,Ai];omega)).mono ?_;rintro e ak ⟨rfl,G⟩;have H:=Ab ((Aa E).trans G);have I:Hid (Bx ak X nm fa bl fc st nd true mt pa pl pc cr):=Ab (G.kp _ _ _ _ (by decide) (by decide) (Aa F));clear G E F c0 c1 c2 M Y U T O;have E:=H;clear H;have F:=I;clear I;obtain⟨c0,c1,c2,M,Y,U,T,O⟩:=Ax (Aa F);go_wp2_with fail
   refine(Bb Z b 1 1 _ _ (Aa E).is (by decide) (by omega) (by simp only[VE,Ai];omega)).mono ?_;rintro e a5 ⟨rfl,G⟩;have H:=Ab ((Aa E).trans G);clear G E;have E:=H;clear H;go_wp2;go_end0
   refine⟨rfl, ?_⟩;rw[ar];simp only[<-VS];exact Aa E
theorem SL (H b m s t:Nat)(xs:List Nat)(w:World)(O:∃ov,ZC H w b xs ov)(aa:m<=60000)(af:s<=1000000)(ac:t<=1000000)(ai:xs.length<=800000):
 Calls Tryz.prog 57 #[.pointer (some ⟨b,0,none⟩),.int .i64 (m:Int),.int .i64 (s:Int),.int .i64 (t:Int)] w fun e w'=>e=.returned (.tuple #[])/\ZUp H w b (xs++Pm m s t) w':=by
 have M:=(show Pm m s t=Ag 101010256 4++Ag 0 4++Ag m 2++Ag m 2++Ag s 4++Ag t 4++Ag 0 2 from rfl)
 have ah:=Bh (n:=m) (by omega);have Y:=Bh (n:=s) (by omega);have Z:=Bh (n:=t) (by omega);obtain⟨ov,I⟩:=O;have E:=Ab (ZUp.refl I);clear I;go_enter Tryz.func57,Tryz.ntmps57
 go_wp2_with fail
 refine(Bb H b 4 101010256 _ _ (Aa E).is (by decide) (by omega) (by omega)).mono ?_;rintro e T ⟨rfl,G⟩;have F:=Ab ((Aa E).trans G);clear G E;have E:=F;clear F;go_wp2_with fail
 refine(Hc H b 4 _ _ (Aa E).is (by decide) (by simp only[VE,Ai];omega)).mono ?_;rintro e U ⟨rfl,G⟩;have F:=Ab ((Aa E).trans G);clear G E;have E:=F;clear F;go_wp2_with fail
 refine(Bb H b 2 m _ _ (Aa E).is (by decide) (by omega) (by simp only[VE,Ai];omega)).mono ?_;rintro e w3 ⟨rfl,G⟩;have F:=Ab ((Aa E).trans G);clear G E;have E:=F;clear F;go_wp2_with fail
 refine(Bb H b 2 m _ _ (Aa E).is (by decide) (by omega) (by simp only[VE,Ai];omega)).mono ?_;rintro e ag ⟨rfl,G⟩;have F:=Ab ((Aa E).trans G);clear G E;have E:=F;clear F;go_wp2_with fail
 refine(Bb H b 4 s _ _ (Aa E).is (by decide) (by omega) (by simp only[VE,Ai];omega)).mono ?_;rintro e aj ⟨rfl,G⟩;have F:=Ab ((Aa E).trans G);clear G E;have E:=F;clear F;go_wp2_with fail
 refine(Bb H b 4 t _ _ (Aa E).is (by decide) (by omega) (by simp only[VE,Ai];omega)).mono ?_;rintro e w6 ⟨rfl,G⟩;have F:=Ab ((Aa E).trans G);clear G E;have E:=F;clear F;go_wp2_with fail
 refine(Hc H b 2 _ _ (Aa E).is (by decide) (by simp only[VE,Ai];omega)).mono ?_;rintro e ae ⟨rfl,G⟩;have F:=Ab ((Aa E).trans G);clear G E;have E:=F;clear F;go_wp2;go_end0
 refine⟨rfl, ?_⟩;rw[M];simp only[<-VS];exact Aa E
theorem Z0d {w w' W:World}{I c:Nat}{a:Option Addr}{ys:List Nat}(F:PkIn w a c ys)(G:Below I w w')(U:∀g o,a=some ⟨g,o,none⟩->ys≠ []->g<I)(H:w'.grownBy W none):PkIn W a c ys:=by
 refine⟨?_,F.2⟩
 by_cases E:ys= []
 . exact .inl E
 . rcases F.1 with T|⟨b,o,e,hl,hc⟩
   . exact absurd T E
   . have M:=U b o e E;have O:=G.size;refine .inr ⟨b,o,e,VG hl (VU O H.size),fun j Y=> ?_⟩;have Z:w'.heap[b]? =w.heap[b]? :=G.block b M;have e2:W.heap[b]? =w'.heap[b]? :=H.block b (by omega) (by simp);exact(World.cell?_of_block (w:=w) (a:=⟨b,_,none⟩) (e2.trans Z)).trans (hc j Y)
theorem SI (M b:Nat)(x:Ev)(xs:List Nat)(w:World)(h:∃ov,ZC M w b xs ov)(a5:ENum x.e)(a6:PkIn w x.pa x.pc x.e.pk)(ba:∀g o,x.pa=some ⟨g,o,none⟩->x.e.pk≠ []->g<M)(ck:xs.length<=700000):
 Calls Tryz.prog 55 #[.pointer (some ⟨b,0,none⟩),x.val] w fun e w'=>e=.returned (.tuple #[])/\ZUp M w b (xs++Vr x.e) w':=by
 obtain⟨x,fa,fc,pa,pc⟩:=x;obtain⟨⟨nml,bys,bi,a9,gn⟩,mt,pk,cr⟩:=x;have a8:=a5;obtain⟨⟨b4,st1⟩,⟨bj,bz⟩,bg,bh,a2,bm,bv⟩:=a5;simp only at b4 st1 bj bz bg bh a2 bm bv
 obtain⟨st,rfl⟩:∃st:Nat,bi=(st:Int):=⟨bi.toNat,by omega⟩
 obtain⟨nd,rfl⟩:∃nd:Nat,a9=(nd:Int):=⟨a9.toNat,by omega⟩
 have ce:((st:Int)).toNat=st:=by omega
 have b8:=Bh (n:=st) (by omega);have ci:=Bh (n:=nd) (by omega);have a7:=(show Vr ⟨⟨nml,bys,(st:Int),(nd:Int),gn⟩,mt,pk,cr⟩=Ag 67324752 4++To ⟨⟨nml,bys,(st:Int),(nd:Int),gn⟩,mt,pk,cr⟩++n8 nml++Jj ⟨⟨nml,bys,(st:Int),(nd:Int),gn⟩,mt,pk,cr⟩++pk from rfl)
 have af:=Ab (fun ys W az av=>AK M b ⟨⟨⟨nml,bys,(st:Int),(nd:Int),gn⟩,mt,pk,cr⟩,fa,fc,pa,pc⟩ ys W az a8 av);have ag:=Ab (fun ys W az av=>AM M b ⟨⟨⟨nml,bys,(st:Int),(nd:Int),gn⟩,mt,pk,cr⟩,fa,fc,pa,pc⟩ ys W az a8 av);obtain⟨bw,ai⟩:=exq (To ⟨⟨nml,bys,(st:Int),(nd:Int),gn⟩,mt,pk,cr⟩);obtain⟨b0,ap⟩:=exq (Jj ⟨⟨nml,bys,(st:Int),(nd:Int),gn⟩,mt,pk,cr⟩);have aw:bw.length=26:=by rw[<-ai];exact Ly _
 have bn:b0.length=11:=by rw[<-ap];exact Ie _
 unfold Ev.val at af ag;dsimp only at af ag;rw[ai,ap]at a7;rw[ai]at af;rw[ap]at ag;clear ai ap;unfold Ev.val;dsimp only;have bo:=Ab a6;have bq:=Ab ba;clear a6 ba;obtain⟨nm,ak⟩:=exq (B nml);obtain⟨bb,aj⟩:=exq (nml.length);obtain⟨bl,ah⟩:=exq (bys.length);obtain⟨pl,al⟩:=exq (pk.length);have a1:nm.size=bb:=by rw[<-ak,Im,aj]
 rw[aj]at bg;rw[ah]at bh;rw[al]at a2;rw[ak,ah,al]at af ag ⊢;have b5:=Ab ak;have ar:=Ab aj;have cg:=Ab ah;have bu:=Ab al;have b7:=Bh (n:=bl) (by omega);have cj:=Bh (n:=pl) (by omega);have b9:IntKind.u32.wrap (nm.size:Int)=(bb:Int):=by rw[a1];exact Bh (by omega)
 clear ak aj ah al a1;obtain⟨ov,ao⟩:=h;have F:Hid (Bx (w.alloc (.cells #[.string nm,.slice fa bl fc,.int .i64 (st:Int),.int .i64 (nd:Int),.bool gn,.int .u32 (mt:Int),.slice pa pl pc,.int .u32 (cr:Int)] 71)) w.heap.size nm fa bl fc st nd gn mt pa pl pc cr):=Ab (heap_alloc_new w _)
 have E:Hid (ZUp M w b xs (w.alloc (.cells #[.string nm,.slice fa bl fc,.int .i64 (st:Int),.int .i64 (nd:Int),.bool gn,.int .u32 (mt:Int),.slice pa pl pc,.int .u32 (cr:Int)] 71))):=
  Ab ⟨⟨ov,ao.later ((Below.refl _ _).alloc (VB _) _)⟩,(Below.refl M w).alloc (by have:=ao.lt;have:=ao.base;omega) _,KpT.below ((Below.refl _ _).alloc (VB _) _)⟩
 obtain⟨X,bc⟩:=exq (w.heap.size);rw[bc]at F;have cd:=Ab bc;obtain⟨c0,c1,c2,U,T,Z,O,Y⟩:=Ax (Aa F);clear ao;go_enter Tryz.func55,Tryz.ntmps55
 go_wp2_with fail
 refine(Bb M b 4 67324752 _ _ (Aa E).is (by decide) (by omega) (by omega)).mono ?_;rintro e bk ⟨rfl,H⟩;have G:=Ab ((Aa E).trans H);have I:Hid (Bx bk X nm fa bl fc st nd gn mt pa pl pc cr):=Ab (H.kp _ _ _ _ (by decide) (by decide) (Aa F));clear H E F c0 c1 c2 U T Z O Y;have E:=G;clear G;have F:=I;clear I;obtain⟨c0,c1,c2,U,T,Z,O,Y⟩:=Ax (Aa F);go_wp2_with fail
 refine(Aa af _ _ (Aa E).is (by simp only[VE,Ai];omega)).mono ?_;rintro e a4 ⟨rfl,H⟩;have G:=Ab ((Aa E).trans H);have I:Hid (Bx a4 X nm fa bl fc st nd gn mt pa pl pc cr):=Ab (H.kp _ _ _ _ (by decide) (by decide) (Aa F));clear H E F c0 c1 c2 U T Z O Y;have E:=G;clear G;have F:=I;clear I;obtain⟨c0,c1,c2,U,T,Z,O,Y⟩:=Ax (Aa F);obtain⟨b3,aa⟩:=(Aa E).is;obtain⟨d0,au⟩:=aa.new;have ae:=Ab aa;clear aa;go_wp2;go_region_law (refine LL rfl (.tmp 13) (.tmp 16) rfl a4 M b _ nml _ rfl (Aa ae) (by repeat (first|with_reducible exact Aw _ _|with_reducible refine Cb ?_|with_reducible refine ga ?_ _)) (congrArg Value.string (Aa b5).symm) (by simp only[VE,Ai,aw,Aa ar];omega) ?_;intro bf bd a3 w' ax ay ac)
 all_goals
  have G:=Ab ((Aa E).trans (Aa ac));have I:Hid (Bx (w'.setCell ⟨b,0,none⟩ (.slice bf bd a3)) X nm fa bl fc st nd gn mt pa pl pc cr):=Ab ((Aa ac).kp _ _ _ _ (by decide) (by decide) (Aa F));clear ax ay ac E F c0 c1 c2 U T Z O Y d0 au ae;have E:=G;have F:=I;clear G I;obtain⟨c0,c1,c2,U,T,Z,O,Y⟩:=Ax (Aa F);go_wp2_with fail
  refine(Aa ag _ _ (Aa E).is (by simp only[VE,Ai,aw,Da,Aa ar];omega)).mono ?_;rintro e w3 ⟨rfl,H⟩;have G:=Ab ((Aa E).trans H);have I:Hid (Bx w3 X nm fa bl fc st nd gn mt pa pl pc cr):=Ab (H.kp _ _ _ _ (by decide) (by decide) (Aa F));clear H E F c0 c1 c2 U T Z O Y;have E:=G;clear G;have F:=I;clear I;obtain⟨c0,c1,c2,U,T,Z,O,Y⟩:=Ax (Aa F);obtain⟨b3,aa⟩:=(Aa E).is;obtain⟨d0,au⟩:=aa.new;have ae:=Ab aa;clear aa;go_wp2;go_region_law (refine LM rfl (.tmp 27) (.tmp 29) rfl w3 M b _ pk _ rfl (Aa ae) (by repeat (first|with_reducible exact Aw _ _|with_reducible refine Cb ?_|with_reducible refine ga ?_ _)) pa pl pc rfl (Aa bu) (Z0d (Aa bo) (Aa E).below (Aa bq) (by repeat (first|with_reducible exact Aw _ _|with_reducible refine Cb ?_|with_reducible refine ga ?_ _))) (by simp only[VE,Ai,aw,bn,Da,Aa ar];omega) ?_;intro bf bd a3 w' ax ay ac)
  all_goals
   have G:=Ab ((Aa E).trans (Aa ac));clear ax ay ac E F c0 c1 c2 U T Z O Y d0 au ae;have E:=G;clear G;go_wp2;go_end0
   refine⟨rfl, ?_⟩;rw[a7];simp only[<-VS];exact Aa E
theorem SH (Z b p:Nat)(x:Ev)(xs:List Nat)(w:World)(h:∃ov,ZC Z w b xs ov)(ay:ENum x.e)(b7:p<=1000000)(ck:xs.length<=700000):
 Calls Tryz.prog 56 #[.pointer (some ⟨b,0,none⟩),x.val,.int .i64 (p:Int)] w fun e w'=>e=.returned (.tuple #[])/\ZUp Z w b (xs++Qo x.e p) w':=by
 obtain⟨x,fa,fc,pa,pc⟩:=x;obtain⟨⟨nml,bys,a9,a2,gn⟩,mt,pk,cr⟩:=x;have a1:=ay;obtain⟨⟨bu,st1⟩,⟨ba,bo⟩,a7,a8,aw,bf,bj⟩:=ay;simp only at bu st1 ba bo a7 a8 aw bf bj
 obtain⟨st,rfl⟩:∃st:Nat,a9=(st:Int):=⟨a9.toNat,by omega⟩
 obtain⟨nd,rfl⟩:∃nd:Nat,a2=(nd:Int):=⟨a2.toNat,by omega⟩
 have cd:((st:Int)).toNat=st:=by omega
 have b0:=Bh (n:=st) (by omega);have cg:=Bh (n:=nd) (by omega);have az:=(show Qo ⟨⟨nml,bys,(st:Int),(nd:Int),gn⟩,mt,pk,cr⟩ p=Ag 33639248 4++Ag 20 2++To ⟨⟨nml,bys,(st:Int),(nd:Int),gn⟩,mt,pk,cr⟩++Ag 0 10++Ag p 4++n8 nml++Jj ⟨⟨nml,bys,(st:Int),(nd:Int),gn⟩,mt,pk,cr⟩ from rfl)
 have aa:=Ab (fun ys W au ao=>AK Z b ⟨⟨⟨nml,bys,(st:Int),(nd:Int),gn⟩,mt,pk,cr⟩,fa,fc,pa,pc⟩ ys W au a1 ao);have ac:=Ab (fun ys W au ao=>AM Z b ⟨⟨⟨nml,bys,(st:Int),(nd:Int),gn⟩,mt,pk,cr⟩,fa,fc,pa,pc⟩ ys W au a1 ao);obtain⟨bm,af⟩:=exq (To ⟨⟨nml,bys,(st:Int),(nd:Int),gn⟩,mt,pk,cr⟩);obtain⟨bq,al⟩:=exq (Jj ⟨⟨nml,bys,(st:Int),(nd:Int),gn⟩,mt,pk,cr⟩);have ag:bm.length=26:=by rw[<-af];exact Ly _
 have b3:bq.length=11:=by rw[<-al];exact Ie _
 unfold Ev.val at aa ac;dsimp only at aa ac;rw[af,al]at az;rw[af]at aa;rw[al]at ac;clear af al;unfold Ev.val;dsimp only;have b9:=Bh (n:=p) (by omega);obtain⟨nm,ai⟩:=exq (B nml);obtain⟨a3,ah⟩:=exq (nml.length);obtain⟨bl,ae⟩:=exq (bys.length);obtain⟨pl,aj⟩:=exq (pk.length);have av:nm.size=a3:=by rw[<-ai,Im,ah]
 rw[ah]at a7;rw[ae]at a8;rw[aj]at aw;rw[ai,ae,aj]at aa ac ⊢;have bv:=Ab ai;have ax:=Ab ah;have ce:=Ab ae;have b5:=Ab aj;have bz:=Bh (n:=bl) (by omega);have cj:=Bh (n:=pl) (by omega);have b4:IntKind.u32.wrap (nm.size:Int)=(a3:Int):=by rw[av];exact Bh (by omega)
 clear ai ah ae aj av;obtain⟨ov,ak⟩:=h;have F:Hid (Bx (w.alloc (.cells #[.string nm,.slice fa bl fc,.int .i64 (st:Int),.int .i64 (nd:Int),.bool gn,.int .u32 (mt:Int),.slice pa pl pc,.int .u32 (cr:Int)] 71)) w.heap.size nm fa bl fc st nd gn mt pa pl pc cr):=Ab (heap_alloc_new w _)
 have E:Hid (ZUp Z w b xs (w.alloc (.cells #[.string nm,.slice fa bl fc,.int .i64 (st:Int),.int .i64 (nd:Int),.bool gn,.int .u32 (mt:Int),.slice pa pl pc,.int .u32 (cr:Int)] 71))):=
  Ab ⟨⟨ov,ak.later ((Below.refl _ _).alloc (VB _) _)⟩,(Below.refl Z w).alloc (by have:=ak.lt;have:=ak.base;omega) _,KpT.below ((Below.refl _ _).alloc (VB _) _)⟩
 obtain⟨X,a4⟩:=exq (w.heap.size);rw[a4]at F;have b8:=Ab a4;obtain⟨c0,c1,c2,T,O,Y,M,U⟩:=Ax (Aa F);clear ak;go_enter Tryz.func56,Tryz.ntmps56
 go_wp2_with fail
 refine(Bb Z b 4 33639248 _ _ (Aa E).is (by decide) (by omega) (by omega)).mono ?_;rintro e bb ⟨rfl,G⟩;have H:=Ab ((Aa E).trans G);have I:Hid (Bx bb X nm fa bl fc st nd gn mt pa pl pc cr):=Ab (G.kp _ _ _ _ (by decide) (by decide) (Aa F));clear G E F c0 c1 c2 T O Y M U;have E:=H;clear H;have F:=I;clear I;obtain⟨c0,c1,c2,T,O,Y,M,U⟩:=Ax (Aa F);go_wp2_with fail
 refine(Bb Z b 2 20 _ _ (Aa E).is (by decide) (by omega) (by simp only[VE,Ai];omega)).mono ?_;rintro e bd ⟨rfl,G⟩;have H:=Ab ((Aa E).trans G);have I:Hid (Bx bd X nm fa bl fc st nd gn mt pa pl pc cr):=Ab (G.kp _ _ _ _ (by decide) (by decide) (Aa F));clear G E F c0 c1 c2 T O Y M U;have E:=H;clear H;have F:=I;clear I;obtain⟨c0,c1,c2,T,O,Y,M,U⟩:=Ax (Aa F);go_wp2_with fail
 refine(Aa aa _ _ (Aa E).is (by simp only[VE,Ai];omega)).mono ?_;rintro e w3 ⟨rfl,G⟩;have H:=Ab ((Aa E).trans G);have I:Hid (Bx w3 X nm fa bl fc st nd gn mt pa pl pc cr):=Ab (G.kp _ _ _ _ (by decide) (by decide) (Aa F));clear G E F c0 c1 c2 T O Y M U;have E:=H;clear H;have F:=I;clear I;obtain⟨c0,c1,c2,T,O,Y,M,U⟩:=Ax (Aa F);go_wp2_with fail
 refine(Hc Z b 10 _ _ (Aa E).is (by decide) (by simp only[VE,Ai,ag];omega)).mono ?_;rintro e bw ⟨rfl,G⟩;have H:=Ab ((Aa E).trans G);have I:Hid (Bx bw X nm fa bl fc st nd gn mt pa pl pc cr):=Ab (G.kp _ _ _ _ (by decide) (by decide) (Aa F));clear G E F c0 c1 c2 T O Y M U;have E:=H;clear H;have F:=I;clear I;obtain⟨c0,c1,c2,T,O,Y,M,U⟩:=Ax (Aa F);go_wp2_with fail
 refine(Bb Z b 4 p _ _ (Aa E).is (by decide) (by omega) (by simp only[VE,Ai,ag];omega)).mono ?_;rintro e a6 ⟨rfl,G⟩;have H:=Ab ((Aa E).trans G);have I:Hid (Bx a6 X nm fa bl fc st nd gn mt pa pl pc cr):=Ab (G.kp _ _ _ _ (by decide) (by decide) (Aa F));clear G E F c0 c1 c2 T O Y M U;have E:=H;clear H;have F:=I;clear I;obtain⟨c0,c1,c2,T,O,Y,M,U⟩:=Ax (Aa F);obtain⟨ci,ar⟩:=(Aa E).is;obtain⟨d0,bg⟩:=ar.new;have a5:=Ab ar;clear ar;go_wp2;go_region_law (refine LL rfl (.tmp 23) (.tmp 26) rfl a6 Z b _ nml _ rfl (Aa a5) (by repeat (first|with_reducible exact Aw _ _|with_reducible refine Cb ?_|with_reducible refine ga ?_ _)) (congrArg Value.string (Aa bv).symm) (by simp only[VE,Ai,ag,Aa ax];omega) ?_;intro bk bi bc w' bh bn ap)
 all_goals
  have H:=Ab ((Aa E).trans (Aa ap));have I:Hid (Bx (w'.setCell ⟨b,0,none⟩ (.slice bk bi bc)) X nm fa bl fc st nd gn mt pa pl pc cr):=Ab ((Aa ap).kp _ _ _ _ (by decide) (by decide) (Aa F));clear bh bn ap E F c0 c1 c2 T O Y M U d0 bg a5;have E:=H;have F:=I;clear H I;obtain⟨c0,c1,c2,T,O,Y,M,U⟩:=Ax (Aa F);go_wp2_with fail
  refine(Aa ac _ _ (Aa E).is (by simp only[VE,Ai,ag,Da,Aa ax];omega)).mono ?_;rintro e w6 ⟨rfl,G⟩;have H:=Ab ((Aa E).trans G);clear G E;have E:=H;clear H;go_wp2;go_end0
  refine⟨rfl, ?_⟩;rw[az];simp only[<-VS];exact Aa E
theorem Z5j {w:World}{a:Option Addr}{c:Nat}{bs:List UInt8}(G:BsIn w a c bs):PkIn w a c (n8 bs):=by
 rcases G with ⟨rfl,rfl,rfl⟩|⟨rfl,ad,rfl⟩|⟨b,o,rfl,F,I,H⟩
 . exact⟨.inl rfl,fun _=>rfl⟩
 . exact⟨.inl rfl,fun e=>by cases e⟩
 . refine⟨.inr ⟨b,o,rfl,F,fun j E=> ?_⟩,fun e=>by cases e⟩;rw[Da]at E;rw[H j E];simp[n8,List.getD,E]
theorem Z6e {w:World}{a:Option Addr}{c:Nat}{ys:List Nat}(F:PkIn w a c ys)(I:ys.length<=c)(H:∀x∈ys,x<256):BsIn w a c (o8 ys):=by
 cases a with
 |none=>
  have M:=F.2 rfl;have:ys= []:=WV (by omega)
  subst this;exact .inl ⟨rfl,rfl,M⟩
 |some ad=>
  rcases F.1 with rfl|⟨b,o,e,hb,G⟩
  . exact .inr (.inl ⟨rfl,ad,rfl⟩)
  . refine .inr (.inr ⟨b,o,e,hb,by rw[Ey];exact I,fun j E=> ?_⟩);rw[Ey]at E;rw[G j E];have O:=H ys[j] (WK E);simp[o8,List.getD,E]
    omega
structure EvIn (w:World)(x:Ev):Prop where
 fb:PkIn w x.fa x.fc (n8 x.e.f.bytes)
 fl:x.e.f.bytes.length<=x.fc
 big:x.e.f.bytes.length<=140737488355328
 txt:x.e.f.name.length<=140737488355328
 pk:PkIn w x.pa x.pc x.e.pk
theorem EvIn.below {w w':World}{x:Ev}(E:EvIn w x)(F:Below w.heap.size w w'):EvIn w' x:=⟨E.fb.below F,E.fl,E.big,E.txt,E.pk.below F⟩
theorem EvIn.fv {w:World}{x:Ev}(E:EvIn w x):FvIn w ⟨x.e.f,x.fa,x.fc⟩:=⟨by have:=Z6e E.fb (by rw[Da];exact E.fl) (Lv _);rw[FQ]at this;exact this,E.big,E.txt⟩
theorem RE {w:World}{a:Option Addr}{c:Nat}{bs:List UInt8}(F:BsIn w a c bs):bs.length<=c:=by
 rcases F with ⟨rfl,rfl,rfl⟩|⟨rfl,ad,rfl⟩|⟨b,o,rfl,H,E,G⟩
 . exact VB _
 . exact VH _
 . exact E
theorem PkIn.grown {w w':World}{c:Nat}{r:Option Nat}{a:Option Addr}{ys:List Nat}(F:PkIn w a c ys)(G:w.grownBy w' r)(H:∀g o,a=some ⟨g,o,none⟩->ys≠ []->some g≠r):PkIn w' a c ys:=by
 refine⟨?_,F.2⟩
 by_cases E:ys= []
 . exact .inl E
 . rcases F.1 with I|⟨b,o,e,hb,hc⟩
   . exact absurd I E
   . exact .inr ⟨b,o,e,VG hb G.size,hc.grown G (H b o e E)⟩
def Ev.lies (x:Ev)(Pr:Nat->Prop):Prop:=(∀g o,x.fa=some ⟨g,o,none⟩->x.e.f.bytes≠ []->Pr g)/\(∀g o,x.pa=some ⟨g,o,none⟩->x.e.pk≠ []->Pr g)
theorem NM {l:List UInt8}(E:n8 l≠ []):l≠ []:=fun e=>E (by rw[e];rfl)
theorem EvIn.grown {w w':World}{x:Ev}{r:Option Nat}(E:EvIn w x)(G:w.grownBy w' r)(H:x.lies (fun g=>some g≠r)):EvIn w' x:=
 ⟨E.fb.grown G (fun g o F e2=>H.1 g o F (NM e2)),E.fl,E.big,E.txt,E.pk.grown G (fun g o F e2=>H.2 g o F e2)⟩
theorem Ev.lies.mono {x:Ev}{F C:Nat->Prop}(G:x.lies F)(H:∀g,F g->C g):x.lies C:=⟨fun g o E e2=>H g (G.1 g o E e2),fun g o E e2=>H g (G.2 g o E e2)⟩
theorem EvIn.lt {w:World}{x:Ev}(G:EvIn w x):x.lies (fun g=>g<w.heap.size):=by
 constructor
 . intro g o F e2
   rcases G.fb.1 with E|⟨b,H,e,hb,_⟩
   . exact absurd (by rw[<-FQ x.e.f.bytes,E];rfl) e2
   . rw[F]at e;cases e;exact hb
 . intro g o F e2
   rcases G.pk.1 with E|⟨b,H,e,hb,_⟩
   . exact absurd E e2
   . rw[F]at e;cases e;exact hb
theorem Xm {w:World}{a:Option Addr}{c:Nat}{ys:List Nat}(F:PkIn w a c ys):∀g o,a=some ⟨g,o,none⟩->ys≠ []->g<w.heap.size:=by
 intro g o e H
 rcases F.1 with G|⟨b,I,E,hb,_⟩
 . exact absurd G H
 . rw[e]at E;cases E;exact hb
theorem Eu {E:Type}{l:List E}{k:Nat}{x:E}(F:l[k]? =some x):l.take (k+1)=l.take k++ [x]:=by
 obtain⟨G,e⟩:=XT.1 F;rw[XB G,e]
def ecells (xs:List Ev):List Value:=xs.flatMap Ev.cells
theorem II (xs:List Ev):(ecells xs).length=xs.length*8:=by
 induction xs with
 |nil=>rfl
 |cons x r ih=>
  have:ecells (x::r)=x.cells++ecells r:=rfl
  rw[this,VE,ih,VJ];show 8+_=_
  omega
theorem IJ (xs ys:List Ev):ecells (xs++ys)=ecells xs++ecells ys:=by simp[ecells]
theorem IH (y:Ev):ecells [y]=y.cells:=by simp[ecells]
theorem N6:∀(xs:List Ev) (j:Nat) (x:Ev) (i:Nat),xs[j]? =some x->i<8->(ecells xs)[j*8+i]? =x.cells[i]?
 | [],j,x,i,h,_=>by simp at h
 |y::r,0,x,i,h,hi=>by
  have:ecells (y::r)=y.cells++ecells r:=rfl
  simp at h
  subst h;rw[this,YJ,WG,WN (show i<8 from hi)]
 |y::r,j+1,x,i,h,hi=>by
  have e:ecells (y::r)=y.cells++ecells r:=rfl;have hl:y.cells.length=8:=rfl;have ih:=N6 r j x i (by simpa using h) hi;rw[e,VX (by rw[hl];omega),hl,show (j+1)*8+i-8=j*8+i by omega,ih]
theorem Z5 (y:Ev):∀u∈y.cells,u.oneCell'=true:=by
 intro u E;simp only[Ev.cells,WH,XE,or_false]at E
 rcases E with rfl|rfl|rfl|rfl|rfl|rfl|rfl|rfl<;>rfl
structure ERow (w:World)(B:Nat)(v:Value)(xs:List Ev):Prop where
 own:w.ownsRow B 71 8 v xs.length (ecells xs)
 all:∀x∈xs,EvIn w x
 apart:∀x∈xs,x.lies (fun g=>some g≠v.ownBlock)
theorem ERow.nil (w:World)(B:Nat):ERow w B (.slice none 0 0) []:=⟨World.ownsRow_nil _ _ _ _,(fun x E=>absurd E XE),(fun x E=>absurd E XE)⟩
theorem ERow.below {w w':World}{B:Nat}{v:Value}{xs:List Ev}(E:ERow w B v xs)(F:Below w.heap.size w w'):ERow w' B v xs:=
 ⟨Au E.own (fun g G=>F.block g (E.own.lt g G).2),fun x H=>(E.all x H).below F,E.apart⟩
theorem GM:(Tryz.prog.info? 71).map (fun i=>(i.zero,i.size,i.bytes))=some (some (.agg #[.string ⟨#[]⟩,.slice none 0 0,.int .i64 0,.int .i64 0,.bool false,.int .u32 0,.slice none 0 0,.int .u32 0]),8,104):=by kernel_rfl
theorem Fr (w:World){T:Array Oper}{U:List Oper}{o:Oper}{a:Act}{Q:Exit->Act->World->Prop}(ah:o.guard=none)(s x:Operand)
 (Z:o.op=.call {callee:=.builtin .append,args:= #[s,x],argTypes:= #[69,69]}) (H:Nat) (v:Value) (xs:List Ev) (ak:a.eval s=v) (I:ERow w H v xs)
 (F:Nat) (y:Ev) (ap:a.eval x=.slice (some ⟨F,0,none⟩) 1 1) (ar:∀j u,y.cells[j]? =some u->w.cell? ⟨F,j,none⟩=some u) (aj:EvIn w y) (aa:y.lies (fun F=>some F≠v.ownBlock)) (au:xs.length+1<=100000) (ag:H<=w.heap.size)
 (h:∀v' w',Hid (ERow w' H v' (xs++ [y]))->Hid (w.grownBy w' v.ownBlock)->wpList Tryz.prog T Q U (a.put o.dst v') w'):wpList Tryz.prog T Q (o::U) a w:=by
 obtain⟨ac,hi,af,al,ai⟩:=info_parts GM;refine wpList_append_own_at w ah s x 69 Z H 71 ac _ 8 104 Tryz.underlying69 hi af al ai rfl (by decide) v xs.length (ecells xs) ak I.own ⟨F,0,none⟩ 1 1 y.cells ap rfl ?_ (Z5 y) (by unfold maxLen;omega) (by omega) ag ?_
 . intro j u ae;have e2:(⟨F,0,none⟩:Addr).add j=⟨F,j,none⟩:=by unfold Addr.add;split<;>simp_all
   rw[e2];exact ar j u ae
 . intro v' w' ao M _ G
   have Y:∀z∈xs++ [y],z.lies (fun F=>some F≠v.ownBlock):=by
    intro z E
    rcases WP.1 E with E|E
    . exact I.apart z E
    . rw[WO.1 E];exact aa
   have O:∀z∈xs++ [y],EvIn w z:=by
    intro z E
    rcases WP.1 E with E|E
    . exact I.all z E
    . rw[WO.1 E];exact aj
   refine h v' w' (Ab ⟨?_,fun z E=>(O z E).grown M (Y z E),fun z E=> ?_⟩) (Ab M)
   . rw[IJ,IH,VE];exact ao
   . have hl:=(O z E).lt;have hn:=Y z E
     rcases G with G|G
     . rw[G];exact hn
     . rw[G];exact hl.mono (fun F av e=>by have:=VM e;omega)
def Es (w:World)(b o:Nat)(xs:List Ev):Prop:=∀j x,xs[j]? =some x->∀i,i<8->w.cell? ⟨b,o+j*8+i,none⟩=x.cells[i]?
structure EsIn (w:World)(ad:Option Addr)(c:Nat)(xs:List Ev):Prop where
 at_:xs= []\/∃b o,ad=some ⟨b,o,none⟩/\b<w.heap.size/\Es w b o xs
 all:∀x∈xs,EvIn w x
theorem EsIn.below {w w':World}{G:Option Addr}{c:Nat}{xs:List Ev}(F:EsIn w G c xs)(E:Below w.heap.size w w'):EsIn w' G c xs:=by
 refine⟨?_,fun x O=>(F.all x O).below E⟩
 rcases F.at_ with I|⟨b,o,e,hb,H⟩
 . exact .inl I
 . exact .inr ⟨b,o,e,VG hb E.size,fun j x M i hi=>(World.cell?_of_block (w:=w) (a:=⟨b,_,none⟩) (E.block b hb)).trans (H j x M i hi)⟩
theorem EsIn.get {w w':World}{M:Option Addr}{c k:Nat}{xs:List Ev}{x:Ev}(I:EsIn w M c xs)(T:Below w.heap.size w w')(E:xs[k]? =some x):
 ∃b o,M=some ⟨b,o,none⟩/\b<w.heap.size/\w'.cell? ⟨b,o+k*8,none⟩=some (.string (B x.e.f.name))/\w'.cell? ⟨b,o+k*8+1,none⟩=some (.slice x.fa x.e.f.bytes.length x.fc)/\w'.cell? ⟨b,o+k*8+2,none⟩=some (.int .i64 x.e.f.stamp)/\w'.cell? ⟨b,o+k*8+3,none⟩=some (.int .i64 x.e.f.node)/\w'.cell? ⟨b,o+k*8+4,none⟩=some (.bool x.e.f.gone)/\w'.cell? ⟨b,o+k*8+5,none⟩=some (.int .u32 (x.e.meth:Int))/\w'.cell? ⟨b,o+k*8+6,none⟩=some (.slice x.pa x.e.pk.length x.pc)/\w'.cell? ⟨b,o+k*8+7,none⟩=some (.int .u32 (x.e.crc:Int)):=by
 rcases(I.below T).at_ with G|⟨b,o,e,hb,F⟩
 . subst G;simp at E
 . have H:b<w.heap.size:=by
    rcases I.at_ with G|⟨Y,U,O,H,_⟩
    . subst G;simp at E
    . rw[e]at O;cases O;exact H
   exact⟨b,o,e,H,F k x E 0 (by decide),F k x E 1 (by decide),F k x E 2 (by decide),F k x E 3 (by decide),F k x E 4 (by decide),F k x E 5 (by decide),F k x E 6 (by decide),F k x E 7 (by decide)⟩
def Tl:Nat->List En->List Nat
 |_,[]=> []
 |p,x::r=>p::Tl (p+(Vr x).length) r
theorem BQ:∀(a:List En) (x:En) (p:Nat),Tl p (a++ [x])=Tl p a++ [p+(Av a).length]
 | [],x,p=>by simp[Tl,Av]
 |y::a,x,p=>by rw[XL,Tl,BQ a x,Tl,Av,VE,XL,WT]
theorem V4:∀(a:List En) (p:Nat),(Tl p a).length=a.length
 | [],p=>rfl
 |y::a,p=>by rw[Tl,VJ,V4 a,VJ]
theorem Z2j:∀(a:List En) (p k:Nat),k<a.length->(Tl p a).getD k 0=p+(Av (a.take k)).length
 | [],p,k,h=>by simp at h
 |y::a,p,0,h=>by simp[Tl,Av]
 |y::a,p,k+1,h=>by
  have:=Z2j a (p+(Vr y).length) k (by simpa using h)
  simp only[Tl,List.getD_cons_succ,XU,Av,VE];rw[this];omega
theorem J3 (a:List En)(x:En):Av (a++ [x])=Av a++Vr x:=by rw[CW];simp[Av]
theorem Uq (a:List En)(x:En):Ao 0 (a++ [x])=Ao 0 a++Qo x (Av a).length:=by rw[Zv];simp[Ao]
theorem ERow.entries {w:World}{B:Nat}{v:Value}{xs:List Ev}(E:ERow w B v xs):∃ad c,v=.slice ad xs.length c/\EsIn w ad c xs:=by
 rcases E.own.2 with ⟨F,G⟩|⟨g,cap,cur,F,G,U,O,M⟩
 . exact⟨none,0,by rw[F,G],.inl (WV G),E.all⟩
 . refine⟨some ⟨g,0,none⟩,cap,F,.inr ⟨g,0,rfl,(E.own.lt g (by rw[F];rfl)).2,fun j x H i hi=> ?_⟩,E.all⟩;have I:=E.own;rw[F]at I;have hl:=II xs;have T:=(XT.1 H).1;rw[WG,I.cellAt _ (by omega)];exact N6 xs j x i H hi
structure AS (w:World)(Bs b:Nat)(xs:List Nat)(v:Value)(ps:List Nat)(wr:World):Prop where
 z:∃ov,ZC Bs wr b xs ov
 p:wr.ownsRow (b+1) 3 1 v ps.length (i64s ps)
 below:Below Bs w wr
theorem AS.later {w wr w':World}{H b:Nat}{xs I:List Nat}{v:Value}(E:AS w H b xs v I wr)(G:Below wr.heap.size wr w'):AS w H b xs v I w':=by
 obtain⟨ov,F⟩:=E.z;refine⟨⟨ov,F.later G⟩,Au E.p (fun g M=>G.block g (E.p.lt g M).2),E.below.trans (G.mono (by have:=F.lt;have:=F.base;omega))⟩
theorem AS.app {w W I:World}{O b y:Nat}{xs H:List Nat}{v v':Value}(F:AS w O b xs v H W)(G:W.grownBy I v.ownBlock)(T:I.ownsRow (b+1) 3 1 v' (H.length+1) (i64s H++ [.int .i64 (y:Int)])):AS w O b xs v' (H++ [y]) I:=by
 obtain⟨ov,E⟩:=F.z;have U:=E.lt;have Z:=E.base;have aa:=G.size;refine⟨⟨ov,E.base, ?_, ?_⟩, ?_, ?_⟩
 . refine(G.block b U (fun e=> ?_)).trans E.cell;have:=(F.p.lt b e.symm).1
   omega
 . refine Au E.own (fun g M=>G.block g (E.own.lt g M).2 (fun e=> ?_));obtain⟨c1,Y⟩:=Oy E.own M;obtain⟨c2,e2⟩:=Oy F.p e.symm;rw[Y]at e2
   injection e2 with e2
   injection e2 with _ e2
   exact absurd e2 (by decide)
 . rw[VE,i64s,WU];exact T
 . exact F.below.grown G (by omega) (fun g e=>by have:=(F.p.lt g e).1;omega)
theorem AS.up {w I H:World}{G b:Nat}{xs ys M:List Nat}{v:Value}(F:AS w G b xs v M I)(E:ZUp G I b ys H):AS w G b ys v M H:=by
 refine⟨E.is,Au F.p (fun g O=> ?_),F.below.trans E.below⟩;obtain⟨cs,e⟩:=Oy F.p O;rw[e];exact E.kp g cs _ _ (by decide) (by decide) e
theorem OI:(Tryz.prog.info? 3).map (fun i=>(i.zero,i.size,i.bytes))=some (some (.int .i64 0),1,8):=by kernel_rfl
theorem OU:∀(l:List En),(∀x∈l,ENum x)->(Av l).length<=12081*l.length
 | [],_=>by simp[Av]
 |x::r,h=>by
  have G:=OU r (fun y F=>h y (WR _ F));have E:=h x (by simp);have I:=E.nm;have H:=E.pl;rw[Av,VE,Kc,VJ];omega
theorem BH:∀(l:List En) (p:Nat),(∀x∈l,ENum x)->(Ao p l).length<=97*l.length
 | [],p,_=>by simp[Ao]
 |x::r,p,h=>by
  have F:=BH r (p+(Vr x).length) (fun y E=>h y (WR _ E));have G:=(h x (by simp)).nm;rw[Ao,VE,Lk,VJ];omega
abbrev X7:Array MapEntry:= #[{key:=.bool true,val:=.int .i64 1,born:=0}]
theorem Z4n (X:World):(Instr.mapUpdate 111 (.map (some X.heap.size)) (.bool true) (.int .i64 1)).run Tryz.prog (X.alloc (.map #[] 0))=.ok () (X.alloc (.map X7 1)):=by
 have hb:(X.alloc (.map #[] 0)).heap[X.heap.size]? =some (.map #[] 0):=heap_alloc_new X _;have E:=Tryz.underlying4;have G:Instr.findNow .bool (.bool true) ([]:List MapEntry) 0=some none:=rfl;have hc:(Instr.checkKey false 10000 4 (.bool true)).run Tryz.prog (X.alloc (.map #[] 0))=.ok () (X.alloc (.map #[] 0)):=MapKept.run_checkKey (k:=.bool true) E (by simp[MapKept.IsKey]) false 9999
 have H: {X.alloc (.map #[] 0)with heap:=(X.alloc (.map #[] 0)).heap.setIfInBounds X.heap.size (.map X7 1)}=X.alloc (.map X7 1):=by
  have I:(X.alloc (.map #[] 0)).heap.setIfInBounds X.heap.size (.map X7 1)=(X.alloc (.map X7 1)).heap:=by
   show (X.heap.push (.map #[] 0)).setIfInBounds X.heap.size (.map X7 1)=X.heap.push (.map X7 1)
   apply Array.ext
   . simp
   . intro i F M;simp only[Array.size_setIfInBounds,YV]at F;rw[Array.getElem_setIfInBounds]
     by_cases hi:X.heap.size=i
     . subst hi;simp
     . rw[if_neg hi,Array.getElem_push_lt (by omega),Array.getElem_push_lt (by omega)]
     . simpa using F
  rw[I];rfl
 simp only[Instr.mapUpdate,Sem.run_bind,run_underlying Tryz.underlying111,MapKept.run_getObj_map hb,hc,MapKept.run_findKey E G,MapKept.run_setObj_map _ hb,Result.andThen];exact congrArg (Result.ok ()) H
theorem Z10 (W:World)(r:Nat)(E:Bool)(H:W.heap[r]? =some (.map X7 1)):(Instr.lookup 111 (.map (some r)) (.bool E) false).run Tryz.prog W=.ok (.int .i64 (if E then 1 else 0)) W:=by
 have F:=Tryz.underlying4;have hc:(Instr.checkKey false 10000 4 (.bool E)).run Tryz.prog W=.ok () W:=MapKept.run_checkKey (k:=.bool E) F (by simp[MapKept.IsKey]) false 9999;have G:Instr.findNow .bool (.bool E) X7.toList 0=some (if E then some (0,.int .i64 1)else none):=by cases E<;>rfl
 have I:(zeroValue 3).run Tryz.prog W=.ok (.int .i64 0) W:=Tryz.zeroValue3 W
 cases E
 . simp[Instr.lookup,run_underlying Tryz.underlying111,MapKept.run_getObj_map H,hc,MapKept.run_findKey F G,I,Result.andThen]
 . simp[Instr.lookup,run_underlying Tryz.underlying111,MapKept.run_getObj_map H,hc,MapKept.run_findKey F G,Result.andThen]
end Go.Proofs.YtleocpdblhbimaaGreatDoor
