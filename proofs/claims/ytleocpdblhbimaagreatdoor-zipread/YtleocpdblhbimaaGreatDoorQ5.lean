import Derived.Test.YtleocpdblhbimaaGreatDoorQ4
import Derived.Deep.RegionHeld3
import Derived.Deep.RegionWith
import Derived.Maps.Own
set_option linter.unusedSimpArgs false
set_option linter.unusedVariables false
set_option maxRecDepth 100000
set_option maxHeartbeats 4000000
namespace Go.Proofs.YtleocpdblhbimaaGreatDoor
open Go.RowKit
structure Ev where
 e:En
 fa:Option Addr
 fc:Nat
 pa:Option Addr
 pc:Nat
def Ev.cells (x:Ev):List Value:= [.string (B x.e.f.name),.slice x.fa x.e.f.bytes.length x.fc,.int .i64 x.e.f.stamp,.int .i64 x.e.f.node,.bool x.e.f.gone,.int .u32 (x.e.meth:Int),.slice x.pa x.e.pk.length x.pc,.int .u32 (x.e.crc:Int)]
def Ev.val (x:Ev):Value:=.agg #[.string (B x.e.f.name),.slice x.fa x.e.f.bytes.length x.fc,.int .i64 x.e.f.stamp,.int .i64 x.e.f.node,.bool x.e.f.gone,.int .u32 (x.e.meth:Int),.slice x.pa x.e.pk.length x.pc,.int .u32 (x.e.crc:Int)]
structure ENum (x:En):Prop where
 st:0<=x.f.stamp/\x.f.stamp<=1000000
 nd:0<=x.f.node/\x.f.node<=3
 nm:x.f.name.length<=40
 bl:x.f.bytes.length<=3000
 pl:x.pk.length<=12000
 cr:x.crc<4294967296
 mt:x.meth<65536
theorem Bh {n:Nat}(E:n<4294967296):IntKind.u32.wrap (n:Int)=(n:Int):=by simp[IntKind.wrap,IntKind.bits,IntKind.signed];omega
abbrev Bx (w:World)(X:Nat)(nm:ByteArray)(fa:Option Addr)(bl fc:Nat)(st nd:Nat)(gn:Bool)(mt:Nat)(pa:Option Addr)(pl pc cr:Nat):Prop:=
 w.heap[X]? =some (.cells #[.string nm,.slice fa bl fc,.int .i64 (st:Int),.int .i64 (nd:Int),.bool gn,.int .u32 (mt:Int),.slice pa pl pc,.int .u32 (cr:Int)] 71 (0,0))
theorem Ax {w:World}{X:Nat}{O:ByteArray}{H:Option Addr}{F I st nd:Nat}{gn:Bool}{mt:Nat}{T:Option Addr}{M G cr:Nat}(E:Bx w X O H F I st nd gn mt T M G cr):w.cell? ⟨X,0,none⟩=some (.string O)/\w.cell? ⟨X,1,none⟩=some (.slice H F I)/\w.cell? ⟨X,2,none⟩=some (.int .i64 (st:Int))/\w.cell? ⟨X,3,none⟩=some (.int .i64 (nd:Int))/\w.cell? ⟨X,4,none⟩=some (.bool gn)/\w.cell? ⟨X,5,none⟩=some (.int .u32 (mt:Int))/\w.cell? ⟨X,6,none⟩=some (.slice T M G)/\w.cell? ⟨X,7,none⟩=some (.int .u32 (cr:Int)):=⟨Ac E,Ac E,Ac E,Ac E,Ac E,Ac E,Ac E,Ac E⟩
theorem AK (Z b:Nat)(x:Ev)(xs:List Nat)(w:World)(h:∃ov,ZC Z w b xs ov)(a8:ENum x.e)(bh:xs.length<=800000):Calls Tryz.prog 78 #[.pointer (some ⟨b,0,none⟩),x.val] w fun e w'=>e=.returned (.tuple #[])/\ZUp Z w b (xs++To x.e) w':=by
 obtain⟨x,fa,fc,pa,pc⟩:=x;obtain⟨⟨nml,bys,ao,ai,gn⟩,mt,pk,cr⟩:=x;obtain⟨⟨a2,st1⟩,⟨bb,a4⟩,aj,al,ar,a5,a6⟩:=a8;simp only at a2 st1 bb a4 aj al ar a5 a6;obtain⟨st,rfl⟩:∃st:Nat,ao=(st:Int):=⟨ao.toNat,om⟩;obtain⟨nd,rfl⟩:∃nd:Nat,ai=(nd:Int):=⟨ai.toNat,om⟩;have bk:=Bh (n:=st) om;have bg:=Bh (n:=nd) om;have av:=(show To ⟨⟨nml,bys,(st:Int),(nd:Int),gn⟩,mt,pk,cr⟩=Ag 20 2++Ag 0 2++Ag mt 2++Ag 0 4++Ag cr 4++Ag pk.length 4++Ag bys.length 4++Ag nml.length 2++Ag 11 2 from rfl);unfold Ev.val;dsimp only;obtain⟨nm,aa⟩:=exq (B nml);obtain⟨ah,ac⟩:=exq (nml.length);obtain⟨bl,ag⟩:=exq (bys.length);obtain⟨pl,af⟩:=exq (pk.length);(have ak:nm.size=ah:=by rw[<-aa,Im,ac]);rw[ac]at aj;rw[ag]at al;rw[af]at ar;rw[aa,ag,af];have bi:=Ab aa;have au:=Ab ac;have ba:=Ab ag;have a1:=Ab af;have bc:=Bh (n:=bl) om;have bj:=Bh (n:=pl) om;(have bf:IntKind.u32.wrap (nm.size:Int)=(ah:Int):=by rw[ak];exact Bh om);clear aa ac ag af ak;obtain⟨ov,ae⟩:=h;have E:Hid (Bx (w.alloc (.cells #[.string nm,.slice fa bl fc,.int .i64 (st:Int),.int .i64 (nd:Int),.bool gn,.int .u32 (mt:Int),.slice pa pl pc,.int .u32 (cr:Int)] 71)) w.heap.size nm fa bl fc st nd gn mt pa pl pc cr):=Ab (heap_alloc_new w _)
 have F:Hid (ZUp Z w b xs (w.alloc (.cells #[.string nm,.slice fa bl fc,.int .i64 (st:Int),.int .i64 (nd:Int),.bool gn,.int .u32 (mt:Int),.slice pa pl pc,.int .u32 (cr:Int)] 71))):=
  Ab ⟨⟨ov,ae.later ((Below.refl _ _).alloc (VB _) _)⟩,(Below.refl Z w).alloc (by have:=ae.lt;have:=ae.base;omega) _,KpT.below ((Below.refl _ _).alloc (VB _) _)⟩
 obtain⟨X,ap⟩:=exq (w.heap.size);rw[ap]at E;have bd:=Ab ap;obtain⟨c0,c1,c2,Y,T,U,M,O⟩:=Ax (Aa E);clear ae;go_enter Tryz.func78,Tryz.ntmps78;go_wp2_with fail;refine(Bb Z b 2 20 _ _ (Aa F).is od om om).mono ?_;rintro e ax ⟨rfl,G⟩;have I:=Ab ((Aa F).trans G);have H:Hid (Bx ax X nm fa bl fc st nd gn mt pa pl pc cr):=Ab (G.kp _ _ _ _ od od (Aa E));clear G F E c0 c1 c2 Y T U M O;have F:=I;clear I;have E:=H;clear H;obtain⟨c0,c1,c2,Y,T,U,M,O⟩:=Ax (Aa E);go_wp2_with fail;refine(Hc Z b 2 _ _ (Aa F).is od (by simp only[VE,Ai];omega)).mono ?_;rintro e az ⟨rfl,G⟩;have I:=Ab ((Aa F).trans G);have H:Hid (Bx az X nm fa bl fc st nd gn mt pa pl pc cr):=Ab (G.kp _ _ _ _ od od (Aa E));clear G F E c0 c1 c2 Y T U M O;have F:=I;clear I;have E:=H;clear H;obtain⟨c0,c1,c2,Y,T,U,M,O⟩:=Ax (Aa E);go_wp2_with fail;refine(Bb Z b 2 mt _ _ (Aa F).is od om (by simp only[VE,Ai];omega)).mono ?_;rintro e w3 ⟨rfl,G⟩;have I:=Ab ((Aa F).trans G);have H:Hid (Bx w3 X nm fa bl fc st nd gn mt pa pl pc cr):=Ab (G.kp _ _ _ _ od od (Aa E));clear G F E c0 c1 c2 Y T U M O;have F:=I;clear I;have E:=H;clear H;obtain⟨c0,c1,c2,Y,T,U,M,O⟩:=Ax (Aa E);go_wp2_with fail;refine(Hc Z b 4 _ _ (Aa F).is od (by simp only[VE,Ai];omega)).mono ?_;rintro e a9 ⟨rfl,G⟩;have I:=Ab ((Aa F).trans G);have H:Hid (Bx a9 X nm fa bl fc st nd gn mt pa pl pc cr):=Ab (G.kp _ _ _ _ od od (Aa E));clear G F E c0 c1 c2 Y T U M O;have F:=I;clear I;have E:=H;clear H;obtain⟨c0,c1,c2,Y,T,U,M,O⟩:=Ax (Aa E);go_wp2_with fail;refine(Bb Z b 4 cr _ _ (Aa F).is od om (by simp only[VE,Ai];omega)).mono ?_;rintro e aw ⟨rfl,G⟩;have I:=Ab ((Aa F).trans G);have H:Hid (Bx aw X nm fa bl fc st nd gn mt pa pl pc cr):=Ab (G.kp _ _ _ _ od od (Aa E));clear G F E c0 c1 c2 Y T U M O;have F:=I;clear I;have E:=H;clear H;obtain⟨c0,c1,c2,Y,T,U,M,O⟩:=Ax (Aa E);go_wp2_with fail;refine(Bb Z b 4 pl _ _ (Aa F).is od om (by simp only[VE,Ai];omega)).mono ?_;rintro e w6 ⟨rfl,G⟩;have I:=Ab ((Aa F).trans G);have H:Hid (Bx w6 X nm fa bl fc st nd gn mt pa pl pc cr):=Ab (G.kp _ _ _ _ od od (Aa E));clear G F E c0 c1 c2 Y T U M O;have F:=I;clear I;have E:=H;clear H;obtain⟨c0,c1,c2,Y,T,U,M,O⟩:=Ax (Aa E);go_wp2_with fail;refine(Bb Z b 4 bl _ _ (Aa F).is od om (by simp only[VE,Ai];omega)).mono ?_;rintro e a7 ⟨rfl,G⟩;have I:=Ab ((Aa F).trans G);have H:Hid (Bx a7 X nm fa bl fc st nd gn mt pa pl pc cr):=Ab (G.kp _ _ _ _ od od (Aa E));clear G F E c0 c1 c2 Y T U M O;have F:=I;clear I;have E:=H;clear H;obtain⟨c0,c1,c2,Y,T,U,M,O⟩:=Ax (Aa E);go_wp2_with fail;refine(Bb Z b 2 ah _ _ (Aa F).is od om (by simp only[VE,Ai];omega)).mono ?_;rintro e a3 ⟨rfl,G⟩;have I:=Ab ((Aa F).trans G);have H:Hid (Bx a3 X nm fa bl fc st nd gn mt pa pl pc cr):=Ab (G.kp _ _ _ _ od od (Aa E));clear G F E c0 c1 c2 Y T U M O;have F:=I;clear I;have E:=H;clear H;obtain⟨c0,c1,c2,Y,T,U,M,O⟩:=Ax (Aa E);go_wp2_with fail;refine(Bb Z b 2 11 _ _ (Aa F).is od om (by simp only[VE,Ai];omega)).mono ?_;rintro e ay ⟨rfl,G⟩;have I:=Ab ((Aa F).trans G);have H:Hid (Bx ay X nm fa bl fc st nd gn mt pa pl pc cr):=Ab (G.kp _ _ _ _ od od (Aa E));clear G F E c0 c1 c2 Y T U M O;have F:=I;clear I;have E:=H;clear H;obtain⟨c0,c1,c2,Y,T,U,M,O⟩:=Ax (Aa E);go_wp2;go_end0;refine⟨rfl, ?_⟩;rw[av];simp only[<-VS];rw[Aa au,Aa ba,Aa a1];exact Aa F
theorem AM (Z b:Nat)(x:Ev)(xs:List Nat)(w:World)(h:∃ov,ZC Z w b xs ov)(a5:ENum x.e)(bc:xs.length<=800000):Calls Tryz.prog 79 #[.pointer (some ⟨b,0,none⟩),x.val] w fun e w'=>e=.returned (.tuple #[])/\ZUp Z w b (xs++Jj x.e) w':=by
 obtain⟨x,fa,fc,pa,pc⟩:=x;obtain⟨⟨nml,bys,av,al,gn⟩,mt,pk,cr⟩:=x;obtain⟨⟨a1,st1⟩,⟨a6,a2⟩,ao,au,ax,a3,a4⟩:=a5;simp only at a1 st1 a6 a2 ao au ax a3 a4;obtain⟨st,rfl⟩:∃st:Nat,av=(st:Int):=⟨av.toNat,om⟩;obtain⟨nd,rfl⟩:∃nd:Nat,al=(nd:Int):=⟨al.toNat,om⟩;have bg:=Bh (n:=st) om;have ba:=Bh (n:=nd) om;have ap:=(show Jj ⟨⟨nml,bys,(st:Int),(nd:Int),gn⟩,mt,pk,cr⟩=Ag 29297 2++Ag 7 2++Ag st 4++Ag nd 2++Ag (Ed gn) 1 from rfl);unfold Ev.val;dsimp only;obtain⟨nm,ae⟩:=exq (B nml);obtain⟨aw,af⟩:=exq (nml.length);obtain⟨bl,ah⟩:=exq (bys.length);obtain⟨pl,ag⟩:=exq (pk.length);(have ar:nm.size=aw:=by rw[<-ae,Im,af]);rw[af]at ao;rw[ah]at au;rw[ag]at ax;rw[ae,ah,ag];have bd:=Ab ae;have a8:=Ab af;have bh:=Ab ah;have bb:=Ab ag;have a7:=Bh (n:=bl) om;have bf:=Bh (n:=pl) om;(have a9:IntKind.u32.wrap (nm.size:Int)=(aw:Int):=by rw[ar];exact Bh om);clear ae af ah ag ar;cases gn
 . obtain⟨ov,aa⟩:=h;have G:Hid (Bx (w.alloc (.cells #[.string nm,.slice fa bl fc,.int .i64 (st:Int),.int .i64 (nd:Int),.bool false,.int .u32 (mt:Int),.slice pa pl pc,.int .u32 (cr:Int)] 71)) w.heap.size nm fa bl fc st nd false mt pa pl pc cr):=Ab (heap_alloc_new w _)
   have E:Hid (ZUp Z w b xs (w.alloc (.cells #[.string nm,.slice fa bl fc,.int .i64 (st:Int),.int .i64 (nd:Int),.bool false,.int .u32 (mt:Int),.slice pa pl pc,.int .u32 (cr:Int)] 71))):=
    Ab ⟨⟨ov,aa.later ((Below.refl _ _).alloc (VB _) _)⟩,(Below.refl Z w).alloc (by have:=aa.lt;have:=aa.base;omega) _,KpT.below ((Below.refl _ _).alloc (VB _) _)⟩
   obtain⟨X,ac⟩:=exq (w.heap.size);rw[ac]at G;have ay:=Ab ac;obtain⟨c0,c1,c2,Y,T,U,M,O⟩:=Ax (Aa G);clear aa;go_enter Tryz.func79,Tryz.ntmps79;go_wp2_with fail;refine(Bb Z b 2 29297 _ _ (Aa E).is od om om).mono ?_;rintro e ai ⟨rfl,F⟩;have H:=Ab ((Aa E).trans F);have I:Hid (Bx ai X nm fa bl fc st nd false mt pa pl pc cr):=Ab (F.kp _ _ _ _ od od (Aa G));clear F E G c0 c1 c2 Y T U M O;have E:=H;clear H;have G:=I;clear I;obtain⟨c0,c1,c2,Y,T,U,M,O⟩:=Ax (Aa G);go_wp2_with fail;refine(Bb Z b 2 7 _ _ (Aa E).is od om (by simp only[VE,Ai];omega)).mono ?_;rintro e aj ⟨rfl,F⟩;have H:=Ab ((Aa E).trans F);have I:Hid (Bx aj X nm fa bl fc st nd false mt pa pl pc cr):=Ab (F.kp _ _ _ _ od od (Aa G));clear F E G c0 c1 c2 Y T U M O;have E:=H;clear H;have G:=I;clear I;obtain⟨c0,c1,c2,Y,T,U,M,O⟩:=Ax (Aa G);go_wp2_with fail;refine(Bb Z b 4 st _ _ (Aa E).is od om (by simp only[VE,Ai];omega)).mono ?_;rintro e w3 ⟨rfl,F⟩;have H:=Ab ((Aa E).trans F);have I:Hid (Bx w3 X nm fa bl fc st nd false mt pa pl pc cr):=Ab (F.kp _ _ _ _ od od (Aa G));clear F E G c0 c1 c2 Y T U M O;have E:=H;clear H;have G:=I;clear I;obtain⟨c0,c1,c2,Y,T,U,M,O⟩:=Ax (Aa G);go_wp2_with fail;refine(Bb Z b 2 nd _ _ (Aa E).is od om (by simp only[VE,Ai];omega)).mono ?_;rintro e ak ⟨rfl,F⟩;have H:=Ab ((Aa E).trans F);have I:Hid (Bx ak X nm fa bl fc st nd false mt pa pl pc cr):=Ab (F.kp _ _ _ _ od od (Aa G));clear F E G c0 c1 c2 Y T U M O;have E:=H;clear H;have G:=I;clear I;obtain⟨c0,c1,c2,Y,T,U,M,O⟩:=Ax (Aa G);go_wp2_with fail;refine(Bb Z b 1 0 _ _ (Aa E).is od om (by simp only[VE,Ai];omega)).mono ?_;rintro e az ⟨rfl,F⟩;have H:=Ab ((Aa E).trans F);clear F E;have E:=H;clear H;go_wp2;go_end0;refine⟨rfl, ?_⟩;rw[ap];simp only[<-VS];exact Aa E
 . obtain⟨ov,aa⟩:=h;have G:Hid (Bx (w.alloc (.cells #[.string nm,.slice fa bl fc,.int .i64 (st:Int),.int .i64 (nd:Int),.bool true,.int .u32 (mt:Int),.slice pa pl pc,.int .u32 (cr:Int)] 71)) w.heap.size nm fa bl fc st nd true mt pa pl pc cr):=Ab (heap_alloc_new w _)
   have E:Hid (ZUp Z w b xs (w.alloc (.cells #[.string nm,.slice fa bl fc,.int .i64 (st:Int),.int .i64 (nd:Int),.bool true,.int .u32 (mt:Int),.slice pa pl pc,.int .u32 (cr:Int)] 71))):=
    Ab ⟨⟨ov,aa.later ((Below.refl _ _).alloc (VB _) _)⟩,(Below.refl Z w).alloc (by have:=aa.lt;have:=aa.base;omega) _,KpT.below ((Below.refl _ _).alloc (VB _) _)⟩
   obtain⟨X,ac⟩:=exq (w.heap.size);rw[ac]at G;have ay:=Ab ac;obtain⟨c0,c1,c2,Y,T,U,M,O⟩:=Ax (Aa G);clear aa;go_enter Tryz.func79,Tryz.ntmps79;go_wp2_with fail;refine(Bb Z b 2 29297 _ _ (Aa E).is od om om).mono ?_;rintro e ai ⟨rfl,F⟩;have H:=Ab ((Aa E).trans F);have I:Hid (Bx ai X nm fa bl fc st nd true mt pa pl pc cr):=Ab (F.kp _ _ _ _ od od (Aa G));clear F E G c0 c1 c2 Y T U M O;have E:=H;clear H;have G:=I;clear I;obtain⟨c0,c1,c2,Y,T,U,M,O⟩:=Ax (Aa G);go_wp2_with fail;refine(Bb Z b 2 7 _ _ (Aa E).is od om (by simp only[VE,Ai];omega)).mono ?_;rintro e aj ⟨rfl,F⟩;have H:=Ab ((Aa E).trans F);have I:Hid (Bx aj X nm fa bl fc st nd true mt pa pl pc cr):=Ab (F.kp _ _ _ _ od od (Aa G));clear F E G c0 c1 c2 Y T U M O;have E:=H;clear H;have G:=I;clear I;obtain⟨c0,c1,c2,Y,T,U,M,O⟩:=Ax (Aa G);go_wp2_with fail;refine(Bb Z b 4 st _ _ (Aa E).is od om (by simp only[VE,Ai];omega)).mono ?_;rintro e w3 ⟨rfl,F⟩;have H:=Ab ((Aa E).trans F);have I:Hid (Bx w3 X nm fa bl fc st nd true mt pa pl pc cr):=Ab (F.kp _ _ _ _ od od (Aa G));clear F E G c0 c1 c2 Y T U M O;have E:=H;clear H;have G:=I;clear I;obtain⟨c0,c1,c2,Y,T,U,M,O⟩:=Ax (Aa G);go_wp2_with fail;refine(Bb Z b 2 nd _ _ (Aa E).is od om (by simp only[VE,Ai];omega)).mono ?_;rintro e ak ⟨rfl,F⟩;have H:=Ab ((Aa E).trans F);have I:Hid (Bx ak X nm fa bl fc st nd true mt pa pl pc cr):=Ab (F.kp _ _ _ _ od od (Aa G));clear F E G c0 c1 c2 Y T U M O;have E:=H;clear H;have G:=I;clear I;obtain⟨c0,c1,c2,Y,T,U,M,O⟩:=Ax (Aa G);go_wp2_with fail;refine(Bb Z b 1 1 _ _ (Aa E).is od om (by simp only[VE,Ai];omega)).mono ?_;rintro e az ⟨rfl,F⟩;have H:=Ab ((Aa E).trans F);clear F E;have E:=H;clear H;go_wp2;go_end0;refine⟨rfl, ?_⟩;rw[ap];simp only[<-VS];exact Aa E
theorem SL (H b m s t:Nat)(xs:List Nat)(w:World)(O:∃ov,ZC H w b xs ov)(aa:m<=60000)(ac:s<=1000000)(ag:t<=1000000)(ae:xs.length<=800000):Calls Tryz.prog 57 #[.pointer (some ⟨b,0,none⟩),.int .i64 (m:Int),.int .i64 (s:Int),.int .i64 (t:Int)] w fun e w'=>e=.returned (.tuple #[])/\ZUp H w b (xs++Pm m s t) w':=by have M:=(show Pm m s t=Ag 101010256 4++Ag 0 4++Ag m 2++Ag m 2++Ag s 4++Ag t 4++Ag 0 2 from rfl);have Z:=Bh (n:=m) om;have af:=Bh (n:=s) om;have aj:=Bh (n:=t) om;obtain⟨ov,I⟩:=O;have E:=Ab (ZUp.refl I);clear I;go_enter Tryz.func57,Tryz.ntmps57;go_wp2_with fail;refine(Bb H b 4 101010256 _ _ (Aa E).is od om om).mono ?_;rintro e U ⟨rfl,G⟩;have F:=Ab ((Aa E).trans G);clear G E;have E:=F;clear F;go_wp2_with fail;refine(Hc H b 4 _ _ (Aa E).is od (by simp only[VE,Ai];omega)).mono ?_;rintro e Y ⟨rfl,G⟩;have F:=Ab ((Aa E).trans G);clear G E;have E:=F;clear F;go_wp2_with fail;refine(Bb H b 2 m _ _ (Aa E).is od om (by simp only[VE,Ai];omega)).mono ?_;rintro e w3 ⟨rfl,G⟩;have F:=Ab ((Aa E).trans G);clear G E;have E:=F;clear F;go_wp2_with fail;refine(Bb H b 2 m _ _ (Aa E).is od om (by simp only[VE,Ai];omega)).mono ?_;rintro e ai ⟨rfl,G⟩;have F:=Ab ((Aa E).trans G);clear G E;have E:=F;clear F;go_wp2_with fail;refine(Bb H b 4 s _ _ (Aa E).is od om (by simp only[VE,Ai];omega)).mono ?_;rintro e T ⟨rfl,G⟩;have F:=Ab ((Aa E).trans G);clear G E;have E:=F;clear F;go_wp2_with fail;refine(Bb H b 4 t _ _ (Aa E).is od om (by simp only[VE,Ai];omega)).mono ?_;rintro e w6 ⟨rfl,G⟩;have F:=Ab ((Aa E).trans G);clear G E;have E:=F;clear F;go_wp2_with fail;refine(Hc H b 2 _ _ (Aa E).is od (by simp only[VE,Ai];omega)).mono ?_;rintro e ah ⟨rfl,G⟩;have F:=Ab ((Aa E).trans G);clear G E;have E:=F;clear F;go_wp2;go_end0;refine⟨rfl, ?_⟩;rw[M];simp only[<-VS];exact Aa E
theorem Z0d {w w' W:World}{H c:Nat}{a:Option Addr}{ys:List Nat}(I:PkIn w a c ys)(G:Below H w w')(Z:∀g o,a=some ⟨g,o,none⟩->ys≠ []->g<H)(F:w'.grownBy W none):PkIn W a c ys:=by refine⟨?_,I.2⟩;by_cases E:ys= [];exact .inl E;rcases I.1 with O|⟨b,o,e,hl,hc⟩;exact absurd O E;have M:=Z b o e E;have T:=G.size;refine .inr ⟨b,o,e,VG hl (VU T F.size),fun j Y=> ?_⟩;have U:w'.heap[b]? =w.heap[b]? :=G.block b M;have e2:W.heap[b]? =w'.heap[b]? :=F.block b om oS;exact(World.cell?_of_block (w:=w) (a:=⟨b,_,none⟩) (e2.trans U)).trans (hc j Y)
theorem SI (M b:Nat)(x:Ev)(xs:List Nat)(w:World)(h:∃ov,ZC M w b xs ov)(bh:ENum x.e)(bb:PkIn w x.pa x.pc x.e.pk)(a9:∀g o,x.pa=some ⟨g,o,none⟩->x.e.pk≠ []->g<M)(ci:xs.length<=700000):Calls Tryz.prog 55 #[.pointer (some ⟨b,0,none⟩),x.val] w fun e w'=>e=.returned (.tuple #[])/\ZUp M w b (xs++Vr x.e) w':=by
 obtain⟨x,fa,fc,pa,pc⟩:=x;obtain⟨⟨nml,bys,bf,a8,gn⟩,mt,pk,cr⟩:=x;have a5:=bh;obtain⟨⟨bj,st1⟩,⟨bz,bo⟩,a2,a6,bi,bu,bw⟩:=bh;simp only at bj st1 bz bo a2 a6 bi bu bw;obtain⟨st,rfl⟩:∃st:Nat,bf=(st:Int):=⟨bf.toNat,om⟩;obtain⟨nd,rfl⟩:∃nd:Nat,a8=(nd:Int):=⟨a8.toNat,om⟩;have ce:((st:Int)).toNat=st:=om;have b8:=Bh (n:=st) om;have b7:=Bh (n:=nd) om;have ba:=(show Vr ⟨⟨nml,bys,(st:Int),(nd:Int),gn⟩,mt,pk,cr⟩=Ag 67324752 4++To ⟨⟨nml,bys,(st:Int),(nd:Int),gn⟩,mt,pk,cr⟩++n8 nml++Jj ⟨⟨nml,bys,(st:Int),(nd:Int),gn⟩,mt,pk,cr⟩++pk from rfl);have af:=Ab (fun ys W ay av=>AK M b ⟨⟨⟨nml,bys,(st:Int),(nd:Int),gn⟩,mt,pk,cr⟩,fa,fc,pa,pc⟩ ys W ay a5 av);have ag:=Ab (fun ys W ay av=>AM M b ⟨⟨⟨nml,bys,(st:Int),(nd:Int),gn⟩,mt,pk,cr⟩,fa,fc,pa,pc⟩ ys W ay a5 av);obtain⟨bn,ai⟩:=exq (To ⟨⟨nml,bys,(st:Int),(nd:Int),gn⟩,mt,pk,cr⟩);obtain⟨bk,ah⟩:=exq (Jj ⟨⟨nml,bys,(st:Int),(nd:Int),gn⟩,mt,pk,cr⟩);(have au:bn.length=26:=by rw[<-ai];exact Ly _);(have bm:bk.length=11:=by rw[<-ah];exact Ie _);unfold Ev.val at af ag;dsimp only at af ag;rw[ai,ah]at ba;rw[ai]at af;rw[ah]at ag;clear ai ah;unfold Ev.val;dsimp only;have b3:=Ab bb;have bv:=Ab a9;clear bb a9;obtain⟨nm,aj⟩:=exq (B nml);obtain⟨a7,ak⟩:=exq (nml.length);obtain⟨bl,ap⟩:=exq (bys.length);obtain⟨pl,ao⟩:=exq (pk.length);(have a3:nm.size=a7:=by rw[<-aj,Im,ak]);rw[ak]at a2;rw[ap]at a6;rw[ao]at bi;rw[aj,ap,ao]at af ag ⊢;have b5:=Ab aj;have ar:=Ab ak;have ck:=Ab ap;have b4:=Ab ao;have b9:=Bh (n:=bl) om;have cj:=Bh (n:=pl) om;(have cg:IntKind.u32.wrap (nm.size:Int)=(a7:Int):=by rw[a3];exact Bh om);clear aj ak ap ao a3;obtain⟨ov,al⟩:=h;have F:Hid (Bx (w.alloc (.cells #[.string nm,.slice fa bl fc,.int .i64 (st:Int),.int .i64 (nd:Int),.bool gn,.int .u32 (mt:Int),.slice pa pl pc,.int .u32 (cr:Int)] 71)) w.heap.size nm fa bl fc st nd gn mt pa pl pc cr):=Ab (heap_alloc_new w _)
 have E:Hid (ZUp M w b xs (w.alloc (.cells #[.string nm,.slice fa bl fc,.int .i64 (st:Int),.int .i64 (nd:Int),.bool gn,.int .u32 (mt:Int),.slice pa pl pc,.int .u32 (cr:Int)] 71))):=
  Ab ⟨⟨ov,al.later ((Below.refl _ _).alloc (VB _) _)⟩,(Below.refl M w).alloc (by have:=al.lt;have:=al.base;omega) _,KpT.below ((Below.refl _ _).alloc (VB _) _)⟩
 obtain⟨X,bg⟩:=exq (w.heap.size);rw[bg]at F;have cd:=Ab bg;obtain⟨c0,c1,c2,T,Y,Z,O,U⟩:=Ax (Aa F);clear al;go_enter Tryz.func55,Tryz.ntmps55;go_wp2_with fail;refine(Bb M b 4 67324752 _ _ (Aa E).is od om om).mono ?_;rintro e b0 ⟨rfl,H⟩;have G:=Ab ((Aa E).trans H);have I:Hid (Bx b0 X nm fa bl fc st nd gn mt pa pl pc cr):=Ab (H.kp _ _ _ _ od od (Aa F));clear H E F c0 c1 c2 T Y Z O U;have E:=G;clear G;have F:=I;clear I;obtain⟨c0,c1,c2,T,Y,Z,O,U⟩:=Ax (Aa F);go_wp2_with fail;refine(Aa af _ _ (Aa E).is (by simp only[VE,Ai];omega)).mono ?_;rintro e bc ⟨rfl,H⟩;have G:=Ab ((Aa E).trans H);have I:Hid (Bx bc X nm fa bl fc st nd gn mt pa pl pc cr):=Ab (H.kp _ _ _ _ od od (Aa F));clear H E F c0 c1 c2 T Y Z O U;have E:=G;clear G;have F:=I;clear I;obtain⟨c0,c1,c2,T,Y,Z,O,U⟩:=Ax (Aa F);obtain⟨bq,aa⟩:=(Aa E).is;obtain⟨d0,az⟩:=aa.new;have ae:=Ab aa;clear aa;go_wp2;go_region_law (refine LL rfl (.tmp 13) (.tmp 16) rfl bc M b _ nml _ rfl (Aa ae) (by repeat (first|with_reducible exact Aw _ _|with_reducible refine Cb ?_|with_reducible refine ga ?_ _)) (congrArg Value.string (Aa b5).symm) (by simp only[VE,Ai,au,Aa ar];omega) ?_;intro a1 bd a4 w' aw ax ac)
 all_goals
  have G:=Ab ((Aa E).trans (Aa ac))
  have I:Hid (Bx (w'.setCell ⟨b,0,none⟩ (.slice a1 bd a4)) X nm fa bl fc st nd gn mt pa pl pc cr):=Ab ((Aa ac).kp _ _ _ _ od od (Aa F))
  clear aw ax ac E F c0 c1 c2 T Y Z O U d0 az ae
  have E:=G
  have F:=I
  clear G I
  obtain⟨c0,c1,c2,T,Y,Z,O,U⟩:=Ax (Aa F)
  go_wp2_with fail
  refine(Aa ag _ _ (Aa E).is (by simp only[VE,Ai,au,Da,Aa ar];omega)).mono ?_
  rintro e w3 ⟨rfl,H⟩
  have G:=Ab ((Aa E).trans H)
  have I:Hid (Bx w3 X nm fa bl fc st nd gn mt pa pl pc cr):=Ab (H.kp _ _ _ _ od od (Aa F))
  clear H E F c0 c1 c2 T Y Z O U
  have E:=G
  clear G
  have F:=I
  clear I
  obtain⟨c0,c1,c2,T,Y,Z,O,U⟩:=Ax (Aa F)
  obtain⟨bq,aa⟩:=(Aa E).is
  obtain⟨d0,az⟩:=aa.new
  have ae:=Ab aa
  clear aa
  go_wp2
  go_region_law (refine LM rfl (.tmp 27) (.tmp 29) rfl w3 M b _ pk _ rfl (Aa ae) (by repeat (first|with_reducible exact Aw _ _|with_reducible refine Cb ?_|with_reducible refine ga ?_ _)) pa pl pc rfl (Aa b4) (Z0d (Aa b3) (Aa E).below (Aa bv) (by repeat (first|with_reducible exact Aw _ _|with_reducible refine Cb ?_|with_reducible refine ga ?_ _))) (by simp only[VE,Ai,au,bm,Da,Aa ar];omega) ?_;intro a1 bd a4 w' aw ax ac)
  all_goals
   have G:=Ab ((Aa E).trans (Aa ac))
   clear aw ax ac E F c0 c1 c2 T Y Z O U d0 az ae
   have E:=G
   clear G
   go_wp2
   go_end0
   refine⟨rfl, ?_⟩
   rw[ba]
   simp only[<-VS]
   exact Aa E
theorem SH (Z b p:Nat)(x:Ev)(xs:List Nat)(w:World)(h:∃ov,ZC Z w b xs ov)(a8:ENum x.e)(b7:p<=1000000)(cg:xs.length<=700000):Calls Tryz.prog 56 #[.pointer (some ⟨b,0,none⟩),x.val,.int .i64 (p:Int)] w fun e w'=>e=.returned (.tuple #[])/\ZUp Z w b (xs++Qo x.e p) w':=by
 obtain⟨x,fa,fc,pa,pc⟩:=x;obtain⟨⟨nml,bys,a6,a3,gn⟩,mt,pk,cr⟩:=x;have ay:=a8;obtain⟨⟨bc,st1⟩,⟨bk,bh⟩,aw,az,a9,bi,bj⟩:=a8;simp only at bc st1 bk bh aw az a9 bi bj;obtain⟨st,rfl⟩:∃st:Nat,a6=(st:Int):=⟨a6.toNat,om⟩;obtain⟨nd,rfl⟩:∃nd:Nat,a3=(nd:Int):=⟨a3.toNat,om⟩;have b9:((st:Int)).toNat=st:=om;have b4:=Bh (n:=st) om;have bz:=Bh (n:=nd) om;have a4:=(show Qo ⟨⟨nml,bys,(st:Int),(nd:Int),gn⟩,mt,pk,cr⟩ p=Ag 33639248 4++Ag 20 2++To ⟨⟨nml,bys,(st:Int),(nd:Int),gn⟩,mt,pk,cr⟩++Ag 0 10++Ag p 4++n8 nml++Jj ⟨⟨nml,bys,(st:Int),(nd:Int),gn⟩,mt,pk,cr⟩ from rfl);have aa:=Ab (fun ys W ar ao=>AK Z b ⟨⟨⟨nml,bys,(st:Int),(nd:Int),gn⟩,mt,pk,cr⟩,fa,fc,pa,pc⟩ ys W ar ay ao);have ac:=Ab (fun ys W ar ao=>AM Z b ⟨⟨⟨nml,bys,(st:Int),(nd:Int),gn⟩,mt,pk,cr⟩,fa,fc,pa,pc⟩ ys W ar ay ao);obtain⟨bg,ag⟩:=exq (To ⟨⟨nml,bys,(st:Int),(nd:Int),gn⟩,mt,pk,cr⟩);obtain⟨bf,ae⟩:=exq (Jj ⟨⟨nml,bys,(st:Int),(nd:Int),gn⟩,mt,pk,cr⟩);(have af:bg.length=26:=by rw[<-ag];exact Ly _);(have b0:bf.length=11:=by rw[<-ae];exact Ie _);unfold Ev.val at aa ac;dsimp only at aa ac;rw[ag,ae]at a4;rw[ag]at aa;rw[ae]at ac;clear ag ae;unfold Ev.val;dsimp only;have ck:=Bh (n:=p) om;obtain⟨nm,ah⟩:=exq (B nml);obtain⟨a2,ai⟩:=exq (nml.length);obtain⟨bl,al⟩:=exq (bys.length);obtain⟨pl,ak⟩:=exq (pk.length);(have ax:nm.size=a2:=by rw[<-ah,Im,ai]);rw[ai]at aw;rw[al]at az;rw[ak]at a9;rw[ah,al,ak]at aa ac ⊢;have bu:=Ab ah;have av:=Ab ai;have cj:=Ab al;have ce:=Ab ak;have b5:=Bh (n:=bl) om;have ci:=Bh (n:=pl) om;(have cd:IntKind.u32.wrap (nm.size:Int)=(a2:Int):=by rw[ax];exact Bh om);clear ah ai al ak ax;obtain⟨ov,aj⟩:=h;have F:Hid (Bx (w.alloc (.cells #[.string nm,.slice fa bl fc,.int .i64 (st:Int),.int .i64 (nd:Int),.bool gn,.int .u32 (mt:Int),.slice pa pl pc,.int .u32 (cr:Int)] 71)) w.heap.size nm fa bl fc st nd gn mt pa pl pc cr):=Ab (heap_alloc_new w _)
 have E:Hid (ZUp Z w b xs (w.alloc (.cells #[.string nm,.slice fa bl fc,.int .i64 (st:Int),.int .i64 (nd:Int),.bool gn,.int .u32 (mt:Int),.slice pa pl pc,.int .u32 (cr:Int)] 71))):=
  Ab ⟨⟨ov,aj.later ((Below.refl _ _).alloc (VB _) _)⟩,(Below.refl Z w).alloc (by have:=aj.lt;have:=aj.base;omega) _,KpT.below ((Below.refl _ _).alloc (VB _) _)⟩
 obtain⟨X,a7⟩:=exq (w.heap.size);rw[a7]at F;have b8:=Ab a7;obtain⟨c0,c1,c2,O,U,Y,M,T⟩:=Ax (Aa F);clear aj;go_enter Tryz.func56,Tryz.ntmps56;go_wp2_with fail;refine(Bb Z b 4 33639248 _ _ (Aa E).is od om om).mono ?_;rintro e bn ⟨rfl,G⟩;have H:=Ab ((Aa E).trans G);have I:Hid (Bx bn X nm fa bl fc st nd gn mt pa pl pc cr):=Ab (G.kp _ _ _ _ od od (Aa F));clear G E F c0 c1 c2 O U Y M T;have E:=H;clear H;have F:=I;clear I;obtain⟨c0,c1,c2,O,U,Y,M,T⟩:=Ax (Aa F);go_wp2_with fail;refine(Bb Z b 2 20 _ _ (Aa E).is od om (by simp only[VE,Ai];omega)).mono ?_;rintro e bo ⟨rfl,G⟩;have H:=Ab ((Aa E).trans G);have I:Hid (Bx bo X nm fa bl fc st nd gn mt pa pl pc cr):=Ab (G.kp _ _ _ _ od od (Aa F));clear G E F c0 c1 c2 O U Y M T;have E:=H;clear H;have F:=I;clear I;obtain⟨c0,c1,c2,O,U,Y,M,T⟩:=Ax (Aa F);go_wp2_with fail;refine(Aa aa _ _ (Aa E).is (by simp only[VE,Ai];omega)).mono ?_;rintro e w3 ⟨rfl,G⟩;have H:=Ab ((Aa E).trans G);have I:Hid (Bx w3 X nm fa bl fc st nd gn mt pa pl pc cr):=Ab (G.kp _ _ _ _ od od (Aa F));clear G E F c0 c1 c2 O U Y M T;have E:=H;clear H;have F:=I;clear I;obtain⟨c0,c1,c2,O,U,Y,M,T⟩:=Ax (Aa F);go_wp2_with fail;refine(Hc Z b 10 _ _ (Aa E).is od (by simp only[VE,Ai,af];omega)).mono ?_;rintro e bw ⟨rfl,G⟩;have H:=Ab ((Aa E).trans G);have I:Hid (Bx bw X nm fa bl fc st nd gn mt pa pl pc cr):=Ab (G.kp _ _ _ _ od od (Aa F));clear G E F c0 c1 c2 O U Y M T;have E:=H;clear H;have F:=I;clear I;obtain⟨c0,c1,c2,O,U,Y,M,T⟩:=Ax (Aa F);go_wp2_with fail;refine(Bb Z b 4 p _ _ (Aa E).is od om (by simp only[VE,Ai,af];omega)).mono ?_;rintro e a5 ⟨rfl,G⟩;have H:=Ab ((Aa E).trans G);have I:Hid (Bx a5 X nm fa bl fc st nd gn mt pa pl pc cr):=Ab (G.kp _ _ _ _ od od (Aa F));clear G E F c0 c1 c2 O U Y M T;have E:=H;clear H;have F:=I;clear I;obtain⟨c0,c1,c2,O,U,Y,M,T⟩:=Ax (Aa F);obtain⟨b3,ap⟩:=(Aa E).is;obtain⟨d0,bv⟩:=ap.new;have a1:=Ab ap;clear ap;go_wp2;go_region_law (refine LL rfl (.tmp 23) (.tmp 26) rfl a5 Z b _ nml _ rfl (Aa a1) (by repeat (first|with_reducible exact Aw _ _|with_reducible refine Cb ?_|with_reducible refine ga ?_ _)) (congrArg Value.string (Aa bu).symm) (by simp only[VE,Ai,af,Aa av];omega) ?_;intro ba bq bb w' bd bm au)
 all_goals
  have H:=Ab ((Aa E).trans (Aa au))
  have I:Hid (Bx (w'.setCell ⟨b,0,none⟩ (.slice ba bq bb)) X nm fa bl fc st nd gn mt pa pl pc cr):=Ab ((Aa au).kp _ _ _ _ od od (Aa F))
  clear bd bm au E F c0 c1 c2 O U Y M T d0 bv a1
  have E:=H
  have F:=I
  clear H I
  obtain⟨c0,c1,c2,O,U,Y,M,T⟩:=Ax (Aa F)
  go_wp2_with fail
  refine(Aa ac _ _ (Aa E).is (by simp only[VE,Ai,af,Da,Aa av];omega)).mono ?_
  rintro e w6 ⟨rfl,G⟩
  have H:=Ab ((Aa E).trans G)
  clear G E
  have E:=H
  clear H
  go_wp2
  go_end0
  refine⟨rfl, ?_⟩
  rw[a4]
  simp only[<-VS]
  exact Aa E
theorem Z5j {w:World}{a:Option Addr}{c:Nat}{bs:List UInt8}(H:BsIn w a c bs):PkIn w a c (n8 bs):=by(rcases H with ⟨rfl,rfl,rfl⟩|⟨rfl,ad,rfl⟩|⟨b,o,rfl,F,I,G⟩);exact⟨.inl rfl,fun _=>rfl⟩;exact⟨.inl rfl,fun e=>by cases e⟩;refine⟨.inr ⟨b,o,rfl,F,fun j E=> ?_⟩,fun e=>by cases e⟩;rw[Da]at E;rw[G j E];simp[n8,List.getD,E]
theorem Z6e {w:World}{a:Option Addr}{c:Nat}{ys:List Nat}(F:PkIn w a c ys)(I:ys.length<=c)(G:∀x∈ys,x<256):BsIn w a c (o8 ys):=by
 cases a with
 |none=>have M:=F.2 rfl;have:ys= []:=WV om;subst this;exact .inl ⟨rfl,rfl,M⟩
 |some ad=>rcases F.1 with rfl|⟨b,o,e,hb,H⟩;exact .inr (.inl ⟨rfl,ad,rfl⟩);refine .inr (.inr ⟨b,o,e,hb,by rw[Ey];exact I,fun j E=> ?_⟩);rw[Ey]at E;rw[H j E];have O:=G ys[j] (WK E);simp[o8,List.getD,E];omega
structure EvIn (w:World)(x:Ev):Prop where
 fb:PkIn w x.fa x.fc (n8 x.e.f.bytes)
 fl:x.e.f.bytes.length<=x.fc
 big:x.e.f.bytes.length<=140737488355328
 txt:x.e.f.name.length<=140737488355328
 pk:PkIn w x.pa x.pc x.e.pk
theorem EvIn.below {w w':World}{x:Ev}(E:EvIn w x)(F:Below w.heap.size w w'):EvIn w' x:=⟨E.fb.below F,E.fl,E.big,E.txt,E.pk.below F⟩
theorem EvIn.fv {w:World}{x:Ev}(E:EvIn w x):FvIn w ⟨x.e.f,x.fa,x.fc⟩:=⟨by have:=Z6e E.fb (by rw[Da];exact E.fl) (Lv _);rw[FQ]at this;exact this,E.big,E.txt⟩
theorem RE {w:World}{a:Option Addr}{c:Nat}{bs:List UInt8}(F:BsIn w a c bs):bs.length<=c:=by(rcases F with ⟨rfl,rfl,rfl⟩|⟨rfl,ad,rfl⟩|⟨b,o,rfl,G,E,H⟩);exact VB _;exact VH _;exact E
theorem PkIn.grown {w w':World}{c:Nat}{r:Option Nat}{a:Option Addr}{ys:List Nat}(G:PkIn w a c ys)(F:w.grownBy w' r)(I:∀g o,a=some ⟨g,o,none⟩->ys≠ []->some g≠r):PkIn w' a c ys:=by refine⟨?_,G.2⟩;by_cases E:ys= [];exact .inl E;rcases G.1 with H|⟨b,o,e,hb,hc⟩;exact absurd H E;exact .inr ⟨b,o,e,VG hb F.size,hc.grown F (I b o e E)⟩
def Ev.lies (x:Ev)(Pr:Nat->Prop):Prop:=(∀g o,x.fa=some ⟨g,o,none⟩->x.e.f.bytes≠ []->Pr g)/\(∀g o,x.pa=some ⟨g,o,none⟩->x.e.pk≠ []->Pr g)
theorem NM {l:List UInt8}(E:n8 l≠ []):l≠ []:=fun e=>E (by rw[e];rfl)
theorem EvIn.grown {w w':World}{x:Ev}{r:Option Nat}(E:EvIn w x)(H:w.grownBy w' r)(G:x.lies (fun g=>some g≠r)):EvIn w' x:=
 ⟨E.fb.grown H (fun g o F e2=>G.1 g o F (NM e2)),E.fl,E.big,E.txt,E.pk.grown H (fun g o F e2=>G.2 g o F e2)⟩
theorem Ev.lies.mono {x:Ev}{G C:Nat->Prop}(F:x.lies G)(H:∀g,G g->C g):x.lies C:=⟨fun g o E e2=>H g (F.1 g o E e2),fun g o E e2=>H g (F.2 g o E e2)⟩
theorem EvIn.lt {w:World}{x:Ev}(G:EvIn w x):x.lies (fun g=>g<w.heap.size):=by constructor;(. intro g o E e2;rcases G.fb.1 with F|⟨b,H,e,hb,_⟩;exact absurd (by rw[<-FQ x.e.f.bytes,F];rfl) e2;. rw[E]at e;cases e;exact hb);. intro g o E e2;rcases G.pk.1 with F|⟨b,H,e,hb,_⟩;exact absurd F e2;. rw[E]at e;cases e;exact hb
theorem Xm {w:World}{a:Option Addr}{c:Nat}{ys:List Nat}(H:PkIn w a c ys):∀g o,a=some ⟨g,o,none⟩->ys≠ []->g<w.heap.size:=by intro g o e G;rcases H.1 with F|⟨b,I,E,hb,_⟩;exact absurd F G;. rw[e]at E;cases E;exact hb
theorem Eu {E:Type}{l:List E}{k:Nat}{x:E}(G:l[k]? =some x):l.take (k+1)=l.take k++ [x]:=by obtain⟨F,e⟩:=XT.1 G;rw[XB F,e]
def ecells (xs:List Ev):List Value:=xs.flatMap Ev.cells
theorem II (xs:List Ev):(ecells xs).length=xs.length*8:=by
 induction xs with
 |nil=>rfl
 |cons x r ih=>have:ecells (x::r)=x.cells++ecells r:=rfl;rw[this,VE,ih,VJ];show 8+_=_;omega
theorem IJ (xs ys:List Ev):ecells (xs++ys)=ecells xs++ecells ys:=by simp[ecells]
theorem IH (y:Ev):ecells [y]=y.cells:=by simp[ecells]
theorem N6:∀(xs:List Ev) (j:Nat) (x:Ev) (i:Nat),xs[j]? =some x->i<8->(ecells xs)[j*8+i]? =x.cells[i]?
 | [],j,x,i,h,_=>by simp at h
 |y::r,0,x,i,h,hi=>by have:ecells (y::r)=y.cells++ecells r:=rfl;simp at h;subst h;rw[this,YJ,WG,WN (show i<8 from hi)]
 |y::r,j+1,x,i,h,hi=>by have e:ecells (y::r)=y.cells++ecells r:=rfl;have hl:y.cells.length=8:=rfl;have ih:=N6 r j x i (by simpa using h) hi;rw[e,VX (by rw[hl];omega),hl,show (j+1)*8+i-8=j*8+i by omega,ih]
theorem Z5 (y:Ev):∀u∈y.cells,u.oneCell'=true:=by intro u E;simp only[Ev.cells,WH,XE,or_false]at E;rcases E with rfl|rfl|rfl|rfl|rfl|rfl|rfl|rfl<;>rfl
structure ERow (w:World)(B:Nat)(v:Value)(xs:List Ev):Prop where
 own:w.ownsRow B 71 8 v xs.length (ecells xs)
 all:∀x∈xs,EvIn w x
 apart:∀x∈xs,x.lies (fun g=>some g≠v.ownBlock)
theorem ERow.nil (w:World)(B:Nat):ERow w B (.slice none 0 0) []:=⟨World.ownsRow_nil _ _ _ _,(fun x E=>absurd E XE),(fun x E=>absurd E XE)⟩
theorem ERow.below {w w':World}{B:Nat}{v:Value}{xs:List Ev}(E:ERow w B v xs)(F:Below w.heap.size w w'):ERow w' B v xs:=
 ⟨Au E.own (fun g H=>F.block g (E.own.lt g H).2),fun x G=>(E.all x G).below F,E.apart⟩
theorem GM:(Tryz.prog.info? 71).map (fun i=>(i.zero,i.size,i.bytes))=some (some (.agg #[.string ⟨#[]⟩,.slice none 0 0,.int .i64 0,.int .i64 0,.bool false,.int .u32 0,.slice none 0 0,.int .u32 0]),8,104):=oR
theorem Fr (w:World){T:Array Oper}{O:List Oper}{o:Oper}{a:Act}{Q:Exit->Act->World->Prop}(aj:o.guard=none)(s x:Operand) (ac:o.op=.call {callee:=.builtin .append,args:= #[s,x],argTypes:= #[69,69]}) (H:Nat) (v:Value) (xs:List Ev) (ap:a.eval s=v) (I:ERow w H v xs) (F:Nat) (y:Ev) (ar:a.eval x=.slice (some ⟨F,0,none⟩) 1 1) (ai:∀j u,y.cells[j]? =some u->w.cell? ⟨F,j,none⟩=some u) (Z:EvIn w y) (ak:y.lies (fun F=>some F≠v.ownBlock)) (au:xs.length+1<=100000) (ae:H<=w.heap.size) (h:∀v' w',Hid (ERow w' H v' (xs++ [y]))->Hid (w.grownBy w' v.ownBlock)->wpList Tryz.prog T Q O (a.put o.dst v') w'):wpList Tryz.prog T Q (o::O) a w:=by obtain⟨ao,hi,al,af,ag⟩:=info_parts GM;refine wpList_append_own_at w aj s x 69 ac H 71 ao _ 8 104 Tryz.underlying69 hi al af ag rfl od v xs.length (ecells xs) ap I.own ⟨F,0,none⟩ 1 1 y.cells ar rfl ?_ (Z5 y) ou om ae ?_;intro j u ah;(have e2:(⟨F,0,none⟩:Addr).add j=⟨F,j,none⟩:=by unfold Addr.add;split<;>simp_all);rw[e2];exact ai j u ah;intro v' w' aa U _ G;(have M:∀z∈xs++ [y],z.lies (fun F=>some F≠v.ownBlock):=by intro z E;rcases WP.1 E with E|E;exact I.apart z E;rw[WO.1 E];exact ak);(have Y:∀z∈xs++ [y],EvIn w z:=by intro z E;rcases WP.1 E with E|E;exact I.all z E;rw[WO.1 E];exact Z);refine h v' w' (Ab ⟨?_,fun z E=>(Y z E).grown U (M z E),fun z E=> ?_⟩) (Ab U);rw[IJ,IH,VE];exact aa;have hl:=(Y z E).lt;have hn:=M z E;rcases G with G|G;rw[G];exact hn;rw[G];exact hl.mono (fun F av e=>by have:=VM e;omega)
def Es (w:World)(b o:Nat)(xs:List Ev):Prop:=∀j x,xs[j]? =some x->∀i,i<8->w.cell? ⟨b,o+j*8+i,none⟩=x.cells[i]?
structure EsIn (w:World)(ad:Option Addr)(c:Nat)(xs:List Ev):Prop where
 at_:xs= []\/∃b o,ad=some ⟨b,o,none⟩/\b<w.heap.size/\Es w b o xs
 all:∀x∈xs,EvIn w x
theorem EsIn.below {w w':World}{F:Option Addr}{c:Nat}{xs:List Ev}(G:EsIn w F c xs)(E:Below w.heap.size w w'):EsIn w' F c xs:=by refine⟨?_,fun x O=>(G.all x O).below E⟩;rcases G.at_ with H|⟨b,o,e,hb,I⟩;exact .inl H;exact .inr ⟨b,o,e,VG hb E.size,fun j x M i hi=>(World.cell?_of_block (w:=w) (a:=⟨b,_,none⟩) (E.block b hb)).trans (I j x M i hi)⟩
theorem EsIn.get {w w':World}{I:Option Addr}{c k:Nat}{xs:List Ev}{x:Ev}(O:EsIn w I c xs)(T:Below w.heap.size w w')(E:xs[k]? =some x):∃b o,I=some ⟨b,o,none⟩/\b<w.heap.size/\w'.cell? ⟨b,o+k*8,none⟩=some (.string (B x.e.f.name))/\w'.cell? ⟨b,o+k*8+1,none⟩=some (.slice x.fa x.e.f.bytes.length x.fc)/\w'.cell? ⟨b,o+k*8+2,none⟩=some (.int .i64 x.e.f.stamp)/\w'.cell? ⟨b,o+k*8+3,none⟩=some (.int .i64 x.e.f.node)/\w'.cell? ⟨b,o+k*8+4,none⟩=some (.bool x.e.f.gone)/\w'.cell? ⟨b,o+k*8+5,none⟩=some (.int .u32 (x.e.meth:Int))/\w'.cell? ⟨b,o+k*8+6,none⟩=some (.slice x.pa x.e.pk.length x.pc)/\w'.cell? ⟨b,o+k*8+7,none⟩=some (.int .u32 (x.e.crc:Int)):=by rcases(O.below T).at_ with G|⟨b,o,e,hb,F⟩;subst G;simp at E;(have H:b<w.heap.size:=by rcases O.at_ with G|⟨Y,U,M,H,_⟩;subst G;simp at E;. rw[e]at M;cases M;exact H);exact⟨b,o,e,H,F k x E 0 od,F k x E 1 od,F k x E 2 od,F k x E 3 od,F k x E 4 od,F k x E 5 od,F k x E 6 od,F k x E 7 od⟩
def Tl:Nat->List En->List Nat
 |_,[]=> []
 |p,x::r=>p::Tl (p+(Vr x).length) r
theorem BQ:∀(a:List En) (x:En) (p:Nat),Tl p (a++ [x])=Tl p a++ [p+(Av a).length]
 | [],x,p=>by simp[Tl,Av]
 |y::a,x,p=>by rw[XL,Tl,BQ a x,Tl,Av,VE,XL,WT]
theorem V4:∀(a:List En) (p:Nat),(Tl p a).length=a.length
 | [],p=>rfl
 |y::a,p=>by rw[Tl,VJ,V4 a,VJ]
theorem Z2j:∀(a:List En) (p k:Nat),k<a.length->(Tl p a).getD k 0=p+(Av (a.take k)).length
 | [],p,k,h=>by simp at h
 |y::a,p,0,h=>by simp[Tl,Av]
 |y::a,p,k+1,h=>by have:=Z2j a (p+(Vr y).length) k (by simpa using h);simp only[Tl,List.getD_cons_succ,XU,Av,VE];rw[this];omega
theorem J3 (a:List En)(x:En):Av (a++ [x])=Av a++Vr x:=by rw[CW];simp[Av]
theorem Uq (a:List En)(x:En):Ao 0 (a++ [x])=Ao 0 a++Qo x (Av a).length:=by rw[Zv];simp[Ao]
theorem ERow.entries {w:World}{B:Nat}{v:Value}{xs:List Ev}(F:ERow w B v xs):∃ad c,v=.slice ad xs.length c/\EsIn w ad c xs:=by(rcases F.own.2 with ⟨E,G⟩|⟨g,cap,cur,E,G,O,T,U⟩);exact⟨none,0,by rw[E,G],.inl (WV G),F.all⟩;refine⟨some ⟨g,0,none⟩,cap,E,.inr ⟨g,0,rfl,(F.own.lt g (by rw[E];rfl)).2,fun j x H i hi=> ?_⟩,F.all⟩;have I:=F.own;rw[E]at I;have hl:=II xs;have M:=(XT.1 H).1;rw[WG,I.cellAt _ om];exact N6 xs j x i H hi
structure AS (w:World)(Bs b:Nat)(xs:List Nat)(v:Value)(ps:List Nat)(wr:World):Prop where
 z:∃ov,ZC Bs wr b xs ov
 p:wr.ownsRow (b+1) 3 1 v ps.length (i64s ps)
 below:Below Bs w wr
theorem AS.later {w wr w':World}{I b:Nat}{xs H:List Nat}{v:Value}(E:AS w I b xs v H wr)(G:Below wr.heap.size wr w'):AS w I b xs v H w':=by obtain⟨ov,F⟩:=E.z;refine⟨⟨ov,F.later G⟩,Au E.p (fun g M=>G.block g (E.p.lt g M).2),E.below.trans (G.mono (by have:=F.lt;have:=F.base;omega))⟩
theorem AS.app {w W I:World}{O b y:Nat}{xs G:List Nat}{v v':Value}(F:AS w O b xs v G W)(H:W.grownBy I v.ownBlock)(T:I.ownsRow (b+1) 3 1 v' (G.length+1) (i64s G++ [.int .i64 (y:Int)])):AS w O b xs v' (G++ [y]) I:=by obtain⟨ov,E⟩:=F.z;have U:=E.lt;have aa:=E.base;have Z:=H.size;refine⟨⟨ov,E.base, ?_, ?_⟩, ?_, ?_⟩;refine(H.block b U (fun e=> ?_)).trans E.cell;have:=(F.p.lt b e.symm).1;omega;refine Au E.own (fun g M=>H.block g (E.own.lt g M).2 (fun e=> ?_));obtain⟨c1,Y⟩:=Oy E.own M;obtain⟨c2,e2⟩:=Oy F.p e.symm;rw[Y]at e2;injection e2 with e2;injection e2 with _ e2;exact absurd e2 od;rw[VE,i64s,WU];exact T;exact F.below.grown H om (fun g e=>by have:=(F.p.lt g e).1;omega)
theorem AS.up {w M I:World}{F b:Nat}{xs ys H:List Nat}{v:Value}(G:AS w F b xs v H M)(E:ZUp F M b ys I):AS w F b ys v H I:=by refine⟨E.is,Au G.p (fun g O=> ?_),G.below.trans E.below⟩;obtain⟨cs,e⟩:=Oy G.p O;rw[e];exact E.kp g cs _ _ od od e
theorem OI:(Tryz.prog.info? 3).map (fun i=>(i.zero,i.size,i.bytes))=some (some (.int .i64 0),1,8):=oR
theorem OU:∀(l:List En),(∀x∈l,ENum x)->(Av l).length<=12081*l.length
 | [],_=>by simp[Av]
 |x::r,h=>by have I:=OU r (fun y F=>h y (WR _ F));have E:=h x oS;have H:=E.nm;have G:=E.pl;rw[Av,VE,Kc,VJ];omega
theorem BH:∀(l:List En) (p:Nat),(∀x∈l,ENum x)->(Ao p l).length<=97*l.length
 | [],p,_=>by simp[Ao]
 |x::r,p,h=>by have G:=BH r (p+(Vr x).length) (fun y E=>h y (WR _ E));have F:=(h x oS).nm;rw[Ao,VE,Lk,VJ];omega
abbrev X7:Array MapEntry:= #[{key:=.bool true,val:=.int .i64 1,born:=0}]
theorem Z4n (X:World):(Instr.mapUpdate 111 (.map (some X.heap.size)) (.bool true) (.int .i64 1)).run Tryz.prog (X.alloc (.map #[] 0))=.ok () (X.alloc (.map X7 1)):=by have hb:(X.alloc (.map #[] 0)).heap[X.heap.size]? =some (.map #[] 0):=heap_alloc_new X _;have F:=Tryz.underlying4;have I:Instr.findNow .bool (.bool true) ([]:List MapEntry) 0=some none:=rfl;have hc:(Instr.checkKey false 10000 4 (.bool true)).run Tryz.prog (X.alloc (.map #[] 0))=.ok () (X.alloc (.map #[] 0)):=MapKept.run_checkKey (k:=.bool true) F (by simp[MapKept.IsKey]) false 9999;(have G: {X.alloc (.map #[] 0)with heap:=(X.alloc (.map #[] 0)).heap.setIfInBounds X.heap.size (.map X7 1)}=X.alloc (.map X7 1):=by(have H:(X.alloc (.map #[] 0)).heap.setIfInBounds X.heap.size (.map X7 1)=(X.alloc (.map X7 1)).heap:=by show (X.heap.push (.map #[] 0)).setIfInBounds X.heap.size (.map X7 1)=X.heap.push (.map X7 1);apply Array.ext;simp;intro i E M;simp only[Array.size_setIfInBounds,YV]at E;rw[Array.getElem_setIfInBounds];by_cases hi:X.heap.size=i;subst hi;simp;rw[if_neg hi,Array.getElem_push_lt om,Array.getElem_push_lt om];simpa using E);rw[H];rfl);simp only[Instr.mapUpdate,Sem.run_bind,run_underlying Tryz.underlying111,MapKept.run_getObj_map hb,hc,MapKept.run_findKey F I,MapKept.run_setObj_map _ hb,Result.andThen];exact congrArg (Result.ok ()) G
theorem Z10 (W:World)(r:Nat)(E:Bool)(G:W.heap[r]? =some (.map X7 1)):(Instr.lookup 111 (.map (some r)) (.bool E) false).run Tryz.prog W=.ok (.int .i64 (if E then 1 else 0)) W:=by have F:=Tryz.underlying4;have hc:(Instr.checkKey false 10000 4 (.bool E)).run Tryz.prog W=.ok () W:=MapKept.run_checkKey (k:=.bool E) F (by simp[MapKept.IsKey]) false 9999;(have H:Instr.findNow .bool (.bool E) X7.toList 0=some (if E then some (0,.int .i64 1)else none):=by cases E<;>rfl);have I:(zeroValue 3).run Tryz.prog W=.ok (.int .i64 0) W:=Tryz.zeroValue3 W;cases E;simp[Instr.lookup,run_underlying Tryz.underlying111,MapKept.run_getObj_map G,hc,MapKept.run_findKey F H,I,Result.andThen];simp[Instr.lookup,run_underlying Tryz.underlying111,MapKept.run_getObj_map G,hc,MapKept.run_findKey F H,Result.andThen]
end Go.Proofs.YtleocpdblhbimaaGreatDoor
