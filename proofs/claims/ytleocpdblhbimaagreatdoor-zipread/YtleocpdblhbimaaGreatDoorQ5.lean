import Derived.Test.YtleocpdblhbimaaGreatDoorQ4
import Derived.Deep.RegionHeld3
import Derived.Deep.RegionWith
import Derived.Maps.Own
set_option linter.unusedSimpArgs false
set_option maxHeartbeats 4000000
namespace Go.Proofs.YtleocpdblhbimaaGreatDoor
open Go.RowKit
set_option linter.unusedVariables false
set_option maxRecDepth 100000
structure Ev where
 e:En
 fa:Option Addr
 fc:Nat
 pa:Option Addr
 pc:Nat
def Ev.cells (x:Ev):List Value:= [.string (B x.e.f.name),.slice x.fa x.e.f.bytes.length x.fc,.int .i64 x.e.f.stamp,.int .i64 x.e.f.node,.bool x.e.f.gone,.int .u32 (x.e.meth:Int),.slice x.pa x.e.pk.length x.pc,.int .u32 (x.e.crc:Int)]
def Ev.val (x:Ev):Value:=.agg #[.string (B x.e.f.name),.slice x.fa x.e.f.bytes.length x.fc,.int .i64 x.e.f.stamp,.int .i64 x.e.f.node,.bool x.e.f.gone,.int .u32 (x.e.meth:Int),.slice x.pa x.e.pk.length x.pc,.int .u32 (x.e.crc:Int)]
structure ENum (x:En):Prop where
 st:0<=x.f.stamp/\x.f.stamp<=1000000
 nd:0<=x.f.node/\x.f.node<=3
 nm:x.f.name.length<=40
 bl:x.f.bytes.length<=3000
 pl:x.pk.length<=12000
 cr:x.crc<4294967296
 mt:x.meth<65536
theorem Bh {n:Nat}(E:n<4294967296):IntKind.u32.wrap (n:Int)=(n:Int):=by
 simp[IntKind.wrap,IntKind.bits,IntKind.signed]
 omega
abbrev Bx (w:World)(X:Nat)(nm:ByteArray)(fa:Option Addr)(bl fc:Nat)(st nd:Nat)(gn:Bool)(mt:Nat)(pa:Option Addr)(pl pc cr:Nat):Prop:=
 w.heap[X]? =some (.cells #[.string nm,.slice fa bl fc,.int .i64 (st:Int),.int .i64 (nd:Int),.bool gn,.int .u32 (mt:Int),.slice pa pl pc,.int .u32 (cr:Int)] 71 (0,0))
theorem Ax {w:World}{X:Nat}{M:ByteArray}{I:Option Addr}{T O st nd:Nat}{gn:Bool}{mt:Nat}{F:Option Addr}{G H cr:Nat}(E:Bx w X M I T O st nd gn mt F G H cr):w.cell? ⟨X,0,none⟩=some (.string M)/\w.cell? ⟨X,1,none⟩=some (.slice I T O)/\w.cell? ⟨X,2,none⟩=some (.int .i64 (st:Int))/\w.cell? ⟨X,3,none⟩=some (.int .i64 (nd:Int))/\w.cell? ⟨X,4,none⟩=some (.bool gn)/\w.cell? ⟨X,5,none⟩=some (.int .u32 (mt:Int))/\w.cell? ⟨X,6,none⟩=some (.slice F G H)/\w.cell? ⟨X,7,none⟩=some (.int .u32 (cr:Int)):=⟨Ac E,Ac E,Ac E,Ac E,Ac E,Ac E,Ac E,Ac E⟩
theorem AK (Z b:Nat)(x:Ev)(xs:List Nat)(w:World)(h:∃ov,ZC Z w b xs ov)(aw:ENum x.e)(bj:xs.length<=800000):
 Calls Tryz.prog 78 #[.pointer (some ⟨b,0,none⟩),x.val] w fun e w'=>e=.returned (.tuple #[])/\ZUp Z w b (xs++To x.e) w':=by
 obtain⟨x,fa,fc,pa,pc⟩:=x;obtain⟨⟨nml,bys,ak,ao,gn⟩,mt,pk,cr⟩:=x;obtain⟨⟨a8,st1⟩,⟨a3,av⟩,aj,ap,al,a2,au⟩:=aw;simp only at a8 st1 a3 av aj ap al a2 au
 obtain⟨st,rfl⟩:∃st:Nat,ak=(st:Int):=⟨ak.toNat,by omega⟩
 obtain⟨nd,rfl⟩:∃nd:Nat,ao=(nd:Int):=⟨ao.toNat,by omega⟩
 have bc:=Bh (n:=st) (by omega);have bg:=Bh (n:=nd) (by omega);have az:=(show To ⟨⟨nml,bys,(st:Int),(nd:Int),gn⟩,mt,pk,cr⟩=Ag 20 2++Ag 0 2++Ag mt 2++Ag 0 4++Ag cr 4++Ag pk.length 4++Ag bys.length 4++Ag nml.length 2++Ag 11 2 from rfl)
 unfold Ev.val;dsimp only;obtain⟨nm,ae⟩:=exq (B nml);obtain⟨ah,aa⟩:=exq (nml.length);obtain⟨bl,ac⟩:=exq (bys.length);obtain⟨pl,af⟩:=exq (pk.length);have ai:nm.size=ah:=by rw[<-ae,Im,aa]
 rw[aa]at aj;rw[ac]at ap;rw[af]at al;rw[ae,ac,af];have bf:=Ab ae;have a7:=Ab aa;have ay:=Ab ac;have bb:=Ab af;have bh:=Bh (n:=bl) (by omega);have bi:=Bh (n:=pl) (by omega);have bk:IntKind.u32.wrap (nm.size:Int)=(ah:Int):=by rw[ai];exact Bh (by omega)
 clear ae aa ac af ai;obtain⟨ov,ag⟩:=h;have E:Hid (Bx (w.alloc (.cells #[.string nm,.slice fa bl fc,.int .i64 (st:Int),.int .i64 (nd:Int),.bool gn,.int .u32 (mt:Int),.slice pa pl pc,.int .u32 (cr:Int)] 71)) w.heap.size nm fa bl fc st nd gn mt pa pl pc cr):=Ab (heap_alloc_new w _)
 have F:Hid (ZUp Z w b xs (w.alloc (.cells #[.string nm,.slice fa bl fc,.int .i64 (st:Int),.int .i64 (nd:Int),.bool gn,.int .u32 (mt:Int),.slice pa pl pc,.int .u32 (cr:Int)] 71))):=
  Ab ⟨⟨ov,ag.later ((Below.refl _ _).alloc (VB _) _)⟩,(Below.refl Z w).alloc (by have:=ag.lt;have:=ag.base;omega) _,KpT.below ((Below.refl _ _).alloc (VB _) _)⟩
 obtain⟨X,ar⟩:=exq (w.heap.size);rw[ar]at E;have bd:=Ab ar;obtain⟨c0,c1,c2,U,M,Y,T,O⟩:=Ax (Aa E);clear ag;go_enter Tryz.func78,Tryz.ntmps78
 go_wp2_with fail
 refine(Bb Z b 2 20 _ _ (Aa F).is (by decide) (by omega) (by omega)).mono ?_;rintro e ax ⟨rfl,G⟩;have H:=Ab ((Aa F).trans G);have I:Hid (Bx ax X nm fa bl fc st nd gn mt pa pl pc cr):=Ab (G.kp _ _ _ _ (by decide) (by decide) (Aa E));clear G F E c0 c1 c2 U M Y T O;have F:=H;clear H;have E:=I;clear I;obtain⟨c0,c1,c2,U,M,Y,T,O⟩:=Ax (Aa E);go_wp2_with fail
 refine(Hc Z b 2 _ _ (Aa F).is (by decide) (by simp only[VE,Ai];omega)).mono ?_;rintro e ba ⟨rfl,G⟩;have H:=Ab ((Aa F).trans G);have I:Hid (Bx ba X nm fa bl fc st nd gn mt pa pl pc cr):=Ab (G.kp _ _ _ _ (by decide) (by decide) (Aa E));clear G F E c0 c1 c2 U M Y T O;have F:=H;clear H;have E:=I;clear I;obtain⟨c0,c1,c2,U,M,Y,T,O⟩:=Ax (Aa E);go_wp2_with fail
 refine(Bb Z b 2 mt _ _ (Aa F).is (by decide) (by omega) (by simp only[VE,Ai];omega)).mono ?_;rintro e w3 ⟨rfl,G⟩;have H:=Ab ((Aa F).trans G);have I:Hid (Bx w3 X nm fa bl fc st nd gn mt pa pl pc cr):=Ab (G.kp _ _ _ _ (by decide) (by decide) (Aa E));clear G F E c0 c1 c2 U M Y T O;have F:=H;clear H;have E:=I;clear I;obtain⟨c0,c1,c2,U,M,Y,T,O⟩:=Ax (Aa E);go_wp2_with fail
 refine(Hc Z b 4 _ _ (Aa F).is (by decide) (by simp only[VE,Ai];omega)).mono ?_;rintro e a6 ⟨rfl,G⟩;have H:=Ab ((Aa F).trans G);have I:Hid (Bx a6 X nm fa bl fc st nd gn mt pa pl pc cr):=Ab (G.kp _ _ _ _ (by decide) (by decide) (Aa E));clear G F E c0 c1 c2 U M Y T O;have F:=H;clear H;have E:=I;clear I;obtain⟨c0,c1,c2,U,M,Y,T,O⟩:=Ax (Aa E);go_wp2_with fail
 refine(Bb Z b 4 cr _ _ (Aa F).is (by decide) (by omega) (by simp only[VE,Ai];omega)).mono ?_;rintro e a9 ⟨rfl,G⟩;have H:=Ab ((Aa F).trans G);have I:Hid (Bx a9 X nm fa bl fc st nd gn mt pa pl pc cr):=Ab (G.kp _ _ _ _ (by decide) (by decide) (Aa E));clear G F E c0 c1 c2 U M Y T O;have F:=H;clear H;have E:=I;clear I;obtain⟨c0,c1,c2,U,M,Y,T,O⟩:=Ax (Aa E);go_wp2_with fail
 refine(Bb Z b 4 pl _ _ (Aa F).is (by decide) (by omega) (by simp only[VE,Ai];omega)).mono ?_;rintro e w6 ⟨rfl,G⟩;have H:=Ab ((Aa F).trans G);have I:Hid (Bx w6 X nm fa bl fc st nd gn mt pa pl pc cr):=Ab (G.kp _ _ _ _ (by decide) (by decide) (Aa E));clear G F E c0 c1 c2 U M Y T O;have F:=H;clear H;have E:=I;clear I;obtain⟨c0,c1,c2,U,M,Y,T,O⟩:=Ax (Aa E);go_wp2_with fail
 refine(Bb Z b 4 bl _ _ (Aa F).is (by decide) (by omega) (by simp only[VE,Ai];omega)).mono ?_;rintro e a4 ⟨rfl,G⟩;have H:=Ab ((Aa F).trans G);have I:Hid (Bx a4 X nm fa bl fc st nd gn mt pa pl pc cr):=Ab (G.kp _ _ _ _ (by decide) (by decide) (Aa E));clear G F E c0 c1 c2 U M Y T O;have F:=H;clear H;have E:=I;clear I;obtain⟨c0,c1,c2,U,M,Y,T,O⟩:=Ax (Aa E);go_wp2_with fail
 refine(Bb Z b 2 ah _ _ (Aa F).is (by decide) (by omega) (by simp only[VE,Ai];omega)).mono ?_;rintro e a5 ⟨rfl,G⟩;have H:=Ab ((Aa F).trans G);have I:Hid (Bx a5 X nm fa bl fc st nd gn mt pa pl pc cr):=Ab (G.kp _ _ _ _ (by decide) (by decide) (Aa E));clear G F E c0 c1 c2 U M Y T O;have F:=H;clear H;have E:=I;clear I;obtain⟨c0,c1,c2,U,M,Y,T,O⟩:=Ax (Aa E);go_wp2_with fail
 refine(Bb Z b 2 11 _ _ (Aa F).is (by decide) (by omega) (by simp only[VE,Ai];omega)).mono ?_;rintro e a1 ⟨rfl,G⟩;have H:=Ab ((Aa F).trans G);have I:Hid (Bx a1 X nm fa bl fc st nd gn mt pa pl pc cr):=Ab (G.kp _ _ _ _ (by decide) (by decide) (Aa E));clear G F E c0 c1 c2 U M Y T O;have F:=H;clear H;have E:=I;clear I;obtain⟨c0,c1,c2,U,M,Y,T,O⟩:=Ax (Aa E);go_wp2;go_end0
 refine⟨rfl, ?_⟩;rw[az];simp only[<-VS];rw[Aa a7,Aa ay,Aa bb];exact Aa F
theorem AM (Z b:Nat)(x:Ev)(xs:List Nat)(w:World)(h:∃ov,ZC Z w b xs ov)(a1:ENum x.e)(bf:xs.length<=800000):
 Calls Tryz.prog 79 #[.pointer (some ⟨b,0,none⟩),x.val] w fun e w'=>e=.returned (.tuple #[])/\ZUp Z w b (xs++Jj x.e) w':=by
 obtain⟨x,fa,fc,pa,pc⟩:=x;obtain⟨⟨nml,bys,au,aw,gn⟩,mt,pk,cr⟩:=x;obtain⟨⟨a5,st1⟩,⟨a4,az⟩,ar,ax,av,a3,ay⟩:=a1;simp only at a5 st1 a4 az ar ax av a3 ay
 obtain⟨st,rfl⟩:∃st:Nat,au=(st:Int):=⟨au.toNat,by omega⟩
 obtain⟨nd,rfl⟩:∃nd:Nat,aw=(nd:Int):=⟨aw.toNat,by omega⟩
 have a7:=Bh (n:=st) (by omega);have ba:=Bh (n:=nd) (by omega);have ap:=(show Jj ⟨⟨nml,bys,(st:Int),(nd:Int),gn⟩,mt,pk,cr⟩=Ag 29297 2++Ag 7 2++Ag st 4++Ag nd 2++Ag (Ed gn) 1 from rfl)
 unfold Ev.val;dsimp only;obtain⟨nm,ag⟩:=exq (B nml);obtain⟨ao,ae⟩:=exq (nml.length);obtain⟨bl,af⟩:=exq (bys.length);obtain⟨pl,ah⟩:=exq (pk.length);have al:nm.size=ao:=by rw[<-ag,Im,ae]
 rw[ae]at ar;rw[af]at ax;rw[ah]at av;rw[ag,af,ah];have a9:=Ab ag;have bd:=Ab ae;have a8:=Ab af;have bg:=Ab ah;have bb:=Bh (n:=bl) (by omega);have bc:=Bh (n:=pl) (by omega);have bh:IntKind.u32.wrap (nm.size:Int)=(ao:Int):=by rw[al];exact Bh (by omega)
 clear ag ae af ah al
 cases gn
 . obtain⟨ov,aa⟩:=h;have G:Hid (Bx (w.alloc (.cells #[.string nm,.slice fa bl fc,.int .i64 (st:Int),.int .i64 (nd:Int),.bool false,.int .u32 (mt:Int),.slice pa pl pc,.int .u32 (cr:Int)] 71)) w.heap.size nm fa bl fc st nd false mt pa pl pc cr):=Ab (heap_alloc_new w _)
   have E:Hid (ZUp Z w b xs (w.alloc (.cells #[.string nm,.slice fa bl fc,.int .i64 (st:Int),.int .i64 (nd:Int),.bool false,.int .u32 (mt:Int),.slice pa pl pc,.int .u32 (cr:Int)] 71))):=
    Ab ⟨⟨ov,aa.later ((Below.refl _ _).alloc (VB _) _)⟩,(Below.refl Z w).alloc (by have:=aa.lt;have:=aa.base;omega) _,KpT.below ((Below.refl _ _).alloc (VB _) _)⟩
   obtain⟨X,ac⟩:=exq (w.heap.size);rw[ac]at G;have a2:=Ab ac;obtain⟨c0,c1,c2,U,M,Y,T,O⟩:=Ax (Aa G);clear aa;go_enter Tryz.func79,Tryz.ntmps79
   go_wp2_with fail
   refine(Bb Z b 2 29297 _ _ (Aa E).is (by decide) (by omega) (by omega)).mono ?_;rintro e ai ⟨rfl,F⟩;have H:=Ab ((Aa E).trans F);have I:Hid (Bx ai X nm fa bl fc st nd false mt pa pl pc cr):=Ab (F.kp _ _ _ _ (by decide) (by decide) (Aa G));clear F E G c0 c1 c2 U M Y T O;have E:=H;clear H;have G:=I;clear I;obtain⟨c0,c1,c2,U,M,Y,T,O⟩:=Ax (Aa G);go_wp2_with fail
   refine(Bb Z b 2 7 _ _ (Aa E).is (by decide) (by omega) (by simp only[VE,Ai];omega)).mono ?_;rintro e ak ⟨rfl,F⟩;have H:=Ab ((Aa E).trans F);have I:Hid (Bx ak X nm fa bl fc st nd false mt pa pl pc cr):=Ab (F.kp _ _ _ _ (by decide) (by decide) (Aa G));clear F E G c0 c1 c2 U M Y T O;have E:=H;clear H;have G:=I;clear I;obtain⟨c0,c1,c2,U,M,Y,T,O⟩:=Ax (Aa G);go_wp2_with fail
   refine(Bb Z b 4 st _ _ (Aa E).is (by decide) (by omega) (by simp only[VE,Ai];omega)).mono ?_;rintro e w3 ⟨rfl,F⟩;have H:=Ab ((Aa E).trans F);have I:Hid (Bx w3 X nm fa bl fc st nd false mt pa pl pc cr):=Ab (F.kp _ _ _ _ (by decide) (by decide) (Aa G));clear F E G c0 c1 c2 U M Y T O;have E:=H;clear H;have G:=I;clear I;obtain⟨c0,c1,c2,U,M,Y,T,O⟩:=Ax (Aa G);go_wp2_with fail
   refine(Bb Z b 2 nd _ _ (Aa E).is (by decide) (by omega) (by simp only[VE,Ai];omega)).mono ?_;rintro e aj ⟨rfl,F⟩;have H:=Ab ((Aa E).trans F);have I:Hid (Bx aj X nm fa bl fc st nd false mt pa pl pc cr):=Ab (F.kp _ _ _ _ (by decide) (by decide) (Aa G));clear F E G c0 c1 c2 U M Y T O;have E:=H;clear H;have G:=I;clear I;obtain⟨c0,c1,c2,U,M,Y,T,O⟩:=Ax (Aa G);go_wp2_with fail
   refine(Bb Z b 1 0 _ _ (Aa E).is (by decide) (by omega) (by simp only[VE,Ai];omega)).mono ?_;rintro e a6 ⟨rfl,F⟩;have H:=Ab ((Aa E).trans F);clear F E;have E:=H;clear H;go_wp2;go_end0
   refine⟨rfl, ?_⟩;rw[ap];simp only[<-VS];exact Aa E
 . obtain⟨ov,aa⟩:=h;have G:Hid (Bx (w.alloc (.cells #[.string nm,.slice fa bl fc,.int .i64 (st:Int),.int .i64 (nd:Int),.bool true,.int .u32 (mt:Int),.slice pa pl pc,.int .u32 (cr:Int)] 71)) w.heap.size nm fa bl fc st nd true mt pa pl pc cr):=Ab (heap_alloc_new w _)
   have E:Hid (ZUp Z w b xs (w.alloc (.cells #[.string nm,.slice fa bl fc,.int .i64 (st:Int),.int .i64 (nd:Int),.bool true,.int .u32 (mt:Int),.slice pa pl pc,.int .u32 (cr:Int)] 71))):=
    Ab ⟨⟨ov,aa.later ((Below.refl _ _).alloc (VB _) _)⟩,(Below.refl Z w).alloc (by have:=aa.lt;have:=aa.base;omega) _,KpT.below ((Below.refl _ _).alloc (VB _) _)⟩
   obtain⟨X,ac⟩:=exq (w.heap.size);rw[ac]at G;have a2:=Ab ac;obtain⟨c0,c1,c2,U,M,Y,T,O⟩:=Ax (Aa G);clear aa;go_enter Tryz.func79,Tryz.ntmps79
   go_wp2_with fail
   refine(Bb Z b 2 29297 _ _ (Aa E).is (by decide) (by omega) (by omega)).mono ?_;rintro e ai ⟨rfl,F⟩;have H:=Ab ((Aa E).trans F);have I:Hid (Bx ai X nm fa bl fc st nd true mt pa pl pc cr):=Ab (F.kp _ _ _ _ (by decide) (by decide) (Aa G));clear F E G c0 c1 c2 U M Y T O;have E:=H;clear H;have G:=I;clear I;obtain⟨c0,c1,c2,U,M,Y,T,O⟩:=Ax (Aa G);go_wp2_with fail
   refine(Bb Z b 2 7 _ _ (Aa E).is (by decide) (by omega) (by simp only[VE,Ai];omega)).mono ?_;rintro e ak ⟨rfl,F⟩;have H:=Ab ((Aa E).trans F);have I:Hid (Bx ak X nm fa bl fc st nd true mt pa pl pc cr):=Ab (F.kp _ _ _ _ (by decide) (by decide) (Aa G));clear F E G c0 c1 c2 U M Y T O;have E:=H;clear H;have G:=I;clear I;obtain⟨c0,c1,c2,U,M,Y,T,O⟩:=Ax (Aa G);go_wp2_with fail
   refine(Bb Z b 4 st _ _ (Aa E).is (by decide) (by omega) (by simp only[VE,Ai];omega)).mono ?_;rintro e w3 ⟨rfl,F⟩;have H:=Ab ((Aa E).trans F);have I:Hid (Bx w3 X nm fa bl fc st nd true mt pa pl pc cr):=Ab (F.kp _ _ _ _ (by decide) (by decide) (Aa G));clear F E G c0 c1 c2 U M Y T O;have E:=H;clear H;have G:=I;clear I;obtain⟨c0,c1,c2,U,M,Y,T,O⟩:=Ax (Aa G);go_wp2_with fail
   refine(Bb Z b 2 nd _ _ (Aa E).is (by decide) (by omega) (by simp only[VE,Ai];omega)).mono ?_;rintro e aj ⟨rfl,F⟩;have H:=Ab ((Aa E).trans F);have I:Hid (Bx aj X nm fa bl fc st nd true mt pa pl pc cr):=Ab (F.kp _ _ _ _ (by decide) (by decide) (Aa G));clear F E G c0 c1 c2 U M Y T O;have E:=H;clear H;have G:=I;clear I;obtain⟨c0,c1,c2,U,M,Y,T,O⟩:=Ax (Aa G);go_wp2_with fail
   refine(Bb Z b 1 1 _ _ (Aa E).is (by decide) (by omega) (by simp only[VE,Ai];omega)).mono ?_;rintro e a6 ⟨rfl,F⟩;have H:=Ab ((Aa E).trans F);clear F E;have E:=H;clear H;go_wp2;go_end0
   refine⟨rfl, ?_⟩;rw[ap];simp only[<-VS];exact Aa E
theorem SL (H b m s t:Nat)(xs:List Nat)(w:World)(O:∃ov,ZC H w b xs ov)(aj:m<=60000)(aa:s<=1000000)(ai:t<=1000000)(ag:xs.length<=800000):
 Calls Tryz.prog 57 #[.pointer (some ⟨b,0,none⟩),.int .i64 (m:Int),.int .i64 (s:Int),.int .i64 (t:Int)] w fun e w'=>e=.returned (.tuple #[])/\ZUp H w b (xs++Pm m s t) w':=by
 have M:=(show Pm m s t=Ag 101010256 4++Ag 0 4++Ag m 2++Ag m 2++Ag s 4++Ag t 4++Ag 0 2 from rfl)
 have af:=Bh (n:=m) (by omega);have ac:=Bh (n:=s) (by omega);have T:=Bh (n:=t) (by omega);obtain⟨ov,I⟩:=O;have E:=Ab (ZUp.refl I);clear I;go_enter Tryz.func57,Tryz.ntmps57
 go_wp2_with fail
 refine(Bb H b 4 101010256 _ _ (Aa E).is (by decide) (by omega) (by omega)).mono ?_;rintro e U ⟨rfl,F⟩;have G:=Ab ((Aa E).trans F);clear F E;have E:=G;clear G;go_wp2_with fail
 refine(Hc H b 4 _ _ (Aa E).is (by decide) (by simp only[VE,Ai];omega)).mono ?_;rintro e ah ⟨rfl,F⟩;have G:=Ab ((Aa E).trans F);clear F E;have E:=G;clear G;go_wp2_with fail
 refine(Bb H b 2 m _ _ (Aa E).is (by decide) (by omega) (by simp only[VE,Ai];omega)).mono ?_;rintro e w3 ⟨rfl,F⟩;have G:=Ab ((Aa E).trans F);clear F E;have E:=G;clear G;go_wp2_with fail
 refine(Bb H b 2 m _ _ (Aa E).is (by decide) (by omega) (by simp only[VE,Ai];omega)).mono ?_;rintro e Z ⟨rfl,F⟩;have G:=Ab ((Aa E).trans F);clear F E;have E:=G;clear G;go_wp2_with fail
 refine(Bb H b 4 s _ _ (Aa E).is (by decide) (by omega) (by simp only[VE,Ai];omega)).mono ?_;rintro e ae ⟨rfl,F⟩;have G:=Ab ((Aa E).trans F);clear F E;have E:=G;clear G;go_wp2_with fail
 refine(Bb H b 4 t _ _ (Aa E).is (by decide) (by omega) (by simp only[VE,Ai];omega)).mono ?_;rintro e w6 ⟨rfl,F⟩;have G:=Ab ((Aa E).trans F);clear F E;have E:=G;clear G;go_wp2_with fail
 refine(Hc H b 2 _ _ (Aa E).is (by decide) (by simp only[VE,Ai];omega)).mono ?_;rintro e Y ⟨rfl,F⟩;have G:=Ab ((Aa E).trans F);clear F E;have E:=G;clear G;go_wp2;go_end0
 refine⟨rfl, ?_⟩;rw[M];simp only[<-VS];exact Aa E
theorem Z0d {w w' W:World}{F c:Nat}{a:Option Addr}{ys:List Nat}(H:PkIn w a c ys)(I:Below F w w')(O:∀g o,a=some ⟨g,o,none⟩->ys≠ []->g<F)(G:w'.grownBy W none):PkIn W a c ys:=by
 refine⟨?_,H.2⟩
 by_cases E:ys= []
 . exact .inl E
 . rcases H.1 with M|⟨b,o,e,hl,hc⟩
   . exact absurd M E
   . have U:=O b o e E;have T:=I.size;refine .inr ⟨b,o,e,VG hl (VU T G.size),fun j Y=> ?_⟩;have Z:w'.heap[b]? =w.heap[b]? :=I.block b U;have e2:W.heap[b]? =w'.heap[b]? :=G.block b (by omega) (by simp);exact(World.cell?_of_block (w:=w) (a:=⟨b,_,none⟩) (e2.trans Z)).trans (hc j Y)
theorem SI (M b:Nat)(x:Ev)(xs:List Nat)(w:World)(h:∃ov,ZC M w b xs ov)(a2:ENum x.e)(a5:PkIn w x.pa x.pc x.e.pk)(bc:∀g o,x.pa=some ⟨g,o,none⟩->x.e.pk≠ []->g<M)(ck:xs.length<=700000):
 Calls Tryz.prog 55 #[.pointer (some ⟨b,0,none⟩),x.val] w fun e w'=>e=.returned (.tuple #[])/\ZUp M w b (xs++Vr x.e) w':=by
 obtain⟨x,fa,fc,pa,pc⟩:=x;obtain⟨⟨nml,bys,bh,a8,gn⟩,mt,pk,cr⟩:=x;have a7:=a2;obtain⟨⟨b5,st1⟩,⟨bq,bz⟩,bg,bi,a6,b3,bj⟩:=a2;simp only at b5 st1 bq bz bg bi a6 b3 bj
 obtain⟨st,rfl⟩:∃st:Nat,bh=(st:Int):=⟨bh.toNat,by omega⟩
 obtain⟨nd,rfl⟩:∃nd:Nat,a8=(nd:Int):=⟨a8.toNat,by omega⟩
 have cj:((st:Int)).toNat=st:=by omega
 have b9:=Bh (n:=st) (by omega);have cg:=Bh (n:=nd) (by omega);have a4:=(show Vr ⟨⟨nml,bys,(st:Int),(nd:Int),gn⟩,mt,pk,cr⟩=Ag 67324752 4++To ⟨⟨nml,bys,(st:Int),(nd:Int),gn⟩,mt,pk,cr⟩++n8 nml++Jj ⟨⟨nml,bys,(st:Int),(nd:Int),gn⟩,mt,pk,cr⟩++pk from rfl)
 have ag:=Ab (fun ys W ar aw=>AK M b ⟨⟨⟨nml,bys,(st:Int),(nd:Int),gn⟩,mt,pk,cr⟩,fa,fc,pa,pc⟩ ys W ar a7 aw);have af:=Ab (fun ys W ar aw=>AM M b ⟨⟨⟨nml,bys,(st:Int),(nd:Int),gn⟩,mt,pk,cr⟩,fa,fc,pa,pc⟩ ys W ar a7 aw);obtain⟨bn,ap⟩:=exq (To ⟨⟨nml,bys,(st:Int),(nd:Int),gn⟩,mt,pk,cr⟩);obtain⟨bw,ao⟩:=exq (Jj ⟨⟨nml,bys,(st:Int),(nd:Int),gn⟩,mt,pk,cr⟩);have ay:bn.length=26:=by rw[<-ap];exact Ly _
 have b4:bw.length=11:=by rw[<-ao];exact Ie _
 unfold Ev.val at ag af;dsimp only at ag af;rw[ap,ao]at a4;rw[ap]at ag;rw[ao]at af;clear ap ao;unfold Ev.val;dsimp only;have bu:=Ab a5;have bo:=Ab bc;clear a5 bc;obtain⟨nm,ai⟩:=exq (B nml);obtain⟨a1,ah⟩:=exq (nml.length);obtain⟨bl,al⟩:=exq (bys.length);obtain⟨pl,aj⟩:=exq (pk.length);have bf:nm.size=a1:=by rw[<-ai,Im,ah]
 rw[ah]at bg;rw[al]at bi;rw[aj]at a6;rw[ai,al,aj]at ag af ⊢;have bm:=Ab ai;have az:=Ab ah;have ce:=Ab al;have bv:=Ab aj;have ci:=Bh (n:=bl) (by omega);have b8:=Bh (n:=pl) (by omega);have b7:IntKind.u32.wrap (nm.size:Int)=(a1:Int):=by rw[bf];exact Bh (by omega)
 clear ai ah al aj bf;obtain⟨ov,ak⟩:=h;have F:Hid (Bx (w.alloc (.cells #[.string nm,.slice fa bl fc,.int .i64 (st:Int),.int .i64 (nd:Int),.bool gn,.int .u32 (mt:Int),.slice pa pl pc,.int .u32 (cr:Int)] 71)) w.heap.size nm fa bl fc st nd gn mt pa pl pc cr):=Ab (heap_alloc_new w _)
 have E:Hid (ZUp M w b xs (w.alloc (.cells #[.string nm,.slice fa bl fc,.int .i64 (st:Int),.int .i64 (nd:Int),.bool gn,.int .u32 (mt:Int),.slice pa pl pc,.int .u32 (cr:Int)] 71))):=
  Ab ⟨⟨ov,ak.later ((Below.refl _ _).alloc (VB _) _)⟩,(Below.refl M w).alloc (by have:=ak.lt;have:=ak.base;omega) _,KpT.below ((Below.refl _ _).alloc (VB _) _)⟩
 obtain⟨X,bb⟩:=exq (w.heap.size);rw[bb]at F;have cd:=Ab bb;obtain⟨c0,c1,c2,U,O,Z,Y,T⟩:=Ax (Aa F);clear ak;go_enter Tryz.func55,Tryz.ntmps55
 go_wp2_with fail
 refine(Bb M b 4 67324752 _ _ (Aa E).is (by decide) (by omega) (by omega)).mono ?_;rintro e bk ⟨rfl,H⟩;have G:=Ab ((Aa E).trans H);have I:Hid (Bx bk X nm fa bl fc st nd gn mt pa pl pc cr):=Ab (H.kp _ _ _ _ (by decide) (by decide) (Aa F));clear H E F c0 c1 c2 U O Z Y T;have E:=G;clear G;have F:=I;clear I;obtain⟨c0,c1,c2,U,O,Z,Y,T⟩:=Ax (Aa F);go_wp2_with fail
 refine(Aa ag _ _ (Aa E).is (by simp only[VE,Ai];omega)).mono ?_;rintro e ba ⟨rfl,H⟩;have G:=Ab ((Aa E).trans H);have I:Hid (Bx ba X nm fa bl fc st nd gn mt pa pl pc cr):=Ab (H.kp _ _ _ _ (by decide) (by decide) (Aa F));clear H E F c0 c1 c2 U O Z Y T;have E:=G;clear G;have F:=I;clear I;obtain⟨c0,c1,c2,U,O,Z,Y,T⟩:=Ax (Aa F);obtain⟨b0,aa⟩:=(Aa E).is;obtain⟨d0,ax⟩:=aa.new;have ae:=Ab aa;clear aa;go_wp2;go_region_law (refine LL rfl (.tmp 13) (.tmp 16) rfl ba M b _ nml _ rfl (Aa ae) (by repeat (first|with_reducible exact Aw _ _|with_reducible refine Cb ?_|with_reducible refine ga ?_ _)) (congrArg Value.string (Aa bm).symm) (by simp only[VE,Ai,ay,Aa az];omega) ?_;intro a3 a9 bd w' au av ac)
 all_goals
  have G:=Ab ((Aa E).trans (Aa ac));have I:Hid (Bx (w'.setCell ⟨b,0,none⟩ (.slice a3 a9 bd)) X nm fa bl fc st nd gn mt pa pl pc cr):=Ab ((Aa ac).kp _ _ _ _ (by decide) (by decide) (Aa F));clear au av ac E F c0 c1 c2 U O Z Y T d0 ax ae;have E:=G;have F:=I;clear G I;obtain⟨c0,c1,c2,U,O,Z,Y,T⟩:=Ax (Aa F);go_wp2_with fail
  refine(Aa af _ _ (Aa E).is (by simp only[VE,Ai,ay,Da,Aa az];omega)).mono ?_;rintro e w3 ⟨rfl,H⟩;have G:=Ab ((Aa E).trans H);have I:Hid (Bx w3 X nm fa bl fc st nd gn mt pa pl pc cr):=Ab (H.kp _ _ _ _ (by decide) (by decide) (Aa F));clear H E F c0 c1 c2 U O Z Y T;have E:=G;clear G;have F:=I;clear I;obtain⟨c0,c1,c2,U,O,Z,Y,T⟩:=Ax (Aa F);obtain⟨b0,aa⟩:=(Aa E).is;obtain⟨d0,ax⟩:=aa.new;have ae:=Ab aa;clear aa;go_wp2;go_region_law (refine LM rfl (.tmp 27) (.tmp 29) rfl w3 M b _ pk _ rfl (Aa ae) (by repeat (first|with_reducible exact Aw _ _|with_reducible refine Cb ?_|with_reducible refine ga ?_ _)) pa pl pc rfl (Aa bv) (Z0d (Aa bu) (Aa E).below (Aa bo) (by repeat (first|with_reducible exact Aw _ _|with_reducible refine Cb ?_|with_reducible refine ga ?_ _))) (by simp only[VE,Ai,ay,b4,Da,Aa az];omega) ?_;intro a3 a9 bd w' au av ac)
  all_goals
   have G:=Ab ((Aa E).trans (Aa ac));clear au av ac E F c0 c1 c2 U O Z Y T d0 ax ae;have E:=G;clear G;go_wp2;go_end0
   refine⟨rfl, ?_⟩;rw[a4];simp only[<-VS];exact Aa E
theorem SH (Z b p:Nat)(x:Ev)(xs:List Nat)(w:World)(h:∃ov,ZC Z w b xs ov)(aw:ENum x.e)(b4:p<=1000000)(ck:xs.length<=700000):
 Calls Tryz.prog 56 #[.pointer (some ⟨b,0,none⟩),x.val,.int .i64 (p:Int)] w fun e w'=>e=.returned (.tuple #[])/\ZUp Z w b (xs++Qo x.e p) w':=by
 obtain⟨x,fa,fc,pa,pc⟩:=x;obtain⟨⟨nml,bys,a7,a2,gn⟩,mt,pk,cr⟩:=x;have a1:=aw;obtain⟨⟨bw,st1⟩,⟨bi,bq⟩,a6,a9,az,bv,ba⟩:=aw;simp only at bw st1 bi bq a6 a9 az bv ba
 obtain⟨st,rfl⟩:∃st:Nat,a7=(st:Int):=⟨a7.toNat,by omega⟩
 obtain⟨nd,rfl⟩:∃nd:Nat,a2=(nd:Int):=⟨a2.toNat,by omega⟩
 have cj:((st:Int)).toNat=st:=by omega
 have b7:=Bh (n:=st) (by omega);have ce:=Bh (n:=nd) (by omega);have ay:=(show Qo ⟨⟨nml,bys,(st:Int),(nd:Int),gn⟩,mt,pk,cr⟩ p=Ag 33639248 4++Ag 20 2++To ⟨⟨nml,bys,(st:Int),(nd:Int),gn⟩,mt,pk,cr⟩++Ag 0 10++Ag p 4++n8 nml++Jj ⟨⟨nml,bys,(st:Int),(nd:Int),gn⟩,mt,pk,cr⟩ from rfl)
 have ac:=Ab (fun ys W ap ar=>AK Z b ⟨⟨⟨nml,bys,(st:Int),(nd:Int),gn⟩,mt,pk,cr⟩,fa,fc,pa,pc⟩ ys W ap a1 ar);have aa:=Ab (fun ys W ap ar=>AM Z b ⟨⟨⟨nml,bys,(st:Int),(nd:Int),gn⟩,mt,pk,cr⟩,fa,fc,pa,pc⟩ ys W ap a1 ar);obtain⟨bg,al⟩:=exq (To ⟨⟨nml,bys,(st:Int),(nd:Int),gn⟩,mt,pk,cr⟩);obtain⟨bn,aj⟩:=exq (Jj ⟨⟨nml,bys,(st:Int),(nd:Int),gn⟩,mt,pk,cr⟩);have ak:bg.length=26:=by rw[<-al];exact Ly _
 have ci:bn.length=11:=by rw[<-aj];exact Ie _
 unfold Ev.val at ac aa;dsimp only at ac aa;rw[al,aj]at ay;rw[al]at ac;rw[aj]at aa;clear al aj;unfold Ev.val;dsimp only;have b0:=Bh (n:=p) (by omega);obtain⟨nm,af⟩:=exq (B nml);obtain⟨av,ae⟩:=exq (nml.length);obtain⟨bl,ai⟩:=exq (bys.length);obtain⟨pl,ag⟩:=exq (pk.length);have a5:nm.size=av:=by rw[<-af,Im,ae]
 rw[ae]at a6;rw[ai]at a9;rw[ag]at az;rw[af,ai,ag]at ac aa ⊢;have bd:=Ab af;have a8:=Ab ae;have cd:=Ab ai;have b5:=Ab ag;have cg:=Bh (n:=bl) (by omega);have b3:=Bh (n:=pl) (by omega);have bz:IntKind.u32.wrap (nm.size:Int)=(av:Int):=by rw[a5];exact Bh (by omega)
 clear af ae ai ag a5;obtain⟨ov,ah⟩:=h;have F:Hid (Bx (w.alloc (.cells #[.string nm,.slice fa bl fc,.int .i64 (st:Int),.int .i64 (nd:Int),.bool gn,.int .u32 (mt:Int),.slice pa pl pc,.int .u32 (cr:Int)] 71)) w.heap.size nm fa bl fc st nd gn mt pa pl pc cr):=Ab (heap_alloc_new w _)
 have E:Hid (ZUp Z w b xs (w.alloc (.cells #[.string nm,.slice fa bl fc,.int .i64 (st:Int),.int .i64 (nd:Int),.bool gn,.int .u32 (mt:Int),.slice pa pl pc,.int .u32 (cr:Int)] 71))):=
  Ab ⟨⟨ov,ah.later ((Below.refl _ _).alloc (VB _) _)⟩,(Below.refl Z w).alloc (by have:=ah.lt;have:=ah.base;omega) _,KpT.below ((Below.refl _ _).alloc (VB _) _)⟩
 obtain⟨X,a4⟩:=exq (w.heap.size);rw[a4]at F;have b9:=Ab a4;obtain⟨c0,c1,c2,T,M,Y,U,O⟩:=Ax (Aa F);clear ah;go_enter Tryz.func56,Tryz.ntmps56
 go_wp2_with fail
 refine(Bb Z b 4 33639248 _ _ (Aa E).is (by decide) (by omega) (by omega)).mono ?_;rintro e bc ⟨rfl,G⟩;have H:=Ab ((Aa E).trans G);have I:Hid (Bx bc X nm fa bl fc st nd gn mt pa pl pc cr):=Ab (G.kp _ _ _ _ (by decide) (by decide) (Aa F));clear G E F c0 c1 c2 T M Y U O;have E:=H;clear H;have F:=I;clear I;obtain⟨c0,c1,c2,T,M,Y,U,O⟩:=Ax (Aa F);go_wp2_with fail
 refine(Bb Z b 2 20 _ _ (Aa E).is (by decide) (by omega) (by simp only[VE,Ai];omega)).mono ?_;rintro e bm ⟨rfl,G⟩;have H:=Ab ((Aa E).trans G);have I:Hid (Bx bm X nm fa bl fc st nd gn mt pa pl pc cr):=Ab (G.kp _ _ _ _ (by decide) (by decide) (Aa F));clear G E F c0 c1 c2 T M Y U O;have E:=H;clear H;have F:=I;clear I;obtain⟨c0,c1,c2,T,M,Y,U,O⟩:=Ax (Aa F);go_wp2_with fail
 refine(Aa ac _ _ (Aa E).is (by simp only[VE,Ai];omega)).mono ?_;rintro e w3 ⟨rfl,G⟩;have H:=Ab ((Aa E).trans G);have I:Hid (Bx w3 X nm fa bl fc st nd gn mt pa pl pc cr):=Ab (G.kp _ _ _ _ (by decide) (by decide) (Aa F));clear G E F c0 c1 c2 T M Y U O;have E:=H;clear H;have F:=I;clear I;obtain⟨c0,c1,c2,T,M,Y,U,O⟩:=Ax (Aa F);go_wp2_with fail
 refine(Hc Z b 10 _ _ (Aa E).is (by decide) (by simp only[VE,Ai,ak];omega)).mono ?_;rintro e bj ⟨rfl,G⟩;have H:=Ab ((Aa E).trans G);have I:Hid (Bx bj X nm fa bl fc st nd gn mt pa pl pc cr):=Ab (G.kp _ _ _ _ (by decide) (by decide) (Aa F));clear G E F c0 c1 c2 T M Y U O;have E:=H;clear H;have F:=I;clear I;obtain⟨c0,c1,c2,T,M,Y,U,O⟩:=Ax (Aa F);go_wp2_with fail
 refine(Bb Z b 4 p _ _ (Aa E).is (by decide) (by omega) (by simp only[VE,Ai,ak];omega)).mono ?_;rintro e a3 ⟨rfl,G⟩;have H:=Ab ((Aa E).trans G);have I:Hid (Bx a3 X nm fa bl fc st nd gn mt pa pl pc cr):=Ab (G.kp _ _ _ _ (by decide) (by decide) (Aa F));clear G E F c0 c1 c2 T M Y U O;have E:=H;clear H;have F:=I;clear I;obtain⟨c0,c1,c2,T,M,Y,U,O⟩:=Ax (Aa F);obtain⟨b8,au⟩:=(Aa E).is;obtain⟨d0,bu⟩:=au.new;have ax:=Ab au;clear au;go_wp2;go_region_law (refine LL rfl (.tmp 23) (.tmp 26) rfl a3 Z b _ nml _ rfl (Aa ax) (by repeat (first|with_reducible exact Aw _ _|with_reducible refine Cb ?_|with_reducible refine ga ?_ _)) (congrArg Value.string (Aa bd).symm) (by simp only[VE,Ai,ak,Aa a8];omega) ?_;intro bb bk bo w' bf bh ao)
 all_goals
  have H:=Ab ((Aa E).trans (Aa ao));have I:Hid (Bx (w'.setCell ⟨b,0,none⟩ (.slice bb bk bo)) X nm fa bl fc st nd gn mt pa pl pc cr):=Ab ((Aa ao).kp _ _ _ _ (by decide) (by decide) (Aa F));clear bf bh ao E F c0 c1 c2 T M Y U O d0 bu ax;have E:=H;have F:=I;clear H I;obtain⟨c0,c1,c2,T,M,Y,U,O⟩:=Ax (Aa F);go_wp2_with fail
  refine(Aa aa _ _ (Aa E).is (by simp only[VE,Ai,ak,Da,Aa a8];omega)).mono ?_;rintro e w6 ⟨rfl,G⟩;have H:=Ab ((Aa E).trans G);clear G E;have E:=H;clear H;go_wp2;go_end0
  refine⟨rfl, ?_⟩;rw[ay];simp only[<-VS];exact Aa E
theorem Z5j {w:World}{a:Option Addr}{c:Nat}{bs:List UInt8}(H:BsIn w a c bs):PkIn w a c (n8 bs):=by
 rcases H with ⟨rfl,rfl,rfl⟩|⟨rfl,ad,rfl⟩|⟨b,o,rfl,G,I,F⟩
 . exact⟨.inl rfl,fun _=>rfl⟩
 . exact⟨.inl rfl,fun e=>by cases e⟩
 . refine⟨.inr ⟨b,o,rfl,G,fun j E=> ?_⟩,fun e=>by cases e⟩;rw[Da]at E;rw[F j E];simp[n8,List.getD,E]
theorem Z6e {w:World}{a:Option Addr}{c:Nat}{ys:List Nat}(F:PkIn w a c ys)(H:ys.length<=c)(G:∀x∈ys,x<256):BsIn w a c (o8 ys):=by
 cases a with
 |none=>
  have M:=F.2 rfl;have:ys= []:=WV (by omega)
  subst this;exact .inl ⟨rfl,rfl,M⟩
 |some ad=>
  rcases F.1 with rfl|⟨b,o,e,hb,I⟩
  . exact .inr (.inl ⟨rfl,ad,rfl⟩)
  . refine .inr (.inr ⟨b,o,e,hb,by rw[Ey];exact H,fun j E=> ?_⟩);rw[Ey]at E;rw[I j E];have O:=G ys[j] (WK E);simp[o8,List.getD,E]
    omega
structure EvIn (w:World)(x:Ev):Prop where
 fb:PkIn w x.fa x.fc (n8 x.e.f.bytes)
 fl:x.e.f.bytes.length<=x.fc
 big:x.e.f.bytes.length<=140737488355328
 txt:x.e.f.name.length<=140737488355328
 pk:PkIn w x.pa x.pc x.e.pk
theorem EvIn.below {w w':World}{x:Ev}(E:EvIn w x)(F:Below w.heap.size w w'):EvIn w' x:=⟨E.fb.below F,E.fl,E.big,E.txt,E.pk.below F⟩
theorem EvIn.fv {w:World}{x:Ev}(E:EvIn w x):FvIn w ⟨x.e.f,x.fa,x.fc⟩:=⟨by have:=Z6e E.fb (by rw[Da];exact E.fl) (Lv _);rw[FQ]at this;exact this,E.big,E.txt⟩
theorem RE {w:World}{a:Option Addr}{c:Nat}{bs:List UInt8}(E:BsIn w a c bs):bs.length<=c:=by
 rcases E with ⟨rfl,rfl,rfl⟩|⟨rfl,ad,rfl⟩|⟨b,o,rfl,H,F,G⟩
 . exact VB _
 . exact VH _
 . exact F
theorem PkIn.grown {w w':World}{c:Nat}{r:Option Nat}{a:Option Addr}{ys:List Nat}(G:PkIn w a c ys)(F:w.grownBy w' r)(I:∀g o,a=some ⟨g,o,none⟩->ys≠ []->some g≠r):PkIn w' a c ys:=by
 refine⟨?_,G.2⟩
 by_cases E:ys= []
 . exact .inl E
 . rcases G.1 with H|⟨b,o,e,hb,hc⟩
   . exact absurd H E
   . exact .inr ⟨b,o,e,VG hb F.size,hc.grown F (I b o e E)⟩
def Ev.lies (x:Ev)(Pr:Nat->Prop):Prop:=(∀g o,x.fa=some ⟨g,o,none⟩->x.e.f.bytes≠ []->Pr g)/\(∀g o,x.pa=some ⟨g,o,none⟩->x.e.pk≠ []->Pr g)
theorem NM {l:List UInt8}(E:n8 l≠ []):l≠ []:=fun e=>E (by rw[e];rfl)
theorem EvIn.grown {w w':World}{x:Ev}{r:Option Nat}(E:EvIn w x)(G:w.grownBy w' r)(H:x.lies (fun g=>some g≠r)):EvIn w' x:=
 ⟨E.fb.grown G (fun g o F e2=>H.1 g o F (NM e2)),E.fl,E.big,E.txt,E.pk.grown G (fun g o F e2=>H.2 g o F e2)⟩
theorem Ev.lies.mono {x:Ev}{H C:Nat->Prop}(F:x.lies H)(G:∀g,H g->C g):x.lies C:=⟨fun g o E e2=>G g (F.1 g o E e2),fun g o E e2=>G g (F.2 g o E e2)⟩
theorem EvIn.lt {w:World}{x:Ev}(G:EvIn w x):x.lies (fun g=>g<w.heap.size):=by
 constructor
 . intro g o F e2
   rcases G.fb.1 with E|⟨b,H,e,hb,_⟩
   . exact absurd (by rw[<-FQ x.e.f.bytes,E];rfl) e2
   . rw[F]at e;cases e;exact hb
 . intro g o F e2
   rcases G.pk.1 with E|⟨b,H,e,hb,_⟩
   . exact absurd E e2
   . rw[F]at e;cases e;exact hb
theorem Xm {w:World}{a:Option Addr}{c:Nat}{ys:List Nat}(H:PkIn w a c ys):∀g o,a=some ⟨g,o,none⟩->ys≠ []->g<w.heap.size:=by
 intro g o e G
 rcases H.1 with F|⟨b,I,E,hb,_⟩
 . exact absurd F G
 . rw[e]at E;cases E;exact hb
theorem Eu {E:Type}{l:List E}{k:Nat}{x:E}(F:l[k]? =some x):l.take (k+1)=l.take k++ [x]:=by
 obtain⟨G,e⟩:=XT.1 F;rw[XB G,e]
def ecells (xs:List Ev):List Value:=xs.flatMap Ev.cells
theorem II (xs:List Ev):(ecells xs).length=xs.length*8:=by
 induction xs with
 |nil=>rfl
 |cons x r ih=>
  have:ecells (x::r)=x.cells++ecells r:=rfl
  rw[this,VE,ih,VJ];show 8+_=_
  omega
theorem IJ (xs ys:List Ev):ecells (xs++ys)=ecells xs++ecells ys:=by simp[ecells]
theorem IH (y:Ev):ecells [y]=y.cells:=by simp[ecells]
theorem N6:∀(xs:List Ev) (j:Nat) (x:Ev) (i:Nat),xs[j]? =some x->i<8->(ecells xs)[j*8+i]? =x.cells[i]?
 | [],j,x,i,h,_=>by simp at h
 |y::r,0,x,i,h,hi=>by
  have:ecells (y::r)=y.cells++ecells r:=rfl
  simp at h
  subst h;rw[this,YJ,WG,WN (show i<8 from hi)]
 |y::r,j+1,x,i,h,hi=>by
  have e:ecells (y::r)=y.cells++ecells r:=rfl;have hl:y.cells.length=8:=rfl;have ih:=N6 r j x i (by simpa using h) hi;rw[e,VX (by rw[hl];omega),hl,show (j+1)*8+i-8=j*8+i by omega,ih]
theorem Z5 (y:Ev):∀u∈y.cells,u.oneCell'=true:=by
 intro u E;simp only[Ev.cells,WH,XE,or_false]at E
 rcases E with rfl|rfl|rfl|rfl|rfl|rfl|rfl|rfl<;>rfl
structure ERow (w:World)(B:Nat)(v:Value)(xs:List Ev):Prop where
 own:w.ownsRow B 71 8 v xs.length (ecells xs)
 all:∀x∈xs,EvIn w x
 apart:∀x∈xs,x.lies (fun g=>some g≠v.ownBlock)
theorem ERow.nil (w:World)(B:Nat):ERow w B (.slice none 0 0) []:=⟨World.ownsRow_nil _ _ _ _,(fun x E=>absurd E XE),(fun x E=>absurd E XE)⟩
theorem ERow.below {w w':World}{B:Nat}{v:Value}{xs:List Ev}(E:ERow w B v xs)(F:Below w.heap.size w w'):ERow w' B v xs:=
 ⟨Au E.own (fun g H=>F.block g (E.own.lt g H).2),fun x G=>(E.all x G).below F,E.apart⟩
theorem GM:(Tryz.prog.info? 71).map (fun i=>(i.zero,i.size,i.bytes))=some (some (.agg #[.string ⟨#[]⟩,.slice none 0 0,.int .i64 0,.int .i64 0,.bool false,.int .u32 0,.slice none 0 0,.int .u32 0]),8,104):=by kernel_rfl
theorem Fr (w:World){U:Array Oper}{M:List Oper}{o:Oper}{a:Act}{Q:Exit->Act->World->Prop}(ar:o.guard=none)(s x:Operand)
 (ag:o.op=.call {callee:=.builtin .append,args:= #[s,x],argTypes:= #[69,69]}) (H:Nat) (v:Value) (xs:List Ev) (ae:a.eval s=v) (I:ERow w H v xs)
 (F:Nat) (y:Ev) (ai:a.eval x=.slice (some ⟨F,0,none⟩) 1 1) (aj:∀j u,y.cells[j]? =some u->w.cell? ⟨F,j,none⟩=some u) (ap:EvIn w y) (aa:y.lies (fun F=>some F≠v.ownBlock)) (au:xs.length+1<=100000) (ak:H<=w.heap.size)
 (h:∀v' w',Hid (ERow w' H v' (xs++ [y]))->Hid (w.grownBy w' v.ownBlock)->wpList Tryz.prog U Q M (a.put o.dst v') w'):wpList Tryz.prog U Q (o::M) a w:=by
 obtain⟨af,hi,ac,ah,ao⟩:=info_parts GM;refine wpList_append_own_at w ar s x 69 ag H 71 af _ 8 104 Tryz.underlying69 hi ac ah ao rfl (by decide) v xs.length (ecells xs) ae I.own ⟨F,0,none⟩ 1 1 y.cells ai rfl ?_ (Z5 y) (by unfold maxLen;omega) (by omega) ak ?_
 . intro j u al;have e2:(⟨F,0,none⟩:Addr).add j=⟨F,j,none⟩:=by unfold Addr.add;split<;>simp_all
   rw[e2];exact aj j u al
 . intro v' w' Z Y _ G
   have T:∀z∈xs++ [y],z.lies (fun F=>some F≠v.ownBlock):=by
    intro z E
    rcases WP.1 E with E|E
    . exact I.apart z E
    . rw[WO.1 E];exact aa
   have O:∀z∈xs++ [y],EvIn w z:=by
    intro z E
    rcases WP.1 E with E|E
    . exact I.all z E
    . rw[WO.1 E];exact ap
   refine h v' w' (Ab ⟨?_,fun z E=>(O z E).grown Y (T z E),fun z E=> ?_⟩) (Ab Y)
   . rw[IJ,IH,VE];exact Z
   . have hl:=(O z E).lt;have hn:=T z E
     rcases G with G|G
     . rw[G];exact hn
     . rw[G];exact hl.mono (fun F av e=>by have:=VM e;omega)
def Es (w:World)(b o:Nat)(xs:List Ev):Prop:=∀j x,xs[j]? =some x->∀i,i<8->w.cell? ⟨b,o+j*8+i,none⟩=x.cells[i]?
structure EsIn (w:World)(ad:Option Addr)(c:Nat)(xs:List Ev):Prop where
 at_:xs= []\/∃b o,ad=some ⟨b,o,none⟩/\b<w.heap.size/\Es w b o xs
 all:∀x∈xs,EvIn w x
theorem EsIn.below {w w':World}{F:Option Addr}{c:Nat}{xs:List Ev}(G:EsIn w F c xs)(E:Below w.heap.size w w'):EsIn w' F c xs:=by
 refine⟨?_,fun x H=>(G.all x H).below E⟩
 rcases G.at_ with I|⟨b,o,e,hb,M⟩
 . exact .inl I
 . exact .inr ⟨b,o,e,VG hb E.size,fun j x O i hi=>(World.cell?_of_block (w:=w) (a:=⟨b,_,none⟩) (E.block b hb)).trans (M j x O i hi)⟩
theorem EsIn.get {w w':World}{I:Option Addr}{c k:Nat}{xs:List Ev}{x:Ev}(M:EsIn w I c xs)(T:Below w.heap.size w w')(E:xs[k]? =some x):
 ∃b o,I=some ⟨b,o,none⟩/\b<w.heap.size/\w'.cell? ⟨b,o+k*8,none⟩=some (.string (B x.e.f.name))/\w'.cell? ⟨b,o+k*8+1,none⟩=some (.slice x.fa x.e.f.bytes.length x.fc)/\w'.cell? ⟨b,o+k*8+2,none⟩=some (.int .i64 x.e.f.stamp)/\w'.cell? ⟨b,o+k*8+3,none⟩=some (.int .i64 x.e.f.node)/\w'.cell? ⟨b,o+k*8+4,none⟩=some (.bool x.e.f.gone)/\w'.cell? ⟨b,o+k*8+5,none⟩=some (.int .u32 (x.e.meth:Int))/\w'.cell? ⟨b,o+k*8+6,none⟩=some (.slice x.pa x.e.pk.length x.pc)/\w'.cell? ⟨b,o+k*8+7,none⟩=some (.int .u32 (x.e.crc:Int)):=by
 rcases(M.below T).at_ with H|⟨b,o,e,hb,F⟩
 . subst H;simp at E
 . have G:b<w.heap.size:=by
    rcases M.at_ with H|⟨Y,U,O,G,_⟩
    . subst H;simp at E
    . rw[e]at O;cases O;exact G
   exact⟨b,o,e,G,F k x E 0 (by decide),F k x E 1 (by decide),F k x E 2 (by decide),F k x E 3 (by decide),F k x E 4 (by decide),F k x E 5 (by decide),F k x E 6 (by decide),F k x E 7 (by decide)⟩
def Tl:Nat->List En->List Nat
 |_,[]=> []
 |p,x::r=>p::Tl (p+(Vr x).length) r
theorem BQ:∀(a:List En) (x:En) (p:Nat),Tl p (a++ [x])=Tl p a++ [p+(Av a).length]
 | [],x,p=>by simp[Tl,Av]
 |y::a,x,p=>by rw[XL,Tl,BQ a x,Tl,Av,VE,XL,WT]
theorem V4:∀(a:List En) (p:Nat),(Tl p a).length=a.length
 | [],p=>rfl
 |y::a,p=>by rw[Tl,VJ,V4 a,VJ]
theorem Z2j:∀(a:List En) (p k:Nat),k<a.length->(Tl p a).getD k 0=p+(Av (a.take k)).length
 | [],p,k,h=>by simp at h
 |y::a,p,0,h=>by simp[Tl,Av]
 |y::a,p,k+1,h=>by
  have:=Z2j a (p+(Vr y).length) k (by simpa using h)
  simp only[Tl,List.getD_cons_succ,XU,Av,VE];rw[this];omega
theorem J3 (a:List En)(x:En):Av (a++ [x])=Av a++Vr x:=by rw[CW];simp[Av]
theorem Uq (a:List En)(x:En):Ao 0 (a++ [x])=Ao 0 a++Qo x (Av a).length:=by rw[Zv];simp[Ao]
theorem ERow.entries {w:World}{B:Nat}{v:Value}{xs:List Ev}(F:ERow w B v xs):∃ad c,v=.slice ad xs.length c/\EsIn w ad c xs:=by
 rcases F.own.2 with ⟨E,G⟩|⟨g,cap,cur,E,G,O,M,T⟩
 . exact⟨none,0,by rw[E,G],.inl (WV G),F.all⟩
 . refine⟨some ⟨g,0,none⟩,cap,E,.inr ⟨g,0,rfl,(F.own.lt g (by rw[E];rfl)).2,fun j x H i hi=> ?_⟩,F.all⟩;have I:=F.own;rw[E]at I;have hl:=II xs;have U:=(XT.1 H).1;rw[WG,I.cellAt _ (by omega)];exact N6 xs j x i H hi
structure AS (w:World)(Bs b:Nat)(xs:List Nat)(v:Value)(ps:List Nat)(wr:World):Prop where
 z:∃ov,ZC Bs wr b xs ov
 p:wr.ownsRow (b+1) 3 1 v ps.length (i64s ps)
 below:Below Bs w wr
theorem AS.later {w wr w':World}{H b:Nat}{xs I:List Nat}{v:Value}(E:AS w H b xs v I wr)(G:Below wr.heap.size wr w'):AS w H b xs v I w':=by
 obtain⟨ov,F⟩:=E.z;refine⟨⟨ov,F.later G⟩,Au E.p (fun g M=>G.block g (E.p.lt g M).2),E.below.trans (G.mono (by have:=F.lt;have:=F.base;omega))⟩
theorem AS.app {w W I:World}{M b y:Nat}{xs H:List Nat}{v v':Value}(F:AS w M b xs v H W)(G:W.grownBy I v.ownBlock)(Y:I.ownsRow (b+1) 3 1 v' (H.length+1) (i64s H++ [.int .i64 (y:Int)])):AS w M b xs v' (H++ [y]) I:=by
 obtain⟨ov,E⟩:=F.z;have U:=E.lt;have aa:=E.base;have Z:=G.size;refine⟨⟨ov,E.base, ?_, ?_⟩, ?_, ?_⟩
 . refine(G.block b U (fun e=> ?_)).trans E.cell;have:=(F.p.lt b e.symm).1
   omega
 . refine Au E.own (fun g O=>G.block g (E.own.lt g O).2 (fun e=> ?_));obtain⟨c1,T⟩:=Oy E.own O;obtain⟨c2,e2⟩:=Oy F.p e.symm;rw[T]at e2
   injection e2 with e2
   injection e2 with _ e2
   exact absurd e2 (by decide)
 . rw[VE,i64s,WU];exact Y
 . exact F.below.grown G (by omega) (fun g e=>by have:=(F.p.lt g e).1;omega)
theorem AS.up {w M H:World}{E b:Nat}{xs ys I:List Nat}{v:Value}(F:AS w E b xs v I M)(G:ZUp E M b ys H):AS w E b ys v I H:=by
 refine⟨G.is,Au F.p (fun g O=> ?_),F.below.trans G.below⟩;obtain⟨cs,e⟩:=Oy F.p O;rw[e];exact G.kp g cs _ _ (by decide) (by decide) e
theorem OI:(Tryz.prog.info? 3).map (fun i=>(i.zero,i.size,i.bytes))=some (some (.int .i64 0),1,8):=by kernel_rfl
theorem OU:∀(l:List En),(∀x∈l,ENum x)->(Av l).length<=12081*l.length
 | [],_=>by simp[Av]
 |x::r,h=>by
  have H:=OU r (fun y F=>h y (WR _ F));have E:=h x (by simp);have I:=E.nm;have G:=E.pl;rw[Av,VE,Kc,VJ];omega
theorem BH:∀(l:List En) (p:Nat),(∀x∈l,ENum x)->(Ao p l).length<=97*l.length
 | [],p,_=>by simp[Ao]
 |x::r,p,h=>by
  have G:=BH r (p+(Vr x).length) (fun y E=>h y (WR _ E));have F:=(h x (by simp)).nm;rw[Ao,VE,Lk,VJ];omega
abbrev X7:Array MapEntry:= #[{key:=.bool true,val:=.int .i64 1,born:=0}]
theorem Z4n (X:World):(Instr.mapUpdate 111 (.map (some X.heap.size)) (.bool true) (.int .i64 1)).run Tryz.prog (X.alloc (.map #[] 0))=.ok () (X.alloc (.map X7 1)):=by
 have hb:(X.alloc (.map #[] 0)).heap[X.heap.size]? =some (.map #[] 0):=heap_alloc_new X _;have F:=Tryz.underlying4;have I:Instr.findNow .bool (.bool true) ([]:List MapEntry) 0=some none:=rfl;have hc:(Instr.checkKey false 10000 4 (.bool true)).run Tryz.prog (X.alloc (.map #[] 0))=.ok () (X.alloc (.map #[] 0)):=MapKept.run_checkKey (k:=.bool true) F (by simp[MapKept.IsKey]) false 9999
 have H: {X.alloc (.map #[] 0)with heap:=(X.alloc (.map #[] 0)).heap.setIfInBounds X.heap.size (.map X7 1)}=X.alloc (.map X7 1):=by
  have G:(X.alloc (.map #[] 0)).heap.setIfInBounds X.heap.size (.map X7 1)=(X.alloc (.map X7 1)).heap:=by
   show (X.heap.push (.map #[] 0)).setIfInBounds X.heap.size (.map X7 1)=X.heap.push (.map X7 1)
   apply Array.ext
   . simp
   . intro i E M;simp only[Array.size_setIfInBounds,YV]at E;rw[Array.getElem_setIfInBounds]
     by_cases hi:X.heap.size=i
     . subst hi;simp
     . rw[if_neg hi,Array.getElem_push_lt (by omega),Array.getElem_push_lt (by omega)]
     . simpa using E
  rw[G];rfl
 simp only[Instr.mapUpdate,Sem.run_bind,run_underlying Tryz.underlying111,MapKept.run_getObj_map hb,hc,MapKept.run_findKey F I,MapKept.run_setObj_map _ hb,Result.andThen];exact congrArg (Result.ok ()) H
theorem Z10 (W:World)(r:Nat)(E:Bool)(G:W.heap[r]? =some (.map X7 1)):(Instr.lookup 111 (.map (some r)) (.bool E) false).run Tryz.prog W=.ok (.int .i64 (if E then 1 else 0)) W:=by
 have F:=Tryz.underlying4;have hc:(Instr.checkKey false 10000 4 (.bool E)).run Tryz.prog W=.ok () W:=MapKept.run_checkKey (k:=.bool E) F (by simp[MapKept.IsKey]) false 9999;have H:Instr.findNow .bool (.bool E) X7.toList 0=some (if E then some (0,.int .i64 1)else none):=by cases E<;>rfl
 have I:(zeroValue 3).run Tryz.prog W=.ok (.int .i64 0) W:=Tryz.zeroValue3 W
 cases E
 . simp[Instr.lookup,run_underlying Tryz.underlying111,MapKept.run_getObj_map G,hc,MapKept.run_findKey F H,I,Result.andThen]
 . simp[Instr.lookup,run_underlying Tryz.underlying111,MapKept.run_getObj_map G,hc,MapKept.run_findKey F H,Result.andThen]
end Go.Proofs.YtleocpdblhbimaaGreatDoor
