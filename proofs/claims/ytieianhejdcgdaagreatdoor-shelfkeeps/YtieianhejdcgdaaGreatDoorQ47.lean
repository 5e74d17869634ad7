import Derived.Test.YtieianhejdcgdaaGreatDoorQ46
import Derived.ChangeKeysEq
import Derived.Deep.RegionHeld3
set_option linter.unusedSimpArgs false
set_option maxHeartbeats 4000000
namespace Go.Proofs.YtieianhejdcgdaaGreatDoor
open Go.RowKit
set_option linter.unusedVariables false
set_option maxRecDepth 100000
theorem Z5a {a b s:Nat}(h:a<2^s):a|||2^s*b=a+2^s*b:=by
 rw[Nat.or_comm,<-YL h,Nat.add_comm]
theorem Nq (a b s:Nat)(ha:a<2^s)(hb:2^s*b<4294967296)(h2:a<4294967296):bits .or .u32 (a:Int) ((2^s*b:Nat):Int)=((a+2^s*b:Nat):Int):=by
 rw[u32_or_nat a (2^s*b) h2 hb,Z5a ha]
def HSt (a c N:Nat)(w:World)(W:World):Prop:=W.heap[N+2]? =some (hdC a c)/\W.heap[N+1]? =some (hdC 0 0)/\Below N w W
theorem HSt.cells {a c N:Nat}{w W:World}(h:HSt a c N w W):W.cell? ⟨N+2,0,none⟩=some (.int .u32 (a:Int))/\W.cell? ⟨N+2,1,none⟩=some (.int .u32 (c:Int))/\W.frozen? ⟨N+2,0,none⟩=false/\W.frozen? ⟨N+2,1,none⟩=false:=
 ⟨Ac (i:=0) h.1,Ac (i:=1) h.1,frozen_of_row W (N+2) 0 _ _ h.1,frozen_of_row W (N+2) 1 _ _ h.1⟩
theorem HSt.drew {a c N:Nat}{w W:World}(h:HSt a c N w W)(q:Nat):HSt a c N w (W.drewN q):=⟨h.1,h.2.1,Af h.2.2 q⟩
theorem HSt.low {a c N a':Nat}{w W:World}{v:Int}(h:HSt a c N w W)(hv:v=(a':Int)):HSt a' c N w (W.setCell ⟨N+2,0,none⟩ (.int .u32 v)):=by
 subst hv;have hgr:=Ad W (N+2) 0 (.int .u32 (a':Int));have hlt:N+1<W.heap.size:=(VG.1 h.2.1).1;refine⟨?_,(hgr.block _ hlt (fun e=>by have:=VN e;omega)).trans h.2.1,h.2.2.grown hgr (by omega) (fun g e=>by cases e;omega)⟩;rw[heap_setCell_same W (N+2) 0 _ _ _ h.1];rfl
theorem HSt.high {a c N c':Nat}{w W:World}{v:Int}(h:HSt a c N w W)(hv:v=(c':Int)):HSt a c' N w (W.setCell ⟨N+2,1,none⟩ (.int .u32 v)):=by
 subst hv;have hgr:=Ad W (N+2) 1 (.int .u32 (c':Int));have hlt:N+1<W.heap.size:=(VG.1 h.2.1).1;refine⟨?_,(hgr.block _ hlt (fun e=>by have:=VN e;omega)).trans h.2.1,h.2.2.grown hgr (by omega) (fun g e=>by cases e;omega)⟩;rw[heap_setCell_same W (N+2) 1 _ _ _ h.1];rfl
def Cq (b0 b1 b2 b3 i:Nat):Nat:=if i=0 then 0 else if i=1 then b0 else if i=2 then b0+2^8*b1 else if i=3 then b0+2^8*b1+2^16*b2 else b0+2^8*b1+2^16*b2+2^24*b3
theorem Z5x (b0 b1 b2 b3 b4 b5 b6 b7:Int)(W:World):(Instr.index 129 (.agg #[.int .u8 b0,.int .u8 b1,.int .u8 b2,.int .u8 b3,.int .u8 b4,.int .u8 b5,.int .u8 b6,.int .u8 b7]) (.int .i64 0)).run Tryz.prog W=.ok (.int .u8 b0) W:=by kernel_rfl
theorem Z5w (b0 b1 b2 b3 b4 b5 b6 b7:Int)(W:World):(Instr.index 129 (.agg #[.int .u8 b0,.int .u8 b1,.int .u8 b2,.int .u8 b3,.int .u8 b4,.int .u8 b5,.int .u8 b6,.int .u8 b7]) (.int .i64 1)).run Tryz.prog W=.ok (.int .u8 b1) W:=by kernel_rfl
theorem Z5v (b0 b1 b2 b3 b4 b5 b6 b7:Int)(W:World):(Instr.index 129 (.agg #[.int .u8 b0,.int .u8 b1,.int .u8 b2,.int .u8 b3,.int .u8 b4,.int .u8 b5,.int .u8 b6,.int .u8 b7]) (.int .i64 2)).run Tryz.prog W=.ok (.int .u8 b2) W:=by kernel_rfl
theorem Z5u (b0 b1 b2 b3 b4 b5 b6 b7:Int)(W:World):(Instr.index 129 (.agg #[.int .u8 b0,.int .u8 b1,.int .u8 b2,.int .u8 b3,.int .u8 b4,.int .u8 b5,.int .u8 b6,.int .u8 b7]) (.int .i64 3)).run Tryz.prog W=.ok (.int .u8 b3) W:=by kernel_rfl
theorem Z5t (b0 b1 b2 b3 b4 b5 b6 b7:Int)(W:World):(Instr.index 129 (.agg #[.int .u8 b0,.int .u8 b1,.int .u8 b2,.int .u8 b3,.int .u8 b4,.int .u8 b5,.int .u8 b6,.int .u8 b7]) (.int .i64 4)).run Tryz.prog W=.ok (.int .u8 b4) W:=by kernel_rfl
theorem Z5s (b0 b1 b2 b3 b4 b5 b6 b7:Int)(W:World):(Instr.index 129 (.agg #[.int .u8 b0,.int .u8 b1,.int .u8 b2,.int .u8 b3,.int .u8 b4,.int .u8 b5,.int .u8 b6,.int .u8 b7]) (.int .i64 5)).run Tryz.prog W=.ok (.int .u8 b5) W:=by kernel_rfl
theorem Z5r (b0 b1 b2 b3 b4 b5 b6 b7:Int)(W:World):(Instr.index 129 (.agg #[.int .u8 b0,.int .u8 b1,.int .u8 b2,.int .u8 b3,.int .u8 b4,.int .u8 b5,.int .u8 b6,.int .u8 b7]) (.int .i64 6)).run Tryz.prog W=.ok (.int .u8 b6) W:=by kernel_rfl
theorem Z5q (b0 b1 b2 b3 b4 b5 b6 b7:Int)(W:World):(Instr.index 129 (.agg #[.int .u8 b0,.int .u8 b1,.int .u8 b2,.int .u8 b3,.int .u8 b4,.int .u8 b5,.int .u8 b6,.int .u8 b7]) (.int .i64 7)).run Tryz.prog W=.ok (.int .u8 b7) W:=by kernel_rfl
theorem FD (b0 b1 b2 b3 b4 b5 b6 b7:Nat)(w:World)(h0:b0<256)(h1:b1<256)(h2:b2<256)(h3:b3<256)(h4:b4<256)(h5:b5<256)(h6:b6<256)(h7:b7<256):
 Calls Tryz.prog 110 #[.agg #[.int .u8 (b0:Int),.int .u8 (b1:Int),.int .u8 (b2:Int),.int .u8 (b3:Int),.int .u8 (b4:Int),.int .u8 (b5:Int),.int .u8 (b6:Int),.int .u8 (b7:Int)]] w fun e w'=>e=.returned (hdV (Cq b0 b1 b2 b3 4) (Cq b4 b5 b6 b7 4))/\Below w.heap.size w w':=by
 obtain⟨N,hN⟩:∃N,w.heap.size=N:=⟨_,rfl⟩
 have x0:=Z5x (b0:Int) (b1:Int) (b2:Int) (b3:Int) (b4:Int) (b5:Int) (b6:Int) (b7:Int);have x1:=Z5w (b0:Int) (b1:Int) (b2:Int) (b3:Int) (b4:Int) (b5:Int) (b6:Int) (b7:Int);have x2:=Z5v (b0:Int) (b1:Int) (b2:Int) (b3:Int) (b4:Int) (b5:Int) (b6:Int) (b7:Int);have x3:=Z5u (b0:Int) (b1:Int) (b2:Int) (b3:Int) (b4:Int) (b5:Int) (b6:Int) (b7:Int);have x4:=Z5t (b0:Int) (b1:Int) (b2:Int) (b3:Int) (b4:Int) (b5:Int) (b6:Int) (b7:Int);have x5:=Z5s (b0:Int) (b1:Int) (b2:Int) (b3:Int) (b4:Int) (b5:Int) (b6:Int) (b7:Int);have x6:=Z5r (b0:Int) (b1:Int) (b2:Int) (b3:Int) (b4:Int) (b5:Int) (b6:Int) (b7:Int);have x7:=Z5q (b0:Int) (b1:Int) (b2:Int) (b3:Int) (b4:Int) (b5:Int) (b6:Int) (b7:Int)
 have HST:Hid (HSt 0 0 N w (((w.alloc (.cells #[.int .u8 (b0:Int),.int .u8 (b1:Int),.int .u8 (b2:Int),.int .u8 (b3:Int),.int .u8 (b4:Int),.int .u8 (b5:Int),.int .u8 (b6:Int),.int .u8 (b7:Int)] 129)).alloc (.cells #[.int .u32 0,.int .u32 0] 131)).alloc (.cells #[.int .u32 0,.int .u32 0] 131))):=Ab (by
  refine⟨?_, ?_, ?_⟩
  . have:=heap_alloc_new ((w.alloc (.cells #[.int .u8 (b0:Int),.int .u8 (b1:Int),.int .u8 (b2:Int),.int .u8 (b3:Int),.int .u8 (b4:Int),.int .u8 (b5:Int),.int .u8 (b6:Int),.int .u8 (b7:Int)] 129)).alloc (.cells #[.int .u32 0,.int .u32 0] 131)) (.cells #[.int .u32 0,.int .u32 0] 131)
    rw[<-(by simp[hN]:((w.alloc (.cells #[.int .u8 (b0:Int),.int .u8 (b1:Int),.int .u8 (b2:Int),.int .u8 (b3:Int),.int .u8 (b4:Int),.int .u8 (b5:Int),.int .u8 (b6:Int),.int .u8 (b7:Int)] 129)).alloc (.cells #[.int .u32 0,.int .u32 0] 131)).heap.size=N+2)];exact this
  . refine(Below.heap_alloc _ _ _ (by simp[hN])).trans ?_;have:=heap_alloc_new (w.alloc (.cells #[.int .u8 (b0:Int),.int .u8 (b1:Int),.int .u8 (b2:Int),.int .u8 (b3:Int),.int .u8 (b4:Int),.int .u8 (b5:Int),.int .u8 (b6:Int),.int .u8 (b7:Int)] 129)) (.cells #[.int .u32 0,.int .u32 0] 131)
    rw[<-(by simp[hN]:(w.alloc (.cells #[.int .u8 (b0:Int),.int .u8 (b1:Int),.int .u8 (b2:Int),.int .u8 (b3:Int),.int .u8 (b4:Int),.int .u8 (b5:Int),.int .u8 (b6:Int),.int .u8 (b7:Int)] 129)).heap.size=N+1)];exact this
  . rw[<-hN];exact(((Below.refl w.heap.size w).alloc (VC _) _).alloc (by simp) _).alloc (by simp;omega) _)
 have HBX:Hid ((((w.alloc (.cells #[.int .u8 (b0:Int),.int .u8 (b1:Int),.int .u8 (b2:Int),.int .u8 (b3:Int),.int .u8 (b4:Int),.int .u8 (b5:Int),.int .u8 (b6:Int),.int .u8 (b7:Int)] 129)).alloc (.cells #[.int .u32 0,.int .u32 0] 131)).alloc (.cells #[.int .u32 0,.int .u32 0] 131)).heap[N]? =some (.cells #[.int .u8 (b0:Int),.int .u8 (b1:Int),.int .u8 (b2:Int),.int .u8 (b3:Int),.int .u8 (b4:Int),.int .u8 (b5:Int),.int .u8 (b6:Int),.int .u8 (b7:Int)] 129 (0,0))):=Ab (by
  refine(Below.heap_alloc _ _ _ (by simp[hN];omega)).trans ((Below.heap_alloc _ _ _ (by simp[hN])).trans ?_);rw[<-hN];exact heap_alloc_new _ _)
 have hu8:=Tryz.underlying129;go_enter Tryz.func110,Tryz.ntmps110
 go_wp2_with (refine wpList_load_row rfl 129 (.tmp 1) rfl N rfl 129 #[.int .u8 (b0:Int),.int .u8 (b1:Int),.int .u8 (b2:Int),.int .u8 (b3:Int),.int .u8 (b4:Int),.int .u8 (b5:Int),.int .u8 (b6:Int),.int .u8 (b7:Int)] (0,0) _ (Aa HBX) hu8 rfl (by kernel_rfl) ?_)
 go_loopw [7] (fun v7 wr=>∃i:Nat,i<=8/\v7=.int .i64 (i:Int)/\Hid (HSt (Cq b0 b1 b2 b3 i) (Cq b4 b5 b6 b7 (i-4)) N w wr)) (fun v7 _=>8-(intOf v7).toNat)
 case atStart=>exact⟨0,by decide,rfl,HST⟩
 case round=>
  obtain⟨i,hi,rfl,hst⟩:=hrel;clear HST HBX
  rcases(by omega:i=0\/i=1\/i=2\/i=3\/i=4\/i=5\/i=6\/i=7\/i=8)with rfl|rfl|rfl|rfl|rfl|rfl|rfl|rfl|rfl
  . obtain⟨d0,d1,f0,f1⟩:=(Aa hst).cells;obtain⟨A,hA⟩:∃A,Cq b0 b1 b2 b3 0=A:=⟨_,rfl⟩
    obtain⟨C,hC⟩:∃C,Cq b4 b5 b6 b7 (0-4)=C:=⟨_,rfl⟩
    rw[hA]at d0 hst;rw[hC]at d1 hst;have HN:Hid (Cq b0 b1 b2 b3 0+2^0*b0=Cq b0 b1 b2 b3 1/\Cq b0 b1 b2 b3 0<2^0):=Ab (by unfold Cq;constructor<;>simp<;>omega);have HA:=Ab hA;have HC:=Ab hC;clear hA hC;go_wp2;go_big_region
    go_wp2;refine⟨⟨1,by decide,rfl,Ab ?_⟩,by simp[intOf]⟩;have e0:(b0:Int)=((2^0*b0:Nat):Int):=by omega
    have hv:bits .or .u32 (A:Int) (b0:Int)=((Cq b0 b1 b2 b3 1:Nat):Int):=by
     obtain⟨n1,n2⟩:=Aa HN;have e1:Cq b0 b1 b2 b3 0=A:=Aa HA;rw[e1]at n1 n2;rw[e0,Nq A b0 0 n2 (by omega) (by omega),n1]
    have e:=((Aa hst).low hv).drew 1;rw[<-Aa HC]at e;exact e
  . obtain⟨d0,d1,f0,f1⟩:=(Aa hst).cells;obtain⟨A,hA⟩:∃A,Cq b0 b1 b2 b3 1=A:=⟨_,rfl⟩
    obtain⟨C,hC⟩:∃C,Cq b4 b5 b6 b7 (1-4)=C:=⟨_,rfl⟩
    rw[hA]at d0 hst;rw[hC]at d1 hst;have HN:Hid (Cq b0 b1 b2 b3 1+2^8*b1=Cq b0 b1 b2 b3 2/\Cq b0 b1 b2 b3 1<2^8):=Ab (by unfold Cq;constructor<;>simp<;>omega);have HA:=Ab hA;have HC:=Ab hC;clear hA hC;go_wp2;go_big_region
    go_wp2;refine⟨⟨2,by decide,rfl,Ab ?_⟩,by simp[intOf]⟩;have e0:((b1:Int)*256)=((2^8*b1:Nat):Int):=by omega
    have hv:bits .or .u32 (A:Int) ((b1:Int)*256)=((Cq b0 b1 b2 b3 2:Nat):Int):=by
     obtain⟨n1,n2⟩:=Aa HN;have e1:Cq b0 b1 b2 b3 1=A:=Aa HA;rw[e1]at n1 n2;rw[e0,Nq A b1 8 n2 (by omega) (by omega),n1]
    have e:=((Aa hst).low hv).drew 1;rw[<-Aa HC]at e;exact e
  . obtain⟨d0,d1,f0,f1⟩:=(Aa hst).cells;obtain⟨A,hA⟩:∃A,Cq b0 b1 b2 b3 2=A:=⟨_,rfl⟩
    obtain⟨C,hC⟩:∃C,Cq b4 b5 b6 b7 (2-4)=C:=⟨_,rfl⟩
    rw[hA]at d0 hst;rw[hC]at d1 hst;have HN:Hid (Cq b0 b1 b2 b3 2+2^16*b2=Cq b0 b1 b2 b3 3/\Cq b0 b1 b2 b3 2<2^16):=Ab (by unfold Cq;constructor<;>simp<;>omega);have HA:=Ab hA;have HC:=Ab hC;clear hA hC;go_wp2;go_big_region
    go_wp2;refine⟨⟨3,by decide,rfl,Ab ?_⟩,by simp[intOf]⟩;have e0:((b2:Int)*65536)=((2^16*b2:Nat):Int):=by omega
    have hv:bits .or .u32 (A:Int) ((b2:Int)*65536)=((Cq b0 b1 b2 b3 3:Nat):Int):=by
     obtain⟨n1,n2⟩:=Aa HN;have e1:Cq b0 b1 b2 b3 2=A:=Aa HA;rw[e1]at n1 n2;rw[e0,Nq A b2 16 n2 (by omega) (by omega),n1]
    have e:=((Aa hst).low hv).drew 1;rw[<-Aa HC]at e;exact e
  . obtain⟨d0,d1,f0,f1⟩:=(Aa hst).cells;obtain⟨A,hA⟩:∃A,Cq b0 b1 b2 b3 3=A:=⟨_,rfl⟩
    obtain⟨C,hC⟩:∃C,Cq b4 b5 b6 b7 (3-4)=C:=⟨_,rfl⟩
    rw[hA]at d0 hst;rw[hC]at d1 hst;have HN:Hid (Cq b0 b1 b2 b3 3+2^24*b3=Cq b0 b1 b2 b3 4/\Cq b0 b1 b2 b3 3<2^24):=Ab (by unfold Cq;constructor<;>simp<;>omega);have HA:=Ab hA;have HC:=Ab hC;clear hA hC;go_wp2;go_big_region
    go_wp2;refine⟨⟨4,by decide,rfl,Ab ?_⟩,by simp[intOf]⟩;have e0:((b3:Int)*16777216)=((2^24*b3:Nat):Int):=by omega
    have hv:bits .or .u32 (A:Int) ((b3:Int)*16777216)=((Cq b0 b1 b2 b3 4:Nat):Int):=by
     obtain⟨n1,n2⟩:=Aa HN;have e1:Cq b0 b1 b2 b3 3=A:=Aa HA;rw[e1]at n1 n2;rw[e0,Nq A b3 24 n2 (by omega) (by omega),n1]
    have e:=((Aa hst).low hv).drew 1;rw[<-Aa HC]at e;exact e
  . obtain⟨d0,d1,f0,f1⟩:=(Aa hst).cells;obtain⟨A,hA⟩:∃A,Cq b0 b1 b2 b3 4=A:=⟨_,rfl⟩
    obtain⟨C,hC⟩:∃C,Cq b4 b5 b6 b7 (4-4)=C:=⟨_,rfl⟩
    rw[hA]at d0 hst;rw[hC]at d1 hst;have HN:Hid (Cq b4 b5 b6 b7 0+2^0*b4=Cq b4 b5 b6 b7 1/\Cq b4 b5 b6 b7 0<2^0):=Ab (by unfold Cq;constructor<;>simp<;>omega);have HA:=Ab hA;have HC:=Ab hC;clear hA hC;go_wp2;go_big_region
    go_wp2;refine⟨⟨5,by decide,rfl,Ab ?_⟩,by simp[intOf]⟩;have e0:(b4:Int)=((2^0*b4:Nat):Int):=by omega
    have hv:bits .or .u32 (C:Int) (b4:Int)=((Cq b4 b5 b6 b7 1:Nat):Int):=by
     obtain⟨n1,n2⟩:=Aa HN;have e1:Cq b4 b5 b6 b7 0=C:=Aa HC;rw[e1]at n1 n2;rw[e0,Nq C b4 0 n2 (by omega) (by omega),n1]
    have e:=((Aa hst).high hv).drew 1;rw[<-Aa HA]at e;exact e
  . obtain⟨d0,d1,f0,f1⟩:=(Aa hst).cells;obtain⟨A,hA⟩:∃A,Cq b0 b1 b2 b3 5=A:=⟨_,rfl⟩
    obtain⟨C,hC⟩:∃C,Cq b4 b5 b6 b7 (5-4)=C:=⟨_,rfl⟩
    rw[hA]at d0 hst;rw[hC]at d1 hst;have HN:Hid (Cq b4 b5 b6 b7 1+2^8*b5=Cq b4 b5 b6 b7 2/\Cq b4 b5 b6 b7 1<2^8):=Ab (by unfold Cq;constructor<;>simp<;>omega);have HA:=Ab hA;have HC:=Ab hC;clear hA hC;go_wp2;go_big_region
    go_wp2;refine⟨⟨6,by decide,rfl,Ab ?_⟩,by simp[intOf]⟩;have e0:((b5:Int)*256)=((2^8*b5:Nat):Int):=by omega
    have hv:bits .or .u32 (C:Int) ((b5:Int)*256)=((Cq b4 b5 b6 b7 2:Nat):Int):=by
     obtain⟨n1,n2⟩:=Aa HN;have e1:Cq b4 b5 b6 b7 1=C:=Aa HC;rw[e1]at n1 n2;rw[e0,Nq C b5 8 n2 (by omega) (by omega),n1]
    have e:=((Aa hst).high hv).drew 1;rw[<-Aa HA]at e;exact e
  . obtain⟨d0,d1,f0,f1⟩:=(Aa hst).cells;obtain⟨A,hA⟩:∃A,Cq b0 b1 b2 b3 6=A:=⟨_,rfl⟩
    obtain⟨C,hC⟩:∃C,Cq b4 b5 b6 b7 (6-4)=C:=⟨_,rfl⟩
    rw[hA]at d0 hst;rw[hC]at d1 hst;have HN:Hid (Cq b4 b5 b6 b7 2+2^16*b6=Cq b4 b5 b6 b7 3/\Cq b4 b5 b6 b7 2<2^16):=Ab (by unfold Cq;constructor<;>simp<;>omega);have HA:=Ab hA;have HC:=Ab hC;clear hA hC;go_wp2;go_big_region
    go_wp2;refine⟨⟨7,by decide,rfl,Ab ?_⟩,by simp[intOf]⟩;have e0:((b6:Int)*65536)=((2^16*b6:Nat):Int):=by omega
    have hv:bits .or .u32 (C:Int) ((b6:Int)*65536)=((Cq b4 b5 b6 b7 3:Nat):Int):=by
     obtain⟨n1,n2⟩:=Aa HN;have e1:Cq b4 b5 b6 b7 2=C:=Aa HC;rw[e1]at n1 n2;rw[e0,Nq C b6 16 n2 (by omega) (by omega),n1]
    have e:=((Aa hst).high hv).drew 1;rw[<-Aa HA]at e;exact e
  . obtain⟨d0,d1,f0,f1⟩:=(Aa hst).cells;obtain⟨A,hA⟩:∃A,Cq b0 b1 b2 b3 7=A:=⟨_,rfl⟩
    obtain⟨C,hC⟩:∃C,Cq b4 b5 b6 b7 (7-4)=C:=⟨_,rfl⟩
    rw[hA]at d0 hst;rw[hC]at d1 hst;have HN:Hid (Cq b4 b5 b6 b7 3+2^24*b7=Cq b4 b5 b6 b7 4/\Cq b4 b5 b6 b7 3<2^24):=Ab (by unfold Cq;constructor<;>simp<;>omega);have HA:=Ab hA;have HC:=Ab hC;clear hA hC;go_wp2;go_big_region
    go_wp2;refine⟨⟨8,by decide,rfl,Ab ?_⟩,by simp[intOf]⟩;have e0:((b7:Int)*16777216)=((2^24*b7:Nat):Int):=by omega
    have hv:bits .or .u32 (C:Int) ((b7:Int)*16777216)=((Cq b4 b5 b6 b7 4:Nat):Int):=by
     obtain⟨n1,n2⟩:=Aa HN;have e1:Cq b4 b5 b6 b7 3=C:=Aa HC;rw[e1]at n1 n2;rw[e0,Nq C b7 24 n2 (by omega) (by omega),n1]
    have e:=((Aa hst).high hv).drew 1;rw[<-Aa HA]at e;exact e
  . have e:HSt (Cq b0 b1 b2 b3 4) (Cq b4 b5 b6 b7 4) N w wr:=Aa hst;obtain⟨A,hA⟩:∃A,Cq b0 b1 b2 b3 4=A:=⟨_,rfl⟩
    obtain⟨C,hC⟩:∃C,Cq b4 b5 b6 b7 4=C:=⟨_,rfl⟩
    rw[hA,hC]at e;have HA:=Ab hA;have HC:=Ab hC;have R2:=Ab e.1;have R1:=Ab e.2.1;have BN:=Ab e.2.2;have e0:=Ac (i:=0) e.1;have e1:=Ac (i:=1) e.1;have g0:=Ac (i:=0) e.2.1;have g1:=Ac (i:=1) e.2.1;have q0:=frozen_of_row wr (N+1) 0 _ _ e.2.1;have q1:=frozen_of_row wr (N+1) 1 _ _ e.2.1;have hui:=Tryz.underlying131
    have HB:Hid (∀u v:Value,Below w.heap.size w ((wr.setCell ⟨N+1,0,none⟩ u).setCell ⟨N+1,1,none⟩ v)):=Ab (fun u v=>by
     have hz:N+1<wr.heap.size:=(VG.1 e.2.1).1;have h2:=e.2.2.grown (Ad wr (N+1) 0 u) (by omega) (fun g e=>by cases e;omega);have h3:=h2.grown (Ad _ (N+1) 1 v) (by have:=(Ad wr (N+1) 0 u).size;omega) (fun g e=>by cases e;omega);rw[hN];exact h3)
    clear hst e hA hC;go_wp2;refine bodyPost_ret (v:=hdV A C) ?_ rfl ⟨by rw[Aa HA,Aa HC],Aa HB _ _⟩;refine results_cell_row rfl _ _ (N+1) 131 #[.int .u32 (A:Int),.int .u32 (C:Int)] (0,0) _ rfl ?_ hui rfl (by kernel_rfl);rw[heap_setCell_same _ (N+1) 1 _ _ _ (heap_setCell_same wr (N+1) 0 _ _ _ (Aa R1))];rfl
theorem Sl (b o j:Nat):(⟨b,o,none⟩:Addr).add j=⟨b,o+j,none⟩:=by unfold Addr.add;split<;>simp_all
theorem O7 {xs:List Nat}{j:Nat}{v:Value}(h:(u8s xs)[j]? =some v):j<xs.length/\v=.int .u8 ((xs.getD j 0:Nat):Int):=by
 by_cases hj:j<xs.length
 . refine⟨hj, ?_⟩;simp[u8s,hj]at h
   subst h;simp[List.getD,hj]
 . rw[WA (by simp;omega)]at h
   cases h
theorem Z4p {l:List Nat}{j:Nat}(h:j<l.length):(u8s l)[j]? =some (.int .u8 ((l.getD j 0:Nat):Int)):=by simp[u8s,List.getD,h]
theorem Sw (w:World)(ty:TypeId)(g n m c:Nat)(xs ys:List Nat)(b:Option Addr)(hn:xs.length=n)(hX:Bytes w g 0 xs)(hm:ys.length=m)(h0:0<m)(hY:BytesIn w b ys)(hsz:n+m<=1000000):
 ∃c' w',(Builtin.append_ #[23,23] ty #[.slice (some ⟨g,0,none⟩) n n,.slice b m c]).run Tryz.prog w=.ok (.slice (some ⟨w.heap.size,0,none⟩) (n+m) c') w'/\n+m<=c'/\Bytes w' w.heap.size 0 (xs++ys)/\w.heap.size<w'.heap.size/\Below w.heap.size w w':=by
 obtain⟨i0,hi,hz0,hz1,hz2⟩:=info_parts Hs;obtain⟨bb,bo,rfl,hb,hB⟩:=Ca hY (by omega)
 have hr:=run_append_grow (P:=Tryz.prog) (w:=w) 23 ty 5 i0 (.int .u8 0) Tryz.underlying23 hi hz0 ⟨g,0,none⟩ n n (u8s xs) (by rw[hz1];simp[hn]) (fun j v hv=>by
  obtain⟨hj,rfl⟩:=O7 hv;rw[Sl];exact hX j hj) ⟨bb,bo,none⟩ m c (u8s ys) (by rw[hz1];simp[hm]) (fun j v hv=>by
  obtain⟨hj,rfl⟩:=O7 hv;rw[Sl];exact hB j hj) (by omega) (by omega) (by rw[hz2];exact growslice_fits (by omega) (by omega))
 refine⟨_,_,hr,grownCap_ge _ _ _ _, ?_,by rw[World.size_alloc];exact Nat.lt_succ_self _, ?_⟩
 . intro j hj;rw[WI];have hh:=heap_alloc_new w.drew (.cells ((u8s xs).toArray++(u8s ys).toArray++Builtin.zeroCells (Value.int .u8 0).cells (grownCap w (n+m) n 5-(n+m))) 5);rw[show w.drew.heap.size=w.heap.size from rfl]at hh;rw[Ac hh];have hj2:j<(u8s xs++u8s ys).length:=by simpa using hj
   have e:((u8s xs).toArray++(u8s ys).toArray++Builtin.zeroCells (Value.int .u8 0).cells (grownCap w (n+m) n 5-(n+m)))[j]? =(u8s xs++u8s ys)[j]? :=by
    rw[Array.getElem?_append_left (by simpa using hj2)];simp
   rw[e];have e2:u8s xs++u8s ys=u8s (xs++ys):=by simp[u8s]
   rw[e2];exact Z4p hj
 . exact(Af (Below.refl w.heap.size w) 1).alloc (VC _) _
theorem Mo {w:World}{ops:Array Oper}{rest:List Oper}{o:Oper}{a:Act}{Q:Exit->Act->World->Prop}(hgd:o.guard=none)(s x:Operand)
 (ho:o.op=.call {callee:=.builtin .append,args:= #[s,x],argTypes:= #[23,23]}) (g n m c:Nat) (xs ys:List Nat) (b:Option Addr) (hs:a.eval s=.slice (some ⟨g,0,none⟩) n n) (hx:a.eval x=.slice b m c) (hn:xs.length=n) (hX:Bytes w g 0 xs) (hm:ys.length=m) (h0:0<m) (hY:BytesIn w b ys) (hsz:n+m<=1000000)
 (h:∀c' w',n+m<=c'->Bytes w' w.heap.size 0 (xs++ys)->w.heap.size<w'.heap.size->Below w.heap.size w w'->wpList Tryz.prog ops Q rest (a.put o.dst (.slice (some ⟨w.heap.size,0,none⟩) (n+m) c')) w'):wpList Tryz.prog ops Q (o::rest) a w:=by
 refine wpList_plain hgd fun K hK=> ?_
 obtain⟨c',w',hr,h1,h2,h3,h4⟩:=Sw w o.type g n m c xs ys b hn hX hm h0 hY hsz;unfold Oper.wp execOp;simp only[ho,resolve,invoke,builtin,Sem.run_bind,Sem.run_pure,Result.andThen_ok,YD,WG,YB,hs,hx,hr];exact hK _ _ (h c' w' h1 h2 h3 h4)
theorem DS (a:Option Addr)(n cap:Nat)(bs:List Nat)(w:World)(hl:bs.length=n)(h0:0<n)(hn:n<=12000)(hby:BytesIn w a bs)(hv:∀x∈bs,x<256):
 Calls Tryz.prog 56 #[.slice a n cap] w fun e w'=>∃g c,e=.returned (.slice (some ⟨g,0,none⟩) (8+n) c)/\8+n<=c/\w.heap.size<=g/\g<w'.heap.size/\Bytes w' g 0 (Ga bs)/\Below w.heap.size w w':=by
 have HH:=Ab (Ut a n cap bs w hl hn hby (Dj hv));have hc:crcN 0 bs<4294967296:=V6 hv (by decide);have hre:Ga bs=hdL n (crcN 0 bs)++bs:=by unfold Ga;rw[Z3d,hl]
 obtain⟨C,hC⟩:∃C,crcN 0 bs=C:=⟨_,rfl⟩
 rw[hC]at HH hre hc;have HR:=Ab (fun W=>Z2e n C W (by omega) hc);obtain⟨TL,hTL⟩:∃TL,hdL n C=TL:=⟨_,rfl⟩
 have hTl:TL.length=8:=by rw[<-hTL];rfl
 rw[hTL]at HR hre;have HRE:=Ab hre;have HBY:=Ab hby;have HL:=Ab hl;have hi1:(Tryz.prog.info? 129).map (·.size)=some (u8s TL).toArray.size:=by rw[Z3b];simp[hTl]
 clear hby hv hl hC hTL hre;go_enter Tryz.func56,Tryz.ntmps56
 go_wp2_with fail
 refine(Aa HH).mono ?_;rintro e w1 ⟨rfl,hB1⟩;have HB1:=Ab hB1;clear hB1 HH;go_wp2_with fail
 refine(Aa HR w1).mono ?_;rintro e w2 ⟨rfl,hB2⟩;have HB2:=Ab ((Aa HB1).trans (hB2.mono (Aa HB1).size));clear hB2 HR;have HZ2:=Ab (Aa HB2).size
 have HNW:Hid (∀(A:Array Value) (W:World),(w2.alloc (.cells A 129)).setRow w2.heap.size (u8s TL).toArray=W->A.size=8->URow 129 W w2.heap.size TL/\Below w.heap.size w W):=Ab (fun A W hW hA=>by
  have h1:=heap_alloc_new w2 (.cells A 129);rw[<-hW];exact⟨setRow_heap _ _ _ _ _ _ h1,Av ((Aa HB2).alloc (Aa HZ2) _) (Aa HZ2) _⟩)
 go_wp2_with (first|refine wpList_store_row rfl 129 (.tmp 3) (.tmp 6) rfl w2.heap.size (u8s TL).toArray rfl rfl 129 _ (heap_alloc_new _ _) hi1 (by simp[hTl]) (IX TL) ?_|refine Mo rfl (.tmp 7) (.tmp 8) rfl w2.heap.size 8 n cap TL bs a rfl rfl hTl (Aa HNW _ _ rfl (by kernel_rfl)).1.bytes (Aa HL) h0 ((Aa HBY).below (Aa HNW _ _ rfl (by kernel_rfl)).2 (VC _)) (by omega) ?_)
 intro c' w4 k1 k2 k3 k4;generalize hW:World.setRow _ _ _=W at*;obtain⟨hU,hB3⟩:=Aa HNW _ W hW (by kernel_rfl);have HB3:=Ab hB3;have hlt:=hU.lt;clear hU hB3 HNW;have hz2:=Aa HZ2;have HF:Hid (8+n<=c'/\w.heap.size<=w2.heap.size+1/\w2.heap.size+1<w4.heap.size/\Bytes w4 (w2.heap.size+1) 0 (Ga bs)/\Below w.heap.size w w4):=Ab ⟨k1,by omega,k3,by rw[Aa HRE];exact k2,(Aa HB3).trans (k4.mono (by omega))⟩;clear k1 k2 k3 k4 hlt hW;go_wp2;go_ret;exact⟨_,_,rfl,Aa HF⟩
theorem Z57 (a b:Int)(W:World):(Go.part 35 #[.int .u32 a,.int .u32 b] 0).run Tryz.prog W=.ok (.int .u32 a) W:=by simp[Go.part,isAgg,run_underlying Tryz.underlying35]
theorem Z56 (a b:Int)(W:World):(Go.part 35 #[.int .u32 a,.int .u32 b] 1).run Tryz.prog W=.ok (.int .u32 b) W:=by simp[Go.part,isAgg,run_underlying Tryz.underlying35]
theorem eqH (a d c:Nat)(W:World):(Op.equalIn 10000 131 (.agg #[.int .u32 (a:Int),.int .u32 (d:Int)]) (.agg #[.int .u32 (a:Int),.int .u32 (c:Int)])).run Tryz.prog W=.ok (decide (d=c)) W:=by
 have hi:∃i,Tryz.prog.info? 35=some i:=Option.isSome_iff_exists.1 (by kernel_rfl);obtain⟨i,hi⟩:=hi;have hc:Tryz.prog.cellsOf 35=1:=by kernel_rfl
 rw[run_equalIn_array W 9999 _ _ Tryz.underlying131 hi,hc];have e2:List.range 2= [0,1]:=rfl;rw[e2];have q0:(Op.equalIn 9999 35 (.int .u32 (a:Int)) (.int .u32 (a:Int))).run Tryz.prog W=.ok ((a:Int)==(a:Int)) W:=run_equalIn_int (P:=Tryz.prog) W 9998 35 .u32 .u32 (a:Int) (a:Int) Tryz.underlying35;have q1:(Op.equalIn 9999 35 (.int .u32 (d:Int)) (.int .u32 (c:Int))).run Tryz.prog W=.ok ((d:Int)==(c:Int)) W:=run_equalIn_int (P:=Tryz.prog) W 9998 35 .u32 .u32 (d:Int) (c:Int) Tryz.underlying35
 by_cases h:d=c
 . subst h;simp[Op.eqItems,Sem.run_bind,Z57,Z56,q0,q1]
 . have h2:((d:Int)==(c:Int))=false:=by rw[beq_eq_false_iff_ne];omega
   rw[h2]at q1;simp[Op.eqItems,Sem.run_bind,Z57,Z56,q0,q1,h]
def FaA (w:World)(a:Option Addr)(cap:Nat)(bs:List Nat)(e:Ending)(w':World):Prop:=
 Below w.heap.size w w'/\((So bs=none/\∃x y z,e=.returned (.tuple #[.slice x y z,.bool false]))\/∃ar x z,So bs=some ar/\e=.returned (.tuple #[.slice x ar.length z,.bool true])/\ar.length<=z/\∀W,PkIn W a cap bs->PkIn W x z ar)
theorem Z71 {l:List Nat}(h:8<=l.length):∃b0 b1 b2 b3 b4 b5 b6 b7 r,l=b0::b1::b2::b3::b4::b5::b6::b7::r:=by
 match l,h with
 |b0::b1::b2::b3::b4::b5::b6::b7::r,_=>exact⟨b0,b1,b2,b3,b4,b5,b6,b7,r,rfl⟩
theorem LU (b0 b1 b2 b3:Nat):Cq b0 b1 b2 b3 4=Ai [b0,b1,b2,b3]:=by
 simp[Cq,Ai]
 omega
theorem KT {w:World}{p n cap k:Nat}{a a':Option Addr}{bs:List Nat}(hP:PkIn w a cap bs)(hl:bs.length=n)(h1:∀b o,a=some ⟨b,o,none⟩->p<n->a'=some ⟨b,o+p,none⟩)(h2:a'=none->k=0):PkIn w a' k (bs.drop p):=by
 refine⟨?_,h2⟩
 by_cases h0:p<n
 . obtain⟨g,o,e,hg,hB⟩:=Ca hP.1 (by omega);refine .inr ⟨g,o+p,h1 g o e h0,hg,fun j hj=> ?_⟩;rw[VO]at hj;have e2:(bs.drop p).getD j 0=bs.getD (p+j) 0:=by simp only[List.getD];rw[XP]
   rw[e2,WJ];exact hB (p+j) (by omega)
 . exact .inl (XL (by omega))
theorem Wj {w:World}{cap:Nat}{a:Option Addr}{bs:List Nat}(hP:PkIn w a cap bs)(q:Nat):PkIn w a cap (bs.take q):=⟨hP.1.cut q,hP.2⟩
theorem OE {bs:List Nat}(h:∀x∈bs,x<256)(q:Nat):∀x∈bs.drop q,x<256:=fun x hx=>h x (WB hx)
theorem Zh {bs:List Nat}(h:∀x∈bs,x<256)(q:Nat):∀x∈bs.take q,x<256:=fun x hx=>h x (VS hx)
theorem Ol (a:Option Addr)(n cap:Nat)(bs:List Nat)(w:World)(hl:bs.length=n)(hc:n<=cap)(hP:PkIn w a cap bs)(hv:∀x∈bs,x<256)(hm:n<=140737488355328):
 Calls Tryz.prog 74 #[.slice a n cap] w fun e w'=>FaA w a cap bs e w':=by
 by_cases h8:n<8
 . have HF:Hid (FaA w a cap bs (.returned (.tuple #[.slice none 0 0,.bool false])) w):=Ab ⟨Below.refl _ _,.inl ⟨by unfold So;rw[if_pos (by omega)],_,_,_,rfl⟩⟩;have h8I:(n:Int)<8:=by omega
   clear hP hv hl;go_enter Tryz.func74,Tryz.ntmps74
   go_wp2;go_ret2;exact Aa HF
 have h8I:¬(n:Int)<8:=by omega
 obtain⟨b,o,rfl,hb,hB⟩:=Ca hP.1 (by omega);obtain⟨b0,b1,b2,b3,b4,b5,b6,b7,r,rfl⟩:=Z71 (l:=bs) (by omega);obtain⟨a',hsl,ha1,ha2⟩:=Q0 (some ⟨b,o,none⟩) 8 n cap (by omega) hc hP.2;replace hsl:∀W:World,(Instr.slice 23 (.slice (some ⟨b,o,none⟩) n cap) (some (.int .i64 8)) none none).run Tryz.prog W=.ok (.slice a' (n-8) (cap-8)) W:=hsl;have hin:=fun W=>FD b0 b1 b2 b3 b4 b5 b6 b7 W (hv _ (by simp)) (hv _ (by simp)) (hv _ (by simp)) (hv _ (by simp)) (hv _ (by simp)) (hv _ (by simp)) (hv _ (by simp)) (hv _ (by simp))
 obtain⟨A,hA⟩:∃A,Cq b0 b1 b2 b3 4=A:=⟨_,rfl⟩
 obtain⟨C,hC⟩:∃C,Cq b4 b5 b6 b7 4=C:=⟨_,rfl⟩
 rw[hA,hC]at hin;unfold hdV at hin;have HIN:=Ab hin
 have HR:w.rangeAt b o (u8s [b0,b1,b2,b3,b4,b5,b6,b7]):=fun j v hj=>by
  obtain⟨hj2,rfl⟩:=O7 hj;have hj8:j<8:=hj2
  have e:([b0,b1,b2,b3,b4,b5,b6,b7]:List Nat).getD j 0=(b0::b1::b2::b3::b4::b5::b6::b7::r).getD j 0:=by
   rcases(by omega:j=0\/j=1\/j=2\/j=3\/j=4\/j=5\/j=6\/j=7)with rfl|rfl|rfl|rfl|rfl|rfl|rfl|rfl<;>rfl
  rw[e];exact hB j (by simp;omega)
 have HP:=Ab hP;have HV:=Ab hv;have HL:=Ab hl;have HA:=Ab hA;have HC:=Ab hC;have HA1:=Ab ha1;have HA2:=Ab ha2;have HBB:=Ab hB;have har:∀(a:Option Addr) (c:Nat) (W:World),(Instr.arrayAt 129 (.slice a n c)).run Tryz.prog W=.ok (.pointer a) W:=fun a c W=>run_arrayAt _ _ _ _ _ _ _ Tryz.underlying129 (by omega)
 have hu8:=Tryz.underlying129;have hi8:(Tryz.prog.info? 129).map (·.size)=some (u8s [b0,b1,b2,b3,b4,b5,b6,b7]).length:=by rw[Z3b];simp
 clear hP hv hl hA hC ha1 ha2 hin hB;go_enter Tryz.func74,Tryz.ntmps74
 go_upto_region 3 with fail
 go_cut [4,5] (fun v4 v5 wc=>∃X,v4=.pointer (some ⟨X,0,none⟩)/\v5=.slice a' (n-8) (cap-8)/\Hid (wc.heap[X]? =some (hdC A C)/\Below w.heap.size w wc))
 case first=>
  refine wp_region_held_drew (S:=fun w'=>w'.rangeAt b o (u8s [b0,b1,b2,b3,b4,b5,b6,b7])/\Below w.heap.size w w') (by kernel_rfl) ⟨HR,Af (Below.refl _ _) 1⟩ (fun hHeld=> ?_);refine wpAnyH_take (i:=0) (v:=.slice (some ⟨b,o,none⟩) n cap) rfl (by kernel_rfl) (by kernel_rfl) (by kernel_rfl) (fun _ _ _ h=>h) (Or.inl ⟨by rfl,fun W hS=>by go_simp⟩) hHeld ?_;simp only[Act.put,VA,VD,VE];refine wpAnyH_take (i:=1) (v:=.pointer (some ⟨b,o,none⟩)) rfl (by kernel_rfl) (by kernel_rfl) (by kernel_rfl) (fun _ _ _ h=>h) (Or.inl ⟨by rfl,fun W hS=>by go_simp⟩) hHeld ?_;simp only[Act.put,VA,VD,VE];refine wpAnyH_take (i:=2) (v:=.agg (u8s [b0,b1,b2,b3,b4,b5,b6,b7]).toArray) rfl (by kernel_rfl) (by kernel_rfl) (by kernel_rfl) (fun _ _ _ h=>h) (yieldsIf_load_mid (by rfl) _ _ rfl _ _ rfl _ _ (fun _ h=>h.1) hu8 rfl hi8) hHeld ?_;simp only[Act.put,VA,VD,VE];refine wpAnyH_take (i:=4) (v:=.slice (some ⟨b,o,none⟩) n cap) rfl (by kernel_rfl) (by kernel_rfl) (by kernel_rfl) (fun _ _ _ h=>h) (Or.inl ⟨by rfl,fun W hS=>by go_simp⟩) hHeld ?_;simp only[Act.put,VA,VD,VE];refine wpAnyH_take (i:=5) (v:=.slice a' (n-8) (cap-8)) rfl (by kernel_rfl) (by kernel_rfl) (by kernel_rfl) (fun _ _ _ h=>h) (Or.inl ⟨by rfl,fun W hS=>by go_simp⟩) hHeld ?_;simp only[Act.put,VA,VD,VE];have hrr:∀W,Below w.heap.size w W->W.rangeAt b o (u8s [b0,b1,b2,b3,b4,b5,b6,b7])/\Below w.heap.size w W:=fun W hW=>⟨fun j v hj=>(hW.cell (p:=⟨b,o+j,none⟩) hb).trans (HR j v hj),hW⟩
  refine wpAnyH_ready (rs:= [3,6]) (by kernel_rfl) (by simp) (AllReadyH.cons rfl (fun K hK=> ?_) (AllReadyH.cons rfl (fun K hK=> ?_) AllReadyH.nil))
  . go_simp
    refine(Aa HIN _).mono ?_;rintro e w4 ⟨rfl,hB4⟩;have hBw:Below w.heap.size w w4:=hHeld.2.trans (hB4.mono hHeld.2.size);dsimp only;refine hK.out _ _ (hrr _ hBw) (fun hHeld4=> ?_);clear hK K hHeld;refine wpAnyH_ready (rs:= [6]) (by kernel_rfl) (by simp) (AllReadyH.cons rfl (fun K hK=> ?_) AllReadyH.nil);go_simp
    have hX5:(w4.alloc (.cells #[.int .u32 0,.int .u32 0] 131)).heap[w4.heap.size]? =some (.cells #[.int .u32 0,.int .u32 0] 131 (0,0)):=heap_alloc_new _ _;have hB5:Below w.heap.size w (w4.alloc (.cells #[.int .u32 0,.int .u32 0] 131)):=hBw.alloc hBw.size _;refine hK.out _ _ (hrr _ hB5) (fun hHeld5=> ?_);clear hK K hHeld4;have hX:=hBw.size;generalize hW6:w4.alloc (.cells #[.int .u32 0,.int .u32 0] 131)=W6 at*;generalize hXX:w4.heap.size=X at*;have hX6:=hX5;have hB6:=hB5;have hHeld6:=hHeld5;clear hX5 hB5 hHeld5 hB4 hBw hW6;refine wpAnyH_ready (rs:= [7]) (by kernel_rfl) (by simp) (AllReadyH.cons rfl (fun K hK=> ?_) AllReadyH.nil);have c0:=Ac (i:=0) hX6;have c1:=Ac (i:=1) hX6;have f0:=frozen_of_row W6 X 0 _ _ hX6;have f1:=frozen_of_row W6 X 1 _ _ hX6
    have hX7:((W6.setCell ⟨X,0,none⟩ (.int .u32 (A:Int))).setCell ⟨X,1,none⟩ (.int .u32 (C:Int))).heap[X]? =some (hdC A C):=by
     rw[heap_setCell_same _ X 1 _ _ _ (heap_setCell_same W6 X 0 _ _ _ hX6)];rfl
    have hB7:Below w.heap.size w ((W6.setCell ⟨X,0,none⟩ (.int .u32 (A:Int))).setCell ⟨X,1,none⟩ (.int .u32 (C:Int))):=by
     have h2:=hB6.grown (Ad W6 X 0 (.int .u32 (A:Int))) hB6.size (fun g e=>by cases e;exact hX);exact h2.grown (Ad _ X 1 (.int .u32 (C:Int))) h2.size (fun g e=>by cases e;exact hX)
    have HX7:=Ab hX7;have HB7:=Ab hB7;clear hX7 hB7 hX6 hB6;go_simp
    refine hK.out _ _ (hrr _ (Aa HB7)) (fun hHeld7=> ?_);clear hK K hHeld6 c0 c1 f0 f1;refine wpAnyH_ready (rs:= [8]) (by kernel_rfl) (by simp) (AllReadyH.cons rfl (fun K hK=> ?_) AllReadyH.nil);go_simp
    refine hK.out _ _ hHeld7 (fun hHeld8=> ?_);clear hK K hHeld7;refine wpAnyH_done (by kernel_rfl) ?_ _;go_wp2_with fail
    go_meet
    exact⟨X,rfl,rfl,Ab ⟨Aa HX7,Aa HB7⟩⟩
  . go_simp
    have hX5:(w.drew.alloc (.cells #[.int .u32 0,.int .u32 0] 131)).heap[w.heap.size]? =some (.cells #[.int .u32 0,.int .u32 0] 131 (0,0)):=heap_alloc_new w.drew _;have hB5:Below w.heap.size w (w.drew.alloc (.cells #[.int .u32 0,.int .u32 0] 131)):=hHeld.2.alloc (VC _) _;refine hK.out _ _ (hrr _ hB5) (fun hHeld5=> ?_);clear hK K hHeld;refine wpAnyH_ready (rs:= [3]) (by kernel_rfl) (by simp) (AllReadyH.cons rfl (fun K hK=> ?_) AllReadyH.nil);go_simp
    refine(Aa HIN _).mono ?_;rintro e W6 ⟨rfl,hB4⟩;have hB6:Below w.heap.size w W6:=hB5.trans (hB4.mono hB5.size);have hX6:=(hB4.block w.heap.size (VG.1 hX5).1).trans hX5;dsimp only;refine hK.out _ _ (hrr _ hB6) (fun hHeld6=> ?_);clear hK K hHeld5 hX5 hB5 hB4;have hX:w.heap.size<=w.heap.size:=VC _;refine wpAnyH_ready (rs:= [7]) (by kernel_rfl) (by simp) (AllReadyH.cons rfl (fun K hK=> ?_) AllReadyH.nil);have c0:=Ac (i:=0) hX6;have c1:=Ac (i:=1) hX6;have f0:=frozen_of_row W6 w.heap.size 0 _ _ hX6;have f1:=frozen_of_row W6 w.heap.size 1 _ _ hX6
    have hX7:((W6.setCell ⟨w.heap.size,0,none⟩ (.int .u32 (A:Int))).setCell ⟨w.heap.size,1,none⟩ (.int .u32 (C:Int))).heap[w.heap.size]? =some (hdC A C):=by
     rw[heap_setCell_same _ w.heap.size 1 _ _ _ (heap_setCell_same W6 w.heap.size 0 _ _ _ hX6)];rfl
    have hB7:Below w.heap.size w ((W6.setCell ⟨w.heap.size,0,none⟩ (.int .u32 (A:Int))).setCell ⟨w.heap.size,1,none⟩ (.int .u32 (C:Int))):=by
     have h2:=hB6.grown (Ad W6 w.heap.size 0 (.int .u32 (A:Int))) hB6.size (fun g e=>by cases e;exact hX);exact h2.grown (Ad _ w.heap.size 1 (.int .u32 (C:Int))) h2.size (fun g e=>by cases e;exact hX)
    have HX7:=Ab hX7;have HB7:=Ab hB7;clear hX7 hB7 hX6 hB6;go_simp
    refine hK.out _ _ (hrr _ (Aa HB7)) (fun hHeld7=> ?_);clear hK K hHeld6 c0 c1 f0 f1;refine wpAnyH_ready (rs:= [8]) (by kernel_rfl) (by simp) (AllReadyH.cons rfl (fun K hK=> ?_) AllReadyH.nil);go_simp
    refine hK.out _ _ hHeld7 (fun hHeld8=> ?_);clear hK K hHeld7;refine wpAnyH_done (by kernel_rfl) ?_ _;go_wp2_with fail
    go_meet
    exact⟨w.heap.size,rfl,rfl,Ab ⟨Aa HX7,Aa HB7⟩⟩
 case rest=>
  obtain⟨X,rfl,rfl,hX⟩:=hcut;obtain⟨hX1,hBc⟩:=Aa hX;have HX1:=Ab hX1;have HBc:=Ab hBc;have c0:=Ac (i:=0) hX1;have hp0:Ai ((b0::b1::b2::b3::b4::b5::b6::b7::r).take 4)=A:=by rw[<-Aa HA,LU];rfl
  have hp1:Ai (((b0::b1::b2::b3::b4::b5::b6::b7::r).drop 4).take 4)=C:=by rw[<-Aa HC,LU];rfl
  have hA32:A<4294967296:=by
   rw[<-hp0];have:=Lh ((b0::b1::b2::b3::b4::b5::b6::b7::r).take 4) (Zh (Aa HV) 4)
   simpa using this
  have HP0:=Ab hp0;have HP1:=Ab hp1;have hwA:IntKind.i64.wrap (A:Int)=(A:Int):=by simp[IntKind.wrap,IntKind.signed,IntKind.bits];omega
  clear hX hX1 hBc hp0 hp1 HR HIN har hsl
  by_cases h1:12000<A
  . have HF:Hid (FaA w (some ⟨b,o,none⟩) cap (b0::b1::b2::b3::b4::b5::b6::b7::r) (.returned (.tuple #[.slice none 0 0,.bool false])) wc):=Ab ⟨Aa HBc,.inl ⟨by unfold So;rw[if_neg (by rw[Aa HL];exact h8),Aa HP0,if_pos (.inl h1)],_,_,_,rfl⟩⟩;have h1I:(12000:Int)<(A:Int):=by omega
    clear h1;go_wp2;go_ret2;exact Aa HF
  have h1I:¬(12000:Int)<(A:Int):=by omega
  obtain⟨m,hm8⟩:∃m,n-8=m:=⟨_,rfl⟩
  obtain⟨k,hk8⟩:∃k,cap-8=k:=⟨_,rfl⟩
  rw[hm8,hk8]
  by_cases h2:m<A
  . have HF:Hid (FaA w (some ⟨b,o,none⟩) cap (b0::b1::b2::b3::b4::b5::b6::b7::r) (.returned (.tuple #[.slice none 0 0,.bool false])) wc):=Ab ⟨Aa HBc,.inl ⟨by unfold So;rw[if_neg (by rw[Aa HL];exact h8),Aa HP0,Aa HL,if_pos (.inr (by omega))],_,_,_,rfl⟩⟩;have h2I:(m:Int)<(A:Int):=by omega
    clear h1 h2 hm8 hk8;go_wp2;go_ret2;exact Aa HF
  have h2I:¬(m:Int)<(A:Int):=by omega
  have hrl:r.length=m:=by have:=Aa HL;simp at this;omega
  obtain⟨ar,har⟩:∃ar,r.take A=ar:=⟨_,rfl⟩
  have hal:ar.length=A:=by rw[<-har,VL];omega
  have hav:∀x∈ar,x<256:=fun x hx=>Aa HV x (by rw[<-har]at hx;have:=VS hx;simp[this])
  have hpk:∀W,PkIn W (some ⟨b,o,none⟩) cap (b0::b1::b2::b3::b4::b5::b6::b7::r)->PkIn W a' k ar:=fun W hW=>by
   have:=Wj (KT (p:=8) (k:=k) hW (Aa HL) (Aa HA1) (fun e=>by rw[<-hk8];exact Aa HA2 e)) A
   rw[<-har];exact this
  have hto:=Z4x a' A m k (by omega) (by omega);have hho:∀W,Below w.heap.size w W->Calls Tryz.prog 78 #[.slice a' A k] W fun e w'=>e=.returned (hdV A (crcN 0 ar))/\Below W.heap.size W w':=fun W hW=>Ut a' A k ar W hal (by omega) (hpk W ((Aa HP).below hW)).1 (Dj hav)
  have hrec:So (b0::b1::b2::b3::b4::b5::b6::b7::r)=if crcN 0 ar=C then some ar else none:=by
   have e8:(b0::b1::b2::b3::b4::b5::b6::b7::r).drop 8=r:=rfl;unfold So;rw[if_neg (by rw[Aa HL];exact h8),Aa HP0,Aa HP1,Aa HL,if_neg (by omega),e8,har]
  obtain⟨D,hD⟩:∃D,crcN 0 ar=D:=⟨_,rfl⟩
  rw[hD]at hho hrec;have HPK:=Ab hpk;have HHO:=Ab hho;have HREC:=Ab hrec;have HAL:=Ab hal;have hAk:A<=k:=by omega
  have x0:∀W:World,Below wc.heap.size wc W->W.cell? ⟨X,0,none⟩=some (.int .u32 (A:Int)):=fun W hW=>(hW.cell (p:=⟨X,0,none⟩) (VG.1 (Aa HX1)).1).trans (Ac (i:=0) (Aa HX1))
  have x1:∀W:World,Below wc.heap.size wc W->W.cell? ⟨X,1,none⟩=some (.int .u32 (C:Int)):=fun W hW=>(hW.cell (p:=⟨X,1,none⟩) (VG.1 (Aa HX1)).1).trans (Ac (i:=1) (Aa HX1))
  unfold hdV at HHO;have heq:=eqH A D C;clear hpk hho hrec hal hav har hrl hm8 hk8 hD h1 h2 HP HV HA1 HA2 HBB;go_upto_region 7 with fail
  go_cut [2,3] (fun v2 v3 wx=>v2=.slice a' A k/\v3=.bool (decide (D=C))/\Hid (Below w.heap.size w wx))
  case first=>
   go_region_held3 (fun W=>Below wc.heap.size wc W) (first|with_reducible exact Co (Below.refl _ _)|with_reducible exact hb6) ((go_at_call 78;refine(Aa HHO _ (by first|with_reducible exact(Aa HBc).trans ((Co (Below.refl _ _)).mono (Aa HBc).size))).mono ?_;rintro e w5 ⟨rfl,hb5⟩;have hb6:Below wc.heap.size wc w5:=(Co (Below.refl _ _)).trans hb5))
   all_goals go_wp2_with fail
   all_goals go_meet
   all_goals exact⟨rfl,rfl,Ab ((Aa HBc).trans (hb6.mono (Aa HBc).size))⟩
  case rest=>
   obtain⟨rfl,rfl,hBd⟩:=hcut
   by_cases hDC:D=C
   . have HF:Hid (FaA w (some ⟨b,o,none⟩) cap (b0::b1::b2::b3::b4::b5::b6::b7::r) (.returned (.tuple #[.slice a' A k,.bool true])) wc):=Ab ⟨Aa hBd,.inr ⟨ar,a',k,by rw[Aa HREC,if_pos hDC],by rw[Aa HAL],by rw[Aa HAL];exact hAk,Aa HPK⟩⟩;rw[decide_eq_true hDC];clear hDC hBd;go_wp2;go_ret2;exact Aa HF
   . have HF:Hid (FaA w (some ⟨b,o,none⟩) cap (b0::b1::b2::b3::b4::b5::b6::b7::r) (.returned (.tuple #[.slice a' A k,.bool false])) wc):=Ab ⟨Aa hBd,.inl ⟨by rw[Aa HREC,if_neg hDC],_,_,_,rfl⟩⟩;rw[decide_eq_false hDC];clear hDC hBd;go_wp2;go_ret2;exact Aa HF
end Go.Proofs.YtieianhejdcgdaaGreatDoor
namespace Go.Proofs.YtieianhejdcgdaaGreatDoor
open Go.RowKit
set_option linter.unusedVariables false
set_option maxRecDepth 100000
theorem Z1e {w:World}{v u:Value}{a b:List Fl}(h:LIn w v a)(k:LIn w u b):
 Calls Tryz.prog 55 #[v,u] w fun e w'=>∃x,e=.returned (.tuple #[x,.int .i64 (Ct a b:Nat)])/\LIn w' x (Gz a b)/\Below w.heap.size w w':=by
 obtain⟨ad,c,out,rfl,h2,h3⟩:=h;obtain⟨bd,d,out',rfl,k2,k3⟩:=k;refine(Z0b ad bd c d out out' w h2 k2 _ _ (Rm h3) (Rm k3)).mono ?_;rintro e w' ⟨x,rfl,ha⟩;rw[h3,k3]at ha ⊢;exact⟨x,rfl,ha.lin,ha.bel⟩
end Go.Proofs.YtieianhejdcgdaaGreatDoor
