import Derived.Test.YtcjbgpacnkilnagGreatDoorQ46
import Derived.Test.YtcjbgpacnkilnagGreatDoorQ17
set_option maxHeartbeats 4000000
namespace Go.Proofs.YtcjbgpacnkilnagGreatDoor
open Go.RowKit
set_option linter.unusedVariables false
set_option linter.unusedSimpArgs false
set_option maxRecDepth 100000
theorem Zly {a b s:Nat}(h:a<2^s):a|||2^s*b=a+2^s*b:=by
 rw[Nat.or_comm,<-Nat.two_pow_add_eq_or_of_lt h,Nat.add_comm]
theorem Nk (a b s:Nat)(ha:a<2^s)(hb:2^s*b<4294967296)(h2:a<4294967296):bits .or .u32 (a:Int) ((2^s*b:Nat):Int)=((a+2^s*b:Nat):Int):=by
 rw[u32_or_nat a (2^s*b) h2 hb,Zly ha]
def HSt (a c N:Nat)(w:World)(W:World):Prop:=W.heap[N+2]? =some (hdC a c)/\W.heap[N+1]? =some (hdC 0 0)/\Below N w W
theorem HSt.cells {a c N:Nat}{w W:World}(h:HSt a c N w W):W.cell? ⟨N+2,0,none⟩=some (.int .u32 (a:Int))/\W.cell? ⟨N+2,1,none⟩=some (.int .u32 (c:Int))/\W.frozen? ⟨N+2,0,none⟩=false/\W.frozen? ⟨N+2,1,none⟩=false:=
 ⟨Ac (i:=0) h.1,Ac (i:=1) h.1,frozen_of_row W (N+2) 0 _ _ h.1,frozen_of_row W (N+2) 1 _ _ h.1⟩
theorem HSt.drew {a c N:Nat}{w W:World}(h:HSt a c N w W)(q:Nat):HSt a c N w (W.drewN q):=⟨h.1,h.2.1,Af h.2.2 q⟩
theorem HSt.low {a c N a':Nat}{w W:World}{v:Int}(h:HSt a c N w W)(hv:v=(a':Int)):HSt a' c N w (W.setCell ⟨N+2,0,none⟩ (.int .u32 v)):=by
 subst hv;have hgr:=Ad W (N+2) 0 (.int .u32 (a':Int));have hlt:N+1<W.heap.size:=(Array.getElem?_eq_some_iff.1 h.2.1).1;refine⟨?_,(hgr.block _ hlt (fun e=>by have:=Option.some.inj e;omega)).trans h.2.1,h.2.2.grown hgr (by omega) (fun g e=>by cases e;omega)⟩;rw[heap_setCell_same W (N+2) 0 _ _ _ h.1];rfl
theorem HSt.high {a c N c':Nat}{w W:World}{v:Int}(h:HSt a c N w W)(hv:v=(c':Int)):HSt a c' N w (W.setCell ⟨N+2,1,none⟩ (.int .u32 v)):=by
 subst hv;have hgr:=Ad W (N+2) 1 (.int .u32 (c':Int));have hlt:N+1<W.heap.size:=(Array.getElem?_eq_some_iff.1 h.2.1).1;refine⟨?_,(hgr.block _ hlt (fun e=>by have:=Option.some.inj e;omega)).trans h.2.1,h.2.2.grown hgr (by omega) (fun g e=>by cases e;omega)⟩;rw[heap_setCell_same W (N+2) 1 _ _ _ h.1];rfl
def Cr (b0 b1 b2 b3 i:Nat):Nat:=if i=0 then 0 else if i=1 then b0 else if i=2 then b0+2^8*b1 else if i=3 then b0+2^8*b1+2^16*b2 else b0+2^8*b1+2^16*b2+2^24*b3
theorem Zml (b0 b1 b2 b3 b4 b5 b6 b7:Int)(W:World):(Instr.index 67 (.agg #[.int .u8 b0,.int .u8 b1,.int .u8 b2,.int .u8 b3,.int .u8 b4,.int .u8 b5,.int .u8 b6,.int .u8 b7]) (.int .i64 0)).run Tryz.prog W=.ok (.int .u8 b0) W:=by kernel_rfl
theorem Zmk (b0 b1 b2 b3 b4 b5 b6 b7:Int)(W:World):(Instr.index 67 (.agg #[.int .u8 b0,.int .u8 b1,.int .u8 b2,.int .u8 b3,.int .u8 b4,.int .u8 b5,.int .u8 b6,.int .u8 b7]) (.int .i64 1)).run Tryz.prog W=.ok (.int .u8 b1) W:=by kernel_rfl
theorem Zmj (b0 b1 b2 b3 b4 b5 b6 b7:Int)(W:World):(Instr.index 67 (.agg #[.int .u8 b0,.int .u8 b1,.int .u8 b2,.int .u8 b3,.int .u8 b4,.int .u8 b5,.int .u8 b6,.int .u8 b7]) (.int .i64 2)).run Tryz.prog W=.ok (.int .u8 b2) W:=by kernel_rfl
theorem Zmi (b0 b1 b2 b3 b4 b5 b6 b7:Int)(W:World):(Instr.index 67 (.agg #[.int .u8 b0,.int .u8 b1,.int .u8 b2,.int .u8 b3,.int .u8 b4,.int .u8 b5,.int .u8 b6,.int .u8 b7]) (.int .i64 3)).run Tryz.prog W=.ok (.int .u8 b3) W:=by kernel_rfl
theorem Zmh (b0 b1 b2 b3 b4 b5 b6 b7:Int)(W:World):(Instr.index 67 (.agg #[.int .u8 b0,.int .u8 b1,.int .u8 b2,.int .u8 b3,.int .u8 b4,.int .u8 b5,.int .u8 b6,.int .u8 b7]) (.int .i64 4)).run Tryz.prog W=.ok (.int .u8 b4) W:=by kernel_rfl
theorem Zmg (b0 b1 b2 b3 b4 b5 b6 b7:Int)(W:World):(Instr.index 67 (.agg #[.int .u8 b0,.int .u8 b1,.int .u8 b2,.int .u8 b3,.int .u8 b4,.int .u8 b5,.int .u8 b6,.int .u8 b7]) (.int .i64 5)).run Tryz.prog W=.ok (.int .u8 b5) W:=by kernel_rfl
theorem Zmf (b0 b1 b2 b3 b4 b5 b6 b7:Int)(W:World):(Instr.index 67 (.agg #[.int .u8 b0,.int .u8 b1,.int .u8 b2,.int .u8 b3,.int .u8 b4,.int .u8 b5,.int .u8 b6,.int .u8 b7]) (.int .i64 6)).run Tryz.prog W=.ok (.int .u8 b6) W:=by kernel_rfl
theorem Zme (b0 b1 b2 b3 b4 b5 b6 b7:Int)(W:World):(Instr.index 67 (.agg #[.int .u8 b0,.int .u8 b1,.int .u8 b2,.int .u8 b3,.int .u8 b4,.int .u8 b5,.int .u8 b6,.int .u8 b7]) (.int .i64 7)).run Tryz.prog W=.ok (.int .u8 b7) W:=by kernel_rfl
theorem Z7p (b0 b1 b2 b3 b4 b5 b6 b7:Nat)(w:World)(h0:b0<256)(h1:b1<256)(h2:b2<256)(h3:b3<256)(h4:b4<256)(h5:b5<256)(h6:b6<256)(h7:b7<256):
 Calls Tryz.prog 33 #[.agg #[.int .u8 (b0:Int),.int .u8 (b1:Int),.int .u8 (b2:Int),.int .u8 (b3:Int),.int .u8 (b4:Int),.int .u8 (b5:Int),.int .u8 (b6:Int),.int .u8 (b7:Int)]] w fun e w'=>e=.returned (hdV (Cr b0 b1 b2 b3 4) (Cr b4 b5 b6 b7 4))/\Below w.heap.size w w':=by
 obtain⟨N,hN⟩:∃N,w.heap.size=N:=⟨_,rfl⟩
 have x0:=Zml (b0:Int) (b1:Int) (b2:Int) (b3:Int) (b4:Int) (b5:Int) (b6:Int) (b7:Int);have x1:=Zmk (b0:Int) (b1:Int) (b2:Int) (b3:Int) (b4:Int) (b5:Int) (b6:Int) (b7:Int);have x2:=Zmj (b0:Int) (b1:Int) (b2:Int) (b3:Int) (b4:Int) (b5:Int) (b6:Int) (b7:Int);have x3:=Zmi (b0:Int) (b1:Int) (b2:Int) (b3:Int) (b4:Int) (b5:Int) (b6:Int) (b7:Int);have x4:=Zmh (b0:Int) (b1:Int) (b2:Int) (b3:Int) (b4:Int) (b5:Int) (b6:Int) (b7:Int);have x5:=Zmg (b0:Int) (b1:Int) (b2:Int) (b3:Int) (b4:Int) (b5:Int) (b6:Int) (b7:Int);have x6:=Zmf (b0:Int) (b1:Int) (b2:Int) (b3:Int) (b4:Int) (b5:Int) (b6:Int) (b7:Int);have x7:=Zme (b0:Int) (b1:Int) (b2:Int) (b3:Int) (b4:Int) (b5:Int) (b6:Int) (b7:Int)
 have HST:Hid (HSt 0 0 N w (((w.alloc (.cells #[.int .u8 (b0:Int),.int .u8 (b1:Int),.int .u8 (b2:Int),.int .u8 (b3:Int),.int .u8 (b4:Int),.int .u8 (b5:Int),.int .u8 (b6:Int),.int .u8 (b7:Int)] 67)).alloc (.cells #[.int .u32 0,.int .u32 0] 69)).alloc (.cells #[.int .u32 0,.int .u32 0] 69))):=Ab (by
  refine⟨?_, ?_, ?_⟩
  . have:=heap_alloc_new ((w.alloc (.cells #[.int .u8 (b0:Int),.int .u8 (b1:Int),.int .u8 (b2:Int),.int .u8 (b3:Int),.int .u8 (b4:Int),.int .u8 (b5:Int),.int .u8 (b6:Int),.int .u8 (b7:Int)] 67)).alloc (.cells #[.int .u32 0,.int .u32 0] 69)) (.cells #[.int .u32 0,.int .u32 0] 69)
    rw[<-(by simp[hN]:((w.alloc (.cells #[.int .u8 (b0:Int),.int .u8 (b1:Int),.int .u8 (b2:Int),.int .u8 (b3:Int),.int .u8 (b4:Int),.int .u8 (b5:Int),.int .u8 (b6:Int),.int .u8 (b7:Int)] 67)).alloc (.cells #[.int .u32 0,.int .u32 0] 69)).heap.size=N+2)];exact this
  . refine(Below.heap_alloc _ _ _ (by simp[hN])).trans ?_;have:=heap_alloc_new (w.alloc (.cells #[.int .u8 (b0:Int),.int .u8 (b1:Int),.int .u8 (b2:Int),.int .u8 (b3:Int),.int .u8 (b4:Int),.int .u8 (b5:Int),.int .u8 (b6:Int),.int .u8 (b7:Int)] 67)) (.cells #[.int .u32 0,.int .u32 0] 69)
    rw[<-(by simp[hN]:(w.alloc (.cells #[.int .u8 (b0:Int),.int .u8 (b1:Int),.int .u8 (b2:Int),.int .u8 (b3:Int),.int .u8 (b4:Int),.int .u8 (b5:Int),.int .u8 (b6:Int),.int .u8 (b7:Int)] 67)).heap.size=N+1)];exact this
  . rw[<-hN];exact(((Below.refl w.heap.size w).alloc (Nat.le_refl _) _).alloc (by simp) _).alloc (by simp;omega) _)
 have HBX:Hid ((((w.alloc (.cells #[.int .u8 (b0:Int),.int .u8 (b1:Int),.int .u8 (b2:Int),.int .u8 (b3:Int),.int .u8 (b4:Int),.int .u8 (b5:Int),.int .u8 (b6:Int),.int .u8 (b7:Int)] 67)).alloc (.cells #[.int .u32 0,.int .u32 0] 69)).alloc (.cells #[.int .u32 0,.int .u32 0] 69)).heap[N]? =some (.cells #[.int .u8 (b0:Int),.int .u8 (b1:Int),.int .u8 (b2:Int),.int .u8 (b3:Int),.int .u8 (b4:Int),.int .u8 (b5:Int),.int .u8 (b6:Int),.int .u8 (b7:Int)] 67 (0,0))):=Ab (by
  refine(Below.heap_alloc _ _ _ (by simp[hN];omega)).trans ((Below.heap_alloc _ _ _ (by simp[hN])).trans ?_);rw[<-hN];exact heap_alloc_new _ _)
 have hu8:=Tryz.underlying67;go_enter Tryz.func33,Tryz.ntmps33
 go_wp2_with (refine wpList_load_row rfl 67 (.tmp 1) rfl N rfl 67 #[.int .u8 (b0:Int),.int .u8 (b1:Int),.int .u8 (b2:Int),.int .u8 (b3:Int),.int .u8 (b4:Int),.int .u8 (b5:Int),.int .u8 (b6:Int),.int .u8 (b7:Int)] (0,0) _ (Aa HBX) hu8 rfl (by kernel_rfl) ?_)
 go_loopw [7] (fun v7 wr=>∃i:Nat,i<=8/\v7=.int .i64 (i:Int)/\Hid (HSt (Cr b0 b1 b2 b3 i) (Cr b4 b5 b6 b7 (i-4)) N w wr)) (fun v7 _=>8-(intOf v7).toNat)
 case atStart=>exact⟨0,by decide,rfl,HST⟩
 case round=>
  obtain⟨i,hi,rfl,hst⟩:=hrel;clear HST HBX
  rcases(by omega:i=0\/i=1\/i=2\/i=3\/i=4\/i=5\/i=6\/i=7\/i=8)with rfl|rfl|rfl|rfl|rfl|rfl|rfl|rfl|rfl
  . obtain⟨d0,d1,f0,f1⟩:=(Aa hst).cells;obtain⟨A,hA⟩:∃A,Cr b0 b1 b2 b3 0=A:=⟨_,rfl⟩
    obtain⟨C,hC⟩:∃C,Cr b4 b5 b6 b7 (0-4)=C:=⟨_,rfl⟩
    rw[hA]at d0 hst;rw[hC]at d1 hst;have HN:Hid (Cr b0 b1 b2 b3 0+2^0*b0=Cr b0 b1 b2 b3 1/\Cr b0 b1 b2 b3 0<2^0):=Ab (by unfold Cr;constructor<;>simp<;>omega);have HA:=Ab hA;have HC:=Ab hC;clear hA hC;go_wp2;go_big_region
    go_wp2;refine⟨⟨1,by decide,rfl,Ab ?_⟩,by simp[intOf]⟩;have e0:(b0:Int)=((2^0*b0:Nat):Int):=by omega
    have hv:bits .or .u32 (A:Int) (b0:Int)=((Cr b0 b1 b2 b3 1:Nat):Int):=by
     obtain⟨n1,n2⟩:=Aa HN;have e1:Cr b0 b1 b2 b3 0=A:=Aa HA;rw[e1]at n1 n2;rw[e0,Nk A b0 0 n2 (by omega) (by omega),n1]
    have e:=((Aa hst).low hv).drew 1;rw[<-Aa HC]at e;exact e
  . obtain⟨d0,d1,f0,f1⟩:=(Aa hst).cells;obtain⟨A,hA⟩:∃A,Cr b0 b1 b2 b3 1=A:=⟨_,rfl⟩
    obtain⟨C,hC⟩:∃C,Cr b4 b5 b6 b7 (1-4)=C:=⟨_,rfl⟩
    rw[hA]at d0 hst;rw[hC]at d1 hst;have HN:Hid (Cr b0 b1 b2 b3 1+2^8*b1=Cr b0 b1 b2 b3 2/\Cr b0 b1 b2 b3 1<2^8):=Ab (by unfold Cr;constructor<;>simp<;>omega);have HA:=Ab hA;have HC:=Ab hC;clear hA hC;go_wp2;go_big_region
    go_wp2;refine⟨⟨2,by decide,rfl,Ab ?_⟩,by simp[intOf]⟩;have e0:((b1:Int)*256)=((2^8*b1:Nat):Int):=by omega
    have hv:bits .or .u32 (A:Int) ((b1:Int)*256)=((Cr b0 b1 b2 b3 2:Nat):Int):=by
     obtain⟨n1,n2⟩:=Aa HN;have e1:Cr b0 b1 b2 b3 1=A:=Aa HA;rw[e1]at n1 n2;rw[e0,Nk A b1 8 n2 (by omega) (by omega),n1]
    have e:=((Aa hst).low hv).drew 1;rw[<-Aa HC]at e;exact e
  . obtain⟨d0,d1,f0,f1⟩:=(Aa hst).cells;obtain⟨A,hA⟩:∃A,Cr b0 b1 b2 b3 2=A:=⟨_,rfl⟩
    obtain⟨C,hC⟩:∃C,Cr b4 b5 b6 b7 (2-4)=C:=⟨_,rfl⟩
    rw[hA]at d0 hst;rw[hC]at d1 hst;have HN:Hid (Cr b0 b1 b2 b3 2+2^16*b2=Cr b0 b1 b2 b3 3/\Cr b0 b1 b2 b3 2<2^16):=Ab (by unfold Cr;constructor<;>simp<;>omega);have HA:=Ab hA;have HC:=Ab hC;clear hA hC;go_wp2;go_big_region
    go_wp2;refine⟨⟨3,by decide,rfl,Ab ?_⟩,by simp[intOf]⟩;have e0:((b2:Int)*65536)=((2^16*b2:Nat):Int):=by omega
    have hv:bits .or .u32 (A:Int) ((b2:Int)*65536)=((Cr b0 b1 b2 b3 3:Nat):Int):=by
     obtain⟨n1,n2⟩:=Aa HN;have e1:Cr b0 b1 b2 b3 2=A:=Aa HA;rw[e1]at n1 n2;rw[e0,Nk A b2 16 n2 (by omega) (by omega),n1]
    have e:=((Aa hst).low hv).drew 1;rw[<-Aa HC]at e;exact e
  . obtain⟨d0,d1,f0,f1⟩:=(Aa hst).cells;obtain⟨A,hA⟩:∃A,Cr b0 b1 b2 b3 3=A:=⟨_,rfl⟩
    obtain⟨C,hC⟩:∃C,Cr b4 b5 b6 b7 (3-4)=C:=⟨_,rfl⟩
    rw[hA]at d0 hst;rw[hC]at d1 hst;have HN:Hid (Cr b0 b1 b2 b3 3+2^24*b3=Cr b0 b1 b2 b3 4/\Cr b0 b1 b2 b3 3<2^24):=Ab (by unfold Cr;constructor<;>simp<;>omega);have HA:=Ab hA;have HC:=Ab hC;clear hA hC;go_wp2;go_big_region
    go_wp2;refine⟨⟨4,by decide,rfl,Ab ?_⟩,by simp[intOf]⟩;have e0:((b3:Int)*16777216)=((2^24*b3:Nat):Int):=by omega
    have hv:bits .or .u32 (A:Int) ((b3:Int)*16777216)=((Cr b0 b1 b2 b3 4:Nat):Int):=by
     obtain⟨n1,n2⟩:=Aa HN;have e1:Cr b0 b1 b2 b3 3=A:=Aa HA;rw[e1]at n1 n2;rw[e0,Nk A b3 24 n2 (by omega) (by omega),n1]
    have e:=((Aa hst).low hv).drew 1;rw[<-Aa HC]at e;exact e
  . obtain⟨d0,d1,f0,f1⟩:=(Aa hst).cells;obtain⟨A,hA⟩:∃A,Cr b0 b1 b2 b3 4=A:=⟨_,rfl⟩
    obtain⟨C,hC⟩:∃C,Cr b4 b5 b6 b7 (4-4)=C:=⟨_,rfl⟩
    rw[hA]at d0 hst;rw[hC]at d1 hst;have HN:Hid (Cr b4 b5 b6 b7 0+2^0*b4=Cr b4 b5 b6 b7 1/\Cr b4 b5 b6 b7 0<2^0):=Ab (by unfold Cr;constructor<;>simp<;>omega);have HA:=Ab hA;have HC:=Ab hC;clear hA hC;go_wp2;go_big_region
    go_wp2;refine⟨⟨5,by decide,rfl,Ab ?_⟩,by simp[intOf]⟩;have e0:(b4:Int)=((2^0*b4:Nat):Int):=by omega
    have hv:bits .or .u32 (C:Int) (b4:Int)=((Cr b4 b5 b6 b7 1:Nat):Int):=by
     obtain⟨n1,n2⟩:=Aa HN;have e1:Cr b4 b5 b6 b7 0=C:=Aa HC;rw[e1]at n1 n2;rw[e0,Nk C b4 0 n2 (by omega) (by omega),n1]
    have e:=((Aa hst).high hv).drew 1;rw[<-Aa HA]at e;exact e
  . obtain⟨d0,d1,f0,f1⟩:=(Aa hst).cells;obtain⟨A,hA⟩:∃A,Cr b0 b1 b2 b3 5=A:=⟨_,rfl⟩
    obtain⟨C,hC⟩:∃C,Cr b4 b5 b6 b7 (5-4)=C:=⟨_,rfl⟩
    rw[hA]at d0 hst;rw[hC]at d1 hst;have HN:Hid (Cr b4 b5 b6 b7 1+2^8*b5=Cr b4 b5 b6 b7 2/\Cr b4 b5 b6 b7 1<2^8):=Ab (by unfold Cr;constructor<;>simp<;>omega);have HA:=Ab hA;have HC:=Ab hC;clear hA hC;go_wp2;go_big_region
    go_wp2;refine⟨⟨6,by decide,rfl,Ab ?_⟩,by simp[intOf]⟩;have e0:((b5:Int)*256)=((2^8*b5:Nat):Int):=by omega
    have hv:bits .or .u32 (C:Int) ((b5:Int)*256)=((Cr b4 b5 b6 b7 2:Nat):Int):=by
     obtain⟨n1,n2⟩:=Aa HN;have e1:Cr b4 b5 b6 b7 1=C:=Aa HC;rw[e1]at n1 n2;rw[e0,Nk C b5 8 n2 (by omega) (by omega),n1]
    have e:=((Aa hst).high hv).drew 1;rw[<-Aa HA]at e;exact e
  . obtain⟨d0,d1,f0,f1⟩:=(Aa hst).cells;obtain⟨A,hA⟩:∃A,Cr b0 b1 b2 b3 6=A:=⟨_,rfl⟩
    obtain⟨C,hC⟩:∃C,Cr b4 b5 b6 b7 (6-4)=C:=⟨_,rfl⟩
    rw[hA]at d0 hst;rw[hC]at d1 hst;have HN:Hid (Cr b4 b5 b6 b7 2+2^16*b6=Cr b4 b5 b6 b7 3/\Cr b4 b5 b6 b7 2<2^16):=Ab (by unfold Cr;constructor<;>simp<;>omega);have HA:=Ab hA;have HC:=Ab hC;clear hA hC;go_wp2;go_big_region
    go_wp2;refine⟨⟨7,by decide,rfl,Ab ?_⟩,by simp[intOf]⟩;have e0:((b6:Int)*65536)=((2^16*b6:Nat):Int):=by omega
    have hv:bits .or .u32 (C:Int) ((b6:Int)*65536)=((Cr b4 b5 b6 b7 3:Nat):Int):=by
     obtain⟨n1,n2⟩:=Aa HN;have e1:Cr b4 b5 b6 b7 2=C:=Aa HC;rw[e1]at n1 n2;rw[e0,Nk C b6 16 n2 (by omega) (by omega),n1]
    have e:=((Aa hst).high hv).drew 1;rw[<-Aa HA]at e;exact e
  . obtain⟨d0,d1,f0,f1⟩:=(Aa hst).cells;obtain⟨A,hA⟩:∃A,Cr b0 b1 b2 b3 7=A:=⟨_,rfl⟩
    obtain⟨C,hC⟩:∃C,Cr b4 b5 b6 b7 (7-4)=C:=⟨_,rfl⟩
    rw[hA]at d0 hst;rw[hC]at d1 hst;have HN:Hid (Cr b4 b5 b6 b7 3+2^24*b7=Cr b4 b5 b6 b7 4/\Cr b4 b5 b6 b7 3<2^24):=Ab (by unfold Cr;constructor<;>simp<;>omega);have HA:=Ab hA;have HC:=Ab hC;clear hA hC;go_wp2;go_big_region
    go_wp2;refine⟨⟨8,by decide,rfl,Ab ?_⟩,by simp[intOf]⟩;have e0:((b7:Int)*16777216)=((2^24*b7:Nat):Int):=by omega
    have hv:bits .or .u32 (C:Int) ((b7:Int)*16777216)=((Cr b4 b5 b6 b7 4:Nat):Int):=by
     obtain⟨n1,n2⟩:=Aa HN;have e1:Cr b4 b5 b6 b7 3=C:=Aa HC;rw[e1]at n1 n2;rw[e0,Nk C b7 24 n2 (by omega) (by omega),n1]
    have e:=((Aa hst).high hv).drew 1;rw[<-Aa HA]at e;exact e
  . have e:HSt (Cr b0 b1 b2 b3 4) (Cr b4 b5 b6 b7 4) N w wr:=Aa hst;obtain⟨A,hA⟩:∃A,Cr b0 b1 b2 b3 4=A:=⟨_,rfl⟩
    obtain⟨C,hC⟩:∃C,Cr b4 b5 b6 b7 4=C:=⟨_,rfl⟩
    rw[hA,hC]at e;have HA:=Ab hA;have HC:=Ab hC;have R2:=Ab e.1;have R1:=Ab e.2.1;have BN:=Ab e.2.2;have e0:=Ac (i:=0) e.1;have e1:=Ac (i:=1) e.1;have g0:=Ac (i:=0) e.2.1;have g1:=Ac (i:=1) e.2.1;have q0:=frozen_of_row wr (N+1) 0 _ _ e.2.1;have q1:=frozen_of_row wr (N+1) 1 _ _ e.2.1;have hui:=Tryz.underlying69
    have HB:Hid (∀u v:Value,Below w.heap.size w ((wr.setCell ⟨N+1,0,none⟩ u).setCell ⟨N+1,1,none⟩ v)):=Ab (fun u v=>by
     have hz:N+1<wr.heap.size:=(Array.getElem?_eq_some_iff.1 e.2.1).1;have h2:=e.2.2.grown (Ad wr (N+1) 0 u) (by omega) (fun g e=>by cases e;omega);have h3:=h2.grown (Ad _ (N+1) 1 v) (by have:=(Ad wr (N+1) 0 u).size;omega) (fun g e=>by cases e;omega);rw[hN];exact h3)
    clear hst e hA hC;go_wp2;refine bodyPost_ret (v:=hdV A C) ?_ rfl ⟨by rw[Aa HA,Aa HC],Aa HB _ _⟩;refine results_cell_row rfl _ _ (N+1) 69 #[.int .u32 (A:Int),.int .u32 (C:Int)] (0,0) _ rfl ?_ hui rfl (by kernel_rfl);rw[heap_setCell_same _ (N+1) 1 _ _ _ (heap_setCell_same wr (N+1) 0 _ _ _ (Aa R1))];rfl
theorem Zdz (b o j:Nat):(⟨b,o,none⟩:Addr).add j=⟨b,o+j,none⟩:=by unfold Addr.add;split<;>simp_all
theorem Z24 {xs:List Nat}{j:Nat}{v:Value}(h:(u8s xs)[j]? =some v):j<xs.length/\v=.int .u8 ((xs.getD j 0:Nat):Int):=by
 by_cases hj:j<xs.length
 . refine⟨hj, ?_⟩;simp[u8s,hj]at h
   subst h;simp[List.getD,hj]
 . rw[List.getElem?_eq_none (by simp;omega)]at h
   cases h
theorem Zld {l:List Nat}{j:Nat}(h:j<l.length):(u8s l)[j]? =some (.int .u8 ((l.getD j 0:Nat):Int)):=by simp[u8s,List.getD,h]
theorem Sh (w:World)(ty:TypeId)(g n m c:Nat)(xs ys:List Nat)(b:Option Addr)(hn:xs.length=n)(hX:Bytes w g 0 xs)(hm:ys.length=m)(h0:0<m)(hY:BytesIn w b ys)(hsz:n+m<=1000000):
 ∃c' w',(Builtin.append_ #[22,22] ty #[.slice (some ⟨g,0,none⟩) n n,.slice b m c]).run Tryz.prog w=.ok (.slice (some ⟨w.heap.size,0,none⟩) (n+m) c') w'/\n+m<=c'/\Bytes w' w.heap.size 0 (xs++ys)/\w.heap.size<w'.heap.size/\Below w.heap.size w w':=by
 obtain⟨i0,hi,hz0,hz1,hz2⟩:=info_parts Hq;obtain⟨bb,bo,rfl,hb,hB⟩:=Cm hY (by omega)
 have hr:=run_append_grow (P:=Tryz.prog) (w:=w) 22 ty 5 i0 (.int .u8 0) Tryz.underlying22 hi hz0 ⟨g,0,none⟩ n n (u8s xs) (by rw[hz1];simp[hn]) (fun j v hv=>by
  obtain⟨hj,rfl⟩:=Z24 hv;rw[Zdz];exact hX j hj) ⟨bb,bo,none⟩ m c (u8s ys) (by rw[hz1];simp[hm]) (fun j v hv=>by
  obtain⟨hj,rfl⟩:=Z24 hv;rw[Zdz];exact hB j hj) (by omega) (by omega) (by rw[hz2];exact growslice_fits (by omega) (by omega))
 refine⟨_,_,hr,grownCap_ge _ _ _ _, ?_,by rw[World.size_alloc];exact Nat.lt_succ_self _, ?_⟩
 . intro j hj;rw[Nat.zero_add];have hh:=heap_alloc_new w.drew (.cells ((u8s xs).toArray++(u8s ys).toArray++Builtin.zeroCells (Value.int .u8 0).cells (grownCap w (n+m) n 5-(n+m))) 5);rw[show w.drew.heap.size=w.heap.size from rfl]at hh;rw[Ac hh];have hj2:j<(u8s xs++u8s ys).length:=by simpa using hj
   have e:((u8s xs).toArray++(u8s ys).toArray++Builtin.zeroCells (Value.int .u8 0).cells (grownCap w (n+m) n 5-(n+m)))[j]? =(u8s xs++u8s ys)[j]? :=by
    rw[Array.getElem?_append_left (by simpa using hj2)];simp
   rw[e];have e2:u8s xs++u8s ys=u8s (xs++ys):=by simp[u8s]
   rw[e2];exact Zld hj
 . exact(Af (Below.refl w.heap.size w) 1).alloc (Nat.le_refl _) _
theorem Mm {w:World}{ops:Array Oper}{rest:List Oper}{o:Oper}{a:Act}{Q:Exit->Act->World->Prop}(hgd:o.guard=none)(s x:Operand)
 (ho:o.op=.call {callee:=.builtin .append,args:= #[s,x],argTypes:= #[22,22]}) (g n m c:Nat) (xs ys:List Nat) (b:Option Addr) (hs:a.eval s=.slice (some ⟨g,0,none⟩) n n) (hx:a.eval x=.slice b m c) (hn:xs.length=n) (hX:Bytes w g 0 xs) (hm:ys.length=m) (h0:0<m) (hY:BytesIn w b ys) (hsz:n+m<=1000000)
 (h:∀c' w',n+m<=c'->Bytes w' w.heap.size 0 (xs++ys)->w.heap.size<w'.heap.size->Below w.heap.size w w'->wpList Tryz.prog ops Q rest (a.put o.dst (.slice (some ⟨w.heap.size,0,none⟩) (n+m) c')) w'):wpList Tryz.prog ops Q (o::rest) a w:=by
 refine wpList_plain hgd fun K hK=> ?_
 obtain⟨c',w',hr,h1,h2,h3,h4⟩:=Sh w o.type g n m c xs ys b hn hX hm h0 hY hsz;unfold Oper.wp execOp;simp only[ho,resolve,invoke,builtin,Sem.run_bind,Sem.run_pure,Result.andThen_ok,List.map_toArray,List.map_cons,List.map_nil,hs,hx,hr];exact hK _ _ (h c' w' h1 h2 h3 h4)
theorem Z70 (a:Option Addr)(n cap:Nat)(bs:List Nat)(w:World)(hl:bs.length=n)(h0:0<n)(hn:n<=12000)(hby:BytesIn w a bs)(hv:∀x∈bs,x<256):
 Calls Tryz.prog 19 #[.slice a n cap] w fun e w'=>∃g c,e=.returned (.slice (some ⟨g,0,none⟩) (8+n) c)/\8+n<=c/\w.heap.size<=g/\g<w'.heap.size/\Bytes w' g 0 (Gy bs)/\Below w.heap.size w w':=by
 have HH:=Ab (Uc a n cap bs w hl hn hby (Dk hv));have hc:crcN 0 bs<4294967296:=Z3j hv (by decide);have hre:Gy bs=hdL n (crcN 0 bs)++bs:=by unfold Gy;rw[Zk5,hl]
 obtain⟨C,hC⟩:∃C,crcN 0 bs=C:=⟨_,rfl⟩
 rw[hC]at HH hre hc;have HR:=Ab (fun W=>Zj7 n C W (by omega) hc);obtain⟨TL,hTL⟩:∃TL,hdL n C=TL:=⟨_,rfl⟩
 have hTl:TL.length=8:=by rw[<-hTL];rfl
 rw[hTL]at HR hre;have HRE:=Ab hre;have HBY:=Ab hby;have HL:=Ab hl;have hi1:(Tryz.prog.info? 67).map (·.size)=some (u8s TL).toArray.size:=by rw[Zk3];simp[hTl]
 clear hby hv hl hC hTL hre;go_enter Tryz.func19,Tryz.ntmps19
 go_wp2_with fail
 refine(Aa HH).mono ?_;rintro e w1 ⟨rfl,hB1⟩;have HB1:=Ab hB1;clear hB1 HH;go_wp2_with fail
 refine(Aa HR w1).mono ?_;rintro e w2 ⟨rfl,hB2⟩;have HB2:=Ab ((Aa HB1).trans (hB2.mono (Aa HB1).size));clear hB2 HR;have HZ2:=Ab (Aa HB2).size
 have HNW:Hid (∀(A:Array Value) (W:World),(w2.alloc (.cells A 67)).setRow w2.heap.size (u8s TL).toArray=W->A.size=8->URow 67 W w2.heap.size TL/\Below w.heap.size w W):=Ab (fun A W hW hA=>by
  have h1:=heap_alloc_new w2 (.cells A 67);rw[<-hW];exact⟨setRow_heap _ _ _ _ _ _ h1,Av ((Aa HB2).alloc (Aa HZ2) _) (Aa HZ2) _⟩)
 go_wp2_with (first|refine wpList_store_row rfl 67 (.tmp 3) (.tmp 6) rfl w2.heap.size (u8s TL).toArray rfl rfl 67 _ (heap_alloc_new _ _) hi1 (by simp[hTl]) (Z9k TL) ?_|refine Mm rfl (.tmp 7) (.tmp 8) rfl w2.heap.size 8 n cap TL bs a rfl rfl hTl (Aa HNW _ _ rfl (by kernel_rfl)).1.bytes (Aa HL) h0 ((Aa HBY).below (Aa HNW _ _ rfl (by kernel_rfl)).2 (Nat.le_refl _)) (by omega) ?_)
 intro c' w4 k1 k2 k3 k4;generalize hW:World.setRow _ _ _=W at*;obtain⟨hU,hB3⟩:=Aa HNW _ W hW (by kernel_rfl);have HB3:=Ab hB3;have hlt:=hU.lt;clear hU hB3 HNW;have hz2:=Aa HZ2;have HF:Hid (8+n<=c'/\w.heap.size<=w2.heap.size+1/\w2.heap.size+1<w4.heap.size/\Bytes w4 (w2.heap.size+1) 0 (Gy bs)/\Below w.heap.size w w4):=Ab ⟨k1,by omega,k3,by rw[Aa HRE];exact k2,(Aa HB3).trans (k4.mono (by omega))⟩;clear k1 k2 k3 k4 hlt hW;go_wp2;go_ret;exact⟨_,_,rfl,Aa HF⟩
end Go.Proofs.YtcjbgpacnkilnagGreatDoor
