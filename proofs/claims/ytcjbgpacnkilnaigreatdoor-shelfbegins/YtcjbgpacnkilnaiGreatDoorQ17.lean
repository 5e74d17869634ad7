import Derived.Test.YtcjbgpacnkilnaiGreatDoorQ2
import Derived.Test.YtcjbgpacnkilnaiGreatDoorQ16
import Derived.Test.YtcjbgpacnkilnaiGreatDoorQ11
import Derived.Test.YtcjbgpacnkilnaiGreatDoorQ1
import Derived.Maps.AppendAt
import Derived.Laws.AppendOwnNone
import Derived.Lib.AppendStr
import Derived.Deep.RegionLaw
import Derived.Deep.DeepCutAuto
set_option maxHeartbeats 4000000
namespace Go.Proofs.YtcjbgpacnkilnaiGreatDoor
open Go.RowKit
set_option linter.unusedVariables false
set_option linter.unusedSimpArgs false
set_option maxRecDepth 100000
def hdV (a c:Nat):Value:=.agg #[.int .u32 (a:Int),.int .u32 (c:Int)]
def hdC (a c:Nat):Obj:=.cells #[.int .u32 (a:Int),.int .u32 (c:Int)] 105 (0,0)
def hdL (a c:Nat):List Nat:= [a%256,a/256%256,a/65536%256,a/16777216%256,c%256,c/256%256,c/65536%256,c/16777216%256]
theorem Zgt (a c:Nat):hdL a c=Az a 4++Az c 4:=by
 simp[hdL,Az,Nat.div_div_eq_div_mul]
theorem Sf (a:Option Addr)(n cap:Nat)(bs:List Nat)(w:World)(hl:bs.length=n)(hn:n<=12000)(hby:BytesIn w a bs)(hv:∀j,bs.getD j 0<256):
 Calls Tryz.prog 58 #[.slice a n cap] w fun e w'=>e=.returned (hdV n (crcN 0 bs))/\Below w.heap.size w w':=by
 obtain⟨N,hN⟩:∃N,w.heap.size=N:=⟨_,rfl⟩
 have HC:=Ab (fun X=>Zf1 0 a n cap bs (w.alloc X) hl hn (by decide) (hby.alloc _) hv);have hn32:IntKind.u32.wrap (n:Int)=(n:Int):=by simp[IntKind.wrap,IntKind.signed,IntKind.bits];omega
 obtain⟨c,hc⟩:∃c,crcN 0 bs=c:=⟨_,rfl⟩
 rw[hc]at HC ⊢;unfold hdV;clear hc hby hv hl;go_enter Tryz.func58,Tryz.ntmps58
 go_wp2_with fail
 refine(Aa HC _).mono ?_;rintro e w1 ⟨rfl,hB1⟩
 have hR:w1.heap[N]? =some (hdC 0 0):=by
  rw[<-hN];exact(hB1.block _ (by simp)).trans ((heap_alloc_new _ _).trans (by kernel_rfl))
 unfold hdC at hR;have c0:=Ac (i:=0) hR;have c1:=Ac (i:=1) hR;have f0:=frozen_of_row w1 N 0 _ _ hR;have f1:=frozen_of_row w1 N 1 _ _ hR
 have HB:Hid (∀u v:Value,Below w.heap.size w ((w1.setCell ⟨N,0,none⟩ u).setCell ⟨N,1,none⟩ v)):=Ab (fun u v=>by
  have h1:Below w.heap.size w w1:=((Below.refl w.heap.size w).alloc (Nat.le_refl _) _).trans (hB1.mono (by simp));have h2:=h1.grown (Ad w1 N 0 u) h1.size (fun g e=>by cases e;omega);exact h2.grown (Ad _ N 1 v) h2.size (fun g e=>by cases e;omega))
 have HR:=Ab hR;clear hB1 hR HC;go_wp2;refine bodyPost_ret (v:=.agg #[.int .u32 (n:Int),.int .u32 (c:Int)]) ?_ rfl ⟨rfl,Aa HB _ _⟩;refine results_cell_row rfl _ _ N 105 #[.int .u32 (n:Int),.int .u32 (c:Int)] (0,0) _ rfl ?_ Tryz.underlying105 rfl (by kernel_rfl);rw[heap_setCell_same _ N 1 _ _ _ (heap_setCell_same w1 N 0 _ _ _ (Aa HR))];rfl
theorem Ma {w:World}{g a c:Nat}(h:w.heap[g]? =some (hdC a c)):w.cell? ⟨g,0,none⟩=some (.int .u32 (a:Int))/\w.cell? ⟨g,1,none⟩=some (.int .u32 (c:Int)):=⟨Ac (i:=0) h,Ac (i:=1) h⟩
def RSt (a c N:Nat)(w:World)(j:Nat)(W:World):Prop:=URow 107 W (N+2) ((hdL a c).take j++List.replicate (8-j) 0)/\URow 107 W (N+1) (List.replicate 8 0)/\W.heap[N]? =some (hdC a c)/\Below N w W
theorem RSt.cell {a c N j:Nat}{w W:World}(h:RSt a c N w j W)(hj:j<8):∃x,W.cell? ⟨N+2,j,none⟩=some x/\W.frozen? ⟨N+2,j,none⟩=false:=⟨_,h.1.cell j (by simp[hdL];omega),h.1.frozen j⟩
theorem RSt.step {a c N j:Nat}{w W:World}{v:Int}(h:RSt a c N w j W)(hj:j<8)(hv:v=(((hdL a c).getD j 0:Nat):Int)):RSt a c N w (j+1) (W.setCell ⟨N+2,j,none⟩ (.int .u8 v)):=by
 have hgr:=Ad W (N+2) j (.int .u8 v);have hl:(hdL a c).length=8:=rfl;have hlt:N<W.heap.size:=(Array.getElem?_eq_some_iff.1 h.2.2.1).1;refine⟨?_,h.2.1.keep (hgr.block _ h.2.1.lt (fun e=>by have:=Option.some.inj e;omega)),(hgr.block _ hlt (fun e=>by have:=Option.some.inj e;omega)).trans h.2.2.1,h.2.2.2.grown hgr (Nat.le_of_lt hlt) (fun g e=>by cases e;omega)⟩;have:=h.1.set j ((hdL a c).getD j 0)
 have e:=Z8d (hdL a c) j (by omega);rw[hl]at e;rw[e]at this;rw[hv];exact this
theorem Zfv (a c:Nat)(w:World)(ha:a<4294967296)(hc:c<4294967296):
 Calls Tryz.prog 62 #[hdV a c] w fun e w'=>e=.returned (.agg (u8s (hdL a c)).toArray)/\Below w.heap.size w w':=by
 obtain⟨N,hN⟩:∃N,w.heap.size=N:=⟨_,rfl⟩
 unfold hdV
 have HST:Hid (∀A1 A2:Array Value,A1=(u8s (List.replicate 8 0)).toArray->A2=(u8s (List.replicate 8 0)).toArray->RSt a c N w 0 (((w.alloc (.cells #[.int .u32 (a:Int),.int .u32 (c:Int)] 105)).alloc (.cells A1 107)).alloc (.cells A2 107))):=Ab (fun A1 A2 h1 h2=>by
  subst h1 h2;have z1:(w.alloc (.cells #[.int .u32 (a:Int),.int .u32 (c:Int)] 105)).heap.size=N+1:=by simp[hN]
  have z2:((w.alloc (.cells #[.int .u32 (a:Int),.int .u32 (c:Int)] 105)).alloc (.cells (u8s (List.replicate 8 0)).toArray 107)).heap.size=N+2:=by simp[hN]
  refine⟨?_, ?_, ?_, ?_⟩
  . rw[<-z2];exact heap_alloc_new _ _
  . refine(Below.heap_alloc _ _ _ (by rw[z2];omega)).trans ?_;rw[<-z1];exact heap_alloc_new _ _
  . refine(Below.heap_alloc _ _ _ (by rw[z2];omega)).trans ((Below.heap_alloc _ _ _ (by rw[z1];omega)).trans ?_);rw[<-hN];exact heap_alloc_new _ _
  . rw[<-hN];exact(((Below.refl w.heap.size w).alloc (Nat.le_refl _) _).alloc (by simp) _).alloc (by simp;omega) _)
 go_enter Tryz.func62,Tryz.ntmps62
 go_wp2;go_loopw [5] (fun v5 wr=>∃i:Nat,i<=8/\v5=.int .i64 (i:Int)/\Hid (RSt a c N w i wr)) (fun v5 _=>8-(intOf v5).toNat)
 case atStart=>exact⟨0,by decide,rfl,Ab (Aa HST _ _ (by kernel_rfl) (by kernel_rfl))⟩
 case round=>
  obtain⟨i,hi,rfl,hst⟩:=hrel;clear HST
  rcases(by omega:i=0\/i=1\/i=2\/i=3\/i=4\/i=5\/i=6\/i=7\/i=8)with rfl|rfl|rfl|rfl|rfl|rfl|rfl|rfl|rfl
  . obtain⟨x0,q0,f0⟩:=(Aa hst).cell (by decide);have c1:wr.cell? ⟨N+2,0,none⟩=some x0:=q0;have f1:wr.frozen? ⟨N+2,0,none⟩=false:=f0;obtain⟨d0,d1⟩:=Ma (Aa hst).2.2.1;clear q0 f0;go_wp2;refine⟨⟨1,by decide,rfl,Ab ((Aa hst).step (by decide) ?_)⟩,by simp[intOf]⟩;show _=((a%256:Nat):Int)
    omega
  . obtain⟨x0,q0,f0⟩:=(Aa hst).cell (by decide);have c1:wr.cell? ⟨N+2,1,none⟩=some x0:=q0;have f1:wr.frozen? ⟨N+2,1,none⟩=false:=f0;obtain⟨d0,d1⟩:=Ma (Aa hst).2.2.1;clear q0 f0;go_wp2;refine⟨⟨2,by decide,rfl,Ab ((Aa hst).step (by decide) ?_)⟩,by simp[intOf]⟩;show _=((a/256%256:Nat):Int)
    omega
  . obtain⟨x0,q0,f0⟩:=(Aa hst).cell (by decide);have c1:wr.cell? ⟨N+2,2,none⟩=some x0:=q0;have f1:wr.frozen? ⟨N+2,2,none⟩=false:=f0;obtain⟨d0,d1⟩:=Ma (Aa hst).2.2.1;clear q0 f0;go_wp2;refine⟨⟨3,by decide,rfl,Ab ((Aa hst).step (by decide) ?_)⟩,by simp[intOf]⟩;show _=((a/65536%256:Nat):Int)
    omega
  . obtain⟨x0,q0,f0⟩:=(Aa hst).cell (by decide);have c1:wr.cell? ⟨N+2,3,none⟩=some x0:=q0;have f1:wr.frozen? ⟨N+2,3,none⟩=false:=f0;obtain⟨d0,d1⟩:=Ma (Aa hst).2.2.1;clear q0 f0;go_wp2;refine⟨⟨4,by decide,rfl,Ab ((Aa hst).step (by decide) ?_)⟩,by simp[intOf]⟩;show _=((a/16777216%256:Nat):Int)
    omega
  . obtain⟨x0,q0,f0⟩:=(Aa hst).cell (by decide);have c1:wr.cell? ⟨N+2,4,none⟩=some x0:=q0;have f1:wr.frozen? ⟨N+2,4,none⟩=false:=f0;obtain⟨d0,d1⟩:=Ma (Aa hst).2.2.1;clear q0 f0;go_wp2;refine⟨⟨5,by decide,rfl,Ab ((Aa hst).step (by decide) ?_)⟩,by simp[intOf]⟩;show _=((c%256:Nat):Int)
    omega
  . obtain⟨x0,q0,f0⟩:=(Aa hst).cell (by decide);have c1:wr.cell? ⟨N+2,5,none⟩=some x0:=q0;have f1:wr.frozen? ⟨N+2,5,none⟩=false:=f0;obtain⟨d0,d1⟩:=Ma (Aa hst).2.2.1;clear q0 f0;go_wp2;refine⟨⟨6,by decide,rfl,Ab ((Aa hst).step (by decide) ?_)⟩,by simp[intOf]⟩;show _=((c/256%256:Nat):Int)
    omega
  . obtain⟨x0,q0,f0⟩:=(Aa hst).cell (by decide);have c1:wr.cell? ⟨N+2,6,none⟩=some x0:=q0;have f1:wr.frozen? ⟨N+2,6,none⟩=false:=f0;obtain⟨d0,d1⟩:=Ma (Aa hst).2.2.1;clear q0 f0;go_wp2;refine⟨⟨7,by decide,rfl,Ab ((Aa hst).step (by decide) ?_)⟩,by simp[intOf]⟩;show _=((c/65536%256:Nat):Int)
    omega
  . obtain⟨x0,q0,f0⟩:=(Aa hst).cell (by decide);have c1:wr.cell? ⟨N+2,7,none⟩=some x0:=q0;have f1:wr.frozen? ⟨N+2,7,none⟩=false:=f0;obtain⟨d0,d1⟩:=Ma (Aa hst).2.2.1;clear q0 f0;go_wp2;refine⟨⟨8,by decide,rfl,Ab ((Aa hst).step (by decide) ?_)⟩,by simp[intOf]⟩;show _=((c/16777216%256:Nat):Int)
    omega
  . obtain⟨TL,hTL⟩:∃TL,hdL a c=TL:=⟨_,rfl⟩
    have hTl:TL.length=8:=by rw[<-hTL];rfl
    have hi1:(Tryz.prog.info? 107).map (·.size)=some (u8s TL).toArray.size:=by rw[Zgr];simp[hTl]
    obtain⟨r5,r0,_,bN⟩:=Aa hst
    have r6:URow 107 wr (N+2) TL:=by
     have:(hdL a c).take 8++List.replicate (8-8) 0=TL:=by rw[hTL,List.take_of_length_le (by omega)];simp
     rw[this]at r5;exact r5
    have R5:=Ab r6;have R0:=Ab r0;have BN:=Ab bN;have HTL:=Ab hTL;have hu8:=Tryz.underlying107;clear r5 r0 bN hst r6 hTL;have HFN:Hid (∀W,wr.setRow (N+1) (u8s TL).toArray=W->W.heap[N+1]? =some (.cells (u8s TL).toArray 107 (0,0))/\Below N w W):=Ab (fun W hW=>by rw[<-hW];exact⟨setRow_heap _ _ _ _ _ _ (Aa R0),Au (Aa BN) (Nat.le_succ _) _⟩);go_wp2_with (first|refine wpList_load_row rfl 107 (.tmp 3) rfl (N+2) rfl 107 (u8s TL).toArray (0,0) _ (Aa R5) hu8 rfl hi1 ?_|refine wpList_store_row rfl 107 (.tmp 2) (.tmp 20) rfl (N+1) (u8s TL).toArray rfl rfl 107 _ (Aa R0) hi1 (by simp[hTl]) (Z77 TL) ?_)
    obtain⟨W9,hW9⟩:∃W9,wr.setRow (N+1) (u8s TL).toArray=W9:=⟨_,rfl⟩
    obtain⟨z1,z2⟩:=Aa HFN W9 hW9;rw[hW9];refine bodyPost_ret (v:=.agg (u8s TL).toArray) ?_ rfl ⟨by rw[Aa HTL],by rw[hN];exact z2⟩;exact results_cell_row rfl _ _ (N+1) _ _ _ _ rfl z1 hu8 rfl hi1
theorem Zik {a b s:Nat}(h:a<2^s):a|||2^s*b=a+2^s*b:=by
 rw[Nat.or_comm,<-Nat.two_pow_add_eq_or_of_lt h,Nat.add_comm]
theorem Lx (a b s:Nat)(ha:a<2^s)(hb:2^s*b<4294967296)(h2:a<4294967296):bits .or .u32 (a:Int) ((2^s*b:Nat):Int)=((a+2^s*b:Nat):Int):=by
 rw[u32_or_nat a (2^s*b) h2 hb,Zik ha]
def HSt (a c N:Nat)(w:World)(W:World):Prop:=W.heap[N+2]? =some (hdC a c)/\W.heap[N+1]? =some (hdC 0 0)/\Below N w W
theorem HSt.cells {a c N:Nat}{w W:World}(h:HSt a c N w W):W.cell? ⟨N+2,0,none⟩=some (.int .u32 (a:Int))/\W.cell? ⟨N+2,1,none⟩=some (.int .u32 (c:Int))/\W.frozen? ⟨N+2,0,none⟩=false/\W.frozen? ⟨N+2,1,none⟩=false:=
 ⟨Ac (i:=0) h.1,Ac (i:=1) h.1,frozen_of_row W (N+2) 0 _ _ h.1,frozen_of_row W (N+2) 1 _ _ h.1⟩
theorem HSt.drew {a c N:Nat}{w W:World}(h:HSt a c N w W)(q:Nat):HSt a c N w (W.drewN q):=⟨h.1,h.2.1,Ae h.2.2 q⟩
theorem HSt.low {a c N a':Nat}{w W:World}{v:Int}(h:HSt a c N w W)(hv:v=(a':Int)):HSt a' c N w (W.setCell ⟨N+2,0,none⟩ (.int .u32 v)):=by
 subst hv;have hgr:=Ad W (N+2) 0 (.int .u32 (a':Int));have hlt:N+1<W.heap.size:=(Array.getElem?_eq_some_iff.1 h.2.1).1;refine⟨?_,(hgr.block _ hlt (fun e=>by have:=Option.some.inj e;omega)).trans h.2.1,h.2.2.grown hgr (by omega) (fun g e=>by cases e;omega)⟩;rw[heap_setCell_same W (N+2) 0 _ _ _ h.1];rfl
theorem HSt.high {a c N c':Nat}{w W:World}{v:Int}(h:HSt a c N w W)(hv:v=(c':Int)):HSt a c' N w (W.setCell ⟨N+2,1,none⟩ (.int .u32 v)):=by
 subst hv;have hgr:=Ad W (N+2) 1 (.int .u32 (c':Int));have hlt:N+1<W.heap.size:=(Array.getElem?_eq_some_iff.1 h.2.1).1;refine⟨?_,(hgr.block _ hlt (fun e=>by have:=Option.some.inj e;omega)).trans h.2.1,h.2.2.grown hgr (by omega) (fun g e=>by cases e;omega)⟩;rw[heap_setCell_same W (N+2) 1 _ _ _ h.1];rfl
def Ck (b0 b1 b2 b3 i:Nat):Nat:=if i=0 then 0 else if i=1 then b0 else if i=2 then b0+2^8*b1 else if i=3 then b0+2^8*b1+2^16*b2 else b0+2^8*b1+2^16*b2+2^24*b3
theorem Zj7 (b0 b1 b2 b3 b4 b5 b6 b7:Int)(W:World):(Instr.index 107 (.agg #[.int .u8 b0,.int .u8 b1,.int .u8 b2,.int .u8 b3,.int .u8 b4,.int .u8 b5,.int .u8 b6,.int .u8 b7]) (.int .i64 0)).run Tryz.prog W=.ok (.int .u8 b0) W:=by kernel_rfl
theorem Zj6 (b0 b1 b2 b3 b4 b5 b6 b7:Int)(W:World):(Instr.index 107 (.agg #[.int .u8 b0,.int .u8 b1,.int .u8 b2,.int .u8 b3,.int .u8 b4,.int .u8 b5,.int .u8 b6,.int .u8 b7]) (.int .i64 1)).run Tryz.prog W=.ok (.int .u8 b1) W:=by kernel_rfl
theorem Zj5 (b0 b1 b2 b3 b4 b5 b6 b7:Int)(W:World):(Instr.index 107 (.agg #[.int .u8 b0,.int .u8 b1,.int .u8 b2,.int .u8 b3,.int .u8 b4,.int .u8 b5,.int .u8 b6,.int .u8 b7]) (.int .i64 2)).run Tryz.prog W=.ok (.int .u8 b2) W:=by kernel_rfl
theorem Zj4 (b0 b1 b2 b3 b4 b5 b6 b7:Int)(W:World):(Instr.index 107 (.agg #[.int .u8 b0,.int .u8 b1,.int .u8 b2,.int .u8 b3,.int .u8 b4,.int .u8 b5,.int .u8 b6,.int .u8 b7]) (.int .i64 3)).run Tryz.prog W=.ok (.int .u8 b3) W:=by kernel_rfl
theorem Zj3 (b0 b1 b2 b3 b4 b5 b6 b7:Int)(W:World):(Instr.index 107 (.agg #[.int .u8 b0,.int .u8 b1,.int .u8 b2,.int .u8 b3,.int .u8 b4,.int .u8 b5,.int .u8 b6,.int .u8 b7]) (.int .i64 4)).run Tryz.prog W=.ok (.int .u8 b4) W:=by kernel_rfl
theorem Zj2 (b0 b1 b2 b3 b4 b5 b6 b7:Int)(W:World):(Instr.index 107 (.agg #[.int .u8 b0,.int .u8 b1,.int .u8 b2,.int .u8 b3,.int .u8 b4,.int .u8 b5,.int .u8 b6,.int .u8 b7]) (.int .i64 5)).run Tryz.prog W=.ok (.int .u8 b5) W:=by kernel_rfl
theorem Zj1 (b0 b1 b2 b3 b4 b5 b6 b7:Int)(W:World):(Instr.index 107 (.agg #[.int .u8 b0,.int .u8 b1,.int .u8 b2,.int .u8 b3,.int .u8 b4,.int .u8 b5,.int .u8 b6,.int .u8 b7]) (.int .i64 6)).run Tryz.prog W=.ok (.int .u8 b6) W:=by kernel_rfl
theorem Zj0 (b0 b1 b2 b3 b4 b5 b6 b7:Int)(W:World):(Instr.index 107 (.agg #[.int .u8 b0,.int .u8 b1,.int .u8 b2,.int .u8 b3,.int .u8 b4,.int .u8 b5,.int .u8 b6,.int .u8 b7]) (.int .i64 7)).run Tryz.prog W=.ok (.int .u8 b7) W:=by kernel_rfl
theorem Z5b (b0 b1 b2 b3 b4 b5 b6 b7:Nat)(w:World)(h0:b0<256)(h1:b1<256)(h2:b2<256)(h3:b3<256)(h4:b4<256)(h5:b5<256)(h6:b6<256)(h7:b7<256):
 Calls Tryz.prog 57 #[.agg #[.int .u8 (b0:Int),.int .u8 (b1:Int),.int .u8 (b2:Int),.int .u8 (b3:Int),.int .u8 (b4:Int),.int .u8 (b5:Int),.int .u8 (b6:Int),.int .u8 (b7:Int)]] w fun e w'=>e=.returned (hdV (Ck b0 b1 b2 b3 4) (Ck b4 b5 b6 b7 4))/\Below w.heap.size w w':=by
 obtain⟨N,hN⟩:∃N,w.heap.size=N:=⟨_,rfl⟩
 have x0:=Zj7 (b0:Int) (b1:Int) (b2:Int) (b3:Int) (b4:Int) (b5:Int) (b6:Int) (b7:Int);have x1:=Zj6 (b0:Int) (b1:Int) (b2:Int) (b3:Int) (b4:Int) (b5:Int) (b6:Int) (b7:Int);have x2:=Zj5 (b0:Int) (b1:Int) (b2:Int) (b3:Int) (b4:Int) (b5:Int) (b6:Int) (b7:Int);have x3:=Zj4 (b0:Int) (b1:Int) (b2:Int) (b3:Int) (b4:Int) (b5:Int) (b6:Int) (b7:Int);have x4:=Zj3 (b0:Int) (b1:Int) (b2:Int) (b3:Int) (b4:Int) (b5:Int) (b6:Int) (b7:Int);have x5:=Zj2 (b0:Int) (b1:Int) (b2:Int) (b3:Int) (b4:Int) (b5:Int) (b6:Int) (b7:Int);have x6:=Zj1 (b0:Int) (b1:Int) (b2:Int) (b3:Int) (b4:Int) (b5:Int) (b6:Int) (b7:Int);have x7:=Zj0 (b0:Int) (b1:Int) (b2:Int) (b3:Int) (b4:Int) (b5:Int) (b6:Int) (b7:Int)
 have HST:Hid (HSt 0 0 N w (((w.alloc (.cells #[.int .u8 (b0:Int),.int .u8 (b1:Int),.int .u8 (b2:Int),.int .u8 (b3:Int),.int .u8 (b4:Int),.int .u8 (b5:Int),.int .u8 (b6:Int),.int .u8 (b7:Int)] 107)).alloc (.cells #[.int .u32 0,.int .u32 0] 105)).alloc (.cells #[.int .u32 0,.int .u32 0] 105))):=Ab (by
  refine⟨?_, ?_, ?_⟩
  . have:=heap_alloc_new ((w.alloc (.cells #[.int .u8 (b0:Int),.int .u8 (b1:Int),.int .u8 (b2:Int),.int .u8 (b3:Int),.int .u8 (b4:Int),.int .u8 (b5:Int),.int .u8 (b6:Int),.int .u8 (b7:Int)] 107)).alloc (.cells #[.int .u32 0,.int .u32 0] 105)) (.cells #[.int .u32 0,.int .u32 0] 105)
    rw[<-(by simp[hN]:((w.alloc (.cells #[.int .u8 (b0:Int),.int .u8 (b1:Int),.int .u8 (b2:Int),.int .u8 (b3:Int),.int .u8 (b4:Int),.int .u8 (b5:Int),.int .u8 (b6:Int),.int .u8 (b7:Int)] 107)).alloc (.cells #[.int .u32 0,.int .u32 0] 105)).heap.size=N+2)];exact this
  . refine(Below.heap_alloc _ _ _ (by simp[hN])).trans ?_;have:=heap_alloc_new (w.alloc (.cells #[.int .u8 (b0:Int),.int .u8 (b1:Int),.int .u8 (b2:Int),.int .u8 (b3:Int),.int .u8 (b4:Int),.int .u8 (b5:Int),.int .u8 (b6:Int),.int .u8 (b7:Int)] 107)) (.cells #[.int .u32 0,.int .u32 0] 105)
    rw[<-(by simp[hN]:(w.alloc (.cells #[.int .u8 (b0:Int),.int .u8 (b1:Int),.int .u8 (b2:Int),.int .u8 (b3:Int),.int .u8 (b4:Int),.int .u8 (b5:Int),.int .u8 (b6:Int),.int .u8 (b7:Int)] 107)).heap.size=N+1)];exact this
  . rw[<-hN];exact(((Below.refl w.heap.size w).alloc (Nat.le_refl _) _).alloc (by simp) _).alloc (by simp;omega) _)
 have HBX:Hid ((((w.alloc (.cells #[.int .u8 (b0:Int),.int .u8 (b1:Int),.int .u8 (b2:Int),.int .u8 (b3:Int),.int .u8 (b4:Int),.int .u8 (b5:Int),.int .u8 (b6:Int),.int .u8 (b7:Int)] 107)).alloc (.cells #[.int .u32 0,.int .u32 0] 105)).alloc (.cells #[.int .u32 0,.int .u32 0] 105)).heap[N]? =some (.cells #[.int .u8 (b0:Int),.int .u8 (b1:Int),.int .u8 (b2:Int),.int .u8 (b3:Int),.int .u8 (b4:Int),.int .u8 (b5:Int),.int .u8 (b6:Int),.int .u8 (b7:Int)] 107 (0,0))):=Ab (by
  refine(Below.heap_alloc _ _ _ (by simp[hN];omega)).trans ((Below.heap_alloc _ _ _ (by simp[hN])).trans ?_);rw[<-hN];exact heap_alloc_new _ _)
 have hu8:=Tryz.underlying107;go_enter Tryz.func57,Tryz.ntmps57
 go_wp2_with (refine wpList_load_row rfl 107 (.tmp 1) rfl N rfl 107 #[.int .u8 (b0:Int),.int .u8 (b1:Int),.int .u8 (b2:Int),.int .u8 (b3:Int),.int .u8 (b4:Int),.int .u8 (b5:Int),.int .u8 (b6:Int),.int .u8 (b7:Int)] (0,0) _ (Aa HBX) hu8 rfl (by kernel_rfl) ?_)
 go_loopw [7] (fun v7 wr=>∃i:Nat,i<=8/\v7=.int .i64 (i:Int)/\Hid (HSt (Ck b0 b1 b2 b3 i) (Ck b4 b5 b6 b7 (i-4)) N w wr)) (fun v7 _=>8-(intOf v7).toNat)
 case atStart=>exact⟨0,by decide,rfl,HST⟩
 case round=>
  obtain⟨i,hi,rfl,hst⟩:=hrel;clear HST HBX
  rcases(by omega:i=0\/i=1\/i=2\/i=3\/i=4\/i=5\/i=6\/i=7\/i=8)with rfl|rfl|rfl|rfl|rfl|rfl|rfl|rfl|rfl
  . obtain⟨d0,d1,f0,f1⟩:=(Aa hst).cells;obtain⟨A,hA⟩:∃A,Ck b0 b1 b2 b3 0=A:=⟨_,rfl⟩
    obtain⟨C,hC⟩:∃C,Ck b4 b5 b6 b7 (0-4)=C:=⟨_,rfl⟩
    rw[hA]at d0 hst;rw[hC]at d1 hst;have HN:Hid (Ck b0 b1 b2 b3 0+2^0*b0=Ck b0 b1 b2 b3 1/\Ck b0 b1 b2 b3 0<2^0):=Ab (by unfold Ck;constructor<;>simp<;>omega);have HA:=Ab hA;have HC:=Ab hC;clear hA hC;go_wp2;go_big_region
    go_wp2;refine⟨⟨1,by decide,rfl,Ab ?_⟩,by simp[intOf]⟩;have e0:(b0:Int)=((2^0*b0:Nat):Int):=by omega
    have hv:bits .or .u32 (A:Int) (b0:Int)=((Ck b0 b1 b2 b3 1:Nat):Int):=by
     obtain⟨n1,n2⟩:=Aa HN;have e1:Ck b0 b1 b2 b3 0=A:=Aa HA;rw[e1]at n1 n2;rw[e0,Lx A b0 0 n2 (by omega) (by omega),n1]
    have e:=((Aa hst).low hv).drew 1;rw[<-Aa HC]at e;exact e
  . obtain⟨d0,d1,f0,f1⟩:=(Aa hst).cells;obtain⟨A,hA⟩:∃A,Ck b0 b1 b2 b3 1=A:=⟨_,rfl⟩
    obtain⟨C,hC⟩:∃C,Ck b4 b5 b6 b7 (1-4)=C:=⟨_,rfl⟩
    rw[hA]at d0 hst;rw[hC]at d1 hst;have HN:Hid (Ck b0 b1 b2 b3 1+2^8*b1=Ck b0 b1 b2 b3 2/\Ck b0 b1 b2 b3 1<2^8):=Ab (by unfold Ck;constructor<;>simp<;>omega);have HA:=Ab hA;have HC:=Ab hC;clear hA hC;go_wp2;go_big_region
    go_wp2;refine⟨⟨2,by decide,rfl,Ab ?_⟩,by simp[intOf]⟩;have e0:((b1:Int)*256)=((2^8*b1:Nat):Int):=by omega
    have hv:bits .or .u32 (A:Int) ((b1:Int)*256)=((Ck b0 b1 b2 b3 2:Nat):Int):=by
     obtain⟨n1,n2⟩:=Aa HN;have e1:Ck b0 b1 b2 b3 1=A:=Aa HA;rw[e1]at n1 n2;rw[e0,Lx A b1 8 n2 (by omega) (by omega),n1]
    have e:=((Aa hst).low hv).drew 1;rw[<-Aa HC]at e;exact e
  . obtain⟨d0,d1,f0,f1⟩:=(Aa hst).cells;obtain⟨A,hA⟩:∃A,Ck b0 b1 b2 b3 2=A:=⟨_,rfl⟩
    obtain⟨C,hC⟩:∃C,Ck b4 b5 b6 b7 (2-4)=C:=⟨_,rfl⟩
    rw[hA]at d0 hst;rw[hC]at d1 hst;have HN:Hid (Ck b0 b1 b2 b3 2+2^16*b2=Ck b0 b1 b2 b3 3/\Ck b0 b1 b2 b3 2<2^16):=Ab (by unfold Ck;constructor<;>simp<;>omega);have HA:=Ab hA;have HC:=Ab hC;clear hA hC;go_wp2;go_big_region
    go_wp2;refine⟨⟨3,by decide,rfl,Ab ?_⟩,by simp[intOf]⟩;have e0:((b2:Int)*65536)=((2^16*b2:Nat):Int):=by omega
    have hv:bits .or .u32 (A:Int) ((b2:Int)*65536)=((Ck b0 b1 b2 b3 3:Nat):Int):=by
     obtain⟨n1,n2⟩:=Aa HN;have e1:Ck b0 b1 b2 b3 2=A:=Aa HA;rw[e1]at n1 n2;rw[e0,Lx A b2 16 n2 (by omega) (by omega),n1]
    have e:=((Aa hst).low hv).drew 1;rw[<-Aa HC]at e;exact e
  . obtain⟨d0,d1,f0,f1⟩:=(Aa hst).cells;obtain⟨A,hA⟩:∃A,Ck b0 b1 b2 b3 3=A:=⟨_,rfl⟩
    obtain⟨C,hC⟩:∃C,Ck b4 b5 b6 b7 (3-4)=C:=⟨_,rfl⟩
    rw[hA]at d0 hst;rw[hC]at d1 hst;have HN:Hid (Ck b0 b1 b2 b3 3+2^24*b3=Ck b0 b1 b2 b3 4/\Ck b0 b1 b2 b3 3<2^24):=Ab (by unfold Ck;constructor<;>simp<;>omega);have HA:=Ab hA;have HC:=Ab hC;clear hA hC;go_wp2;go_big_region
    go_wp2;refine⟨⟨4,by decide,rfl,Ab ?_⟩,by simp[intOf]⟩;have e0:((b3:Int)*16777216)=((2^24*b3:Nat):Int):=by omega
    have hv:bits .or .u32 (A:Int) ((b3:Int)*16777216)=((Ck b0 b1 b2 b3 4:Nat):Int):=by
     obtain⟨n1,n2⟩:=Aa HN;have e1:Ck b0 b1 b2 b3 3=A:=Aa HA;rw[e1]at n1 n2;rw[e0,Lx A b3 24 n2 (by omega) (by omega),n1]
    have e:=((Aa hst).low hv).drew 1;rw[<-Aa HC]at e;exact e
  . obtain⟨d0,d1,f0,f1⟩:=(Aa hst).cells;obtain⟨A,hA⟩:∃A,Ck b0 b1 b2 b3 4=A:=⟨_,rfl⟩
    obtain⟨C,hC⟩:∃C,Ck b4 b5 b6 b7 (4-4)=C:=⟨_,rfl⟩
    rw[hA]at d0 hst;rw[hC]at d1 hst;have HN:Hid (Ck b4 b5 b6 b7 0+2^0*b4=Ck b4 b5 b6 b7 1/\Ck b4 b5 b6 b7 0<2^0):=Ab (by unfold Ck;constructor<;>simp<;>omega);have HA:=Ab hA;have HC:=Ab hC;clear hA hC;go_wp2;go_big_region
    go_wp2;refine⟨⟨5,by decide,rfl,Ab ?_⟩,by simp[intOf]⟩;have e0:(b4:Int)=((2^0*b4:Nat):Int):=by omega
    have hv:bits .or .u32 (C:Int) (b4:Int)=((Ck b4 b5 b6 b7 1:Nat):Int):=by
     obtain⟨n1,n2⟩:=Aa HN;have e1:Ck b4 b5 b6 b7 0=C:=Aa HC;rw[e1]at n1 n2;rw[e0,Lx C b4 0 n2 (by omega) (by omega),n1]
    have e:=((Aa hst).high hv).drew 1;rw[<-Aa HA]at e;exact e
  . obtain⟨d0,d1,f0,f1⟩:=(Aa hst).cells;obtain⟨A,hA⟩:∃A,Ck b0 b1 b2 b3 5=A:=⟨_,rfl⟩
    obtain⟨C,hC⟩:∃C,Ck b4 b5 b6 b7 (5-4)=C:=⟨_,rfl⟩
    rw[hA]at d0 hst;rw[hC]at d1 hst;have HN:Hid (Ck b4 b5 b6 b7 1+2^8*b5=Ck b4 b5 b6 b7 2/\Ck b4 b5 b6 b7 1<2^8):=Ab (by unfold Ck;constructor<;>simp<;>omega);have HA:=Ab hA;have HC:=Ab hC;clear hA hC;go_wp2;go_big_region
    go_wp2;refine⟨⟨6,by decide,rfl,Ab ?_⟩,by simp[intOf]⟩;have e0:((b5:Int)*256)=((2^8*b5:Nat):Int):=by omega
    have hv:bits .or .u32 (C:Int) ((b5:Int)*256)=((Ck b4 b5 b6 b7 2:Nat):Int):=by
     obtain⟨n1,n2⟩:=Aa HN;have e1:Ck b4 b5 b6 b7 1=C:=Aa HC;rw[e1]at n1 n2;rw[e0,Lx C b5 8 n2 (by omega) (by omega),n1]
    have e:=((Aa hst).high hv).drew 1;rw[<-Aa HA]at e;exact e
  . obtain⟨d0,d1,f0,f1⟩:=(Aa hst).cells;obtain⟨A,hA⟩:∃A,Ck b0 b1 b2 b3 6=A:=⟨_,rfl⟩
    obtain⟨C,hC⟩:∃C,Ck b4 b5 b6 b7 (6-4)=C:=⟨_,rfl⟩
    rw[hA]at d0 hst;rw[hC]at d1 hst;have HN:Hid (Ck b4 b5 b6 b7 2+2^16*b6=Ck b4 b5 b6 b7 3/\Ck b4 b5 b6 b7 2<2^16):=Ab (by unfold Ck;constructor<;>simp<;>omega);have HA:=Ab hA;have HC:=Ab hC;clear hA hC;go_wp2;go_big_region
    go_wp2;refine⟨⟨7,by decide,rfl,Ab ?_⟩,by simp[intOf]⟩;have e0:((b6:Int)*65536)=((2^16*b6:Nat):Int):=by omega
    have hv:bits .or .u32 (C:Int) ((b6:Int)*65536)=((Ck b4 b5 b6 b7 3:Nat):Int):=by
     obtain⟨n1,n2⟩:=Aa HN;have e1:Ck b4 b5 b6 b7 2=C:=Aa HC;rw[e1]at n1 n2;rw[e0,Lx C b6 16 n2 (by omega) (by omega),n1]
    have e:=((Aa hst).high hv).drew 1;rw[<-Aa HA]at e;exact e
  . obtain⟨d0,d1,f0,f1⟩:=(Aa hst).cells;obtain⟨A,hA⟩:∃A,Ck b0 b1 b2 b3 7=A:=⟨_,rfl⟩
    obtain⟨C,hC⟩:∃C,Ck b4 b5 b6 b7 (7-4)=C:=⟨_,rfl⟩
    rw[hA]at d0 hst;rw[hC]at d1 hst;have HN:Hid (Ck b4 b5 b6 b7 3+2^24*b7=Ck b4 b5 b6 b7 4/\Ck b4 b5 b6 b7 3<2^24):=Ab (by unfold Ck;constructor<;>simp<;>omega);have HA:=Ab hA;have HC:=Ab hC;clear hA hC;go_wp2;go_big_region
    go_wp2;refine⟨⟨8,by decide,rfl,Ab ?_⟩,by simp[intOf]⟩;have e0:((b7:Int)*16777216)=((2^24*b7:Nat):Int):=by omega
    have hv:bits .or .u32 (C:Int) ((b7:Int)*16777216)=((Ck b4 b5 b6 b7 4:Nat):Int):=by
     obtain⟨n1,n2⟩:=Aa HN;have e1:Ck b4 b5 b6 b7 3=C:=Aa HC;rw[e1]at n1 n2;rw[e0,Lx C b7 24 n2 (by omega) (by omega),n1]
    have e:=((Aa hst).high hv).drew 1;rw[<-Aa HA]at e;exact e
  . have e:HSt (Ck b0 b1 b2 b3 4) (Ck b4 b5 b6 b7 4) N w wr:=Aa hst;obtain⟨A,hA⟩:∃A,Ck b0 b1 b2 b3 4=A:=⟨_,rfl⟩
    obtain⟨C,hC⟩:∃C,Ck b4 b5 b6 b7 4=C:=⟨_,rfl⟩
    rw[hA,hC]at e;have HA:=Ab hA;have HC:=Ab hC;have R2:=Ab e.1;have R1:=Ab e.2.1;have BN:=Ab e.2.2;have e0:=Ac (i:=0) e.1;have e1:=Ac (i:=1) e.1;have g0:=Ac (i:=0) e.2.1;have g1:=Ac (i:=1) e.2.1;have q0:=frozen_of_row wr (N+1) 0 _ _ e.2.1;have q1:=frozen_of_row wr (N+1) 1 _ _ e.2.1;have hui:=Tryz.underlying105
    have HB:Hid (∀u v:Value,Below w.heap.size w ((wr.setCell ⟨N+1,0,none⟩ u).setCell ⟨N+1,1,none⟩ v)):=Ab (fun u v=>by
     have hz:N+1<wr.heap.size:=(Array.getElem?_eq_some_iff.1 e.2.1).1;have h2:=e.2.2.grown (Ad wr (N+1) 0 u) (by omega) (fun g e=>by cases e;omega);have h3:=h2.grown (Ad _ (N+1) 1 v) (by have:=(Ad wr (N+1) 0 u).size;omega) (fun g e=>by cases e;omega);rw[hN];exact h3)
    clear hst e hA hC;go_wp2;refine bodyPost_ret (v:=hdV A C) ?_ rfl ⟨by rw[Aa HA,Aa HC],Aa HB _ _⟩;refine results_cell_row rfl _ _ (N+1) 105 #[.int .u32 (A:Int),.int .u32 (C:Int)] (0,0) _ rfl ?_ hui rfl (by kernel_rfl);rw[heap_setCell_same _ (N+1) 1 _ _ _ (heap_setCell_same wr (N+1) 0 _ _ _ (Aa R1))];rfl
end Go.Proofs.YtcjbgpacnkilnaiGreatDoor
namespace Go.Proofs.YtcjbgpacnkilnaiGreatDoor
open Go.RowKit
set_option linter.unusedVariables false
set_option maxRecDepth 100000
def KpT (w w':World):Prop:=∀(g:Nat) (cs:Array Value) (t:TypeId) (fz:Nat×Nat),t≠5->t≠76->w.heap[g]? =some (Obj.cells cs t fz)->w'.heap[g]? =some (Obj.cells cs t fz)
theorem KpT.refl (w:World):KpT w w:=fun _ _ _ _ _ _ h=>h
theorem KpT.trans {a b c:World}(h:KpT a b)(k:KpT b c):KpT a c:=fun g cs t fz h1 h2 h3=>k g cs t fz h1 h2 (h g cs t fz h1 h2 h3)
theorem KpT.below {w w':World}(h:Below w.heap.size w w'):KpT w w':=fun g cs t fz _ _ h3=>(h.block g (Array.getElem?_eq_some_iff.1 h3).1).trans h3
structure ZC (B:Nat)(w:World)(b:Nat)(xs:List Nat)(ov:Value):Prop where
 base:B<=b
 cell:w.heap[b]? =some (.cells #[ov] 76 (0,0))
 own:w.ownsRow (b+1) 5 1 ov xs.length (u8s xs)
theorem ZC.lt {B b:Nat}{w:World}{xs:List Nat}{ov:Value}(h:ZC B w b xs ov):b<w.heap.size:=(Array.getElem?_eq_some_iff.1 h.cell).1
structure ZUp (B:Nat)(w:World)(b:Nat)(xs:List Nat)(w':World):Prop where
 is:∃ov,ZC B w' b xs ov
 below:Below B w w'
 kp:KpT w w'
theorem ZUp.refl {B b:Nat}{w:World}{xs:List Nat}{ov:Value}(h:ZC B w b xs ov):ZUp B w b xs w:=⟨⟨ov,h⟩,Below.refl _ _,KpT.refl _⟩
theorem ZUp.trans {B b:Nat}{w w1 w2:World}{xs ys:List Nat}(h:ZUp B w b xs w1)(k:ZUp B w1 b ys w2):ZUp B w b ys w2:=⟨k.is,h.below.trans k.below,h.kp.trans k.kp⟩
theorem ZC.later {B b:Nat}{w w':World}{xs:List Nat}{ov:Value}(h:ZC B w b xs ov)(hB:Below w.heap.size w w'):ZC B w' b xs ov:=
 ⟨h.base,(hB.block b h.lt).trans h.cell,Ap h.own (fun g hg=>hB.block g (h.own.lt g hg).2)⟩
theorem ZC.apart {B b:Nat}{w:World}{xs:List Nat}{ov:Value}(h:ZC B w b xs ov):ov.ownBlock=none\/ov.ownBlock≠some b:=by
 cases hx:ov.ownBlock with
 |none=>exact .inl rfl
 |some g=>
  refine .inr (fun e=> ?_);have:=(h.own.lt g hx).1
  cases e
  omega
theorem Mu {w:World}{B e size n g:Nat}{v:Value}{xs:List Value}(h:w.ownsRow B e size v n xs)(hg:v.ownBlock=some g):∃cs,w.heap[g]? =some (.cells cs e (0,0)):=by
 rcases h.2 with ⟨h1,_⟩|⟨g',cap,cur,h1,h2,h3,_⟩
 . subst h1;cases hg
 . subst h1
   cases hg
   exact⟨_,h3⟩
theorem ZC.put {B b:Nat}{r W w':World}{xs ys:List Nat}{ov v':Value}(h:ZC B r b xs ov)(hW:r.grownBy W none)(hg:W.grownBy w' ov.ownBlock)(ho:w'.ownsRow (b+1) 5 1 v' (xs.length+ys.length) (u8s xs++u8s ys)):
 w'.cell? ⟨b,0,none⟩=some ov/\w'.frozen? ⟨b,0,none⟩=false/\ZUp B r b (xs++ys) (w'.setCell ⟨b,0,none⟩ v'):=by
 have hlt:=h.lt;have hWs:=hW.size;have hgs:=hg.size;have hbW:W.heap[b]? =some (.cells #[ov] 76 (0,0)):=(hW.block b hlt (by simp)).trans h.cell;have hb':w'.heap[b]? =some (.cells #[ov] 76 (0,0)):=(hg.block b (by omega) (fun e=>by rcases h.apart with h|h;rw[h]at e;cases e;exact h e.symm)).trans hbW;have hset:=Ad w' b 0 v'
 have hv'b:v'.ownBlock=none\/v'.ownBlock≠some b:=by
  cases hx:v'.ownBlock with
  |none=>exact .inl rfl
  |some g=>
   refine .inr (fun e=> ?_);have:=(ho.lt g hx).1
   cases e
   omega
 have hbb:=h.base;refine⟨Ac hb',frozen_of_row w' b 0 _ _ hb',⟨v',hbb, ?_, ?_⟩, ?_, ?_⟩
 . rw[heap_setCell_same w' b 0 _ _ _ hb'];rfl
 . have:=ho.kept hset hv'b
   rw[List.length_append,u8s,List.map_append];exact this
 . have b0:=(Below.refl B r).grown hW (by omega) (fun g e=>by cases e);have b1:=b0.grown hg (by omega) (fun g e=>by have:=(h.own.lt g e).1;omega);exact b1.grown hset (by omega) (fun g e=>by cases e;exact hbb)
 . intro g cs t fz h1 h2 h3;have hgl:=(Array.getElem?_eq_some_iff.1 h3).1;have e1:W.heap[g]? =some (.cells cs t fz):=(hW.block g hgl (by simp)).trans h3
   have hne:some g≠ov.ownBlock:=by
    intro e;obtain⟨cs',hc⟩:=Mu h.own e.symm;rw[h3]at hc
    injection hc with hc
    injection hc with _ hc2
    exact h1 hc2
   have e2:w'.heap[g]? =some (.cells cs t fz):=(hg.block g (by omega) hne).trans e1
   have hgb:g≠b:=by
    intro e;rw[e,h.cell]at h3
    injection h3 with h3
    injection h3 with _ h4
    exact h2 h4.symm
   exact(hset.block g (by omega) (fun e=>hgb (Option.some.inj e))).trans e2
def PkIn (w:World)(a:Option Addr)(c:Nat)(ys:List Nat):Prop:=BytesIn w a ys/\(a=none->c=0)
theorem PkIn.below {w w':World}{a:Option Addr}{c:Nat}{ys:List Nat}(h:PkIn w a c ys)(hB:Below w.heap.size w w'):PkIn w' a c ys:=by
 refine⟨?_,h.2⟩
 rcases h.1 with h|⟨b,o,e,hb,hc⟩
 . exact .inl h
 . exact .inr ⟨b,o,e,Nat.lt_of_lt_of_le hb hB.size,fun j hj=>(World.cell?_of_block (w:=w) (a:=⟨b,_,none⟩) (hB.block b hb)).trans (hc j hj)⟩
theorem Z34:(Tryz.prog.info? 5).map (fun i=>(i.zero,i.size,i.bytes))=some (some (.int .u8 0),1,1):=by kernel_rfl
theorem Jo (w:World)(ty:TypeId)(base:Nat)(v:Value)(xs ys:List Nat)(hown:w.ownsRow base 5 1 v xs.length (u8s xs))(ad:Option Addr)(m c:Nat)(hm:ys.length=m)(hP:PkIn w ad c ys)(hsz:xs.length+m<=140737488355328)(hbase:base<=w.heap.size):
 ∃v' w',(Builtin.append_ #[22,22] ty #[v,.slice ad m c]).run Tryz.prog w=.ok v' w'/\w'.ownsRow base 5 1 v' (xs.length+ys.length) (u8s xs++u8s ys)/\w.grownBy w' v.ownBlock:=by
 obtain⟨i0,hi,hz0,hz1,hz2⟩:=info_parts Z34;subst hm
 cases ad with
 |none=>
  have hc:c=0:=hP.2 rfl;subst hc
  have hys:ys= []:=by
   rcases hP.1 with h|⟨b,o,e,_⟩
   . exact h
   . cases e
  subst hys;have hr:=run_append_owned_none (P:=Tryz.prog) (w:=w) base 22 ty 5 i0 1 Tryz.underlying22 hi v xs.length (u8s xs) hown;exact⟨v,w,hr,by simpa using hown,Ao _ _⟩
 |some ad=>
  obtain⟨v',w',h1,h2,h3,_⟩:=run_append_own_at (P:=Tryz.prog) w base 22 ty 5 i0 (.int .u8 0) 1 1 Tryz.underlying22 hi hz0 hz1 hz2 rfl (by decide) v xs.length (u8s xs) hown ad ys.length c (u8s ys) (by simp) (by
   intro j u hj
   have hj':j<ys.length:=by
    have:=(List.getElem?_eq_some_iff.1 hj).1
    simpa using this
   rcases hP.1 with h|⟨b,o,e,_,hB⟩
   . subst h;simp at hj'
   . cases e
     have hu:u=.int .u8 ((ys.getD j 0:Nat):Int):=by
      simp[u8s,hj']at hj
      simp[List.getD,hj',hj]
     rw[hu];have:=hB j hj'
     by_cases h0:j=0
     . subst h0;simpa[Addr.add]using this
     . simpa[Addr.add,h0]using this) (by
   intro u hu;obtain⟨x,_,rfl⟩:=List.mem_map.1 hu;rfl) (by unfold maxLen;omega) (by omega) hbase
  exact⟨v',w',h1,h2,h3⟩
theorem Z7p {ops:Array Oper}{o:Oper}{a:Act}{W:World}{K:Act->World->Prop}{Q:Exit->Act->World->Prop}{E:Prop}(hgd:o.guard=none)(s x:Operand)
 (ho:o.op=.call {callee:=.builtin .append,args:= #[s,x],argTypes:= #[22,22]})
 (r:World) (B b:Nat) (xs ys:List Nat) (ov:Value) (hs:a.eval s=ov) (hC:ZC B r b xs ov) (hW:r.grownBy W none) (ad:Option Addr) (m c:Nat) (hx:a.eval x=.slice ad m c) (hm:ys.length=m) (hP:PkIn W ad c ys) (hk:xs.length+m<=1000000)
 (h:∀a' l' c' w',w'.cell? ⟨b,0,none⟩=some ov->w'.frozen? ⟨b,0,none⟩=false->Hid (ZUp B r b (xs++ys) (w'.setCell ⟨b,0,none⟩ (.slice a' l' c')))->K (a.put o.dst (.slice a' l' c')) w'):
 if Region.wanted o (yielded ops a.tmps)=true then Oper.wp Tryz.prog o a W K Q else E:=by
 have hw:Region.wanted o (yielded ops a.tmps)=true:=by simp[Region.wanted,hgd]
 rw[if_pos hw];have hlt:=hC.lt;have hsz:=hW.size;obtain⟨v',w',hr,h2,h3⟩:=Jo W o.type (b+1) ov xs ys (Ju hC.own hW) ad m c hm hP (by omega) (by omega);obtain⟨c1,c2,c3⟩:=hC.put hW h3 h2;obtain⟨a',c',rfl⟩:=An h2;unfold Oper.wp execOp;simp only[ho,resolve,invoke,builtin,Sem.run_bind,Sem.run_pure,Result.andThen_ok,List.map_toArray,List.map_cons,List.map_nil,hs,hx,hr];exact h a' _ c' w' c1 c2 (Ab c3)
theorem Z4g (l:List UInt8):Lib.strCells (B l)=u8s (n8 l):=by simp[Lib.strCells,B,u8s,n8,Function.comp_def]
theorem Z7o {ops:Array Oper}{o:Oper}{a:Act}{W:World}{K:Act->World->Prop}{Q:Exit->Act->World->Prop}{E:Prop}(hgd:o.guard=none)(s x:Operand)
 (ho:o.op=.call {callee:=.builtin .append,args:= #[s,x],argTypes:= #[22,9]})
 (r:World) (Bs b:Nat) (xs:List Nat) (l:List UInt8) (ov:Value) (hs:a.eval s=ov) (hC:ZC Bs r b xs ov) (hW:r.grownBy W none) (hx:a.eval x=.string (B l)) (hk:xs.length+l.length<=1000000)
 (h:∀a' l' c' w',w'.cell? ⟨b,0,none⟩=some ov->w'.frozen? ⟨b,0,none⟩=false->Hid (ZUp Bs r b (xs++n8 l) (w'.setCell ⟨b,0,none⟩ (.slice a' l' c')))->K (a.put o.dst (.slice a' l' c')) w'):
 if Region.wanted o (yielded ops a.tmps)=true then Oper.wp Tryz.prog o a W K Q else E:=by
 have hw:Region.wanted o (yielded ops a.tmps)=true:=by simp[Region.wanted,hgd]
 rw[if_pos hw];have hlt:=hC.lt;have hsz:=hW.size;obtain⟨i0,hi,hz0,hz1,hz2⟩:=info_parts Z34;have hB:(B l).size=l.length:=by simp[B,ByteArray.size]
 obtain⟨v',w',hr,h2,h3,_⟩:=Lib.run_append_own_string (P:=Tryz.prog) W (b+1) 22 9 o.type 5 i0 Tryz.underlying22 Tryz.underlying9 hi hz0 hz1 hz2 ov xs.length (u8s xs) (Ju hC.own hW) (B l) (by rw[hB];unfold maxLen;omega) (by rw[hB];omega) (by omega);rw[hB,Z4g,<-Fm]at h2;obtain⟨c1,c2,c3⟩:=hC.put hW h3 h2;obtain⟨a',c',rfl⟩:=An h2;unfold Oper.wp execOp;simp only[ho,resolve,invoke,builtin,Sem.run_bind,Sem.run_pure,Result.andThen_ok,List.map_toArray,List.map_cons,List.map_nil,hs,hx,hr];exact h a' _ c' w' c1 c2 (Ab c3)
end Go.Proofs.YtcjbgpacnkilnaiGreatDoor
