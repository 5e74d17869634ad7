import Derived.Test.YtleocpdblhbimaaGreatDoorQ19
set_option linter.unusedSimpArgs false
set_option maxHeartbeats 4000000
namespace Go.Proofs.YtleocpdblhbimaaGreatDoor
open Go.RowKit
set_option linter.unusedVariables false
set_option maxRecDepth 100000
theorem Z21 (No:Nat->Prop)(B b d k:Nat)(R ba bb:Value)(u:US)(w:World)(F:IIs No B w b R ba bb u)(b3:u.e=0)(ci:u.out.length<=3000)(cv:1<=d)(cq:d<=80000)(b7:k<=65535)(b4:∀g,w.heap.size<=g->¬No g)(V:US)(bw:Hid (Jh d k u=V)):
 Calls Tryz.prog 268 #[.pointer (some ⟨b,0,none⟩),.int .i64 (k:Int),.int .i64 (d:Int)] w fun e w'=>Got No B w b R ba bb (.tuple #[]) V e w':=by
 obtain⟨ov,kv,c2,bz,bd,a6,bc,bk,bj,bi⟩:=F.rows;obtain⟨cu,ct,rfl⟩:=An a6;have H:=Ab F;have cn:=Ab b3;have ar:=Ab b4;have cj:=Ab (Rq No B b k R ba bb u w F ci b7);have cg:=Ab (Cf 9 w);have a7:=Aa bw;unfold Jh at a7;clear F bd a6 bc bk bj bi bz b4 b3 bw
 by_cases bh:u.out.length<d
 . rw[if_pos bh]at a7;have bu:(u.out.length:Int)<(d:Int):=by omega
   have a8:=Ab a7;clear a7;go_enter Tryz.func268,Tryz.ntmps268
   go_wp2_with fail
   refine(Aa cg).mono ?_;rintro e w' ⟨rfl,rfl⟩;go_wp2;exact⟨rfl,.inr ⟨by rw[<-Aa a8];exact(by decide:(9:Int)≠0),by rw[<-Aa a8],Bl.refl _ _ _⟩⟩
 rw[if_neg bh]at a7;have bu:¬(u.out.length:Int)<(d:Int):=by omega
 have a8:=Ab a7;clear a7;go_enter Tryz.func268,Tryz.ntmps268
 go_wp2_with fail
 refine(Aa cj).mono ?_;rintro e c5 ⟨bv,Y⟩;rw[bv];clear bv
 rcases Y with ⟨hl,rfl⟩|⟨hl,rfl⟩
 rotate_left
 . have a9:Hid ({u with e:=2}=V):=Ab (by rw[<-Aa a8,if_pos hl]);clear hl;go_wp2;exact⟨rfl,.inr ⟨by rw[<-Aa a9];exact(by decide:(2:Int)≠0),by rw[<-Aa a9],Bl.refl _ _ _⟩⟩
 have b0:Hid (V=ucopy d k u):=Ab (by rw[<-Aa a8,if_neg (by omega)]);have b9:=Ab hl;have co:=Ab bh;clear hl bh bu c2;go_wp2;go_loopw [18] (fun bn wr=>∃(i:Nat) (x:US),i<=k/\bn=.int .i64 (i:Int)/\Hid (x.out.length+(k-i)<=3000/\d<=x.out.length/\x.e=0)/\Hid (IUp No B w b R ba bb x wr)/\Hid (V=ucopy d (k-i) x)) (fun bn _=>k-(intOf bn).toNat)
 case atStart=>exact⟨0,u,VH _,rfl,Ab ⟨by have:=Aa b9;omega,by have:=Aa co;omega,Aa cn⟩,Ab (IUp.refl (Aa H)),b0⟩
 case round=>
  obtain⟨i,x,hi,rfl,ce,bf,bg⟩:=hrel;obtain⟨ck,cm,aj⟩:=Aa ce
  by_cases cw:i<k
  . have c8:(i:Int)<(k:Int):=by omega
    have bm:=(Aa bf).is;have c6:=(Aa bf).below.size;have cy:=bm.lt;obtain⟨al,ak,ax,a2,ap⟩:=info_parts Gz;obtain⟨ov,kv,c2,bz,bd,a6,bc,bk,bj,bi⟩:=bm.rows;obtain⟨U,ac,rfl,_,cp⟩:=Ba a6 (by omega);obtain⟨q,bo⟩:=exq (x.out.length-d);obtain⟨c,hc⟩:=exq (x.out.getD q 0)
    have c9:wr.cell? ⟨U,q,none⟩=some (.int .u8 (c:Int)):=by
     have:=a6.cells rfl q (.int .u8 (c:Int)) (by
      unfold u8s;rw[List.getElem?_map,VP (by omega)];rw[<-hc];simp[List.getD,VP (show q<x.out.length by omega)])
     by_cases cd:q=0<;>simpa[Addr.add,cd]using this
    have b5:Fd c x= {x with out:=x.out++ [c]}:=by unfold Fd;rw[if_pos aj,if_neg (by omega)]
    have av:Hid (V=ucopy d (k-(i+1)) {x with out:=x.out++ [c]}):=Ab (by
     obtain⟨j,b8⟩:∃j,k-i=j+1:=⟨k-i-1,by omega⟩
     rw[Aa bg,b8,show k-(i+1)=j by omega,<-b5,<-hc,<-bo];show (if x.e=0 then ucopy d j (Fd (x.out.getD (x.out.length-d) 0) x)else x)=_
     rw[if_pos aj])
    obtain⟨L,bq⟩:=exq (x.out.length);rw[bq]at c2 ck cm bo;have E:=Ab bq;have Z:=Ab a6;have a1:=Ab bc;have au:=Ab bd;have ay:=Ab bk;have aw:=Ab bj;have az:=Ab bi;have aa:=Ab bm;have c7:(L:Int)-(d:Int)=(q:Int):=by omega
    have cz:(q:Int)<(L:Int):=by omega
    have da:IntKind.i64.wrap (q:Int)=(q:Int):=Gj q (by omega);have ao:Hid (IUp No B w b R ba bb x wr.drew):=Ab ((Aa bf).drewN 1);clear a6 bc bd bk bj bi bm bq bg b0 a8 b5 hc bo;go_wp2;refine wp_region_any (by kernel_rfl) ?_
    try (change wpAny _ _ _ _ _ _ _ (World.drew _))
    refine tkA (i:=0) (v:=.pointer (some ⟨b,0,none⟩)) ?_;simp only[Act.put,VA,VC,VD];refine tkA (i:=1) (v:=.pointer (some ⟨b,0,none⟩)) ?_;simp only[Act.put,VA,VC,VD];refine tkA (i:=2) (v:=.pointer (some ⟨b,0,none⟩)) ?_;simp only[Act.put,VA,VC,VD];refine tkA (i:=3) (v:=.pointer (some ⟨b,2,none⟩)) ?_;simp only[Act.put,VA,VC,VD];refine tkA (i:=5) (v:=.pointer (some ⟨b,0,none⟩)) ?_;simp only[Act.put,VA,VC,VD];refine tkA (i:=6) (v:=.pointer (some ⟨b,0,none⟩)) ?_;simp only[Act.put,VA,VC,VD];refine tkA (i:=7) (v:=.pointer (some ⟨b,2,none⟩)) ?_;simp only[Act.put,VA,VC,VD];refine tkA (i:=9) (v:=.pointer (some ⟨b,0,none⟩)) ?_;simp only[Act.put,VA,VC,VD];refine tkA (i:=10) (v:=.pointer (some ⟨b,0,none⟩)) ?_;simp only[Act.put,VA,VC,VD];refine tkA (i:=11) (v:=.pointer (some ⟨b,2,none⟩)) ?_;simp only[Act.put,VA,VC,VD];refine tkA (i:=14) (v:=.int .i64 (d:Int)) ?_;simp only[Act.put,VA,VC,VD];refine wpAny_ready (rs:= [4,8,12]) (by kernel_rfl) (by simp) (AllReady.cons rfl (fun K hK=> ?_) (AllReady.cons rfl (fun K hK=> ?_) (AllReady.cons rfl (fun K hK=> ?_) AllReady.nil)))
    . go_simp
      refine hK _ _ ?_;clear hK K;refine wpAny_ready (rs:= [8,12]) (by kernel_rfl) (by simp) (AllReady.cons rfl (fun K hK=> ?_) (AllReady.cons rfl (fun K hK=> ?_) AllReady.nil))
      . go_simp
        refine hK _ _ ?_;clear hK K;refine rdA (i:=12) fun K hK=> ?_
        . go_simp
          refine hK _ _ ?_;clear hK K;refine tkA (i:=13) (v:=.int .i64 (L:Int)) ?_;simp only[Act.put,VA,VC,VD];refine tkA (i:=15) (v:=.int .i64 (q:Int)) ?_;simp only[Act.put,VA,VC,VD];refine tkA (i:=16) (v:=.pointer (some ⟨U,q,none⟩)) ?_;simp only[Act.put,VA,VC,VD];refine rdA (i:=17) fun K hK=> ?_
          . go_simp
            refine hK _ _ ?_;clear hK K;refine rdA (i:=18) fun K hK=> ?_
            . go_simp
              refine hK _ _ ?_;clear hK K
              have M:wr.drew.ownsRow (b+1) 5 1 (.slice (some ⟨U,0,none⟩) L ac) L (u8s x.out):=by
               have:=Au (w':=wr.drew) (Aa Z) (fun _ _=>rfl)
               rw[Aa E]at this;exact this
              refine rdA (i:=19) fun K hK=> ?_
              refine step_append_lies _ rfl (.tmp 24) (.tmp 38) 23 rfl (b+1) 5 al (.int .u8 0) 1 1 Tryz.underlying23 ak ax a2 ap rfl (by decide) (.slice (some ⟨U,0,none⟩) L ac) L (u8s x.out) rfl (M.alloc _) ⟨wr.heap.size,0,none⟩ 1 1 [.int .u8 (c:Int)] rfl rfl (cell_one_new wr.drew _ _) (Bc rfl) (by decide) (by unfold maxLen;omega) (by omega) (by simp;omega) _ rfl ?_;intro ae ai a5 T G O af
              obtain⟨ah,a4,I⟩:=IIs.said (c:=c) (w:=wr.drew) (v':=.slice (some ⟨ae,0,none⟩) (L+1) ai) (Aa aa).base (Aa aa).no (Aa au) (Au (Aa Z) (fun _ _=>rfl)) (Au (Aa a1) (fun _ _=>rfl)) (Aa ay) (Aa aw) (Aa az) (fun g Y=>Aa ar g (by have a3:wr.heap.size<=g:=Y;omega)) (by rw[Aa E];exact T) G (by
               rcases O with F|F
               . exact .inl F.symm
               . exact .inr (by rw[F];rfl))
              have ag:=Ab ((Aa ao).trans I);refine hK _ _ ?_;clear hK K I T G O af M;rw[Aa E]at ah;simp only[Act.put,VA,VC,VD];refine tkA (i:=20) (v:=.pointer (some ⟨b,0,none⟩)) ?_;simp only[Act.put,VA,VC,VD];refine tkA (i:=21) (v:=.pointer (some ⟨b,2,none⟩)) ?_;simp only[Act.put,VA,VC,VD];refine rdA (i:=22) fun K hK=> ?_
              go_simp
              refine hK _ _ ?_;clear hK K;refine wpAny_done (by kernel_rfl) ?_ _;go_wp2;go_roundw
              case rel=>exact⟨i+1,{x with out:=x.out++ [c]},by omega,by go_num,Ab ⟨by show (x.out++ [c]).length+_<=_;rw[VE,Aa E];simp only[VJ,WE];omega,by show d<=(x.out++ [c]).length;rw[VE,Aa E];omega,aj⟩,ag,av⟩
              case measure=>simp[intOf];omega
      . go_simp
        refine hK _ _ ?_;clear hK K;refine tkA (i:=13) (v:=.int .i64 (L:Int)) ?_;simp only[Act.put,VA,VC,VD];refine tkA (i:=15) (v:=.int .i64 (q:Int)) ?_;simp only[Act.put,VA,VC,VD];refine rdA (i:=8) fun K hK=> ?_
        . go_simp
          refine hK _ _ ?_;clear hK K;refine tkA (i:=16) (v:=.pointer (some ⟨U,q,none⟩)) ?_;simp only[Act.put,VA,VC,VD];refine rdA (i:=17) fun K hK=> ?_
          . go_simp
            refine hK _ _ ?_;clear hK K;refine rdA (i:=18) fun K hK=> ?_
            . go_simp
              refine hK _ _ ?_;clear hK K
              have M:wr.drew.ownsRow (b+1) 5 1 (.slice (some ⟨U,0,none⟩) L ac) L (u8s x.out):=by
               have:=Au (w':=wr.drew) (Aa Z) (fun _ _=>rfl)
               rw[Aa E]at this;exact this
              refine rdA (i:=19) fun K hK=> ?_
              refine step_append_lies _ rfl (.tmp 24) (.tmp 38) 23 rfl (b+1) 5 al (.int .u8 0) 1 1 Tryz.underlying23 ak ax a2 ap rfl (by decide) (.slice (some ⟨U,0,none⟩) L ac) L (u8s x.out) rfl (M.alloc _) ⟨wr.heap.size,0,none⟩ 1 1 [.int .u8 (c:Int)] rfl rfl (cell_one_new wr.drew _ _) (Bc rfl) (by decide) (by unfold maxLen;omega) (by omega) (by simp;omega) _ rfl ?_;intro ae ai a5 T G O af
              obtain⟨ah,a4,I⟩:=IIs.said (c:=c) (w:=wr.drew) (v':=.slice (some ⟨ae,0,none⟩) (L+1) ai) (Aa aa).base (Aa aa).no (Aa au) (Au (Aa Z) (fun _ _=>rfl)) (Au (Aa a1) (fun _ _=>rfl)) (Aa ay) (Aa aw) (Aa az) (fun g Y=>Aa ar g (by have a3:wr.heap.size<=g:=Y;omega)) (by rw[Aa E];exact T) G (by
               rcases O with F|F
               . exact .inl F.symm
               . exact .inr (by rw[F];rfl))
              have ag:=Ab ((Aa ao).trans I);refine hK _ _ ?_;clear hK K I T G O af M;rw[Aa E]at ah;simp only[Act.put,VA,VC,VD];refine tkA (i:=20) (v:=.pointer (some ⟨b,0,none⟩)) ?_;simp only[Act.put,VA,VC,VD];refine tkA (i:=21) (v:=.pointer (some ⟨b,2,none⟩)) ?_;simp only[Act.put,VA,VC,VD];refine rdA (i:=22) fun K hK=> ?_
              go_simp
              refine hK _ _ ?_;clear hK K;refine wpAny_done (by kernel_rfl) ?_ _;go_wp2;go_roundw
              case rel=>exact⟨i+1,{x with out:=x.out++ [c]},by omega,by go_num,Ab ⟨by show (x.out++ [c]).length+_<=_;rw[VE,Aa E];simp only[VJ,WE];omega,by show d<=(x.out++ [c]).length;rw[VE,Aa E];omega,aj⟩,ag,av⟩
              case measure=>simp[intOf];omega
    . go_simp
      refine hK _ _ ?_;clear hK K;refine wpAny_ready (rs:= [4,12]) (by kernel_rfl) (by simp) (AllReady.cons rfl (fun K hK=> ?_) (AllReady.cons rfl (fun K hK=> ?_) AllReady.nil))
      . go_simp
        refine hK _ _ ?_;clear hK K;refine rdA (i:=12) fun K hK=> ?_
        . go_simp
          refine hK _ _ ?_;clear hK K;refine tkA (i:=13) (v:=.int .i64 (L:Int)) ?_;simp only[Act.put,VA,VC,VD];refine tkA (i:=15) (v:=.int .i64 (q:Int)) ?_;simp only[Act.put,VA,VC,VD];refine tkA (i:=16) (v:=.pointer (some ⟨U,q,none⟩)) ?_;simp only[Act.put,VA,VC,VD];refine rdA (i:=17) fun K hK=> ?_
          . go_simp
            refine hK _ _ ?_;clear hK K;refine rdA (i:=18) fun K hK=> ?_
            . go_simp
              refine hK _ _ ?_;clear hK K
              have M:wr.drew.ownsRow (b+1) 5 1 (.slice (some ⟨U,0,none⟩) L ac) L (u8s x.out):=by
               have:=Au (w':=wr.drew) (Aa Z) (fun _ _=>rfl)
               rw[Aa E]at this;exact this
              refine rdA (i:=19) fun K hK=> ?_
              refine step_append_lies _ rfl (.tmp 24) (.tmp 38) 23 rfl (b+1) 5 al (.int .u8 0) 1 1 Tryz.underlying23 ak ax a2 ap rfl (by decide) (.slice (some ⟨U,0,none⟩) L ac) L (u8s x.out) rfl (M.alloc _) ⟨wr.heap.size,0,none⟩ 1 1 [.int .u8 (c:Int)] rfl rfl (cell_one_new wr.drew _ _) (Bc rfl) (by decide) (by unfold maxLen;omega) (by omega) (by simp;omega) _ rfl ?_;intro ae ai a5 T G O af
              obtain⟨ah,a4,I⟩:=IIs.said (c:=c) (w:=wr.drew) (v':=.slice (some ⟨ae,0,none⟩) (L+1) ai) (Aa aa).base (Aa aa).no (Aa au) (Au (Aa Z) (fun _ _=>rfl)) (Au (Aa a1) (fun _ _=>rfl)) (Aa ay) (Aa aw) (Aa az) (fun g Y=>Aa ar g (by have a3:wr.heap.size<=g:=Y;omega)) (by rw[Aa E];exact T) G (by
               rcases O with F|F
               . exact .inl F.symm
               . exact .inr (by rw[F];rfl))
              have ag:=Ab ((Aa ao).trans I);refine hK _ _ ?_;clear hK K I T G O af M;rw[Aa E]at ah;simp only[Act.put,VA,VC,VD];refine tkA (i:=20) (v:=.pointer (some ⟨b,0,none⟩)) ?_;simp only[Act.put,VA,VC,VD];refine tkA (i:=21) (v:=.pointer (some ⟨b,2,none⟩)) ?_;simp only[Act.put,VA,VC,VD];refine rdA (i:=22) fun K hK=> ?_
              go_simp
              refine hK _ _ ?_;clear hK K;refine wpAny_done (by kernel_rfl) ?_ _;go_wp2;go_roundw
              case rel=>exact⟨i+1,{x with out:=x.out++ [c]},by omega,by go_num,Ab ⟨by show (x.out++ [c]).length+_<=_;rw[VE,Aa E];simp only[VJ,WE];omega,by show d<=(x.out++ [c]).length;rw[VE,Aa E];omega,aj⟩,ag,av⟩
              case measure=>simp[intOf];omega
      . go_simp
        refine hK _ _ ?_;clear hK K;refine tkA (i:=13) (v:=.int .i64 (L:Int)) ?_;simp only[Act.put,VA,VC,VD];refine tkA (i:=15) (v:=.int .i64 (q:Int)) ?_;simp only[Act.put,VA,VC,VD];refine tkA (i:=16) (v:=.pointer (some ⟨U,q,none⟩)) ?_;simp only[Act.put,VA,VC,VD];refine wpAny_ready (rs:= [4,17]) (by kernel_rfl) (by simp) (AllReady.cons rfl (fun K hK=> ?_) (AllReady.cons rfl (fun K hK=> ?_) AllReady.nil))
        . go_simp
          refine hK _ _ ?_;clear hK K;refine rdA (i:=17) fun K hK=> ?_
          . go_simp
            refine hK _ _ ?_;clear hK K;refine rdA (i:=18) fun K hK=> ?_
            . go_simp
              refine hK _ _ ?_;clear hK K
              have M:wr.drew.ownsRow (b+1) 5 1 (.slice (some ⟨U,0,none⟩) L ac) L (u8s x.out):=by
               have:=Au (w':=wr.drew) (Aa Z) (fun _ _=>rfl)
               rw[Aa E]at this;exact this
              refine rdA (i:=19) fun K hK=> ?_
              refine step_append_lies _ rfl (.tmp 24) (.tmp 38) 23 rfl (b+1) 5 al (.int .u8 0) 1 1 Tryz.underlying23 ak ax a2 ap rfl (by decide) (.slice (some ⟨U,0,none⟩) L ac) L (u8s x.out) rfl (M.alloc _) ⟨wr.heap.size,0,none⟩ 1 1 [.int .u8 (c:Int)] rfl rfl (cell_one_new wr.drew _ _) (Bc rfl) (by decide) (by unfold maxLen;omega) (by omega) (by simp;omega) _ rfl ?_;intro ae ai a5 T G O af
              obtain⟨ah,a4,I⟩:=IIs.said (c:=c) (w:=wr.drew) (v':=.slice (some ⟨ae,0,none⟩) (L+1) ai) (Aa aa).base (Aa aa).no (Aa au) (Au (Aa Z) (fun _ _=>rfl)) (Au (Aa a1) (fun _ _=>rfl)) (Aa ay) (Aa aw) (Aa az) (fun g Y=>Aa ar g (by have a3:wr.heap.size<=g:=Y;omega)) (by rw[Aa E];exact T) G (by
               rcases O with F|F
               . exact .inl F.symm
               . exact .inr (by rw[F];rfl))
              have ag:=Ab ((Aa ao).trans I);refine hK _ _ ?_;clear hK K I T G O af M;rw[Aa E]at ah;simp only[Act.put,VA,VC,VD];refine tkA (i:=20) (v:=.pointer (some ⟨b,0,none⟩)) ?_;simp only[Act.put,VA,VC,VD];refine tkA (i:=21) (v:=.pointer (some ⟨b,2,none⟩)) ?_;simp only[Act.put,VA,VC,VD];refine rdA (i:=22) fun K hK=> ?_
              go_simp
              refine hK _ _ ?_;clear hK K;refine wpAny_done (by kernel_rfl) ?_ _;go_wp2;go_roundw
              case rel=>exact⟨i+1,{x with out:=x.out++ [c]},by omega,by go_num,Ab ⟨by show (x.out++ [c]).length+_<=_;rw[VE,Aa E];simp only[VJ,WE];omega,by show d<=(x.out++ [c]).length;rw[VE,Aa E];omega,aj⟩,ag,av⟩
              case measure=>simp[intOf];omega
        . go_simp
          refine hK _ _ ?_;clear hK K;refine wpAny_ready (rs:= [4,18]) (by kernel_rfl) (by simp) (AllReady.cons rfl (fun K hK=> ?_) (AllReady.cons rfl (fun K hK=> ?_) AllReady.nil))
          . go_simp
            refine hK _ _ ?_;clear hK K;refine rdA (i:=18) fun K hK=> ?_
            . go_simp
              refine hK _ _ ?_;clear hK K
              have M:wr.drew.ownsRow (b+1) 5 1 (.slice (some ⟨U,0,none⟩) L ac) L (u8s x.out):=by
               have:=Au (w':=wr.drew) (Aa Z) (fun _ _=>rfl)
               rw[Aa E]at this;exact this
              refine rdA (i:=19) fun K hK=> ?_
              refine step_append_lies _ rfl (.tmp 24) (.tmp 38) 23 rfl (b+1) 5 al (.int .u8 0) 1 1 Tryz.underlying23 ak ax a2 ap rfl (by decide) (.slice (some ⟨U,0,none⟩) L ac) L (u8s x.out) rfl (M.alloc _) ⟨wr.heap.size,0,none⟩ 1 1 [.int .u8 (c:Int)] rfl rfl (cell_one_new wr.drew _ _) (Bc rfl) (by decide) (by unfold maxLen;omega) (by omega) (by simp;omega) _ rfl ?_;intro ae ai a5 T G O af
              obtain⟨ah,a4,I⟩:=IIs.said (c:=c) (w:=wr.drew) (v':=.slice (some ⟨ae,0,none⟩) (L+1) ai) (Aa aa).base (Aa aa).no (Aa au) (Au (Aa Z) (fun _ _=>rfl)) (Au (Aa a1) (fun _ _=>rfl)) (Aa ay) (Aa aw) (Aa az) (fun g Y=>Aa ar g (by have a3:wr.heap.size<=g:=Y;omega)) (by rw[Aa E];exact T) G (by
               rcases O with F|F
               . exact .inl F.symm
               . exact .inr (by rw[F];rfl))
              have ag:=Ab ((Aa ao).trans I);refine hK _ _ ?_;clear hK K I T G O af M;rw[Aa E]at ah;simp only[Act.put,VA,VC,VD];refine tkA (i:=20) (v:=.pointer (some ⟨b,0,none⟩)) ?_;simp only[Act.put,VA,VC,VD];refine tkA (i:=21) (v:=.pointer (some ⟨b,2,none⟩)) ?_;simp only[Act.put,VA,VC,VD];refine rdA (i:=22) fun K hK=> ?_
              go_simp
              refine hK _ _ ?_;clear hK K;refine wpAny_done (by kernel_rfl) ?_ _;go_wp2;go_roundw
              case rel=>exact⟨i+1,{x with out:=x.out++ [c]},by omega,by go_num,Ab ⟨by show (x.out++ [c]).length+_<=_;rw[VE,Aa E];simp only[VJ,WE];omega,by show d<=(x.out++ [c]).length;rw[VE,Aa E];omega,aj⟩,ag,av⟩
              case measure=>simp[intOf];omega
          . go_simp
            refine hK _ _ ?_;clear hK K;refine rdA (i:=4) fun K hK=> ?_
            . go_simp
              refine hK _ _ ?_;clear hK K
              have M:wr.drew.ownsRow (b+1) 5 1 (.slice (some ⟨U,0,none⟩) L ac) L (u8s x.out):=by
               have:=Au (w':=wr.drew) (Aa Z) (fun _ _=>rfl)
               rw[Aa E]at this;exact this
              refine rdA (i:=19) fun K hK=> ?_
              refine step_append_lies _ rfl (.tmp 24) (.tmp 38) 23 rfl (b+1) 5 al (.int .u8 0) 1 1 Tryz.underlying23 ak ax a2 ap rfl (by decide) (.slice (some ⟨U,0,none⟩) L ac) L (u8s x.out) rfl (M.alloc _) ⟨wr.heap.size,0,none⟩ 1 1 [.int .u8 (c:Int)] rfl rfl (cell_one_new wr.drew _ _) (Bc rfl) (by decide) (by unfold maxLen;omega) (by omega) (by simp;omega) _ rfl ?_;intro ae ai a5 T G O af
              obtain⟨ah,a4,I⟩:=IIs.said (c:=c) (w:=wr.drew) (v':=.slice (some ⟨ae,0,none⟩) (L+1) ai) (Aa aa).base (Aa aa).no (Aa au) (Au (Aa Z) (fun _ _=>rfl)) (Au (Aa a1) (fun _ _=>rfl)) (Aa ay) (Aa aw) (Aa az) (fun g Y=>Aa ar g (by have a3:wr.heap.size<=g:=Y;omega)) (by rw[Aa E];exact T) G (by
               rcases O with F|F
               . exact .inl F.symm
               . exact .inr (by rw[F];rfl))
              have ag:=Ab ((Aa ao).trans I);refine hK _ _ ?_;clear hK K I T G O af M;rw[Aa E]at ah;simp only[Act.put,VA,VC,VD];refine tkA (i:=20) (v:=.pointer (some ⟨b,0,none⟩)) ?_;simp only[Act.put,VA,VC,VD];refine tkA (i:=21) (v:=.pointer (some ⟨b,2,none⟩)) ?_;simp only[Act.put,VA,VC,VD];refine rdA (i:=22) fun K hK=> ?_
              go_simp
              refine hK _ _ ?_;clear hK K;refine wpAny_done (by kernel_rfl) ?_ _;go_wp2;go_roundw
              case rel=>exact⟨i+1,{x with out:=x.out++ [c]},by omega,by go_num,Ab ⟨by show (x.out++ [c]).length+_<=_;rw[VE,Aa E];simp only[VJ,WE];omega,by show d<=(x.out++ [c]).length;rw[VE,Aa E];omega,aj⟩,ag,av⟩
              case measure=>simp[intOf];omega
    . go_simp
      refine hK _ _ ?_;clear hK K;refine tkA (i:=13) (v:=.int .i64 (L:Int)) ?_;simp only[Act.put,VA,VC,VD];refine tkA (i:=15) (v:=.int .i64 (q:Int)) ?_;simp only[Act.put,VA,VC,VD];refine wpAny_ready (rs:= [4,8]) (by kernel_rfl) (by simp) (AllReady.cons rfl (fun K hK=> ?_) (AllReady.cons rfl (fun K hK=> ?_) AllReady.nil))
      . go_simp
        refine hK _ _ ?_;clear hK K;refine rdA (i:=8) fun K hK=> ?_
        . go_simp
          refine hK _ _ ?_;clear hK K;refine tkA (i:=16) (v:=.pointer (some ⟨U,q,none⟩)) ?_;simp only[Act.put,VA,VC,VD];refine rdA (i:=17) fun K hK=> ?_
          . go_simp
            refine hK _ _ ?_;clear hK K;refine rdA (i:=18) fun K hK=> ?_
            . go_simp
              refine hK _ _ ?_;clear hK K
              have M:wr.drew.ownsRow (b+1) 5 1 (.slice (some ⟨U,0,none⟩) L ac) L (u8s x.out):=by
               have:=Au (w':=wr.drew) (Aa Z) (fun _ _=>rfl)
               rw[Aa E]at this;exact this
              refine rdA (i:=19) fun K hK=> ?_
              refine step_append_lies _ rfl (.tmp 24) (.tmp 38) 23 rfl (b+1) 5 al (.int .u8 0) 1 1 Tryz.underlying23 ak ax a2 ap rfl (by decide) (.slice (some ⟨U,0,none⟩) L ac) L (u8s x.out) rfl (M.alloc _) ⟨wr.heap.size,0,none⟩ 1 1 [.int .u8 (c:Int)] rfl rfl (cell_one_new wr.drew _ _) (Bc rfl) (by decide) (by unfold maxLen;omega) (by omega) (by simp;omega) _ rfl ?_;intro ae ai a5 T G O af
              obtain⟨ah,a4,I⟩:=IIs.said (c:=c) (w:=wr.drew) (v':=.slice (some ⟨ae,0,none⟩) (L+1) ai) (Aa aa).base (Aa aa).no (Aa au) (Au (Aa Z) (fun _ _=>rfl)) (Au (Aa a1) (fun _ _=>rfl)) (Aa ay) (Aa aw) (Aa az) (fun g Y=>Aa ar g (by have a3:wr.heap.size<=g:=Y;omega)) (by rw[Aa E];exact T) G (by
               rcases O with F|F
               . exact .inl F.symm
               . exact .inr (by rw[F];rfl))
              have ag:=Ab ((Aa ao).trans I);refine hK _ _ ?_;clear hK K I T G O af M;rw[Aa E]at ah;simp only[Act.put,VA,VC,VD];refine tkA (i:=20) (v:=.pointer (some ⟨b,0,none⟩)) ?_;simp only[Act.put,VA,VC,VD];refine tkA (i:=21) (v:=.pointer (some ⟨b,2,none⟩)) ?_;simp only[Act.put,VA,VC,VD];refine rdA (i:=22) fun K hK=> ?_
              go_simp
              refine hK _ _ ?_;clear hK K;refine wpAny_done (by kernel_rfl) ?_ _;go_wp2;go_roundw
              case rel=>exact⟨i+1,{x with out:=x.out++ [c]},by omega,by go_num,Ab ⟨by show (x.out++ [c]).length+_<=_;rw[VE,Aa E];simp only[VJ,WE];omega,by show d<=(x.out++ [c]).length;rw[VE,Aa E];omega,aj⟩,ag,av⟩
              case measure=>simp[intOf];omega
      . go_simp
        refine hK _ _ ?_;clear hK K;refine tkA (i:=16) (v:=.pointer (some ⟨U,q,none⟩)) ?_;simp only[Act.put,VA,VC,VD];refine wpAny_ready (rs:= [4,17]) (by kernel_rfl) (by simp) (AllReady.cons rfl (fun K hK=> ?_) (AllReady.cons rfl (fun K hK=> ?_) AllReady.nil))
        . go_simp
          refine hK _ _ ?_;clear hK K;refine rdA (i:=17) fun K hK=> ?_
          . go_simp
            refine hK _ _ ?_;clear hK K;refine rdA (i:=18) fun K hK=> ?_
            . go_simp
              refine hK _ _ ?_;clear hK K
              have M:wr.drew.ownsRow (b+1) 5 1 (.slice (some ⟨U,0,none⟩) L ac) L (u8s x.out):=by
               have:=Au (w':=wr.drew) (Aa Z) (fun _ _=>rfl)
               rw[Aa E]at this;exact this
              refine rdA (i:=19) fun K hK=> ?_
              refine step_append_lies _ rfl (.tmp 24) (.tmp 38) 23 rfl (b+1) 5 al (.int .u8 0) 1 1 Tryz.underlying23 ak ax a2 ap rfl (by decide) (.slice (some ⟨U,0,none⟩) L ac) L (u8s x.out) rfl (M.alloc _) ⟨wr.heap.size,0,none⟩ 1 1 [.int .u8 (c:Int)] rfl rfl (cell_one_new wr.drew _ _) (Bc rfl) (by decide) (by unfold maxLen;omega) (by omega) (by simp;omega) _ rfl ?_;intro ae ai a5 T G O af
              obtain⟨ah,a4,I⟩:=IIs.said (c:=c) (w:=wr.drew) (v':=.slice (some ⟨ae,0,none⟩) (L+1) ai) (Aa aa).base (Aa aa).no (Aa au) (Au (Aa Z) (fun _ _=>rfl)) (Au (Aa a1) (fun _ _=>rfl)) (Aa ay) (Aa aw) (Aa az) (fun g Y=>Aa ar g (by have a3:wr.heap.size<=g:=Y;omega)) (by rw[Aa E];exact T) G (by
               rcases O with F|F
               . exact .inl F.symm
               . exact .inr (by rw[F];rfl))
              have ag:=Ab ((Aa ao).trans I);refine hK _ _ ?_;clear hK K I T G O af M;rw[Aa E]at ah;simp only[Act.put,VA,VC,VD];refine tkA (i:=20) (v:=.pointer (some ⟨b,0,none⟩)) ?_;simp only[Act.put,VA,VC,VD];refine tkA (i:=21) (v:=.pointer (some ⟨b,2,none⟩)) ?_;simp only[Act.put,VA,VC,VD];refine rdA (i:=22) fun K hK=> ?_
              go_simp
              refine hK _ _ ?_;clear hK K;refine wpAny_done (by kernel_rfl) ?_ _;go_wp2;go_roundw
              case rel=>exact⟨i+1,{x with out:=x.out++ [c]},by omega,by go_num,Ab ⟨by show (x.out++ [c]).length+_<=_;rw[VE,Aa E];simp only[VJ,WE];omega,by show d<=(x.out++ [c]).length;rw[VE,Aa E];omega,aj⟩,ag,av⟩
              case measure=>simp[intOf];omega
        . go_simp
          refine hK _ _ ?_;clear hK K;refine wpAny_ready (rs:= [4,18]) (by kernel_rfl) (by simp) (AllReady.cons rfl (fun K hK=> ?_) (AllReady.cons rfl (fun K hK=> ?_) AllReady.nil))
          . go_simp
            refine hK _ _ ?_;clear hK K;refine rdA (i:=18) fun K hK=> ?_
            . go_simp
              refine hK _ _ ?_;clear hK K
              have M:wr.drew.ownsRow (b+1) 5 1 (.slice (some ⟨U,0,none⟩) L ac) L (u8s x.out):=by
               have:=Au (w':=wr.drew) (Aa Z) (fun _ _=>rfl)
               rw[Aa E]at this;exact this
              refine rdA (i:=19) fun K hK=> ?_
              refine step_append_lies _ rfl (.tmp 24) (.tmp 38) 23 rfl (b+1) 5 al (.int .u8 0) 1 1 Tryz.underlying23 ak ax a2 ap rfl (by decide) (.slice (some ⟨U,0,none⟩) L ac) L (u8s x.out) rfl (M.alloc _) ⟨wr.heap.size,0,none⟩ 1 1 [.int .u8 (c:Int)] rfl rfl (cell_one_new wr.drew _ _) (Bc rfl) (by decide) (by unfold maxLen;omega) (by omega) (by simp;omega) _ rfl ?_;intro ae ai a5 T G O af
              obtain⟨ah,a4,I⟩:=IIs.said (c:=c) (w:=wr.drew) (v':=.slice (some ⟨ae,0,none⟩) (L+1) ai) (Aa aa).base (Aa aa).no (Aa au) (Au (Aa Z) (fun _ _=>rfl)) (Au (Aa a1) (fun _ _=>rfl)) (Aa ay) (Aa aw) (Aa az) (fun g Y=>Aa ar g (by have a3:wr.heap.size<=g:=Y;omega)) (by rw[Aa E];exact T) G (by
               rcases O with F|F
               . exact .inl F.symm
               . exact .inr (by rw[F];rfl))
              have ag:=Ab ((Aa ao).trans I);refine hK _ _ ?_;clear hK K I T G O af M;rw[Aa E]at ah;simp only[Act.put,VA,VC,VD];refine tkA (i:=20) (v:=.pointer (some ⟨b,0,none⟩)) ?_;simp only[Act.put,VA,VC,VD];refine tkA (i:=21) (v:=.pointer (some ⟨b,2,none⟩)) ?_;simp only[Act.put,VA,VC,VD];refine rdA (i:=22) fun K hK=> ?_
              go_simp
              refine hK _ _ ?_;clear hK K;refine wpAny_done (by kernel_rfl) ?_ _;go_wp2;go_roundw
              case rel=>exact⟨i+1,{x with out:=x.out++ [c]},by omega,by go_num,Ab ⟨by show (x.out++ [c]).length+_<=_;rw[VE,Aa E];simp only[VJ,WE];omega,by show d<=(x.out++ [c]).length;rw[VE,Aa E];omega,aj⟩,ag,av⟩
              case measure=>simp[intOf];omega
          . go_simp
            refine hK _ _ ?_;clear hK K;refine rdA (i:=4) fun K hK=> ?_
            . go_simp
              refine hK _ _ ?_;clear hK K
              have M:wr.drew.ownsRow (b+1) 5 1 (.slice (some ⟨U,0,none⟩) L ac) L (u8s x.out):=by
               have:=Au (w':=wr.drew) (Aa Z) (fun _ _=>rfl)
               rw[Aa E]at this;exact this
              refine rdA (i:=19) fun K hK=> ?_
              refine step_append_lies _ rfl (.tmp 24) (.tmp 38) 23 rfl (b+1) 5 al (.int .u8 0) 1 1 Tryz.underlying23 ak ax a2 ap rfl (by decide) (.slice (some ⟨U,0,none⟩) L ac) L (u8s x.out) rfl (M.alloc _) ⟨wr.heap.size,0,none⟩ 1 1 [.int .u8 (c:Int)] rfl rfl (cell_one_new wr.drew _ _) (Bc rfl) (by decide) (by unfold maxLen;omega) (by omega) (by simp;omega) _ rfl ?_;intro ae ai a5 T G O af
              obtain⟨ah,a4,I⟩:=IIs.said (c:=c) (w:=wr.drew) (v':=.slice (some ⟨ae,0,none⟩) (L+1) ai) (Aa aa).base (Aa aa).no (Aa au) (Au (Aa Z) (fun _ _=>rfl)) (Au (Aa a1) (fun _ _=>rfl)) (Aa ay) (Aa aw) (Aa az) (fun g Y=>Aa ar g (by have a3:wr.heap.size<=g:=Y;omega)) (by rw[Aa E];exact T) G (by
               rcases O with F|F
               . exact .inl F.symm
               . exact .inr (by rw[F];rfl))
              have ag:=Ab ((Aa ao).trans I);refine hK _ _ ?_;clear hK K I T G O af M;rw[Aa E]at ah;simp only[Act.put,VA,VC,VD];refine tkA (i:=20) (v:=.pointer (some ⟨b,0,none⟩)) ?_;simp only[Act.put,VA,VC,VD];refine tkA (i:=21) (v:=.pointer (some ⟨b,2,none⟩)) ?_;simp only[Act.put,VA,VC,VD];refine rdA (i:=22) fun K hK=> ?_
              go_simp
              refine hK _ _ ?_;clear hK K;refine wpAny_done (by kernel_rfl) ?_ _;go_wp2;go_roundw
              case rel=>exact⟨i+1,{x with out:=x.out++ [c]},by omega,by go_num,Ab ⟨by show (x.out++ [c]).length+_<=_;rw[VE,Aa E];simp only[VJ,WE];omega,by show d<=(x.out++ [c]).length;rw[VE,Aa E];omega,aj⟩,ag,av⟩
              case measure=>simp[intOf];omega
  . obtain rfl:i=k:=by omega
    have a9:Hid (V=x):=Ab (by rw[Aa bg,XW];rfl);clear bg;go_wp2;go_end0
    exact .inl ⟨by rw[Aa a9];exact aj,rfl,by rw[Aa a9];exact Aa bf⟩
end Go.Proofs.YtleocpdblhbimaaGreatDoor
namespace Go.Proofs.YtleocpdblhbimaaGreatDoor
set_option linter.unusedVariables false
theorem GC:∀k,k<=29->1<=(Dg k).1/\(Dg k).1<=40000/\(Dg k).2<=13:=by decide
theorem Y0:∀j,j<=28->1<=(Df (257+j)).1/\(Df (257+j)).1<=300/\(Df (257+j)).2<=5:=by decide
theorem GB (k:Nat)(F:257<=k)(E:k<=285):1<=(Df k).1/\(Df k).1<=300/\(Df k).2<=5:=by
 obtain⟨j,rfl⟩:∃j,k=257+j:=⟨k-257,by omega⟩
 exact Y0 j (by omega)
theorem Z1e (row:List Bool)(l:List Int)(u:US)(E:(Me row l u).2.e=0):1<=(Me row l u).1/\(Me row l u).1<=80000:=by
 unfold Me at E ⊢
 split
 . rename_i hc
   rw[if_pos hc]at E;exact absurd E hc
 . rename_i hc
   rw[if_neg hc]at E
   split
   . rename_i F
     rw[if_pos F]at E;exact absurd (show (8:Int)=0 from E) (by decide)
   . rename_i F
     obtain⟨M,H,G⟩:=GC (uplace l row u).1 (by omega);have:=Nm row (Dg (uplace l row u).1).2 (uplace l row u).2
     have I:2^(Dg (uplace l row u).1).2<=2^13:=VO (by decide) G;have:(2:Nat)^13=8192:=by decide
     dsimp only;omega
end Go.Proofs.YtleocpdblhbimaaGreatDoor
namespace Go.Proofs.YtleocpdblhbimaaGreatDoor
open Go.RowKit
set_option linter.unusedVariables false
set_option maxRecDepth 100000
def NY (n b:Nat)(w:World):Nat:=8*n+1-((w.cell? ⟨b,1,none⟩).map (fun x=>(intOf x).toNat)).getD 0
theorem Mb {No:Nat->Prop}{B b n:Nat}{w:World}{R G E:Value}{u:US}(F:IIs No B w b R G E u):NY n b w=8*n+1-u.p:=by
 unfold NY;rw[F.cell.2.1];simp[intOf]
end Go.Proofs.YtleocpdblhbimaaGreatDoor
