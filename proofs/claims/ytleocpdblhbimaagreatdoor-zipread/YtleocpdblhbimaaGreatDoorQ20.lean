import Derived.Test.YtleocpdblhbimaaGreatDoorQ19
set_option linter.unusedSimpArgs false
set_option linter.unusedVariables false
set_option maxRecDepth 100000
set_option maxHeartbeats 4000000
namespace Go.Proofs.YtleocpdblhbimaaGreatDoor
open Go.RowKit
theorem Z21 (No:Nat->Prop)(B b d k:Nat)(R bb a9:Value)(u:US)(w:World)(F:IIs No B w b R bb a9 u)(bw:u.e=0)(cg:u.out.length<=3000)(c7:1<=d)(cq:d<=80000)(ck:k<=65535)(b3:∀g,w.heap.size<=g->¬No g)(V:US)(bu:Hid (Jh d k u=V)):
 Calls Tryz.prog 268 #[.pointer (some ⟨b,0,none⟩),.int .i64 (k:Int),.int .i64 (d:Int)] w fun e w'=>Got No B w b R bb a9 (.tuple #[]) V e w':=by
 obtain⟨ov,kv,c2,bv,bd,a6,bh,bk,bm,bj⟩:=F.rows;obtain⟨cp,cw,rfl⟩:=An a6;have H:=Ab F;have cj:=Ab bw;have ay:=Ab b3;have cm:=Ab (Rq No B b k R bb a9 u w F cg ck);have ci:=Ab (Cf 9 w);have a7:=Aa bu;unfold Jh at a7;clear F bd a6 bh bk bm bj bv b3 bw bu
 by_cases bf:u.out.length<d
 . rw[if_pos bf]at a7;have b0:(u.out.length:Int)<(d:Int):=by omega
   have a8:=Ab a7;clear a7;go_enter Tryz.func268,Tryz.ntmps268
   go_wp2_with fail
   refine(Aa ci).mono ?_;rintro e w' ⟨rfl,rfl⟩;go_wp2;exact⟨rfl,.inr ⟨by rw[<-Aa a8];exact(by decide:(9:Int)≠0),by rw[<-Aa a8],Bl.refl _ _ _⟩⟩
 rw[if_neg bf]at a7;have b0:¬(u.out.length:Int)<(d:Int):=by omega
 have a8:=Ab a7;clear a7;go_enter Tryz.func268,Tryz.ntmps268
 go_wp2_with fail
 refine(Aa cm).mono ?_;rintro e cy ⟨b4,Y⟩;rw[b4];clear b4
 rcases Y with ⟨hl,rfl⟩|⟨hl,rfl⟩
 rotate_left
 . have ba:Hid ({u with e:=2}=V):=Ab (by rw[<-Aa a8,if_pos hl]);clear hl;go_wp2;exact⟨rfl,.inr ⟨by rw[<-Aa ba];exact(by decide:(2:Int)≠0),by rw[<-Aa ba],Bl.refl _ _ _⟩⟩
 have b5:Hid (V=ucopy d k u):=Ab (by rw[<-Aa a8,if_neg (by omega)]);have cd:=Ab hl;have b9:=Ab bf;clear hl bf b0 c2;go_wp2;go_loopw [18] (fun bn wr=>∃(i:Nat) (x:US),i<=k/\bn=.int .i64 (i:Int)/\Hid (x.out.length+(k-i)<=3000/\d<=x.out.length/\x.e=0)/\Hid (IUp No B w b R bb a9 x wr)/\Hid (V=ucopy d (k-i) x)) (fun bn _=>k-(intOf bn).toNat)
 case atStart=>exact⟨0,u,VH _,rfl,Ab ⟨by have:=Aa cd;omega,by have:=Aa b9;omega,Aa cj⟩,Ab (IUp.refl (Aa H)),b5⟩
 case round=>
  obtain⟨i,x,hi,rfl,b8,bi,bc⟩:=hrel;obtain⟨cn,co,aj⟩:=Aa b8
  by_cases cv:i<k
  . have cz:(i:Int)<(k:Int):=by omega
    have bg:=(Aa bi).is;have ct:=(Aa bi).below.size;have c8:=bg.lt;obtain⟨av,aw,ak,a1,al⟩:=info_parts Gz;obtain⟨ov,kv,c2,bv,bd,a6,bh,bk,bm,bj⟩:=bg.rows;obtain⟨U,aa,rfl,_,da⟩:=Ba a6 (by omega);obtain⟨q,bo⟩:=exq (x.out.length-d);obtain⟨c,hc⟩:=exq (x.out.getD q 0)
    have cu:wr.cell? ⟨U,q,none⟩=some (.int .u8 (c:Int)):=by
     have:=a6.cells rfl q (.int .u8 (c:Int)) (by
      unfold u8s;rw[List.getElem?_map,VP (by omega)];rw[<-hc];simp[List.getD,VP (show q<x.out.length by omega)])
     by_cases ce:q=0<;>simpa[Addr.add,ce]using this
    have bz:Fd c x= {x with out:=x.out++ [c]}:=by unfold Fd;rw[if_pos aj,if_neg (by omega)]
    have ax:Hid (V=ucopy d (k-(i+1)) {x with out:=x.out++ [c]}):=Ab (by
     obtain⟨j,b7⟩:∃j,k-i=j+1:=⟨k-i-1,by omega⟩
     rw[Aa bc,b7,show k-(i+1)=j by omega,<-bz,<-hc,<-bo];show (if x.e=0 then ucopy d j (Fd (x.out.getD (x.out.length-d) 0) x)else x)=_
     rw[if_pos aj])
    obtain⟨L,bq⟩:=exq (x.out.length);rw[bq]at c2 cn co bo;have E:=Ab bq;have ac:=Ab a6;have au:=Ab bh;have ar:=Ab bd;have ap:=Ab bk;have az:=Ab bm;have ao:=Ab bj;have Z:=Ab bg;have c9:(L:Int)-(d:Int)=(q:Int):=by omega
    have c5:(q:Int)<(L:Int):=by omega
    have c6:IntKind.i64.wrap (q:Int)=(q:Int):=Gj q (by omega);have a2:Hid (IUp No B w b R bb a9 x wr.drew):=Ab ((Aa bi).drewN 1);clear a6 bh bd bk bm bj bg bq bc b5 a8 bz hc bo;go_wp2;refine wp_region_any (by kernel_rfl) ?_
    try (change wpAny _ _ _ _ _ _ _ (World.drew _))
    refine tkA (i:=0) (v:=.pointer (some ⟨b,0,none⟩)) ?_;simp only[Act.put,VA,VC,VD];refine tkA (i:=1) (v:=.pointer (some ⟨b,0,none⟩)) ?_;simp only[Act.put,VA,VC,VD];refine tkA (i:=2) (v:=.pointer (some ⟨b,0,none⟩)) ?_;simp only[Act.put,VA,VC,VD];refine tkA (i:=3) (v:=.pointer (some ⟨b,2,none⟩)) ?_;simp only[Act.put,VA,VC,VD];refine tkA (i:=5) (v:=.pointer (some ⟨b,0,none⟩)) ?_;simp only[Act.put,VA,VC,VD];refine tkA (i:=6) (v:=.pointer (some ⟨b,0,none⟩)) ?_;simp only[Act.put,VA,VC,VD];refine tkA (i:=7) (v:=.pointer (some ⟨b,2,none⟩)) ?_;simp only[Act.put,VA,VC,VD];refine tkA (i:=9) (v:=.pointer (some ⟨b,0,none⟩)) ?_;simp only[Act.put,VA,VC,VD];refine tkA (i:=10) (v:=.pointer (some ⟨b,0,none⟩)) ?_;simp only[Act.put,VA,VC,VD];refine tkA (i:=11) (v:=.pointer (some ⟨b,2,none⟩)) ?_;simp only[Act.put,VA,VC,VD];refine tkA (i:=14) (v:=.int .i64 (d:Int)) ?_;simp only[Act.put,VA,VC,VD];refine wpAny_ready (rs:= [4,8,12]) (by kernel_rfl) (by simp) (AllReady.cons rfl (fun K hK=> ?_) (AllReady.cons rfl (fun K hK=> ?_) (AllReady.cons rfl (fun K hK=> ?_) AllReady.nil)))
    . go_simp
      refine hK _ _ ?_;clear hK K;refine wpAny_ready (rs:= [8,12]) (by kernel_rfl) (by simp) (AllReady.cons rfl (fun K hK=> ?_) (AllReady.cons rfl (fun K hK=> ?_) AllReady.nil))
      . go_simp
        refine hK _ _ ?_;clear hK K;refine rdA (i:=12) fun K hK=> ?_
        . go_simp
          refine hK _ _ ?_;clear hK K;refine tkA (i:=13) (v:=.int .i64 (L:Int)) ?_;simp only[Act.put,VA,VC,VD];refine tkA (i:=15) (v:=.int .i64 (q:Int)) ?_;simp only[Act.put,VA,VC,VD];refine tkA (i:=16) (v:=.pointer (some ⟨U,q,none⟩)) ?_;simp only[Act.put,VA,VC,VD];refine rdA (i:=17) fun K hK=> ?_
          . go_simp
            refine hK _ _ ?_;clear hK K;refine rdA (i:=18) fun K hK=> ?_
            . go_simp
              refine hK _ _ ?_;clear hK K
              have T:wr.drew.ownsRow (b+1) 5 1 (.slice (some ⟨U,0,none⟩) L aa) L (u8s x.out):=by
               have:=Au (w':=wr.drew) (Aa ac) (fun _ _=>rfl)
               rw[Aa E]at this;exact this
              refine rdA (i:=19) fun K hK=> ?_
              refine step_append_lies _ rfl (.tmp 24) (.tmp 38) 23 rfl (b+1) 5 av (.int .u8 0) 1 1 Tryz.underlying23 aw ak a1 al rfl (by decide) (.slice (some ⟨U,0,none⟩) L aa) L (u8s x.out) rfl (T.alloc _) ⟨wr.heap.size,0,none⟩ 1 1 [.int .u8 (c:Int)] rfl rfl (cell_one_new wr.drew _ _) (Bc rfl) (by decide) (by unfold maxLen;omega) (by omega) (by simp;omega) _ rfl ?_;intro ah ag a3 I G O ae
              obtain⟨af,a4,M⟩:=IIs.said (c:=c) (w:=wr.drew) (v':=.slice (some ⟨ah,0,none⟩) (L+1) ag) (Aa Z).base (Aa Z).no (Aa ar) (Au (Aa ac) (fun _ _=>rfl)) (Au (Aa au) (fun _ _=>rfl)) (Aa ap) (Aa az) (Aa ao) (fun g Y=>Aa ay g (by have a5:wr.heap.size<=g:=Y;omega)) (by rw[Aa E];exact I) G (by
               rcases O with F|F
               . exact .inl F.symm
               . exact .inr (by rw[F];rfl))
              have ai:=Ab ((Aa a2).trans M);refine hK _ _ ?_;clear hK K M I G O ae T;rw[Aa E]at af;simp only[Act.put,VA,VC,VD];refine tkA (i:=20) (v:=.pointer (some ⟨b,0,none⟩)) ?_;simp only[Act.put,VA,VC,VD];refine tkA (i:=21) (v:=.pointer (some ⟨b,2,none⟩)) ?_;simp only[Act.put,VA,VC,VD];refine rdA (i:=22) fun K hK=> ?_
              go_simp
              refine hK _ _ ?_;clear hK K;refine wpAny_done (by kernel_rfl) ?_ _;go_wp2;go_roundw
              case rel=>exact⟨i+1,{x with out:=x.out++ [c]},by omega,by go_num,Ab ⟨by show (x.out++ [c]).length+_<=_;rw[VE,Aa E];simp only[VJ,WE];omega,by show d<=(x.out++ [c]).length;rw[VE,Aa E];omega,aj⟩,ai,ax⟩
              case measure=>simp[intOf];omega
      . go_simp
        refine hK _ _ ?_;clear hK K;refine tkA (i:=13) (v:=.int .i64 (L:Int)) ?_;simp only[Act.put,VA,VC,VD];refine tkA (i:=15) (v:=.int .i64 (q:Int)) ?_;simp only[Act.put,VA,VC,VD];refine rdA (i:=8) fun K hK=> ?_
        . go_simp
          refine hK _ _ ?_;clear hK K;refine tkA (i:=16) (v:=.pointer (some ⟨U,q,none⟩)) ?_;simp only[Act.put,VA,VC,VD];refine rdA (i:=17) fun K hK=> ?_
          . go_simp
            refine hK _ _ ?_;clear hK K;refine rdA (i:=18) fun K hK=> ?_
            . go_simp
              refine hK _ _ ?_;clear hK K
              have T:wr.drew.ownsRow (b+1) 5 1 (.slice (some ⟨U,0,none⟩) L aa) L (u8s x.out):=by
               have:=Au (w':=wr.drew) (Aa ac) (fun _ _=>rfl)
               rw[Aa E]at this;exact this
              refine rdA (i:=19) fun K hK=> ?_
              refine step_append_lies _ rfl (.tmp 24) (.tmp 38) 23 rfl (b+1) 5 av (.int .u8 0) 1 1 Tryz.underlying23 aw ak a1 al rfl (by decide) (.slice (some ⟨U,0,none⟩) L aa) L (u8s x.out) rfl (T.alloc _) ⟨wr.heap.size,0,none⟩ 1 1 [.int .u8 (c:Int)] rfl rfl (cell_one_new wr.drew _ _) (Bc rfl) (by decide) (by unfold maxLen;omega) (by omega) (by simp;omega) _ rfl ?_;intro ah ag a3 I G O ae
              obtain⟨af,a4,M⟩:=IIs.said (c:=c) (w:=wr.drew) (v':=.slice (some ⟨ah,0,none⟩) (L+1) ag) (Aa Z).base (Aa Z).no (Aa ar) (Au (Aa ac) (fun _ _=>rfl)) (Au (Aa au) (fun _ _=>rfl)) (Aa ap) (Aa az) (Aa ao) (fun g Y=>Aa ay g (by have a5:wr.heap.size<=g:=Y;omega)) (by rw[Aa E];exact I) G (by
               rcases O with F|F
               . exact .inl F.symm
               . exact .inr (by rw[F];rfl))
              have ai:=Ab ((Aa a2).trans M);refine hK _ _ ?_;clear hK K M I G O ae T;rw[Aa E]at af;simp only[Act.put,VA,VC,VD];refine tkA (i:=20) (v:=.pointer (some ⟨b,0,none⟩)) ?_;simp only[Act.put,VA,VC,VD];refine tkA (i:=21) (v:=.pointer (some ⟨b,2,none⟩)) ?_;simp only[Act.put,VA,VC,VD];refine rdA (i:=22) fun K hK=> ?_
              go_simp
              refine hK _ _ ?_;clear hK K;refine wpAny_done (by kernel_rfl) ?_ _;go_wp2;go_roundw
              case rel=>exact⟨i+1,{x with out:=x.out++ [c]},by omega,by go_num,Ab ⟨by show (x.out++ [c]).length+_<=_;rw[VE,Aa E];simp only[VJ,WE];omega,by show d<=(x.out++ [c]).length;rw[VE,Aa E];omega,aj⟩,ai,ax⟩
              case measure=>simp[intOf];omega
    . go_simp
      refine hK _ _ ?_;clear hK K;refine wpAny_ready (rs:= [4,12]) (by kernel_rfl) (by simp) (AllReady.cons rfl (fun K hK=> ?_) (AllReady.cons rfl (fun K hK=> ?_) AllReady.nil))
      . go_simp
        refine hK _ _ ?_;clear hK K;refine rdA (i:=12) fun K hK=> ?_
        . go_simp
          refine hK _ _ ?_;clear hK K;refine tkA (i:=13) (v:=.int .i64 (L:Int)) ?_;simp only[Act.put,VA,VC,VD];refine tkA (i:=15) (v:=.int .i64 (q:Int)) ?_;simp only[Act.put,VA,VC,VD];refine tkA (i:=16) (v:=.pointer (some ⟨U,q,none⟩)) ?_;simp only[Act.put,VA,VC,VD];refine rdA (i:=17) fun K hK=> ?_
          . go_simp
            refine hK _ _ ?_;clear hK K;refine rdA (i:=18) fun K hK=> ?_
            . go_simp
              refine hK _ _ ?_;clear hK K
              have T:wr.drew.ownsRow (b+1) 5 1 (.slice (some ⟨U,0,none⟩) L aa) L (u8s x.out):=by
               have:=Au (w':=wr.drew) (Aa ac) (fun _ _=>rfl)
               rw[Aa E]at this;exact this
              refine rdA (i:=19) fun K hK=> ?_
              refine step_append_lies _ rfl (.tmp 24) (.tmp 38) 23 rfl (b+1) 5 av (.int .u8 0) 1 1 Tryz.underlying23 aw ak a1 al rfl (by decide) (.slice (some ⟨U,0,none⟩) L aa) L (u8s x.out) rfl (T.alloc _) ⟨wr.heap.size,0,none⟩ 1 1 [.int .u8 (c:Int)] rfl rfl (cell_one_new wr.drew _ _) (Bc rfl) (by decide) (by unfold maxLen;omega) (by omega) (by simp;omega) _ rfl ?_;intro ah ag a3 I G O ae
              obtain⟨af,a4,M⟩:=IIs.said (c:=c) (w:=wr.drew) (v':=.slice (some ⟨ah,0,none⟩) (L+1) ag) (Aa Z).base (Aa Z).no (Aa ar) (Au (Aa ac) (fun _ _=>rfl)) (Au (Aa au) (fun _ _=>rfl)) (Aa ap) (Aa az) (Aa ao) (fun g Y=>Aa ay g (by have a5:wr.heap.size<=g:=Y;omega)) (by rw[Aa E];exact I) G (by
               rcases O with F|F
               . exact .inl F.symm
               . exact .inr (by rw[F];rfl))
              have ai:=Ab ((Aa a2).trans M);refine hK _ _ ?_;clear hK K M I G O ae T;rw[Aa E]at af;simp only[Act.put,VA,VC,VD];refine tkA (i:=20) (v:=.pointer (some ⟨b,0,none⟩)) ?_;simp only[Act.put,VA,VC,VD];refine tkA (i:=21) (v:=.pointer (some ⟨b,2,none⟩)) ?_;simp only[Act.put,VA,VC,VD];refine rdA (i:=22) fun K hK=> ?_
              go_simp
              refine hK _ _ ?_;clear hK K;refine wpAny_done (by kernel_rfl) ?_ _;go_wp2;go_roundw
              case rel=>exact⟨i+1,{x with out:=x.out++ [c]},by omega,by go_num,Ab ⟨by show (x.out++ [c]).length+_<=_;rw[VE,Aa E];simp only[VJ,WE];omega,by show d<=(x.out++ [c]).length;rw[VE,Aa E];omega,aj⟩,ai,ax⟩
              case measure=>simp[intOf];omega
      . go_simp
        refine hK _ _ ?_;clear hK K;refine tkA (i:=13) (v:=.int .i64 (L:Int)) ?_;simp only[Act.put,VA,VC,VD];refine tkA (i:=15) (v:=.int .i64 (q:Int)) ?_;simp only[Act.put,VA,VC,VD];refine tkA (i:=16) (v:=.pointer (some ⟨U,q,none⟩)) ?_;simp only[Act.put,VA,VC,VD];refine wpAny_ready (rs:= [4,17]) (by kernel_rfl) (by simp) (AllReady.cons rfl (fun K hK=> ?_) (AllReady.cons rfl (fun K hK=> ?_) AllReady.nil))
        . go_simp
          refine hK _ _ ?_;clear hK K;refine rdA (i:=17) fun K hK=> ?_
          . go_simp
            refine hK _ _ ?_;clear hK K;refine rdA (i:=18) fun K hK=> ?_
            . go_simp
              refine hK _ _ ?_;clear hK K
              have T:wr.drew.ownsRow (b+1) 5 1 (.slice (some ⟨U,0,none⟩) L aa) L (u8s x.out):=by
               have:=Au (w':=wr.drew) (Aa ac) (fun _ _=>rfl)
               rw[Aa E]at this;exact this
              refine rdA (i:=19) fun K hK=> ?_
              refine step_append_lies _ rfl (.tmp 24) (.tmp 38) 23 rfl (b+1) 5 av (.int .u8 0) 1 1 Tryz.underlying23 aw ak a1 al rfl (by decide) (.slice (some ⟨U,0,none⟩) L aa) L (u8s x.out) rfl (T.alloc _) ⟨wr.heap.size,0,none⟩ 1 1 [.int .u8 (c:Int)] rfl rfl (cell_one_new wr.drew _ _) (Bc rfl) (by decide) (by unfold maxLen;omega) (by omega) (by simp;omega) _ rfl ?_;intro ah ag a3 I G O ae
              obtain⟨af,a4,M⟩:=IIs.said (c:=c) (w:=wr.drew) (v':=.slice (some ⟨ah,0,none⟩) (L+1) ag) (Aa Z).base (Aa Z).no (Aa ar) (Au (Aa ac) (fun _ _=>rfl)) (Au (Aa au) (fun _ _=>rfl)) (Aa ap) (Aa az) (Aa ao) (fun g Y=>Aa ay g (by have a5:wr.heap.size<=g:=Y;omega)) (by rw[Aa E];exact I) G (by
               rcases O with F|F
               . exact .inl F.symm
               . exact .inr (by rw[F];rfl))
              have ai:=Ab ((Aa a2).trans M);refine hK _ _ ?_;clear hK K M I G O ae T;rw[Aa E]at af;simp only[Act.put,VA,VC,VD];refine tkA (i:=20) (v:=.pointer (some ⟨b,0,none⟩)) ?_;simp only[Act.put,VA,VC,VD];refine tkA (i:=21) (v:=.pointer (some ⟨b,2,none⟩)) ?_;simp only[Act.put,VA,VC,VD];refine rdA (i:=22) fun K hK=> ?_
              go_simp
              refine hK _ _ ?_;clear hK K;refine wpAny_done (by kernel_rfl) ?_ _;go_wp2;go_roundw
              case rel=>exact⟨i+1,{x with out:=x.out++ [c]},by omega,by go_num,Ab ⟨by show (x.out++ [c]).length+_<=_;rw[VE,Aa E];simp only[VJ,WE];omega,by show d<=(x.out++ [c]).length;rw[VE,Aa E];omega,aj⟩,ai,ax⟩
              case measure=>simp[intOf];omega
        . go_simp
          refine hK _ _ ?_;clear hK K;refine wpAny_ready (rs:= [4,18]) (by kernel_rfl) (by simp) (AllReady.cons rfl (fun K hK=> ?_) (AllReady.cons rfl (fun K hK=> ?_) AllReady.nil))
          . go_simp
            refine hK _ _ ?_;clear hK K;refine rdA (i:=18) fun K hK=> ?_
            . go_simp
              refine hK _ _ ?_;clear hK K
              have T:wr.drew.ownsRow (b+1) 5 1 (.slice (some ⟨U,0,none⟩) L aa) L (u8s x.out):=by
               have:=Au (w':=wr.drew) (Aa ac) (fun _ _=>rfl)
               rw[Aa E]at this;exact this
              refine rdA (i:=19) fun K hK=> ?_
              refine step_append_lies _ rfl (.tmp 24) (.tmp 38) 23 rfl (b+1) 5 av (.int .u8 0) 1 1 Tryz.underlying23 aw ak a1 al rfl (by decide) (.slice (some ⟨U,0,none⟩) L aa) L (u8s x.out) rfl (T.alloc _) ⟨wr.heap.size,0,none⟩ 1 1 [.int .u8 (c:Int)] rfl rfl (cell_one_new wr.drew _ _) (Bc rfl) (by decide) (by unfold maxLen;omega) (by omega) (by simp;omega) _ rfl ?_;intro ah ag a3 I G O ae
              obtain⟨af,a4,M⟩:=IIs.said (c:=c) (w:=wr.drew) (v':=.slice (some ⟨ah,0,none⟩) (L+1) ag) (Aa Z).base (Aa Z).no (Aa ar) (Au (Aa ac) (fun _ _=>rfl)) (Au (Aa au) (fun _ _=>rfl)) (Aa ap) (Aa az) (Aa ao) (fun g Y=>Aa ay g (by have a5:wr.heap.size<=g:=Y;omega)) (by rw[Aa E];exact I) G (by
               rcases O with F|F
               . exact .inl F.symm
               . exact .inr (by rw[F];rfl))
              have ai:=Ab ((Aa a2).trans M);refine hK _ _ ?_;clear hK K M I G O ae T;rw[Aa E]at af;simp only[Act.put,VA,VC,VD];refine tkA (i:=20) (v:=.pointer (some ⟨b,0,none⟩)) ?_;simp only[Act.put,VA,VC,VD];refine tkA (i:=21) (v:=.pointer (some ⟨b,2,none⟩)) ?_;simp only[Act.put,VA,VC,VD];refine rdA (i:=22) fun K hK=> ?_
              go_simp
              refine hK _ _ ?_;clear hK K;refine wpAny_done (by kernel_rfl) ?_ _;go_wp2;go_roundw
              case rel=>exact⟨i+1,{x with out:=x.out++ [c]},by omega,by go_num,Ab ⟨by show (x.out++ [c]).length+_<=_;rw[VE,Aa E];simp only[VJ,WE];omega,by show d<=(x.out++ [c]).length;rw[VE,Aa E];omega,aj⟩,ai,ax⟩
              case measure=>simp[intOf];omega
          . go_simp
            refine hK _ _ ?_;clear hK K;refine rdA (i:=4) fun K hK=> ?_
            . go_simp
              refine hK _ _ ?_;clear hK K
              have T:wr.drew.ownsRow (b+1) 5 1 (.slice (some ⟨U,0,none⟩) L aa) L (u8s x.out):=by
               have:=Au (w':=wr.drew) (Aa ac) (fun _ _=>rfl)
               rw[Aa E]at this;exact this
              refine rdA (i:=19) fun K hK=> ?_
              refine step_append_lies _ rfl (.tmp 24) (.tmp 38) 23 rfl (b+1) 5 av (.int .u8 0) 1 1 Tryz.underlying23 aw ak a1 al rfl (by decide) (.slice (some ⟨U,0,none⟩) L aa) L (u8s x.out) rfl (T.alloc _) ⟨wr.heap.size,0,none⟩ 1 1 [.int .u8 (c:Int)] rfl rfl (cell_one_new wr.drew _ _) (Bc rfl) (by decide) (by unfold maxLen;omega) (by omega) (by simp;omega) _ rfl ?_;intro ah ag a3 I G O ae
              obtain⟨af,a4,M⟩:=IIs.said (c:=c) (w:=wr.drew) (v':=.slice (some ⟨ah,0,none⟩) (L+1) ag) (Aa Z).base (Aa Z).no (Aa ar) (Au (Aa ac) (fun _ _=>rfl)) (Au (Aa au) (fun _ _=>rfl)) (Aa ap) (Aa az) (Aa ao) (fun g Y=>Aa ay g (by have a5:wr.heap.size<=g:=Y;omega)) (by rw[Aa E];exact I) G (by
               rcases O with F|F
               . exact .inl F.symm
               . exact .inr (by rw[F];rfl))
              have ai:=Ab ((Aa a2).trans M);refine hK _ _ ?_;clear hK K M I G O ae T;rw[Aa E]at af;simp only[Act.put,VA,VC,VD];refine tkA (i:=20) (v:=.pointer (some ⟨b,0,none⟩)) ?_;simp only[Act.put,VA,VC,VD];refine tkA (i:=21) (v:=.pointer (some ⟨b,2,none⟩)) ?_;simp only[Act.put,VA,VC,VD];refine rdA (i:=22) fun K hK=> ?_
              go_simp
              refine hK _ _ ?_;clear hK K;refine wpAny_done (by kernel_rfl) ?_ _;go_wp2;go_roundw
              case rel=>exact⟨i+1,{x with out:=x.out++ [c]},by omega,by go_num,Ab ⟨by show (x.out++ [c]).length+_<=_;rw[VE,Aa E];simp only[VJ,WE];omega,by show d<=(x.out++ [c]).length;rw[VE,Aa E];omega,aj⟩,ai,ax⟩
              case measure=>simp[intOf];omega
    . go_simp
      refine hK _ _ ?_;clear hK K;refine tkA (i:=13) (v:=.int .i64 (L:Int)) ?_;simp only[Act.put,VA,VC,VD];refine tkA (i:=15) (v:=.int .i64 (q:Int)) ?_;simp only[Act.put,VA,VC,VD];refine wpAny_ready (rs:= [4,8]) (by kernel_rfl) (by simp) (AllReady.cons rfl (fun K hK=> ?_) (AllReady.cons rfl (fun K hK=> ?_) AllReady.nil))
      . go_simp
        refine hK _ _ ?_;clear hK K;refine rdA (i:=8) fun K hK=> ?_
        . go_simp
          refine hK _ _ ?_;clear hK K;refine tkA (i:=16) (v:=.pointer (some ⟨U,q,none⟩)) ?_;simp only[Act.put,VA,VC,VD];refine rdA (i:=17) fun K hK=> ?_
          . go_simp
            refine hK _ _ ?_;clear hK K;refine rdA (i:=18) fun K hK=> ?_
            . go_simp
              refine hK _ _ ?_;clear hK K
              have T:wr.drew.ownsRow (b+1) 5 1 (.slice (some ⟨U,0,none⟩) L aa) L (u8s x.out):=by
               have:=Au (w':=wr.drew) (Aa ac) (fun _ _=>rfl)
               rw[Aa E]at this;exact this
              refine rdA (i:=19) fun K hK=> ?_
              refine step_append_lies _ rfl (.tmp 24) (.tmp 38) 23 rfl (b+1) 5 av (.int .u8 0) 1 1 Tryz.underlying23 aw ak a1 al rfl (by decide) (.slice (some ⟨U,0,none⟩) L aa) L (u8s x.out) rfl (T.alloc _) ⟨wr.heap.size,0,none⟩ 1 1 [.int .u8 (c:Int)] rfl rfl (cell_one_new wr.drew _ _) (Bc rfl) (by decide) (by unfold maxLen;omega) (by omega) (by simp;omega) _ rfl ?_;intro ah ag a3 I G O ae
              obtain⟨af,a4,M⟩:=IIs.said (c:=c) (w:=wr.drew) (v':=.slice (some ⟨ah,0,none⟩) (L+1) ag) (Aa Z).base (Aa Z).no (Aa ar) (Au (Aa ac) (fun _ _=>rfl)) (Au (Aa au) (fun _ _=>rfl)) (Aa ap) (Aa az) (Aa ao) (fun g Y=>Aa ay g (by have a5:wr.heap.size<=g:=Y;omega)) (by rw[Aa E];exact I) G (by
               rcases O with F|F
               . exact .inl F.symm
               . exact .inr (by rw[F];rfl))
              have ai:=Ab ((Aa a2).trans M);refine hK _ _ ?_;clear hK K M I G O ae T;rw[Aa E]at af;simp only[Act.put,VA,VC,VD];refine tkA (i:=20) (v:=.pointer (some ⟨b,0,none⟩)) ?_;simp only[Act.put,VA,VC,VD];refine tkA (i:=21) (v:=.pointer (some ⟨b,2,none⟩)) ?_;simp only[Act.put,VA,VC,VD];refine rdA (i:=22) fun K hK=> ?_
              go_simp
              refine hK _ _ ?_;clear hK K;refine wpAny_done (by kernel_rfl) ?_ _;go_wp2;go_roundw
              case rel=>exact⟨i+1,{x with out:=x.out++ [c]},by omega,by go_num,Ab ⟨by show (x.out++ [c]).length+_<=_;rw[VE,Aa E];simp only[VJ,WE];omega,by show d<=(x.out++ [c]).length;rw[VE,Aa E];omega,aj⟩,ai,ax⟩
              case measure=>simp[intOf];omega
      . go_simp
        refine hK _ _ ?_;clear hK K;refine tkA (i:=16) (v:=.pointer (some ⟨U,q,none⟩)) ?_;simp only[Act.put,VA,VC,VD];refine wpAny_ready (rs:= [4,17]) (by kernel_rfl) (by simp) (AllReady.cons rfl (fun K hK=> ?_) (AllReady.cons rfl (fun K hK=> ?_) AllReady.nil))
        . go_simp
          refine hK _ _ ?_;clear hK K;refine rdA (i:=17) fun K hK=> ?_
          . go_simp
            refine hK _ _ ?_;clear hK K;refine rdA (i:=18) fun K hK=> ?_
            . go_simp
              refine hK _ _ ?_;clear hK K
              have T:wr.drew.ownsRow (b+1) 5 1 (.slice (some ⟨U,0,none⟩) L aa) L (u8s x.out):=by
               have:=Au (w':=wr.drew) (Aa ac) (fun _ _=>rfl)
               rw[Aa E]at this;exact this
              refine rdA (i:=19) fun K hK=> ?_
              refine step_append_lies _ rfl (.tmp 24) (.tmp 38) 23 rfl (b+1) 5 av (.int .u8 0) 1 1 Tryz.underlying23 aw ak a1 al rfl (by decide) (.slice (some ⟨U,0,none⟩) L aa) L (u8s x.out) rfl (T.alloc _) ⟨wr.heap.size,0,none⟩ 1 1 [.int .u8 (c:Int)] rfl rfl (cell_one_new wr.drew _ _) (Bc rfl) (by decide) (by unfold maxLen;omega) (by omega) (by simp;omega) _ rfl ?_;intro ah ag a3 I G O ae
              obtain⟨af,a4,M⟩:=IIs.said (c:=c) (w:=wr.drew) (v':=.slice (some ⟨ah,0,none⟩) (L+1) ag) (Aa Z).base (Aa Z).no (Aa ar) (Au (Aa ac) (fun _ _=>rfl)) (Au (Aa au) (fun _ _=>rfl)) (Aa ap) (Aa az) (Aa ao) (fun g Y=>Aa ay g (by have a5:wr.heap.size<=g:=Y;omega)) (by rw[Aa E];exact I) G (by
               rcases O with F|F
               . exact .inl F.symm
               . exact .inr (by rw[F];rfl))
              have ai:=Ab ((Aa a2).trans M);refine hK _ _ ?_;clear hK K M I G O ae T;rw[Aa E]at af;simp only[Act.put,VA,VC,VD];refine tkA (i:=20) (v:=.pointer (some ⟨b,0,none⟩)) ?_;simp only[Act.put,VA,VC,VD];refine tkA (i:=21) (v:=.pointer (some ⟨b,2,none⟩)) ?_;simp only[Act.put,VA,VC,VD];refine rdA (i:=22) fun K hK=> ?_
              go_simp
              refine hK _ _ ?_;clear hK K;refine wpAny_done (by kernel_rfl) ?_ _;go_wp2;go_roundw
              case rel=>exact⟨i+1,{x with out:=x.out++ [c]},by omega,by go_num,Ab ⟨by show (x.out++ [c]).length+_<=_;rw[VE,Aa E];simp only[VJ,WE];omega,by show d<=(x.out++ [c]).length;rw[VE,Aa E];omega,aj⟩,ai,ax⟩
              case measure=>simp[intOf];omega
        . go_simp
          refine hK _ _ ?_;clear hK K;refine wpAny_ready (rs:= [4,18]) (by kernel_rfl) (by simp) (AllReady.cons rfl (fun K hK=> ?_) (AllReady.cons rfl (fun K hK=> ?_) AllReady.nil))
          . go_simp
            refine hK _ _ ?_;clear hK K;refine rdA (i:=18) fun K hK=> ?_
            . go_simp
              refine hK _ _ ?_;clear hK K
              have T:wr.drew.ownsRow (b+1) 5 1 (.slice (some ⟨U,0,none⟩) L aa) L (u8s x.out):=by
               have:=Au (w':=wr.drew) (Aa ac) (fun _ _=>rfl)
               rw[Aa E]at this;exact this
              refine rdA (i:=19) fun K hK=> ?_
              refine step_append_lies _ rfl (.tmp 24) (.tmp 38) 23 rfl (b+1) 5 av (.int .u8 0) 1 1 Tryz.underlying23 aw ak a1 al rfl (by decide) (.slice (some ⟨U,0,none⟩) L aa) L (u8s x.out) rfl (T.alloc _) ⟨wr.heap.size,0,none⟩ 1 1 [.int .u8 (c:Int)] rfl rfl (cell_one_new wr.drew _ _) (Bc rfl) (by decide) (by unfold maxLen;omega) (by omega) (by simp;omega) _ rfl ?_;intro ah ag a3 I G O ae
              obtain⟨af,a4,M⟩:=IIs.said (c:=c) (w:=wr.drew) (v':=.slice (some ⟨ah,0,none⟩) (L+1) ag) (Aa Z).base (Aa Z).no (Aa ar) (Au (Aa ac) (fun _ _=>rfl)) (Au (Aa au) (fun _ _=>rfl)) (Aa ap) (Aa az) (Aa ao) (fun g Y=>Aa ay g (by have a5:wr.heap.size<=g:=Y;omega)) (by rw[Aa E];exact I) G (by
               rcases O with F|F
               . exact .inl F.symm
               . exact .inr (by rw[F];rfl))
              have ai:=Ab ((Aa a2).trans M);refine hK _ _ ?_;clear hK K M I G O ae T;rw[Aa E]at af;simp only[Act.put,VA,VC,VD];refine tkA (i:=20) (v:=.pointer (some ⟨b,0,none⟩)) ?_;simp only[Act.put,VA,VC,VD];refine tkA (i:=21) (v:=.pointer (some ⟨b,2,none⟩)) ?_;simp only[Act.put,VA,VC,VD];refine rdA (i:=22) fun K hK=> ?_
              go_simp
              refine hK _ _ ?_;clear hK K;refine wpAny_done (by kernel_rfl) ?_ _;go_wp2;go_roundw
              case rel=>exact⟨i+1,{x with out:=x.out++ [c]},by omega,by go_num,Ab ⟨by show (x.out++ [c]).length+_<=_;rw[VE,Aa E];simp only[VJ,WE];omega,by show d<=(x.out++ [c]).length;rw[VE,Aa E];omega,aj⟩,ai,ax⟩
              case measure=>simp[intOf];omega
          . go_simp
            refine hK _ _ ?_;clear hK K;refine rdA (i:=4) fun K hK=> ?_
            . go_simp
              refine hK _ _ ?_;clear hK K
              have T:wr.drew.ownsRow (b+1) 5 1 (.slice (some ⟨U,0,none⟩) L aa) L (u8s x.out):=by
               have:=Au (w':=wr.drew) (Aa ac) (fun _ _=>rfl)
               rw[Aa E]at this;exact this
              refine rdA (i:=19) fun K hK=> ?_
              refine step_append_lies _ rfl (.tmp 24) (.tmp 38) 23 rfl (b+1) 5 av (.int .u8 0) 1 1 Tryz.underlying23 aw ak a1 al rfl (by decide) (.slice (some ⟨U,0,none⟩) L aa) L (u8s x.out) rfl (T.alloc _) ⟨wr.heap.size,0,none⟩ 1 1 [.int .u8 (c:Int)] rfl rfl (cell_one_new wr.drew _ _) (Bc rfl) (by decide) (by unfold maxLen;omega) (by omega) (by simp;omega) _ rfl ?_;intro ah ag a3 I G O ae
              obtain⟨af,a4,M⟩:=IIs.said (c:=c) (w:=wr.drew) (v':=.slice (some ⟨ah,0,none⟩) (L+1) ag) (Aa Z).base (Aa Z).no (Aa ar) (Au (Aa ac) (fun _ _=>rfl)) (Au (Aa au) (fun _ _=>rfl)) (Aa ap) (Aa az) (Aa ao) (fun g Y=>Aa ay g (by have a5:wr.heap.size<=g:=Y;omega)) (by rw[Aa E];exact I) G (by
               rcases O with F|F
               . exact .inl F.symm
               . exact .inr (by rw[F];rfl))
              have ai:=Ab ((Aa a2).trans M);refine hK _ _ ?_;clear hK K M I G O ae T;rw[Aa E]at af;simp only[Act.put,VA,VC,VD];refine tkA (i:=20) (v:=.pointer (some ⟨b,0,none⟩)) ?_;simp only[Act.put,VA,VC,VD];refine tkA (i:=21) (v:=.pointer (some ⟨b,2,none⟩)) ?_;simp only[Act.put,VA,VC,VD];refine rdA (i:=22) fun K hK=> ?_
              go_simp
              refine hK _ _ ?_;clear hK K;refine wpAny_done (by kernel_rfl) ?_ _;go_wp2;go_roundw
              case rel=>exact⟨i+1,{x with out:=x.out++ [c]},by omega,by go_num,Ab ⟨by show (x.out++ [c]).length+_<=_;rw[VE,Aa E];simp only[VJ,WE];omega,by show d<=(x.out++ [c]).length;rw[VE,Aa E];omega,aj⟩,ai,ax⟩
              case measure=>simp[intOf];omega
  . obtain rfl:i=k:=by omega
    have ba:Hid (V=x):=Ab (by rw[Aa bc,XW];rfl);clear bc;go_wp2;go_end0
    exact .inl ⟨by rw[Aa ba];exact aj,rfl,by rw[Aa ba];exact Aa bi⟩
theorem GC:∀k,k<=29->1<=(Dg k).1/\(Dg k).1<=40000/\(Dg k).2<=13:=by decide
theorem Y0:∀j,j<=28->1<=(Df (257+j)).1/\(Df (257+j)).1<=300/\(Df (257+j)).2<=5:=by decide
theorem GB (k:Nat)(E:257<=k)(F:k<=285):1<=(Df k).1/\(Df k).1<=300/\(Df k).2<=5:=by
 obtain⟨j,rfl⟩:∃j,k=257+j:=⟨k-257,by omega⟩
 exact Y0 j (by omega)
theorem Z1e (row:List Bool)(l:List Int)(u:US)(E:(Me row l u).2.e=0):1<=(Me row l u).1/\(Me row l u).1<=80000:=by
 unfold Me at E ⊢
 split
 . rename_i hc
   rw[if_pos hc]at E;exact absurd E hc
 . rename_i hc
   rw[if_neg hc]at E
   split
   . rename_i F
     rw[if_pos F]at E;exact absurd (show (8:Int)=0 from E) (by decide)
   . rename_i F
     obtain⟨I,M,G⟩:=GC (uplace l row u).1 (by omega);have:=Nm row (Dg (uplace l row u).1).2 (uplace l row u).2
     have H:2^(Dg (uplace l row u).1).2<=2^13:=VO (by decide) G;have:(2:Nat)^13=8192:=by decide
     dsimp only;omega
def NY (n b:Nat)(w:World):Nat:=8*n+1-((w.cell? ⟨b,1,none⟩).map (fun x=>(intOf x).toNat)).getD 0
theorem Mb {No:Nat->Prop}{B b n:Nat}{w:World}{R G F:Value}{u:US}(E:IIs No B w b R G F u):NY n b w=8*n+1-u.p:=by
 unfold NY;rw[E.cell.2.1];simp[intOf]
end Go.Proofs.YtleocpdblhbimaaGreatDoor
