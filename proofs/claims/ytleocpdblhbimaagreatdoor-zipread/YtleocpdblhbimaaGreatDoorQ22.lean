import Derived.Test.YtleocpdblhbimaaGreatDoorQ21
set_option linter.unusedSimpArgs false
set_option maxHeartbeats 4000000
namespace Go.Proofs.YtleocpdblhbimaaGreatDoor
open Go.RowKit
set_option linter.unusedVariables false
set_option maxRecDepth 100000
theorem Z21 (No:Nat->Prop)(B b d k:Nat)(R a4 a3:Value)(u:US)(w:World)(F:IIs No B w b R a4 a3 u)(bo:u.e=0)(bu:u.out.length<=3000)(cg:1<=d)(ct:d<=80000)(b8:k<=65535)(bn:∀g,w.heap.size<=g->¬No g)(V:US)(bm:Hid (Jh d k u=V)):
 Calls Tryz.prog 268 #[.pointer (some ⟨b,0,none⟩),.int .i64 (k:Int),.int .i64 (d:Int)] w fun e w'=>Got No B w b R a4 a3 (.tuple #[]) V e w':=by
 obtain⟨ov,kv,c2,bq,bb,a1,bd,ba,a7,a9⟩:=F.rows;obtain⟨cq,ck,rfl⟩:=An a1;have H:=Ab F;have b7:=Ab bo;have ak:=Ab bn;have b4:=Ab (Rq No B b k R a4 a3 u w F bu b8);have b3:=Ab (Cf 9 w);have a0:=Aa bm;unfold Jh at a0;clear F bb a1 bd ba a7 a9 bq bn bo bm
 by_cases a6:u.out.length<d
 . rw[if_pos a6]at a0;have bk:(u.out.length:Int)<(d:Int):=by omega
   have a2:=Ab a0;clear a0;go_enter Tryz.func268,Tryz.ntmps268
   go_wp2_with fail
   refine(Aa b3).mono ?_;rintro e w' ⟨rfl,rfl⟩;go_wp2;exact⟨rfl,.inr ⟨by rw[<-Aa a2];exact(by decide:(9:Int)≠0),by rw[<-Aa a2],Bl.refl _ _ _⟩⟩
 rw[if_neg a6]at a0;have bk:¬(u.out.length:Int)<(d:Int):=by omega
 have a2:=Ab a0;clear a0;go_enter Tryz.func268,Tryz.ntmps268
 go_wp2_with fail
 refine(Aa b4).mono ?_;rintro e ci ⟨bi,Y⟩;rw[bi];clear bi
 rcases Y with ⟨hl,rfl⟩|⟨hl,rfl⟩
 rotate_left
 . have a5:Hid ({u with e:=2}=V):=Ab (by rw[<-Aa a2,if_pos hl]);clear hl;go_wp2;exact⟨rfl,.inr ⟨by rw[<-Aa a5];exact(by decide:(2:Int)≠0),by rw[<-Aa a5],Bl.refl _ _ _⟩⟩
 have bj:Hid (V=ucopy d k u):=Ab (by rw[<-Aa a2,if_neg (by omega)]);have cd:=Ab hl;have bw:=Ab a6;clear hl a6 bk c2;go_wp2;go_loopw [18] (fun bg wr=>∃(i:Nat) (x:US),i<=k/\bg=.int .i64 (i:Int)/\Hid (x.out.length+(k-i)<=3000/\d<=x.out.length/\x.e=0)/\Hid (IUp No B w b R a4 a3 x wr)/\Hid (V=ucopy d (k-i) x)) (fun bg _=>k-(intOf bg).toNat)
 case atStart=>exact⟨0,u,VH _,rfl,Ab ⟨by have:=Aa cd;omega,by have:=Aa bw;omega,Aa b7⟩,Ab (IUp.refl (Aa H)),bj⟩
 case round=>
  obtain⟨i,x,hi,rfl,b0,be,a8⟩:=hrel;obtain⟨b5,bv,ai⟩:=Aa b0
  by_cases cm:i<k
  . have cu:(i:Int)<(k:Int):=by omega
    have bc:=(Aa be).is;have co:=(Aa be).below.size;have cj:=bc.lt;obtain⟨aq,al,au,ar,ao⟩:=info_parts Gz;obtain⟨ov,kv,c2,bq,bb,a1,bd,ba,a7,a9⟩:=bc.rows;obtain⟨U,aa,rfl,_,cp⟩:=Ba a1 (by omega);obtain⟨q,bf⟩:=exq (x.out.length-d);obtain⟨c,hc⟩:=exq (x.out.getD q 0)
    have ch:wr.cell? ⟨U,q,none⟩=some (.int .u8 (c:Int)):=by
     have:=a1.cells rfl q (.int .u8 (c:Int)) (by
      unfold u8s;rw[List.getElem?_map,VP (by omega)];rw[<-hc];simp[List.getD,VP (show q<x.out.length by omega)])
     by_cases bz:q=0<;>simpa[Addr.add,bz]using this
    have bt:Fd c x= {x with out:=x.out++ [c]}:=by unfold Fd;rw[if_pos ai,if_neg (by omega)]
    have av:Hid (V=ucopy d (k-(i+1)) {x with out:=x.out++ [c]}):=Ab (by
     obtain⟨j,b9⟩:∃j,k-i=j+1:=⟨k-i-1,by omega⟩
     rw[Aa a8,b9,show k-(i+1)=j by omega,<-bt,<-hc,<-bf];show (if x.e=0 then ucopy d j (Fd (x.out.getD (x.out.length-d) 0) x)else x)=_
     rw[if_pos ai])
    obtain⟨L,bh⟩:=exq (x.out.length);rw[bh]at c2 b5 bv bf;have E:=Ab bh;have Z:=Ab a1;have an:=Ab bd;have aw:=Ab bb;have aj:=Ab ba;have as:=Ab a7;have ap:=Ab a9;have ab:=Ab bc;have cl:(L:Int)-(d:Int)=(q:Int):=by omega
    have ce:(q:Int)<(L:Int):=by omega
    have cn:IntKind.i64.wrap (q:Int)=(q:Int):=Gj q (by omega);have am:Hid (IUp No B w b R a4 a3 x wr.drew):=Ab ((Aa be).drewN 1);clear a1 bd bb ba a7 a9 bc bh a8 bj a2 bt hc bf;go_wp2;refine wp_region_any (by kernel_rfl) ?_
    try (change wpAny _ _ _ _ _ _ _ (World.drew _))
    refine tkA (i:=0) (v:=.pointer (some ⟨b,0,none⟩)) ?_;simp only[Act.put,VA,VC,VD];refine tkA (i:=1) (v:=.pointer (some ⟨b,0,none⟩)) ?_;simp only[Act.put,VA,VC,VD];refine tkA (i:=2) (v:=.pointer (some ⟨b,0,none⟩)) ?_;simp only[Act.put,VA,VC,VD];refine tkA (i:=3) (v:=.pointer (some ⟨b,2,none⟩)) ?_;simp only[Act.put,VA,VC,VD];refine tkA (i:=5) (v:=.pointer (some ⟨b,0,none⟩)) ?_;simp only[Act.put,VA,VC,VD];refine tkA (i:=6) (v:=.pointer (some ⟨b,0,none⟩)) ?_;simp only[Act.put,VA,VC,VD];refine tkA (i:=7) (v:=.pointer (some ⟨b,2,none⟩)) ?_;simp only[Act.put,VA,VC,VD];refine tkA (i:=9) (v:=.pointer (some ⟨b,0,none⟩)) ?_;simp only[Act.put,VA,VC,VD];refine tkA (i:=10) (v:=.pointer (some ⟨b,0,none⟩)) ?_;simp only[Act.put,VA,VC,VD];refine tkA (i:=11) (v:=.pointer (some ⟨b,2,none⟩)) ?_;simp only[Act.put,VA,VC,VD];refine tkA (i:=14) (v:=.int .i64 (d:Int)) ?_;simp only[Act.put,VA,VC,VD];refine wpAny_ready (rs:= [4,8,12]) (by kernel_rfl) (by simp) (AllReady.cons rfl (fun K hK=> ?_) (AllReady.cons rfl (fun K hK=> ?_) (AllReady.cons rfl (fun K hK=> ?_) AllReady.nil)))
    . go_simp
      refine hK _ _ ?_;clear hK K;refine wpAny_ready (rs:= [8,12]) (by kernel_rfl) (by simp) (AllReady.cons rfl (fun K hK=> ?_) (AllReady.cons rfl (fun K hK=> ?_) AllReady.nil))
      . go_simp
        refine hK _ _ ?_;clear hK K;refine rdA (i:=12) fun K hK=> ?_
        . go_simp
          refine hK _ _ ?_;clear hK K;refine tkA (i:=13) (v:=.int .i64 (L:Int)) ?_;simp only[Act.put,VA,VC,VD];refine tkA (i:=15) (v:=.int .i64 (q:Int)) ?_;simp only[Act.put,VA,VC,VD];refine tkA (i:=16) (v:=.pointer (some ⟨U,q,none⟩)) ?_;simp only[Act.put,VA,VC,VD];refine rdA (i:=17) fun K hK=> ?_
          . go_simp
            refine hK _ _ ?_;clear hK K;refine rdA (i:=18) fun K hK=> ?_
            . go_simp
              refine hK _ _ ?_;clear hK K
              have I:wr.drew.ownsRow (b+1) 5 1 (.slice (some ⟨U,0,none⟩) L aa) L (u8s x.out):=by
               have:=Au (w':=wr.drew) (Aa Z) (fun _ _=>rfl)
               rw[Aa E]at this;exact this
              refine rdA (i:=19) fun K hK=> ?_
              refine step_append_lies _ rfl (.tmp 24) (.tmp 38) 23 rfl (b+1) 5 aq (.int .u8 0) 1 1 Tryz.underlying23 al au ar ao rfl (by decide) (.slice (some ⟨U,0,none⟩) L aa) L (u8s x.out) rfl (I.alloc _) ⟨wr.heap.size,0,none⟩ 1 1 [.int .u8 (c:Int)] rfl rfl (cell_one_new wr.drew _ _) (Bc rfl) (by decide) (by unfold maxLen;omega) (by omega) (by simp;omega) _ rfl ?_;intro ae ag ay M O T ac
              obtain⟨af,az,G⟩:=IIs.said (c:=c) (w:=wr.drew) (v':=.slice (some ⟨ae,0,none⟩) (L+1) ag) (Aa ab).base (Aa ab).no (Aa aw) (Au (Aa Z) (fun _ _=>rfl)) (Au (Aa an) (fun _ _=>rfl)) (Aa aj) (Aa as) (Aa ap) (fun g Y=>Aa ak g (by have ax:wr.heap.size<=g:=Y;omega)) (by rw[Aa E];exact M) O (by
               rcases T with F|F
               . exact .inl F.symm
               . exact .inr (by rw[F];rfl))
              have ah:=Ab ((Aa am).trans G);refine hK _ _ ?_;clear hK K G M O T ac I;rw[Aa E]at af;simp only[Act.put,VA,VC,VD];refine tkA (i:=20) (v:=.pointer (some ⟨b,0,none⟩)) ?_;simp only[Act.put,VA,VC,VD];refine tkA (i:=21) (v:=.pointer (some ⟨b,2,none⟩)) ?_;simp only[Act.put,VA,VC,VD];refine rdA (i:=22) fun K hK=> ?_
              go_simp
              refine hK _ _ ?_;clear hK K;refine wpAny_done (by kernel_rfl) ?_ _;go_wp2;go_roundw
              case rel=>exact⟨i+1,{x with out:=x.out++ [c]},by omega,by go_num,Ab ⟨by show (x.out++ [c]).length+_<=_;rw[VE,Aa E];simp only[VJ,WE];omega,by show d<=(x.out++ [c]).length;rw[VE,Aa E];omega,ai⟩,ah,av⟩
              case measure=>simp[intOf];omega
      . go_simp
        refine hK _ _ ?_;clear hK K;refine tkA (i:=13) (v:=.int .i64 (L:Int)) ?_;simp only[Act.put,VA,VC,VD];refine tkA (i:=15) (v:=.int .i64 (q:Int)) ?_;simp only[Act.put,VA,VC,VD];refine rdA (i:=8) fun K hK=> ?_
        . go_simp
          refine hK _ _ ?_;clear hK K;refine tkA (i:=16) (v:=.pointer (some ⟨U,q,none⟩)) ?_;simp only[Act.put,VA,VC,VD];refine rdA (i:=17) fun K hK=> ?_
          . go_simp
            refine hK _ _ ?_;clear hK K;refine rdA (i:=18) fun K hK=> ?_
            . go_simp
              refine hK _ _ ?_;clear hK K
              have I:wr.drew.ownsRow (b+1) 5 1 (.slice (some ⟨U,0,none⟩) L aa) L (u8s x.out):=by
               have:=Au (w':=wr.drew) (Aa Z) (fun _ _=>rfl)
               rw[Aa E]at this;exact this
              refine rdA (i:=19) fun K hK=> ?_
              refine step_append_lies _ rfl (.tmp 24) (.tmp 38) 23 rfl (b+1) 5 aq (.int .u8 0) 1 1 Tryz.underlying23 al au ar ao rfl (by decide) (.slice (some ⟨U,0,none⟩) L aa) L (u8s x.out) rfl (I.alloc _) ⟨wr.heap.size,0,none⟩ 1 1 [.int .u8 (c:Int)] rfl rfl (cell_one_new wr.drew _ _) (Bc rfl) (by decide) (by unfold maxLen;omega) (by omega) (by simp;omega) _ rfl ?_;intro ae ag ay M O T ac
              obtain⟨af,az,G⟩:=IIs.said (c:=c) (w:=wr.drew) (v':=.slice (some ⟨ae,0,none⟩) (L+1) ag) (Aa ab).base (Aa ab).no (Aa aw) (Au (Aa Z) (fun _ _=>rfl)) (Au (Aa an) (fun _ _=>rfl)) (Aa aj) (Aa as) (Aa ap) (fun g Y=>Aa ak g (by have ax:wr.heap.size<=g:=Y;omega)) (by rw[Aa E];exact M) O (by
               rcases T with F|F
               . exact .inl F.symm
               . exact .inr (by rw[F];rfl))
              have ah:=Ab ((Aa am).trans G);refine hK _ _ ?_;clear hK K G M O T ac I;rw[Aa E]at af;simp only[Act.put,VA,VC,VD];refine tkA (i:=20) (v:=.pointer (some ⟨b,0,none⟩)) ?_;simp only[Act.put,VA,VC,VD];refine tkA (i:=21) (v:=.pointer (some ⟨b,2,none⟩)) ?_;simp only[Act.put,VA,VC,VD];refine rdA (i:=22) fun K hK=> ?_
              go_simp
              refine hK _ _ ?_;clear hK K;refine wpAny_done (by kernel_rfl) ?_ _;go_wp2;go_roundw
              case rel=>exact⟨i+1,{x with out:=x.out++ [c]},by omega,by go_num,Ab ⟨by show (x.out++ [c]).length+_<=_;rw[VE,Aa E];simp only[VJ,WE];omega,by show d<=(x.out++ [c]).length;rw[VE,Aa E];omega,ai⟩,ah,av⟩
              case measure=>simp[intOf];omega
    . go_simp
      refine hK _ _ ?_;clear hK K;refine wpAny_ready (rs:= [4,12]) (by kernel_rfl) (by simp) (AllReady.cons rfl (fun K hK=> ?_) (AllReady.cons rfl (fun K hK=> ?_) AllReady.nil))
      . go_simp
        refine hK _ _ ?_;clear hK K;refine rdA (i:=12) fun K hK=> ?_
        . go_simp
          refine hK _ _ ?_;clear hK K;refine tkA (i:=13) (v:=.int .i64 (L:Int)) ?_;simp only[Act.put,VA,VC,VD];refine tkA (i:=15) (v:=.int .i64 (q:Int)) ?_;simp only[Act.put,VA,VC,VD];refine tkA (i:=16) (v:=.pointer (some ⟨U,q,none⟩)) ?_;simp only[Act.put,VA,VC,VD];refine rdA (i:=17) fun K hK=> ?_
          . go_simp
            refine hK _ _ ?_;clear hK K;refine rdA (i:=18) fun K hK=> ?_
            . go_simp
              refine hK _ _ ?_;clear hK K
              have I:wr.drew.ownsRow (b+1) 5 1 (.slice (some ⟨U,0,none⟩) L aa) L (u8s x.out):=by
               have:=Au (w':=wr.drew) (Aa Z) (fun _ _=>rfl)
               rw[Aa E]at this;exact this
              refine rdA (i:=19) fun K hK=> ?_
              refine step_append_lies _ rfl (.tmp 24) (.tmp 38) 23 rfl (b+1) 5 aq (.int .u8 0) 1 1 Tryz.underlying23 al au ar ao rfl (by decide) (.slice (some ⟨U,0,none⟩) L aa) L (u8s x.out) rfl (I.alloc _) ⟨wr.heap.size,0,none⟩ 1 1 [.int .u8 (c:Int)] rfl rfl (cell_one_new wr.drew _ _) (Bc rfl) (by decide) (by unfold maxLen;omega) (by omega) (by simp;omega) _ rfl ?_;intro ae ag ay M O T ac
              obtain⟨af,az,G⟩:=IIs.said (c:=c) (w:=wr.drew) (v':=.slice (some ⟨ae,0,none⟩) (L+1) ag) (Aa ab).base (Aa ab).no (Aa aw) (Au (Aa Z) (fun _ _=>rfl)) (Au (Aa an) (fun _ _=>rfl)) (Aa aj) (Aa as) (Aa ap) (fun g Y=>Aa ak g (by have ax:wr.heap.size<=g:=Y;omega)) (by rw[Aa E];exact M) O (by
               rcases T with F|F
               . exact .inl F.symm
               . exact .inr (by rw[F];rfl))
              have ah:=Ab ((Aa am).trans G);refine hK _ _ ?_;clear hK K G M O T ac I;rw[Aa E]at af;simp only[Act.put,VA,VC,VD];refine tkA (i:=20) (v:=.pointer (some ⟨b,0,none⟩)) ?_;simp only[Act.put,VA,VC,VD];refine tkA (i:=21) (v:=.pointer (some ⟨b,2,none⟩)) ?_;simp only[Act.put,VA,VC,VD];refine rdA (i:=22) fun K hK=> ?_
              go_simp
              refine hK _ _ ?_;clear hK K;refine wpAny_done (by kernel_rfl) ?_ _;go_wp2;go_roundw
              case rel=>exact⟨i+1,{x with out:=x.out++ [c]},by omega,by go_num,Ab ⟨by show (x.out++ [c]).length+_<=_;rw[VE,Aa E];simp only[VJ,WE];omega,by show d<=(x.out++ [c]).length;rw[VE,Aa E];omega,ai⟩,ah,av⟩
              case measure=>simp[intOf];omega
      . go_simp
        refine hK _ _ ?_;clear hK K;refine tkA (i:=13) (v:=.int .i64 (L:Int)) ?_;simp only[Act.put,VA,VC,VD];refine tkA (i:=15) (v:=.int .i64 (q:Int)) ?_;simp only[Act.put,VA,VC,VD];refine tkA (i:=16) (v:=.pointer (some ⟨U,q,none⟩)) ?_;simp only[Act.put,VA,VC,VD];refine wpAny_ready (rs:= [4,17]) (by kernel_rfl) (by simp) (AllReady.cons rfl (fun K hK=> ?_) (AllReady.cons rfl (fun K hK=> ?_) AllReady.nil))
        . go_simp
          refine hK _ _ ?_;clear hK K;refine rdA (i:=17) fun K hK=> ?_
          . go_simp
            refine hK _ _ ?_;clear hK K;refine rdA (i:=18) fun K hK=> ?_
            . go_simp
              refine hK _ _ ?_;clear hK K
              have I:wr.drew.ownsRow (b+1) 5 1 (.slice (some ⟨U,0,none⟩) L aa) L (u8s x.out):=by
               have:=Au (w':=wr.drew) (Aa Z) (fun _ _=>rfl)
               rw[Aa E]at this;exact this
              refine rdA (i:=19) fun K hK=> ?_
              refine step_append_lies _ rfl (.tmp 24) (.tmp 38) 23 rfl (b+1) 5 aq (.int .u8 0) 1 1 Tryz.underlying23 al au ar ao rfl (by decide) (.slice (some ⟨U,0,none⟩) L aa) L (u8s x.out) rfl (I.alloc _) ⟨wr.heap.size,0,none⟩ 1 1 [.int .u8 (c:Int)] rfl rfl (cell_one_new wr.drew _ _) (Bc rfl) (by decide) (by unfold maxLen;omega) (by omega) (by simp;omega) _ rfl ?_;intro ae ag ay M O T ac
              obtain⟨af,az,G⟩:=IIs.said (c:=c) (w:=wr.drew) (v':=.slice (some ⟨ae,0,none⟩) (L+1) ag) (Aa ab).base (Aa ab).no (Aa aw) (Au (Aa Z) (fun _ _=>rfl)) (Au (Aa an) (fun _ _=>rfl)) (Aa aj) (Aa as) (Aa ap) (fun g Y=>Aa ak g (by have ax:wr.heap.size<=g:=Y;omega)) (by rw[Aa E];exact M) O (by
               rcases T with F|F
               . exact .inl F.symm
               . exact .inr (by rw[F];rfl))
              have ah:=Ab ((Aa am).trans G);refine hK _ _ ?_;clear hK K G M O T ac I;rw[Aa E]at af;simp only[Act.put,VA,VC,VD];refine tkA (i:=20) (v:=.pointer (some ⟨b,0,none⟩)) ?_;simp only[Act.put,VA,VC,VD];refine tkA (i:=21) (v:=.pointer (some ⟨b,2,none⟩)) ?_;simp only[Act.put,VA,VC,VD];refine rdA (i:=22) fun K hK=> ?_
              go_simp
              refine hK _ _ ?_;clear hK K;refine wpAny_done (by kernel_rfl) ?_ _;go_wp2;go_roundw
              case rel=>exact⟨i+1,{x with out:=x.out++ [c]},by omega,by go_num,Ab ⟨by show (x.out++ [c]).length+_<=_;rw[VE,Aa E];simp only[VJ,WE];omega,by show d<=(x.out++ [c]).length;rw[VE,Aa E];omega,ai⟩,ah,av⟩
              case measure=>simp[intOf];omega
        . go_simp
          refine hK _ _ ?_;clear hK K;refine wpAny_ready (rs:= [4,18]) (by kernel_rfl) (by simp) (AllReady.cons rfl (fun K hK=> ?_) (AllReady.cons rfl (fun K hK=> ?_) AllReady.nil))
          . go_simp
            refine hK _ _ ?_;clear hK K;refine rdA (i:=18) fun K hK=> ?_
            . go_simp
              refine hK _ _ ?_;clear hK K
              have I:wr.drew.ownsRow (b+1) 5 1 (.slice (some ⟨U,0,none⟩) L aa) L (u8s x.out):=by
               have:=Au (w':=wr.drew) (Aa Z) (fun _ _=>rfl)
               rw[Aa E]at this;exact this
              refine rdA (i:=19) fun K hK=> ?_
              refine step_append_lies _ rfl (.tmp 24) (.tmp 38) 23 rfl (b+1) 5 aq (.int .u8 0) 1 1 Tryz.underlying23 al au ar ao rfl (by decide) (.slice (some ⟨U,0,none⟩) L aa) L (u8s x.out) rfl (I.alloc _) ⟨wr.heap.size,0,none⟩ 1 1 [.int .u8 (c:Int)] rfl rfl (cell_one_new wr.drew _ _) (Bc rfl) (by decide) (by unfold maxLen;omega) (by omega) (by simp;omega) _ rfl ?_;intro ae ag ay M O T ac
              obtain⟨af,az,G⟩:=IIs.said (c:=c) (w:=wr.drew) (v':=.slice (some ⟨ae,0,none⟩) (L+1) ag) (Aa ab).base (Aa ab).no (Aa aw) (Au (Aa Z) (fun _ _=>rfl)) (Au (Aa an) (fun _ _=>rfl)) (Aa aj) (Aa as) (Aa ap) (fun g Y=>Aa ak g (by have ax:wr.heap.size<=g:=Y;omega)) (by rw[Aa E];exact M) O (by
               rcases T with F|F
               . exact .inl F.symm
               . exact .inr (by rw[F];rfl))
              have ah:=Ab ((Aa am).trans G);refine hK _ _ ?_;clear hK K G M O T ac I;rw[Aa E]at af;simp only[Act.put,VA,VC,VD];refine tkA (i:=20) (v:=.pointer (some ⟨b,0,none⟩)) ?_;simp only[Act.put,VA,VC,VD];refine tkA (i:=21) (v:=.pointer (some ⟨b,2,none⟩)) ?_;simp only[Act.put,VA,VC,VD];refine rdA (i:=22) fun K hK=> ?_
              go_simp
              refine hK _ _ ?_;clear hK K;refine wpAny_done (by kernel_rfl) ?_ _;go_wp2;go_roundw
              case rel=>exact⟨i+1,{x with out:=x.out++ [c]},by omega,by go_num,Ab ⟨by show (x.out++ [c]).length+_<=_;rw[VE,Aa E];simp only[VJ,WE];omega,by show d<=(x.out++ [c]).length;rw[VE,Aa E];omega,ai⟩,ah,av⟩
              case measure=>simp[intOf];omega
          . go_simp
            refine hK _ _ ?_;clear hK K;refine rdA (i:=4) fun K hK=> ?_
            . go_simp
              refine hK _ _ ?_;clear hK K
              have I:wr.drew.ownsRow (b+1) 5 1 (.slice (some ⟨U,0,none⟩) L aa) L (u8s x.out):=by
               have:=Au (w':=wr.drew) (Aa Z) (fun _ _=>rfl)
               rw[Aa E]at this;exact this
              refine rdA (i:=19) fun K hK=> ?_
              refine step_append_lies _ rfl (.tmp 24) (.tmp 38) 23 rfl (b+1) 5 aq (.int .u8 0) 1 1 Tryz.underlying23 al au ar ao rfl (by decide) (.slice (some ⟨U,0,none⟩) L aa) L (u8s x.out) rfl (I.alloc _) ⟨wr.heap.size,0,none⟩ 1 1 [.int .u8 (c:Int)] rfl rfl (cell_one_new wr.drew _ _) (Bc rfl) (by decide) (by unfold maxLen;omega) (by omega) (by simp;omega) _ rfl ?_;intro ae ag ay M O T ac
              obtain⟨af,az,G⟩:=IIs.said (c:=c) (w:=wr.drew) (v':=.slice (some ⟨ae,0,none⟩) (L+1) ag) (Aa ab).base (Aa ab).no (Aa aw) (Au (Aa Z) (fun _ _=>rfl)) (Au (Aa an) (fun _ _=>rfl)) (Aa aj) (Aa as) (Aa ap) (fun g Y=>Aa ak g (by have ax:wr.heap.size<=g:=Y;omega)) (by rw[Aa E];exact M) O (by
               rcases T with F|F
               . exact .inl F.symm
               . exact .inr (by rw[F];rfl))
              have ah:=Ab ((Aa am).trans G);refine hK _ _ ?_;clear hK K G M O T ac I;rw[Aa E]at af;simp only[Act.put,VA,VC,VD];refine tkA (i:=20) (v:=.pointer (some ⟨b,0,none⟩)) ?_;simp only[Act.put,VA,VC,VD];refine tkA (i:=21) (v:=.pointer (some ⟨b,2,none⟩)) ?_;simp only[Act.put,VA,VC,VD];refine rdA (i:=22) fun K hK=> ?_
              go_simp
              refine hK _ _ ?_;clear hK K;refine wpAny_done (by kernel_rfl) ?_ _;go_wp2;go_roundw
              case rel=>exact⟨i+1,{x with out:=x.out++ [c]},by omega,by go_num,Ab ⟨by show (x.out++ [c]).length+_<=_;rw[VE,Aa E];simp only[VJ,WE];omega,by show d<=(x.out++ [c]).length;rw[VE,Aa E];omega,ai⟩,ah,av⟩
              case measure=>simp[intOf];omega
    . go_simp
      refine hK _ _ ?_;clear hK K;refine tkA (i:=13) (v:=.int .i64 (L:Int)) ?_;simp only[Act.put,VA,VC,VD];refine tkA (i:=15) (v:=.int .i64 (q:Int)) ?_;simp only[Act.put,VA,VC,VD];refine wpAny_ready (rs:= [4,8]) (by kernel_rfl) (by simp) (AllReady.cons rfl (fun K hK=> ?_) (AllReady.cons rfl (fun K hK=> ?_) AllReady.nil))
      . go_simp
        refine hK _ _ ?_;clear hK K;refine rdA (i:=8) fun K hK=> ?_
        . go_simp
          refine hK _ _ ?_;clear hK K;refine tkA (i:=16) (v:=.pointer (some ⟨U,q,none⟩)) ?_;simp only[Act.put,VA,VC,VD];refine rdA (i:=17) fun K hK=> ?_
          . go_simp
            refine hK _ _ ?_;clear hK K;refine rdA (i:=18) fun K hK=> ?_
            . go_simp
              refine hK _ _ ?_;clear hK K
              have I:wr.drew.ownsRow (b+1) 5 1 (.slice (some ⟨U,0,none⟩) L aa) L (u8s x.out):=by
               have:=Au (w':=wr.drew) (Aa Z) (fun _ _=>rfl)
               rw[Aa E]at this;exact this
              refine rdA (i:=19) fun K hK=> ?_
              refine step_append_lies _ rfl (.tmp 24) (.tmp 38) 23 rfl (b+1) 5 aq (.int .u8 0) 1 1 Tryz.underlying23 al au ar ao rfl (by decide) (.slice (some ⟨U,0,none⟩) L aa) L (u8s x.out) rfl (I.alloc _) ⟨wr.heap.size,0,none⟩ 1 1 [.int .u8 (c:Int)] rfl rfl (cell_one_new wr.drew _ _) (Bc rfl) (by decide) (by unfold maxLen;omega) (by omega) (by simp;omega) _ rfl ?_;intro ae ag ay M O T ac
              obtain⟨af,az,G⟩:=IIs.said (c:=c) (w:=wr.drew) (v':=.slice (some ⟨ae,0,none⟩) (L+1) ag) (Aa ab).base (Aa ab).no (Aa aw) (Au (Aa Z) (fun _ _=>rfl)) (Au (Aa an) (fun _ _=>rfl)) (Aa aj) (Aa as) (Aa ap) (fun g Y=>Aa ak g (by have ax:wr.heap.size<=g:=Y;omega)) (by rw[Aa E];exact M) O (by
               rcases T with F|F
               . exact .inl F.symm
               . exact .inr (by rw[F];rfl))
              have ah:=Ab ((Aa am).trans G);refine hK _ _ ?_;clear hK K G M O T ac I;rw[Aa E]at af;simp only[Act.put,VA,VC,VD];refine tkA (i:=20) (v:=.pointer (some ⟨b,0,none⟩)) ?_;simp only[Act.put,VA,VC,VD];refine tkA (i:=21) (v:=.pointer (some ⟨b,2,none⟩)) ?_;simp only[Act.put,VA,VC,VD];refine rdA (i:=22) fun K hK=> ?_
              go_simp
              refine hK _ _ ?_;clear hK K;refine wpAny_done (by kernel_rfl) ?_ _;go_wp2;go_roundw
              case rel=>exact⟨i+1,{x with out:=x.out++ [c]},by omega,by go_num,Ab ⟨by show (x.out++ [c]).length+_<=_;rw[VE,Aa E];simp only[VJ,WE];omega,by show d<=(x.out++ [c]).length;rw[VE,Aa E];omega,ai⟩,ah,av⟩
              case measure=>simp[intOf];omega
      . go_simp
        refine hK _ _ ?_;clear hK K;refine tkA (i:=16) (v:=.pointer (some ⟨U,q,none⟩)) ?_;simp only[Act.put,VA,VC,VD];refine wpAny_ready (rs:= [4,17]) (by kernel_rfl) (by simp) (AllReady.cons rfl (fun K hK=> ?_) (AllReady.cons rfl (fun K hK=> ?_) AllReady.nil))
        . go_simp
          refine hK _ _ ?_;clear hK K;refine rdA (i:=17) fun K hK=> ?_
          . go_simp
            refine hK _ _ ?_;clear hK K;refine rdA (i:=18) fun K hK=> ?_
            . go_simp
              refine hK _ _ ?_;clear hK K
              have I:wr.drew.ownsRow (b+1) 5 1 (.slice (some ⟨U,0,none⟩) L aa) L (u8s x.out):=by
               have:=Au (w':=wr.drew) (Aa Z) (fun _ _=>rfl)
               rw[Aa E]at this;exact this
              refine rdA (i:=19) fun K hK=> ?_
              refine step_append_lies _ rfl (.tmp 24) (.tmp 38) 23 rfl (b+1) 5 aq (.int .u8 0) 1 1 Tryz.underlying23 al au ar ao rfl (by decide) (.slice (some ⟨U,0,none⟩) L aa) L (u8s x.out) rfl (I.alloc _) ⟨wr.heap.size,0,none⟩ 1 1 [.int .u8 (c:Int)] rfl rfl (cell_one_new wr.drew _ _) (Bc rfl) (by decide) (by unfold maxLen;omega) (by omega) (by simp;omega) _ rfl ?_;intro ae ag ay M O T ac
              obtain⟨af,az,G⟩:=IIs.said (c:=c) (w:=wr.drew) (v':=.slice (some ⟨ae,0,none⟩) (L+1) ag) (Aa ab).base (Aa ab).no (Aa aw) (Au (Aa Z) (fun _ _=>rfl)) (Au (Aa an) (fun _ _=>rfl)) (Aa aj) (Aa as) (Aa ap) (fun g Y=>Aa ak g (by have ax:wr.heap.size<=g:=Y;omega)) (by rw[Aa E];exact M) O (by
               rcases T with F|F
               . exact .inl F.symm
               . exact .inr (by rw[F];rfl))
              have ah:=Ab ((Aa am).trans G);refine hK _ _ ?_;clear hK K G M O T ac I;rw[Aa E]at af;simp only[Act.put,VA,VC,VD];refine tkA (i:=20) (v:=.pointer (some ⟨b,0,none⟩)) ?_;simp only[Act.put,VA,VC,VD];refine tkA (i:=21) (v:=.pointer (some ⟨b,2,none⟩)) ?_;simp only[Act.put,VA,VC,VD];refine rdA (i:=22) fun K hK=> ?_
              go_simp
              refine hK _ _ ?_;clear hK K;refine wpAny_done (by kernel_rfl) ?_ _;go_wp2;go_roundw
              case rel=>exact⟨i+1,{x with out:=x.out++ [c]},by omega,by go_num,Ab ⟨by show (x.out++ [c]).length+_<=_;rw[VE,Aa E];simp only[VJ,WE];omega,by show d<=(x.out++ [c]).length;rw[VE,Aa E];omega,ai⟩,ah,av⟩
              case measure=>simp[intOf];omega
        . go_simp
          refine hK _ _ ?_;clear hK K;refine wpAny_ready (rs:= [4,18]) (by kernel_rfl) (by simp) (AllReady.cons rfl (fun K hK=> ?_) (AllReady.cons rfl (fun K hK=> ?_) AllReady.nil))
          . go_simp
            refine hK _ _ ?_;clear hK K;refine rdA (i:=18) fun K hK=> ?_
            . go_simp
              refine hK _ _ ?_;clear hK K
              have I:wr.drew.ownsRow (b+1) 5 1 (.slice (some ⟨U,0,none⟩) L aa) L (u8s x.out):=by
               have:=Au (w':=wr.drew) (Aa Z) (fun _ _=>rfl)
               rw[Aa E]at this;exact this
              refine rdA (i:=19) fun K hK=> ?_
              refine step_append_lies _ rfl (.tmp 24) (.tmp 38) 23 rfl (b+1) 5 aq (.int .u8 0) 1 1 Tryz.underlying23 al au ar ao rfl (by decide) (.slice (some ⟨U,0,none⟩) L aa) L (u8s x.out) rfl (I.alloc _) ⟨wr.heap.size,0,none⟩ 1 1 [.int .u8 (c:Int)] rfl rfl (cell_one_new wr.drew _ _) (Bc rfl) (by decide) (by unfold maxLen;omega) (by omega) (by simp;omega) _ rfl ?_;intro ae ag ay M O T ac
              obtain⟨af,az,G⟩:=IIs.said (c:=c) (w:=wr.drew) (v':=.slice (some ⟨ae,0,none⟩) (L+1) ag) (Aa ab).base (Aa ab).no (Aa aw) (Au (Aa Z) (fun _ _=>rfl)) (Au (Aa an) (fun _ _=>rfl)) (Aa aj) (Aa as) (Aa ap) (fun g Y=>Aa ak g (by have ax:wr.heap.size<=g:=Y;omega)) (by rw[Aa E];exact M) O (by
               rcases T with F|F
               . exact .inl F.symm
               . exact .inr (by rw[F];rfl))
              have ah:=Ab ((Aa am).trans G);refine hK _ _ ?_;clear hK K G M O T ac I;rw[Aa E]at af;simp only[Act.put,VA,VC,VD];refine tkA (i:=20) (v:=.pointer (some ⟨b,0,none⟩)) ?_;simp only[Act.put,VA,VC,VD];refine tkA (i:=21) (v:=.pointer (some ⟨b,2,none⟩)) ?_;simp only[Act.put,VA,VC,VD];refine rdA (i:=22) fun K hK=> ?_
              go_simp
              refine hK _ _ ?_;clear hK K;refine wpAny_done (by kernel_rfl) ?_ _;go_wp2;go_roundw
              case rel=>exact⟨i+1,{x with out:=x.out++ [c]},by omega,by go_num,Ab ⟨by show (x.out++ [c]).length+_<=_;rw[VE,Aa E];simp only[VJ,WE];omega,by show d<=(x.out++ [c]).length;rw[VE,Aa E];omega,ai⟩,ah,av⟩
              case measure=>simp[intOf];omega
          . go_simp
            refine hK _ _ ?_;clear hK K;refine rdA (i:=4) fun K hK=> ?_
            . go_simp
              refine hK _ _ ?_;clear hK K
              have I:wr.drew.ownsRow (b+1) 5 1 (.slice (some ⟨U,0,none⟩) L aa) L (u8s x.out):=by
               have:=Au (w':=wr.drew) (Aa Z) (fun _ _=>rfl)
               rw[Aa E]at this;exact this
              refine rdA (i:=19) fun K hK=> ?_
              refine step_append_lies _ rfl (.tmp 24) (.tmp 38) 23 rfl (b+1) 5 aq (.int .u8 0) 1 1 Tryz.underlying23 al au ar ao rfl (by decide) (.slice (some ⟨U,0,none⟩) L aa) L (u8s x.out) rfl (I.alloc _) ⟨wr.heap.size,0,none⟩ 1 1 [.int .u8 (c:Int)] rfl rfl (cell_one_new wr.drew _ _) (Bc rfl) (by decide) (by unfold maxLen;omega) (by omega) (by simp;omega) _ rfl ?_;intro ae ag ay M O T ac
              obtain⟨af,az,G⟩:=IIs.said (c:=c) (w:=wr.drew) (v':=.slice (some ⟨ae,0,none⟩) (L+1) ag) (Aa ab).base (Aa ab).no (Aa aw) (Au (Aa Z) (fun _ _=>rfl)) (Au (Aa an) (fun _ _=>rfl)) (Aa aj) (Aa as) (Aa ap) (fun g Y=>Aa ak g (by have ax:wr.heap.size<=g:=Y;omega)) (by rw[Aa E];exact M) O (by
               rcases T with F|F
               . exact .inl F.symm
               . exact .inr (by rw[F];rfl))
              have ah:=Ab ((Aa am).trans G);refine hK _ _ ?_;clear hK K G M O T ac I;rw[Aa E]at af;simp only[Act.put,VA,VC,VD];refine tkA (i:=20) (v:=.pointer (some ⟨b,0,none⟩)) ?_;simp only[Act.put,VA,VC,VD];refine tkA (i:=21) (v:=.pointer (some ⟨b,2,none⟩)) ?_;simp only[Act.put,VA,VC,VD];refine rdA (i:=22) fun K hK=> ?_
              go_simp
              refine hK _ _ ?_;clear hK K;refine wpAny_done (by kernel_rfl) ?_ _;go_wp2;go_roundw
              case rel=>exact⟨i+1,{x with out:=x.out++ [c]},by omega,by go_num,Ab ⟨by show (x.out++ [c]).length+_<=_;rw[VE,Aa E];simp only[VJ,WE];omega,by show d<=(x.out++ [c]).length;rw[VE,Aa E];omega,ai⟩,ah,av⟩
              case measure=>simp[intOf];omega
  . obtain rfl:i=k:=by omega
    have a5:Hid (V=x):=Ab (by rw[Aa a8,XW];rfl);clear a8;go_wp2;go_end0
    exact .inl ⟨by rw[Aa a5];exact ai,rfl,by rw[Aa a5];exact Aa be⟩
end Go.Proofs.YtleocpdblhbimaaGreatDoor
namespace Go.Proofs.YtleocpdblhbimaaGreatDoor
set_option linter.unusedVariables false
theorem GC:∀k,k<=29->1<=(Dg k).1/\(Dg k).1<=40000/\(Dg k).2<=13:=by decide
theorem Y0:∀j,j<=28->1<=(Df (257+j)).1/\(Df (257+j)).1<=300/\(Df (257+j)).2<=5:=by decide
theorem GB (k:Nat)(F:257<=k)(E:k<=285):1<=(Df k).1/\(Df k).1<=300/\(Df k).2<=5:=by
 obtain⟨j,rfl⟩:∃j,k=257+j:=⟨k-257,by omega⟩
 exact Y0 j (by omega)
theorem Z1e (row:List Bool)(l:List Int)(u:US)(E:(Me row l u).2.e=0):1<=(Me row l u).1/\(Me row l u).1<=80000:=by
 unfold Me at E ⊢
 split
 . rename_i hc
   rw[if_pos hc]at E;exact absurd E hc
 . rename_i hc
   rw[if_neg hc]at E
   split
   . rename_i F
     rw[if_pos F]at E;exact absurd (show (8:Int)=0 from E) (by decide)
   . rename_i F
     obtain⟨M,I,G⟩:=GC (uplace l row u).1 (by omega);have:=Nm row (Dg (uplace l row u).1).2 (uplace l row u).2
     have H:2^(Dg (uplace l row u).1).2<=2^13:=VO (by decide) G;have:(2:Nat)^13=8192:=by decide
     dsimp only;omega
end Go.Proofs.YtleocpdblhbimaaGreatDoor
