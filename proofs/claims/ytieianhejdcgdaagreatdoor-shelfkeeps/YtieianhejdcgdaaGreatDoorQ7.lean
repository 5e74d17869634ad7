import Derived.Test.YtieianhejdcgdaaGreatDoorQ6
set_option maxHeartbeats 4000000
namespace Go.Proofs.YtieianhejdcgdaaGreatDoor
open Go.RowKit
set_option linter.unusedVariables false
set_option linter.unusedSimpArgs false
set_option maxRecDepth 100000
def Ju (d k:Nat)(u:US):US:=if u.out.length<d then {u with e:=9}else if 3000<u.out.length+k then {u with e:=2}else ucopy d k u
theorem Z0d (No:Nat->Prop)(B b d k:Nat)(R f1 f2:Value)(u:US)(w:World)(h:IIs No B w b R f1 f2 u)(he:u.e=0)(ho:u.out.length<=3000)(hd:1<=d)(hd2:d<=80000)(hk:k<=65535)(hNo:∀g,w.heap.size<=g->¬No g)(V:US)(hV:Hid (Ju d k u=V)):
 Calls Tryz.prog 276 #[.pointer (some ⟨b,0,none⟩),.int .i64 (k:Int),.int .i64 (d:Int)] w fun e w'=>Got No B w b R f1 f2 (.tuple #[]) V e w':=by
 obtain⟨ov,kv,c2,c3,hh,hov,hkv,hap,hn1,hn2⟩:=h.rows;obtain⟨a0,cc0,rfl⟩:=Ao hov;have H:=Ab h;have HE:=Ab he;have HNo:=Ab hNo;have HRm:=Ab (Rf No B b k R f1 f2 u w h ho hk);have HG:=Ab (Bw 9 w);have hv:=Aa hV;unfold Ju at hv;clear h hh hov hkv hap hn1 hn2 c3 hNo he hV
 by_cases h1:u.out.length<d
 . rw[if_pos h1]at hv;have hdI:(u.out.length:Int)<(d:Int):=by omega
   have HV:=Ab hv;clear hv;go_enter Tryz.func276,Tryz.ntmps276
   go_wp2_with fail
   refine(Aa HG).mono ?_;rintro e w' ⟨rfl,rfl⟩;go_wp2;exact⟨rfl,.inr ⟨by rw[<-Aa HV];exact(by decide:(9:Int)≠0),by rw[<-Aa HV],Bl.refl _ _ _⟩⟩
 rw[if_neg h1]at hv;have hdI:¬(u.out.length:Int)<(d:Int):=by omega
 have HV:=Ab hv;clear hv;go_enter Tryz.func276,Tryz.ntmps276
 go_wp2_with fail
 refine(Aa HRm).mono ?_;rintro e w9 ⟨hw9,hg⟩;rw[hw9];clear hw9
 rcases hg with ⟨hl,rfl⟩|⟨hl,rfl⟩
 rotate_left
 . have HF:Hid ({u with e:=2}=V):=Ab (by rw[<-Aa HV,if_pos hl]);clear hl;go_wp2;exact⟨rfl,.inr ⟨by rw[<-Aa HF];exact(by decide:(2:Int)≠0),by rw[<-Aa HF],Bl.refl _ _ _⟩⟩
 have HVs:Hid (V=ucopy d k u):=Ab (by rw[<-Aa HV,if_neg (by omega)]);have HL:=Ab hl;have HD:=Ab h1;clear hl h1 hdI c2;go_wp2;go_loopw [18] (fun v18 wr=>∃(i:Nat) (x:US),i<=k/\v18=.int .i64 (i:Int)/\Hid (x.out.length+(k-i)<=3000/\d<=x.out.length/\x.e=0)/\Hid (IUp No B w b R f1 f2 x wr)/\Hid (V=ucopy d (k-i) x)) (fun v18 _=>k-(intOf v18).toNat)
 case atStart=>exact⟨0,u,VM _,rfl,Ab ⟨by have:=Aa HL;omega,by have:=Aa HD;omega,Aa HE⟩,Ab (IUp.refl (Aa H)),HVs⟩
 case round=>
  obtain⟨i,x,hi,rfl,hx3,hI,hVi⟩:=hrel;obtain⟨hxo,hxd,hxe⟩:=Aa hx3
  by_cases hlt:i<k
  . have hiI:(i:Int)<(k:Int):=by omega
    have hIs:=(Aa hI).is;have hbel:=(Aa hI).below.size;have hbl:=hIs.lt;obtain⟨i0,hi0,hz0,hz1,hz2⟩:=info_parts Hs;obtain⟨ov,kv,c2,c3,hh,hov,hkv,hap,hn1,hn2⟩:=hIs.rows;obtain⟨og,oc,rfl,_,hog⟩:=Bt hov (by omega);obtain⟨q,hq⟩:∃q,x.out.length-d=q:=⟨_,rfl⟩
    obtain⟨c,hc⟩:∃c,x.out.getD q 0=c:=⟨_,rfl⟩
    have hcell:wr.cell? ⟨og,q,none⟩=some (.int .u8 (c:Int)):=by
     have:=hov.cells rfl q (.int .u8 (c:Int)) (by
      unfold u8s;rw[List.getElem?_map,VR (by omega)];rw[<-hc];simp[List.getD,VR (show q<x.out.length by omega)])
     by_cases hq0:q=0<;>simpa[Addr.add,hq0]using this
    have hsay:Jt c x= {x with out:=x.out++ [c]}:=by unfold Jt;rw[if_pos hxe,if_neg (by omega)]
    have HVn:Hid (V=ucopy d (k-(i+1)) {x with out:=x.out++ [c]}):=Ab (by
     obtain⟨j,hj⟩:∃j,k-i=j+1:=⟨k-i-1,by omega⟩
     rw[Aa hVi,hj,show k-(i+1)=j by omega,<-hsay,<-hc,<-hq];show (if x.e=0 then ucopy d j (Jt (x.out.getD (x.out.length-d) 0) x)else x)=_
     rw[if_pos hxe])
    obtain⟨L,hL⟩:∃L,x.out.length=L:=⟨_,rfl⟩
    rw[hL]at c2 hxo hxd hq;have HLL:=Ab hL;have HOV:=Ab hov;have HKV:=Ab hkv;have HHH:=Ab hh;have HAP:=Ab hap;have HN1:=Ab hn1;have HN2:=Ab hn2;have HIS:=Ab hIs;have hqI:(L:Int)-(d:Int)=(q:Int):=by omega
    have hqL:(q:Int)<(L:Int):=by omega
    have hqw:IntKind.i64.wrap (q:Int)=(q:Int):=Gi q (by omega);have HDR:Hid (IUp No B w b R f1 f2 x wr.drew):=Ab ((Aa hI).drewN 1);clear hov hkv hh hap hn1 hn2 hIs hL hVi HVs HV hsay hc hq;go_wp2;refine wp_region_any (by kernel_rfl) ?_
    try (change wpAny _ _ _ _ _ _ _ (World.drew _))
    refine wpAny_take (i:=0) (v:=.pointer (some ⟨b,0,none⟩)) rfl (by kernel_rfl) (by kernel_rfl) (by kernel_rfl) (fun _ _ _ h=>h) (Or.inl ⟨by rfl,fun W=>by go_simp⟩) ?_;simp only[Act.put,VA,VD,VE];refine wpAny_take (i:=1) (v:=.pointer (some ⟨b,0,none⟩)) rfl (by kernel_rfl) (by kernel_rfl) (by kernel_rfl) (fun _ _ _ h=>h) (Or.inl ⟨by rfl,fun W=>by go_simp⟩) ?_;simp only[Act.put,VA,VD,VE];refine wpAny_take (i:=2) (v:=.pointer (some ⟨b,0,none⟩)) rfl (by kernel_rfl) (by kernel_rfl) (by kernel_rfl) (fun _ _ _ h=>h) (Or.inl ⟨by rfl,fun W=>by go_simp⟩) ?_;simp only[Act.put,VA,VD,VE];refine wpAny_take (i:=3) (v:=.pointer (some ⟨b,2,none⟩)) rfl (by kernel_rfl) (by kernel_rfl) (by kernel_rfl) (fun _ _ _ h=>h) (Or.inl ⟨by rfl,fun W=>by go_simp⟩) ?_;simp only[Act.put,VA,VD,VE];refine wpAny_take (i:=5) (v:=.pointer (some ⟨b,0,none⟩)) rfl (by kernel_rfl) (by kernel_rfl) (by kernel_rfl) (fun _ _ _ h=>h) (Or.inl ⟨by rfl,fun W=>by go_simp⟩) ?_;simp only[Act.put,VA,VD,VE];refine wpAny_take (i:=6) (v:=.pointer (some ⟨b,0,none⟩)) rfl (by kernel_rfl) (by kernel_rfl) (by kernel_rfl) (fun _ _ _ h=>h) (Or.inl ⟨by rfl,fun W=>by go_simp⟩) ?_;simp only[Act.put,VA,VD,VE];refine wpAny_take (i:=7) (v:=.pointer (some ⟨b,2,none⟩)) rfl (by kernel_rfl) (by kernel_rfl) (by kernel_rfl) (fun _ _ _ h=>h) (Or.inl ⟨by rfl,fun W=>by go_simp⟩) ?_;simp only[Act.put,VA,VD,VE];refine wpAny_take (i:=9) (v:=.pointer (some ⟨b,0,none⟩)) rfl (by kernel_rfl) (by kernel_rfl) (by kernel_rfl) (fun _ _ _ h=>h) (Or.inl ⟨by rfl,fun W=>by go_simp⟩) ?_;simp only[Act.put,VA,VD,VE];refine wpAny_take (i:=10) (v:=.pointer (some ⟨b,0,none⟩)) rfl (by kernel_rfl) (by kernel_rfl) (by kernel_rfl) (fun _ _ _ h=>h) (Or.inl ⟨by rfl,fun W=>by go_simp⟩) ?_;simp only[Act.put,VA,VD,VE];refine wpAny_take (i:=11) (v:=.pointer (some ⟨b,2,none⟩)) rfl (by kernel_rfl) (by kernel_rfl) (by kernel_rfl) (fun _ _ _ h=>h) (Or.inl ⟨by rfl,fun W=>by go_simp⟩) ?_;simp only[Act.put,VA,VD,VE];refine wpAny_take (i:=14) (v:=.int .i64 (d:Int)) rfl (by kernel_rfl) (by kernel_rfl) (by kernel_rfl) (fun _ _ _ h=>h) (Or.inl ⟨by rfl,fun W=>by go_simp⟩) ?_;simp only[Act.put,VA,VD,VE];refine wpAny_ready (rs:= [4,8,12]) (by kernel_rfl) (by simp) (AllReady.cons rfl (fun K hK=> ?_) (AllReady.cons rfl (fun K hK=> ?_) (AllReady.cons rfl (fun K hK=> ?_) AllReady.nil)))
    . go_simp
      refine hK _ _ ?_;clear hK K;refine wpAny_ready (rs:= [8,12]) (by kernel_rfl) (by simp) (AllReady.cons rfl (fun K hK=> ?_) (AllReady.cons rfl (fun K hK=> ?_) AllReady.nil))
      . go_simp
        refine hK _ _ ?_;clear hK K;refine wpAny_ready (rs:= [12]) (by kernel_rfl) (by simp) (AllReady.cons rfl (fun K hK=> ?_) AllReady.nil)
        . go_simp
          refine hK _ _ ?_;clear hK K;refine wpAny_take (i:=13) (v:=.int .i64 (L:Int)) rfl (by kernel_rfl) (by kernel_rfl) (by kernel_rfl) (fun _ _ _ h=>h) (Or.inl ⟨by rfl,fun W=>by go_simp⟩) ?_;simp only[Act.put,VA,VD,VE];refine wpAny_take (i:=15) (v:=.int .i64 (q:Int)) rfl (by kernel_rfl) (by kernel_rfl) (by kernel_rfl) (fun _ _ _ h=>h) (Or.inl ⟨by rfl,fun W=>by go_simp⟩) ?_;simp only[Act.put,VA,VD,VE];refine wpAny_take (i:=16) (v:=.pointer (some ⟨og,q,none⟩)) rfl (by kernel_rfl) (by kernel_rfl) (by kernel_rfl) (fun _ _ _ h=>h) (Or.inl ⟨by rfl,fun W=>by go_simp⟩) ?_;simp only[Act.put,VA,VD,VE];refine wpAny_ready (rs:= [17]) (by kernel_rfl) (by simp) (AllReady.cons rfl (fun K hK=> ?_) AllReady.nil)
          . go_simp
            refine hK _ _ ?_;clear hK K;refine wpAny_ready (rs:= [18]) (by kernel_rfl) (by simp) (AllReady.cons rfl (fun K hK=> ?_) AllReady.nil)
            . go_simp
              refine hK _ _ ?_;clear hK K
              have hovL:wr.drew.ownsRow (b+1) 5 1 (.slice (some ⟨og,0,none⟩) L oc) L (u8s x.out):=by
               have:=Ar (w':=wr.drew) (Aa HOV) (fun _ _=>rfl)
               rw[Aa HLL]at this;exact this
              refine wpAny_ready (rs:= [19]) (by kernel_rfl) (by simp) (AllReady.cons rfl (fun K hK=> ?_) AllReady.nil);refine step_append_lies _ rfl (.tmp 24) (.tmp 38) 23 rfl (b+1) 5 i0 (.int .u8 0) 1 1 Tryz.underlying23 hi0 hz0 hz1 hz2 rfl (by decide) (.slice (some ⟨og,0,none⟩) L oc) L (u8s x.out) rfl (hovL.alloc _) ⟨wr.heap.size,0,none⟩ 1 1 [.int .u8 (c:Int)] rfl rfl (cell_one_new wr.drew _ _) (Bf rfl) (by decide) (by unfold maxLen;omega) (by omega) (by simp;omega) _ rfl ?_;intro g5 cap5 w5 hO5 hgrow5 hspot5 hlt5
              obtain⟨q2,f25,hI5⟩:=IIs.said (c:=c) (w:=wr.drew) (v':=.slice (some ⟨g5,0,none⟩) (L+1) cap5) (Aa HIS).base (Aa HIS).no (Aa HHH) (Ar (Aa HOV) (fun _ _=>rfl)) (Ar (Aa HKV) (fun _ _=>rfl)) (Aa HAP) (Aa HN1) (Aa HN2) (fun g hg=>Aa HNo g (by have hg':wr.heap.size<=g:=hg;omega)) (by rw[Aa HLL];exact hO5) hgrow5 (by
               rcases hspot5 with h|h
               . exact .inl h.symm
               . exact .inr (by rw[h];rfl))
              have HI5:=Ab ((Aa HDR).trans hI5);refine hK _ _ ?_;clear hK K hI5 hO5 hgrow5 hspot5 hlt5 hovL;rw[Aa HLL]at q2;simp only[Act.put,VA,VD,VE];refine wpAny_take (i:=20) (v:=.pointer (some ⟨b,0,none⟩)) rfl (by kernel_rfl) (by kernel_rfl) (by kernel_rfl) (fun _ _ _ h=>h) (Or.inl ⟨by rfl,fun W=>by go_simp⟩) ?_;simp only[Act.put,VA,VD,VE];refine wpAny_take (i:=21) (v:=.pointer (some ⟨b,2,none⟩)) rfl (by kernel_rfl) (by kernel_rfl) (by kernel_rfl) (fun _ _ _ h=>h) (Or.inl ⟨by rfl,fun W=>by go_simp⟩) ?_;simp only[Act.put,VA,VD,VE];refine wpAny_ready (rs:= [22]) (by kernel_rfl) (by simp) (AllReady.cons rfl (fun K hK=> ?_) AllReady.nil);go_simp
              refine hK _ _ ?_;clear hK K;refine wpAny_done (by kernel_rfl) ?_ _;go_wp2;go_roundw
              case rel=>exact⟨i+1,{x with out:=x.out++ [c]},by omega,by go_num,Ab ⟨by show (x.out++ [c]).length+_<=_;rw[VB,Aa HLL];simp only[VH,VQ];omega,by show d<=(x.out++ [c]).length;rw[VB,Aa HLL];omega,hxe⟩,HI5,HVn⟩
              case measure=>simp[intOf];omega
      . go_simp
        refine hK _ _ ?_;clear hK K;refine wpAny_take (i:=13) (v:=.int .i64 (L:Int)) rfl (by kernel_rfl) (by kernel_rfl) (by kernel_rfl) (fun _ _ _ h=>h) (Or.inl ⟨by rfl,fun W=>by go_simp⟩) ?_;simp only[Act.put,VA,VD,VE];refine wpAny_take (i:=15) (v:=.int .i64 (q:Int)) rfl (by kernel_rfl) (by kernel_rfl) (by kernel_rfl) (fun _ _ _ h=>h) (Or.inl ⟨by rfl,fun W=>by go_simp⟩) ?_;simp only[Act.put,VA,VD,VE];refine wpAny_ready (rs:= [8]) (by kernel_rfl) (by simp) (AllReady.cons rfl (fun K hK=> ?_) AllReady.nil)
        . go_simp
          refine hK _ _ ?_;clear hK K;refine wpAny_take (i:=16) (v:=.pointer (some ⟨og,q,none⟩)) rfl (by kernel_rfl) (by kernel_rfl) (by kernel_rfl) (fun _ _ _ h=>h) (Or.inl ⟨by rfl,fun W=>by go_simp⟩) ?_;simp only[Act.put,VA,VD,VE];refine wpAny_ready (rs:= [17]) (by kernel_rfl) (by simp) (AllReady.cons rfl (fun K hK=> ?_) AllReady.nil)
          . go_simp
            refine hK _ _ ?_;clear hK K;refine wpAny_ready (rs:= [18]) (by kernel_rfl) (by simp) (AllReady.cons rfl (fun K hK=> ?_) AllReady.nil)
            . go_simp
              refine hK _ _ ?_;clear hK K
              have hovL:wr.drew.ownsRow (b+1) 5 1 (.slice (some ⟨og,0,none⟩) L oc) L (u8s x.out):=by
               have:=Ar (w':=wr.drew) (Aa HOV) (fun _ _=>rfl)
               rw[Aa HLL]at this;exact this
              refine wpAny_ready (rs:= [19]) (by kernel_rfl) (by simp) (AllReady.cons rfl (fun K hK=> ?_) AllReady.nil);refine step_append_lies _ rfl (.tmp 24) (.tmp 38) 23 rfl (b+1) 5 i0 (.int .u8 0) 1 1 Tryz.underlying23 hi0 hz0 hz1 hz2 rfl (by decide) (.slice (some ⟨og,0,none⟩) L oc) L (u8s x.out) rfl (hovL.alloc _) ⟨wr.heap.size,0,none⟩ 1 1 [.int .u8 (c:Int)] rfl rfl (cell_one_new wr.drew _ _) (Bf rfl) (by decide) (by unfold maxLen;omega) (by omega) (by simp;omega) _ rfl ?_;intro g5 cap5 w5 hO5 hgrow5 hspot5 hlt5
              obtain⟨q2,f25,hI5⟩:=IIs.said (c:=c) (w:=wr.drew) (v':=.slice (some ⟨g5,0,none⟩) (L+1) cap5) (Aa HIS).base (Aa HIS).no (Aa HHH) (Ar (Aa HOV) (fun _ _=>rfl)) (Ar (Aa HKV) (fun _ _=>rfl)) (Aa HAP) (Aa HN1) (Aa HN2) (fun g hg=>Aa HNo g (by have hg':wr.heap.size<=g:=hg;omega)) (by rw[Aa HLL];exact hO5) hgrow5 (by
               rcases hspot5 with h|h
               . exact .inl h.symm
               . exact .inr (by rw[h];rfl))
              have HI5:=Ab ((Aa HDR).trans hI5);refine hK _ _ ?_;clear hK K hI5 hO5 hgrow5 hspot5 hlt5 hovL;rw[Aa HLL]at q2;simp only[Act.put,VA,VD,VE];refine wpAny_take (i:=20) (v:=.pointer (some ⟨b,0,none⟩)) rfl (by kernel_rfl) (by kernel_rfl) (by kernel_rfl) (fun _ _ _ h=>h) (Or.inl ⟨by rfl,fun W=>by go_simp⟩) ?_;simp only[Act.put,VA,VD,VE];refine wpAny_take (i:=21) (v:=.pointer (some ⟨b,2,none⟩)) rfl (by kernel_rfl) (by kernel_rfl) (by kernel_rfl) (fun _ _ _ h=>h) (Or.inl ⟨by rfl,fun W=>by go_simp⟩) ?_;simp only[Act.put,VA,VD,VE];refine wpAny_ready (rs:= [22]) (by kernel_rfl) (by simp) (AllReady.cons rfl (fun K hK=> ?_) AllReady.nil);go_simp
              refine hK _ _ ?_;clear hK K;refine wpAny_done (by kernel_rfl) ?_ _;go_wp2;go_roundw
              case rel=>exact⟨i+1,{x with out:=x.out++ [c]},by omega,by go_num,Ab ⟨by show (x.out++ [c]).length+_<=_;rw[VB,Aa HLL];simp only[VH,VQ];omega,by show d<=(x.out++ [c]).length;rw[VB,Aa HLL];omega,hxe⟩,HI5,HVn⟩
              case measure=>simp[intOf];omega
    . go_simp
      refine hK _ _ ?_;clear hK K;refine wpAny_ready (rs:= [4,12]) (by kernel_rfl) (by simp) (AllReady.cons rfl (fun K hK=> ?_) (AllReady.cons rfl (fun K hK=> ?_) AllReady.nil))
      . go_simp
        refine hK _ _ ?_;clear hK K;refine wpAny_ready (rs:= [12]) (by kernel_rfl) (by simp) (AllReady.cons rfl (fun K hK=> ?_) AllReady.nil)
        . go_simp
          refine hK _ _ ?_;clear hK K;refine wpAny_take (i:=13) (v:=.int .i64 (L:Int)) rfl (by kernel_rfl) (by kernel_rfl) (by kernel_rfl) (fun _ _ _ h=>h) (Or.inl ⟨by rfl,fun W=>by go_simp⟩) ?_;simp only[Act.put,VA,VD,VE];refine wpAny_take (i:=15) (v:=.int .i64 (q:Int)) rfl (by kernel_rfl) (by kernel_rfl) (by kernel_rfl) (fun _ _ _ h=>h) (Or.inl ⟨by rfl,fun W=>by go_simp⟩) ?_;simp only[Act.put,VA,VD,VE];refine wpAny_take (i:=16) (v:=.pointer (some ⟨og,q,none⟩)) rfl (by kernel_rfl) (by kernel_rfl) (by kernel_rfl) (fun _ _ _ h=>h) (Or.inl ⟨by rfl,fun W=>by go_simp⟩) ?_;simp only[Act.put,VA,VD,VE];refine wpAny_ready (rs:= [17]) (by kernel_rfl) (by simp) (AllReady.cons rfl (fun K hK=> ?_) AllReady.nil)
          . go_simp
            refine hK _ _ ?_;clear hK K;refine wpAny_ready (rs:= [18]) (by kernel_rfl) (by simp) (AllReady.cons rfl (fun K hK=> ?_) AllReady.nil)
            . go_simp
              refine hK _ _ ?_;clear hK K
              have hovL:wr.drew.ownsRow (b+1) 5 1 (.slice (some ⟨og,0,none⟩) L oc) L (u8s x.out):=by
               have:=Ar (w':=wr.drew) (Aa HOV) (fun _ _=>rfl)
               rw[Aa HLL]at this;exact this
              refine wpAny_ready (rs:= [19]) (by kernel_rfl) (by simp) (AllReady.cons rfl (fun K hK=> ?_) AllReady.nil);refine step_append_lies _ rfl (.tmp 24) (.tmp 38) 23 rfl (b+1) 5 i0 (.int .u8 0) 1 1 Tryz.underlying23 hi0 hz0 hz1 hz2 rfl (by decide) (.slice (some ⟨og,0,none⟩) L oc) L (u8s x.out) rfl (hovL.alloc _) ⟨wr.heap.size,0,none⟩ 1 1 [.int .u8 (c:Int)] rfl rfl (cell_one_new wr.drew _ _) (Bf rfl) (by decide) (by unfold maxLen;omega) (by omega) (by simp;omega) _ rfl ?_;intro g5 cap5 w5 hO5 hgrow5 hspot5 hlt5
              obtain⟨q2,f25,hI5⟩:=IIs.said (c:=c) (w:=wr.drew) (v':=.slice (some ⟨g5,0,none⟩) (L+1) cap5) (Aa HIS).base (Aa HIS).no (Aa HHH) (Ar (Aa HOV) (fun _ _=>rfl)) (Ar (Aa HKV) (fun _ _=>rfl)) (Aa HAP) (Aa HN1) (Aa HN2) (fun g hg=>Aa HNo g (by have hg':wr.heap.size<=g:=hg;omega)) (by rw[Aa HLL];exact hO5) hgrow5 (by
               rcases hspot5 with h|h
               . exact .inl h.symm
               . exact .inr (by rw[h];rfl))
              have HI5:=Ab ((Aa HDR).trans hI5);refine hK _ _ ?_;clear hK K hI5 hO5 hgrow5 hspot5 hlt5 hovL;rw[Aa HLL]at q2;simp only[Act.put,VA,VD,VE];refine wpAny_take (i:=20) (v:=.pointer (some ⟨b,0,none⟩)) rfl (by kernel_rfl) (by kernel_rfl) (by kernel_rfl) (fun _ _ _ h=>h) (Or.inl ⟨by rfl,fun W=>by go_simp⟩) ?_;simp only[Act.put,VA,VD,VE];refine wpAny_take (i:=21) (v:=.pointer (some ⟨b,2,none⟩)) rfl (by kernel_rfl) (by kernel_rfl) (by kernel_rfl) (fun _ _ _ h=>h) (Or.inl ⟨by rfl,fun W=>by go_simp⟩) ?_;simp only[Act.put,VA,VD,VE];refine wpAny_ready (rs:= [22]) (by kernel_rfl) (by simp) (AllReady.cons rfl (fun K hK=> ?_) AllReady.nil);go_simp
              refine hK _ _ ?_;clear hK K;refine wpAny_done (by kernel_rfl) ?_ _;go_wp2;go_roundw
              case rel=>exact⟨i+1,{x with out:=x.out++ [c]},by omega,by go_num,Ab ⟨by show (x.out++ [c]).length+_<=_;rw[VB,Aa HLL];simp only[VH,VQ];omega,by show d<=(x.out++ [c]).length;rw[VB,Aa HLL];omega,hxe⟩,HI5,HVn⟩
              case measure=>simp[intOf];omega
      . go_simp
        refine hK _ _ ?_;clear hK K;refine wpAny_take (i:=13) (v:=.int .i64 (L:Int)) rfl (by kernel_rfl) (by kernel_rfl) (by kernel_rfl) (fun _ _ _ h=>h) (Or.inl ⟨by rfl,fun W=>by go_simp⟩) ?_;simp only[Act.put,VA,VD,VE];refine wpAny_take (i:=15) (v:=.int .i64 (q:Int)) rfl (by kernel_rfl) (by kernel_rfl) (by kernel_rfl) (fun _ _ _ h=>h) (Or.inl ⟨by rfl,fun W=>by go_simp⟩) ?_;simp only[Act.put,VA,VD,VE];refine wpAny_take (i:=16) (v:=.pointer (some ⟨og,q,none⟩)) rfl (by kernel_rfl) (by kernel_rfl) (by kernel_rfl) (fun _ _ _ h=>h) (Or.inl ⟨by rfl,fun W=>by go_simp⟩) ?_;simp only[Act.put,VA,VD,VE];refine wpAny_ready (rs:= [4,17]) (by kernel_rfl) (by simp) (AllReady.cons rfl (fun K hK=> ?_) (AllReady.cons rfl (fun K hK=> ?_) AllReady.nil))
        . go_simp
          refine hK _ _ ?_;clear hK K;refine wpAny_ready (rs:= [17]) (by kernel_rfl) (by simp) (AllReady.cons rfl (fun K hK=> ?_) AllReady.nil)
          . go_simp
            refine hK _ _ ?_;clear hK K;refine wpAny_ready (rs:= [18]) (by kernel_rfl) (by simp) (AllReady.cons rfl (fun K hK=> ?_) AllReady.nil)
            . go_simp
              refine hK _ _ ?_;clear hK K
              have hovL:wr.drew.ownsRow (b+1) 5 1 (.slice (some ⟨og,0,none⟩) L oc) L (u8s x.out):=by
               have:=Ar (w':=wr.drew) (Aa HOV) (fun _ _=>rfl)
               rw[Aa HLL]at this;exact this
              refine wpAny_ready (rs:= [19]) (by kernel_rfl) (by simp) (AllReady.cons rfl (fun K hK=> ?_) AllReady.nil);refine step_append_lies _ rfl (.tmp 24) (.tmp 38) 23 rfl (b+1) 5 i0 (.int .u8 0) 1 1 Tryz.underlying23 hi0 hz0 hz1 hz2 rfl (by decide) (.slice (some ⟨og,0,none⟩) L oc) L (u8s x.out) rfl (hovL.alloc _) ⟨wr.heap.size,0,none⟩ 1 1 [.int .u8 (c:Int)] rfl rfl (cell_one_new wr.drew _ _) (Bf rfl) (by decide) (by unfold maxLen;omega) (by omega) (by simp;omega) _ rfl ?_;intro g5 cap5 w5 hO5 hgrow5 hspot5 hlt5
              obtain⟨q2,f25,hI5⟩:=IIs.said (c:=c) (w:=wr.drew) (v':=.slice (some ⟨g5,0,none⟩) (L+1) cap5) (Aa HIS).base (Aa HIS).no (Aa HHH) (Ar (Aa HOV) (fun _ _=>rfl)) (Ar (Aa HKV) (fun _ _=>rfl)) (Aa HAP) (Aa HN1) (Aa HN2) (fun g hg=>Aa HNo g (by have hg':wr.heap.size<=g:=hg;omega)) (by rw[Aa HLL];exact hO5) hgrow5 (by
               rcases hspot5 with h|h
               . exact .inl h.symm
               . exact .inr (by rw[h];rfl))
              have HI5:=Ab ((Aa HDR).trans hI5);refine hK _ _ ?_;clear hK K hI5 hO5 hgrow5 hspot5 hlt5 hovL;rw[Aa HLL]at q2;simp only[Act.put,VA,VD,VE];refine wpAny_take (i:=20) (v:=.pointer (some ⟨b,0,none⟩)) rfl (by kernel_rfl) (by kernel_rfl) (by kernel_rfl) (fun _ _ _ h=>h) (Or.inl ⟨by rfl,fun W=>by go_simp⟩) ?_;simp only[Act.put,VA,VD,VE];refine wpAny_take (i:=21) (v:=.pointer (some ⟨b,2,none⟩)) rfl (by kernel_rfl) (by kernel_rfl) (by kernel_rfl) (fun _ _ _ h=>h) (Or.inl ⟨by rfl,fun W=>by go_simp⟩) ?_;simp only[Act.put,VA,VD,VE];refine wpAny_ready (rs:= [22]) (by kernel_rfl) (by simp) (AllReady.cons rfl (fun K hK=> ?_) AllReady.nil);go_simp
              refine hK _ _ ?_;clear hK K;refine wpAny_done (by kernel_rfl) ?_ _;go_wp2;go_roundw
              case rel=>exact⟨i+1,{x with out:=x.out++ [c]},by omega,by go_num,Ab ⟨by show (x.out++ [c]).length+_<=_;rw[VB,Aa HLL];simp only[VH,VQ];omega,by show d<=(x.out++ [c]).length;rw[VB,Aa HLL];omega,hxe⟩,HI5,HVn⟩
              case measure=>simp[intOf];omega
        . go_simp
          refine hK _ _ ?_;clear hK K;refine wpAny_ready (rs:= [4,18]) (by kernel_rfl) (by simp) (AllReady.cons rfl (fun K hK=> ?_) (AllReady.cons rfl (fun K hK=> ?_) AllReady.nil))
          . go_simp
            refine hK _ _ ?_;clear hK K;refine wpAny_ready (rs:= [18]) (by kernel_rfl) (by simp) (AllReady.cons rfl (fun K hK=> ?_) AllReady.nil)
            . go_simp
              refine hK _ _ ?_;clear hK K
              have hovL:wr.drew.ownsRow (b+1) 5 1 (.slice (some ⟨og,0,none⟩) L oc) L (u8s x.out):=by
               have:=Ar (w':=wr.drew) (Aa HOV) (fun _ _=>rfl)
               rw[Aa HLL]at this;exact this
              refine wpAny_ready (rs:= [19]) (by kernel_rfl) (by simp) (AllReady.cons rfl (fun K hK=> ?_) AllReady.nil);refine step_append_lies _ rfl (.tmp 24) (.tmp 38) 23 rfl (b+1) 5 i0 (.int .u8 0) 1 1 Tryz.underlying23 hi0 hz0 hz1 hz2 rfl (by decide) (.slice (some ⟨og,0,none⟩) L oc) L (u8s x.out) rfl (hovL.alloc _) ⟨wr.heap.size,0,none⟩ 1 1 [.int .u8 (c:Int)] rfl rfl (cell_one_new wr.drew _ _) (Bf rfl) (by decide) (by unfold maxLen;omega) (by omega) (by simp;omega) _ rfl ?_;intro g5 cap5 w5 hO5 hgrow5 hspot5 hlt5
              obtain⟨q2,f25,hI5⟩:=IIs.said (c:=c) (w:=wr.drew) (v':=.slice (some ⟨g5,0,none⟩) (L+1) cap5) (Aa HIS).base (Aa HIS).no (Aa HHH) (Ar (Aa HOV) (fun _ _=>rfl)) (Ar (Aa HKV) (fun _ _=>rfl)) (Aa HAP) (Aa HN1) (Aa HN2) (fun g hg=>Aa HNo g (by have hg':wr.heap.size<=g:=hg;omega)) (by rw[Aa HLL];exact hO5) hgrow5 (by
               rcases hspot5 with h|h
               . exact .inl h.symm
               . exact .inr (by rw[h];rfl))
              have HI5:=Ab ((Aa HDR).trans hI5);refine hK _ _ ?_;clear hK K hI5 hO5 hgrow5 hspot5 hlt5 hovL;rw[Aa HLL]at q2;simp only[Act.put,VA,VD,VE];refine wpAny_take (i:=20) (v:=.pointer (some ⟨b,0,none⟩)) rfl (by kernel_rfl) (by kernel_rfl) (by kernel_rfl) (fun _ _ _ h=>h) (Or.inl ⟨by rfl,fun W=>by go_simp⟩) ?_;simp only[Act.put,VA,VD,VE];refine wpAny_take (i:=21) (v:=.pointer (some ⟨b,2,none⟩)) rfl (by kernel_rfl) (by kernel_rfl) (by kernel_rfl) (fun _ _ _ h=>h) (Or.inl ⟨by rfl,fun W=>by go_simp⟩) ?_;simp only[Act.put,VA,VD,VE];refine wpAny_ready (rs:= [22]) (by kernel_rfl) (by simp) (AllReady.cons rfl (fun K hK=> ?_) AllReady.nil);go_simp
              refine hK _ _ ?_;clear hK K;refine wpAny_done (by kernel_rfl) ?_ _;go_wp2;go_roundw
              case rel=>exact⟨i+1,{x with out:=x.out++ [c]},by omega,by go_num,Ab ⟨by show (x.out++ [c]).length+_<=_;rw[VB,Aa HLL];simp only[VH,VQ];omega,by show d<=(x.out++ [c]).length;rw[VB,Aa HLL];omega,hxe⟩,HI5,HVn⟩
              case measure=>simp[intOf];omega
          . go_simp
            refine hK _ _ ?_;clear hK K;refine wpAny_ready (rs:= [4]) (by kernel_rfl) (by simp) (AllReady.cons rfl (fun K hK=> ?_) AllReady.nil)
            . go_simp
              refine hK _ _ ?_;clear hK K
              have hovL:wr.drew.ownsRow (b+1) 5 1 (.slice (some ⟨og,0,none⟩) L oc) L (u8s x.out):=by
               have:=Ar (w':=wr.drew) (Aa HOV) (fun _ _=>rfl)
               rw[Aa HLL]at this;exact this
              refine wpAny_ready (rs:= [19]) (by kernel_rfl) (by simp) (AllReady.cons rfl (fun K hK=> ?_) AllReady.nil);refine step_append_lies _ rfl (.tmp 24) (.tmp 38) 23 rfl (b+1) 5 i0 (.int .u8 0) 1 1 Tryz.underlying23 hi0 hz0 hz1 hz2 rfl (by decide) (.slice (some ⟨og,0,none⟩) L oc) L (u8s x.out) rfl (hovL.alloc _) ⟨wr.heap.size,0,none⟩ 1 1 [.int .u8 (c:Int)] rfl rfl (cell_one_new wr.drew _ _) (Bf rfl) (by decide) (by unfold maxLen;omega) (by omega) (by simp;omega) _ rfl ?_;intro g5 cap5 w5 hO5 hgrow5 hspot5 hlt5
              obtain⟨q2,f25,hI5⟩:=IIs.said (c:=c) (w:=wr.drew) (v':=.slice (some ⟨g5,0,none⟩) (L+1) cap5) (Aa HIS).base (Aa HIS).no (Aa HHH) (Ar (Aa HOV) (fun _ _=>rfl)) (Ar (Aa HKV) (fun _ _=>rfl)) (Aa HAP) (Aa HN1) (Aa HN2) (fun g hg=>Aa HNo g (by have hg':wr.heap.size<=g:=hg;omega)) (by rw[Aa HLL];exact hO5) hgrow5 (by
               rcases hspot5 with h|h
               . exact .inl h.symm
               . exact .inr (by rw[h];rfl))
              have HI5:=Ab ((Aa HDR).trans hI5);refine hK _ _ ?_;clear hK K hI5 hO5 hgrow5 hspot5 hlt5 hovL;rw[Aa HLL]at q2;simp only[Act.put,VA,VD,VE];refine wpAny_take (i:=20) (v:=.pointer (some ⟨b,0,none⟩)) rfl (by kernel_rfl) (by kernel_rfl) (by kernel_rfl) (fun _ _ _ h=>h) (Or.inl ⟨by rfl,fun W=>by go_simp⟩) ?_;simp only[Act.put,VA,VD,VE];refine wpAny_take (i:=21) (v:=.pointer (some ⟨b,2,none⟩)) rfl (by kernel_rfl) (by kernel_rfl) (by kernel_rfl) (fun _ _ _ h=>h) (Or.inl ⟨by rfl,fun W=>by go_simp⟩) ?_;simp only[Act.put,VA,VD,VE];refine wpAny_ready (rs:= [22]) (by kernel_rfl) (by simp) (AllReady.cons rfl (fun K hK=> ?_) AllReady.nil);go_simp
              refine hK _ _ ?_;clear hK K;refine wpAny_done (by kernel_rfl) ?_ _;go_wp2;go_roundw
              case rel=>exact⟨i+1,{x with out:=x.out++ [c]},by omega,by go_num,Ab ⟨by show (x.out++ [c]).length+_<=_;rw[VB,Aa HLL];simp only[VH,VQ];omega,by show d<=(x.out++ [c]).length;rw[VB,Aa HLL];omega,hxe⟩,HI5,HVn⟩
              case measure=>simp[intOf];omega
    . go_simp
      refine hK _ _ ?_;clear hK K;refine wpAny_take (i:=13) (v:=.int .i64 (L:Int)) rfl (by kernel_rfl) (by kernel_rfl) (by kernel_rfl) (fun _ _ _ h=>h) (Or.inl ⟨by rfl,fun W=>by go_simp⟩) ?_;simp only[Act.put,VA,VD,VE];refine wpAny_take (i:=15) (v:=.int .i64 (q:Int)) rfl (by kernel_rfl) (by kernel_rfl) (by kernel_rfl) (fun _ _ _ h=>h) (Or.inl ⟨by rfl,fun W=>by go_simp⟩) ?_;simp only[Act.put,VA,VD,VE];refine wpAny_ready (rs:= [4,8]) (by kernel_rfl) (by simp) (AllReady.cons rfl (fun K hK=> ?_) (AllReady.cons rfl (fun K hK=> ?_) AllReady.nil))
      . go_simp
        refine hK _ _ ?_;clear hK K;refine wpAny_ready (rs:= [8]) (by kernel_rfl) (by simp) (AllReady.cons rfl (fun K hK=> ?_) AllReady.nil)
        . go_simp
          refine hK _ _ ?_;clear hK K;refine wpAny_take (i:=16) (v:=.pointer (some ⟨og,q,none⟩)) rfl (by kernel_rfl) (by kernel_rfl) (by kernel_rfl) (fun _ _ _ h=>h) (Or.inl ⟨by rfl,fun W=>by go_simp⟩) ?_;simp only[Act.put,VA,VD,VE];refine wpAny_ready (rs:= [17]) (by kernel_rfl) (by simp) (AllReady.cons rfl (fun K hK=> ?_) AllReady.nil)
          . go_simp
            refine hK _ _ ?_;clear hK K;refine wpAny_ready (rs:= [18]) (by kernel_rfl) (by simp) (AllReady.cons rfl (fun K hK=> ?_) AllReady.nil)
            . go_simp
              refine hK _ _ ?_;clear hK K
              have hovL:wr.drew.ownsRow (b+1) 5 1 (.slice (some ⟨og,0,none⟩) L oc) L (u8s x.out):=by
               have:=Ar (w':=wr.drew) (Aa HOV) (fun _ _=>rfl)
               rw[Aa HLL]at this;exact this
              refine wpAny_ready (rs:= [19]) (by kernel_rfl) (by simp) (AllReady.cons rfl (fun K hK=> ?_) AllReady.nil);refine step_append_lies _ rfl (.tmp 24) (.tmp 38) 23 rfl (b+1) 5 i0 (.int .u8 0) 1 1 Tryz.underlying23 hi0 hz0 hz1 hz2 rfl (by decide) (.slice (some ⟨og,0,none⟩) L oc) L (u8s x.out) rfl (hovL.alloc _) ⟨wr.heap.size,0,none⟩ 1 1 [.int .u8 (c:Int)] rfl rfl (cell_one_new wr.drew _ _) (Bf rfl) (by decide) (by unfold maxLen;omega) (by omega) (by simp;omega) _ rfl ?_;intro g5 cap5 w5 hO5 hgrow5 hspot5 hlt5
              obtain⟨q2,f25,hI5⟩:=IIs.said (c:=c) (w:=wr.drew) (v':=.slice (some ⟨g5,0,none⟩) (L+1) cap5) (Aa HIS).base (Aa HIS).no (Aa HHH) (Ar (Aa HOV) (fun _ _=>rfl)) (Ar (Aa HKV) (fun _ _=>rfl)) (Aa HAP) (Aa HN1) (Aa HN2) (fun g hg=>Aa HNo g (by have hg':wr.heap.size<=g:=hg;omega)) (by rw[Aa HLL];exact hO5) hgrow5 (by
               rcases hspot5 with h|h
               . exact .inl h.symm
               . exact .inr (by rw[h];rfl))
              have HI5:=Ab ((Aa HDR).trans hI5);refine hK _ _ ?_;clear hK K hI5 hO5 hgrow5 hspot5 hlt5 hovL;rw[Aa HLL]at q2;simp only[Act.put,VA,VD,VE];refine wpAny_take (i:=20) (v:=.pointer (some ⟨b,0,none⟩)) rfl (by kernel_rfl) (by kernel_rfl) (by kernel_rfl) (fun _ _ _ h=>h) (Or.inl ⟨by rfl,fun W=>by go_simp⟩) ?_;simp only[Act.put,VA,VD,VE];refine wpAny_take (i:=21) (v:=.pointer (some ⟨b,2,none⟩)) rfl (by kernel_rfl) (by kernel_rfl) (by kernel_rfl) (fun _ _ _ h=>h) (Or.inl ⟨by rfl,fun W=>by go_simp⟩) ?_;simp only[Act.put,VA,VD,VE];refine wpAny_ready (rs:= [22]) (by kernel_rfl) (by simp) (AllReady.cons rfl (fun K hK=> ?_) AllReady.nil);go_simp
              refine hK _ _ ?_;clear hK K;refine wpAny_done (by kernel_rfl) ?_ _;go_wp2;go_roundw
              case rel=>exact⟨i+1,{x with out:=x.out++ [c]},by omega,by go_num,Ab ⟨by show (x.out++ [c]).length+_<=_;rw[VB,Aa HLL];simp only[VH,VQ];omega,by show d<=(x.out++ [c]).length;rw[VB,Aa HLL];omega,hxe⟩,HI5,HVn⟩
              case measure=>simp[intOf];omega
      . go_simp
        refine hK _ _ ?_;clear hK K;refine wpAny_take (i:=16) (v:=.pointer (some ⟨og,q,none⟩)) rfl (by kernel_rfl) (by kernel_rfl) (by kernel_rfl) (fun _ _ _ h=>h) (Or.inl ⟨by rfl,fun W=>by go_simp⟩) ?_;simp only[Act.put,VA,VD,VE];refine wpAny_ready (rs:= [4,17]) (by kernel_rfl) (by simp) (AllReady.cons rfl (fun K hK=> ?_) (AllReady.cons rfl (fun K hK=> ?_) AllReady.nil))
        . go_simp
          refine hK _ _ ?_;clear hK K;refine wpAny_ready (rs:= [17]) (by kernel_rfl) (by simp) (AllReady.cons rfl (fun K hK=> ?_) AllReady.nil)
          . go_simp
            refine hK _ _ ?_;clear hK K;refine wpAny_ready (rs:= [18]) (by kernel_rfl) (by simp) (AllReady.cons rfl (fun K hK=> ?_) AllReady.nil)
            . go_simp
              refine hK _ _ ?_;clear hK K
              have hovL:wr.drew.ownsRow (b+1) 5 1 (.slice (some ⟨og,0,none⟩) L oc) L (u8s x.out):=by
               have:=Ar (w':=wr.drew) (Aa HOV) (fun _ _=>rfl)
               rw[Aa HLL]at this;exact this
              refine wpAny_ready (rs:= [19]) (by kernel_rfl) (by simp) (AllReady.cons rfl (fun K hK=> ?_) AllReady.nil);refine step_append_lies _ rfl (.tmp 24) (.tmp 38) 23 rfl (b+1) 5 i0 (.int .u8 0) 1 1 Tryz.underlying23 hi0 hz0 hz1 hz2 rfl (by decide) (.slice (some ⟨og,0,none⟩) L oc) L (u8s x.out) rfl (hovL.alloc _) ⟨wr.heap.size,0,none⟩ 1 1 [.int .u8 (c:Int)] rfl rfl (cell_one_new wr.drew _ _) (Bf rfl) (by decide) (by unfold maxLen;omega) (by omega) (by simp;omega) _ rfl ?_;intro g5 cap5 w5 hO5 hgrow5 hspot5 hlt5
              obtain⟨q2,f25,hI5⟩:=IIs.said (c:=c) (w:=wr.drew) (v':=.slice (some ⟨g5,0,none⟩) (L+1) cap5) (Aa HIS).base (Aa HIS).no (Aa HHH) (Ar (Aa HOV) (fun _ _=>rfl)) (Ar (Aa HKV) (fun _ _=>rfl)) (Aa HAP) (Aa HN1) (Aa HN2) (fun g hg=>Aa HNo g (by have hg':wr.heap.size<=g:=hg;omega)) (by rw[Aa HLL];exact hO5) hgrow5 (by
               rcases hspot5 with h|h
               . exact .inl h.symm
               . exact .inr (by rw[h];rfl))
              have HI5:=Ab ((Aa HDR).trans hI5);refine hK _ _ ?_;clear hK K hI5 hO5 hgrow5 hspot5 hlt5 hovL;rw[Aa HLL]at q2;simp only[Act.put,VA,VD,VE];refine wpAny_take (i:=20) (v:=.pointer (some ⟨b,0,none⟩)) rfl (by kernel_rfl) (by kernel_rfl) (by kernel_rfl) (fun _ _ _ h=>h) (Or.inl ⟨by rfl,fun W=>by go_simp⟩) ?_;simp only[Act.put,VA,VD,VE];refine wpAny_take (i:=21) (v:=.pointer (some ⟨b,2,none⟩)) rfl (by kernel_rfl) (by kernel_rfl) (by kernel_rfl) (fun _ _ _ h=>h) (Or.inl ⟨by rfl,fun W=>by go_simp⟩) ?_;simp only[Act.put,VA,VD,VE];refine wpAny_ready (rs:= [22]) (by kernel_rfl) (by simp) (AllReady.cons rfl (fun K hK=> ?_) AllReady.nil);go_simp
              refine hK _ _ ?_;clear hK K;refine wpAny_done (by kernel_rfl) ?_ _;go_wp2;go_roundw
              case rel=>exact⟨i+1,{x with out:=x.out++ [c]},by omega,by go_num,Ab ⟨by show (x.out++ [c]).length+_<=_;rw[VB,Aa HLL];simp only[VH,VQ];omega,by show d<=(x.out++ [c]).length;rw[VB,Aa HLL];omega,hxe⟩,HI5,HVn⟩
              case measure=>simp[intOf];omega
        . go_simp
          refine hK _ _ ?_;clear hK K;refine wpAny_ready (rs:= [4,18]) (by kernel_rfl) (by simp) (AllReady.cons rfl (fun K hK=> ?_) (AllReady.cons rfl (fun K hK=> ?_) AllReady.nil))
          . go_simp
            refine hK _ _ ?_;clear hK K;refine wpAny_ready (rs:= [18]) (by kernel_rfl) (by simp) (AllReady.cons rfl (fun K hK=> ?_) AllReady.nil)
            . go_simp
              refine hK _ _ ?_;clear hK K
              have hovL:wr.drew.ownsRow (b+1) 5 1 (.slice (some ⟨og,0,none⟩) L oc) L (u8s x.out):=by
               have:=Ar (w':=wr.drew) (Aa HOV) (fun _ _=>rfl)
               rw[Aa HLL]at this;exact this
              refine wpAny_ready (rs:= [19]) (by kernel_rfl) (by simp) (AllReady.cons rfl (fun K hK=> ?_) AllReady.nil);refine step_append_lies _ rfl (.tmp 24) (.tmp 38) 23 rfl (b+1) 5 i0 (.int .u8 0) 1 1 Tryz.underlying23 hi0 hz0 hz1 hz2 rfl (by decide) (.slice (some ⟨og,0,none⟩) L oc) L (u8s x.out) rfl (hovL.alloc _) ⟨wr.heap.size,0,none⟩ 1 1 [.int .u8 (c:Int)] rfl rfl (cell_one_new wr.drew _ _) (Bf rfl) (by decide) (by unfold maxLen;omega) (by omega) (by simp;omega) _ rfl ?_;intro g5 cap5 w5 hO5 hgrow5 hspot5 hlt5
              obtain⟨q2,f25,hI5⟩:=IIs.said (c:=c) (w:=wr.drew) (v':=.slice (some ⟨g5,0,none⟩) (L+1) cap5) (Aa HIS).base (Aa HIS).no (Aa HHH) (Ar (Aa HOV) (fun _ _=>rfl)) (Ar (Aa HKV) (fun _ _=>rfl)) (Aa HAP) (Aa HN1) (Aa HN2) (fun g hg=>Aa HNo g (by have hg':wr.heap.size<=g:=hg;omega)) (by rw[Aa HLL];exact hO5) hgrow5 (by
               rcases hspot5 with h|h
               . exact .inl h.symm
               . exact .inr (by rw[h];rfl))
              have HI5:=Ab ((Aa HDR).trans hI5);refine hK _ _ ?_;clear hK K hI5 hO5 hgrow5 hspot5 hlt5 hovL;rw[Aa HLL]at q2;simp only[Act.put,VA,VD,VE];refine wpAny_take (i:=20) (v:=.pointer (some ⟨b,0,none⟩)) rfl (by kernel_rfl) (by kernel_rfl) (by kernel_rfl) (fun _ _ _ h=>h) (Or.inl ⟨by rfl,fun W=>by go_simp⟩) ?_;simp only[Act.put,VA,VD,VE];refine wpAny_take (i:=21) (v:=.pointer (some ⟨b,2,none⟩)) rfl (by kernel_rfl) (by kernel_rfl) (by kernel_rfl) (fun _ _ _ h=>h) (Or.inl ⟨by rfl,fun W=>by go_simp⟩) ?_;simp only[Act.put,VA,VD,VE];refine wpAny_ready (rs:= [22]) (by kernel_rfl) (by simp) (AllReady.cons rfl (fun K hK=> ?_) AllReady.nil);go_simp
              refine hK _ _ ?_;clear hK K;refine wpAny_done (by kernel_rfl) ?_ _;go_wp2;go_roundw
              case rel=>exact⟨i+1,{x with out:=x.out++ [c]},by omega,by go_num,Ab ⟨by show (x.out++ [c]).length+_<=_;rw[VB,Aa HLL];simp only[VH,VQ];omega,by show d<=(x.out++ [c]).length;rw[VB,Aa HLL];omega,hxe⟩,HI5,HVn⟩
              case measure=>simp[intOf];omega
          . go_simp
            refine hK _ _ ?_;clear hK K;refine wpAny_ready (rs:= [4]) (by kernel_rfl) (by simp) (AllReady.cons rfl (fun K hK=> ?_) AllReady.nil)
            . go_simp
              refine hK _ _ ?_;clear hK K
              have hovL:wr.drew.ownsRow (b+1) 5 1 (.slice (some ⟨og,0,none⟩) L oc) L (u8s x.out):=by
               have:=Ar (w':=wr.drew) (Aa HOV) (fun _ _=>rfl)
               rw[Aa HLL]at this;exact this
              refine wpAny_ready (rs:= [19]) (by kernel_rfl) (by simp) (AllReady.cons rfl (fun K hK=> ?_) AllReady.nil);refine step_append_lies _ rfl (.tmp 24) (.tmp 38) 23 rfl (b+1) 5 i0 (.int .u8 0) 1 1 Tryz.underlying23 hi0 hz0 hz1 hz2 rfl (by decide) (.slice (some ⟨og,0,none⟩) L oc) L (u8s x.out) rfl (hovL.alloc _) ⟨wr.heap.size,0,none⟩ 1 1 [.int .u8 (c:Int)] rfl rfl (cell_one_new wr.drew _ _) (Bf rfl) (by decide) (by unfold maxLen;omega) (by omega) (by simp;omega) _ rfl ?_;intro g5 cap5 w5 hO5 hgrow5 hspot5 hlt5
              obtain⟨q2,f25,hI5⟩:=IIs.said (c:=c) (w:=wr.drew) (v':=.slice (some ⟨g5,0,none⟩) (L+1) cap5) (Aa HIS).base (Aa HIS).no (Aa HHH) (Ar (Aa HOV) (fun _ _=>rfl)) (Ar (Aa HKV) (fun _ _=>rfl)) (Aa HAP) (Aa HN1) (Aa HN2) (fun g hg=>Aa HNo g (by have hg':wr.heap.size<=g:=hg;omega)) (by rw[Aa HLL];exact hO5) hgrow5 (by
               rcases hspot5 with h|h
               . exact .inl h.symm
               . exact .inr (by rw[h];rfl))
              have HI5:=Ab ((Aa HDR).trans hI5);refine hK _ _ ?_;clear hK K hI5 hO5 hgrow5 hspot5 hlt5 hovL;rw[Aa HLL]at q2;simp only[Act.put,VA,VD,VE];refine wpAny_take (i:=20) (v:=.pointer (some ⟨b,0,none⟩)) rfl (by kernel_rfl) (by kernel_rfl) (by kernel_rfl) (fun _ _ _ h=>h) (Or.inl ⟨by rfl,fun W=>by go_simp⟩) ?_;simp only[Act.put,VA,VD,VE];refine wpAny_take (i:=21) (v:=.pointer (some ⟨b,2,none⟩)) rfl (by kernel_rfl) (by kernel_rfl) (by kernel_rfl) (fun _ _ _ h=>h) (Or.inl ⟨by rfl,fun W=>by go_simp⟩) ?_;simp only[Act.put,VA,VD,VE];refine wpAny_ready (rs:= [22]) (by kernel_rfl) (by simp) (AllReady.cons rfl (fun K hK=> ?_) AllReady.nil);go_simp
              refine hK _ _ ?_;clear hK K;refine wpAny_done (by kernel_rfl) ?_ _;go_wp2;go_roundw
              case rel=>exact⟨i+1,{x with out:=x.out++ [c]},by omega,by go_num,Ab ⟨by show (x.out++ [c]).length+_<=_;rw[VB,Aa HLL];simp only[VH,VQ];omega,by show d<=(x.out++ [c]).length;rw[VB,Aa HLL];omega,hxe⟩,HI5,HVn⟩
              case measure=>simp[intOf];omega
  . obtain rfl:i=k:=by omega
    have HF:Hid (V=x):=Ab (by rw[Aa hVi,XK];rfl);clear hVi;go_wp2;go_end0
    exact .inl ⟨by rw[Aa HF];exact hxe,rfl,by rw[Aa HF];exact Aa hI⟩
end Go.Proofs.YtieianhejdcgdaaGreatDoor
