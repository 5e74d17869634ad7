import Derived.Test.YtleocpdblhbimaaGreatDoorQS
import Derived.Test.YtleocpdblhbimaaGreatDoorQ6
set_option linter.unusedSimpArgs false
set_option maxHeartbeats 8000000
namespace Go.Proofs.YtleocpdblhbimaaGreatDoor
open Go.RowKit
set_option linter.unusedVariables false
set_option maxRecDepth 100000
theorem Z18 (e8:Option Addr)(c n:Nat)(co:List Ev)(w:World)(h:RsIn w e8 co)(eg:co.length=n)(ii:n<=12)(ej:∀x∈co,EWd x.e):
 Calls Tryz.prog 40 #[.slice e8 n c] w fun e w'=>∃v,e=.returned v/\PIn w' v (Be (co.map Ev.e))/\Below w.heap.size w w':=by
 obtain⟨l,dj⟩:=exq (co.map Ev.e);have fu:l.length=n:=by rw[<-dj];simpa using eg
 have ek:∀x∈l,EWd x:=by
  rw[<-dj];intro x ck;obtain⟨y,gd,rfl⟩:=XG.1 ck;exact ej y gd
 have fq:∀k,(Av (l.take k)).length<=24041*12:=fun k=>by
  have ht:=CU (l.take k) (fun x ck=>ek x (VR ck));have gx:(l.take k).length<=12:=by rw[VL];omega
  omega
 have ey:∀k,(Ao 0 (l.take k)).length<=12057*12:=fun k=>by
  have ht:=Zu (l.take k) 0 (fun x ck=>ek x (VR ck));have gx:(l.take k).length<=12:=by rw[VL];omega
  omega
 rw[dj];have fe:∀(k:Nat) (x:Ev),co[k]? =some x->l[k]? =some x.e:=fun k x en=>by rw[<-dj];simp[en]
 have fw:=Ab h;have du:=Ab fq;have d5:=Ab ey;have f8:=Ab ej;have f4:=Ab fu;have g5:=Ab eg;have gz:=Ab fe;clear h fq ey ej fu eg fe ek dj;go_enter Tryz.func40,Tryz.ntmps40
 go_wp2;go_loopw [3,4,6,7,8,9,12] (fun ha dy _ _ _ _ i wr=>∃k:Nat,k<=n/\i=.int .i64 (k:Int)/\Hid (PIn wr ha (Av (l.take k))/\PIn wr dy (Ao 0 (l.take k))/\Below w.heap.size w wr)) (fun _ _ _ _ _ _ i _=>n-(intOf i).toNat)
 case atStart=>exact⟨0,VH _,rfl,PIn.nil _,PIn.nil _,Below.refl _ _⟩
 case round=>
  obtain⟨k,en,rfl,bv⟩:=hrel;obtain⟨b7,ag,b3,rfl,dt⟩:=(Aa bv).1.sized;obtain⟨a5,ao,bb,rfl,dv⟩:=(Aa bv).2.1.sized;have hx:=Aa du k;have h7:=Aa d5 k;rw[dt]at hx;rw[dv]at h7;have d6:=Ab dt;have gv:=Ab dv;clear dt dv
  by_cases g8:k<n
  . obtain⟨x,ck,eh⟩:∃x,co[k]? =some x/\x∈co:=⟨co[k]'(by rw[Aa g5];exact g8),VP _,WK _⟩
    obtain⟨b,o,rfl,hb,c0,c1,c2,fg,al,ct,cj,ay⟩:=(Aa fw).get (Aa bv).2.2 ck;have e7:=Aa gz k x ck;have e9:=Ab ((Aa fw).all x eh);have gq:=Aa f8 x eh;have ep:=Ab (Eu e7);obtain⟨x,fa,fc,pa,pc⟩:=x;obtain⟨⟨nml,bys,e0,fi,gn⟩,mt,pk,cr⟩:=x;obtain⟨⟨hk,st1⟩,⟨gg,g4⟩,ds,e5,dz,hf,f6⟩:=gq;simp only at hk st1 gg g4 ds e5 dz hf f6
    obtain⟨st,rfl⟩:∃st:Nat,e0=(st:Int):=⟨e0.toNat,by omega⟩
    obtain⟨nd,rfl⟩:∃nd:Nat,fi=(nd:Int):=⟨fi.toNat,by omega⟩
    dsimp only at c0 c1 c2 fg al ct cj ay;obtain⟨nm,dp⟩:=exq (B nml);obtain⟨bf,dn⟩:=exq (nml.length);obtain⟨bl,dw⟩:=exq (bys.length);obtain⟨pl,ee⟩:=exq (pk.length);have ik:nm.size=bf:=by rw[<-dp,Im,dn]
    rw[dp]at c0;rw[dw]at c1 e5;rw[ee]at cj dz;rw[dn]at ds;have cu:=Ab dp;have dm:=Ab dn;have fo:=Ab dw;have dq:=Ab ee;clear ck eh e7 dp dn dw ee;have hz:= @run_makeMap Tryz.prog;have e1:=Z4n (wr.alloc (.cells #[.string nm,.slice fa bl fc,.int .i64 (st:Int),.int .i64 (nd:Int),.bool gn,.int .i64 (mt:Int),.slice pa pl pc,.int .u32 (cr:Int)] 37));have d7:=Z10 ((wr.alloc (.cells #[.string nm,.slice fa bl fc,.int .i64 (st:Int),.int .i64 (nd:Int),.bool gn,.int .i64 (mt:Int),.slice pa pl pc,.int .u32 (cr:Int)] 37)).alloc (.map X7 1)) _ gn (heap_alloc_new _ _);simp only[World.size_alloc]at e1 d7;have em:(if gn then 1 else 0:Int)=((Ed gn:Nat):Int):=by cases gn<;>rfl
    rw[em]at d7;have ir:Ed gn<=1:=by cases gn<;>decide
    clear em;go_upto_region 6 with fail
    have dr:Below wr.heap.size wr ((wr.alloc (.cells #[.string nm,.slice fa bl fc,.int .i64 (st:Int),.int .i64 (nd:Int),.bool gn,.int .i64 (mt:Int),.slice pa pl pc,.int .u32 (cr:Int)] 37)).alloc (.map X7 1)):=((Below.refl _ _).alloc (VB _) _).alloc (by simp) _;have cn:((wr.alloc (.cells #[.string nm,.slice fa bl fc,.int .i64 (st:Int),.int .i64 (nd:Int),.bool gn,.int .i64 (mt:Int),.slice pa pl pc,.int .u32 (cr:Int)] 37)).alloc (.map X7 1)).heap[wr.heap.size]? =some (.cells #[.string nm,.slice fa bl fc,.int .i64 (st:Int),.int .i64 (nd:Int),.bool gn,.int .i64 (mt:Int),.slice pa pl pc,.int .u32 (cr:Int)] 37 (0,0)):=(heap_alloc_old _ _ (by simp)).trans (heap_alloc_new wr _);have ac:=Ab (show PIn ((wr.alloc (.cells #[.string nm,.slice fa bl fc,.int .i64 (st:Int),.int .i64 (nd:Int),.bool gn,.int .i64 (mt:Int),.slice pa pl pc,.int .u32 (cr:Int)] 37)).alloc (.map X7 1)) (.slice b7 ag b3) _/\PIn _ (.slice a5 ao bb) _/\Below w.heap.size w _ from ⟨(Aa bv).1.below dr,(Aa bv).2.1.below dr,(Aa bv).2.2.trans (dr.mono (Aa bv).2.2.size)⟩);have cw:=Ab ((Aa e9).1.below (Aa ac).2.2);have U:wr.heap.size<((wr.alloc (.cells #[.string nm,.slice fa bl fc,.int .i64 (st:Int),.int .i64 (nd:Int),.bool gn,.int .i64 (mt:Int),.slice pa pl pc,.int .u32 (cr:Int)] 37)).alloc (.map X7 1)).heap.size:=by simp;omega
    clear e1 d7 hz c0 c1 c2 fg al ct cj ay dr bv;generalize hg:(wr.alloc (.cells #[.string nm,.slice fa bl fc,.int .i64 (st:Int),.int .i64 (nd:Int),.bool gn,.int .i64 (mt:Int),.slice pa pl pc,.int .u32 (cr:Int)] 37)).alloc (.map X7 1)=bg at*;clear hg;have bq:=Ac (i:=0) cn;have x1:=Ac (i:=1) cn;have x2:=Ac (i:=2) cn;have x3:=Ac (i:=3) cn;have x4:=Ac (i:=4) cn;have ce:=Ac (i:=5) cn;have b4:=Ac (i:=6) cn;have b9:=Ac (i:=7) cn;simp only[VZ,VY,WI]at bq x1 x2 x3 x4 ce b4 b9;clear cn;go_cut [8] (fun h0 af=>Hid (PIn af h0 ([Ag 29297 2,Ag 7 2,Ag st 4,Ag nd 2,Ag (Ed gn) 1]:List (List Nat)).flatten/\Below bg.heap.size bg af))
    case first=>
     refine wp_region_held_drew (S:=fun W=>Below bg.heap.size bg W) (by kernel_rfl) (Ae (Below.refl _ _) 1) (fun F=> ?_);generalize bg.drew=bh at F ⊢;refine tkH (i:=2) (v:=.pointer (some ⟨wr.heap.size,0,none⟩)) F ?_;simp only[Act.put,VA,VC,VD];refine tkH (i:=3) (v:=.pointer (some ⟨wr.heap.size,2,none⟩)) F ?_;simp only[Act.put,VA,VC,VD];refine wpAnyH_take (i:=4) (v:=.int .i64 (st:Int)) rfl (by kernel_rfl) (by kernel_rfl) (by kernel_rfl) (fun _ _ _ h=>h) (Or.inl ⟨by rfl,fun W ar=>by have hc:=(ar.cell (p:=⟨wr.heap.size,2,none⟩) U).trans x2;go_simp⟩) F ?_;simp only[Act.put,VA,VC,VD];refine tkH (i:=6) (v:=.pointer (some ⟨wr.heap.size,0,none⟩)) F ?_;simp only[Act.put,VA,VC,VD];refine tkH (i:=7) (v:=.pointer (some ⟨wr.heap.size,3,none⟩)) F ?_;simp only[Act.put,VA,VC,VD];refine wpAnyH_take (i:=8) (v:=.int .i64 (nd:Int)) rfl (by kernel_rfl) (by kernel_rfl) (by kernel_rfl) (fun _ _ _ h=>h) (Or.inl ⟨by rfl,fun W ar=>by have hc:=(ar.cell (p:=⟨wr.heap.size,3,none⟩) U).trans x3;go_simp⟩) F ?_;simp only[Act.put,VA,VC,VD];refine tkH (i:=10) (v:=.int .i64 ((Ed gn:Nat):Int)) F ?_;simp only[Act.put,VA,VC,VD];refine rdH (i:=0) fun K hK=> ?_
     go_simp
     refine(Ar 29297 2 _ (by decide) (by decide)).mono ?_;rintro e bh ⟨c6,dh,c0,rfl,ah,E⟩;have G:Below bg.heap.size bg bh:=F.trans (E.mono F.size);dsimp only;refine hK.out _ _ G (fun H=> ?_);clear hK K F E H;have F:=G;clear G;refine rdH (i:=1) fun K hK=> ?_
     go_simp
     refine(Ar 7 2 _ (by decide) (by decide)).mono ?_;rintro e ap ⟨ai,l1,c1,rfl,I,E⟩;have G:Below bg.heap.size bg ap:=F.trans (E.mono F.size);replace ah:=ah.below E;dsimp only;refine hK.out _ _ G (fun H=> ?_);clear hK K F E H;have F:=G;clear G;refine rdH (i:=5) fun K hK=> ?_
     go_simp
     refine(Ar st 4 _ (by omega) (by decide)).mono ?_;rintro e ed ⟨dc,c9,ct,rfl,az,E⟩;have G:Below bg.heap.size bg ed:=F.trans (E.mono F.size);replace ah:=ah.below E;replace I:=I.below E;dsimp only;refine hK.out _ _ G (fun H=> ?_);clear hK K F E H;have F:=G;clear G;refine rdH (i:=9) fun K hK=> ?_
     go_simp
     refine(Ar nd 2 _ (by omega) (by decide)).mono ?_;rintro e d8 ⟨da,df,de,rfl,ax,E⟩;have G:Below bg.heap.size bg d8:=F.trans (E.mono F.size);replace ah:=ah.below E;replace I:=I.below E;replace az:=az.below E;dsimp only;refine hK.out _ _ G (fun H=> ?_);clear hK K F E H;have F:=G;clear G;refine rdH (i:=11) fun K hK=> ?_
     go_simp
     refine(Ar (Ed gn) 1 _ (by omega) (by decide)).mono ?_;rintro e hp ⟨av,aw,a1,rfl,ae,E⟩;have G:Below bg.heap.size bg hp:=F.trans (E.mono F.size);replace ah:=ah.below E;replace I:=I.below E;replace az:=az.below E;replace ax:=ax.below E;dsimp only;refine hK.out _ _ G (fun H=> ?_);clear hK K F E H;have F:=G;clear G;refine rdH (i:=12) fun K hK=> ?_
     go_simp
     have G:=F.alloc F.size (.cells #[.slice c6 dh c0,.slice ai l1 c1,.slice dc c9 ct,.slice da df de,.slice av aw a1] 23);refine hK.out _ _ G (fun H=> ?_);clear hK K H;refine rdH (i:=13) fun K hK=> ?_
     go_simp
     refine(Cz _ [.slice c6 dh c0,.slice ai l1 c1,.slice dc c9 ct,.slice da df de,.slice av aw a1] [Ag 29297 2,Ag 7 2,Ag st 4,Ag nd 2,Ag (Ed gn) 1] _ _ 5 5 (PIns.cons ah (PIns.cons I (PIns.cons az (PIns.cons ax (PIns.cons ae .nil))))) rfl rfl (by decide) (by simp[Ai])).mono ?_;rintro e b5 ⟨ci,cd,b8,rfl,ak,E⟩;have Y:=F.trans (E.mono F.size);dsimp only;refine hK.out _ _ Y (fun H=> ?_);clear hK K H;refine rdH (i:=14) fun K hK=> ?_
     go_simp
     refine hK.out _ _ Y (fun H=> ?_);clear hK K H;refine wpAnyH_done (by kernel_rfl) ?_ _;go_wp2_with fail
     go_meet
     exact Ab ⟨ak,Y⟩
    case rest=>
     rename World=>af
     obtain⟨d9,T⟩:=Aa hcut;replace bq:=(T.cell (p:=⟨wr.heap.size,0,none⟩) U).trans bq;replace x1:=(T.cell (p:=⟨wr.heap.size,1,none⟩) U).trans x1;replace x2:=(T.cell (p:=⟨wr.heap.size,2,none⟩) U).trans x2;replace x3:=(T.cell (p:=⟨wr.heap.size,3,none⟩) U).trans x3;replace x4:=(T.cell (p:=⟨wr.heap.size,4,none⟩) U).trans x4;replace ce:=(T.cell (p:=⟨wr.heap.size,5,none⟩) U).trans ce;replace b4:=(T.cell (p:=⟨wr.heap.size,6,none⟩) U).trans b4;replace b9:=(T.cell (p:=⟨wr.heap.size,7,none⟩) U).trans b9;replace U:=VG U T.size;replace ac:=Ab (show PIn af (.slice b7 ag b3) _/\PIn af (.slice a5 ao bb) _/\Below w.heap.size w af from ⟨(Aa ac).1.below T,(Aa ac).2.1.below T,(Aa ac).2.2.trans (T.mono (Aa ac).2.2.size)⟩);replace cw:=Ab ((Aa cw).below T);obtain⟨bd,bc,a9,rfl⟩:=d9.slice;have b0:=Ab d9;clear hcut T d9;have g9:IntKind.i64.wrap (cr:Int)=(cr:Int):=by simp[IntKind.wrap,IntKind.signed,IntKind.bits];omega
     go_upto_region 7 with fail
     go_cut [9] (fun hs O=>Hid (PIn O hs ([Ag 20 2,Ag 0 2,Ag mt 2,Ag 0 4,Ag cr 4,Ag pl 4,Ag bl 4,Ag bf 2,Ag 11 2]:List (List Nat)).flatten/\Below af.heap.size af O))
     case first=>
      refine wp_region_held_drew (S:=fun W=>Below af.heap.size af W) (by kernel_rfl) (Ae (Below.refl _ _) 1) (fun F=> ?_);generalize af.drew=bh at F ⊢;refine tkH (i:=2) (v:=.pointer (some ⟨wr.heap.size,5,none⟩)) F ?_;simp only[Act.put,VA,VC,VD];refine wpAnyH_take (i:=3) (v:=.int .i64 (mt:Int)) rfl (by kernel_rfl) (by kernel_rfl) (by kernel_rfl) (fun _ _ _ h=>h) (Or.inl ⟨by rfl,fun W ar=>by have hc:=(ar.cell (p:=⟨wr.heap.size,5,none⟩) U).trans ce;go_simp⟩) F ?_;simp only[Act.put,VA,VC,VD];refine tkH (i:=6) (v:=.pointer (some ⟨wr.heap.size,7,none⟩)) F ?_;simp only[Act.put,VA,VC,VD];refine wpAnyH_take (i:=7) (v:=.int .u32 (cr:Int)) rfl (by kernel_rfl) (by kernel_rfl) (by kernel_rfl) (fun _ _ _ h=>h) (Or.inl ⟨by rfl,fun W ar=>by have hc:=(ar.cell (p:=⟨wr.heap.size,7,none⟩) U).trans b9;go_simp⟩) F ?_;simp only[Act.put,VA,VC,VD];refine tkH (i:=8) (v:=.int .i64 (cr:Int)) F ?_;simp only[Act.put,VA,VC,VD];refine tkH (i:=10) (v:=.pointer (some ⟨wr.heap.size,6,none⟩)) F ?_;simp only[Act.put,VA,VC,VD];refine wpAnyH_take (i:=11) (v:=.slice pa pl pc) rfl (by kernel_rfl) (by kernel_rfl) (by kernel_rfl) (fun _ _ _ h=>h) (Or.inl ⟨by rfl,fun W ar=>by have hc:=(ar.cell (p:=⟨wr.heap.size,6,none⟩) U).trans b4;go_simp⟩) F ?_;simp only[Act.put,VA,VC,VD];refine tkH (i:=12) (v:=.int .i64 (pl:Int)) F ?_;simp only[Act.put,VA,VC,VD];refine tkH (i:=14) (v:=.pointer (some ⟨wr.heap.size,0,none⟩)) F ?_;simp only[Act.put,VA,VC,VD];refine tkH (i:=15) (v:=.pointer (some ⟨wr.heap.size,1,none⟩)) F ?_;simp only[Act.put,VA,VC,VD];refine wpAnyH_take (i:=16) (v:=.slice fa bl fc) rfl (by kernel_rfl) (by kernel_rfl) (by kernel_rfl) (fun _ _ _ h=>h) (Or.inl ⟨by rfl,fun W ar=>by have hc:=(ar.cell (p:=⟨wr.heap.size,1,none⟩) U).trans x1;go_simp⟩) F ?_;simp only[Act.put,VA,VC,VD];refine tkH (i:=17) (v:=.int .i64 (bl:Int)) F ?_;simp only[Act.put,VA,VC,VD];refine tkH (i:=19) (v:=.pointer (some ⟨wr.heap.size,0,none⟩)) F ?_;simp only[Act.put,VA,VC,VD];refine tkH (i:=20) (v:=.pointer (some ⟨wr.heap.size,0,none⟩)) F ?_;simp only[Act.put,VA,VC,VD];refine wpAnyH_take (i:=21) (v:=.string nm) rfl (by kernel_rfl) (by kernel_rfl) (by kernel_rfl) (fun _ _ _ h=>h) (Or.inl ⟨by rfl,fun W ar=>by have hc:=(ar.cell (p:=⟨wr.heap.size,0,none⟩) U).trans bq;go_simp⟩) F ?_;simp only[Act.put,VA,VC,VD];refine tkH (i:=22) (v:=.int .i64 (bf:Int)) F ?_;simp only[Act.put,VA,VC,VD];refine rdH (i:=0) fun K hK=> ?_
      go_simp
      refine(Ar 20 2 _ (by decide) (by decide)).mono ?_;rintro e bh ⟨c6,dh,c0,rfl,ah,E⟩;have G:Below af.heap.size af bh:=F.trans (E.mono F.size);dsimp only;refine hK.out _ _ G (fun H=> ?_);clear hK K F E H;have F:=G;clear G;refine rdH (i:=1) fun K hK=> ?_
      go_simp
      refine(Ar 0 2 _ (by decide) (by decide)).mono ?_;rintro e ap ⟨ai,l1,c1,rfl,I,E⟩;have G:Below af.heap.size af ap:=F.trans (E.mono F.size);replace ah:=ah.below E;dsimp only;refine hK.out _ _ G (fun H=> ?_);clear hK K F E H;have F:=G;clear G;refine rdH (i:=4) fun K hK=> ?_
      go_simp
      refine(Ar mt 2 _ (by omega) (by decide)).mono ?_;rintro e bn ⟨a3,a2,al,rfl,Z,E⟩;have G:Below af.heap.size af bn:=F.trans (E.mono F.size);replace ah:=ah.below E;replace I:=I.below E;dsimp only;refine hK.out _ _ G (fun H=> ?_);clear hK K F E H;have F:=G;clear G;refine rdH (i:=5) fun K hK=> ?_
      go_simp
      refine(Ar 0 4 _ (by decide) (by decide)).mono ?_;rintro e ed ⟨dc,c9,ct,rfl,az,E⟩;have G:Below af.heap.size af ed:=F.trans (E.mono F.size);replace ah:=ah.below E;replace I:=I.below E;replace Z:=Z.below E;dsimp only;refine hK.out _ _ G (fun H=> ?_);clear hK K F E H;have F:=G;clear G;refine rdH (i:=9) fun K hK=> ?_
      go_simp
      refine(Ar cr 4 _ (by omega) (by decide)).mono ?_;rintro e d8 ⟨da,df,de,rfl,ax,E⟩;have G:Below af.heap.size af d8:=F.trans (E.mono F.size);replace ah:=ah.below E;replace I:=I.below E;replace Z:=Z.below E;replace az:=az.below E;dsimp only;refine hK.out _ _ G (fun H=> ?_);clear hK K F E H;have F:=G;clear G;refine rdH (i:=13) fun K hK=> ?_
      go_simp
      refine(Ar pl 4 _ (by omega) (by decide)).mono ?_;rintro e gy ⟨ff,fj,fm,rfl,cv,E⟩;have G:Below af.heap.size af gy:=F.trans (E.mono F.size);replace ah:=ah.below E;replace I:=I.below E;replace Z:=Z.below E;replace az:=az.below E;replace ax:=ax.below E;dsimp only;refine hK.out _ _ G (fun H=> ?_);clear hK K F E H;have F:=G;clear G;refine rdH (i:=18) fun K hK=> ?_
      go_simp
      refine(Ar bl 4 _ (by omega) (by decide)).mono ?_;rintro e h9 ⟨fk,ft,fy,rfl,c8,E⟩;have G:Below af.heap.size af h9:=F.trans (E.mono F.size);replace ah:=ah.below E;replace I:=I.below E;replace Z:=Z.below E;replace az:=az.below E;replace ax:=ax.below E;replace cv:=cv.below E;dsimp only;refine hK.out _ _ G (fun H=> ?_);clear hK K F E H;have F:=G;clear G;refine rdH (i:=23) fun K hK=> ?_
      go_simp
      refine(Ar bf 2 _ (by omega) (by decide)).mono ?_;rintro e h8 ⟨eo,f5,e6,rfl,dx,E⟩;have G:Below af.heap.size af h8:=F.trans (E.mono F.size);replace ah:=ah.below E;replace I:=I.below E;replace Z:=Z.below E;replace az:=az.below E;replace ax:=ax.below E;replace cv:=cv.below E;replace c8:=c8.below E;dsimp only;refine hK.out _ _ G (fun H=> ?_);clear hK K F E H;have F:=G;clear G;refine rdH (i:=24) fun K hK=> ?_
      go_simp
      refine(Ar 11 2 _ (by decide) (by decide)).mono ?_;rintro e hh ⟨fx,fp,ew,rfl,ia,E⟩;have G:Below af.heap.size af hh:=F.trans (E.mono F.size);replace ah:=ah.below E;replace I:=I.below E;replace Z:=Z.below E;replace az:=az.below E;replace ax:=ax.below E;replace cv:=cv.below E;replace c8:=c8.below E;replace dx:=dx.below E;dsimp only;refine hK.out _ _ G (fun H=> ?_);clear hK K F E H;have F:=G;clear G;refine rdH (i:=25) fun K hK=> ?_
      go_simp
      have G:=F.alloc F.size (.cells #[.slice c6 dh c0,.slice ai l1 c1,.slice a3 a2 al,.slice dc c9 ct,.slice da df de,.slice ff fj fm,.slice fk ft fy,.slice eo f5 e6,.slice fx fp ew] 23);refine hK.out _ _ G (fun H=> ?_);clear hK K H;refine rdH (i:=26) fun K hK=> ?_
      go_simp
      refine(Cz _ [.slice c6 dh c0,.slice ai l1 c1,.slice a3 a2 al,.slice dc c9 ct,.slice da df de,.slice ff fj fm,.slice fk ft fy,.slice eo f5 e6,.slice fx fp ew] [Ag 20 2,Ag 0 2,Ag mt 2,Ag 0 4,Ag cr 4,Ag pl 4,Ag bl 4,Ag bf 2,Ag 11 2] _ _ 9 9 (PIns.cons ah (PIns.cons I (PIns.cons Z (PIns.cons az (PIns.cons ax (PIns.cons cv (PIns.cons c8 (PIns.cons dx (PIns.cons ia .nil))))))))) rfl rfl (by decide) (by simp[Ai])).mono ?_;rintro e b5 ⟨ci,cd,b8,rfl,ak,E⟩;have Y:=F.trans (E.mono F.size);dsimp only;refine hK.out _ _ Y (fun H=> ?_);clear hK K H;refine rdH (i:=27) fun K hK=> ?_
      go_simp
      refine hK.out _ _ Y (fun H=> ?_);clear hK K H;refine wpAnyH_done (by kernel_rfl) ?_ _;go_wp2_with fail
      go_meet
      exact Ab ⟨ak,Y⟩
     case rest=>
      rename World=>O
      obtain⟨ax,T⟩:=Aa hcut;replace bq:=(T.cell (p:=⟨wr.heap.size,0,none⟩) U).trans bq;replace x1:=(T.cell (p:=⟨wr.heap.size,1,none⟩) U).trans x1;replace x2:=(T.cell (p:=⟨wr.heap.size,2,none⟩) U).trans x2;replace x3:=(T.cell (p:=⟨wr.heap.size,3,none⟩) U).trans x3;replace x4:=(T.cell (p:=⟨wr.heap.size,4,none⟩) U).trans x4;replace ce:=(T.cell (p:=⟨wr.heap.size,5,none⟩) U).trans ce;replace b4:=(T.cell (p:=⟨wr.heap.size,6,none⟩) U).trans b4;replace b9:=(T.cell (p:=⟨wr.heap.size,7,none⟩) U).trans b9;replace U:=VG U T.size;replace ac:=Ab (show PIn O (.slice b7 ag b3) _/\PIn O (.slice a5 ao bb) _/\Below w.heap.size w O from ⟨(Aa ac).1.below T,(Aa ac).2.1.below T,(Aa ac).2.2.trans (T.mono (Aa ac).2.2.size)⟩);replace cw:=Ab ((Aa cw).below T);replace b0:=Ab ((Aa b0).below T);obtain⟨ba,a4,a6,rfl⟩:=ax.slice;have cp:=Ab ax;clear hcut T ax g9;have c7:=Ab (Z9k (Ao 0 (l.take k)) nml mt cr pl bl bf st nd gn ag (Aa d5 k) (by rw[Aa dm];exact ds));go_upto_region 8 with fail
      go_cut [4] (fun dy au=>Hid (PIn au dy ([Ao 0 (l.take k),Ag 33639248 4,Ag 20 2,([Ag 20 2,Ag 0 2,Ag mt 2,Ag 0 4,Ag cr 4,Ag pl 4,Ag bl 4,Ag bf 2,Ag 11 2]:List (List Nat)).flatten,Ag 0 10,Ag ag 4,n8 nml,([Ag 29297 2,Ag 7 2,Ag st 4,Ag nd 2,Ag (Ed gn) 1]:List (List Nat)).flatten]:List (List Nat)).flatten/\Below O.heap.size O au))
      case first=>
       have eb:=Z2z nm;refine wp_region_held_drew (S:=fun W=>Below O.heap.size O W) (by kernel_rfl) (Ae (Below.refl _ _) 1) (fun F=> ?_);generalize O.drew=bh at F ⊢;refine tkH (i:=0) (v:=.slice a5 ao bb) F ?_;simp only[Act.put,VA,VC,VD];refine tkH (i:=3) (v:=.slice ba a4 a6) F ?_;simp only[Act.put,VA,VC,VD];refine tkH (i:=5) (v:=.slice b7 ag b3) F ?_;simp only[Act.put,VA,VC,VD];refine tkH (i:=6) (v:=.int .i64 (ag:Int)) F ?_;simp only[Act.put,VA,VC,VD];refine tkH (i:=8) (v:=.pointer (some ⟨wr.heap.size,0,none⟩)) F ?_;simp only[Act.put,VA,VC,VD];refine tkH (i:=9) (v:=.pointer (some ⟨wr.heap.size,0,none⟩)) F ?_;simp only[Act.put,VA,VC,VD];refine wpAnyH_take (i:=10) (v:=.string nm) rfl (by kernel_rfl) (by kernel_rfl) (by kernel_rfl) (fun _ _ _ h=>h) (Or.inl ⟨by rfl,fun W ar=>by have hc:=(ar.cell (p:=⟨wr.heap.size,0,none⟩) U).trans bq;go_simp⟩) F ?_;simp only[Act.put,VA,VC,VD];refine tkH (i:=12) (v:=.slice bd bc a9) F ?_;simp only[Act.put,VA,VC,VD];refine wpAnyH_ready (rs:= [1,11]) (by kernel_rfl) (by simp) (AllReadyH.cons rfl (fun K hK=> ?_) (AllReadyH.cons rfl (fun K hK=> ?_) AllReadyH.nil))
       . go_simp
         refine(Ar 33639248 4 _ (by decide) (by decide)).mono ?_;rintro e ap ⟨ai,l1,c1,rfl,I,E⟩;have G:Below O.heap.size O ap:=F.trans (E.mono F.size);dsimp only;refine hK.out _ _ G (fun H=> ?_);clear hK K F E H;have F:=G;clear G;refine wpAnyH_ready (rs:= [2,11]) (by kernel_rfl) (by simp) (AllReadyH.cons rfl (fun K hK=> ?_) (AllReadyH.cons rfl (fun K hK=> ?_) AllReadyH.nil))
         . go_simp
           refine(Ar 20 2 _ (by decide) (by decide)).mono ?_;rintro e cm ⟨bu,l2,c2,rfl,aa,E⟩;have G:Below O.heap.size O cm:=F.trans (E.mono F.size);replace I:=I.below E;dsimp only;refine hK.out _ _ G (fun H=> ?_);clear hK K F E H;have F:=G;clear G;refine wpAnyH_ready (rs:= [4,11]) (by kernel_rfl) (by simp) (AllReadyH.cons rfl (fun K hK=> ?_) (AllReadyH.cons rfl (fun K hK=> ?_) AllReadyH.nil))
           . go_simp
             refine(Ar 0 10 _ (by decide) (by decide)).mono ?_;rintro e bn ⟨a3,a2,al,rfl,Z,E⟩;have G:Below O.heap.size O bn:=F.trans (E.mono F.size);replace I:=I.below E;replace aa:=aa.below E;dsimp only;refine hK.out _ _ G (fun H=> ?_);clear hK K F E H;have F:=G;clear G;refine wpAnyH_ready (rs:= [7,11]) (by kernel_rfl) (by simp) (AllReadyH.cons rfl (fun K hK=> ?_) (AllReadyH.cons rfl (fun K hK=> ?_) AllReadyH.nil))
             . go_simp
               refine(Ar ag 4 _ (by omega) (by decide)).mono ?_;rintro e bm ⟨bk,bi,ay,rfl,bz,E⟩;have G:Below O.heap.size O bm:=F.trans (E.mono F.size);replace I:=I.below E;replace aa:=aa.below E;replace Z:=Z.below E;dsimp only;refine hK.out _ _ G (fun H=> ?_);clear hK K F E H;have F:=G;clear G;refine rdH (i:=11) fun K hK=> ?_
               go_simp
               have M:=Sj bm nm nml (Aa cu);generalize cvW bm nm=bo at M ⊢;generalize cvC bm nm=a1 at M ⊢;generalize cvA bm=av at M ⊢;generalize cvL nm=aw at M ⊢;have ae:=M.1;have E:=M.2;clear M;have G:Below O.heap.size O bo:=F.trans (E.mono F.size);replace I:=I.below E;replace aa:=aa.below E;replace Z:=Z.below E;replace bz:=bz.below E;refine hK.out _ _ G (fun H=> ?_);clear hK K F E H;have F:=G;clear G;refine rdH (i:=13) fun K hK=> ?_
               go_simp
               have G:=F.alloc F.size (.cells #[.slice a5 ao bb,.slice ai l1 c1,.slice bu l2 c2,.slice ba a4 a6,.slice a3 a2 al,.slice bk bi ay,.slice av aw a1,.slice bd bc a9] 23);refine hK.out _ _ G (fun H=> ?_);clear hK K H;refine rdH (i:=14) fun K hK=> ?_
               go_simp
               refine(Cz _ [.slice a5 ao bb,.slice ai l1 c1,.slice bu l2 c2,.slice ba a4 a6,.slice a3 a2 al,.slice bk bi ay,.slice av aw a1,.slice bd bc a9] [Ao 0 (l.take k),Ag 33639248 4,Ag 20 2,([Ag 20 2,Ag 0 2,Ag mt 2,Ag 0 4,Ag cr 4,Ag pl 4,Ag bl 4,Ag bf 2,Ag 11 2]:List (List Nat)).flatten,Ag 0 10,Ag ag 4,n8 nml,([Ag 29297 2,Ag 7 2,Ag st 4,Ag nd 2,Ag (Ed gn) 1]:List (List Nat)).flatten] _ _ 8 8 (PIns.cons ((Aa ac).2.1.below F) (PIns.cons I (PIns.cons aa (PIns.cons ((Aa cp).below F) (PIns.cons Z (PIns.cons bz (PIns.cons ae (PIns.cons ((Aa b0).below F) .nil)))))))) rfl rfl (by decide) (by exact Aa c7)).mono ?_;rintro e b5 ⟨ci,cd,b8,rfl,ak,E⟩;have Y:=F.trans (E.mono F.size);dsimp only;refine hK.out _ _ Y (fun H=> ?_);clear hK K H;refine rdH (i:=15) fun K hK=> ?_
               go_simp
               refine hK.out _ _ Y (fun H=> ?_);clear hK K H;refine wpAnyH_done (by kernel_rfl) ?_ _;go_wp2_with fail
               go_meet
               exact Ab ⟨ak,Y⟩
             . go_simp
               have M:=Sj bn nm nml (Aa cu);generalize cvW bn nm=bo at M ⊢;generalize cvC bn nm=a1 at M ⊢;generalize cvA bn=av at M ⊢;generalize cvL nm=aw at M ⊢;have ae:=M.1;have E:=M.2;clear M;have G:Below O.heap.size O bo:=F.trans (E.mono F.size);replace I:=I.below E;replace aa:=aa.below E;replace Z:=Z.below E;refine hK.out _ _ G (fun H=> ?_);clear hK K F E H;have F:=G;clear G;refine rdH (i:=7) fun K hK=> ?_
               go_simp
               refine(Ar ag 4 _ (by omega) (by decide)).mono ?_;rintro e bm ⟨bk,bi,ay,rfl,bz,E⟩;have G:Below O.heap.size O bm:=F.trans (E.mono F.size);replace I:=I.below E;replace aa:=aa.below E;replace Z:=Z.below E;replace ae:=ae.below E;dsimp only;refine hK.out _ _ G (fun H=> ?_);clear hK K F E H;have F:=G;clear G;refine rdH (i:=13) fun K hK=> ?_
               go_simp
               have G:=F.alloc F.size (.cells #[.slice a5 ao bb,.slice ai l1 c1,.slice bu l2 c2,.slice ba a4 a6,.slice a3 a2 al,.slice bk bi ay,.slice av aw a1,.slice bd bc a9] 23);refine hK.out _ _ G (fun H=> ?_);clear hK K H;refine rdH (i:=14) fun K hK=> ?_
               go_simp
               refine(Cz _ [.slice a5 ao bb,.slice ai l1 c1,.slice bu l2 c2,.slice ba a4 a6,.slice a3 a2 al,.slice bk bi ay,.slice av aw a1,.slice bd bc a9] [Ao 0 (l.take k),Ag 33639248 4,Ag 20 2,([Ag 20 2,Ag 0 2,Ag mt 2,Ag 0 4,Ag cr 4,Ag pl 4,Ag bl 4,Ag bf 2,Ag 11 2]:List (List Nat)).flatten,Ag 0 10,Ag ag 4,n8 nml,([Ag 29297 2,Ag 7 2,Ag st 4,Ag nd 2,Ag (Ed gn) 1]:List (List Nat)).flatten] _ _ 8 8 (PIns.cons ((Aa ac).2.1.below F) (PIns.cons I (PIns.cons aa (PIns.cons ((Aa cp).below F) (PIns.cons Z (PIns.cons bz (PIns.cons ae (PIns.cons ((Aa b0).below F) .nil)))))))) rfl rfl (by decide) (by exact Aa c7)).mono ?_;rintro e b5 ⟨ci,cd,b8,rfl,ak,E⟩;have Y:=F.trans (E.mono F.size);dsimp only;refine hK.out _ _ Y (fun H=> ?_);clear hK K H;refine rdH (i:=15) fun K hK=> ?_
               go_simp
               refine hK.out _ _ Y (fun H=> ?_);clear hK K H;refine wpAnyH_done (by kernel_rfl) ?_ _;go_wp2_with fail
               go_meet
               exact Ab ⟨ak,Y⟩
           . go_simp
             have M:=Sj cm nm nml (Aa cu);generalize cvW cm nm=bo at M ⊢;generalize cvC cm nm=a1 at M ⊢;generalize cvA cm=av at M ⊢;generalize cvL nm=aw at M ⊢;have ae:=M.1;have E:=M.2;clear M;have G:Below O.heap.size O bo:=F.trans (E.mono F.size);replace I:=I.below E;replace aa:=aa.below E;refine hK.out _ _ G (fun H=> ?_);clear hK K F E H;have F:=G;clear G;refine rdH (i:=4) fun K hK=> ?_
             go_simp
             refine(Ar 0 10 _ (by decide) (by decide)).mono ?_;rintro e bn ⟨a3,a2,al,rfl,Z,E⟩;have G:Below O.heap.size O bn:=F.trans (E.mono F.size);replace I:=I.below E;replace aa:=aa.below E;replace ae:=ae.below E;dsimp only;refine hK.out _ _ G (fun H=> ?_);clear hK K F E H;have F:=G;clear G;refine rdH (i:=7) fun K hK=> ?_
             go_simp
             refine(Ar ag 4 _ (by omega) (by decide)).mono ?_;rintro e bm ⟨bk,bi,ay,rfl,bz,E⟩;have G:Below O.heap.size O bm:=F.trans (E.mono F.size);replace I:=I.below E;replace aa:=aa.below E;replace ae:=ae.below E;replace Z:=Z.below E;dsimp only;refine hK.out _ _ G (fun H=> ?_);clear hK K F E H;have F:=G;clear G;refine rdH (i:=13) fun K hK=> ?_
             go_simp
             have G:=F.alloc F.size (.cells #[.slice a5 ao bb,.slice ai l1 c1,.slice bu l2 c2,.slice ba a4 a6,.slice a3 a2 al,.slice bk bi ay,.slice av aw a1,.slice bd bc a9] 23);refine hK.out _ _ G (fun H=> ?_);clear hK K H;refine rdH (i:=14) fun K hK=> ?_
             go_simp
             refine(Cz _ [.slice a5 ao bb,.slice ai l1 c1,.slice bu l2 c2,.slice ba a4 a6,.slice a3 a2 al,.slice bk bi ay,.slice av aw a1,.slice bd bc a9] [Ao 0 (l.take k),Ag 33639248 4,Ag 20 2,([Ag 20 2,Ag 0 2,Ag mt 2,Ag 0 4,Ag cr 4,Ag pl 4,Ag bl 4,Ag bf 2,Ag 11 2]:List (List Nat)).flatten,Ag 0 10,Ag ag 4,n8 nml,([Ag 29297 2,Ag 7 2,Ag st 4,Ag nd 2,Ag (Ed gn) 1]:List (List Nat)).flatten] _ _ 8 8 (PIns.cons ((Aa ac).2.1.below F) (PIns.cons I (PIns.cons aa (PIns.cons ((Aa cp).below F) (PIns.cons Z (PIns.cons bz (PIns.cons ae (PIns.cons ((Aa b0).below F) .nil)))))))) rfl rfl (by decide) (by exact Aa c7)).mono ?_;rintro e b5 ⟨ci,cd,b8,rfl,ak,E⟩;have Y:=F.trans (E.mono F.size);dsimp only;refine hK.out _ _ Y (fun H=> ?_);clear hK K H;refine rdH (i:=15) fun K hK=> ?_
             go_simp
             refine hK.out _ _ Y (fun H=> ?_);clear hK K H;refine wpAnyH_done (by kernel_rfl) ?_ _;go_wp2_with fail
             go_meet
             exact Ab ⟨ak,Y⟩
         . go_simp
           have M:=Sj ap nm nml (Aa cu);generalize cvW ap nm=bo at M ⊢;generalize cvC ap nm=a1 at M ⊢;generalize cvA ap=av at M ⊢;generalize cvL nm=aw at M ⊢;have ae:=M.1;have E:=M.2;clear M;have G:Below O.heap.size O bo:=F.trans (E.mono F.size);replace I:=I.below E;refine hK.out _ _ G (fun H=> ?_);clear hK K F E H;have F:=G;clear G;refine rdH (i:=2) fun K hK=> ?_
           go_simp
           refine(Ar 20 2 _ (by decide) (by decide)).mono ?_;rintro e cm ⟨bu,l2,c2,rfl,aa,E⟩;have G:Below O.heap.size O cm:=F.trans (E.mono F.size);replace I:=I.below E;replace ae:=ae.below E;dsimp only;refine hK.out _ _ G (fun H=> ?_);clear hK K F E H;have F:=G;clear G;refine rdH (i:=4) fun K hK=> ?_
           go_simp
           refine(Ar 0 10 _ (by decide) (by decide)).mono ?_;rintro e bn ⟨a3,a2,al,rfl,Z,E⟩;have G:Below O.heap.size O bn:=F.trans (E.mono F.size);replace I:=I.below E;replace ae:=ae.below E;replace aa:=aa.below E;dsimp only;refine hK.out _ _ G (fun H=> ?_);clear hK K F E H;have F:=G;clear G;refine rdH (i:=7) fun K hK=> ?_
           go_simp
           refine(Ar ag 4 _ (by omega) (by decide)).mono ?_;rintro e bm ⟨bk,bi,ay,rfl,bz,E⟩;have G:Below O.heap.size O bm:=F.trans (E.mono F.size);replace I:=I.below E;replace ae:=ae.below E;replace aa:=aa.below E;replace Z:=Z.below E;dsimp only;refine hK.out _ _ G (fun H=> ?_);clear hK K F E H;have F:=G;clear G;refine rdH (i:=13) fun K hK=> ?_
           go_simp
           have G:=F.alloc F.size (.cells #[.slice a5 ao bb,.slice ai l1 c1,.slice bu l2 c2,.slice ba a4 a6,.slice a3 a2 al,.slice bk bi ay,.slice av aw a1,.slice bd bc a9] 23);refine hK.out _ _ G (fun H=> ?_);clear hK K H;refine rdH (i:=14) fun K hK=> ?_
           go_simp
           refine(Cz _ [.slice a5 ao bb,.slice ai l1 c1,.slice bu l2 c2,.slice ba a4 a6,.slice a3 a2 al,.slice bk bi ay,.slice av aw a1,.slice bd bc a9] [Ao 0 (l.take k),Ag 33639248 4,Ag 20 2,([Ag 20 2,Ag 0 2,Ag mt 2,Ag 0 4,Ag cr 4,Ag pl 4,Ag bl 4,Ag bf 2,Ag 11 2]:List (List Nat)).flatten,Ag 0 10,Ag ag 4,n8 nml,([Ag 29297 2,Ag 7 2,Ag st 4,Ag nd 2,Ag (Ed gn) 1]:List (List Nat)).flatten] _ _ 8 8 (PIns.cons ((Aa ac).2.1.below F) (PIns.cons I (PIns.cons aa (PIns.cons ((Aa cp).below F) (PIns.cons Z (PIns.cons bz (PIns.cons ae (PIns.cons ((Aa b0).below F) .nil)))))))) rfl rfl (by decide) (by exact Aa c7)).mono ?_;rintro e b5 ⟨ci,cd,b8,rfl,ak,E⟩;have Y:=F.trans (E.mono F.size);dsimp only;refine hK.out _ _ Y (fun H=> ?_);clear hK K H;refine rdH (i:=15) fun K hK=> ?_
           go_simp
           refine hK.out _ _ Y (fun H=> ?_);clear hK K H;refine wpAnyH_done (by kernel_rfl) ?_ _;go_wp2_with fail
           go_meet
           exact Ab ⟨ak,Y⟩
       . go_simp
         have M:=Sj bh nm nml (Aa cu);generalize cvW bh nm=bo at M ⊢;generalize cvC bh nm=a1 at M ⊢;generalize cvA bh=av at M ⊢;generalize cvL nm=aw at M ⊢;have ae:=M.1;have E:=M.2;clear M;have G:Below O.heap.size O bo:=F.trans (E.mono F.size);refine hK.out _ _ G (fun H=> ?_);clear hK K F E H;have F:=G;clear G;refine rdH (i:=1) fun K hK=> ?_
         go_simp
         refine(Ar 33639248 4 _ (by decide) (by decide)).mono ?_;rintro e ap ⟨ai,l1,c1,rfl,I,E⟩;have G:Below O.heap.size O ap:=F.trans (E.mono F.size);replace ae:=ae.below E;dsimp only;refine hK.out _ _ G (fun H=> ?_);clear hK K F E H;have F:=G;clear G;refine rdH (i:=2) fun K hK=> ?_
         go_simp
         refine(Ar 20 2 _ (by decide) (by decide)).mono ?_;rintro e cm ⟨bu,l2,c2,rfl,aa,E⟩;have G:Below O.heap.size O cm:=F.trans (E.mono F.size);replace ae:=ae.below E;replace I:=I.below E;dsimp only;refine hK.out _ _ G (fun H=> ?_);clear hK K F E H;have F:=G;clear G;refine rdH (i:=4) fun K hK=> ?_
         go_simp
         refine(Ar 0 10 _ (by decide) (by decide)).mono ?_;rintro e bn ⟨a3,a2,al,rfl,Z,E⟩;have G:Below O.heap.size O bn:=F.trans (E.mono F.size);replace ae:=ae.below E;replace I:=I.below E;replace aa:=aa.below E;dsimp only;refine hK.out _ _ G (fun H=> ?_);clear hK K F E H;have F:=G;clear G;refine rdH (i:=7) fun K hK=> ?_
         go_simp
         refine(Ar ag 4 _ (by omega) (by decide)).mono ?_;rintro e bm ⟨bk,bi,ay,rfl,bz,E⟩;have G:Below O.heap.size O bm:=F.trans (E.mono F.size);replace ae:=ae.below E;replace I:=I.below E;replace aa:=aa.below E;replace Z:=Z.below E;dsimp only;refine hK.out _ _ G (fun H=> ?_);clear hK K F E H;have F:=G;clear G;refine rdH (i:=13) fun K hK=> ?_
         go_simp
         have G:=F.alloc F.size (.cells #[.slice a5 ao bb,.slice ai l1 c1,.slice bu l2 c2,.slice ba a4 a6,.slice a3 a2 al,.slice bk bi ay,.slice av aw a1,.slice bd bc a9] 23);refine hK.out _ _ G (fun H=> ?_);clear hK K H;refine rdH (i:=14) fun K hK=> ?_
         go_simp
         refine(Cz _ [.slice a5 ao bb,.slice ai l1 c1,.slice bu l2 c2,.slice ba a4 a6,.slice a3 a2 al,.slice bk bi ay,.slice av aw a1,.slice bd bc a9] [Ao 0 (l.take k),Ag 33639248 4,Ag 20 2,([Ag 20 2,Ag 0 2,Ag mt 2,Ag 0 4,Ag cr 4,Ag pl 4,Ag bl 4,Ag bf 2,Ag 11 2]:List (List Nat)).flatten,Ag 0 10,Ag ag 4,n8 nml,([Ag 29297 2,Ag 7 2,Ag st 4,Ag nd 2,Ag (Ed gn) 1]:List (List Nat)).flatten] _ _ 8 8 (PIns.cons ((Aa ac).2.1.below F) (PIns.cons I (PIns.cons aa (PIns.cons ((Aa cp).below F) (PIns.cons Z (PIns.cons bz (PIns.cons ae (PIns.cons ((Aa b0).below F) .nil)))))))) rfl rfl (by decide) (by exact Aa c7)).mono ?_;rintro e b5 ⟨ci,cd,b8,rfl,ak,E⟩;have Y:=F.trans (E.mono F.size);dsimp only;refine hK.out _ _ Y (fun H=> ?_);clear hK K H;refine rdH (i:=15) fun K hK=> ?_
         go_simp
         refine hK.out _ _ Y (fun H=> ?_);clear hK K H;refine wpAnyH_done (by kernel_rfl) ?_ _;go_wp2_with fail
         go_meet
         exact Ab ⟨ak,Y⟩
      case rest=>
       rename World=>au
       obtain⟨Z,T⟩:=Aa hcut;replace bq:=(T.cell (p:=⟨wr.heap.size,0,none⟩) U).trans bq;replace x1:=(T.cell (p:=⟨wr.heap.size,1,none⟩) U).trans x1;replace x2:=(T.cell (p:=⟨wr.heap.size,2,none⟩) U).trans x2;replace x3:=(T.cell (p:=⟨wr.heap.size,3,none⟩) U).trans x3;replace x4:=(T.cell (p:=⟨wr.heap.size,4,none⟩) U).trans x4;replace ce:=(T.cell (p:=⟨wr.heap.size,5,none⟩) U).trans ce;replace b4:=(T.cell (p:=⟨wr.heap.size,6,none⟩) U).trans b4;replace b9:=(T.cell (p:=⟨wr.heap.size,7,none⟩) U).trans b9;replace U:=VG U T.size;replace ac:=Ab (show PIn au (.slice b7 ag b3) _/\PIn au (.slice a5 ao bb) _/\Below w.heap.size w au from ⟨(Aa ac).1.below T,(Aa ac).2.1.below T,(Aa ac).2.2.trans (T.mono (Aa ac).2.2.size)⟩);replace cw:=Ab ((Aa cw).below T);replace b0:=Ab ((Aa b0).below T);replace cp:=Ab ((Aa cp).below T);have cy:=Ab Z;clear hcut T Z;have fh:=Ab (Z9j (Av (l.take k)) pk nml mt cr pl bl bf st nd gn (Aa du k) (by rw[Aa dm];exact ds) (by rw[Aa dq];exact dz));go_upto_region 9 with fail
       have et:Hid (PIn au (.slice pa pl pc) pk):=Ab ⟨pa,pc,by rw[Aa dq],(Aa e9).2,(Aa cw).pk⟩;have eb:=Z2z nm;refine wp_region_held_drew (S:=fun W=>Below au.heap.size au W) (by kernel_rfl) (Ae (Below.refl _ _) 1) (fun F=> ?_);generalize au.drew=bh at F ⊢;refine tkH (i:=0) (v:=.slice b7 ag b3) F ?_;simp only[Act.put,VA,VC,VD];refine tkH (i:=2) (v:=.slice ba a4 a6) F ?_;simp only[Act.put,VA,VC,VD];refine tkH (i:=3) (v:=.pointer (some ⟨wr.heap.size,0,none⟩)) F ?_;simp only[Act.put,VA,VC,VD];refine tkH (i:=4) (v:=.pointer (some ⟨wr.heap.size,0,none⟩)) F ?_;simp only[Act.put,VA,VC,VD];refine wpAnyH_take (i:=5) (v:=.string nm) rfl (by kernel_rfl) (by kernel_rfl) (by kernel_rfl) (fun _ _ _ h=>h) (Or.inl ⟨by rfl,fun W ar=>by have hc:=(ar.cell (p:=⟨wr.heap.size,0,none⟩) U).trans bq;go_simp⟩) F ?_;simp only[Act.put,VA,VC,VD];refine tkH (i:=7) (v:=.slice bd bc a9) F ?_;simp only[Act.put,VA,VC,VD];refine tkH (i:=8) (v:=.pointer (some ⟨wr.heap.size,6,none⟩)) F ?_;simp only[Act.put,VA,VC,VD];refine wpAnyH_take (i:=9) (v:=.slice pa pl pc) rfl (by kernel_rfl) (by kernel_rfl) (by kernel_rfl) (fun _ _ _ h=>h) (Or.inl ⟨by rfl,fun W ar=>by have hc:=(ar.cell (p:=⟨wr.heap.size,6,none⟩) U).trans b4;go_simp⟩) F ?_;simp only[Act.put,VA,VC,VD];refine wpAnyH_ready (rs:= [1,6]) (by kernel_rfl) (by simp) (AllReadyH.cons rfl (fun K hK=> ?_) (AllReadyH.cons rfl (fun K hK=> ?_) AllReadyH.nil))
       . go_simp
         refine(Ar 67324752 4 _ (by decide) (by decide)).mono ?_;rintro e ap ⟨ai,l1,c1,rfl,I,E⟩;have G:Below au.heap.size au ap:=F.trans (E.mono F.size);dsimp only;refine hK.out _ _ G (fun H=> ?_);clear hK K F E H;have F:=G;clear G;refine rdH (i:=6) fun K hK=> ?_
         go_simp
         have M:=Sj ap nm nml (Aa cu);generalize cvW ap nm=bo at M ⊢;generalize cvC ap nm=cj at M ⊢;generalize cvA ap=c5 at M ⊢;generalize cvL nm=db at M ⊢;have di:=M.1;have E:=M.2;clear M;have G:Below au.heap.size au bo:=F.trans (E.mono F.size);replace I:=I.below E;refine hK.out _ _ G (fun H=> ?_);clear hK K F E H;have F:=G;clear G;refine rdH (i:=10) fun K hK=> ?_
         go_simp
         have G:=F.alloc F.size (.cells #[.slice b7 ag b3,.slice ai l1 c1,.slice ba a4 a6,.slice c5 db cj,.slice bd bc a9,.slice pa pl pc] 23);refine hK.out _ _ G (fun H=> ?_);clear hK K H;refine rdH (i:=11) fun K hK=> ?_
         go_simp
         refine(Cz _ [.slice b7 ag b3,.slice ai l1 c1,.slice ba a4 a6,.slice c5 db cj,.slice bd bc a9,.slice pa pl pc] [Av (l.take k),Ag 67324752 4,([Ag 20 2,Ag 0 2,Ag mt 2,Ag 0 4,Ag cr 4,Ag pl 4,Ag bl 4,Ag bf 2,Ag 11 2]:List (List Nat)).flatten,n8 nml,([Ag 29297 2,Ag 7 2,Ag st 4,Ag nd 2,Ag (Ed gn) 1]:List (List Nat)).flatten,pk] _ _ 6 6 (PIns.cons ((Aa ac).1.below F) (PIns.cons I (PIns.cons ((Aa cp).below F) (PIns.cons di (PIns.cons ((Aa b0).below F) (PIns.cons ((Aa et).below F) .nil)))))) rfl rfl (by decide) (by exact Aa fh)).mono ?_;rintro e b5 ⟨ci,cd,b8,rfl,ak,E⟩;have Y:=F.trans (E.mono F.size);dsimp only;refine hK.out _ _ Y (fun H=> ?_);clear hK K H;refine rdH (i:=12) fun K hK=> ?_
         go_simp
         refine hK.out _ _ Y (fun H=> ?_);clear hK K H;refine wpAnyH_done (by kernel_rfl) ?_ _;have dd:=Ab (C5 (k:=k) (l:=l) (nml:=nml) (bys:=bys) (st:=st) (nd:=nd) (gn:=gn) (mt:=mt) (pk:=pk) (cr:=cr) (Aa ep) (Aa dm) (Aa fo) (Aa dq) (Aa d6));have ei:=Ab ak;replace cy:=Ab ((Aa cy).below Y);replace ac:=Ab ((Aa ac).2.2.trans (Y.mono (Aa ac).2.2.size));clear ak Y F E bq x1 x2 x3 x4 ce b4 b9 eb;go_wp2;go_roundw
         case rel=>exact⟨k+1,by omega,by go_num,Ab ⟨by rw[(Aa dd).1];exact Aa ei,by rw[(Aa dd).2];exact Aa cy,Aa ac⟩⟩
         case measure=>simp[intOf];omega
       . go_simp
         have M:=Sj bh nm nml (Aa cu);generalize cvW bh nm=bo at M ⊢;generalize cvC bh nm=cj at M ⊢;generalize cvA bh=c5 at M ⊢;generalize cvL nm=db at M ⊢;have di:=M.1;have E:=M.2;clear M;have G:Below au.heap.size au bo:=F.trans (E.mono F.size);refine hK.out _ _ G (fun H=> ?_);clear hK K F E H;have F:=G;clear G;refine rdH (i:=1) fun K hK=> ?_
         go_simp
         refine(Ar 67324752 4 _ (by decide) (by decide)).mono ?_;rintro e ap ⟨ai,l1,c1,rfl,I,E⟩;have G:Below au.heap.size au ap:=F.trans (E.mono F.size);replace di:=di.below E;dsimp only;refine hK.out _ _ G (fun H=> ?_);clear hK K F E H;have F:=G;clear G;refine rdH (i:=10) fun K hK=> ?_
         go_simp
         have G:=F.alloc F.size (.cells #[.slice b7 ag b3,.slice ai l1 c1,.slice ba a4 a6,.slice c5 db cj,.slice bd bc a9,.slice pa pl pc] 23);refine hK.out _ _ G (fun H=> ?_);clear hK K H;refine rdH (i:=11) fun K hK=> ?_
         go_simp
         refine(Cz _ [.slice b7 ag b3,.slice ai l1 c1,.slice ba a4 a6,.slice c5 db cj,.slice bd bc a9,.slice pa pl pc] [Av (l.take k),Ag 67324752 4,([Ag 20 2,Ag 0 2,Ag mt 2,Ag 0 4,Ag cr 4,Ag pl 4,Ag bl 4,Ag bf 2,Ag 11 2]:List (List Nat)).flatten,n8 nml,([Ag 29297 2,Ag 7 2,Ag st 4,Ag nd 2,Ag (Ed gn) 1]:List (List Nat)).flatten,pk] _ _ 6 6 (PIns.cons ((Aa ac).1.below F) (PIns.cons I (PIns.cons ((Aa cp).below F) (PIns.cons di (PIns.cons ((Aa b0).below F) (PIns.cons ((Aa et).below F) .nil)))))) rfl rfl (by decide) (by exact Aa fh)).mono ?_;rintro e b5 ⟨ci,cd,b8,rfl,ak,E⟩;have Y:=F.trans (E.mono F.size);dsimp only;refine hK.out _ _ Y (fun H=> ?_);clear hK K H;refine rdH (i:=12) fun K hK=> ?_
         go_simp
         refine hK.out _ _ Y (fun H=> ?_);clear hK K H;refine wpAnyH_done (by kernel_rfl) ?_ _;have dd:=Ab (C5 (k:=k) (l:=l) (nml:=nml) (bys:=bys) (st:=st) (nd:=nd) (gn:=gn) (mt:=mt) (pk:=pk) (cr:=cr) (Aa ep) (Aa dm) (Aa fo) (Aa dq) (Aa d6));have ei:=Ab ak;replace cy:=Ab ((Aa cy).below Y);replace ac:=Ab ((Aa ac).2.2.trans (Y.mono (Aa ac).2.2.size));clear ak Y F E bq x1 x2 x3 x4 ce b4 b9 eb;go_wp2;go_roundw
         case rel=>exact⟨k+1,by omega,by go_num,Ab ⟨by rw[(Aa dd).1];exact Aa ei,by rw[(Aa dd).2];exact Aa cy,Aa ac⟩⟩
         case measure=>simp[intOf];omega
  . obtain rfl:n=k:=by omega
    have ie:Hid (l.take n=l):=Ab (by rw[VV (by rw[Aa f4];exact VB _)]);have a8:=(Aa bv).1;have a7:=(Aa bv).2.1;have aj:=(Aa bv).2.2;have hw:=Ab (Z8f (Av (l.take n)) (Ao 0 (l.take n)) n ao ag (Aa du n) (Aa d5 n));clear bv;go_wp2_with fail
    refine(Ar 101010256 4 _ (by decide) (by decide)).mono ?_;rintro e il ⟨hj,g7,hv,rfl,bj,E⟩;replace a8:=a8.below E;replace a7:=a7.below E;replace aj:=aj.trans (E.mono aj.size);clear E;go_wp2_with fail
    refine(Ar 0 4 _ (by decide) (by decide)).mono ?_;rintro e im ⟨ig,hu,gj,rfl,bw,E⟩;replace a8:=a8.below E;replace a7:=a7.below E;replace bj:=bj.below E;replace aj:=aj.trans (E.mono aj.size);clear E;go_wp2_with fail
    refine(Ar n 2 _ (by omega) (by decide)).mono ?_;rintro e iu ⟨ic,gh,f7,rfl,cg,E⟩;replace a8:=a8.below E;replace a7:=a7.below E;replace bj:=bj.below E;replace bw:=bw.below E;replace aj:=aj.trans (E.mono aj.size);clear E;go_wp2_with fail
    refine(Ar n 2 _ (by omega) (by decide)).mono ?_;rintro e ip ⟨h2,h5,gw,rfl,cq,E⟩;replace a8:=a8.below E;replace a7:=a7.below E;replace bj:=bj.below E;replace bw:=bw.below E;replace cg:=cg.below E;replace aj:=aj.trans (E.mono aj.size);clear E;go_wp2_with fail
    refine(Ar ao 4 _ (by omega) (by decide)).mono ?_;rintro e iq ⟨ho,h1,ib,rfl,cz,E⟩;replace a8:=a8.below E;replace a7:=a7.below E;replace bj:=bj.below E;replace bw:=bw.below E;replace cg:=cg.below E;replace cq:=cq.below E;replace aj:=aj.trans (E.mono aj.size);clear E;go_wp2_with fail
    refine(Ar ag 4 _ (by omega) (by decide)).mono ?_;rintro e ij ⟨h6,h4,gu,rfl,dl,E⟩;replace a8:=a8.below E;replace a7:=a7.below E;replace bj:=bj.below E;replace bw:=bw.below E;replace cg:=cg.below E;replace cq:=cq.below E;replace cz:=cz.below E;replace aj:=aj.trans (E.mono aj.size);clear E;go_wp2_with fail
    refine(Ar 0 2 _ (by decide) (by decide)).mono ?_;rintro e f9 ⟨h3,g0,gi,rfl,e4,E⟩;replace a8:=a8.below E;replace a7:=a7.below E;replace bj:=bj.below E;replace bw:=bw.below E;replace cg:=cg.below E;replace cq:=cq.below E;replace cz:=cz.below E;replace dl:=dl.below E;replace aj:=aj.trans (E.mono aj.size);clear E;have hq:=Ab (show PIns f9 [.slice b7 ag b3,.slice a5 ao bb,.slice hj g7 hv,.slice ig hu gj,.slice ic gh f7,.slice h2 h5 gw,.slice ho h1 ib,.slice h6 h4 gu,.slice h3 g0 gi] [Av (l.take n),Ao 0 (l.take n),Ag 101010256 4,Ag 0 4,Ag n 2,Ag n 2,Ag ao 4,Ag ag 4,Ag 0 2] from (PIns.cons a8 (PIns.cons a7 (PIns.cons bj (PIns.cons bw (PIns.cons cg (PIns.cons cq (PIns.cons cz (PIns.cons dl (PIns.cons e4 .nil))))))))));have f3:=Ab aj;clear aj a8 a7 bj bw cg cq cz dl e4;go_wp2_with fail
    refine(Cz _ _ _ _ _ 9 9 (Aa hq) rfl rfl (by decide) (Aa hw)).mono ?_;rintro e b5 ⟨ci,cd,b8,rfl,ak,E⟩;have eu:Hid (PIn b5 (.slice ci cd b8) (Be l)/\Below w.heap.size w b5):=Ab ⟨by rw[Z23 (Aa ie) (Aa f4) (Aa d6) (Aa gv)];exact ak,(Aa f3).trans (E.mono (Aa f3).size)⟩;clear E ak;go_wp2;go_ret;exact⟨_,rfl,(Aa eu).1,(Aa eu).2⟩
end Go.Proofs.YtleocpdblhbimaaGreatDoor
