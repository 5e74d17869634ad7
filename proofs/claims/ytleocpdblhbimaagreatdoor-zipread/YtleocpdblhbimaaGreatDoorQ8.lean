import Derived.Test.YtleocpdblhbimaaGreatDoorQS
import Derived.Test.YtleocpdblhbimaaGreatDoorQ7
set_option linter.unusedSimpArgs false
set_option maxHeartbeats 8000000
namespace Go.Proofs.YtleocpdblhbimaaGreatDoor
open Go.RowKit
set_option linter.unusedVariables false
set_option maxRecDepth 100000
theorem Z18 (el:Option Addr)(c n:Nat)(b8:List Ev)(w:World)(h:RsIn w el b8)(dq:b8.length=n)(hw:n<=12)(ds:∀x∈b8,EWd x.e):
 Calls Tryz.prog 40 #[.slice el n c] w fun e w'=>∃v,e=.returned v/\PIn w' v (Be (b8.map Ev.e))/\Below w.heap.size w w':=by
 obtain⟨l,cq⟩:=exq (b8.map Ev.e);have eu:l.length=n:=by rw[<-cq];simpa using dq
 have dz:∀x∈l,EWd x:=by
  rw[<-cq];intro x cd;obtain⟨y,hk,rfl⟩:=XG.1 cd;exact ds y hk
 have e5:∀k,(Av (l.take k)).length<=24041*12:=fun k=>by
  have fh:=CU (l.take k) (fun x cd=>dz x (VR cd));have gi:(l.take k).length<=12:=by rw[VL];omega
  omega
 have d2:∀k,(Ao 0 (l.take k)).length<=12057*12:=fun k=>by
  have fh:=Zu (l.take k) 0 (fun x cd=>dz x (VR cd));have gi:(l.take k).length<=12:=by rw[VL];omega
  omega
 rw[cq];have ep:∀(k:Nat) (x:Ev),b8[k]? =some x->l[k]? =some x.e:=fun k x ew=>by rw[<-cq];simp[ew]
 have ee:=Ab h;have df:=Ab e5;have dx:=Ab d2;have hd:=Ab ds;have ei:=Ab eu;have hj:=Ab dq;have fn:=Ab ep;clear h e5 d2 ds eu dq ep dz cq;go_enter Tryz.func40,Tryz.ntmps40
 go_wp2;go_loopw [3,4,6,7,8,9,12] (fun ha de _ _ _ _ i wr=>∃k:Nat,k<=n/\i=.int .i64 (k:Int)/\Hid (PIn wr ha (Av (l.take k))/\PIn wr de (Ao 0 (l.take k))/\Below w.heap.size w wr)) (fun _ _ _ _ _ _ i _=>n-(intOf i).toNat)
 case atStart=>exact⟨0,VH _,rfl,PIn.nil _,PIn.nil _,Below.refl _ _⟩
 case round=>
  obtain⟨k,ew,rfl,bj⟩:=hrel;obtain⟨bu,af,bo,rfl,dl⟩:=(Aa bj).1.sized;obtain⟨a2,am,a4,rfl,dj⟩:=(Aa bj).2.1.sized;have f7:=Aa df k;have fd:=Aa dx k;rw[dl]at f7;rw[dj]at fd;have dn:=Ab dl;have fg:=Ab dj;clear dl dj
  by_cases ft:k<n
  . obtain⟨x,cd,dg⟩:∃x,b8[k]? =some x/\x∈b8:=⟨b8[k]'(by rw[Aa hj];exact ft),VP _,WK _⟩
    obtain⟨b,o,rfl,hb,c0,c1,c2,et,an,ch,b9,au⟩:=(Aa ee).get (Aa bj).2.2 cd;have ej:=Aa fn k x cd;have e8:=Ab ((Aa ee).all x dg);have gt:=Aa hd x dg;have eg:=Ab (Eu ej);obtain⟨x,fa,fc,pa,pc⟩:=x;obtain⟨⟨nml,bys,d5,d7,gn⟩,mt,pk,cr⟩:=x;obtain⟨⟨gq,st1⟩,⟨f4,f3⟩,c8,d8,dr,fi,g8⟩:=gt;simp only at gq st1 f4 f3 c8 d8 dr fi g8
    obtain⟨st,rfl⟩:∃st:Nat,d5=(st:Int):=⟨d5.toNat,by omega⟩
    obtain⟨nd,rfl⟩:∃nd:Nat,d7=(nd:Int):=⟨d7.toNat,by omega⟩
    dsimp only at c0 c1 c2 et an ch b9 au;obtain⟨nm,dd⟩:=exq (B nml);obtain⟨a9,da⟩:=exq (nml.length);obtain⟨bl,dy⟩:=exq (bys.length);obtain⟨pl,dm⟩:=exq (pk.length);have hq:nm.size=a9:=by rw[<-dd,Im,da]
    rw[dd]at c0;rw[dy]at c1 d8;rw[dm]at b9 dr;rw[da]at c8;have ck:=Ab dd;have dc:=Ab da;have d9:=Ab dy;have c7:=Ab dm;clear cd dg ej dd da dy dm;have gz:= @run_makeMap Tryz.prog;have e9:=Z4n (wr.alloc (.cells #[.string nm,.slice fa bl fc,.int .i64 (st:Int),.int .i64 (nd:Int),.bool gn,.int .i64 (mt:Int),.slice pa pl pc,.int .u32 (cr:Int)] 37));have du:=Z10 ((wr.alloc (.cells #[.string nm,.slice fa bl fc,.int .i64 (st:Int),.int .i64 (nd:Int),.bool gn,.int .i64 (mt:Int),.slice pa pl pc,.int .u32 (cr:Int)] 37)).alloc (.map X7 1)) _ gn (heap_alloc_new _ _);simp only[World.size_alloc]at e9 du;have d6:(if gn then 1 else 0:Int)=((Ed gn:Nat):Int):=by cases gn<;>rfl
    rw[d6]at du;have hx:Ed gn<=1:=by cases gn<;>decide
    clear d6;go_upto_region 6 with fail
    have db:Below wr.heap.size wr ((wr.alloc (.cells #[.string nm,.slice fa bl fc,.int .i64 (st:Int),.int .i64 (nd:Int),.bool gn,.int .i64 (mt:Int),.slice pa pl pc,.int .u32 (cr:Int)] 37)).alloc (.map X7 1)):=((Below.refl _ _).alloc (VB _) _).alloc (by simp) _;have b5:((wr.alloc (.cells #[.string nm,.slice fa bl fc,.int .i64 (st:Int),.int .i64 (nd:Int),.bool gn,.int .i64 (mt:Int),.slice pa pl pc,.int .u32 (cr:Int)] 37)).alloc (.map X7 1)).heap[wr.heap.size]? =some (.cells #[.string nm,.slice fa bl fc,.int .i64 (st:Int),.int .i64 (nd:Int),.bool gn,.int .i64 (mt:Int),.slice pa pl pc,.int .u32 (cr:Int)] 37 (0,0)):=(heap_alloc_old _ _ (by simp)).trans (heap_alloc_new wr _);have ab:=Ab (show PIn ((wr.alloc (.cells #[.string nm,.slice fa bl fc,.int .i64 (st:Int),.int .i64 (nd:Int),.bool gn,.int .i64 (mt:Int),.slice pa pl pc,.int .u32 (cr:Int)] 37)).alloc (.map X7 1)) (.slice bu af bo) _/\PIn _ (.slice a2 am a4) _/\Below w.heap.size w _ from ⟨(Aa bj).1.below db,(Aa bj).2.1.below db,(Aa bj).2.2.trans (db.mono (Aa bj).2.2.size)⟩);have cj:=Ab ((Aa e8).1.below (Aa ab).2.2);have U:wr.heap.size<((wr.alloc (.cells #[.string nm,.slice fa bl fc,.int .i64 (st:Int),.int .i64 (nd:Int),.bool gn,.int .i64 (mt:Int),.slice pa pl pc,.int .u32 (cr:Int)] 37)).alloc (.map X7 1)).heap.size:=by simp;omega
    clear e9 du gz c0 c1 c2 et an ch b9 au db bj;generalize f8:(wr.alloc (.cells #[.string nm,.slice fa bl fc,.int .i64 (st:Int),.int .i64 (nd:Int),.bool gn,.int .i64 (mt:Int),.slice pa pl pc,.int .u32 (cr:Int)] 37)).alloc (.map X7 1)=a8 at*;clear f8;have bh:=Ac (i:=0) b5;have x1:=Ac (i:=1) b5;have x2:=Ac (i:=2) b5;have x3:=Ac (i:=3) b5;have x4:=Ac (i:=4) b5;have b4:=Ac (i:=5) b5;have bn:=Ac (i:=6) b5;have bz:=Ac (i:=7) b5;simp only[VZ,VY,WI]at bh x1 x2 x3 x4 b4 bn bz;clear b5;go_cut [8] (fun fq ae=>Hid (PIn ae fq ([Ag 29297 2,Ag 7 2,Ag st 4,Ag nd 2,Ag (Ed gn) 1]:List (List Nat)).flatten/\Below a8.heap.size a8 ae))
    case first=>
     refine wp_region_held_drew (S:=fun W=>Below a8.heap.size a8 W) (by kernel_rfl) (Ae (Below.refl _ _) 1) (fun F=> ?_);generalize a8.drew=ba at F ⊢;refine tkH (i:=2) (v:=.pointer (some ⟨wr.heap.size,0,none⟩)) F ?_;simp only[Act.put,VA,VC,VD];refine tkH (i:=3) (v:=.pointer (some ⟨wr.heap.size,2,none⟩)) F ?_;simp only[Act.put,VA,VC,VD];refine wpAnyH_take (i:=4) (v:=.int .i64 (st:Int)) rfl (by kernel_rfl) (by kernel_rfl) (by kernel_rfl) (fun _ _ _ h=>h) (Or.inl ⟨by rfl,fun W ak=>by have hc:=(ak.cell (p:=⟨wr.heap.size,2,none⟩) U).trans x2;go_simp⟩) F ?_;simp only[Act.put,VA,VC,VD];refine tkH (i:=6) (v:=.pointer (some ⟨wr.heap.size,0,none⟩)) F ?_;simp only[Act.put,VA,VC,VD];refine tkH (i:=7) (v:=.pointer (some ⟨wr.heap.size,3,none⟩)) F ?_;simp only[Act.put,VA,VC,VD];refine wpAnyH_take (i:=8) (v:=.int .i64 (nd:Int)) rfl (by kernel_rfl) (by kernel_rfl) (by kernel_rfl) (fun _ _ _ h=>h) (Or.inl ⟨by rfl,fun W ak=>by have hc:=(ak.cell (p:=⟨wr.heap.size,3,none⟩) U).trans x3;go_simp⟩) F ?_;simp only[Act.put,VA,VC,VD];refine tkH (i:=10) (v:=.int .i64 ((Ed gn:Nat):Int)) F ?_;simp only[Act.put,VA,VC,VD];refine rdH (i:=0) fun K hK=> ?_
     go_simp
     refine(Ar 29297 2 _ (by decide) (by decide)).mono ?_;rintro e ba ⟨cz,cp,c0,rfl,ag,E⟩;have G:Below a8.heap.size a8 ba:=F.trans (E.mono F.size);dsimp only;refine hK.out _ _ G (fun H=> ?_);clear hK K F E H;have F:=G;clear G;refine rdH (i:=1) fun K hK=> ?_
     go_simp
     refine(Ar 7 2 _ (by decide) (by decide)).mono ?_;rintro e al ⟨ah,l1,c1,rfl,I,E⟩;have G:Below a8.heap.size a8 al:=F.trans (E.mono F.size);replace ag:=ag.below E;dsimp only;refine hK.out _ _ G (fun H=> ?_);clear hK K F E H;have F:=G;clear G;refine rdH (i:=5) fun K hK=> ?_
     go_simp
     refine(Ar st 4 _ (by omega) (by decide)).mono ?_;rintro e dp ⟨co,cn,ch,rfl,ar,E⟩;have G:Below a8.heap.size a8 dp:=F.trans (E.mono F.size);replace ag:=ag.below E;replace I:=I.below E;dsimp only;refine hK.out _ _ G (fun H=> ?_);clear hK K F E H;have F:=G;clear G;refine rdH (i:=9) fun K hK=> ?_
     go_simp
     refine(Ar nd 2 _ (by omega) (by decide)).mono ?_;rintro e di ⟨cv,c5,c6,rfl,ap,E⟩;have G:Below a8.heap.size a8 di:=F.trans (E.mono F.size);replace ag:=ag.below E;replace I:=I.below E;replace ar:=ar.below E;dsimp only;refine hK.out _ _ G (fun H=> ?_);clear hK K F E H;have F:=G;clear G;refine rdH (i:=11) fun K hK=> ?_
     go_simp
     refine(Ar (Ed gn) 1 _ (by omega) (by decide)).mono ?_;rintro e fj ⟨as,aq,av,rfl,ac,E⟩;have G:Below a8.heap.size a8 fj:=F.trans (E.mono F.size);replace ag:=ag.below E;replace I:=I.below E;replace ar:=ar.below E;replace ap:=ap.below E;dsimp only;refine hK.out _ _ G (fun H=> ?_);clear hK K F E H;have F:=G;clear G;refine rdH (i:=12) fun K hK=> ?_
     go_simp
     have G:=F.alloc F.size (.cells #[.slice cz cp c0,.slice ah l1 c1,.slice co cn ch,.slice cv c5 c6,.slice as aq av] 23);refine hK.out _ _ G (fun H=> ?_);clear hK K H;refine rdH (i:=13) fun K hK=> ?_
     go_simp
     refine(Cz _ [.slice cz cp c0,.slice ah l1 c1,.slice co cn ch,.slice cv c5 c6,.slice as aq av] [Ag 29297 2,Ag 7 2,Ag st 4,Ag nd 2,Ag (Ed gn) 1] _ _ 5 5 (PIns.cons ag (PIns.cons I (PIns.cons ar (PIns.cons ap (PIns.cons ac .nil))))) rfl rfl (by decide) (by simp[Ai])).mono ?_;rintro e bt ⟨b3,bw,b0,rfl,aj,E⟩;have Y:=F.trans (E.mono F.size);dsimp only;refine hK.out _ _ Y (fun H=> ?_);clear hK K H;refine rdH (i:=14) fun K hK=> ?_
     go_simp
     refine hK.out _ _ Y (fun H=> ?_);clear hK K H;refine wpAnyH_done (by kernel_rfl) ?_ _;go_wp2_with fail
     go_meet
     exact Ab ⟨aj,Y⟩
    case rest=>
     rename World=>ae
     obtain⟨dw,T⟩:=Aa hcut;replace bh:=(T.cell (p:=⟨wr.heap.size,0,none⟩) U).trans bh;replace x1:=(T.cell (p:=⟨wr.heap.size,1,none⟩) U).trans x1;replace x2:=(T.cell (p:=⟨wr.heap.size,2,none⟩) U).trans x2;replace x3:=(T.cell (p:=⟨wr.heap.size,3,none⟩) U).trans x3;replace x4:=(T.cell (p:=⟨wr.heap.size,4,none⟩) U).trans x4;replace b4:=(T.cell (p:=⟨wr.heap.size,5,none⟩) U).trans b4;replace bn:=(T.cell (p:=⟨wr.heap.size,6,none⟩) U).trans bn;replace bz:=(T.cell (p:=⟨wr.heap.size,7,none⟩) U).trans bz;replace U:=VG U T.size;replace ab:=Ab (show PIn ae (.slice bu af bo) _/\PIn ae (.slice a2 am a4) _/\Below w.heap.size w ae from ⟨(Aa ab).1.below T,(Aa ab).2.1.below T,(Aa ab).2.2.trans (T.mono (Aa ab).2.2.size)⟩);replace cj:=Ab ((Aa cj).below T);obtain⟨ax,a1,aw,rfl⟩:=dw.slice;have bq:=Ab dw;clear hcut T dw;have f9:IntKind.i64.wrap (cr:Int)=(cr:Int):=by simp[IntKind.wrap,IntKind.signed,IntKind.bits];omega
     go_upto_region 7 with fail
     go_cut [9] (fun g7 O=>Hid (PIn O g7 ([Ag 20 2,Ag 0 2,Ag mt 2,Ag 0 4,Ag cr 4,Ag pl 4,Ag bl 4,Ag a9 2,Ag 11 2]:List (List Nat)).flatten/\Below ae.heap.size ae O))
     case first=>
      refine wp_region_held_drew (S:=fun W=>Below ae.heap.size ae W) (by kernel_rfl) (Ae (Below.refl _ _) 1) (fun F=> ?_);generalize ae.drew=ba at F ⊢;refine tkH (i:=2) (v:=.pointer (some ⟨wr.heap.size,5,none⟩)) F ?_;simp only[Act.put,VA,VC,VD];refine wpAnyH_take (i:=3) (v:=.int .i64 (mt:Int)) rfl (by kernel_rfl) (by kernel_rfl) (by kernel_rfl) (fun _ _ _ h=>h) (Or.inl ⟨by rfl,fun W ak=>by have hc:=(ak.cell (p:=⟨wr.heap.size,5,none⟩) U).trans b4;go_simp⟩) F ?_;simp only[Act.put,VA,VC,VD];refine tkH (i:=6) (v:=.pointer (some ⟨wr.heap.size,7,none⟩)) F ?_;simp only[Act.put,VA,VC,VD];refine wpAnyH_take (i:=7) (v:=.int .u32 (cr:Int)) rfl (by kernel_rfl) (by kernel_rfl) (by kernel_rfl) (fun _ _ _ h=>h) (Or.inl ⟨by rfl,fun W ak=>by have hc:=(ak.cell (p:=⟨wr.heap.size,7,none⟩) U).trans bz;go_simp⟩) F ?_;simp only[Act.put,VA,VC,VD];refine tkH (i:=8) (v:=.int .i64 (cr:Int)) F ?_;simp only[Act.put,VA,VC,VD];refine tkH (i:=10) (v:=.pointer (some ⟨wr.heap.size,6,none⟩)) F ?_;simp only[Act.put,VA,VC,VD];refine wpAnyH_take (i:=11) (v:=.slice pa pl pc) rfl (by kernel_rfl) (by kernel_rfl) (by kernel_rfl) (fun _ _ _ h=>h) (Or.inl ⟨by rfl,fun W ak=>by have hc:=(ak.cell (p:=⟨wr.heap.size,6,none⟩) U).trans bn;go_simp⟩) F ?_;simp only[Act.put,VA,VC,VD];refine tkH (i:=12) (v:=.int .i64 (pl:Int)) F ?_;simp only[Act.put,VA,VC,VD];refine tkH (i:=14) (v:=.pointer (some ⟨wr.heap.size,0,none⟩)) F ?_;simp only[Act.put,VA,VC,VD];refine tkH (i:=15) (v:=.pointer (some ⟨wr.heap.size,1,none⟩)) F ?_;simp only[Act.put,VA,VC,VD];refine wpAnyH_take (i:=16) (v:=.slice fa bl fc) rfl (by kernel_rfl) (by kernel_rfl) (by kernel_rfl) (fun _ _ _ h=>h) (Or.inl ⟨by rfl,fun W ak=>by have hc:=(ak.cell (p:=⟨wr.heap.size,1,none⟩) U).trans x1;go_simp⟩) F ?_;simp only[Act.put,VA,VC,VD];refine tkH (i:=17) (v:=.int .i64 (bl:Int)) F ?_;simp only[Act.put,VA,VC,VD];refine tkH (i:=19) (v:=.pointer (some ⟨wr.heap.size,0,none⟩)) F ?_;simp only[Act.put,VA,VC,VD];refine tkH (i:=20) (v:=.pointer (some ⟨wr.heap.size,0,none⟩)) F ?_;simp only[Act.put,VA,VC,VD];refine wpAnyH_take (i:=21) (v:=.string nm) rfl (by kernel_rfl) (by kernel_rfl) (by kernel_rfl) (fun _ _ _ h=>h) (Or.inl ⟨by rfl,fun W ak=>by have hc:=(ak.cell (p:=⟨wr.heap.size,0,none⟩) U).trans bh;go_simp⟩) F ?_;simp only[Act.put,VA,VC,VD];refine tkH (i:=22) (v:=.int .i64 (a9:Int)) F ?_;simp only[Act.put,VA,VC,VD];refine rdH (i:=0) fun K hK=> ?_
      go_simp
      refine(Ar 20 2 _ (by decide) (by decide)).mono ?_;rintro e ba ⟨cz,cp,c0,rfl,ag,E⟩;have G:Below ae.heap.size ae ba:=F.trans (E.mono F.size);dsimp only;refine hK.out _ _ G (fun H=> ?_);clear hK K F E H;have F:=G;clear G;refine rdH (i:=1) fun K hK=> ?_
      go_simp
      refine(Ar 0 2 _ (by decide) (by decide)).mono ?_;rintro e al ⟨ah,l1,c1,rfl,I,E⟩;have G:Below ae.heap.size ae al:=F.trans (E.mono F.size);replace ag:=ag.below E;dsimp only;refine hK.out _ _ G (fun H=> ?_);clear hK K F E H;have F:=G;clear G;refine rdH (i:=4) fun K hK=> ?_
      go_simp
      refine(Ar mt 2 _ (by omega) (by decide)).mono ?_;rintro e bf ⟨ay,a0,an,rfl,Z,E⟩;have G:Below ae.heap.size ae bf:=F.trans (E.mono F.size);replace ag:=ag.below E;replace I:=I.below E;dsimp only;refine hK.out _ _ G (fun H=> ?_);clear hK K F E H;have F:=G;clear G;refine rdH (i:=5) fun K hK=> ?_
      go_simp
      refine(Ar 0 4 _ (by decide) (by decide)).mono ?_;rintro e dp ⟨co,cn,ch,rfl,ar,E⟩;have G:Below ae.heap.size ae dp:=F.trans (E.mono F.size);replace ag:=ag.below E;replace I:=I.below E;replace Z:=Z.below E;dsimp only;refine hK.out _ _ G (fun H=> ?_);clear hK K F E H;have F:=G;clear G;refine rdH (i:=9) fun K hK=> ?_
      go_simp
      refine(Ar cr 4 _ (by omega) (by decide)).mono ?_;rintro e di ⟨cv,c5,c6,rfl,ap,E⟩;have G:Below ae.heap.size ae di:=F.trans (E.mono F.size);replace ag:=ag.below E;replace I:=I.below E;replace Z:=Z.below E;replace ar:=ar.below E;dsimp only;refine hK.out _ _ G (fun H=> ?_);clear hK K F E H;have F:=G;clear G;refine rdH (i:=13) fun K hK=> ?_
      go_simp
      refine(Ar pl 4 _ (by omega) (by decide)).mono ?_;rintro e fp ⟨d1,d4,e6,rfl,ci,E⟩;have G:Below ae.heap.size ae fp:=F.trans (E.mono F.size);replace ag:=ag.below E;replace I:=I.below E;replace Z:=Z.below E;replace ar:=ar.below E;replace ap:=ap.below E;dsimp only;refine hK.out _ _ G (fun H=> ?_);clear hK K F E H;have F:=G;clear G;refine rdH (i:=18) fun K hK=> ?_
      go_simp
      refine(Ar bl 4 _ (by omega) (by decide)).mono ?_;rintro e gv ⟨ek,e4,eb,rfl,cw,E⟩;have G:Below ae.heap.size ae gv:=F.trans (E.mono F.size);replace ag:=ag.below E;replace I:=I.below E;replace Z:=Z.below E;replace ar:=ar.below E;replace ap:=ap.below E;replace ci:=ci.below E;dsimp only;refine hK.out _ _ G (fun H=> ?_);clear hK K F E H;have F:=G;clear G;refine rdH (i:=23) fun K hK=> ?_
      go_simp
      refine(Ar a9 2 _ (by omega) (by decide)).mono ?_;rintro e g5 ⟨em,ed,e7,rfl,dt,E⟩;have G:Below ae.heap.size ae g5:=F.trans (E.mono F.size);replace ag:=ag.below E;replace I:=I.below E;replace Z:=Z.below E;replace ar:=ar.below E;replace ap:=ap.below E;replace ci:=ci.below E;replace cw:=cw.below E;dsimp only;refine hK.out _ _ G (fun H=> ?_);clear hK K F E H;have F:=G;clear G;refine rdH (i:=24) fun K hK=> ?_
      go_simp
      refine(Ar 11 2 _ (by decide) (by decide)).mono ?_;rintro e gu ⟨en,eh,ey,rfl,gh,E⟩;have G:Below ae.heap.size ae gu:=F.trans (E.mono F.size);replace ag:=ag.below E;replace I:=I.below E;replace Z:=Z.below E;replace ar:=ar.below E;replace ap:=ap.below E;replace ci:=ci.below E;replace cw:=cw.below E;replace dt:=dt.below E;dsimp only;refine hK.out _ _ G (fun H=> ?_);clear hK K F E H;have F:=G;clear G;refine rdH (i:=25) fun K hK=> ?_
      go_simp
      have G:=F.alloc F.size (.cells #[.slice cz cp c0,.slice ah l1 c1,.slice ay a0 an,.slice co cn ch,.slice cv c5 c6,.slice d1 d4 e6,.slice ek e4 eb,.slice em ed e7,.slice en eh ey] 23);refine hK.out _ _ G (fun H=> ?_);clear hK K H;refine rdH (i:=26) fun K hK=> ?_
      go_simp
      refine(Cz _ [.slice cz cp c0,.slice ah l1 c1,.slice ay a0 an,.slice co cn ch,.slice cv c5 c6,.slice d1 d4 e6,.slice ek e4 eb,.slice em ed e7,.slice en eh ey] [Ag 20 2,Ag 0 2,Ag mt 2,Ag 0 4,Ag cr 4,Ag pl 4,Ag bl 4,Ag a9 2,Ag 11 2] _ _ 9 9 (PIns.cons ag (PIns.cons I (PIns.cons Z (PIns.cons ar (PIns.cons ap (PIns.cons ci (PIns.cons cw (PIns.cons dt (PIns.cons gh .nil))))))))) rfl rfl (by decide) (by simp[Ai])).mono ?_;rintro e bt ⟨b3,bw,b0,rfl,aj,E⟩;have Y:=F.trans (E.mono F.size);dsimp only;refine hK.out _ _ Y (fun H=> ?_);clear hK K H;refine rdH (i:=27) fun K hK=> ?_
      go_simp
      refine hK.out _ _ Y (fun H=> ?_);clear hK K H;refine wpAnyH_done (by kernel_rfl) ?_ _;go_wp2_with fail
      go_meet
      exact Ab ⟨aj,Y⟩
     case rest=>
      rename World=>O
      obtain⟨ap,T⟩:=Aa hcut;replace bh:=(T.cell (p:=⟨wr.heap.size,0,none⟩) U).trans bh;replace x1:=(T.cell (p:=⟨wr.heap.size,1,none⟩) U).trans x1;replace x2:=(T.cell (p:=⟨wr.heap.size,2,none⟩) U).trans x2;replace x3:=(T.cell (p:=⟨wr.heap.size,3,none⟩) U).trans x3;replace x4:=(T.cell (p:=⟨wr.heap.size,4,none⟩) U).trans x4;replace b4:=(T.cell (p:=⟨wr.heap.size,5,none⟩) U).trans b4;replace bn:=(T.cell (p:=⟨wr.heap.size,6,none⟩) U).trans bn;replace bz:=(T.cell (p:=⟨wr.heap.size,7,none⟩) U).trans bz;replace U:=VG U T.size;replace ab:=Ab (show PIn O (.slice bu af bo) _/\PIn O (.slice a2 am a4) _/\Below w.heap.size w O from ⟨(Aa ab).1.below T,(Aa ab).2.1.below T,(Aa ab).2.2.trans (T.mono (Aa ab).2.2.size)⟩);replace cj:=Ab ((Aa cj).below T);replace bq:=Ab ((Aa bq).below T);obtain⟨az,a3,a7,rfl⟩:=ap.slice;have b7:=Ab ap;clear hcut T ap f9;have c4:=Ab (Z9k (Ao 0 (l.take k)) nml mt cr pl bl a9 st nd gn af (Aa dx k) (by rw[Aa dc];exact c8));go_upto_region 8 with fail
      go_cut [4] (fun de ao=>Hid (PIn ao de ([Ao 0 (l.take k),Ag 33639248 4,Ag 20 2,([Ag 20 2,Ag 0 2,Ag mt 2,Ag 0 4,Ag cr 4,Ag pl 4,Ag bl 4,Ag a9 2,Ag 11 2]:List (List Nat)).flatten,Ag 0 10,Ag af 4,n8 nml,([Ag 29297 2,Ag 7 2,Ag st 4,Ag nd 2,Ag (Ed gn) 1]:List (List Nat)).flatten]:List (List Nat)).flatten/\Below O.heap.size O ao))
      case first=>
       have dv:=Z2z nm;refine wp_region_held_drew (S:=fun W=>Below O.heap.size O W) (by kernel_rfl) (Ae (Below.refl _ _) 1) (fun F=> ?_);generalize O.drew=ba at F ⊢;refine tkH (i:=0) (v:=.slice a2 am a4) F ?_;simp only[Act.put,VA,VC,VD];refine tkH (i:=3) (v:=.slice az a3 a7) F ?_;simp only[Act.put,VA,VC,VD];refine tkH (i:=5) (v:=.slice bu af bo) F ?_;simp only[Act.put,VA,VC,VD];refine tkH (i:=6) (v:=.int .i64 (af:Int)) F ?_;simp only[Act.put,VA,VC,VD];refine tkH (i:=8) (v:=.pointer (some ⟨wr.heap.size,0,none⟩)) F ?_;simp only[Act.put,VA,VC,VD];refine tkH (i:=9) (v:=.pointer (some ⟨wr.heap.size,0,none⟩)) F ?_;simp only[Act.put,VA,VC,VD];refine wpAnyH_take (i:=10) (v:=.string nm) rfl (by kernel_rfl) (by kernel_rfl) (by kernel_rfl) (fun _ _ _ h=>h) (Or.inl ⟨by rfl,fun W ak=>by have hc:=(ak.cell (p:=⟨wr.heap.size,0,none⟩) U).trans bh;go_simp⟩) F ?_;simp only[Act.put,VA,VC,VD];refine tkH (i:=12) (v:=.slice ax a1 aw) F ?_;simp only[Act.put,VA,VC,VD];refine wpAnyH_ready (rs:= [1,11]) (by kernel_rfl) (by simp) (AllReadyH.cons rfl (fun K hK=> ?_) (AllReadyH.cons rfl (fun K hK=> ?_) AllReadyH.nil))
       . go_simp
         refine(Ar 33639248 4 _ (by decide) (by decide)).mono ?_;rintro e al ⟨ah,l1,c1,rfl,I,E⟩;have G:Below O.heap.size O al:=F.trans (E.mono F.size);dsimp only;refine hK.out _ _ G (fun H=> ?_);clear hK K F E H;have F:=G;clear G;refine wpAnyH_ready (rs:= [2,11]) (by kernel_rfl) (by simp) (AllReadyH.cons rfl (fun K hK=> ?_) (AllReadyH.cons rfl (fun K hK=> ?_) AllReadyH.nil))
         . go_simp
           refine(Ar 20 2 _ (by decide) (by decide)).mono ?_;rintro e ce ⟨bk,l2,c2,rfl,aa,E⟩;have G:Below O.heap.size O ce:=F.trans (E.mono F.size);replace I:=I.below E;dsimp only;refine hK.out _ _ G (fun H=> ?_);clear hK K F E H;have F:=G;clear G;refine wpAnyH_ready (rs:= [4,11]) (by kernel_rfl) (by simp) (AllReadyH.cons rfl (fun K hK=> ?_) (AllReadyH.cons rfl (fun K hK=> ?_) AllReadyH.nil))
           . go_simp
             refine(Ar 0 10 _ (by decide) (by decide)).mono ?_;rintro e bf ⟨ay,a0,an,rfl,Z,E⟩;have G:Below O.heap.size O bf:=F.trans (E.mono F.size);replace I:=I.below E;replace aa:=aa.below E;dsimp only;refine hK.out _ _ G (fun H=> ?_);clear hK K F E H;have F:=G;clear G;refine wpAnyH_ready (rs:= [7,11]) (by kernel_rfl) (by simp) (AllReadyH.cons rfl (fun K hK=> ?_) (AllReadyH.cons rfl (fun K hK=> ?_) AllReadyH.nil))
             . go_simp
               refine(Ar af 4 _ (by omega) (by decide)).mono ?_;rintro e bg ⟨bb,bc,au,rfl,bm,E⟩;have G:Below O.heap.size O bg:=F.trans (E.mono F.size);replace I:=I.below E;replace aa:=aa.below E;replace Z:=Z.below E;dsimp only;refine hK.out _ _ G (fun H=> ?_);clear hK K F E H;have F:=G;clear G;refine rdH (i:=11) fun K hK=> ?_
               go_simp
               have M:=Sj bg nm nml (Aa ck);generalize cvW bg nm=be at M ⊢;generalize cvC bg nm=av at M ⊢;generalize cvA bg=as at M ⊢;generalize cvL nm=aq at M ⊢;have ac:=M.1;have E:=M.2;clear M;have G:Below O.heap.size O be:=F.trans (E.mono F.size);replace I:=I.below E;replace aa:=aa.below E;replace Z:=Z.below E;replace bm:=bm.below E;refine hK.out _ _ G (fun H=> ?_);clear hK K F E H;have F:=G;clear G;refine rdH (i:=13) fun K hK=> ?_
               go_simp
               have G:=F.alloc F.size (.cells #[.slice a2 am a4,.slice ah l1 c1,.slice bk l2 c2,.slice az a3 a7,.slice ay a0 an,.slice bb bc au,.slice as aq av,.slice ax a1 aw] 23);refine hK.out _ _ G (fun H=> ?_);clear hK K H;refine rdH (i:=14) fun K hK=> ?_
               go_simp
               refine(Cz _ [.slice a2 am a4,.slice ah l1 c1,.slice bk l2 c2,.slice az a3 a7,.slice ay a0 an,.slice bb bc au,.slice as aq av,.slice ax a1 aw] [Ao 0 (l.take k),Ag 33639248 4,Ag 20 2,([Ag 20 2,Ag 0 2,Ag mt 2,Ag 0 4,Ag cr 4,Ag pl 4,Ag bl 4,Ag a9 2,Ag 11 2]:List (List Nat)).flatten,Ag 0 10,Ag af 4,n8 nml,([Ag 29297 2,Ag 7 2,Ag st 4,Ag nd 2,Ag (Ed gn) 1]:List (List Nat)).flatten] _ _ 8 8 (PIns.cons ((Aa ab).2.1.below F) (PIns.cons I (PIns.cons aa (PIns.cons ((Aa b7).below F) (PIns.cons Z (PIns.cons bm (PIns.cons ac (PIns.cons ((Aa bq).below F) .nil)))))))) rfl rfl (by decide) (by exact Aa c4)).mono ?_;rintro e bt ⟨b3,bw,b0,rfl,aj,E⟩;have Y:=F.trans (E.mono F.size);dsimp only;refine hK.out _ _ Y (fun H=> ?_);clear hK K H;refine rdH (i:=15) fun K hK=> ?_
               go_simp
               refine hK.out _ _ Y (fun H=> ?_);clear hK K H;refine wpAnyH_done (by kernel_rfl) ?_ _;go_wp2_with fail
               go_meet
               exact Ab ⟨aj,Y⟩
             . go_simp
               have M:=Sj bf nm nml (Aa ck);generalize cvW bf nm=be at M ⊢;generalize cvC bf nm=av at M ⊢;generalize cvA bf=as at M ⊢;generalize cvL nm=aq at M ⊢;have ac:=M.1;have E:=M.2;clear M;have G:Below O.heap.size O be:=F.trans (E.mono F.size);replace I:=I.below E;replace aa:=aa.below E;replace Z:=Z.below E;refine hK.out _ _ G (fun H=> ?_);clear hK K F E H;have F:=G;clear G;refine rdH (i:=7) fun K hK=> ?_
               go_simp
               refine(Ar af 4 _ (by omega) (by decide)).mono ?_;rintro e bg ⟨bb,bc,au,rfl,bm,E⟩;have G:Below O.heap.size O bg:=F.trans (E.mono F.size);replace I:=I.below E;replace aa:=aa.below E;replace Z:=Z.below E;replace ac:=ac.below E;dsimp only;refine hK.out _ _ G (fun H=> ?_);clear hK K F E H;have F:=G;clear G;refine rdH (i:=13) fun K hK=> ?_
               go_simp
               have G:=F.alloc F.size (.cells #[.slice a2 am a4,.slice ah l1 c1,.slice bk l2 c2,.slice az a3 a7,.slice ay a0 an,.slice bb bc au,.slice as aq av,.slice ax a1 aw] 23);refine hK.out _ _ G (fun H=> ?_);clear hK K H;refine rdH (i:=14) fun K hK=> ?_
               go_simp
               refine(Cz _ [.slice a2 am a4,.slice ah l1 c1,.slice bk l2 c2,.slice az a3 a7,.slice ay a0 an,.slice bb bc au,.slice as aq av,.slice ax a1 aw] [Ao 0 (l.take k),Ag 33639248 4,Ag 20 2,([Ag 20 2,Ag 0 2,Ag mt 2,Ag 0 4,Ag cr 4,Ag pl 4,Ag bl 4,Ag a9 2,Ag 11 2]:List (List Nat)).flatten,Ag 0 10,Ag af 4,n8 nml,([Ag 29297 2,Ag 7 2,Ag st 4,Ag nd 2,Ag (Ed gn) 1]:List (List Nat)).flatten] _ _ 8 8 (PIns.cons ((Aa ab).2.1.below F) (PIns.cons I (PIns.cons aa (PIns.cons ((Aa b7).below F) (PIns.cons Z (PIns.cons bm (PIns.cons ac (PIns.cons ((Aa bq).below F) .nil)))))))) rfl rfl (by decide) (by exact Aa c4)).mono ?_;rintro e bt ⟨b3,bw,b0,rfl,aj,E⟩;have Y:=F.trans (E.mono F.size);dsimp only;refine hK.out _ _ Y (fun H=> ?_);clear hK K H;refine rdH (i:=15) fun K hK=> ?_
               go_simp
               refine hK.out _ _ Y (fun H=> ?_);clear hK K H;refine wpAnyH_done (by kernel_rfl) ?_ _;go_wp2_with fail
               go_meet
               exact Ab ⟨aj,Y⟩
           . go_simp
             have M:=Sj ce nm nml (Aa ck);generalize cvW ce nm=be at M ⊢;generalize cvC ce nm=av at M ⊢;generalize cvA ce=as at M ⊢;generalize cvL nm=aq at M ⊢;have ac:=M.1;have E:=M.2;clear M;have G:Below O.heap.size O be:=F.trans (E.mono F.size);replace I:=I.below E;replace aa:=aa.below E;refine hK.out _ _ G (fun H=> ?_);clear hK K F E H;have F:=G;clear G;refine rdH (i:=4) fun K hK=> ?_
             go_simp
             refine(Ar 0 10 _ (by decide) (by decide)).mono ?_;rintro e bf ⟨ay,a0,an,rfl,Z,E⟩;have G:Below O.heap.size O bf:=F.trans (E.mono F.size);replace I:=I.below E;replace aa:=aa.below E;replace ac:=ac.below E;dsimp only;refine hK.out _ _ G (fun H=> ?_);clear hK K F E H;have F:=G;clear G;refine rdH (i:=7) fun K hK=> ?_
             go_simp
             refine(Ar af 4 _ (by omega) (by decide)).mono ?_;rintro e bg ⟨bb,bc,au,rfl,bm,E⟩;have G:Below O.heap.size O bg:=F.trans (E.mono F.size);replace I:=I.below E;replace aa:=aa.below E;replace ac:=ac.below E;replace Z:=Z.below E;dsimp only;refine hK.out _ _ G (fun H=> ?_);clear hK K F E H;have F:=G;clear G;refine rdH (i:=13) fun K hK=> ?_
             go_simp
             have G:=F.alloc F.size (.cells #[.slice a2 am a4,.slice ah l1 c1,.slice bk l2 c2,.slice az a3 a7,.slice ay a0 an,.slice bb bc au,.slice as aq av,.slice ax a1 aw] 23);refine hK.out _ _ G (fun H=> ?_);clear hK K H;refine rdH (i:=14) fun K hK=> ?_
             go_simp
             refine(Cz _ [.slice a2 am a4,.slice ah l1 c1,.slice bk l2 c2,.slice az a3 a7,.slice ay a0 an,.slice bb bc au,.slice as aq av,.slice ax a1 aw] [Ao 0 (l.take k),Ag 33639248 4,Ag 20 2,([Ag 20 2,Ag 0 2,Ag mt 2,Ag 0 4,Ag cr 4,Ag pl 4,Ag bl 4,Ag a9 2,Ag 11 2]:List (List Nat)).flatten,Ag 0 10,Ag af 4,n8 nml,([Ag 29297 2,Ag 7 2,Ag st 4,Ag nd 2,Ag (Ed gn) 1]:List (List Nat)).flatten] _ _ 8 8 (PIns.cons ((Aa ab).2.1.below F) (PIns.cons I (PIns.cons aa (PIns.cons ((Aa b7).below F) (PIns.cons Z (PIns.cons bm (PIns.cons ac (PIns.cons ((Aa bq).below F) .nil)))))))) rfl rfl (by decide) (by exact Aa c4)).mono ?_;rintro e bt ⟨b3,bw,b0,rfl,aj,E⟩;have Y:=F.trans (E.mono F.size);dsimp only;refine hK.out _ _ Y (fun H=> ?_);clear hK K H;refine rdH (i:=15) fun K hK=> ?_
             go_simp
             refine hK.out _ _ Y (fun H=> ?_);clear hK K H;refine wpAnyH_done (by kernel_rfl) ?_ _;go_wp2_with fail
             go_meet
             exact Ab ⟨aj,Y⟩
         . go_simp
           have M:=Sj al nm nml (Aa ck);generalize cvW al nm=be at M ⊢;generalize cvC al nm=av at M ⊢;generalize cvA al=as at M ⊢;generalize cvL nm=aq at M ⊢;have ac:=M.1;have E:=M.2;clear M;have G:Below O.heap.size O be:=F.trans (E.mono F.size);replace I:=I.below E;refine hK.out _ _ G (fun H=> ?_);clear hK K F E H;have F:=G;clear G;refine rdH (i:=2) fun K hK=> ?_
           go_simp
           refine(Ar 20 2 _ (by decide) (by decide)).mono ?_;rintro e ce ⟨bk,l2,c2,rfl,aa,E⟩;have G:Below O.heap.size O ce:=F.trans (E.mono F.size);replace I:=I.below E;replace ac:=ac.below E;dsimp only;refine hK.out _ _ G (fun H=> ?_);clear hK K F E H;have F:=G;clear G;refine rdH (i:=4) fun K hK=> ?_
           go_simp
           refine(Ar 0 10 _ (by decide) (by decide)).mono ?_;rintro e bf ⟨ay,a0,an,rfl,Z,E⟩;have G:Below O.heap.size O bf:=F.trans (E.mono F.size);replace I:=I.below E;replace ac:=ac.below E;replace aa:=aa.below E;dsimp only;refine hK.out _ _ G (fun H=> ?_);clear hK K F E H;have F:=G;clear G;refine rdH (i:=7) fun K hK=> ?_
           go_simp
           refine(Ar af 4 _ (by omega) (by decide)).mono ?_;rintro e bg ⟨bb,bc,au,rfl,bm,E⟩;have G:Below O.heap.size O bg:=F.trans (E.mono F.size);replace I:=I.below E;replace ac:=ac.below E;replace aa:=aa.below E;replace Z:=Z.below E;dsimp only;refine hK.out _ _ G (fun H=> ?_);clear hK K F E H;have F:=G;clear G;refine rdH (i:=13) fun K hK=> ?_
           go_simp
           have G:=F.alloc F.size (.cells #[.slice a2 am a4,.slice ah l1 c1,.slice bk l2 c2,.slice az a3 a7,.slice ay a0 an,.slice bb bc au,.slice as aq av,.slice ax a1 aw] 23);refine hK.out _ _ G (fun H=> ?_);clear hK K H;refine rdH (i:=14) fun K hK=> ?_
           go_simp
           refine(Cz _ [.slice a2 am a4,.slice ah l1 c1,.slice bk l2 c2,.slice az a3 a7,.slice ay a0 an,.slice bb bc au,.slice as aq av,.slice ax a1 aw] [Ao 0 (l.take k),Ag 33639248 4,Ag 20 2,([Ag 20 2,Ag 0 2,Ag mt 2,Ag 0 4,Ag cr 4,Ag pl 4,Ag bl 4,Ag a9 2,Ag 11 2]:List (List Nat)).flatten,Ag 0 10,Ag af 4,n8 nml,([Ag 29297 2,Ag 7 2,Ag st 4,Ag nd 2,Ag (Ed gn) 1]:List (List Nat)).flatten] _ _ 8 8 (PIns.cons ((Aa ab).2.1.below F) (PIns.cons I (PIns.cons aa (PIns.cons ((Aa b7).below F) (PIns.cons Z (PIns.cons bm (PIns.cons ac (PIns.cons ((Aa bq).below F) .nil)))))))) rfl rfl (by decide) (by exact Aa c4)).mono ?_;rintro e bt ⟨b3,bw,b0,rfl,aj,E⟩;have Y:=F.trans (E.mono F.size);dsimp only;refine hK.out _ _ Y (fun H=> ?_);clear hK K H;refine rdH (i:=15) fun K hK=> ?_
           go_simp
           refine hK.out _ _ Y (fun H=> ?_);clear hK K H;refine wpAnyH_done (by kernel_rfl) ?_ _;go_wp2_with fail
           go_meet
           exact Ab ⟨aj,Y⟩
       . go_simp
         have M:=Sj ba nm nml (Aa ck);generalize cvW ba nm=be at M ⊢;generalize cvC ba nm=av at M ⊢;generalize cvA ba=as at M ⊢;generalize cvL nm=aq at M ⊢;have ac:=M.1;have E:=M.2;clear M;have G:Below O.heap.size O be:=F.trans (E.mono F.size);refine hK.out _ _ G (fun H=> ?_);clear hK K F E H;have F:=G;clear G;refine rdH (i:=1) fun K hK=> ?_
         go_simp
         refine(Ar 33639248 4 _ (by decide) (by decide)).mono ?_;rintro e al ⟨ah,l1,c1,rfl,I,E⟩;have G:Below O.heap.size O al:=F.trans (E.mono F.size);replace ac:=ac.below E;dsimp only;refine hK.out _ _ G (fun H=> ?_);clear hK K F E H;have F:=G;clear G;refine rdH (i:=2) fun K hK=> ?_
         go_simp
         refine(Ar 20 2 _ (by decide) (by decide)).mono ?_;rintro e ce ⟨bk,l2,c2,rfl,aa,E⟩;have G:Below O.heap.size O ce:=F.trans (E.mono F.size);replace ac:=ac.below E;replace I:=I.below E;dsimp only;refine hK.out _ _ G (fun H=> ?_);clear hK K F E H;have F:=G;clear G;refine rdH (i:=4) fun K hK=> ?_
         go_simp
         refine(Ar 0 10 _ (by decide) (by decide)).mono ?_;rintro e bf ⟨ay,a0,an,rfl,Z,E⟩;have G:Below O.heap.size O bf:=F.trans (E.mono F.size);replace ac:=ac.below E;replace I:=I.below E;replace aa:=aa.below E;dsimp only;refine hK.out _ _ G (fun H=> ?_);clear hK K F E H;have F:=G;clear G;refine rdH (i:=7) fun K hK=> ?_
         go_simp
         refine(Ar af 4 _ (by omega) (by decide)).mono ?_;rintro e bg ⟨bb,bc,au,rfl,bm,E⟩;have G:Below O.heap.size O bg:=F.trans (E.mono F.size);replace ac:=ac.below E;replace I:=I.below E;replace aa:=aa.below E;replace Z:=Z.below E;dsimp only;refine hK.out _ _ G (fun H=> ?_);clear hK K F E H;have F:=G;clear G;refine rdH (i:=13) fun K hK=> ?_
         go_simp
         have G:=F.alloc F.size (.cells #[.slice a2 am a4,.slice ah l1 c1,.slice bk l2 c2,.slice az a3 a7,.slice ay a0 an,.slice bb bc au,.slice as aq av,.slice ax a1 aw] 23);refine hK.out _ _ G (fun H=> ?_);clear hK K H;refine rdH (i:=14) fun K hK=> ?_
         go_simp
         refine(Cz _ [.slice a2 am a4,.slice ah l1 c1,.slice bk l2 c2,.slice az a3 a7,.slice ay a0 an,.slice bb bc au,.slice as aq av,.slice ax a1 aw] [Ao 0 (l.take k),Ag 33639248 4,Ag 20 2,([Ag 20 2,Ag 0 2,Ag mt 2,Ag 0 4,Ag cr 4,Ag pl 4,Ag bl 4,Ag a9 2,Ag 11 2]:List (List Nat)).flatten,Ag 0 10,Ag af 4,n8 nml,([Ag 29297 2,Ag 7 2,Ag st 4,Ag nd 2,Ag (Ed gn) 1]:List (List Nat)).flatten] _ _ 8 8 (PIns.cons ((Aa ab).2.1.below F) (PIns.cons I (PIns.cons aa (PIns.cons ((Aa b7).below F) (PIns.cons Z (PIns.cons bm (PIns.cons ac (PIns.cons ((Aa bq).below F) .nil)))))))) rfl rfl (by decide) (by exact Aa c4)).mono ?_;rintro e bt ⟨b3,bw,b0,rfl,aj,E⟩;have Y:=F.trans (E.mono F.size);dsimp only;refine hK.out _ _ Y (fun H=> ?_);clear hK K H;refine rdH (i:=15) fun K hK=> ?_
         go_simp
         refine hK.out _ _ Y (fun H=> ?_);clear hK K H;refine wpAnyH_done (by kernel_rfl) ?_ _;go_wp2_with fail
         go_meet
         exact Ab ⟨aj,Y⟩
      case rest=>
       rename World=>ao
       obtain⟨Z,T⟩:=Aa hcut;replace bh:=(T.cell (p:=⟨wr.heap.size,0,none⟩) U).trans bh;replace x1:=(T.cell (p:=⟨wr.heap.size,1,none⟩) U).trans x1;replace x2:=(T.cell (p:=⟨wr.heap.size,2,none⟩) U).trans x2;replace x3:=(T.cell (p:=⟨wr.heap.size,3,none⟩) U).trans x3;replace x4:=(T.cell (p:=⟨wr.heap.size,4,none⟩) U).trans x4;replace b4:=(T.cell (p:=⟨wr.heap.size,5,none⟩) U).trans b4;replace bn:=(T.cell (p:=⟨wr.heap.size,6,none⟩) U).trans bn;replace bz:=(T.cell (p:=⟨wr.heap.size,7,none⟩) U).trans bz;replace U:=VG U T.size;replace ab:=Ab (show PIn ao (.slice bu af bo) _/\PIn ao (.slice a2 am a4) _/\Below w.heap.size w ao from ⟨(Aa ab).1.below T,(Aa ab).2.1.below T,(Aa ab).2.2.trans (T.mono (Aa ab).2.2.size)⟩);replace cj:=Ab ((Aa cj).below T);replace bq:=Ab ((Aa bq).below T);replace b7:=Ab ((Aa b7).below T);have cl:=Ab Z;clear hcut T Z;have eq:=Ab (Z9j (Av (l.take k)) pk nml mt cr pl bl a9 st nd gn (Aa df k) (by rw[Aa dc];exact c8) (by rw[Aa c7];exact dr));go_upto_region 9 with fail
       have e0:Hid (PIn ao (.slice pa pl pc) pk):=Ab ⟨pa,pc,by rw[Aa c7],(Aa e8).2,(Aa cj).pk⟩;have dv:=Z2z nm;refine wp_region_held_drew (S:=fun W=>Below ao.heap.size ao W) (by kernel_rfl) (Ae (Below.refl _ _) 1) (fun F=> ?_);generalize ao.drew=ba at F ⊢;refine tkH (i:=0) (v:=.slice bu af bo) F ?_;simp only[Act.put,VA,VC,VD];refine tkH (i:=2) (v:=.slice az a3 a7) F ?_;simp only[Act.put,VA,VC,VD];refine tkH (i:=3) (v:=.pointer (some ⟨wr.heap.size,0,none⟩)) F ?_;simp only[Act.put,VA,VC,VD];refine tkH (i:=4) (v:=.pointer (some ⟨wr.heap.size,0,none⟩)) F ?_;simp only[Act.put,VA,VC,VD];refine wpAnyH_take (i:=5) (v:=.string nm) rfl (by kernel_rfl) (by kernel_rfl) (by kernel_rfl) (fun _ _ _ h=>h) (Or.inl ⟨by rfl,fun W ak=>by have hc:=(ak.cell (p:=⟨wr.heap.size,0,none⟩) U).trans bh;go_simp⟩) F ?_;simp only[Act.put,VA,VC,VD];refine tkH (i:=7) (v:=.slice ax a1 aw) F ?_;simp only[Act.put,VA,VC,VD];refine tkH (i:=8) (v:=.pointer (some ⟨wr.heap.size,6,none⟩)) F ?_;simp only[Act.put,VA,VC,VD];refine wpAnyH_take (i:=9) (v:=.slice pa pl pc) rfl (by kernel_rfl) (by kernel_rfl) (by kernel_rfl) (fun _ _ _ h=>h) (Or.inl ⟨by rfl,fun W ak=>by have hc:=(ak.cell (p:=⟨wr.heap.size,6,none⟩) U).trans bn;go_simp⟩) F ?_;simp only[Act.put,VA,VC,VD];refine wpAnyH_ready (rs:= [1,6]) (by kernel_rfl) (by simp) (AllReadyH.cons rfl (fun K hK=> ?_) (AllReadyH.cons rfl (fun K hK=> ?_) AllReadyH.nil))
       . go_simp
         refine(Ar 67324752 4 _ (by decide) (by decide)).mono ?_;rintro e al ⟨ah,l1,c1,rfl,I,E⟩;have G:Below ao.heap.size ao al:=F.trans (E.mono F.size);dsimp only;refine hK.out _ _ G (fun H=> ?_);clear hK K F E H;have F:=G;clear G;refine rdH (i:=6) fun K hK=> ?_
         go_simp
         have M:=Sj al nm nml (Aa ck);generalize cvW al nm=be at M ⊢;generalize cvC al nm=b9 at M ⊢;generalize cvA al=c3 at M ⊢;generalize cvL nm=cu at M ⊢;have ct:=M.1;have E:=M.2;clear M;have G:Below ao.heap.size ao be:=F.trans (E.mono F.size);replace I:=I.below E;refine hK.out _ _ G (fun H=> ?_);clear hK K F E H;have F:=G;clear G;refine rdH (i:=10) fun K hK=> ?_
         go_simp
         have G:=F.alloc F.size (.cells #[.slice bu af bo,.slice ah l1 c1,.slice az a3 a7,.slice c3 cu b9,.slice ax a1 aw,.slice pa pl pc] 23);refine hK.out _ _ G (fun H=> ?_);clear hK K H;refine rdH (i:=11) fun K hK=> ?_
         go_simp
         refine(Cz _ [.slice bu af bo,.slice ah l1 c1,.slice az a3 a7,.slice c3 cu b9,.slice ax a1 aw,.slice pa pl pc] [Av (l.take k),Ag 67324752 4,([Ag 20 2,Ag 0 2,Ag mt 2,Ag 0 4,Ag cr 4,Ag pl 4,Ag bl 4,Ag a9 2,Ag 11 2]:List (List Nat)).flatten,n8 nml,([Ag 29297 2,Ag 7 2,Ag st 4,Ag nd 2,Ag (Ed gn) 1]:List (List Nat)).flatten,pk] _ _ 6 6 (PIns.cons ((Aa ab).1.below F) (PIns.cons I (PIns.cons ((Aa b7).below F) (PIns.cons ct (PIns.cons ((Aa bq).below F) (PIns.cons ((Aa e0).below F) .nil)))))) rfl rfl (by decide) (by exact Aa eq)).mono ?_;rintro e bt ⟨b3,bw,b0,rfl,aj,E⟩;have Y:=F.trans (E.mono F.size);dsimp only;refine hK.out _ _ Y (fun H=> ?_);clear hK K H;refine rdH (i:=12) fun K hK=> ?_
         go_simp
         refine hK.out _ _ Y (fun H=> ?_);clear hK K H;refine wpAnyH_done (by kernel_rfl) ?_ _;have cy:=Ab (C5 (k:=k) (l:=l) (nml:=nml) (bys:=bys) (st:=st) (nd:=nd) (gn:=gn) (mt:=mt) (pk:=pk) (cr:=cr) (Aa eg) (Aa dc) (Aa d9) (Aa c7) (Aa dn));have dh:=Ab aj;replace cl:=Ab ((Aa cl).below Y);replace ab:=Ab ((Aa ab).2.2.trans (Y.mono (Aa ab).2.2.size));clear aj Y F E bh x1 x2 x3 x4 b4 bn bz dv;go_wp2;go_roundw
         case rel=>exact⟨k+1,by omega,by go_num,Ab ⟨by rw[(Aa cy).1];exact Aa dh,by rw[(Aa cy).2];exact Aa cl,Aa ab⟩⟩
         case measure=>simp[intOf];omega
       . go_simp
         have M:=Sj ba nm nml (Aa ck);generalize cvW ba nm=be at M ⊢;generalize cvC ba nm=b9 at M ⊢;generalize cvA ba=c3 at M ⊢;generalize cvL nm=cu at M ⊢;have ct:=M.1;have E:=M.2;clear M;have G:Below ao.heap.size ao be:=F.trans (E.mono F.size);refine hK.out _ _ G (fun H=> ?_);clear hK K F E H;have F:=G;clear G;refine rdH (i:=1) fun K hK=> ?_
         go_simp
         refine(Ar 67324752 4 _ (by decide) (by decide)).mono ?_;rintro e al ⟨ah,l1,c1,rfl,I,E⟩;have G:Below ao.heap.size ao al:=F.trans (E.mono F.size);replace ct:=ct.below E;dsimp only;refine hK.out _ _ G (fun H=> ?_);clear hK K F E H;have F:=G;clear G;refine rdH (i:=10) fun K hK=> ?_
         go_simp
         have G:=F.alloc F.size (.cells #[.slice bu af bo,.slice ah l1 c1,.slice az a3 a7,.slice c3 cu b9,.slice ax a1 aw,.slice pa pl pc] 23);refine hK.out _ _ G (fun H=> ?_);clear hK K H;refine rdH (i:=11) fun K hK=> ?_
         go_simp
         refine(Cz _ [.slice bu af bo,.slice ah l1 c1,.slice az a3 a7,.slice c3 cu b9,.slice ax a1 aw,.slice pa pl pc] [Av (l.take k),Ag 67324752 4,([Ag 20 2,Ag 0 2,Ag mt 2,Ag 0 4,Ag cr 4,Ag pl 4,Ag bl 4,Ag a9 2,Ag 11 2]:List (List Nat)).flatten,n8 nml,([Ag 29297 2,Ag 7 2,Ag st 4,Ag nd 2,Ag (Ed gn) 1]:List (List Nat)).flatten,pk] _ _ 6 6 (PIns.cons ((Aa ab).1.below F) (PIns.cons I (PIns.cons ((Aa b7).below F) (PIns.cons ct (PIns.cons ((Aa bq).below F) (PIns.cons ((Aa e0).below F) .nil)))))) rfl rfl (by decide) (by exact Aa eq)).mono ?_;rintro e bt ⟨b3,bw,b0,rfl,aj,E⟩;have Y:=F.trans (E.mono F.size);dsimp only;refine hK.out _ _ Y (fun H=> ?_);clear hK K H;refine rdH (i:=12) fun K hK=> ?_
         go_simp
         refine hK.out _ _ Y (fun H=> ?_);clear hK K H;refine wpAnyH_done (by kernel_rfl) ?_ _;have cy:=Ab (C5 (k:=k) (l:=l) (nml:=nml) (bys:=bys) (st:=st) (nd:=nd) (gn:=gn) (mt:=mt) (pk:=pk) (cr:=cr) (Aa eg) (Aa dc) (Aa d9) (Aa c7) (Aa dn));have dh:=Ab aj;replace cl:=Ab ((Aa cl).below Y);replace ab:=Ab ((Aa ab).2.2.trans (Y.mono (Aa ab).2.2.size));clear aj Y F E bh x1 x2 x3 x4 b4 bn bz dv;go_wp2;go_roundw
         case rel=>exact⟨k+1,by omega,by go_num,Ab ⟨by rw[(Aa cy).1];exact Aa dh,by rw[(Aa cy).2];exact Aa cl,Aa ab⟩⟩
         case measure=>simp[intOf];omega
  . obtain rfl:n=k:=by omega
    have g4:Hid (l.take n=l):=Ab (by rw[VV (by rw[Aa ei];exact VB _)]);have a6:=(Aa bj).1;have a5:=(Aa bj).2.1;have ai:=(Aa bj).2.2;have f5:=Ab (Z8f (Av (l.take n)) (Ao 0 (l.take n)) n am af (Aa df n) (Aa dx n));clear bj;go_wp2_with fail
    refine(Ar 101010256 4 _ (by decide) (by decide)).mono ?_;rintro e hp ⟨gw,hg,fr,rfl,bd,E⟩;replace a6:=a6.below E;replace a5:=a5.below E;replace ai:=ai.trans (E.mono ai.size);clear E;go_wp2_with fail
    refine(Ar 0 4 _ (by decide) (by decide)).mono ?_;rintro e hu ⟨fu,f6,gx,rfl,bi,E⟩;replace a6:=a6.below E;replace a5:=a5.below E;replace bd:=bd.below E;replace ai:=ai.trans (E.mono ai.size);clear E;go_wp2_with fail
    refine(Ar n 2 _ (by omega) (by decide)).mono ?_;rintro e hs ⟨gj,g0,gg,rfl,bv,E⟩;replace a6:=a6.below E;replace a5:=a5.below E;replace bd:=bd.below E;replace bi:=bi.below E;replace ai:=ai.trans (E.mono ai.size);clear E;go_wp2_with fail
    refine(Ar n 2 _ (by omega) (by decide)).mono ?_;rintro e ht ⟨gd,he,g9,rfl,cg,E⟩;replace a6:=a6.below E;replace a5:=a5.below E;replace bd:=bd.below E;replace bi:=bi.below E;replace bv:=bv.below E;replace ai:=ai.trans (E.mono ai.size);clear E;go_wp2_with fail
    refine(Ar am 4 _ (by omega) (by decide)).mono ?_;rintro e hv ⟨fk,fx,hf,rfl,cm,E⟩;replace a6:=a6.below E;replace a5:=a5.below E;replace bd:=bd.below E;replace bi:=bi.below E;replace bv:=bv.below E;replace cg:=cg.below E;replace ai:=ai.trans (E.mono ai.size);clear E;go_wp2_with fail
    refine(Ar af 4 _ (by omega) (by decide)).mono ?_;rintro e ho ⟨fe,hh,fo,rfl,c9,E⟩;replace a6:=a6.below E;replace a5:=a5.below E;replace bd:=bd.below E;replace bi:=bi.below E;replace bv:=bv.below E;replace cg:=cg.below E;replace cm:=cm.below E;replace ai:=ai.trans (E.mono ai.size);clear E;go_wp2_with fail
    refine(Ar 0 2 _ (by decide) (by decide)).mono ?_;rintro e fy ⟨gy,ff,fw,rfl,d3,E⟩;replace a6:=a6.below E;replace a5:=a5.below E;replace bd:=bd.below E;replace bi:=bi.below E;replace bv:=bv.below E;replace cg:=cg.below E;replace cm:=cm.below E;replace c9:=c9.below E;replace ai:=ai.trans (E.mono ai.size);clear E;have fm:=Ab (show PIns fy [.slice bu af bo,.slice a2 am a4,.slice gw hg fr,.slice fu f6 gx,.slice gj g0 gg,.slice gd he g9,.slice fk fx hf,.slice fe hh fo,.slice gy ff fw] [Av (l.take n),Ao 0 (l.take n),Ag 101010256 4,Ag 0 4,Ag n 2,Ag n 2,Ag am 4,Ag af 4,Ag 0 2] from (PIns.cons a6 (PIns.cons a5 (PIns.cons bd (PIns.cons bi (PIns.cons bv (PIns.cons cg (PIns.cons cm (PIns.cons c9 (PIns.cons d3 .nil))))))))));have e1:=Ab ai;clear ai a6 a5 bd bi bv cg cm c9 d3;go_wp2_with fail
    refine(Cz _ _ _ _ _ 9 9 (Aa fm) rfl rfl (by decide) (Aa f5)).mono ?_;rintro e bt ⟨b3,bw,b0,rfl,aj,E⟩;have eo:Hid (PIn bt (.slice b3 bw b0) (Be l)/\Below w.heap.size w bt):=Ab ⟨by rw[Z23 (Aa g4) (Aa ei) (Aa dn) (Aa fg)];exact aj,(Aa e1).trans (E.mono (Aa e1).size)⟩;clear E aj;go_wp2;go_ret;exact⟨_,rfl,(Aa eo).1,(Aa eo).2⟩
end Go.Proofs.YtleocpdblhbimaaGreatDoor
