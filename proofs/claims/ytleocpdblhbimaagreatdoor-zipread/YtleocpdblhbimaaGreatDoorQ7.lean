import Derived.Test.YtleocpdblhbimaaGreatDoorQS
import Derived.Test.YtleocpdblhbimaaGreatDoorQ6
set_option linter.unusedSimpArgs false
set_option linter.unusedVariables false
set_option maxRecDepth 100000
set_option maxHeartbeats 8000000
namespace Go.Proofs.YtleocpdblhbimaaGreatDoor
open Go.RowKit
theorem Z18 (fh:Option Addr)(c n:Nat)(cm:List Ev)(w:World)(h:RsIn w fh cm)(dz:cm.length=n)(ii:n<=12)(d9:∀x∈cm,EWd x.e):
 Calls Tryz.prog 40 #[.slice fh n c] w fun e w'=>∃v,e=.returned v/\PIn w' v (Be (cm.map Ev.e))/\Below w.heap.size w w':=by
 obtain⟨l,c7⟩:=exq (cm.map Ev.e);have fj:l.length=n:=by rw[<-c7];simpa using dz
 have dv:∀x∈l,EWd x:=by
  rw[<-c7];intro x cp;obtain⟨y,gg,rfl⟩:=XG.1 cp;exact d9 y gg
 have fk:∀k,(Av (l.take k)).length<=24041*12:=fun k=>by
  have ha:=CU (l.take k) (fun x cp=>dv x (VR cp));have gi:(l.take k).length<=12:=by rw[VL];omega
  omega
 have fw:∀k,(Ao 0 (l.take k)).length<=12057*12:=fun k=>by
  have ha:=Zu (l.take k) 0 (fun x cp=>dv x (VR cp));have gi:(l.take k).length<=12:=by rw[VL];omega
  omega
 rw[c7];have e8:∀(k:Nat) (x:Ev),cm[k]? =some x->l[k]? =some x.e:=fun k x e9=>by rw[<-c7];simp[e9]
 have fx:=Ab h;have ed:=Ab fk;have ee:=Ab fw;have hw:=Ab d9;have fi:=Ab fj;have gq:=Ab dz;have hg:=Ab e8;clear h fk fw d9 fj dz e8 dv c7;go_enter Tryz.func40,Tryz.ntmps40
 go_wp2;go_loopw [3,4,6,7,8,9,12] (fun h9 d5 _ _ _ _ i wr=>∃k:Nat,k<=n/\i=.int .i64 (k:Int)/\Hid (PIn wr h9 (Av (l.take k))/\PIn wr d5 (Ao 0 (l.take k))/\Below w.heap.size w wr)) (fun _ _ _ _ _ _ i _=>n-(intOf i).toNat)
 case atStart=>exact⟨0,VH _,rfl,PIn.nil _,PIn.nil _,Below.refl _ _⟩
 case round=>
  obtain⟨k,e9,rfl,bq⟩:=hrel;obtain⟨b3,ah,bz,rfl,dy⟩:=(Aa bq).1.sized;obtain⟨bc,al,a4,rfl,dw⟩:=(Aa bq).2.1.sized;have ic:=Aa ed k;have hs:=Aa ee k;rw[dy]at ic;rw[dw]at hs;have eb:=Ab dy;have h1:=Ab dw;clear dy dw
  by_cases gx:k<n
  . obtain⟨x,cp,d7⟩:∃x,cm[k]? =some x/\x∈cm:=⟨cm[k]'(by rw[Aa gq];exact gx),VP _,WK _⟩
    obtain⟨b,o,rfl,hb,c0,c1,c2,e4,ar,ct,ck,av⟩:=(Aa fx).get (Aa bq).2.2 cp;have ft:=Aa hg k x cp;have fg:=Ab ((Aa fx).all x d7);have gd:=Aa hw x d7;have ep:=Ab (Eu ft);obtain⟨x,fa,fc,pa,pc⟩:=x;obtain⟨⟨nml,bys,f3,eu,gn⟩,mt,pk,cr⟩:=x;obtain⟨⟨ie,st1⟩,⟨hh,g4⟩,dl,fy,dt,f7,ig⟩:=gd;simp only at ie st1 hh g4 dl fy dt f7 ig
    obtain⟨st,rfl⟩:∃st:Nat,f3=(st:Int):=⟨f3.toNat,by omega⟩
    obtain⟨nd,rfl⟩:∃nd:Nat,eu=(nd:Int):=⟨eu.toNat,by omega⟩
    dsimp only at c0 c1 c2 e4 ar ct ck av;obtain⟨nm,dr⟩:=exq (B nml);obtain⟨bf,dq⟩:=exq (nml.length);obtain⟨bl,d8⟩:=exq (bys.length);obtain⟨pl,ej⟩:=exq (pk.length);have iq:nm.size=bf:=by rw[<-dr,Im,dq]
    rw[dr]at c0;rw[d8]at c1 fy;rw[ej]at ck dt;rw[dq]at dl;have cw:=Ab dr;have dm:=Ab dq;have fm:=Ab d8;have dp:=Ab ej;clear cp d7 ft dr dq d8 ej;have gy:= @run_makeMap Tryz.prog;have ff:=Z4n (wr.alloc (.cells #[.string nm,.slice fa bl fc,.int .i64 (st:Int),.int .i64 (nd:Int),.bool gn,.int .i64 (mt:Int),.slice pa pl pc,.int .u32 (cr:Int)] 37));have ek:=Z10 ((wr.alloc (.cells #[.string nm,.slice fa bl fc,.int .i64 (st:Int),.int .i64 (nd:Int),.bool gn,.int .i64 (mt:Int),.slice pa pl pc,.int .u32 (cr:Int)] 37)).alloc (.map X7 1)) _ gn (heap_alloc_new _ _);simp only[World.size_alloc]at ff ek;have f4:(if gn then 1 else 0:Int)=((Ed gn:Nat):Int):=by cases gn<;>rfl
    rw[f4]at ek;have im:Ed gn<=1:=by cases gn<;>decide
    clear f4;go_upto_region 6 with fail
    have ds:Below wr.heap.size wr ((wr.alloc (.cells #[.string nm,.slice fa bl fc,.int .i64 (st:Int),.int .i64 (nd:Int),.bool gn,.int .i64 (mt:Int),.slice pa pl pc,.int .u32 (cr:Int)] 37)).alloc (.map X7 1)):=((Below.refl _ _).alloc (VB _) _).alloc (by simp) _;have cj:((wr.alloc (.cells #[.string nm,.slice fa bl fc,.int .i64 (st:Int),.int .i64 (nd:Int),.bool gn,.int .i64 (mt:Int),.slice pa pl pc,.int .u32 (cr:Int)] 37)).alloc (.map X7 1)).heap[wr.heap.size]? =some (.cells #[.string nm,.slice fa bl fc,.int .i64 (st:Int),.int .i64 (nd:Int),.bool gn,.int .i64 (mt:Int),.slice pa pl pc,.int .u32 (cr:Int)] 37 (0,0)):=(heap_alloc_old _ _ (by simp)).trans (heap_alloc_new wr _);have ae:=Ab (show PIn ((wr.alloc (.cells #[.string nm,.slice fa bl fc,.int .i64 (st:Int),.int .i64 (nd:Int),.bool gn,.int .i64 (mt:Int),.slice pa pl pc,.int .u32 (cr:Int)] 37)).alloc (.map X7 1)) (.slice b3 ah bz) _/\PIn _ (.slice bc al a4) _/\Below w.heap.size w _ from ⟨(Aa bq).1.below ds,(Aa bq).2.1.below ds,(Aa bq).2.2.trans (ds.mono (Aa bq).2.2.size)⟩);have cu:=Ab ((Aa fg).1.below (Aa ae).2.2);have U:wr.heap.size<((wr.alloc (.cells #[.string nm,.slice fa bl fc,.int .i64 (st:Int),.int .i64 (nd:Int),.bool gn,.int .i64 (mt:Int),.slice pa pl pc,.int .u32 (cr:Int)] 37)).alloc (.map X7 1)).heap.size:=by simp;omega
    clear ff ek gy c0 c1 c2 e4 ar ct ck av ds bq;generalize hv:(wr.alloc (.cells #[.string nm,.slice fa bl fc,.int .i64 (st:Int),.int .i64 (nd:Int),.bool gn,.int .i64 (mt:Int),.slice pa pl pc,.int .u32 (cr:Int)] 37)).alloc (.map X7 1)=bg at*;clear hv;have bv:=Ac (i:=0) cj;have x1:=Ac (i:=1) cj;have x2:=Ac (i:=2) cj;have x3:=Ac (i:=3) cj;have x4:=Ac (i:=4) cj;have ce:=Ac (i:=5) cj;have b4:=Ac (i:=6) cj;have b8:=Ac (i:=7) cj;simp only[VZ,VY,WI]at bv x1 x2 x3 x4 ce b4 b8;clear cj;go_cut [8] (fun hz af=>Hid (PIn af hz ([Ag 29297 2,Ag 7 2,Ag st 4,Ag nd 2,Ag (Ed gn) 1]:List (List Nat)).flatten/\Below bg.heap.size bg af))
    case first=>
     refine wp_region_held_drew (S:=fun W=>Below bg.heap.size bg W) (by kernel_rfl) (Ae (Below.refl _ _) 1) (fun F=> ?_);generalize bg.drew=bh at F ⊢;refine tkH (i:=2) (v:=.pointer (some ⟨wr.heap.size,0,none⟩)) F ?_;simp only[Act.put,VA,VC,VD];refine tkH (i:=3) (v:=.pointer (some ⟨wr.heap.size,2,none⟩)) F ?_;simp only[Act.put,VA,VC,VD];refine wpAnyH_take (i:=4) (v:=.int .i64 (st:Int)) rfl (by kernel_rfl) (by kernel_rfl) (by kernel_rfl) (fun _ _ _ h=>h) (Or.inl ⟨by rfl,fun W ao=>by have hc:=(ao.cell (p:=⟨wr.heap.size,2,none⟩) U).trans x2;go_simp⟩) F ?_;simp only[Act.put,VA,VC,VD];refine tkH (i:=6) (v:=.pointer (some ⟨wr.heap.size,0,none⟩)) F ?_;simp only[Act.put,VA,VC,VD];refine tkH (i:=7) (v:=.pointer (some ⟨wr.heap.size,3,none⟩)) F ?_;simp only[Act.put,VA,VC,VD];refine wpAnyH_take (i:=8) (v:=.int .i64 (nd:Int)) rfl (by kernel_rfl) (by kernel_rfl) (by kernel_rfl) (fun _ _ _ h=>h) (Or.inl ⟨by rfl,fun W ao=>by have hc:=(ao.cell (p:=⟨wr.heap.size,3,none⟩) U).trans x3;go_simp⟩) F ?_;simp only[Act.put,VA,VC,VD];refine tkH (i:=10) (v:=.int .i64 ((Ed gn:Nat):Int)) F ?_;simp only[Act.put,VA,VC,VD];refine rdH (i:=0) fun K hK=> ?_
     go_simp
     refine(Ar 29297 2 _ (by decide) (by decide)).mono ?_;rintro e bh ⟨c8,db,c0,rfl,ag,E⟩;have G:Below bg.heap.size bg bh:=F.trans (E.mono F.size);dsimp only;refine hK.out _ _ G (fun H=> ?_);clear hK K F E H;have F:=G;clear G;refine rdH (i:=1) fun K hK=> ?_
     go_simp
     refine(Ar 7 2 _ (by decide) (by decide)).mono ?_;rintro e ap ⟨aj,l1,c1,rfl,I,E⟩;have G:Below bg.heap.size bg ap:=F.trans (E.mono F.size);replace ag:=ag.below E;dsimp only;refine hK.out _ _ G (fun H=> ?_);clear hK K F E H;have F:=G;clear G;refine rdH (i:=5) fun K hK=> ?_
     go_simp
     refine(Ar st 4 _ (by omega) (by decide)).mono ?_;rintro e dx ⟨dd,c9,ct,rfl,a1,E⟩;have G:Below bg.heap.size bg dx:=F.trans (E.mono F.size);replace ag:=ag.below E;replace I:=I.below E;dsimp only;refine hK.out _ _ G (fun H=> ?_);clear hK K F E H;have F:=G;clear G;refine rdH (i:=9) fun K hK=> ?_
     go_simp
     refine(Ar nd 2 _ (by omega) (by decide)).mono ?_;rintro e d6 ⟨c6,di,df,rfl,ay,E⟩;have G:Below bg.heap.size bg d6:=F.trans (E.mono F.size);replace ag:=ag.below E;replace I:=I.below E;replace a1:=a1.below E;dsimp only;refine hK.out _ _ G (fun H=> ?_);clear hK K F E H;have F:=G;clear G;refine rdH (i:=11) fun K hK=> ?_
     go_simp
     refine(Ar (Ed gn) 1 _ (by omega) (by decide)).mono ?_;rintro e hx ⟨ax,aw,az,rfl,aa,E⟩;have G:Below bg.heap.size bg hx:=F.trans (E.mono F.size);replace ag:=ag.below E;replace I:=I.below E;replace a1:=a1.below E;replace ay:=ay.below E;dsimp only;refine hK.out _ _ G (fun H=> ?_);clear hK K F E H;have F:=G;clear G;refine rdH (i:=12) fun K hK=> ?_
     go_simp
     have G:=F.alloc F.size (.cells #[.slice c8 db c0,.slice aj l1 c1,.slice dd c9 ct,.slice c6 di df,.slice ax aw az] 23);refine hK.out _ _ G (fun H=> ?_);clear hK K H;refine rdH (i:=13) fun K hK=> ?_
     go_simp
     refine(Cz _ [.slice c8 db c0,.slice aj l1 c1,.slice dd c9 ct,.slice c6 di df,.slice ax aw az] [Ag 29297 2,Ag 7 2,Ag st 4,Ag nd 2,Ag (Ed gn) 1] _ _ 5 5 (PIns.cons ag (PIns.cons I (PIns.cons a1 (PIns.cons ay (PIns.cons aa .nil))))) rfl rfl (by decide) (by simp[Ai])).mono ?_;rintro e b7 ⟨b9,cd,cg,rfl,ak,E⟩;have Z:=F.trans (E.mono F.size);dsimp only;refine hK.out _ _ Z (fun H=> ?_);clear hK K H;refine rdH (i:=14) fun K hK=> ?_
     go_simp
     refine hK.out _ _ Z (fun H=> ?_);clear hK K H;refine wpAnyH_done (by kernel_rfl) ?_ _;go_wp2_with fail
     go_meet
     exact Ab ⟨ak,Z⟩
    case rest=>
     rename World=>af
     obtain⟨du,T⟩:=Aa hcut;replace bv:=(T.cell (p:=⟨wr.heap.size,0,none⟩) U).trans bv;replace x1:=(T.cell (p:=⟨wr.heap.size,1,none⟩) U).trans x1;replace x2:=(T.cell (p:=⟨wr.heap.size,2,none⟩) U).trans x2;replace x3:=(T.cell (p:=⟨wr.heap.size,3,none⟩) U).trans x3;replace x4:=(T.cell (p:=⟨wr.heap.size,4,none⟩) U).trans x4;replace ce:=(T.cell (p:=⟨wr.heap.size,5,none⟩) U).trans ce;replace b4:=(T.cell (p:=⟨wr.heap.size,6,none⟩) U).trans b4;replace b8:=(T.cell (p:=⟨wr.heap.size,7,none⟩) U).trans b8;replace U:=VG U T.size;replace ae:=Ab (show PIn af (.slice b3 ah bz) _/\PIn af (.slice bc al a4) _/\Below w.heap.size w af from ⟨(Aa ae).1.below T,(Aa ae).2.1.below T,(Aa ae).2.2.trans (T.mono (Aa ae).2.2.size)⟩);replace cu:=Ab ((Aa cu).below T);obtain⟨a8,a7,a6,rfl⟩:=du.slice;have b5:=Ab du;clear hcut T du;have ia:IntKind.i64.wrap (cr:Int)=(cr:Int):=by simp[IntKind.wrap,IntKind.signed,IntKind.bits];omega
     go_upto_region 7 with fail
     go_cut [9] (fun hu O=>Hid (PIn O hu ([Ag 20 2,Ag 0 2,Ag mt 2,Ag 0 4,Ag cr 4,Ag pl 4,Ag bl 4,Ag bf 2,Ag 11 2]:List (List Nat)).flatten/\Below af.heap.size af O))
     case first=>
      refine wp_region_held_drew (S:=fun W=>Below af.heap.size af W) (by kernel_rfl) (Ae (Below.refl _ _) 1) (fun F=> ?_);generalize af.drew=bh at F ⊢;refine tkH (i:=2) (v:=.pointer (some ⟨wr.heap.size,5,none⟩)) F ?_;simp only[Act.put,VA,VC,VD];refine wpAnyH_take (i:=3) (v:=.int .i64 (mt:Int)) rfl (by kernel_rfl) (by kernel_rfl) (by kernel_rfl) (fun _ _ _ h=>h) (Or.inl ⟨by rfl,fun W ao=>by have hc:=(ao.cell (p:=⟨wr.heap.size,5,none⟩) U).trans ce;go_simp⟩) F ?_;simp only[Act.put,VA,VC,VD];refine tkH (i:=6) (v:=.pointer (some ⟨wr.heap.size,7,none⟩)) F ?_;simp only[Act.put,VA,VC,VD];refine wpAnyH_take (i:=7) (v:=.int .u32 (cr:Int)) rfl (by kernel_rfl) (by kernel_rfl) (by kernel_rfl) (fun _ _ _ h=>h) (Or.inl ⟨by rfl,fun W ao=>by have hc:=(ao.cell (p:=⟨wr.heap.size,7,none⟩) U).trans b8;go_simp⟩) F ?_;simp only[Act.put,VA,VC,VD];refine tkH (i:=8) (v:=.int .i64 (cr:Int)) F ?_;simp only[Act.put,VA,VC,VD];refine tkH (i:=10) (v:=.pointer (some ⟨wr.heap.size,6,none⟩)) F ?_;simp only[Act.put,VA,VC,VD];refine wpAnyH_take (i:=11) (v:=.slice pa pl pc) rfl (by kernel_rfl) (by kernel_rfl) (by kernel_rfl) (fun _ _ _ h=>h) (Or.inl ⟨by rfl,fun W ao=>by have hc:=(ao.cell (p:=⟨wr.heap.size,6,none⟩) U).trans b4;go_simp⟩) F ?_;simp only[Act.put,VA,VC,VD];refine tkH (i:=12) (v:=.int .i64 (pl:Int)) F ?_;simp only[Act.put,VA,VC,VD];refine tkH (i:=14) (v:=.pointer (some ⟨wr.heap.size,0,none⟩)) F ?_;simp only[Act.put,VA,VC,VD];refine tkH (i:=15) (v:=.pointer (some ⟨wr.heap.size,1,none⟩)) F ?_;simp only[Act.put,VA,VC,VD];refine wpAnyH_take (i:=16) (v:=.slice fa bl fc) rfl (by kernel_rfl) (by kernel_rfl) (by kernel_rfl) (fun _ _ _ h=>h) (Or.inl ⟨by rfl,fun W ao=>by have hc:=(ao.cell (p:=⟨wr.heap.size,1,none⟩) U).trans x1;go_simp⟩) F ?_;simp only[Act.put,VA,VC,VD];refine tkH (i:=17) (v:=.int .i64 (bl:Int)) F ?_;simp only[Act.put,VA,VC,VD];refine tkH (i:=19) (v:=.pointer (some ⟨wr.heap.size,0,none⟩)) F ?_;simp only[Act.put,VA,VC,VD];refine tkH (i:=20) (v:=.pointer (some ⟨wr.heap.size,0,none⟩)) F ?_;simp only[Act.put,VA,VC,VD];refine wpAnyH_take (i:=21) (v:=.string nm) rfl (by kernel_rfl) (by kernel_rfl) (by kernel_rfl) (fun _ _ _ h=>h) (Or.inl ⟨by rfl,fun W ao=>by have hc:=(ao.cell (p:=⟨wr.heap.size,0,none⟩) U).trans bv;go_simp⟩) F ?_;simp only[Act.put,VA,VC,VD];refine tkH (i:=22) (v:=.int .i64 (bf:Int)) F ?_;simp only[Act.put,VA,VC,VD];refine rdH (i:=0) fun K hK=> ?_
      go_simp
      refine(Ar 20 2 _ (by decide) (by decide)).mono ?_;rintro e bh ⟨c8,db,c0,rfl,ag,E⟩;have G:Below af.heap.size af bh:=F.trans (E.mono F.size);dsimp only;refine hK.out _ _ G (fun H=> ?_);clear hK K F E H;have F:=G;clear G;refine rdH (i:=1) fun K hK=> ?_
      go_simp
      refine(Ar 0 2 _ (by decide) (by decide)).mono ?_;rintro e ap ⟨aj,l1,c1,rfl,I,E⟩;have G:Below af.heap.size af ap:=F.trans (E.mono F.size);replace ag:=ag.below E;dsimp only;refine hK.out _ _ G (fun H=> ?_);clear hK K F E H;have F:=G;clear G;refine rdH (i:=4) fun K hK=> ?_
      go_simp
      refine(Ar mt 2 _ (by omega) (by decide)).mono ?_;rintro e bn ⟨bd,ba,ar,rfl,Y,E⟩;have G:Below af.heap.size af bn:=F.trans (E.mono F.size);replace ag:=ag.below E;replace I:=I.below E;dsimp only;refine hK.out _ _ G (fun H=> ?_);clear hK K F E H;have F:=G;clear G;refine rdH (i:=5) fun K hK=> ?_
      go_simp
      refine(Ar 0 4 _ (by decide) (by decide)).mono ?_;rintro e dx ⟨dd,c9,ct,rfl,a1,E⟩;have G:Below af.heap.size af dx:=F.trans (E.mono F.size);replace ag:=ag.below E;replace I:=I.below E;replace Y:=Y.below E;dsimp only;refine hK.out _ _ G (fun H=> ?_);clear hK K F E H;have F:=G;clear G;refine rdH (i:=9) fun K hK=> ?_
      go_simp
      refine(Ar cr 4 _ (by omega) (by decide)).mono ?_;rintro e d6 ⟨c6,di,df,rfl,ay,E⟩;have G:Below af.heap.size af d6:=F.trans (E.mono F.size);replace ag:=ag.below E;replace I:=I.below E;replace Y:=Y.below E;replace a1:=a1.below E;dsimp only;refine hK.out _ _ G (fun H=> ?_);clear hK K F E H;have F:=G;clear G;refine rdH (i:=13) fun K hK=> ?_
      go_simp
      refine(Ar pl 4 _ (by omega) (by decide)).mono ?_;rintro e g5 ⟨fp,fu,en,rfl,cv,E⟩;have G:Below af.heap.size af g5:=F.trans (E.mono F.size);replace ag:=ag.below E;replace I:=I.below E;replace Y:=Y.below E;replace a1:=a1.below E;replace ay:=ay.below E;dsimp only;refine hK.out _ _ G (fun H=> ?_);clear hK K F E H;have F:=G;clear G;refine rdH (i:=18) fun K hK=> ?_
      go_simp
      refine(Ar bl 4 _ (by omega) (by decide)).mono ?_;rintro e hf ⟨e1,fo,ey,rfl,da,E⟩;have G:Below af.heap.size af hf:=F.trans (E.mono F.size);replace ag:=ag.below E;replace I:=I.below E;replace Y:=Y.below E;replace a1:=a1.below E;replace ay:=ay.below E;replace cv:=cv.below E;dsimp only;refine hK.out _ _ G (fun H=> ?_);clear hK K F E H;have F:=G;clear G;refine rdH (i:=23) fun K hK=> ?_
      go_simp
      refine(Ar bf 2 _ (by omega) (by decide)).mono ?_;rintro e ho ⟨eo,f5,e7,rfl,eg,E⟩;have G:Below af.heap.size af ho:=F.trans (E.mono F.size);replace ag:=ag.below E;replace I:=I.below E;replace Y:=Y.below E;replace a1:=a1.below E;replace ay:=ay.below E;replace cv:=cv.below E;replace da:=da.below E;dsimp only;refine hK.out _ _ G (fun H=> ?_);clear hK K F E H;have F:=G;clear G;refine rdH (i:=24) fun K hK=> ?_
      go_simp
      refine(Ar 11 2 _ (by decide) (by decide)).mono ?_;rintro e hq ⟨e0,e5,fq,rfl,gv,E⟩;have G:Below af.heap.size af hq:=F.trans (E.mono F.size);replace ag:=ag.below E;replace I:=I.below E;replace Y:=Y.below E;replace a1:=a1.below E;replace ay:=ay.below E;replace cv:=cv.below E;replace da:=da.below E;replace eg:=eg.below E;dsimp only;refine hK.out _ _ G (fun H=> ?_);clear hK K F E H;have F:=G;clear G;refine rdH (i:=25) fun K hK=> ?_
      go_simp
      have G:=F.alloc F.size (.cells #[.slice c8 db c0,.slice aj l1 c1,.slice bd ba ar,.slice dd c9 ct,.slice c6 di df,.slice fp fu en,.slice e1 fo ey,.slice eo f5 e7,.slice e0 e5 fq] 23);refine hK.out _ _ G (fun H=> ?_);clear hK K H;refine rdH (i:=26) fun K hK=> ?_
      go_simp
      refine(Cz _ [.slice c8 db c0,.slice aj l1 c1,.slice bd ba ar,.slice dd c9 ct,.slice c6 di df,.slice fp fu en,.slice e1 fo ey,.slice eo f5 e7,.slice e0 e5 fq] [Ag 20 2,Ag 0 2,Ag mt 2,Ag 0 4,Ag cr 4,Ag pl 4,Ag bl 4,Ag bf 2,Ag 11 2] _ _ 9 9 (PIns.cons ag (PIns.cons I (PIns.cons Y (PIns.cons a1 (PIns.cons ay (PIns.cons cv (PIns.cons da (PIns.cons eg (PIns.cons gv .nil))))))))) rfl rfl (by decide) (by simp[Ai])).mono ?_;rintro e b7 ⟨b9,cd,cg,rfl,ak,E⟩;have Z:=F.trans (E.mono F.size);dsimp only;refine hK.out _ _ Z (fun H=> ?_);clear hK K H;refine rdH (i:=27) fun K hK=> ?_
      go_simp
      refine hK.out _ _ Z (fun H=> ?_);clear hK K H;refine wpAnyH_done (by kernel_rfl) ?_ _;go_wp2_with fail
      go_meet
      exact Ab ⟨ak,Z⟩
     case rest=>
      rename World=>O
      obtain⟨ay,T⟩:=Aa hcut;replace bv:=(T.cell (p:=⟨wr.heap.size,0,none⟩) U).trans bv;replace x1:=(T.cell (p:=⟨wr.heap.size,1,none⟩) U).trans x1;replace x2:=(T.cell (p:=⟨wr.heap.size,2,none⟩) U).trans x2;replace x3:=(T.cell (p:=⟨wr.heap.size,3,none⟩) U).trans x3;replace x4:=(T.cell (p:=⟨wr.heap.size,4,none⟩) U).trans x4;replace ce:=(T.cell (p:=⟨wr.heap.size,5,none⟩) U).trans ce;replace b4:=(T.cell (p:=⟨wr.heap.size,6,none⟩) U).trans b4;replace b8:=(T.cell (p:=⟨wr.heap.size,7,none⟩) U).trans b8;replace U:=VG U T.size;replace ae:=Ab (show PIn O (.slice b3 ah bz) _/\PIn O (.slice bc al a4) _/\Below w.heap.size w O from ⟨(Aa ae).1.below T,(Aa ae).2.1.below T,(Aa ae).2.2.trans (T.mono (Aa ae).2.2.size)⟩);replace cu:=Ab ((Aa cu).below T);replace b5:=Ab ((Aa b5).below T);obtain⟨a9,a5,a3,rfl⟩:=ay.slice;have co:=Ab ay;clear hcut T ay ia;have de:=Ab (Z9k (Ao 0 (l.take k)) nml mt cr pl bl bf st nd gn ah (Aa ee k) (by rw[Aa dm];exact dl));go_upto_region 8 with fail
      go_cut [4] (fun d5 au=>Hid (PIn au d5 ([Ao 0 (l.take k),Ag 33639248 4,Ag 20 2,([Ag 20 2,Ag 0 2,Ag mt 2,Ag 0 4,Ag cr 4,Ag pl 4,Ag bl 4,Ag bf 2,Ag 11 2]:List (List Nat)).flatten,Ag 0 10,Ag ah 4,n8 nml,([Ag 29297 2,Ag 7 2,Ag st 4,Ag nd 2,Ag (Ed gn) 1]:List (List Nat)).flatten]:List (List Nat)).flatten/\Below O.heap.size O au))
      case first=>
       have eh:=Z2z nm;refine wp_region_held_drew (S:=fun W=>Below O.heap.size O W) (by kernel_rfl) (Ae (Below.refl _ _) 1) (fun F=> ?_);generalize O.drew=bh at F ⊢;refine tkH (i:=0) (v:=.slice bc al a4) F ?_;simp only[Act.put,VA,VC,VD];refine tkH (i:=3) (v:=.slice a9 a5 a3) F ?_;simp only[Act.put,VA,VC,VD];refine tkH (i:=5) (v:=.slice b3 ah bz) F ?_;simp only[Act.put,VA,VC,VD];refine tkH (i:=6) (v:=.int .i64 (ah:Int)) F ?_;simp only[Act.put,VA,VC,VD];refine tkH (i:=8) (v:=.pointer (some ⟨wr.heap.size,0,none⟩)) F ?_;simp only[Act.put,VA,VC,VD];refine tkH (i:=9) (v:=.pointer (some ⟨wr.heap.size,0,none⟩)) F ?_;simp only[Act.put,VA,VC,VD];refine wpAnyH_take (i:=10) (v:=.string nm) rfl (by kernel_rfl) (by kernel_rfl) (by kernel_rfl) (fun _ _ _ h=>h) (Or.inl ⟨by rfl,fun W ao=>by have hc:=(ao.cell (p:=⟨wr.heap.size,0,none⟩) U).trans bv;go_simp⟩) F ?_;simp only[Act.put,VA,VC,VD];refine tkH (i:=12) (v:=.slice a8 a7 a6) F ?_;simp only[Act.put,VA,VC,VD];refine wpAnyH_ready (rs:= [1,11]) (by kernel_rfl) (by simp) (AllReadyH.cons rfl (fun K hK=> ?_) (AllReadyH.cons rfl (fun K hK=> ?_) AllReadyH.nil))
       . go_simp
         refine(Ar 33639248 4 _ (by decide) (by decide)).mono ?_;rintro e ap ⟨aj,l1,c1,rfl,I,E⟩;have G:Below O.heap.size O ap:=F.trans (E.mono F.size);dsimp only;refine hK.out _ _ G (fun H=> ?_);clear hK K F E H;have F:=G;clear G;refine wpAnyH_ready (rs:= [2,11]) (by kernel_rfl) (by simp) (AllReadyH.cons rfl (fun K hK=> ?_) (AllReadyH.cons rfl (fun K hK=> ?_) AllReadyH.nil))
         . go_simp
           refine(Ar 20 2 _ (by decide) (by decide)).mono ?_;rintro e cn ⟨bu,l2,c2,rfl,ac,E⟩;have G:Below O.heap.size O cn:=F.trans (E.mono F.size);replace I:=I.below E;dsimp only;refine hK.out _ _ G (fun H=> ?_);clear hK K F E H;have F:=G;clear G;refine wpAnyH_ready (rs:= [4,11]) (by kernel_rfl) (by simp) (AllReadyH.cons rfl (fun K hK=> ?_) (AllReadyH.cons rfl (fun K hK=> ?_) AllReadyH.nil))
           . go_simp
             refine(Ar 0 10 _ (by decide) (by decide)).mono ?_;rintro e bn ⟨bd,ba,ar,rfl,Y,E⟩;have G:Below O.heap.size O bn:=F.trans (E.mono F.size);replace I:=I.below E;replace ac:=ac.below E;dsimp only;refine hK.out _ _ G (fun H=> ?_);clear hK K F E H;have F:=G;clear G;refine wpAnyH_ready (rs:= [7,11]) (by kernel_rfl) (by simp) (AllReadyH.cons rfl (fun K hK=> ?_) (AllReadyH.cons rfl (fun K hK=> ?_) AllReadyH.nil))
             . go_simp
               refine(Ar ah 4 _ (by omega) (by decide)).mono ?_;rintro e bo ⟨bj,bi,av,rfl,b0,E⟩;have G:Below O.heap.size O bo:=F.trans (E.mono F.size);replace I:=I.below E;replace ac:=ac.below E;replace Y:=Y.below E;dsimp only;refine hK.out _ _ G (fun H=> ?_);clear hK K F E H;have F:=G;clear G;refine rdH (i:=11) fun K hK=> ?_
               go_simp
               have M:=Sj bo nm nml (Aa cw);generalize cvW bo nm=bm at M ⊢;generalize cvC bo nm=az at M ⊢;generalize cvA bo=ax at M ⊢;generalize cvL nm=aw at M ⊢;have aa:=M.1;have E:=M.2;clear M;have G:Below O.heap.size O bm:=F.trans (E.mono F.size);replace I:=I.below E;replace ac:=ac.below E;replace Y:=Y.below E;replace b0:=b0.below E;refine hK.out _ _ G (fun H=> ?_);clear hK K F E H;have F:=G;clear G;refine rdH (i:=13) fun K hK=> ?_
               go_simp
               have G:=F.alloc F.size (.cells #[.slice bc al a4,.slice aj l1 c1,.slice bu l2 c2,.slice a9 a5 a3,.slice bd ba ar,.slice bj bi av,.slice ax aw az,.slice a8 a7 a6] 23);refine hK.out _ _ G (fun H=> ?_);clear hK K H;refine rdH (i:=14) fun K hK=> ?_
               go_simp
               refine(Cz _ [.slice bc al a4,.slice aj l1 c1,.slice bu l2 c2,.slice a9 a5 a3,.slice bd ba ar,.slice bj bi av,.slice ax aw az,.slice a8 a7 a6] [Ao 0 (l.take k),Ag 33639248 4,Ag 20 2,([Ag 20 2,Ag 0 2,Ag mt 2,Ag 0 4,Ag cr 4,Ag pl 4,Ag bl 4,Ag bf 2,Ag 11 2]:List (List Nat)).flatten,Ag 0 10,Ag ah 4,n8 nml,([Ag 29297 2,Ag 7 2,Ag st 4,Ag nd 2,Ag (Ed gn) 1]:List (List Nat)).flatten] _ _ 8 8 (PIns.cons ((Aa ae).2.1.below F) (PIns.cons I (PIns.cons ac (PIns.cons ((Aa co).below F) (PIns.cons Y (PIns.cons b0 (PIns.cons aa (PIns.cons ((Aa b5).below F) .nil)))))))) rfl rfl (by decide) (by exact Aa de)).mono ?_;rintro e b7 ⟨b9,cd,cg,rfl,ak,E⟩;have Z:=F.trans (E.mono F.size);dsimp only;refine hK.out _ _ Z (fun H=> ?_);clear hK K H;refine rdH (i:=15) fun K hK=> ?_
               go_simp
               refine hK.out _ _ Z (fun H=> ?_);clear hK K H;refine wpAnyH_done (by kernel_rfl) ?_ _;go_wp2_with fail
               go_meet
               exact Ab ⟨ak,Z⟩
             . go_simp
               have M:=Sj bn nm nml (Aa cw);generalize cvW bn nm=bm at M ⊢;generalize cvC bn nm=az at M ⊢;generalize cvA bn=ax at M ⊢;generalize cvL nm=aw at M ⊢;have aa:=M.1;have E:=M.2;clear M;have G:Below O.heap.size O bm:=F.trans (E.mono F.size);replace I:=I.below E;replace ac:=ac.below E;replace Y:=Y.below E;refine hK.out _ _ G (fun H=> ?_);clear hK K F E H;have F:=G;clear G;refine rdH (i:=7) fun K hK=> ?_
               go_simp
               refine(Ar ah 4 _ (by omega) (by decide)).mono ?_;rintro e bo ⟨bj,bi,av,rfl,b0,E⟩;have G:Below O.heap.size O bo:=F.trans (E.mono F.size);replace I:=I.below E;replace ac:=ac.below E;replace Y:=Y.below E;replace aa:=aa.below E;dsimp only;refine hK.out _ _ G (fun H=> ?_);clear hK K F E H;have F:=G;clear G;refine rdH (i:=13) fun K hK=> ?_
               go_simp
               have G:=F.alloc F.size (.cells #[.slice bc al a4,.slice aj l1 c1,.slice bu l2 c2,.slice a9 a5 a3,.slice bd ba ar,.slice bj bi av,.slice ax aw az,.slice a8 a7 a6] 23);refine hK.out _ _ G (fun H=> ?_);clear hK K H;refine rdH (i:=14) fun K hK=> ?_
               go_simp
               refine(Cz _ [.slice bc al a4,.slice aj l1 c1,.slice bu l2 c2,.slice a9 a5 a3,.slice bd ba ar,.slice bj bi av,.slice ax aw az,.slice a8 a7 a6] [Ao 0 (l.take k),Ag 33639248 4,Ag 20 2,([Ag 20 2,Ag 0 2,Ag mt 2,Ag 0 4,Ag cr 4,Ag pl 4,Ag bl 4,Ag bf 2,Ag 11 2]:List (List Nat)).flatten,Ag 0 10,Ag ah 4,n8 nml,([Ag 29297 2,Ag 7 2,Ag st 4,Ag nd 2,Ag (Ed gn) 1]:List (List Nat)).flatten] _ _ 8 8 (PIns.cons ((Aa ae).2.1.below F) (PIns.cons I (PIns.cons ac (PIns.cons ((Aa co).below F) (PIns.cons Y (PIns.cons b0 (PIns.cons aa (PIns.cons ((Aa b5).below F) .nil)))))))) rfl rfl (by decide) (by exact Aa de)).mono ?_;rintro e b7 ⟨b9,cd,cg,rfl,ak,E⟩;have Z:=F.trans (E.mono F.size);dsimp only;refine hK.out _ _ Z (fun H=> ?_);clear hK K H;refine rdH (i:=15) fun K hK=> ?_
               go_simp
               refine hK.out _ _ Z (fun H=> ?_);clear hK K H;refine wpAnyH_done (by kernel_rfl) ?_ _;go_wp2_with fail
               go_meet
               exact Ab ⟨ak,Z⟩
           . go_simp
             have M:=Sj cn nm nml (Aa cw);generalize cvW cn nm=bm at M ⊢;generalize cvC cn nm=az at M ⊢;generalize cvA cn=ax at M ⊢;generalize cvL nm=aw at M ⊢;have aa:=M.1;have E:=M.2;clear M;have G:Below O.heap.size O bm:=F.trans (E.mono F.size);replace I:=I.below E;replace ac:=ac.below E;refine hK.out _ _ G (fun H=> ?_);clear hK K F E H;have F:=G;clear G;refine rdH (i:=4) fun K hK=> ?_
             go_simp
             refine(Ar 0 10 _ (by decide) (by decide)).mono ?_;rintro e bn ⟨bd,ba,ar,rfl,Y,E⟩;have G:Below O.heap.size O bn:=F.trans (E.mono F.size);replace I:=I.below E;replace ac:=ac.below E;replace aa:=aa.below E;dsimp only;refine hK.out _ _ G (fun H=> ?_);clear hK K F E H;have F:=G;clear G;refine rdH (i:=7) fun K hK=> ?_
             go_simp
             refine(Ar ah 4 _ (by omega) (by decide)).mono ?_;rintro e bo ⟨bj,bi,av,rfl,b0,E⟩;have G:Below O.heap.size O bo:=F.trans (E.mono F.size);replace I:=I.below E;replace ac:=ac.below E;replace aa:=aa.below E;replace Y:=Y.below E;dsimp only;refine hK.out _ _ G (fun H=> ?_);clear hK K F E H;have F:=G;clear G;refine rdH (i:=13) fun K hK=> ?_
             go_simp
             have G:=F.alloc F.size (.cells #[.slice bc al a4,.slice aj l1 c1,.slice bu l2 c2,.slice a9 a5 a3,.slice bd ba ar,.slice bj bi av,.slice ax aw az,.slice a8 a7 a6] 23);refine hK.out _ _ G (fun H=> ?_);clear hK K H;refine rdH (i:=14) fun K hK=> ?_
             go_simp
             refine(Cz _ [.slice bc al a4,.slice aj l1 c1,.slice bu l2 c2,.slice a9 a5 a3,.slice bd ba ar,.slice bj bi av,.slice ax aw az,.slice a8 a7 a6] [Ao 0 (l.take k),Ag 33639248 4,Ag 20 2,([Ag 20 2,Ag 0 2,Ag mt 2,Ag 0 4,Ag cr 4,Ag pl 4,Ag bl 4,Ag bf 2,Ag 11 2]:List (List Nat)).flatten,Ag 0 10,Ag ah 4,n8 nml,([Ag 29297 2,Ag 7 2,Ag st 4,Ag nd 2,Ag (Ed gn) 1]:List (List Nat)).flatten] _ _ 8 8 (PIns.cons ((Aa ae).2.1.below F) (PIns.cons I (PIns.cons ac (PIns.cons ((Aa co).below F) (PIns.cons Y (PIns.cons b0 (PIns.cons aa (PIns.cons ((Aa b5).below F) .nil)))))))) rfl rfl (by decide) (by exact Aa de)).mono ?_;rintro e b7 ⟨b9,cd,cg,rfl,ak,E⟩;have Z:=F.trans (E.mono F.size);dsimp only;refine hK.out _ _ Z (fun H=> ?_);clear hK K H;refine rdH (i:=15) fun K hK=> ?_
             go_simp
             refine hK.out _ _ Z (fun H=> ?_);clear hK K H;refine wpAnyH_done (by kernel_rfl) ?_ _;go_wp2_with fail
             go_meet
             exact Ab ⟨ak,Z⟩
         . go_simp
           have M:=Sj ap nm nml (Aa cw);generalize cvW ap nm=bm at M ⊢;generalize cvC ap nm=az at M ⊢;generalize cvA ap=ax at M ⊢;generalize cvL nm=aw at M ⊢;have aa:=M.1;have E:=M.2;clear M;have G:Below O.heap.size O bm:=F.trans (E.mono F.size);replace I:=I.below E;refine hK.out _ _ G (fun H=> ?_);clear hK K F E H;have F:=G;clear G;refine rdH (i:=2) fun K hK=> ?_
           go_simp
           refine(Ar 20 2 _ (by decide) (by decide)).mono ?_;rintro e cn ⟨bu,l2,c2,rfl,ac,E⟩;have G:Below O.heap.size O cn:=F.trans (E.mono F.size);replace I:=I.below E;replace aa:=aa.below E;dsimp only;refine hK.out _ _ G (fun H=> ?_);clear hK K F E H;have F:=G;clear G;refine rdH (i:=4) fun K hK=> ?_
           go_simp
           refine(Ar 0 10 _ (by decide) (by decide)).mono ?_;rintro e bn ⟨bd,ba,ar,rfl,Y,E⟩;have G:Below O.heap.size O bn:=F.trans (E.mono F.size);replace I:=I.below E;replace aa:=aa.below E;replace ac:=ac.below E;dsimp only;refine hK.out _ _ G (fun H=> ?_);clear hK K F E H;have F:=G;clear G;refine rdH (i:=7) fun K hK=> ?_
           go_simp
           refine(Ar ah 4 _ (by omega) (by decide)).mono ?_;rintro e bo ⟨bj,bi,av,rfl,b0,E⟩;have G:Below O.heap.size O bo:=F.trans (E.mono F.size);replace I:=I.below E;replace aa:=aa.below E;replace ac:=ac.below E;replace Y:=Y.below E;dsimp only;refine hK.out _ _ G (fun H=> ?_);clear hK K F E H;have F:=G;clear G;refine rdH (i:=13) fun K hK=> ?_
           go_simp
           have G:=F.alloc F.size (.cells #[.slice bc al a4,.slice aj l1 c1,.slice bu l2 c2,.slice a9 a5 a3,.slice bd ba ar,.slice bj bi av,.slice ax aw az,.slice a8 a7 a6] 23);refine hK.out _ _ G (fun H=> ?_);clear hK K H;refine rdH (i:=14) fun K hK=> ?_
           go_simp
           refine(Cz _ [.slice bc al a4,.slice aj l1 c1,.slice bu l2 c2,.slice a9 a5 a3,.slice bd ba ar,.slice bj bi av,.slice ax aw az,.slice a8 a7 a6] [Ao 0 (l.take k),Ag 33639248 4,Ag 20 2,([Ag 20 2,Ag 0 2,Ag mt 2,Ag 0 4,Ag cr 4,Ag pl 4,Ag bl 4,Ag bf 2,Ag 11 2]:List (List Nat)).flatten,Ag 0 10,Ag ah 4,n8 nml,([Ag 29297 2,Ag 7 2,Ag st 4,Ag nd 2,Ag (Ed gn) 1]:List (List Nat)).flatten] _ _ 8 8 (PIns.cons ((Aa ae).2.1.below F) (PIns.cons I (PIns.cons ac (PIns.cons ((Aa co).below F) (PIns.cons Y (PIns.cons b0 (PIns.cons aa (PIns.cons ((Aa b5).below F) .nil)))))))) rfl rfl (by decide) (by exact Aa de)).mono ?_;rintro e b7 ⟨b9,cd,cg,rfl,ak,E⟩;have Z:=F.trans (E.mono F.size);dsimp only;refine hK.out _ _ Z (fun H=> ?_);clear hK K H;refine rdH (i:=15) fun K hK=> ?_
           go_simp
           refine hK.out _ _ Z (fun H=> ?_);clear hK K H;refine wpAnyH_done (by kernel_rfl) ?_ _;go_wp2_with fail
           go_meet
           exact Ab ⟨ak,Z⟩
       . go_simp
         have M:=Sj bh nm nml (Aa cw);generalize cvW bh nm=bm at M ⊢;generalize cvC bh nm=az at M ⊢;generalize cvA bh=ax at M ⊢;generalize cvL nm=aw at M ⊢;have aa:=M.1;have E:=M.2;clear M;have G:Below O.heap.size O bm:=F.trans (E.mono F.size);refine hK.out _ _ G (fun H=> ?_);clear hK K F E H;have F:=G;clear G;refine rdH (i:=1) fun K hK=> ?_
         go_simp
         refine(Ar 33639248 4 _ (by decide) (by decide)).mono ?_;rintro e ap ⟨aj,l1,c1,rfl,I,E⟩;have G:Below O.heap.size O ap:=F.trans (E.mono F.size);replace aa:=aa.below E;dsimp only;refine hK.out _ _ G (fun H=> ?_);clear hK K F E H;have F:=G;clear G;refine rdH (i:=2) fun K hK=> ?_
         go_simp
         refine(Ar 20 2 _ (by decide) (by decide)).mono ?_;rintro e cn ⟨bu,l2,c2,rfl,ac,E⟩;have G:Below O.heap.size O cn:=F.trans (E.mono F.size);replace aa:=aa.below E;replace I:=I.below E;dsimp only;refine hK.out _ _ G (fun H=> ?_);clear hK K F E H;have F:=G;clear G;refine rdH (i:=4) fun K hK=> ?_
         go_simp
         refine(Ar 0 10 _ (by decide) (by decide)).mono ?_;rintro e bn ⟨bd,ba,ar,rfl,Y,E⟩;have G:Below O.heap.size O bn:=F.trans (E.mono F.size);replace aa:=aa.below E;replace I:=I.below E;replace ac:=ac.below E;dsimp only;refine hK.out _ _ G (fun H=> ?_);clear hK K F E H;have F:=G;clear G;refine rdH (i:=7) fun K hK=> ?_
         go_simp
         refine(Ar ah 4 _ (by omega) (by decide)).mono ?_;rintro e bo ⟨bj,bi,av,rfl,b0,E⟩;have G:Below O.heap.size O bo:=F.trans (E.mono F.size);replace aa:=aa.below E;replace I:=I.below E;replace ac:=ac.below E;replace Y:=Y.below E;dsimp only;refine hK.out _ _ G (fun H=> ?_);clear hK K F E H;have F:=G;clear G;refine rdH (i:=13) fun K hK=> ?_
         go_simp
         have G:=F.alloc F.size (.cells #[.slice bc al a4,.slice aj l1 c1,.slice bu l2 c2,.slice a9 a5 a3,.slice bd ba ar,.slice bj bi av,.slice ax aw az,.slice a8 a7 a6] 23);refine hK.out _ _ G (fun H=> ?_);clear hK K H;refine rdH (i:=14) fun K hK=> ?_
         go_simp
         refine(Cz _ [.slice bc al a4,.slice aj l1 c1,.slice bu l2 c2,.slice a9 a5 a3,.slice bd ba ar,.slice bj bi av,.slice ax aw az,.slice a8 a7 a6] [Ao 0 (l.take k),Ag 33639248 4,Ag 20 2,([Ag 20 2,Ag 0 2,Ag mt 2,Ag 0 4,Ag cr 4,Ag pl 4,Ag bl 4,Ag bf 2,Ag 11 2]:List (List Nat)).flatten,Ag 0 10,Ag ah 4,n8 nml,([Ag 29297 2,Ag 7 2,Ag st 4,Ag nd 2,Ag (Ed gn) 1]:List (List Nat)).flatten] _ _ 8 8 (PIns.cons ((Aa ae).2.1.below F) (PIns.cons I (PIns.cons ac (PIns.cons ((Aa co).below F) (PIns.cons Y (PIns.cons b0 (PIns.cons aa (PIns.cons ((Aa b5).below F) .nil)))))))) rfl rfl (by decide) (by exact Aa de)).mono ?_;rintro e b7 ⟨b9,cd,cg,rfl,ak,E⟩;have Z:=F.trans (E.mono F.size);dsimp only;refine hK.out _ _ Z (fun H=> ?_);clear hK K H;refine rdH (i:=15) fun K hK=> ?_
         go_simp
         refine hK.out _ _ Z (fun H=> ?_);clear hK K H;refine wpAnyH_done (by kernel_rfl) ?_ _;go_wp2_with fail
         go_meet
         exact Ab ⟨ak,Z⟩
      case rest=>
       rename World=>au
       obtain⟨Y,T⟩:=Aa hcut;replace bv:=(T.cell (p:=⟨wr.heap.size,0,none⟩) U).trans bv;replace x1:=(T.cell (p:=⟨wr.heap.size,1,none⟩) U).trans x1;replace x2:=(T.cell (p:=⟨wr.heap.size,2,none⟩) U).trans x2;replace x3:=(T.cell (p:=⟨wr.heap.size,3,none⟩) U).trans x3;replace x4:=(T.cell (p:=⟨wr.heap.size,4,none⟩) U).trans x4;replace ce:=(T.cell (p:=⟨wr.heap.size,5,none⟩) U).trans ce;replace b4:=(T.cell (p:=⟨wr.heap.size,6,none⟩) U).trans b4;replace b8:=(T.cell (p:=⟨wr.heap.size,7,none⟩) U).trans b8;replace U:=VG U T.size;replace ae:=Ab (show PIn au (.slice b3 ah bz) _/\PIn au (.slice bc al a4) _/\Below w.heap.size w au from ⟨(Aa ae).1.below T,(Aa ae).2.1.below T,(Aa ae).2.2.trans (T.mono (Aa ae).2.2.size)⟩);replace cu:=Ab ((Aa cu).below T);replace b5:=Ab ((Aa b5).below T);replace co:=Ab ((Aa co).below T);have cy:=Ab Y;clear hcut T Y;have et:=Ab (Z9j (Av (l.take k)) pk nml mt cr pl bl bf st nd gn (Aa ed k) (by rw[Aa dm];exact dl) (by rw[Aa dp];exact dt));go_upto_region 9 with fail
       have ew:Hid (PIn au (.slice pa pl pc) pk):=Ab ⟨pa,pc,by rw[Aa dp],(Aa fg).2,(Aa cu).pk⟩;have eh:=Z2z nm;refine wp_region_held_drew (S:=fun W=>Below au.heap.size au W) (by kernel_rfl) (Ae (Below.refl _ _) 1) (fun F=> ?_);generalize au.drew=bh at F ⊢;refine tkH (i:=0) (v:=.slice b3 ah bz) F ?_;simp only[Act.put,VA,VC,VD];refine tkH (i:=2) (v:=.slice a9 a5 a3) F ?_;simp only[Act.put,VA,VC,VD];refine tkH (i:=3) (v:=.pointer (some ⟨wr.heap.size,0,none⟩)) F ?_;simp only[Act.put,VA,VC,VD];refine tkH (i:=4) (v:=.pointer (some ⟨wr.heap.size,0,none⟩)) F ?_;simp only[Act.put,VA,VC,VD];refine wpAnyH_take (i:=5) (v:=.string nm) rfl (by kernel_rfl) (by kernel_rfl) (by kernel_rfl) (fun _ _ _ h=>h) (Or.inl ⟨by rfl,fun W ao=>by have hc:=(ao.cell (p:=⟨wr.heap.size,0,none⟩) U).trans bv;go_simp⟩) F ?_;simp only[Act.put,VA,VC,VD];refine tkH (i:=7) (v:=.slice a8 a7 a6) F ?_;simp only[Act.put,VA,VC,VD];refine tkH (i:=8) (v:=.pointer (some ⟨wr.heap.size,6,none⟩)) F ?_;simp only[Act.put,VA,VC,VD];refine wpAnyH_take (i:=9) (v:=.slice pa pl pc) rfl (by kernel_rfl) (by kernel_rfl) (by kernel_rfl) (fun _ _ _ h=>h) (Or.inl ⟨by rfl,fun W ao=>by have hc:=(ao.cell (p:=⟨wr.heap.size,6,none⟩) U).trans b4;go_simp⟩) F ?_;simp only[Act.put,VA,VC,VD];refine wpAnyH_ready (rs:= [1,6]) (by kernel_rfl) (by simp) (AllReadyH.cons rfl (fun K hK=> ?_) (AllReadyH.cons rfl (fun K hK=> ?_) AllReadyH.nil))
       . go_simp
         refine(Ar 67324752 4 _ (by decide) (by decide)).mono ?_;rintro e ap ⟨aj,l1,c1,rfl,I,E⟩;have G:Below au.heap.size au ap:=F.trans (E.mono F.size);dsimp only;refine hK.out _ _ G (fun H=> ?_);clear hK K F E H;have F:=G;clear G;refine rdH (i:=6) fun K hK=> ?_
         go_simp
         have M:=Sj ap nm nml (Aa cw);generalize cvW ap nm=bm at M ⊢;generalize cvC ap nm=ck at M ⊢;generalize cvA ap=dh at M ⊢;generalize cvL nm=c5 at M ⊢;have dj:=M.1;have E:=M.2;clear M;have G:Below au.heap.size au bm:=F.trans (E.mono F.size);replace I:=I.below E;refine hK.out _ _ G (fun H=> ?_);clear hK K F E H;have F:=G;clear G;refine rdH (i:=10) fun K hK=> ?_
         go_simp
         have G:=F.alloc F.size (.cells #[.slice b3 ah bz,.slice aj l1 c1,.slice a9 a5 a3,.slice dh c5 ck,.slice a8 a7 a6,.slice pa pl pc] 23);refine hK.out _ _ G (fun H=> ?_);clear hK K H;refine rdH (i:=11) fun K hK=> ?_
         go_simp
         refine(Cz _ [.slice b3 ah bz,.slice aj l1 c1,.slice a9 a5 a3,.slice dh c5 ck,.slice a8 a7 a6,.slice pa pl pc] [Av (l.take k),Ag 67324752 4,([Ag 20 2,Ag 0 2,Ag mt 2,Ag 0 4,Ag cr 4,Ag pl 4,Ag bl 4,Ag bf 2,Ag 11 2]:List (List Nat)).flatten,n8 nml,([Ag 29297 2,Ag 7 2,Ag st 4,Ag nd 2,Ag (Ed gn) 1]:List (List Nat)).flatten,pk] _ _ 6 6 (PIns.cons ((Aa ae).1.below F) (PIns.cons I (PIns.cons ((Aa co).below F) (PIns.cons dj (PIns.cons ((Aa b5).below F) (PIns.cons ((Aa ew).below F) .nil)))))) rfl rfl (by decide) (by exact Aa et)).mono ?_;rintro e b7 ⟨b9,cd,cg,rfl,ak,E⟩;have Z:=F.trans (E.mono F.size);dsimp only;refine hK.out _ _ Z (fun H=> ?_);clear hK K H;refine rdH (i:=12) fun K hK=> ?_
         go_simp
         refine hK.out _ _ Z (fun H=> ?_);clear hK K H;refine wpAnyH_done (by kernel_rfl) ?_ _;have dc:=Ab (C5 (k:=k) (l:=l) (nml:=nml) (bys:=bys) (st:=st) (nd:=nd) (gn:=gn) (mt:=mt) (pk:=pk) (cr:=cr) (Aa ep) (Aa dm) (Aa fm) (Aa dp) (Aa eb));have ei:=Ab ak;replace cy:=Ab ((Aa cy).below Z);replace ae:=Ab ((Aa ae).2.2.trans (Z.mono (Aa ae).2.2.size));clear ak Z F E bv x1 x2 x3 x4 ce b4 b8 eh;go_wp2;go_roundw
         case rel=>exact⟨k+1,by omega,by go_num,Ab ⟨by rw[(Aa dc).1];exact Aa ei,by rw[(Aa dc).2];exact Aa cy,Aa ae⟩⟩
         case measure=>simp[intOf];omega
       . go_simp
         have M:=Sj bh nm nml (Aa cw);generalize cvW bh nm=bm at M ⊢;generalize cvC bh nm=ck at M ⊢;generalize cvA bh=dh at M ⊢;generalize cvL nm=c5 at M ⊢;have dj:=M.1;have E:=M.2;clear M;have G:Below au.heap.size au bm:=F.trans (E.mono F.size);refine hK.out _ _ G (fun H=> ?_);clear hK K F E H;have F:=G;clear G;refine rdH (i:=1) fun K hK=> ?_
         go_simp
         refine(Ar 67324752 4 _ (by decide) (by decide)).mono ?_;rintro e ap ⟨aj,l1,c1,rfl,I,E⟩;have G:Below au.heap.size au ap:=F.trans (E.mono F.size);replace dj:=dj.below E;dsimp only;refine hK.out _ _ G (fun H=> ?_);clear hK K F E H;have F:=G;clear G;refine rdH (i:=10) fun K hK=> ?_
         go_simp
         have G:=F.alloc F.size (.cells #[.slice b3 ah bz,.slice aj l1 c1,.slice a9 a5 a3,.slice dh c5 ck,.slice a8 a7 a6,.slice pa pl pc] 23);refine hK.out _ _ G (fun H=> ?_);clear hK K H;refine rdH (i:=11) fun K hK=> ?_
         go_simp
         refine(Cz _ [.slice b3 ah bz,.slice aj l1 c1,.slice a9 a5 a3,.slice dh c5 ck,.slice a8 a7 a6,.slice pa pl pc] [Av (l.take k),Ag 67324752 4,([Ag 20 2,Ag 0 2,Ag mt 2,Ag 0 4,Ag cr 4,Ag pl 4,Ag bl 4,Ag bf 2,Ag 11 2]:List (List Nat)).flatten,n8 nml,([Ag 29297 2,Ag 7 2,Ag st 4,Ag nd 2,Ag (Ed gn) 1]:List (List Nat)).flatten,pk] _ _ 6 6 (PIns.cons ((Aa ae).1.below F) (PIns.cons I (PIns.cons ((Aa co).below F) (PIns.cons dj (PIns.cons ((Aa b5).below F) (PIns.cons ((Aa ew).below F) .nil)))))) rfl rfl (by decide) (by exact Aa et)).mono ?_;rintro e b7 ⟨b9,cd,cg,rfl,ak,E⟩;have Z:=F.trans (E.mono F.size);dsimp only;refine hK.out _ _ Z (fun H=> ?_);clear hK K H;refine rdH (i:=12) fun K hK=> ?_
         go_simp
         refine hK.out _ _ Z (fun H=> ?_);clear hK K H;refine wpAnyH_done (by kernel_rfl) ?_ _;have dc:=Ab (C5 (k:=k) (l:=l) (nml:=nml) (bys:=bys) (st:=st) (nd:=nd) (gn:=gn) (mt:=mt) (pk:=pk) (cr:=cr) (Aa ep) (Aa dm) (Aa fm) (Aa dp) (Aa eb));have ei:=Ab ak;replace cy:=Ab ((Aa cy).below Z);replace ae:=Ab ((Aa ae).2.2.trans (Z.mono (Aa ae).2.2.size));clear ak Z F E bv x1 x2 x3 x4 ce b4 b8 eh;go_wp2;go_roundw
         case rel=>exact⟨k+1,by omega,by go_num,Ab ⟨by rw[(Aa dc).1];exact Aa ei,by rw[(Aa dc).2];exact Aa cy,Aa ae⟩⟩
         case measure=>simp[intOf];omega
  . obtain rfl:n=k:=by omega
    have h6:Hid (l.take n=l):=Ab (by rw[VV (by rw[Aa fi];exact VB _)]);have bb:=(Aa bq).1;have a2:=(Aa bq).2.1;have ai:=(Aa bq).2.2;have h7:=Ab (Z8f (Av (l.take n)) (Ao 0 (l.take n)) n al ah (Aa ed n) (Aa ee n));clear bq;go_wp2_with fail
    refine(Ar 101010256 4 _ (by decide) (by decide)).mono ?_;rintro e iu ⟨ib,f8,gj,rfl,bk,E⟩;replace bb:=bb.below E;replace a2:=a2.below E;replace ai:=ai.trans (E.mono ai.size);clear E;go_wp2_with fail
    refine(Ar 0 4 _ (by decide) (by decide)).mono ?_;rintro e ik ⟨f6,g7,g8,rfl,bw,E⟩;replace bb:=bb.below E;replace a2:=a2.below E;replace bk:=bk.below E;replace ai:=ai.trans (E.mono ai.size);clear E;go_wp2_with fail
    refine(Ar n 2 _ (by omega) (by decide)).mono ?_;rintro e ir ⟨gw,h8,gu,rfl,ci,E⟩;replace bb:=bb.below E;replace a2:=a2.below E;replace bk:=bk.below E;replace bw:=bw.below E;replace ai:=ai.trans (E.mono ai.size);clear E;go_wp2_with fail
    refine(Ar n 2 _ (by omega) (by decide)).mono ?_;rintro e ij ⟨ht,h2,hk,rfl,cq,E⟩;replace bb:=bb.below E;replace a2:=a2.below E;replace bk:=bk.below E;replace bw:=bw.below E;replace ci:=ci.below E;replace ai:=ai.trans (E.mono ai.size);clear E;go_wp2_with fail
    refine(Ar al 4 _ (by omega) (by decide)).mono ?_;rintro e ip ⟨h4,gh,g9,rfl,cz,E⟩;replace bb:=bb.below E;replace a2:=a2.below E;replace bk:=bk.below E;replace bw:=bw.below E;replace ci:=ci.below E;replace cq:=cq.below E;replace ai:=ai.trans (E.mono ai.size);clear E;go_wp2_with fail
    refine(Ar ah 4 _ (by omega) (by decide)).mono ?_;rintro e il ⟨h0,hp,hj,rfl,dn,E⟩;replace bb:=bb.below E;replace a2:=a2.below E;replace bk:=bk.below E;replace bw:=bw.below E;replace ci:=ci.below E;replace cq:=cq.below E;replace cz:=cz.below E;replace ai:=ai.trans (E.mono ai.size);clear E;go_wp2_with fail
    refine(Ar 0 2 _ (by decide) (by decide)).mono ?_;rintro e g0 ⟨h3,gz,f9,rfl,em,E⟩;replace bb:=bb.below E;replace a2:=a2.below E;replace bk:=bk.below E;replace bw:=bw.below E;replace ci:=ci.below E;replace cq:=cq.below E;replace cz:=cz.below E;replace dn:=dn.below E;replace ai:=ai.trans (E.mono ai.size);clear E;have h5:=Ab (show PIns g0 [.slice b3 ah bz,.slice bc al a4,.slice ib f8 gj,.slice f6 g7 g8,.slice gw h8 gu,.slice ht h2 hk,.slice h4 gh g9,.slice h0 hp hj,.slice h3 gz f9] [Av (l.take n),Ao 0 (l.take n),Ag 101010256 4,Ag 0 4,Ag n 2,Ag n 2,Ag al 4,Ag ah 4,Ag 0 2] from (PIns.cons bb (PIns.cons a2 (PIns.cons bk (PIns.cons bw (PIns.cons ci (PIns.cons cq (PIns.cons cz (PIns.cons dn (PIns.cons em .nil))))))))));have e6:=Ab ai;clear ai bb a2 bk bw ci cq cz dn em;go_wp2_with fail
    refine(Cz _ _ _ _ _ 9 9 (Aa h5) rfl rfl (by decide) (Aa h7)).mono ?_;rintro e b7 ⟨b9,cd,cg,rfl,ak,E⟩;have fe:Hid (PIn b7 (.slice b9 cd cg) (Be l)/\Below w.heap.size w b7):=Ab ⟨by rw[Z23 (Aa h6) (Aa fi) (Aa eb) (Aa h1)];exact ak,(Aa e6).trans (E.mono (Aa e6).size)⟩;clear E ak;go_wp2;go_ret;exact⟨_,rfl,(Aa fe).1,(Aa fe).2⟩
end Go.Proofs.YtleocpdblhbimaaGreatDoor
