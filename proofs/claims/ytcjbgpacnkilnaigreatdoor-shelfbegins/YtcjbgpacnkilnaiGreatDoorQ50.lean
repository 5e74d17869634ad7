import Derived.Test.YtcjbgpacnkilnaiGreatDoorQ27
import Derived.Test.YtcjbgpacnkilnaiGreatDoorQ14
import Derived.Test.YtcjbgpacnkilnaiGreatDoorQ49
import Derived.Deep.RegionHeld3
import Derived.Test.YtcjbgpacnkilnaiGreatDoorQ29
import Derived.Test.YtcjbgpacnkilnaiGreatDoorQ31
set_option maxHeartbeats 4000000
namespace Go.Proofs.YtcjbgpacnkilnaiGreatDoor
open Go.RowKit
set_option linter.unusedVariables false
set_option maxRecDepth 100000
structure EOf (x:En):Prop where
 cr:x.crc=crcN 0 (n8 x.f.bytes)
 pk:∃out,IsOne (n8 x.f.bytes) (bestP (n8 x.f.bytes) 3) out/\((out.length<x.f.bytes.length/\x.meth=8/\x.pk=out)\/ (x.f.bytes.length<=out.length/\x.meth=0/\x.pk=n8 x.f.bytes))
def EoA (w:World)(x:Fv)(e:Ending)(w':World):Prop:=∃y:Ev,e=.returned y.val/\y.e.f=x.f/\EOf y.e/\EvIn w' y/\Below w.heap.size w w'/\y.fa=x.a/\(∀g o,y.pa=some ⟨g,o,none⟩->y.e.pk≠ []->(x.a=some ⟨g,o,none⟩/\y.e.f.bytes≠ [])\/o=0)
def Zbc (W:World)(X:Nat)(v0 v1 v2 v3 v4 v5 v6 v7:Value)(Wf:World):Prop:=Le W X v0 v1 v2 v3 v4 v5 v6 v7=Wf
theorem Zew (W:World)(X:Nat)(v0 v1 v2 v3 v4 v5 v6 v7:Value):∃Wf,Zbc W X v0 v1 v2 v3 v4 v5 v6 v7 Wf:=⟨Le W X v0 v1 v2 v3 v4 v5 v6 v7,rfl⟩
theorem Z3w {a w:World}{X:Nat}{v0 v1 v2 v3 v4 v5 v6 v7:Value}(h:Below a.heap.size a w)(hX:a.heap.size<=X):Below a.heap.size a (Le w X v0 v1 v2 v3 v4 v5 v6 v7):=by
 have one:∀ {W:World} (i:Nat) (v:Value),Below a.heap.size a W->Below a.heap.size a (W.setCell ⟨X,i,none⟩ v):=fun {W} i v hW=>hW.grown (Ad W X i v) hW.size (fun g e=>by cases e;exact hX)
 exact one 7 _ (one 6 _ (one 5 _ (one 4 _ (one 3 _ (one 2 _ (one 1 _ (one 0 _ h)))))))
theorem Zb3 {w w5:World}(hb:Below w.drew.heap.size w.drew w5):Below w.heap.size w w5:=(Cp (Below.refl _ _)).trans hb
theorem Zb2 {w w5:World}{o:Obj}(hb:Below (w.alloc o).drew.heap.size (w.alloc o).drew w5):Below w.heap.size w w5:=(Cp (Bv (Below.refl _ _) _)).trans (hb.mono (by simp[World.drew]))
theorem Zb1 {w w5:World}{o:Obj}(hb:Below (w.drew.alloc o).heap.size (w.drew.alloc o) w5):Below w.heap.size w w5:=(Bv (Cp (Below.refl _ _)) _).trans (hb.mono (by rw[World.size_alloc];exact Nat.le_succ _))
theorem Zg9 {w w5:World}{o:Obj}(hb:Below (w.alloc o).drew.heap.size (w.alloc o).drew w5):w5.heap[w.heap.size]? =some o:=(hb.block w.heap.size (by simp[World.drew])).trans (heap_alloc_new w o)
theorem Z19 (x:Fv)(w:World)(h:FvIn w x)(hn:x.f.bytes.length<=3000):
 Calls Tryz.prog 23 #[x.val] w fun e w'=>EoA w x e w':=by
 have HIN:=Ab h;have hpk:=Zhe h.bs;have hroom:=Zax h.bs;obtain⟨⟨nml,bys,st,nd,gn⟩,fa,fc⟩:=x;rw[Er];dsimp only at hn hpk hroom ⊢;have hlen:=Fm bys;have hx:=Ly bys;have hgd:=Dm hx;obtain⟨bs,hbs⟩:∃bs,n8 bys=bs:=⟨_,rfl⟩
 have hbs':=hbs;rw[hbs]at hpk hlen hx hgd;obtain⟨n,hnn⟩:∃n,bys.length=n:=⟨_,rfl⟩
 rw[hnn]at hn hroom hlen ⊢;obtain⟨nm,hnm⟩:∃nm,B nml=nm:=⟨_,rfl⟩
 rw[hnm];obtain⟨m,hm⟩:∃m,crcN 0 bs=m:=⟨_,rfl⟩
 obtain⟨wA,hwA⟩:∃wA,(w.alloc (.cells #[.string nm,.slice fa n fc,.int .i64 st,.int .i64 nd,.bool gn] 49)).alloc (.cells ez 56)=wA:=⟨_,rfl⟩
 have hzA:wA.heap.size=w.heap.size+2:=by rw[<-hwA];simp
 have hBA:Below w.heap.size w wA:=by rw[<-hwA];exact((Below.refl _ _).alloc (Nat.le_refl _) _).alloc (by simp) _
 have hbF:wA.heap[w.heap.size]? =some (.cells #[.string nm,.slice fa n fc,.int .i64 st,.int .i64 nd,.bool gn] 49 (0,0)):=by rw[<-hwA];exact(Below.heap_alloc _ _ _ (by simp)).trans (heap_alloc_new w _)
 have hbR:wA.heap[w.heap.size+1]? =some (.cells ez 56 (0,0)):=by
  have:=heap_alloc_new (w.alloc (.cells #[.string nm,.slice fa n fc,.int .i64 st,.int .i64 nd,.bool gn] 49)) (.cells ez 56)
  rw[<-hwA];simpa using this
 have hcr:∀W:World,Below wA.heap.size wA W->Calls Tryz.prog 39 #[.slice fa n fc] W fun e w'=>e=.returned (.int .u32 (m:Int))/\Below W.heap.size W w':=fun W hW=>by
  have:=Z1v fa n fc bs W hlen (by omega) (hpk.below (hBA.trans (hW.mono (by omega)))).1 hgd
  rw[hm]at this;exact this
 have hbe:∀W:World,Below wA.heap.size wA W->Calls Tryz.prog 40 #[.slice fa n fc] W fun e w'=>∃g c out,e=.returned (.tuple #[.slice (some ⟨g,0,none⟩) (Z4x bs (bestP bs 3)) c,.int .i64 (bestP bs 3:Nat),.int .i64 0])/\g<w'.heap.size/\Bytes w' g 0 out/\IsOne bs (bestP bs 3) out/\Below W.heap.size W w':=fun W hW=>Zhi fa n fc bs W hlen hroom hpk.2 (hpk.below (hBA.trans (hW.mono (by omega)))).1 hgd hn
 have k0:∀W:World,Below wA.heap.size wA W->W.cell? ⟨w.heap.size,0,none⟩=some (.string nm):=fun W hW=>(hW.cell (p:=⟨w.heap.size,0,none⟩) (by dsimp only;omega)).trans (Ac hbF)
 have k1:∀W:World,Below wA.heap.size wA W->W.cell? ⟨w.heap.size,1,none⟩=some (.slice fa n fc):=fun W hW=>(hW.cell (p:=⟨w.heap.size,1,none⟩) (by dsimp only;omega)).trans (Ac hbF)
 have k2:∀W:World,Below wA.heap.size wA W->W.cell? ⟨w.heap.size,2,none⟩=some (.int .i64 st):=fun W hW=>(hW.cell (p:=⟨w.heap.size,2,none⟩) (by dsimp only;omega)).trans (Ac hbF)
 have k3:∀W:World,Below wA.heap.size wA W->W.cell? ⟨w.heap.size,3,none⟩=some (.int .i64 nd):=fun W hW=>(hW.cell (p:=⟨w.heap.size,3,none⟩) (by dsimp only;omega)).trans (Ac hbF)
 have k4:∀W:World,Below wA.heap.size wA W->W.cell? ⟨w.heap.size,4,none⟩=some (.bool gn):=fun W hW=>(hW.cell (p:=⟨w.heap.size,4,none⟩) (by dsimp only;omega)).trans (Ac hbF)
 have HCR:=Ab hcr;have HBE:=Ab hbe;have HWA:=Ab hwA;have HBR:=Ab hbR;have HBA:=Ab hBA;have HZA:=Ab hzA;have HNM:=Ab hnm;have HNN:=Ab hnn;have HBS:=Ab hbs;have HMM:=Ab hm;have HPK:=Ab hpk;clear h hpk hlen hx hgd hbs hbs' hnn hnm hm hwA hBA hbF hbR hcr hbe hzA;go_enter Tryz.func23,Tryz.ntmps23
 go_upto_region 1 with fail
 rw[Aa HWA];go_cut [3] (fun v3 wc=>∃X,v3=.pointer (some ⟨X,0,none⟩)/\Hid (wc.heap[X]? =some (.cells (ec (.string nm) (.slice fa n fc) (.int .i64 st) (.int .i64 nd) (.bool gn) (.int .u32 0) (.slice fa n fc) (.int .u32 (m:Int))) 56 (0,0))/\wA.heap.size<=X/\Below wA.heap.size wA wc))
 case first=>
  go_region_held3 (fun W=>Below wA.heap.size wA W) (first|with_reducible exact Cp (Below.refl _ _)|with_reducible exact hb6|with_reducible exact Bv hb6 _|with_reducible exact Cp (Bv (Below.refl _ _) _)|with_reducible exact Bv (Cp (Below.refl _ _)) _|with_reducible exact Z3w hb6 (Nat.le_refl _)) ((go_at_call 39;refine(Aa HCR _ (by first|with_reducible exact Cp (Below.refl _ _)|with_reducible exact Cp (Bv (Below.refl _ _) _)|with_reducible exact Bv (Cp (Below.refl _ _)) _)).mono ?_;rintro e w5 ⟨rfl,hb5⟩;have hb6:Below wA.heap.size wA w5:=(by first|with_reducible exact Zb3 hb5|with_reducible exact Zb2 hb5|with_reducible exact Zb1 hb5);try (have hx5:=(by with_reducible exact Zg9 hb5:w5.heap[wA.heap.size]? =some (.cells ez 56 (0,0)));have x0:=Ac (i:=0) hx5;have x1:=Ac (i:=1) hx5;have x2:=Ac (i:=2) hx5;have x3:=Ac (i:=3) hx5;have x4:=Ac (i:=4) hx5;have x5:=Ac (i:=5) hx5;have x6:=Ac (i:=6) hx5;have x7:=Ac (i:=7) hx5;have y0:=frozen_of_row w5 wA.heap.size 0 _ _ hx5;have y1:=frozen_of_row w5 wA.heap.size 1 _ _ hx5;have y2:=frozen_of_row w5 wA.heap.size 2 _ _ hx5;have y3:=frozen_of_row w5 wA.heap.size 3 _ _ hx5;have y4:=frozen_of_row w5 wA.heap.size 4 _ _ hx5;have y5:=frozen_of_row w5 wA.heap.size 5 _ _ hx5;have y6:=frozen_of_row w5 wA.heap.size 6 _ _ hx5;have y7:=frozen_of_row w5 wA.heap.size 7 _ _ hx5)))
  all_goals go_wp2_with fail
  all_goals go_meet
  . exact⟨_,rfl,Ab ⟨heap_alloc_new _ _,hb6.size,Bv hb6 _⟩⟩
  . exact⟨_,rfl,Ab ⟨(Zjg w5 wA.heap.size 56 _ _ _ _ _ _ _ _ _ _ _ _ _ _ _ _ hx5).1,Nat.le_refl _,Z3w hb6 (Nat.le_refl _)⟩⟩
 case rest=>
  obtain⟨X,rfl,hX⟩:=hcut;obtain⟨hX1,hX2,hX3⟩:=Aa hX;have c1:=k1 wc hX3;have HX:=Ab hX1;have HX3:=Ab hX3;clear hX hX1 hX3 k0 k1 k2 k3 k4;go_wp2_with fail
  refine(Aa HBE wc (Aa HX3)).mono ?_;rintro e w6 ⟨g,c,out,rfl,hg,hBy,hOne,hB6⟩;have hol:=hOne.len;have hX6:w6.heap[X]? =some (.cells (ec (.string nm) (.slice fa n fc) (.int .i64 st) (.int .i64 nd) (.bool gn) (.int .u32 0) (.slice fa n fc) (.int .u32 (m:Int))) 56 (0,0)):=(hB6.block X (Array.getElem?_eq_some_iff.1 (Aa HX)).1).trans (Aa HX);have hBA6:Below wA.heap.size wA w6:=(Aa HX3).trans (hB6.mono (Aa HX3).size);have hzA:=Aa HZA;have hR6:w6.heap[w.heap.size+1]? =some (.cells ez 56 (0,0)):=(hBA6.block _ (by omega)).trans (Aa HBR)
  have hF6:w6.cell? ⟨w.heap.size,1,none⟩=some (.slice fa n fc):=by
   have:=hBA6.cell (p:=⟨w.heap.size,1,none⟩) (by dsimp only;omega)
   have h2:=(Aa HX3).cell (p:=⟨w.heap.size,1,none⟩) (by dsimp only;omega);rw[this,<-h2];exact c1
  obtain⟨L,hL⟩:∃L,Z4x bs (bestP bs 3)=L:=⟨_,rfl⟩
  obtain⟨K,hK⟩:∃K,bestP bs 3=K:=⟨_,rfl⟩
  rw[hL]at hol;rw[hL,hK];have q0:=Ac (i:=0) hX6;have q1:=Ac (i:=1) hX6;have q2:=Ac (i:=2) hX6;have q3:=Ac (i:=3) hX6;have q4:=Ac (i:=4) hX6;have q5:=Ac (i:=5) hX6;have q6:=Ac (i:=6) hX6;have q7:=Ac (i:=7) hX6;have f5:=frozen_of_row w6 X 5 _ _ hX6;have f6:=frozen_of_row w6 X 6 _ _ hX6;have r0:=Ac (i:=0) hR6;have r1:=Ac (i:=1) hR6;have r2:=Ac (i:=2) hR6;have r3:=Ac (i:=3) hR6;have r4:=Ac (i:=4) hR6;have r5:=Ac (i:=5) hR6;have r6:=Ac (i:=6) hR6;have r7:=Ac (i:=7) hR6;have g0:=frozen_of_row w6 (w.heap.size+1) 0 _ _ hR6;have g1:=frozen_of_row w6 (w.heap.size+1) 1 _ _ hR6;have g2:=frozen_of_row w6 (w.heap.size+1) 2 _ _ hR6;have g3:=frozen_of_row w6 (w.heap.size+1) 3 _ _ hR6;have g4:=frozen_of_row w6 (w.heap.size+1) 4 _ _ hR6;have g5:=frozen_of_row w6 (w.heap.size+1) 5 _ _ hR6;have g6:=frozen_of_row w6 (w.heap.size+1) 6 _ _ hR6;have g7:=frozen_of_row w6 (w.heap.size+1) 7 _ _ hR6;simp only[List.getElem?_toArray,List.getElem?_cons_zero,List.getElem?_cons_succ]at q0 q1 q2 q3 q4 q5 q6 q7 r0 r1 r2 r3 r4 r5 r6 r7;have hXne:w.heap.size+1≠X:=by omega
  have hBw6:Below w.heap.size w w6:=(Aa HBA).trans (hBA6.mono (by omega));have hxlt:=(Array.getElem?_eq_some_iff.1 hX6).1;have hpos:=hOne.pos;have hgc:=hBy 0 hpos;have hgX:g≠X:=fun e=>by rw[e]at hgc;rw[q0]at hgc;cases hgc
  have hgR:g≠w.heap.size+1:=fun e=>by rw[e]at hgc;rw[r0]at hgc;cases hgc
  have hbl:bs.length=n:=by rw[<-Aa HBS,Fm];exact Aa HNN
  clear hpos hgc
  by_cases hlt:L<n
  . have hltI:(L:Int)<(n:Int):=by omega
    have k1:=Ad w6 X 5 (.int .u32 8);have k2:=Ad (w6.setCell ⟨X,5,none⟩ (.int .u32 8)) X 6 (.slice (some ⟨g,0,none⟩) L c);have kk:=Ai k1 k2;obtain⟨p1',p2'⟩:=Zjg ((w6.setCell ⟨X,5,none⟩ (.int .u32 8)).setCell ⟨X,6,none⟩ (.slice (some ⟨g,0,none⟩) L c)) (w.heap.size+1) 56 _ _ _ _ _ _ _ _ (.string nm) (.slice fa n fc) (.int .i64 st) (.int .i64 nd) (.bool gn) (.int .u32 8) (.slice (some ⟨g,0,none⟩) L c) (.int .u32 (m:Int)) ((kk.block _ (by omega) (by simp;exact hXne)).trans hR6);have hfb:PkIn (Le ((w6.setCell ⟨X,5,none⟩ (.int .u32 8)).setCell ⟨X,6,none⟩ (.slice (some ⟨g,0,none⟩) L c)) (w.heap.size+1) (.string nm) (.slice fa n fc) (.int .i64 st) (.int .i64 nd) (.bool gn) (.int .u32 8) (.slice (some ⟨g,0,none⟩) L c) (.int .u32 (m:Int))) fa fc bs:=(((Aa HPK).below hBw6).grown kk (fun g' o e1 e2=>by have:=To (Aa HPK) g' o e1 e2;simp;omega)).grown p2' (fun g' o e1 e2=>by have:=To (Aa HPK) g' o e1 e2;simp;omega)
    have HF:Hid (EoA w ⟨⟨nml,bys,st,nd,gn⟩,fa,fc⟩ (.returned (.agg #[(.string nm),(.slice fa n fc),(.int .i64 st),(.int .i64 nd),(.bool gn),(.int .u32 8),(.slice (some ⟨g,0,none⟩) L c),(.int .u32 (m:Int))])) (Le ((w6.setCell ⟨X,5,none⟩ (.int .u32 8)).setCell ⟨X,6,none⟩ (.slice (some ⟨g,0,none⟩) L c)) (w.heap.size+1) (.string nm) (.slice fa n fc) (.int .i64 st) (.int .i64 nd) (.bool gn) (.int .u32 8) (.slice (some ⟨g,0,none⟩) L c) (.int .u32 (m:Int)))):=Ab (by
     refine⟨⟨⟨⟨nml,bys,st,nd,gn⟩,8,out,m⟩,fa,fc,some ⟨g,0,none⟩,c⟩, ?_,rfl,⟨by dsimp only;rw[Aa HBS,Aa HMM],out,by dsimp only;rw[Aa HBS];exact hOne,.inl ⟨by dsimp only;rw[hol,Aa HNN];exact hlt,rfl,rfl⟩⟩,⟨by dsimp only;rw[Aa HBS];exact hfb,by dsimp only;rw[Aa HNN];exact hroom,by dsimp only;rw[Aa HNN];omega,(Aa HIN).txt,((show PkIn w6 (some ⟨g,0,none⟩) c out from ⟨.inr ⟨g,0,rfl,hg,hBy⟩,fun e=>by cases e⟩).grown kk (fun g' o e _=>by cases e;simp;exact hgX)).grown p2' (fun g' o e _=>by cases e;simp;exact hgR)⟩, ?_,rfl,fun g' o e _=>by cases e;exact .inr rfl⟩
     . unfold Ev.val;dsimp only;rw[Aa HNM,Aa HNN,hol]
       first|done|rfl
     . have hk:=kk.size;exact(hBw6.grown kk (by omega) (fun g' e=>by cases e;omega)).grown p2' (by omega) (fun g' e=>by cases e;omega))
    obtain⟨Wf,hWf⟩:=Zew ((w6.setCell ⟨X,5,none⟩ (.int .u32 8)).setCell ⟨X,6,none⟩ (.slice (some ⟨g,0,none⟩) L c)) (w.heap.size+1) (.string nm) (.slice fa n fc) (.int .i64 st) (.int .i64 nd) (.bool gn) (.int .u32 8) (.slice (some ⟨g,0,none⟩) L c) (.int .u32 (m:Int));have eWf:Le ((w6.setCell ⟨X,5,none⟩ (.int .u32 8)).setCell ⟨X,6,none⟩ (.slice (some ⟨g,0,none⟩) L c)) (w.heap.size+1) (.string nm) (.slice fa n fc) (.int .i64 st) (.int .i64 nd) (.bool gn) (.int .u32 8) (.slice (some ⟨g,0,none⟩) L c) (.int .u32 (m:Int))=Wf:=hWf;rw[eWf]at HF p1';have HWF:=Ab hWf;clear hWf eWf;have HP1:=Ab p1';clear p1' p2' hfb hX6 hR6 hBA6 hBw6 hBy hOne hB6 hol hL hK hg hgX hgR hxlt hlt hbl k1 k2 kk;go_wp2;have eWf:=Aa HWF;unfold Zbc at eWf;subst eWf;refine bodyPost_ret (v:=.agg #[(.string nm),(.slice fa n fc),(.int .i64 st),(.int .i64 nd),(.bool gn),(.int .u32 8),(.slice (some ⟨g,0,none⟩) L c),(.int .u32 (m:Int))]) ?_ rfl (Aa HF);exact results_cell_row rfl _ _ _ _ _ _ _ rfl (Aa HP1) Tryz.underlying56 rfl (by kernel_rfl)
  . have hltI:¬(L:Int)<(n:Int):=by omega
    have kk:=Ao w6 (some X);obtain⟨p1',p2'⟩:=Zjg w6 (w.heap.size+1) 56 _ _ _ _ _ _ _ _ (.string nm) (.slice fa n fc) (.int .i64 st) (.int .i64 nd) (.bool gn) (.int .u32 0) (.slice fa n fc) (.int .u32 (m:Int)) ((kk.block _ (by omega) (by simp;exact hXne)).trans hR6);have hfb:PkIn (Le w6 (w.heap.size+1) (.string nm) (.slice fa n fc) (.int .i64 st) (.int .i64 nd) (.bool gn) (.int .u32 0) (.slice fa n fc) (.int .u32 (m:Int))) fa fc bs:=(((Aa HPK).below hBw6).grown kk (fun g' o e1 e2=>by have:=To (Aa HPK) g' o e1 e2;simp;omega)).grown p2' (fun g' o e1 e2=>by have:=To (Aa HPK) g' o e1 e2;simp;omega)
    have HF:Hid (EoA w ⟨⟨nml,bys,st,nd,gn⟩,fa,fc⟩ (.returned (.agg #[(.string nm),(.slice fa n fc),(.int .i64 st),(.int .i64 nd),(.bool gn),(.int .u32 0),(.slice fa n fc),(.int .u32 (m:Int))])) (Le w6 (w.heap.size+1) (.string nm) (.slice fa n fc) (.int .i64 st) (.int .i64 nd) (.bool gn) (.int .u32 0) (.slice fa n fc) (.int .u32 (m:Int)))):=Ab (by
     refine⟨⟨⟨⟨nml,bys,st,nd,gn⟩,0,bs,m⟩,fa,fc,fa,fc⟩, ?_,rfl,⟨by dsimp only;rw[Aa HBS,Aa HMM],out,by dsimp only;rw[Aa HBS];exact hOne,.inr ⟨by dsimp only;rw[hol,Aa HNN];omega,rfl,by dsimp only;rw[Aa HBS]⟩⟩,⟨by dsimp only;rw[Aa HBS];exact hfb,by dsimp only;rw[Aa HNN];exact hroom,by dsimp only;rw[Aa HNN];omega,(Aa HIN).txt,hfb⟩, ?_,rfl,fun g' o e1 e2=>.inl ⟨e1,fun e=>e2 (by have e':bys= []:=e;dsimp only;rw[<-Aa HBS,e'];rfl)⟩⟩
     . unfold Ev.val;dsimp only;rw[Aa HNM,Aa HNN,hbl]
       first|done|rfl
     . have hk:=kk.size;exact(hBw6.grown kk (by omega) (fun g' e=>by cases e;omega)).grown p2' (by omega) (fun g' e=>by cases e;omega))
    obtain⟨Wf,hWf⟩:=Zew w6 (w.heap.size+1) (.string nm) (.slice fa n fc) (.int .i64 st) (.int .i64 nd) (.bool gn) (.int .u32 0) (.slice fa n fc) (.int .u32 (m:Int));have eWf:Le w6 (w.heap.size+1) (.string nm) (.slice fa n fc) (.int .i64 st) (.int .i64 nd) (.bool gn) (.int .u32 0) (.slice fa n fc) (.int .u32 (m:Int))=Wf:=hWf;rw[eWf]at HF p1';have HWF:=Ab hWf;clear hWf eWf;have HP1:=Ab p1';clear p1' p2' hfb hX6 hR6 hBA6 hBw6 hBy hOne hB6 hol hL hK hg hgX hgR hxlt hlt hbl kk;go_wp2;have eWf:=Aa HWF;unfold Zbc at eWf;subst eWf;refine bodyPost_ret (v:=.agg #[(.string nm),(.slice fa n fc),(.int .i64 st),(.int .i64 nd),(.bool gn),(.int .u32 0),(.slice fa n fc),(.int .u32 (m:Int))]) ?_ rfl (Aa HF);exact results_cell_row rfl _ _ _ _ _ _ _ rfl (Aa HP1) Tryz.underlying56 rfl (by kernel_rfl)
def WrA (w:World)(fs:List Fl)(e:Ending)(w':World):Prop:=
 Below w.heap.size w w'/\((Em fs≠0/\e=.returned (.tuple #[.slice none 0 0,.int .i64 (Em fs:Nat)]))\/ (Em fs=0/\∃l:List En,l.map En.f=fs/\(∀x∈l,EOf x)/\((12000<(Bt l).length/\e=.returned (.tuple #[.slice none 0 0,.int .i64 11]))\/ ((Bt l).length<=12000/\∃a c,e=.returned (.tuple #[.slice a (Bt l).length c,.int .i64 0])/\(Bt l).length<=c/\PkIn w' a c (Bt l)))))
theorem Z4m {w:World}{Bs:Nat}{v:Value}{xs:List Ev}{g:Nat}(h:ERow w Bs v xs)(hg:v.ownBlock=some g)(hne:xs≠ []):∃s,w.cell? ⟨g,0,none⟩=some (.string s):=by
 obtain⟨ad,c,rfl,hes⟩:=h.entries
 cases xs with
 |nil=>exact absurd rfl hne
 |cons x r=>
  rcases hes.at_ with h1|⟨b,o,rfl,hb,hE⟩
  . cases h1
  . have h0:=hE 0 x rfl 0 (by decide);have hsh:=Bm h.own (by simp);obtain⟨g',cap,hv,_⟩:=hsh
    cases hv
    cases hg
    have h1:w.cell? ⟨b,0+0*8+0,none⟩=some (.string (B x.e.f.name)):=h0;exact⟨_,h1⟩
theorem EOf.num {x:En}(h:EOf x)(hv:Kx x.f=0):ENum x/\∀y∈x.pk,y<256:=by
 obtain⟨h1,h2,h3,h4,h5,h6⟩:=Ng hv;have hcr:x.crc<4294967296:=by rw[h.cr];exact Z1d (Ly _) (by decide)
 obtain⟨out,ho,(⟨q1,q2,q3⟩|⟨q1,q2,q3⟩)⟩:=h.pk
 . exact⟨⟨⟨h3,h4⟩,⟨h5,h6⟩,h1,h2,by rw[q3];omega,hcr,by rw[q2];decide⟩,by rw[q3];exact Z3c ho.val⟩
 . exact⟨⟨⟨h3,h4⟩,⟨h5,h6⟩,h1,h2,by rw[q3,Fm];omega,hcr,by rw[q2];decide⟩,by rw[q3];exact Ly _⟩
theorem Z41 (ad:Option Addr)(c n:Nat)(xs:List Fv)(w:World)(h:FsIn w ad c xs)(hn:xs.length=n):
 Calls Tryz.prog 7 #[.slice ad n c] w fun e w'=>WrA w (fls xs) e w':=by
 have HCC:=Ab (Hb ad c xs w h n hn);obtain⟨E,hE⟩:∃E,Em (fls xs)=E:=⟨_,rfl⟩
 rw[hE]at HCC;have HI:=Ab h;have HN:=Ab hn;have HE:=Ab hE;clear h hn hE;go_enter Tryz.func7,Tryz.ntmps7
 go_wp2_with fail
 refine(Aa HCC).mono ?_;rintro e w1 ⟨rfl,hB1⟩
 by_cases hE0:E=0
 . subst hE0;have hok:=Ha (Aa HE)
   have hn12:n<=12:=by
    have h1:=hok.1;have h2:=Aa HN;simp[fls]at h1
    omega
   have hvx:∀x∈xs,Kx x.f=0:=fun x hx=>hok.2 x.f (List.mem_map_of_mem hx)
   have HVX:=Ab hvx;have HB1:=Ab hB1;clear hB1 hok hvx HCC;go_wp2;go_loopw [5,7,16] (fun v5 _ i wr=>∃(k:Nat) (es:List Ev),k<=n/\i=.int .i64 (k:Int)/\Hid (ERow wr w.heap.size v5 es/\es.map (fun y=>y.e.f)=(fls xs).take k/\(∀y∈es,EOf y.e)/\(es= []->v5=.slice none 0 0))/\Hid (Below w.heap.size w wr)) (fun _ _ i _=>n-(intOf i).toNat)
   case atStart=>exact⟨0,[],Nat.zero_le _,rfl,Ab ⟨ERow.nil _ _,by simp,(fun y hy=>absurd hy List.not_mem_nil),fun _=>rfl⟩,HB1⟩
   case round=>
    obtain⟨k,es,hk,rfl,HR,HB⟩:=hrel
    have hel:es.length=k:=by
     have:=congrArg List.length (Aa HR).2.1
     have h2:=Aa HN;simp[fls]at this
     omega
    by_cases hlt:k<n
    . obtain⟨x,hx,hxm⟩:=Ye (xs:=xs) (k:=k) (by rw[Aa HN];exact hlt);obtain⟨b,o,rfl,hb,c0,c1,c2,c3,c4⟩:=(Aa HI).get (Aa HB) hx;have hz:=(Aa HB).size;have hxin:=(Aa HI).all x hxm;have HEO:=Ab (fun(W:World) (hW:Below w.heap.size w W)=>Z19 x W (hxin.below hW (Nat.le_refl _)) (by have:=Ng (Aa HVX x hxm);omega));have hfl:(fls xs).take (k+1)=(fls xs).take k++ [x.f]:=Jk (by simp[fls,hx])
      have hxlt:∀g o,x.a=some ⟨g,o,none⟩->x.f.bytes≠ []->g<w.heap.size:=fun g o e1 e2=>by
       have:=To (Zhe hxin.bs) g o e1 (fun e=>e2 (by rw[<-Zcx x.f.bytes,e];rfl))
       exact this
      have HXLT:=Ab hxlt;have HFL:=Ab hfl;rw[Er]at HEO;unfold Fv.sl at c1;clear hx hxm hxin hfl hxlt;have HEL:=Ab hel;have hB2:∀o1:Obj,Below w.heap.size w (wr.alloc o1):=fun o1=>(Aa HB).alloc hz o1
      have HB2:=Ab hB2;have HR2:=Ab (fun o1:Obj=>(Aa HR).1.below ((Below.refl wr.heap.size wr).alloc (Nat.le_refl _) o1));obtain⟨xf,xa,xc⟩:=x;dsimp only at c0 c1 c2 c3 c4;have HEO':=HEO;clear hB2 hel;generalize hnm:B xf.name=nm at c0 HEO;generalize hbl:xf.bytes.length=bl at c1 HEO;generalize hst:xf.stamp=st at c2 HEO;generalize hnd:xf.node=nd at c3 HEO;generalize hgn:xf.gone=gn at c4 HEO;clear hnm hbl hst hnd hgn HEO';go_wp2_with fail
      refine(Aa HEO _ (Aa HB2 _)).mono ?_;rintro e w2 ⟨y,rfl,hyf,hyo,hyi,hB3,hya,hyp⟩;replace hyf:y.e.f=xf:=hyf;replace hya:y.fa=xa:=hya;have hB4:=(Aa HB2 _).trans (hB3.mono (by simp;omega));have hrow:=(Aa HR2 _).below hB3
      have hlies:y.lies (fun g=>some g≠u5.ownBlock):=by
       have hold:∀g o,xa=some ⟨g,o,none⟩->xf.bytes≠ []->some g≠u5.ownBlock:=fun g o e1 e2 e3=>by
        have h1:=Aa HXLT g o e1 e2;have h2:=(hrow.own.lt g e3.symm).1;omega
       constructor
       . intro g o e1 e2;exact hold g o (hya.symm.trans e1) (by rw[<-hyf];exact e2)
       . intro g o e1 e2
         rcases hyp g o e1 e2 with ⟨q1,q2⟩|rfl
         . exact hold g o q1 (by rw[<-hyf];exact q2)
         . intro e3
           have hne:es≠ []:=by
            intro e4;rw[(Aa HR).2.2.2 e4]at e3
            cases e3
           obtain⟨s,hs⟩:=Z4m hrow e3.symm hne
           rcases hyi.pk.1 with h5|⟨b',o',e5,hb5,hc5⟩
           . exact e2 h5
           . rw[e1]at e5
             cases e5
             have:=hc5 0 (List.length_pos_iff.2 e2)
             rw[Nat.zero_add,hs]at this
             cases this
      have HR3:=Ab (fun o1:Obj=>hrow.below ((Below.refl w2.heap.size w2).alloc (Nat.le_refl _) o1));have HYI:=Ab (fun o1:Obj=>hyi.below ((Below.refl w2.heap.size w2).alloc (Nat.le_refl _) o1));have HYL:=Ab hlies;have HYO:=Ab hyo;have HYF:=Ab hyf;have hz2:=hB4.size;have HB5:=Ab (fun o1:Obj=>hB4.alloc hz2 o1);have hel2:es.length+1<=100000:=by rw[Aa HEL];omega
      have HCE:Hid (∀o1,o1=Obj.cells y.cells.toArray 56->∀j u,y.cells[j]? =some u->(w2.alloc o1).cell? ⟨w2.heap.size,j,none⟩=some u):=Ab (fun o1 e j u hj=>by
       subst e;rw[Ac (heap_alloc_new w2 _)];simpa using hj)
      clear hB3 hB4 hrow hlies hyi hyo hyf hya hyp HEO c0 c1 c2 c3 c4;unfold Ev.val;go_wp2_with (at_builtin;refine Ep _ rfl _ _ rfl w.heap.size _ es rfl (Aa HR3 _) w2.heap.size y rfl (Aa HCE _ rfl) (Aa HYI _) (Aa HYL) hel2 (by simp;omega) ?_)
      intro v' w3 hrow3 hg3
      have HR4:Hid (ERow w3 w.heap.size v' (es++ [y])/\(es++ [y]).map (fun y=>y.e.f)=(fls xs).take (k+1)/\(∀z∈es++ [y],EOf z.e)/\(es++ [y]= []->v'=.slice none 0 0)):=Ab (by
       refine⟨Aa hrow3, ?_,fun z hz=> ?_,fun e=>by simp at e⟩
       . rw[List.map_append,(Aa HR).2.1,Aa HFL];simp[Aa HYF]
       . rcases List.mem_append.1 hz with hz|hz
         . exact(Aa HR).2.2.1 z hz
         . rw[List.mem_singleton.1 hz];exact Aa HYO)
      have HB6:Hid (Below w.heap.size w w3):=Ab ((Aa HB5 _).grown (Aa hg3) (by simp;omega) (fun g e=>((Aa HR3 (.cells y.cells.toArray 56)).own.lt g e).1));clear hrow3 hg3;go_wp2;go_roundw
      case rel=>exact⟨k+1,es++ [y],by omega,by go_num,HR4,HB6⟩
      case measure=>simp[intOf];omega
    . obtain rfl:n=k:=by omega
      obtain⟨hrow,hfs,heo,_⟩:=Aa HR;have hta:(fls xs).take n=fls xs:=List.take_of_length_le (by simp[fls,Aa HN]);rw[hta]at hfs;obtain⟨ad2,c2,hv,hes⟩:=hrow.entries;rw[hel]at hv;subst hv;obtain⟨l,hll⟩:∃l,es.map Ev.e=l:=⟨_,rfl⟩
      have hlf:l.map En.f=fls xs:=by rw[<-hll,List.map_map];exact hfs
      have hlo:∀x∈l,EOf x:=by
       rw[<-hll];intro x hx;obtain⟨y,hy,rfl⟩:=List.mem_map.1 hx;exact heo y hy
      have hev:∀x∈l,Kx x.f=0:=fun x hx=>by
       have:x.f∈fls xs:=by rw[<-hlf];exact List.mem_map_of_mem hx
       obtain⟨z,hz,hze⟩:=List.mem_map.1 this;rw[<-hze];exact Aa HVX z hz
      have hnum:∀x∈es,ENum x.e:=fun x hx=>((hlo x.e (by rw[<-hll];exact List.mem_map_of_mem hx)).num (hev x.e (by rw[<-hll];exact List.mem_map_of_mem hx))).1
      have HCA:=Ab (Px ad2 c2 n es wr hes hel hn12 hnum);rw[hll]at HCA;have HLF:=Ab hlf;have HLO:=Ab hlo;clear hrow hfs heo hta hes hll hlf hlo hev hnum hel;go_wp2_with fail
      refine(Aa HCA).mono ?_;rintro e w4 ⟨v4,rfl,ho,hB4⟩;obtain⟨a4,c4,rfl,q1,q2,q3,q4⟩:=Xa ho;have hB5:=(Aa HB).trans (hB4.mono (Aa HB).size);obtain⟨AL,hAL⟩:∃AL,(Bt l).length=AL:=⟨_,rfl⟩
      rw[hAL]at q2;rw[hAL]
      by_cases hbig:12000<AL
      . have HF:Hid (WrA w (fls xs) (.returned (.tuple #[.slice none 0 0,.int .i64 11])) w4):=Ab ⟨hB5,.inr ⟨Aa HE,l,Aa HLF,Aa HLO,.inl ⟨by rw[hAL];exact hbig,rfl⟩⟩⟩;have hbI:(12000:Int)<(AL:Int):=by omega
        clear hB4 hB5 ho q1 q2 q3 q4 hAL hbig HCA;go_wp2;go_ret2;exact Aa HF
      . have HF:Hid (WrA w (fls xs) (.returned (.tuple #[.slice a4 AL c4,.int .i64 0])) w4):=Ab ⟨hB5,.inr ⟨Aa HE,l,Aa HLF,Aa HLO,.inr ⟨by rw[hAL];omega,a4,c4,by rw[hAL],by rw[hAL];exact q2,q1⟩⟩⟩;have hbI:¬(12000:Int)<(AL:Int):=by omega
        clear hB4 hB5 ho q1 q2 q3 q4 hAL hbig HCA;go_wp2;go_ret2;exact Aa HF
 . have HF:Hid (WrA w (fls xs) (.returned (.tuple #[.slice none 0 0,.int .i64 (E:Int)])) w1):=Ab ⟨hB1,.inl ⟨by rw[Aa HE];exact hE0,by rw[Aa HE]⟩⟩;have hEb:((E:Int)==0)=false:=by rw[beq_eq_false_iff_ne];omega
   have hEc:((E:Int)!=0)=true:=by rw[bne,hEb];rfl
   clear hB1 hE0;go_wp2;go_ret2;exact Aa HF
theorem Z43 (l:List En)(hE:Em (l.map En.f)=0)(ho:∀x∈l,EOf x)(hn:(Bt l).length<=12000):
 (∀x∈l,EOk x)/\Ee (Bt l)=0/\Da (Bt l)=l.map En.f:=by
 have hv:∀x∈l,Kx x.f=0:=fun x hx=>(Ha hE).2 x.f (List.mem_map_of_mem hx)
 have hk:∀x∈l,EOk x:=fun x hx=>(ho x hx).ok (hv x hx)
 refine⟨hk,Wu l hk hE ?_ hn⟩;unfold Lc;rw[List.all_eq_true];intro x hx;exact decide_eq_true (ho x hx).cr
theorem Nk:∀(l:List En),(Bt l).length=22+(Bd l).length+(Bf 0 l).length:=fun l=>by
 unfold Bt;rw[List.length_append,List.length_append,Z3l];omega
end Go.Proofs.YtcjbgpacnkilnaiGreatDoor
namespace Go.Proofs.YtcjbgpacnkilnaiGreatDoor
open Go.RowKit
set_option linter.unusedVariables false
set_option linter.unusedSimpArgs false
set_option maxRecDepth 100000
theorem EOf.one {x y:En}(h:EOf x)(k:EOf y)(e:x.f=y.f):x=y:=by
 obtain⟨xf,xm,xp,xc⟩:=x;obtain⟨yf,ym,yp,yc⟩:=y;have h1:=h.cr;have k1:=k.cr;obtain⟨o1,h2,h3⟩:=h.pk;obtain⟨o2,k2,k3⟩:=k.pk;dsimp only at e h1 k1 h2 h3 k2 k3;subst e;obtain rfl:=h2.one k2
 rcases h3 with ⟨p1,p2,p3⟩|⟨p1,p2,p3⟩<;>rcases k3 with ⟨q1,q2,q3⟩|⟨q1,q2,q3⟩
 . rw[h1,k1,p2,p3,q2,q3]
 . omega
 . omega
 . rw[h1,k1,p2,p3,q2,q3]
def Ens (fs:List Fl)(l:List En):Prop:=l.map En.f=fs/\∀x∈l,EOf x
theorem Ens.one:∀ {fs:List Fl} {l k:List En},Ens fs l->Ens fs k->l=k
 | [],l,k,h,h2=>by rw[List.map_eq_nil_iff.1 h.1,List.map_eq_nil_iff.1 h2.1]
 |f::fs,l,k,h,h2=>by
  obtain⟨h1,h3⟩:=h;obtain⟨k1,k3⟩:=h2
  match l,k,h1,k1,h3,k3 with
  |x::l,y::k,h1,k1,h3,k3=>
   rw[List.map_cons,List.cons.injEq]at h1 k1;rw[(h3 x (by simp)).one (k3 y (by simp)) (h1.1.trans k1.1.symm),Ens.one ⟨h1.2,fun z hz=>h3 z (by simp[hz])⟩ ⟨k1.2,fun z hz=>k3 z (by simp[hz])⟩]
open Classical in
noncomputable def arL (fs:List Fl):List Nat:=if h:∃l,Ens fs l then Bt h.choose else []
theorem Z3y {fs:List Fl}{l:List En}(h:Ens fs l):arL fs=Bt l:=by
 have h2:∃l,Ens fs l:=⟨l,h⟩
 unfold arL;rw[dif_pos h2,h2.choose_spec.one h]
noncomputable def wrE (fs:List Fl):Nat:=if Em fs≠0 then Em fs else if 12000<(arL fs).length then 11 else 0
noncomputable def wrL (fs:List Fl):List Nat:=if wrE fs=0 then arL fs else []
theorem Zf8 {fs:List Fl}(h:Em fs≠0):wrE fs=Em fs:=by unfold wrE;rw[if_pos h]
theorem Z1y {fs:List Fl}(h:wrE fs=0):Em fs=0/\(arL fs).length<=12000/\wrL fs=arL fs:=by
 have h3:wrL fs=arL fs:=by unfold wrL;rw[if_pos h]
 unfold wrE at h
 split at h
 . rename_i h1;exact absurd h h1
 . split at h
   . cases h
   . rename_i h1 h2
     exact⟨by simpa using h1,by omega,h3⟩
def Wr (fs:List Fl)(ar:List Nat):Prop:=(∀x∈ar,x<256)/\Ee ar=0/\Da ar=fs/\22<=ar.length/\ar.length<=12000
theorem Zk9 {l:List En}(hE:Em (l.map En.f)=0)(ho:∀x∈l,EOf x)(hn:(Bt l).length<=12000):Wr (l.map En.f) (Bt l):=by
 obtain⟨_,h2,h3⟩:=Z43 l hE ho hn;exact⟨Vb l (fun x hx=>((ho x hx).num ((Ha hE).2 x.f (List.mem_map_of_mem hx))).2),h2,h3,by rw[Nk];omega,hn⟩
def WrN (ar:List Nat):Prop:=(∀x∈ar,x<256)/\22<=ar.length/\ar.length<=12000
theorem Z3x {l:List En}(hE:Em (l.map En.f)=0)(ho:∀x∈l,EOf x)(hn:(Bt l).length<=12000):WrN (Bt l):=
 ⟨Vb l (fun x hx=>((ho x hx).num ((Ha hE).2 x.f (List.mem_map_of_mem hx))).2),by rw[Nk];omega,hn⟩
theorem Zht {w w':World}{fs:List Fl}{e:Ending}(h:WrA w fs e w'):Below w.heap.size w w'/\(∃v,e=.returned (.tuple #[v,.int .i64 (wrE fs:Nat)])/\PIn w' v (wrL fs))/\(wrE fs=0->WrN (wrL fs)):=by
 obtain⟨hB,h⟩:=h;refine⟨hB, ?_⟩
 rcases h with ⟨h1,rfl⟩|⟨h1,l,h2,h3,h4⟩
 . have hz:=Zf8 h1;have hl:wrL fs= []:=by unfold wrL;rw[if_neg (by rw[hz];exact h1)]
   exact⟨⟨_,by rw[hz],by rw[hl];exact PIn.nil _⟩,fun e=>absurd (hz.symm.trans e) h1⟩
 . have ha:=Z3y ⟨h2,h3⟩
   rcases h4 with ⟨h4,rfl⟩|⟨h4,a,c,rfl,h5,h6⟩
   . have hz:wrE fs=11:=by unfold wrE;rw[if_neg (by simp[h1]),ha,if_pos h4]
     have hl:wrL fs= []:=by unfold wrL;rw[if_neg (by rw[hz];decide)]
     exact⟨⟨_,by rw[hz];rfl,by rw[hl];exact PIn.nil _⟩,fun e=>by rw[hz]at e;cases e⟩
   . have hz:wrE fs=0:=by unfold wrE;rw[if_neg (by simp[h1]),ha,if_neg (by omega)]
     have hl:wrL fs=Bt l:=by unfold wrL;rw[if_pos hz,ha]
     refine⟨⟨_,by rw[hz,<-hl];rfl,by rw[hl];exact⟨a,c,rfl,h5,h6⟩⟩,fun _=> ?_⟩;rw[hl];exact Z3x (by rw[h2];exact h1) h3 h4
noncomputable def rF (b:List Nat):List Fl:=(Recs.ex b.length [] b (Nat.le_refl _)).choose
noncomputable def rN (b:List Nat):Nat:=(Recs.ex b.length [] b (Nat.le_refl _)).choose_spec.choose
theorem Rt (b:List Nat):Recs [] b (rF b) (rN b):=(Recs.ex b.length [] b (Nat.le_refl _)).choose_spec.choose_spec
theorem Wq {b:List Nat}{f:List Fl}{m:Nat}(h:Recs [] b f m):rF b=f/\rN b=m:=(Rt b).one h
theorem Zck (b:List Nat):rN b<=b.length:=(Rt b).le
theorem Ji {b:List Nat}{f:List Fl}(h:Fe b f):rF b=f/\rN b=b.length:=Wq h
theorem Z3j:Em []=0:=by decide
theorem Z5u {S T:List Nat}(h:dskE S T=0):S.length+T.length<=40000/\Fe S (rF S)/\Fe (S++T) (rF (S++T)):=by
 obtain⟨h1,⟨f,h2⟩,⟨g,h3⟩⟩:=Yx h;exact⟨h1,by rw[(Ji h2).1];exact h2,by rw[(Ji h3).1];exact h3⟩
theorem Nn:Fe [] []:=Wp []
theorem Ze3:dskE [] []=0:=Pp (by decide) Nn Nn
theorem Zek:rF []= []:=(Ji Nn).1
noncomputable def addE (S T:List Nat)(fs:List Fl):Nat:=
 if dskE S T≠0 then dskE S T else if wrE fs≠0 then wrE fs else if Co (rF (S++T)) fs≠0 then Co (rF (S++T)) fs else if 40000<S.length+T.length+(8+(wrL fs).length)then 11 else 0
noncomputable def addS (S T:List Nat)(fs:List Fl):List Nat:=if addE S T fs=0 then S else []
noncomputable def addW (S T:List Nat)(fs:List Fl):List Nat:=if addE S T fs=0 then T++Hh (wrL fs)else []
theorem Z3z {S T:List Nat}{fs:List Fl}(h:dskE S T≠0):addE S T fs=dskE S T:=by unfold addE;rw[if_pos h]
theorem Zbb {S T:List Nat}{fs:List Fl}(h:dskE S T=0)(h1:wrE fs≠0):addE S T fs=wrE fs:=by unfold addE;rw[if_neg (by simp[h]),if_pos h1]
theorem Zt {S T:List Nat}{fs:List Fl}(h:dskE S T=0)(h1:wrE fs=0)(h2:Co (rF (S++T)) fs≠0):addE S T fs=Co (rF (S++T)) fs:=by unfold addE;rw[if_neg (by simp[h]),if_neg (by simp[h1]),if_pos h2]
theorem Zs {S T:List Nat}{fs:List Fl}(h:dskE S T=0)(h1:wrE fs=0)(h2:Co (rF (S++T)) fs=0)(h3:40000<S.length+T.length+(8+(wrL fs).length)):addE S T fs=11:=by unfold addE;rw[if_neg (by simp[h]),if_neg (by simp[h1]),if_neg (by simp[h2]),if_pos h3]
theorem Z1p {S T:List Nat}{fs:List Fl}(h:dskE S T=0)(h1:wrE fs=0)(h2:Co (rF (S++T)) fs=0)(h3:¬40000<S.length+T.length+(8+(wrL fs).length)):addE S T fs=0:=by unfold addE;rw[if_neg (by simp[h]),if_neg (by simp[h1]),if_neg (by simp[h2]),if_neg h3]
theorem Kv {S T:List Nat}{fs:List Fl}(h:addE S T fs=0):dskE S T=0/\wrE fs=0/\Co (rF (S++T)) fs=0/\S.length+T.length+(8+(wrL fs).length)<=40000/\addS S T fs=S/\addW S T fs=T++Hh (wrL fs):=by
 have h0:=h
 by_cases c1:dskE S T=0
 . by_cases c2:wrE fs=0
   . by_cases c3:Co (rF (S++T)) fs=0
     . by_cases c4:40000<S.length+T.length+(8+(wrL fs).length)
       . rw[Zs c1 c2 c3 c4]at h;cases h
       . exact⟨c1,c2,c3,by omega,by unfold addS;rw[if_pos h0],by unfold addW;rw[if_pos h0]⟩
     . rw[Zt c1 c2 c3]at h;exact absurd h c3
   . rw[Zbb c1 c2]at h;exact absurd h c2
 . rw[Z3z c1]at h;exact absurd h c1
theorem Ku {S T:List Nat}{fs:List Fl}(h:addE S T fs≠0):addS S T fs= []/\addW S T fs= []:=⟨by unfold addS;rw[if_neg h],by unfold addW;rw[if_neg h]⟩
theorem Zr {S T:List Nat}{fs:List Fl}(h:addE S T fs=0)(hw:Wr fs (wrL fs)):Fe (S++(T++Hh (wrL fs))) (Gl (rF (S++T)) fs)/\dskE S (T++Hh (wrL fs))=0:=by
 obtain⟨h1,h2,h3,h4,_⟩:=Kv h;obtain⟨k1,k2,k3⟩:=Z5u h1;obtain⟨w1,w2,w3,w4,w5⟩:=hw
 have h5:Fe (S++(T++Hh (wrL fs))) (Gl (rF (S++T)) fs):=by
  have:=Recs.snoc k3 w1 w2 (by rw[w3];exact h3)
  rw[w3,List.append_assoc]at this;exact this
 exact⟨h5,Pp (by rw[List.length_append,Ef];omega) k2 h5⟩
theorem Z3t {a:List Fl}(h:Em a=0):Co [] a=0/\Gl [] a=a/\Co a []=0/\Gl a []=a:=by
 have hl:=Um h;have h1:Co [] a=0:=Lt.2 ⟨Z3j,h,by rw[Nu];exact hl⟩;have h2:Co a []=0:=Lt.2 ⟨h,Z3j,by rw[Td];exact hl⟩;exact⟨h1,by rw[Uz h1,Nu],h2,by rw[Uz h2,Td]⟩
end Go.Proofs.YtcjbgpacnkilnaiGreatDoor
