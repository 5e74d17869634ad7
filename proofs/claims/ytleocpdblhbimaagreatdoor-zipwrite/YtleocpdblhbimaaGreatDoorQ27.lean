import Derived.Test.YtleocpdblhbimaaGreatDoorQ26
import Derived.Laws.EntriesVeiled
import Derived.Laws.Tables
import Derived.Laws.Rows
import Derived.Laws.ResultCell
import Derived.Laws.CopyRow
import Derived.Deep.RegionHeld3
import Derived.Deep.WholeRow
import Derived.Deep.DeepCutAuto
set_option linter.unusedSimpArgs false
set_option maxHeartbeats 2000000
namespace Go.Proofs.YtleocpdblhbimaaGreatDoor
open Go.RowKit
set_option linter.unusedVariables false
set_option maxRecDepth 100000
theorem Sd (b o rb len cap:Nat)(l:List Int)(w:World)(hl:l.length=len)(hlen:1<=len)(hb:b<w.heap.size)(hR:Row .i64 w b o l)(hG:Good l):
 Calls Tryz.prog 210 #[.pointer (some ⟨rb,0,none⟩),.slice (some ⟨b,o,none⟩) len cap] w fun e w'=>∃gc gl gr,e=.returned (CV gc gl gr)/\CIs (fun g=>w.heap.size<=g\/g=b) w' gc gl gr rb (some ⟨b,o,none⟩) len cap l/\Below w.heap.size w w':=by
 have HR:=Ab hR;have HG:=Ab hG;have HL:=Ab hl;clear hR hG hl;go_enter Tryz.func210,Tryz.ntmps210
 go_wp2_with fail
 refine(SC (some ⟨b,o,none⟩) len cap l _ (Aa HL) (RowIn.alloc (RowIn.alloc (.inr ⟨b,o,rfl,hb,Aa HR⟩) _) _) (Aa HG)).mono ?_;rintro e w1 ⟨g,rfl,hO,hB,hg⟩;have hz:=hB.size;simp only[World.size_alloc]at hz hg
 have HF:Hid (CIs (fun g=>w.heap.size<=g\/g=b) (w1.alloc (.cells #[.slice (some ⟨g,0,none⟩) len len] 76)) w1.heap.size (w.heap.size+1) w.heap.size rb (some ⟨b,o,none⟩) len cap l/\Below w.heap.size w (w1.alloc (.cells #[.slice (some ⟨g,0,none⟩) len len] 76))):=by
  have b0:=(Below.refl w.heap.size w).alloc (VC _) (.cells #[.pointer (some ⟨rb,0,none⟩)] 177);have b1:=b0.alloc (by simp) (.cells #[.slice (some ⟨b,o,none⟩) len cap] 76);have b2:=b1.trans (hB.mono (by simp;omega));have b3:=b2.alloc (by omega) (.cells #[.slice (some ⟨g,0,none⟩) len len] 76);have hgl:=(hO.lt g rfl).2;refine⟨⟨⟨g,b,o,rfl,⟨by simp;omega,.inr rfl⟩,⟨by simp;omega,.inl (by omega)⟩,by simp,fun j hj=>(b3.cell (p:=⟨b,_,none⟩) hb).trans (Aa HR j hj), ?_⟩, ?_, ?_,⟨by simp,.inl (by omega)⟩,⟨by simp;omega,.inl (by omega)⟩,⟨by simp;omega,.inl (by omega)⟩⟩,b3⟩
  . intro j hj;rw[World.cell?_alloc_past _ _ _ (by simpa using hgl)];rw[hO.cellAt j (by omega)];have hc:=Ed l len;have hcl:j<(Td l len).length:=by rw[hc,Aa HL];exact hj
    have:=Q7 l (j:=j) (by rw[Aa HL];exact hj) len
    rw[if_pos hj]at this;rw[<-this];simp[i64s,List.getD,hcl]
  . rw[World.cell?_alloc_past _ _ _ (by show w.heap.size+1<_;omega),hB.cell (p:=⟨w.heap.size+1,0,none⟩) (by simp only[World.size_alloc];omega)];simp
  . rw[World.cell?_alloc_past _ _ _ (by show w.heap.size<_;omega),hB.cell (p:=⟨w.heap.size,0,none⟩) (by simp only[World.size_alloc];omega)];simp
 clear hO hB hg;go_wp2;go_ret;exact⟨_,_,_,rfl,Aa HF⟩
theorem Ug (b1 o1 n1 c1 b2 o2 n2 c2 rb:Nat)(l1 l2:List Int)(w:World)(hl1:l1.length=n1)(hl2:l2.length=n2)(hn1:1<=n1)(hn2:1<=n2)(hb1:b1<w.heap.size)(hb2:b2<w.heap.size)(hR1:Row .i64 w b1 o1 l1)(hR2:Row .i64 w b2 o2 l2)(hG1:Good l1)(hG2:Good l2):
 Calls Tryz.prog 182 #[.pointer (some ⟨rb,0,none⟩),.slice (some ⟨b1,o1,none⟩) n1 c1,.slice (some ⟨b2,o2,none⟩) n2 c2] w fun e w'=>∃gc gl gr hc hl hr,e=.returned (.agg #[CV gc gl gr,CV hc hl hr,.func (.func 147) #[.pointer (some ⟨rb,0,none⟩)] #[]])/\CIs (fun g=>w.heap.size<=g\/g=b1\/g=b2) w' gc gl gr rb (some ⟨b1,o1,none⟩) n1 c1 l1/\CIs (fun g=>w.heap.size<=g\/g=b1\/g=b2) w' hc hl hr rb (some ⟨b2,o2,none⟩) n2 c2 l2/\Below w.heap.size w w':=by
 obtain⟨wz,hwz⟩:∃wz,wz=w.heap.size:=⟨_,rfl⟩
 have H1:=Ab (fun(W:World) (hB:Below w.heap.size w W)=>Sd b1 o1 rb n1 c1 l1 W hl1 hn1 (VG hb1 hB.size) (fun j hj=>(hB.cell (p:=⟨b1,_,none⟩) hb1).trans (hR1 j hj)) hG1);have H2:=Ab (fun(W:World) (hB:Below w.heap.size w W)=>Sd b2 o2 rb n2 c2 l2 W hl2 hn2 (VG hb2 hB.size) (fun j hj=>(hB.cell (p:=⟨b2,_,none⟩) hb2).trans (hR2 j hj)) hG2);clear hR1 hR2 hG1 hG2;go_enter Tryz.func182,Tryz.ntmps182
 go_wp2_with fail
 refine(Aa H1 _ ((Below.refl w.heap.size w).alloc (VC _) _)).mono ?_;rintro e w1 ⟨gc,gl,gr,rfl,hC1,hB1⟩;have hz1:=hB1.size;simp only[World.size_alloc]at hz1;have hBw1:Below w.heap.size w w1:=((Below.refl w.heap.size w).alloc (VC _) _).trans (hB1.mono (by simp));have HC1:=Ab hC1;have HB1:=Ab hB1;have HBw:=Ab hBw1;clear hC1 hB1 hBw1;go_wp2_with fail
 refine(Aa H2 _ (Aa HBw)).mono ?_;rintro e w2 ⟨hc,hl,hr,rfl,hC2,hB2⟩;have hz2:=hB2.size
 have hblk:w2.heap[w.heap.size]? =some (.cells #[.nilFunc,.nilFunc,.nilFunc] 253 (0,0)):=by
  rw[hB2.block _ (by omega),(Aa HB1).block _ (by simp)];exact heap_alloc_new _ _
 have f0:=frozen_of_row w2 w.heap.size 0 _ _ hblk;have f1:=frozen_of_row w2 w.heap.size 1 _ _ hblk;have f2:=frozen_of_row w2 w.heap.size 2 _ _ hblk;have c0:w2.cell? ⟨w.heap.size,0,none⟩=some .nilFunc:=Ac hblk;have c1':w2.cell? ⟨w.heap.size,1,none⟩=some .nilFunc:=Ac hblk;have c2':w2.cell? ⟨w.heap.size,2,none⟩=some .nilFunc:=Ac hblk;have HBLK:=Ab hblk;have HC2:=Ab hC2;have HB2:=Ab hB2
 have HFIN:Hid (∀v3,(((w2.setCell ⟨w.heap.size,0,none⟩ (CV gc gl gr)).setCell ⟨w.heap.size,1,none⟩ (CV hc hl hr)).setCell ⟨w.heap.size,2,none⟩ v3).heap[w.heap.size]? =some (.cells #[CV gc gl gr,CV hc hl hr,v3] 253 (0,0))/\CIs (fun g=>w.heap.size<=g\/g=b1\/g=b2) (((w2.setCell ⟨w.heap.size,0,none⟩ (CV gc gl gr)).setCell ⟨w.heap.size,1,none⟩ (CV hc hl hr)).setCell ⟨w.heap.size,2,none⟩ v3) gc gl gr rb (some ⟨b1,o1,none⟩) n1 c1 l1/\CIs (fun g=>w.heap.size<=g\/g=b1\/g=b2) (((w2.setCell ⟨w.heap.size,0,none⟩ (CV gc gl gr)).setCell ⟨w.heap.size,1,none⟩ (CV hc hl hr)).setCell ⟨w.heap.size,2,none⟩ v3) hc hl hr rb (some ⟨b2,o2,none⟩) n2 c2 l2/\Below w.heap.size w (((w2.setCell ⟨w.heap.size,0,none⟩ (CV gc gl gr)).setCell ⟨w.heap.size,1,none⟩ (CV hc hl hr)).setCell ⟨w.heap.size,2,none⟩ v3)):=by
  intro v3;have g1:=Ad w2 w.heap.size 0 (CV gc gl gr);have g2:=Ad (w2.setCell ⟨w.heap.size,0,none⟩ (CV gc gl gr)) w.heap.size 1 (CV hc hl hr);have g3:=Ad ((w2.setCell ⟨w.heap.size,0,none⟩ (CV gc gl gr)).setCell ⟨w.heap.size,1,none⟩ (CV hc hl hr)) w.heap.size 2 v3;have gg:=Ak (Ak g1 g2) g3;have bw2:Below w.heap.size w w2:=(Aa HBw).trans (hB2.mono (by omega));refine⟨?_, ?_, ?_,bw2.grown gg (by omega) (fun j e=>by rw[<-VQ e];exact VC _)⟩
  . rw[heap_setCell_same _ _ 2 _ _ _ (heap_setCell_same _ _ 1 _ _ _ (heap_setCell_same _ _ 0 _ _ _ hblk))];rfl
  . have k1:=(Aa HC1).keep (W':=w2) hz2 (fun g hg _=>hB2.block g hg)
    have k2:=k1.keep (W':=((w2.setCell ⟨w.heap.size,0,none⟩ (CV gc gl gr)).setCell ⟨w.heap.size,1,none⟩ (CV hc hl hr)).setCell ⟨w.heap.size,2,none⟩ v3) gg.size (fun g hg hb=>gg.block g hg (fun e=>by
     have e:=VQ e;simp only[World.size_alloc]at hb;omega))
    exact k2.more (fun g hb=>by simp only[World.size_alloc]at hb;omega)
  . have k2:=hC2.keep (W':=((w2.setCell ⟨w.heap.size,0,none⟩ (CV gc gl gr)).setCell ⟨w.heap.size,1,none⟩ (CV hc hl hr)).setCell ⟨w.heap.size,2,none⟩ v3) gg.size (fun g hg hb=>gg.block g hg (fun e=>by
     have e:=VQ e;omega))
    exact k2.more (fun g hb=>by omega)
 clear hC2 hB2 hblk;go_wp2;obtain⟨z1,z2,z3,z4⟩:=Aa HFIN (.func (.func 147) #[.pointer (some ⟨rb,0,none⟩)] #[]);refine bodyPost_ret (v:=.agg #[CV gc gl gr,CV hc hl hr,.func (.func 147) #[.pointer (some ⟨rb,0,none⟩)] #[]]) ?_ rfl ⟨gc,gl,gr,hc,hl,hr,rfl,z2,z3,z4⟩;exact results_cell_row rfl _ _ _ _ _ _ _ rfl z1 Tryz.underlying253 rfl (by kernel_rfl)
structure PJ (Bx:Nat->Prop)(B rb:Nat)(S:List Bool)(l1 l2:List Int)(gc gl gr hc hl hr b1 o1 n1 c1 b2 o2 n2 c2:Nat)(No:Nat->Prop)(is:List It)(W:World):Prop where
 row:RIs (fun g=>No g\/Bx g) B W rb (S++putIs l1 l2 is)
 ca:CIs Bx W gc gl gr rb (some ⟨b1,o1,none⟩) n1 c1 l1
 cb:CIs Bx W hc hl hr rb (some ⟨b2,o2,none⟩) n2 c2 l2
 bl:∀g,Bx g->g<W.heap.size
theorem CIs.bound {Bx:Nat->Prop}{W:World}{gc gl gr rb:Nat}{a:Option Addr}{len cap:Nat}{l:List Int}(h:CIs Bx W gc gl gr rb a len cap l):CIs (fun g=>Bx g/\g<W.heap.size) W gc gl gr rb a len cap l:=by
 obtain⟨gk,b,o,h1,h2,h3,h4,h5,h6⟩:=h.ex;exact⟨⟨gk,b,o,h1,⟨h2.1,h2.2,h2.1⟩,⟨h3.1,h3.2,h3.1⟩,h4,h5,h6⟩,h.bl,h.br,⟨h.bx.1.1,h.bx.1.2,h.bx.1.1⟩,⟨h.bx.2.1.1,h.bx.2.1.2,h.bx.2.1.1⟩,⟨h.bx.2.2.1,h.bx.2.2.2,h.bx.2.2.1⟩⟩
theorem Ni {f:Nat}{fn:Func}{c:Code}(hf:Tryz.prog.funcs[f]? =some fn)(hname:(fn.name== "runtime.NumGoroutine")=false)(hb:fn.body=some c):∀(args:Array Value) (w:World),(callFunc f args).run Tryz.prog w=.ok (.enter f args) w:=enters_of hf hname hb
theorem E9 (l:List Int)(hG:Good l)(q:Nat)(hq:q<l.length):(codeT l q).length<=15:=by rw[Ff l hG];have:=hG.ok q hq;omega
theorem Lh (l1 l2:List Int)(hG1:Good l1)(hG2:Good l2):∀is:List It,Has l1 l2 is->(∀i∈is,VI i)->(putIs l1 l2 is).length<=15*is.length
 | [],_,_=>by simp[putIs]
 |i::is,h,hv=>by
  have ih:=Lh l1 l2 hG1 hG2 is (Has.app (x:= [i]) (y:=is) h).2 (fun j hj=>hv j (by simp[hj]));have e:putIs l1 l2 (i::is)=IM l1 l2 i++putIs l1 l2 is:=by simp[putIs]
  rw[e,VB,VJ]
  have:(IM l1 l2 i).length<=15:=by
   cases i with
   |sym k=>exact E9 l1 hG1 k (h.1 k (by simp)).1
   |far k=>exact E9 l2 hG2 k (h.2 k (by simp)).1
   |rest n s=>
    have:=(hv _ (by simp:It.rest n s∈_)).2
    show (Ah n s).length<=15
    rw[Ae];omega
  omega
theorem Z11 (Bx:Nat->Prop)(B rb:Nat)(S:List Bool)(l1 l2:List Int)(gc gl gr hc hl hr b1 o1 n1 c1 b2 o2 n2 c2:Nat)(all:List It)(hl1:l1.length=n1)(hl2:l2.length=n2)(hG1:Good l1)(hG2:Good l2)(hall:Has l1 l2 all)(hvi:∀i∈all,VI i)(hS:S.length+15*all.length<=300000):
 Snk (PJ Bx B rb S l1 l2 gc gl gr hc hl hr b1 o1 n1 c1 b2 o2 n2 c2) B 236 236 147 #[.pointer (some ⟨gc,0,none⟩),.pointer (some ⟨gl,0,none⟩),.pointer (some ⟨gr,0,none⟩)] #[.pointer (some ⟨hc,0,none⟩),.pointer (some ⟨hl,0,none⟩),.pointer (some ⟨hr,0,none⟩)] #[.pointer (some ⟨rb,0,none⟩)] all:=by
 have step:∀ {No:Nat->Prop} {is R:List It} {i:It} {W W':World},is++i::R=all->PJ Bx B rb S l1 l2 gc gl gr hc hl hr b1 o1 n1 c1 b2 o2 n2 c2 No is W->Rp (fun g=>No g\/Bx g) B W rb (S++putIs l1 l2 is++IM l1 l2 i) W'->PJ Bx B rb S l1 l2 gc gl gr hc hl hr b1 o1 n1 c1 b2 o2 n2 c2 No (is++ [i]) W'/\Below B W W'/\Kp No W W':=by
  intro No is R i W W' he hJ hR;refine⟨⟨?_, ?_, ?_,fun g h=>VG (hJ.bl g h) hR.below.size⟩,hR.below,hR.kp.weaken (fun g h=>.inl h)⟩
  . have e:putIs l1 l2 (is++ [i])=putIs l1 l2 is++IM l1 l2 i:=by rw[Qn];simp[putIs]
    rw[e,<-VH];exact hR.is
  . exact hJ.ca.keep hR.below.size (fun g hg hb=>hR.kp g hg (.inr hb))
  . exact hJ.cb.keep hR.below.size (fun g hg hb=>hR.kp g hg (.inr hb))
 have hlen:∀ {is R:List It} {i:It},is++i::R=all->(S++putIs l1 l2 is).length<=300000:=by
  intro is R i he;have h1:Has l1 l2 is:=by rw[<-he]at hall;exact hall.app.1
  have h2:∀j∈is,VI j:=fun j hj=>hvi j (by rw[<-he];simp[hj])
  have h3:=Lh l1 l2 hG1 hG2 is h1 h2;have h4:=congrArg List.length he;rw[VB,VJ]at h4;rw[VB];omega
 refine⟨Ni Tryz.func236 (by kernel_rfl) rfl,Ni Tryz.func236 (by kernel_rfl) rfl,Ni Tryz.func147 (by kernel_rfl) rfl, ?_, ?_, ?_, ?_⟩
 . intro No No' is W W1 hJ hB hn;refine⟨hJ.row.grow hB (fun g e=> ?_),hJ.ca.keep hB.size (fun g hg _=>hB.block g hg),hJ.cb.keep hB.size (fun g hg _=>hB.block g hg),fun g h=>VG (hJ.bl g h) hB.size⟩
   rcases e with e|e
   . rcases hn g e with h|h
     . exact .inl (.inl h)
     . exact .inr h
   . exact .inl (.inr e)
 . intro No is R k W he hJ hNo;have hk:=hall.1 k (by rw[<-he];simp);have:=Wz Bx (fun g=>No g\/Bx g) B gc gl gr rb (some ⟨b1,o1,none⟩) n1 c1 l1 k (S++putIs l1 l2 is) W hJ.ca hl1 hG1 (by omega) hk.2 hJ.row (hlen he) (fun g hg e=> ?_)
   . refine this.mono ?_;rintro e W' ⟨rfl,hR⟩;exact⟨rfl,step he hJ hR⟩
   . rcases e with e|e
     . exact hNo g hg e
     . have:=hJ.bl g e;omega
 . intro No is R k W he hJ hNo;have hk:=hall.2 k (by rw[<-he];simp);have:=Wz Bx (fun g=>No g\/Bx g) B hc hl hr rb (some ⟨b2,o2,none⟩) n2 c2 l2 k (S++putIs l1 l2 is) W hJ.cb hl2 hG2 (by omega) hk.2 hJ.row (hlen he) (fun g hg e=> ?_)
   . refine this.mono ?_;rintro e W' ⟨rfl,hR⟩;exact⟨rfl,step he hJ hR⟩
   . rcases e with e|e
     . exact hNo g hg e
     . have:=hJ.bl g e;omega
 . intro No is R n s W he hJ hNo;have hv:=hvi (.rest n s) (by rw[<-he];simp);have hs:s<=10:=hv.2;have hp:2^s<=2^10:=VU (by decide) hs;have hn:n<65536:=VG (VG hv.1 hp) (by decide);refine(Dd (fun g=>No g\/Bx g) B rb n s (S++putIs l1 l2 is) W hJ.row hn (by omega) (hlen he) (fun g hg e=> ?_)).mono ?_
   . rcases e with e|e
     . exact hNo g hg e
     . have:=hJ.bl g e;omega
   . rintro e W' ⟨rfl,hR⟩;exact⟨rfl,step he hJ hR⟩
def ARow (T:TypeId)(w:World)(g:Nat)(xs:List Int):Prop:=w.heap[g]? =some (.cells (iv xs).toArray T (0,0))
theorem ARow.lt {T:TypeId}{w:World}{g:Nat}{xs:List Int}(h:ARow T w g xs):g<w.heap.size:=(VL.1 h).1
theorem Z4w (xs:List Int)(j:Nat)(hj:j<xs.length):(iv xs).toArray[j]? =some (.int .i64 (xs.getD j 0)):=by simp[iv,List.getD,hj]
theorem ARow.cell {T:TypeId}{w:World}{g:Nat}{xs:List Int}(h:ARow T w g xs)(j:Nat)(hj:j<xs.length):w.cell? ⟨g,j,none⟩=some (.int .i64 (xs.getD j 0)):=(Ac h).trans (Z4w xs j hj)
theorem ARow.frozen {T:TypeId}{w:World}{g:Nat}{xs:List Int}(h:ARow T w g xs)(j:Nat):w.frozen? ⟨g,j,none⟩=false:=frozen_of_row w g j _ _ h
theorem ARow.row {T:TypeId}{w:World}{g:Nat}{xs:List Int}(h:ARow T w g xs):Row .i64 w g 0 xs:=fun j hj=>by rw[WI];exact h.cell j hj
theorem ARow.keep {T:TypeId}{w w':World}{g:Nat}{xs:List Int}(h:ARow T w g xs)(hk:w'.heap[g]? =w.heap[g]?):ARow T w' g xs:=hk.trans h
theorem ARow.set {T:TypeId}{w:World}{g:Nat}{xs:List Int}(h:ARow T w g xs)(i:Nat)(v:Int):ARow T (w.setCell ⟨g,i,none⟩ (.int .i64 v)) g (xs.set i v):=by
 unfold ARow;rw[heap_setCell_same w g i _ _ _ h];simp[iv,List.map_set]
theorem Lf {fn:Func}{p u:Tmp}{ty tz:TypeId}(h:fn.results= #[.cell p ty,.cell u tz])(tmps:Array Value)(w:World)(g1 g2:Nat)(v1 v2:Value)
 (hp:tmps.getD p undef=.pointer (some ⟨g1,0,none⟩)) (hu:tmps.getD u undef=.pointer (some ⟨g2,0,none⟩)) (h1:(loadVar ty ⟨g1,0,none⟩).run Tryz.prog w=.ok v1 w) (h2:(loadVar tz ⟨g2,0,none⟩).run Tryz.prog w=.ok v2 w):
 (results fn tmps).run Tryz.prog w=.ok (.tuple #[v1,v2]) w:=by
 have hp':tmps[p]?.getD undef=.pointer (some ⟨g1,0,none⟩):=by simpa using hp
 have hu':tmps[u]?.getD undef=.pointer (some ⟨g2,0,none⟩):=by simpa using hu
 simp[results,h,hp',hu',asAddr,h1,h2]
theorem ARow.range {T:TypeId}{w:World}{g:Nat}{xs:List Int}(h:ARow T w g xs):w.rangeAt g 0 (iv xs):=fun j v hv=>by
 rw[WI];exact(Ac h).trans (by simpa using hv)
theorem Eb (xs:List Int):(iv xs).toArray.all (·.oneCell')=true:=by
 simp[iv]
 intro x hx;rfl
theorem Dt {ops:Array Oper}{o:Oper}{a:Act}{W:World}{K:Act->World->Prop}{Q:Exit->Act->World->Prop}{E:Prop}(hgd:o.guard=none)(T:TypeId)(x y:Operand)(ho:o.op=.store T x y)
 (g:Nat) (xs:List Int) (hx:a.eval x=.pointer (some ⟨g,0,none⟩)) (hy:a.eval y=.agg (iv xs).toArray) (hA:ARow T W g xs) (hi:(Tryz.prog.info? T).map (·.size)=some (iv xs).toArray.size) (h:K (a.put o.dst undef) W):if Region.wanted o (yielded ops a.tmps)=true then Oper.wp Tryz.prog o a W K Q else E:=by
 have e:Region.wanted o (yielded ops a.tmps)=true:=by unfold Region.wanted;rw[hgd]
 rw[if_pos e];refine wp_store_row T x y ho g _ hx hy T _ hA hi rfl (Eb xs) ?_;rw[setRow_self W g _ T (0,0) hA];exact h
theorem ARow.load {T:TypeId}{w:World}{g:Nat}{xs:List Int}(h:ARow T w g xs){d:TypeDesc}(hu:Tryz.prog.underlying T=some d)(hd:(match d with| .struct _| .array _ _=>true|_=>false)=true)(hi:(Tryz.prog.info? T).map (·.size)=some (iv xs).toArray.size):(loadVar T ⟨g,0,none⟩).run Tryz.prog w=.ok (.agg (iv xs).toArray) w:=
 run_loadVar_row w g T T _ (0,0) d h hu (by cases d<;>first|rfl|exact hd) hi
theorem Wb (l:List Int)(k:Nat)(hk:k<l.length):(l.take k++List.replicate (l.length-k) 0).set k (l.getD k 0)=l.take (k+1)++List.replicate (l.length-(k+1)) 0:=by
 have h1:(l.take k).length=k:=by simp;omega
 rw[List.set_append_right _ _ (by omega),h1,XM];obtain⟨q,hq⟩:∃q,l.length-k=q+1:=⟨l.length-k-1,by omega⟩
 have e:l.take (k+1)=l.take k++ [l.getD k 0]:=by rw[ZA];simp[List.getD,hk]
 rw[hq,List.replicate_succ,VD,e,show l.length-(k+1)=q by omega];simp
theorem Z25:(List.range 288).all (fun k=>Mb.getD k 0==(if k<144 then 8 else if k<256 then 9 else if k<280 then 7 else 8))=true:=by decide+kernel
theorem LQ {k:Nat}(h:k<288):Mb.getD k 0=if k<144 then 8 else if k<256 then 9 else if k<280 then 7 else 8:=by
 have:=WT.1 Z25 k (by simpa using h)
 simpa using this
theorem Z23:(List.range 32).all (fun k=>Ja.getD k 0==5)=true:=by decide+kernel
theorem P7 {k:Nat}(h:k<32):Ja.getD k 0=5:=by
 have:=WT.1 Z23 k (by simpa using h)
 simpa using this
theorem Rl:Good Mb:=Cn (by decide+kernel)
theorem Rk:Good Ja:=Cn (by decide+kernel)
theorem Pj:Mb.length=288:=by decide+kernel
theorem Ge:Ja.length=32:=by decide
theorem O5:(Tryz.prog.info? 247).map (·.size)=some 288:=by kernel_rfl
theorem KO:(Tryz.prog.info? 248).map (·.size)=some 32:=by kernel_rfl
theorem LM (w:World):Calls Tryz.prog 180 #[] w fun e w'=>e=.returned (.tuple #[.agg (iv Mb).toArray,.agg (iv Ja).toArray])/\Below w.heap.size w w':=by
 have hB0:Below w.heap.size w ((w.alloc (.cells (iv (List.replicate 288 0)).toArray 247)).alloc (.cells (iv (List.replicate 32 0)).toArray 248)):=((Below.refl w.heap.size w).alloc (VC _) _).alloc (by simp) _;have HB0:=Ab hB0;obtain⟨FA,hFA⟩:∃FA,Mb=FA:=⟨_,rfl⟩
 have hlA:=Pj;have hA:= @LQ;rw[hFA]at hlA;simp only[hFA]at hA;have HFA:=Ab hFA;clear hB0 hFA;go_enter Tryz.func180,Tryz.ntmps180
 go_wp2;go_loopw [4] (fun i wr=>∃k:Nat,k<=288/\i=.int .i64 (k:Int)/\Hid (ARow 247 wr w.heap.size (FA.take k++List.replicate (FA.length-k) 0)/\ARow 248 wr (w.heap.size+1) (List.replicate 32 0)/\Below w.heap.size w wr)) (fun i _=>288-(intOf i).toNat)
 case atStart=>
  refine⟨0,by decide,rfl,Ab ⟨?_, ?_,Aa HB0⟩⟩
  . rw[hlA];exact(Below.heap_alloc _ _ _ (by simp)).trans ((heap_alloc_new _ _).trans (by kernel_rfl))
  . have e:w.heap.size+1=(w.alloc (.cells (iv (List.replicate 288 0)).toArray 247)).heap.size:=by simp
    rw[e];exact(heap_alloc_new _ _).trans (by kernel_rfl)
 case round=>
  obtain⟨k,hk,rfl,hst⟩:=hrel
  by_cases hlt:k<288
  . obtain⟨s1,s2,s3⟩:=Aa hst;have hl1:(FA.take k++List.replicate (FA.length-k) 0).length=288:=by simp;omega
    have c:=s1.cell k (by omega);have f:=s1.frozen k;have HV:=hA hlt
    have HST:Hid (∀v:Int,v=FA.getD k 0->ARow 247 (wr.setCell ⟨w.heap.size,k,none⟩ (.int .i64 v)) w.heap.size (FA.take (k+1)++List.replicate (FA.length-(k+1)) 0)/\ARow 248 (wr.setCell ⟨w.heap.size,k,none⟩ (.int .i64 v)) (w.heap.size+1) (List.replicate 32 0)/\Below w.heap.size w (wr.setCell ⟨w.heap.size,k,none⟩ (.int .i64 v))):=by
     intro v hv;have hgr:=Ad wr w.heap.size k (.int .i64 v);refine⟨?_,s2.keep (hgr.block _ s2.lt (fun e=>by have:=VQ e;omega)),s3.grown hgr s3.size (fun j e=>by rw[<-VQ e];exact VC _)⟩;have:=s1.set k v
     rw[hv,Wb FA k (by omega)]at this;rw[hv];exact this
    have hkI:(k:Int)<288:=by omega
    clear hst s1 s2 s3 hl1 hA;generalize (FA.take k++List.replicate (FA.length-k) 0).getD k 0=old at c
    by_cases h1:k<144
    . rw[if_pos h1]at HV;have h1I:(k:Int)<144:=by omega
      have HF:=Ab (Aa HST 8 HV.symm);clear HST HV;go_wp2;go_roundw
      case rel=>exact⟨k+1,by omega,by go_num,HF⟩
      case measure=>simp[intOf];omega
    . rw[if_neg h1]at HV;have h1I:¬(k:Int)<144:=by omega
      by_cases h2:k<256
      . rw[if_pos h2]at HV;have h2I:(k:Int)<256:=by omega
        have HF:=Ab (Aa HST 9 HV.symm);clear HST HV;go_wp2;go_roundw
        case rel=>exact⟨k+1,by omega,by go_num,HF⟩
        case measure=>simp[intOf];omega
      . rw[if_neg h2]at HV;have h2I:¬(k:Int)<256:=by omega
        by_cases h3:k<280
        . rw[if_pos h3]at HV;have h3I:(k:Int)<280:=by omega
          have HF:=Ab (Aa HST 7 HV.symm);clear HST HV;go_wp2;go_roundw
          case rel=>exact⟨k+1,by omega,by go_num,HF⟩
          case measure=>simp[intOf];omega
        . rw[if_neg h3]at HV;have h3I:¬(k:Int)<280:=by omega
          have HF:=Ab (Aa HST 8 HV.symm);clear HST HV;go_wp2;go_roundw
          case rel=>exact⟨k+1,by omega,by go_num,HF⟩
          case measure=>simp[intOf];omega
  . obtain rfl:k=288:=by omega
    have HS:Hid (ARow 247 wr w.heap.size FA/\ARow 248 wr (w.heap.size+1) (List.replicate 32 0)/\Below w.heap.size w wr):=by
     have:=Aa hst
     rw[VP (by omega),hlA,XM,List.replicate_zero,WZ]at this;exact Ab this
    clear hst hA;generalize wr=wl at*;go_wp2;go_loopw [25] (fun i wr=>∃k:Nat,k<=32/\i=.int .i64 (k:Int)/\Hid (ARow 247 wr w.heap.size FA/\ARow 248 wr (w.heap.size+1) (Ja.take k++List.replicate (Ja.length-k) 0)/\Below w.heap.size w wr)) (fun i _=>32-(intOf i).toNat)
    case atStart=>exact⟨0,by decide,rfl,HS⟩
    case round=>
     obtain⟨k,hk,rfl,hst⟩:=hrel
     by_cases hlt:k<32
     . obtain⟨s1,s2,s3⟩:=Aa hst;have hl1:(Ja.take k++List.replicate (Ja.length-k) 0).length=32:=by simp[Ge];omega
       have c:=s2.cell k (by omega);have f:=s2.frozen k
       have HF:Hid (ARow 247 (wr.setCell ⟨w.heap.size+1,k,none⟩ (.int .i64 5)) w.heap.size FA/\ARow 248 (wr.setCell ⟨w.heap.size+1,k,none⟩ (.int .i64 5)) (w.heap.size+1) (Ja.take (k+1)++List.replicate (Ja.length-(k+1)) 0)/\Below w.heap.size w (wr.setCell ⟨w.heap.size+1,k,none⟩ (.int .i64 5))):=by
        have hgr:=Ad wr (w.heap.size+1) k (.int .i64 5);refine⟨s1.keep (hgr.block _ s1.lt (fun e=>by have:=VQ e;omega)), ?_,s3.grown hgr s3.size (fun j e=>by rw[<-VQ e];omega)⟩;have:=s2.set k 5
        rw[<-P7 hlt,Wb Ja k (by rw[Ge];exact hlt)]at this;rw[<-P7 hlt];exact this
       have hkI:(k:Int)<32:=by omega
       clear hst s1 s2 s3 hl1;generalize (Ja.take k++List.replicate (Ja.length-k) 0).getD k 0=old at c;go_wp2;go_roundw
       case rel=>exact⟨k+1,by omega,by go_num,HF⟩
       case measure=>simp[intOf];omega
     . obtain rfl:k=32:=by omega
       have hs0:=Aa hst;rw[VP (by rw[Ge];omega),Ge,XM]at hs0;simp only[List.replicate_zero,WZ]at hs0;obtain⟨hs,hf,hBw⟩:=hs0;have HB:=Ab hBw;clear hst HS hBw;have hlB:=Ge;obtain⟨ys,hys⟩:∃ys,Ja=ys:=⟨_,rfl⟩
       rw[hys]at hf hlB;have HYS:=Ab hys;clear hys;have hi1:(Tryz.prog.info? 247).map (·.size)=some (iv FA).length:=by rw[O5];simp[hlA]
       have hi2:(Tryz.prog.info? 248).map (·.size)=some (iv ys).length:=by rw[KO];simp[hlB]
       have hi1':(Tryz.prog.info? 247).map (·.size)=some (iv FA).toArray.size:=by rw[O5];simp[hlA]
       have hi2':(Tryz.prog.info? 248).map (·.size)=some (iv ys).toArray.size:=by rw[KO];simp[hlB]
       have hu1:=Tryz.underlying247;have hu2:=Tryz.underlying248;go_wp2;refine wp_region_held_drew (S:=fun w'=>ARow 247 w' w.heap.size FA/\ARow 248 w' (w.heap.size+1) ys) (by kernel_rfl) ⟨hs,hf⟩ (fun hHeld=> ?_);refine wpAnyH_take (i:=0) (oi:= {dst:=some 31,op:=.load 247 (.tmp 0),type:=247,pos:= "layout.go:54",after:= #[],guard:=none}) (v:=_) rfl (by kernel_rfl) (by kernel_rfl) (by kernel_rfl) (fun _ _ _ h=>h) (yieldsIf_load_mid (by rfl) _ _ rfl _ _ rfl _ _ (fun _ h=>h.1.range) hu1 rfl hi1) hHeld ?_;simp only[Act.put,VA,VD,VE];refine wpAnyH_take (i:=1) (oi:= {dst:=some 32,op:=.load 248 (.tmp 1),type:=248,pos:= "layout.go:54",after:= #[{on:=2,ground:=.gcOnly .lateStores}],guard:=none}) (v:=_) rfl (by kernel_rfl) (by kernel_rfl) (by kernel_rfl) (fun _ _ _ h=>h) (yieldsIf_load_mid (by rfl) _ _ rfl _ _ rfl _ _ (fun _ h=>h.2.range) hu2 rfl hi2) hHeld ?_;simp only[Act.put,VA,VD,VE];refine wpAnyH_ready (rs:= [2]) (by kernel_rfl) (by simp) (AllReadyH.cons rfl (fun K hK=> ?_) AllReadyH.nil);refine Dt rfl 247 (.tmp 0) (.tmp 31) rfl w.heap.size FA rfl rfl hHeld.1 hi1' ?_;simp only[Act.put];refine hK.out _ _ hHeld (fun hHeld1=> ?_);clear hK K hHeld;refine wpAnyH_ready (rs:= [3]) (by kernel_rfl) (by simp) (AllReadyH.cons rfl (fun K hK=> ?_) AllReadyH.nil);refine Dt rfl 248 (.tmp 1) (.tmp 32) rfl (w.heap.size+1) ys rfl rfl hHeld1.2 hi2' ?_;simp only[Act.put];refine hK.out _ _ hHeld1 (fun hHeld2=> ?_);clear hK K hHeld1;refine wpAnyH_done (by kernel_rfl) ?_ _;go_wp2;refine bodyPost_ret (v:=.tuple #[.agg (iv FA).toArray,.agg (iv ys).toArray]) ?_ rfl ⟨by rw[Aa HFA,Aa HYS],(Aa HB).drew⟩;exact Lf rfl _ _ w.heap.size (w.heap.size+1) _ _ rfl rfl (hHeld2.1.load hu1 rfl hi1') (hHeld2.2.load hu2 rfl hi2')
theorem Mt (w w1:World)(x y:Array Value)(T1 T2:TypeId)(FA FB:List Int)(hB:Below w.heap.size w w1)(hw:(w1.alloc (.cells x T1)).heap.size=w1.heap.size+1):
 ARow T1 ((((w1.alloc (.cells x T1)).alloc (.cells y T2)).setRow w1.heap.size (iv FA).toArray).setRow (w1.heap.size+1) (iv FB).toArray) w1.heap.size FA/\ARow T2 ((((w1.alloc (.cells x T1)).alloc (.cells y T2)).setRow w1.heap.size (iv FA).toArray).setRow (w1.heap.size+1) (iv FB).toArray) (w1.heap.size+1) FB/\Below w.heap.size w ((((w1.alloc (.cells x T1)).alloc (.cells y T2)).setRow w1.heap.size (iv FA).toArray).setRow (w1.heap.size+1) (iv FB).toArray):=by
 have h1:((w1.alloc (.cells x T1)).alloc (.cells y T2)).heap[w1.heap.size]? =some (.cells x T1 (0,0)):=(Below.heap_alloc _ _ _ (by simp)).trans (heap_alloc_new _ _);have h2:((w1.alloc (.cells x T1)).alloc (.cells y T2)).heap[w1.heap.size+1]? =some (.cells y T2 (0,0)):=by rw[<-hw];exact heap_alloc_new _ _
 refine⟨?_, ?_, ?_⟩
 . unfold ARow;rw[Go.setRow_other _ _ _ _ (by omega)];exact setRow_heap _ _ _ _ _ _ h1
 . unfold ARow;exact setRow_heap _ _ y _ _ _ ((Go.setRow_other _ _ _ _ (by omega)).trans h2)
 . have hz:=hB.size;exact Bl (Bl ((hB.alloc hz _).alloc (by simp;omega) _) (by omega) _) (by omega) _
def TI:List Int:= [16,17,18,0,8,7,9,6,10,5,11,4,12,3,13,2,14,1,15]
theorem TR:(Tryz.prog.info? 321).map (·.size)=some 19:=by kernel_rfl
theorem JC (w:World):Calls Tryz.prog 242 #[] w fun e w'=>e=.returned (.agg (iv TI).toArray)/\Below w.heap.size w w':=by
 have hsz:(iv TI).toArray.size=19:=by simp[TI]
 have hi1:(Tryz.prog.info? 321).map (·.size)=some (iv TI).toArray.size:=by rw[TR,hsz]
 obtain⟨OZ,hOZ⟩:∃OZ,TI=OZ:=⟨_,rfl⟩
 rw[hOZ]at hi1 hsz ⊢;have HZ:=Ab hOZ;clear hOZ;go_enter Tryz.func242,Tryz.ntmps242
 go_upto_region 1 with (fail)
 refine wp_region_lit ?_;refine wpList_build rfl 321 _ rfl (by kernel_rfl) ?_;generalize hV:(Program.built _ _ _).getD #[]=V;have hV2:V=(iv OZ).toArray:=by rw[<-hV,<-Aa HZ];kernel_rfl
 clear hV;subst hV2;simp only[Act.put];generalize hW:w.alloc _=W;have hA:W.heap[w.heap.size]? =some (.cells (iv (List.replicate 19 0)).toArray 321 (0,0)):=by rw[<-hW];exact(heap_alloc_new _ _).trans (by kernel_rfl)
 have hB:Below w.heap.size w W:=by rw[<-hW];exact(Below.refl w.heap.size w).alloc (VC _) _
 clear hW;refine wpList_store_row rfl 321 (.tmp 0) (.tmp 1) rfl w.heap.size (iv OZ).toArray rfl rfl 321 _ hA hi1 (by rw[hsz];simp) (Eb OZ) ?_;refine wpList_nil ?_;have HF:Hid (Below w.heap.size w (W.setRow w.heap.size (iv OZ).toArray)/\ARow 321 (W.setRow w.heap.size (iv OZ).toArray) w.heap.size OZ):=Ab ⟨Bl hB (VC _) _,setRow_heap _ _ _ _ _ _ hA⟩;clear hA hB;go_wp2;refine bodyPost_ret (v:=.agg (iv OZ).toArray) ?_ rfl ⟨rfl,(Aa HF).1⟩;exact results_cell_row rfl _ _ _ _ _ _ _ rfl (Aa HF).2 Tryz.underlying321 rfl hi1
structure KJ (B gs gf:Nat)(No:Nat->Prop)(is:List It)(W:World):Prop where
 base:B<=gs/\B<=gf
 ne:gs≠gf
 no:¬No gs/\¬No gf
 s:ARow 297 W gs (symC is)
 f:ARow 298 W gf (farC is)
theorem Ym (is:List It)(k:Nat):symC (is++ [.sym k])=Sn (symC is) k/\farC (is++ [.sym k])=farC is:=by
 unfold symC farC OY RN Ce;simp[List.filterMap_append,List.foldl_append]
theorem C8 (is:List It)(k:Nat):farC (is++ [.far k])=Sn (farC is) k/\symC (is++ [.far k])=symC is:=by
 unfold symC farC OY RN Ce;simp[List.filterMap_append,List.foldl_append]
theorem Ue (is:List It)(n s:Nat):farC (is++ [.rest n s])=farC is/\symC (is++ [.rest n s])=symC is:=by
 unfold symC farC OY RN Ce;simp[List.filterMap_append]
theorem Z0m (is:List It)(k:Nat):(symC is).getD k 0<=is.length/\0<=(symC is).getD k 0:=by
 by_cases hk:k<286
 . unfold symC;rw[Gf _ _ k (by simpa using hk),Hb];have h1:=YH (a:=k) (l:=OY is);have h2:(OY is).length<=is.length:=ZD _ _;omega
 . have:(symC is).getD k 0=0:=by
    simp only[List.getD];rw[WN (by rw[La];omega)];rfl
   omega
theorem Z27 (is:List It)(k:Nat):(farC is).getD k 0<=is.length/\0<=(farC is).getD k 0:=by
 by_cases hk:k<30
 . unfold farC;rw[Gf _ _ k (by simpa using hk),Hb];have h1:=YH (a:=k) (l:=RN is);have h2:(RN is).length<=is.length:=ZD _ _;omega
 . have:(farC is).getD k 0=0:=by
    simp only[List.getD];rw[WN (by rw[Me];omega)];rfl
   omega
theorem ES (T:TypeId)(g k:Nat)(xs:List Int)(W:World)(hT:T=297)(h:ARow T W g xs)(hl:xs.length=286)(hk:k<286)(hx:0<=xs.getD k 0/\xs.getD k 0<=1000000):
 Calls Tryz.prog 238 #[.int .i64 (k:Int),.pointer (some ⟨g,0,none⟩)] W fun e w'=>e=.returned (.tuple #[])/\w'=W.setCell ⟨g,k,none⟩ (.int .i64 (xs.getD k 0+1)):=by
 have c:=h.cell k (by omega);have f:=h.frozen k;have hkI:(k:Int)<286:=by omega
 clear h hT;generalize xs.getD k 0=x at*;go_enter Tryz.func238,Tryz.ntmps238
 go_wp2;go_end0
 exact⟨rfl,rfl⟩
theorem ER (T:TypeId)(g k:Nat)(xs:List Int)(W:World)(hT:T=298)(h:ARow T W g xs)(hl:xs.length=30)(hk:k<30)(hx:0<=xs.getD k 0/\xs.getD k 0<=1000000):
 Calls Tryz.prog 239 #[.int .i64 (k:Int),.pointer (some ⟨g,0,none⟩)] W fun e w'=>e=.returned (.tuple #[])/\w'=W.setCell ⟨g,k,none⟩ (.int .i64 (xs.getD k 0+1)):=by
 have c:=h.cell k (by omega);have f:=h.frozen k;have hkI:(k:Int)<30:=by omega
 clear h hT;generalize xs.getD k 0=x at*;go_enter Tryz.func239,Tryz.ntmps239
 go_wp2;go_end0
 exact⟨rfl,rfl⟩
theorem EQ (n s:Int)(W:World):Calls Tryz.prog 240 #[.int .i64 n,.int .i64 s] W fun e w'=>e=.returned (.tuple #[])/\w'=W:=by
 go_enter Tryz.func240,Tryz.ntmps240
 go_wp2;go_end0
 exact⟨rfl,rfl⟩
theorem Fx {f:Nat}{fn:Func}{c:Code}(hf:Tryz.prog.funcs[f]? =some fn)(hname:(fn.name== "runtime.NumGoroutine")=false)(hb:fn.body=some c):∀(args:Array Value) (w:World),(callFunc f args).run Tryz.prog w=.ok (.enter f args) w:=enters_of hf hname hb
theorem KJ.step {B gs gf g k:Nat}{No:Nat->Prop}{is is':List It}{W:World}{v:Value}(h:KJ B gs gf No is W)(hg:g=gs\/g=gf)(hs:ARow 297 (W.setCell ⟨g,k,none⟩ v) gs (symC is'))(hf:ARow 298 (W.setCell ⟨g,k,none⟩ v) gf (farC is')):
 KJ B gs gf No is' (W.setCell ⟨g,k,none⟩ v)/\Below B W (W.setCell ⟨g,k,none⟩ v)/\Kp No W (W.setCell ⟨g,k,none⟩ v):=by
 have hgr:=Ad W g k v;have hb:=h.base;have hn:=h.no;have hlt:=h.s.lt;refine⟨⟨h.base,h.ne,h.no,hs,hf⟩,(Below.refl B W).grown hgr (by omega) (fun j e=>by rw[<-VQ e];rcases hg with e|e<;>rw[e]<;>omega),(Kp.refl No W).grown hgr (VC _) (fun j e=>by rw[<-VQ e];rcases hg with e|e<;>rw[e];exact hn.1;exact hn.2)⟩
theorem ML (B gs gf:Nat)(all:List It)(hvi:∀i∈all,VI i)(hlen:all.length<=100000):
 Snk (KJ B gs gf) B 238 239 240 #[.pointer (some ⟨gs,0,none⟩)] #[.pointer (some ⟨gf,0,none⟩)] #[] all:=by
 have hl:∀ {is R:List It} {i:It},is++i::R=all->is.length<=100000/\VI i:=by
  intro is R i he;have h4:=congrArg List.length he;rw[VB,VJ]at h4;exact⟨by omega,hvi i (by rw[<-he];simp)⟩
 refine⟨Fx Tryz.func238 (by kernel_rfl) rfl,Fx Tryz.func239 (by kernel_rfl) rfl,Fx Tryz.func240 (by kernel_rfl) rfl, ?_, ?_, ?_, ?_⟩
 . intro No No' is W W1 hJ hB hn;have l1:=hJ.s.lt;have l2:=hJ.f.lt;refine⟨hJ.base,hJ.ne,⟨fun e=> ?_,fun e=> ?_⟩,hJ.s.keep (hB.block _ l1),hJ.f.keep (hB.block _ l2)⟩
   . rcases hn gs e with h|h
     . exact hJ.no.1 h
     . omega
   . rcases hn gf e with h|h
     . exact hJ.no.2 h
     . omega
 . intro No is R k W he hJ hNo;have hk:k<286:=(hl he).2;have hle:=Z0m is k;have:=(hl he).1
   refine(ES _ gs k (symC is) W rfl hJ.s (La is) hk ⟨hle.2,by omega⟩).mono ?_;rintro e W' ⟨rfl,rfl⟩;refine⟨rfl,hJ.step (.inl rfl) ?_ ?_⟩
   . rw[(Ym is k).1];exact hJ.s.set k _
   . rw[(Ym is k).2];exact hJ.f.keep ((Ad W gs k _).block gf hJ.f.lt (fun e=>hJ.ne (VQ e).symm))
 . intro No is R k W he hJ hNo;have hk:k<30:=(hl he).2;have hle:=Z27 is k;have:=(hl he).1
   refine(ER _ gf k (farC is) W rfl hJ.f (Me is) hk ⟨hle.2,by omega⟩).mono ?_;rintro e W' ⟨rfl,rfl⟩;refine⟨rfl,hJ.step (.inr rfl) ?_ ?_⟩
   . rw[(C8 is k).2];exact hJ.s.keep ((Ad W gf k _).block gs hJ.s.lt (fun e=>hJ.ne (VQ e)))
   . rw[(C8 is k).1];exact hJ.f.set k _
 . intro No is R n s W he hJ hNo;refine(EQ n s W).mono ?_;rintro e W' ⟨rfl,rfl⟩;refine⟨rfl,⟨hJ.base,hJ.ne,hJ.no, ?_, ?_⟩,Below.refl _ _,Kp.refl _ _⟩
   . rw[(Ue is n s).2];exact hJ.s
   . rw[(Ue is n s).1];exact hJ.f
end Go.Proofs.YtleocpdblhbimaaGreatDoor
namespace Go.Proofs.YtleocpdblhbimaaGreatDoor
open Go.RowKit
set_option linter.unusedVariables false
theorem DJ:(Tryz.prog.info? 340).map (fun i=>(i.zero,i.size,i.bytes))=some (some (.agg #[.slice none 0 0,.slice none 0 0]),2,48):=by kernel_rfl
theorem StSt.made {w W:World}{m:Nat}(Ws:List Int)(A B:Nat->Nat)(hO:W.ownsRow w.heap.size 340 2 (.slice (some ⟨w.heap.size,0,none⟩) m m) m (madeCells #[.slice none 0 0,.slice none 0 0] (m*2)).toList)(hg:w.grownBy W none):StSt w W w.heap.size m Ws 0 A B:=by
 have hc:∀j,j<m*2->W.cell? ⟨w.heap.size,j,none⟩=some (.slice none 0 0):=by
  intro j hj;rw[hO.cellAt j hj];have h2:j%2=0\/j%2=1:=by omega
  rcases h2 with h2|h2<;>simp[madeCells,hj,h2]
 refine⟨VC _,(hO.lt _ rfl).2,fun j=>hO.frozenAt j,fun i hi=>by omega,fun i _ hi=>⟨hc _ (by omega),hc _ (by omega)⟩,fun i hi=>by omega,fun i hi=>by omega,(Below.refl w.heap.size w).grown hg (VC _) (fun j h=>by cases h)⟩
set_option maxRecDepth 100000 in
theorem K8 (gw n c m:Nat)(Ws:List Int)(w:World)(hl:Ws.length=n)(hn:n<=288)(hc:n<=c)(hcm:c<=maxLen)(hm:m<=15)(hb:∀x∈Ws,0<=x/\x<=1000000)(hW:WRow w gw Ws):
 Calls Tryz.prog 260 #[.slice (some ⟨gw,0,none⟩) n c,.int .i64 m] w fun e w'=>∃g A B,e=.returned (.slice (some ⟨g,0,none⟩) m m)/\StSt w w' g m Ws m A B:=by
 obtain⟨i0,hi,hz0,hz1,hz2⟩:=info_parts DJ;have HW:=Ab hW;have HBd:=Ab hb;have hgw:=hW.lt;clear hW hb;go_enter Tryz.func260,Tryz.ntmps260
 go_wp2_with (at_make;refine wpList_make_full _ rfl _ _ 335 rfl w.heap.size 340 i0 (.agg #[.slice none 0 0,.slice none 0 0]) 2 Tryz.underlying335 hi hz0 hz1 _ _ _ _ m rfl rfl rfl rfl (by rw[hz2];omega) (by unfold maxLen;omega) (by simp) ?_)
 intro w1 hown hgrow;have H0:=Ab (StSt.made Ws (fun _=>0) (fun _=>0) hown hgrow);clear hown hgrow;generalize hgg:w.heap.size=g at*;have HGG:=Ab hgg;clear hgg;go_wp2;go_loopw [6,7,11] (fun va _ i wr=>∃(k:Nat) (A B:Nat->Nat),k<=m/\i=.int .i64 k/\StSt w wr g m Ws k A B/\((k=0/\va=.slice none 0 0)\/ (0<k/\va=.slice (some ⟨A (k-1),0,none⟩) (rowAt Ws (k-1)).length (rowAt Ws (k-1)).length))) (fun _ _ i _=>m-(intOf i).toNat)
 case atStart=>exact⟨0,_,_,VK _,rfl,Aa H0,.inl ⟨rfl,rfl⟩⟩
 case round=>
  obtain⟨k,A,B,hk,rfl,hS,hva⟩:=hrel;have HS:=Ab hS
  by_cases hlt:k<m
  . 
    obtain⟨a0,N0,ys,hv,hlen,hN0,hRy,hby,hrow⟩:∃(a0:Option Addr) (N0:Nat) (ys:List Int),u6=.slice a0 N0 N0/\ys.length=N0/\N0<=576/\RowIn .i64 wr a0 ys/\(∀j,0<=ys.getD j 0/\ys.getD j 0<=1000000000000)/\rowAt Ws k=mrg Ws (prs ys):=by
     rcases hva with ⟨h1,h2⟩|⟨h1,h2⟩
     . exact⟨none,0,[],h2,rfl,by omega,.inl rfl,fun j=>by simp,by rw[h1,rowAt];rfl⟩
     . refine⟨some ⟨A (k-1),0,none⟩,(rowAt Ws (k-1)).length,(rowAt Ws (k-1)).map Prod.fst,h2,by simp, ?_,(hS.ws (k-1) (by omega)).2.2.row,L5 Ws (Aa HBd) (k-1) (by omega), ?_⟩
       . have:=Im Ws (k-1);omega
       . obtain⟨q,rfl⟩:∃q,k=q+1:=⟨k-1,by omega⟩
         rw[XT,rowAt]
    subst hv;have HRy:=Ab hRy;have HBy:=Ab hby;have HRow:=Ab hrow;have HLen:=Ab hlen;have hz:w.heap.size<=wr.heap.size:=hS.bel.size;have HWr:Hid (WRow wr gw Ws):=(Aa HW).below hS.bel (Aa HW).lt;clear hva hRy hby hrow hS H0;go_wp2_with fail
    refine(IY a0 N0 N0 ys wr hlen (by omega) (Aa HRy) (Aa HBy)).mono ?_;rintro e w2 ⟨gp,rfl,hWp,hBp,hgp⟩;have HS2:=Ab ((Aa HS).below hBp);have HWw:=Ab ((Aa HWr).below hBp (Aa HWr).lt);have HWp:=Ab hWp;have hz2':=hBp.size;have hle:(prs ys).length=N0/2:=by rw[Ea,hlen]
    have HLe:=Ab hle;have hN1:N0/2<=288:=by omega
    clear hWp hBp;go_wp2_with fail
    refine(JS gw 0 gp 0 n c (N0/2) (N0/2) Ws (prs ys) w2 hl (Aa HLe) (by omega) (by omega) hc (VC _) hcm (by unfold maxLen;omega) (Aa HWw).lt (Aa HWp).lt (fun j hj=>by rw[WI];exact((Aa HWw).at_ j hj).1) (fun j hj=>by rw[WI];exact((Aa HWp).at_ j hj).1)).mono ?_;rintro e w3 ⟨g1,g2,rfl,hW3,hF3,hB3,hg1,hg2⟩;have hS3:=(Aa HS2).below hB3;rw[<-Aa HRow]at hW3 hF3;have hLL:n+N0/2=(rowAt Ws k).length:=by rw[Aa HRow,Bh,hl,Aa HLe]
    have hgl:=(Aa HS2).ghi;have hglo:=(Aa HS2).glo;have hN:=Ab (hS3.next hlt g1 g2 ⟨by omega,by omega⟩ ⟨by omega,by omega⟩ hW3 hF3 (n+N0/2) hLL);have c0:=(hS3.todo k (VC _) hlt).1;have c1:=(hS3.todo k (VC _) hlt).2;have f0:=hS3.fz (k*2);have f1:=hS3.fz (k*2+1);have q0:=((Aa hN).done k (by omega)).1;simp only[if_true]at q0;rw[<-hLL]at q0;have HLL:=Ab hLL;have hkm:(k:Int)<(m:Int):=by omega
    clear hW3 hF3 hB3 hS3 hLL HS HS2;generalize hLg:n+N0/2=L at*;clear hLg;go_wp2;go_roundw
    case rel=>
     refine⟨k+1,_,_,by omega,by go_num,Aa hN,.inr ⟨by omega, ?_⟩⟩;simp only[XT,if_true];rw[Aa HLL]
    case measure=>simp[intOf];omega
  . obtain rfl:k=m:=by omega
    clear hS hva;go_wp2;go_ret;exact⟨g,A,B,rfl,Aa HS⟩
end Go.Proofs.YtleocpdblhbimaaGreatDoor
