import Derived.Test.YtieianhejdcgdaaGreatDoorQ30
import Derived.Laws.EntriesVeiled
import Derived.Test.YtieianhejdcgdaaGreatDoorQ14
import Derived.Laws.Tables
import Derived.Laws.Rows
import Derived.Laws.ResultCell
import Derived.Deep.RegionHeld3
import Derived.Deep.WholeRow
set_option maxHeartbeats 4000000
namespace Go.Proofs.YtieianhejdcgdaaGreatDoor
open Go.RowKit
set_option linter.unusedVariables false
set_option maxRecDepth 100000
theorem Sc (b o rb len cap:Nat)(l:List Int)(w:World)(hl:l.length=len)(hlen:1<=len)(hb:b<w.heap.size)(hR:Row .i64 w b o l)(hG:Good l):
 Calls Tryz.prog 218 #[.pointer (some ⟨rb,0,none⟩),.slice (some ⟨b,o,none⟩) len cap] w fun e w'=>∃gc gl gr,e=.returned (CV gc gl gr)/\CIs (fun g=>w.heap.size<=g\/g=b) w' gc gl gr rb (some ⟨b,o,none⟩) len cap l/\Below w.heap.size w w':=by
 have HR:=Ab hR;have HG:=Ab hG;have HL:=Ab hl;clear hR hG hl;go_enter Tryz.func218,Tryz.ntmps218
 go_wp2_with fail
 refine(CD (some ⟨b,o,none⟩) len cap l _ (Aa HL) (RowIn.alloc (RowIn.alloc (.inr ⟨b,o,rfl,hb,Aa HR⟩) _) _) (Aa HG)).mono ?_;rintro e w1 ⟨g,rfl,hO,hB,hg⟩;have hz:=hB.size;simp only[World.size_alloc]at hz hg
 have HF:Hid (CIs (fun g=>w.heap.size<=g\/g=b) (w1.alloc (.cells #[.slice (some ⟨g,0,none⟩) len len] 81)) w1.heap.size (w.heap.size+1) w.heap.size rb (some ⟨b,o,none⟩) len cap l/\Below w.heap.size w (w1.alloc (.cells #[.slice (some ⟨g,0,none⟩) len len] 81))):=by
  have b0:=(Below.refl w.heap.size w).alloc (VC _) (.cells #[.pointer (some ⟨rb,0,none⟩)] 182);have b1:=b0.alloc (by simp) (.cells #[.slice (some ⟨b,o,none⟩) len cap] 81);have b2:=b1.trans (hB.mono (by simp;omega));have b3:=b2.alloc (by omega) (.cells #[.slice (some ⟨g,0,none⟩) len len] 81);have hgl:=(hO.lt g rfl).2;refine⟨⟨⟨g,b,o,rfl,⟨by simp;omega,.inr rfl⟩,⟨by simp;omega,.inl (by omega)⟩,by simp,fun j hj=>(b3.cell (p:=⟨b,_,none⟩) hb).trans (Aa HR j hj), ?_⟩, ?_, ?_,⟨by simp,.inl (by omega)⟩,⟨by simp;omega,.inl (by omega)⟩,⟨by simp;omega,.inl (by omega)⟩⟩,b3⟩
  . intro j hj;rw[World.cell?_alloc_past _ _ _ (by simpa using hgl)];rw[hO.cellAt j (by omega)];have hc:=Dr l len;have hcl:j<(Se l len).length:=by rw[hc,Aa HL];exact hj
    have:=Xt l (j:=j) (by rw[Aa HL];exact hj) len
    rw[if_pos hj]at this;rw[<-this];simp[i64s,List.getD,hcl]
  . rw[World.cell?_alloc_past _ _ _ (by show w.heap.size+1<_;omega),hB.cell (p:=⟨w.heap.size+1,0,none⟩) (by simp only[World.size_alloc];omega)];simp
  . rw[World.cell?_alloc_past _ _ _ (by show w.heap.size<_;omega),hB.cell (p:=⟨w.heap.size,0,none⟩) (by simp only[World.size_alloc];omega)];simp
 clear hO hB hg;go_wp2;go_ret;exact⟨_,_,_,rfl,Aa HF⟩
theorem Uh (b1 o1 n1 c1 b2 o2 n2 c2 rb:Nat)(l1 l2:List Int)(w:World)(hl1:l1.length=n1)(hl2:l2.length=n2)(hn1:1<=n1)(hn2:1<=n2)(hb1:b1<w.heap.size)(hb2:b2<w.heap.size)(hR1:Row .i64 w b1 o1 l1)(hR2:Row .i64 w b2 o2 l2)(hG1:Good l1)(hG2:Good l2):
 Calls Tryz.prog 190 #[.pointer (some ⟨rb,0,none⟩),.slice (some ⟨b1,o1,none⟩) n1 c1,.slice (some ⟨b2,o2,none⟩) n2 c2] w fun e w'=>∃gc gl gr hc hl hr,e=.returned (.agg #[CV gc gl gr,CV hc hl hr,.func (.func 155) #[.pointer (some ⟨rb,0,none⟩)] #[]])/\CIs (fun g=>w.heap.size<=g\/g=b1\/g=b2) w' gc gl gr rb (some ⟨b1,o1,none⟩) n1 c1 l1/\CIs (fun g=>w.heap.size<=g\/g=b1\/g=b2) w' hc hl hr rb (some ⟨b2,o2,none⟩) n2 c2 l2/\Below w.heap.size w w':=by
 obtain⟨wz,hwz⟩:∃wz,wz=w.heap.size:=⟨_,rfl⟩
 have H1:=Ab (fun(W:World) (hB:Below w.heap.size w W)=>Sc b1 o1 rb n1 c1 l1 W hl1 hn1 (VK hb1 hB.size) (fun j hj=>(hB.cell (p:=⟨b1,_,none⟩) hb1).trans (hR1 j hj)) hG1);have H2:=Ab (fun(W:World) (hB:Below w.heap.size w W)=>Sc b2 o2 rb n2 c2 l2 W hl2 hn2 (VK hb2 hB.size) (fun j hj=>(hB.cell (p:=⟨b2,_,none⟩) hb2).trans (hR2 j hj)) hG2);clear hR1 hR2 hG1 hG2;go_enter Tryz.func190,Tryz.ntmps190
 go_wp2_with fail
 refine(Aa H1 _ ((Below.refl w.heap.size w).alloc (VC _) _)).mono ?_;rintro e w1 ⟨gc,gl,gr,rfl,hC1,hB1⟩;have hz1:=hB1.size;simp only[World.size_alloc]at hz1;have hBw1:Below w.heap.size w w1:=((Below.refl w.heap.size w).alloc (VC _) _).trans (hB1.mono (by simp));have HC1:=Ab hC1;have HB1:=Ab hB1;have HBw:=Ab hBw1;clear hC1 hB1 hBw1;go_wp2_with fail
 refine(Aa H2 _ (Aa HBw)).mono ?_;rintro e w2 ⟨hc,hl,hr,rfl,hC2,hB2⟩;have hz2:=hB2.size
 have hblk:w2.heap[w.heap.size]? =some (.cells #[.nilFunc,.nilFunc,.nilFunc] 257 (0,0)):=by
  rw[hB2.block _ (by omega),(Aa HB1).block _ (by simp)];exact heap_alloc_new _ _
 have f0:=frozen_of_row w2 w.heap.size 0 _ _ hblk;have f1:=frozen_of_row w2 w.heap.size 1 _ _ hblk;have f2:=frozen_of_row w2 w.heap.size 2 _ _ hblk;have c0:w2.cell? ⟨w.heap.size,0,none⟩=some .nilFunc:=Ac hblk;have c1':w2.cell? ⟨w.heap.size,1,none⟩=some .nilFunc:=Ac hblk;have c2':w2.cell? ⟨w.heap.size,2,none⟩=some .nilFunc:=Ac hblk;have HBLK:=Ab hblk;have HC2:=Ab hC2;have HB2:=Ab hB2
 have HFIN:Hid (∀v3,(((w2.setCell ⟨w.heap.size,0,none⟩ (CV gc gl gr)).setCell ⟨w.heap.size,1,none⟩ (CV hc hl hr)).setCell ⟨w.heap.size,2,none⟩ v3).heap[w.heap.size]? =some (.cells #[CV gc gl gr,CV hc hl hr,v3] 257 (0,0))/\CIs (fun g=>w.heap.size<=g\/g=b1\/g=b2) (((w2.setCell ⟨w.heap.size,0,none⟩ (CV gc gl gr)).setCell ⟨w.heap.size,1,none⟩ (CV hc hl hr)).setCell ⟨w.heap.size,2,none⟩ v3) gc gl gr rb (some ⟨b1,o1,none⟩) n1 c1 l1/\CIs (fun g=>w.heap.size<=g\/g=b1\/g=b2) (((w2.setCell ⟨w.heap.size,0,none⟩ (CV gc gl gr)).setCell ⟨w.heap.size,1,none⟩ (CV hc hl hr)).setCell ⟨w.heap.size,2,none⟩ v3) hc hl hr rb (some ⟨b2,o2,none⟩) n2 c2 l2/\Below w.heap.size w (((w2.setCell ⟨w.heap.size,0,none⟩ (CV gc gl gr)).setCell ⟨w.heap.size,1,none⟩ (CV hc hl hr)).setCell ⟨w.heap.size,2,none⟩ v3)):=by
  intro v3;have g1:=Ad w2 w.heap.size 0 (CV gc gl gr);have g2:=Ad (w2.setCell ⟨w.heap.size,0,none⟩ (CV gc gl gr)) w.heap.size 1 (CV hc hl hr);have g3:=Ad ((w2.setCell ⟨w.heap.size,0,none⟩ (CV gc gl gr)).setCell ⟨w.heap.size,1,none⟩ (CV hc hl hr)) w.heap.size 2 v3;have gg:=Aj (Aj g1 g2) g3;have bw2:Below w.heap.size w w2:=(Aa HBw).trans (hB2.mono (by omega));refine⟨?_, ?_, ?_,bw2.grown gg (by omega) (fun j e=>by rw[<-VN e];exact VC _)⟩
  . rw[heap_setCell_same _ _ 2 _ _ _ (heap_setCell_same _ _ 1 _ _ _ (heap_setCell_same _ _ 0 _ _ _ hblk))];rfl
  . have k1:=(Aa HC1).keep (W':=w2) hz2 (fun g hg _=>hB2.block g hg)
    have k2:=k1.keep (W':=((w2.setCell ⟨w.heap.size,0,none⟩ (CV gc gl gr)).setCell ⟨w.heap.size,1,none⟩ (CV hc hl hr)).setCell ⟨w.heap.size,2,none⟩ v3) gg.size (fun g hg hb=>gg.block g hg (fun e=>by
     have e:=VN e;simp only[World.size_alloc]at hb;omega))
    exact k2.more (fun g hb=>by simp only[World.size_alloc]at hb;omega)
  . have k2:=hC2.keep (W':=((w2.setCell ⟨w.heap.size,0,none⟩ (CV gc gl gr)).setCell ⟨w.heap.size,1,none⟩ (CV hc hl hr)).setCell ⟨w.heap.size,2,none⟩ v3) gg.size (fun g hg hb=>gg.block g hg (fun e=>by
     have e:=VN e;omega))
    exact k2.more (fun g hb=>by omega)
 clear hC2 hB2 hblk;go_wp2;obtain⟨z1,z2,z3,z4⟩:=Aa HFIN (.func (.func 155) #[.pointer (some ⟨rb,0,none⟩)] #[]);refine bodyPost_ret (v:=.agg #[CV gc gl gr,CV hc hl hr,.func (.func 155) #[.pointer (some ⟨rb,0,none⟩)] #[]]) ?_ rfl ⟨gc,gl,gr,hc,hl,hr,rfl,z2,z3,z4⟩;exact results_cell_row rfl _ _ _ _ _ _ _ rfl z1 Tryz.underlying257 rfl (by kernel_rfl)
structure PJ (Bx:Nat->Prop)(B rb:Nat)(S:List Bool)(l1 l2:List Int)(gc gl gr hc hl hr b1 o1 n1 c1 b2 o2 n2 c2:Nat)(No:Nat->Prop)(is:List It)(W:World):Prop where
 row:RIs (fun g=>No g\/Bx g) B W rb (S++putIs l1 l2 is)
 ca:CIs Bx W gc gl gr rb (some ⟨b1,o1,none⟩) n1 c1 l1
 cb:CIs Bx W hc hl hr rb (some ⟨b2,o2,none⟩) n2 c2 l2
 bl:∀g,Bx g->g<W.heap.size
theorem CIs.bound {Bx:Nat->Prop}{W:World}{gc gl gr rb:Nat}{a:Option Addr}{len cap:Nat}{l:List Int}(h:CIs Bx W gc gl gr rb a len cap l):CIs (fun g=>Bx g/\g<W.heap.size) W gc gl gr rb a len cap l:=by
 obtain⟨gk,b,o,h1,h2,h3,h4,h5,h6⟩:=h.ex;exact⟨⟨gk,b,o,h1,⟨h2.1,h2.2,h2.1⟩,⟨h3.1,h3.2,h3.1⟩,h4,h5,h6⟩,h.bl,h.br,⟨h.bx.1.1,h.bx.1.2,h.bx.1.1⟩,⟨h.bx.2.1.1,h.bx.2.1.2,h.bx.2.1.1⟩,⟨h.bx.2.2.1,h.bx.2.2.2,h.bx.2.2.1⟩⟩
theorem Na {f:Nat}{fn:Func}{c:Code}(hf:Tryz.prog.funcs[f]? =some fn)(hname:(fn.name== "runtime.NumGoroutine")=false)(hb:fn.body=some c):∀(args:Array Value) (w:World),(callFunc f args).run Tryz.prog w=.ok (.enter f args) w:=enters_of hf hname hb
theorem J9 (l:List Int)(hG:Good l)(q:Nat)(hq:q<l.length):(An l q).length<=15:=by rw[Fh l hG];have:=hG.ok q hq;omega
theorem Le (l1 l2:List Int)(hG1:Good l1)(hG2:Good l2):∀is:List It,Has l1 l2 is->(∀i∈is,VI i)->(putIs l1 l2 is).length<=15*is.length
 | [],_,_=>by simp[putIs]
 |i::is,h,hv=>by
  have ih:=Le l1 l2 hG1 hG2 is (Has.app (x:= [i]) (y:=is) h).2 (fun j hj=>hv j (by simp[hj]));have e:putIs l1 l2 (i::is)=KP l1 l2 i++putIs l1 l2 is:=by simp[putIs]
  rw[e,VB,VH]
  have:(KP l1 l2 i).length<=15:=by
   cases i with
   |sym k=>exact J9 l1 hG1 k (h.1 k (by simp)).1
   |far k=>exact J9 l2 hG2 k (h.2 k (by simp)).1
   |rest n s=>
    have:=(hv _ (by simp:It.rest n s∈_)).2
    show (Ah n s).length<=15
    rw[Ae];omega
  omega
theorem Z2i (Bx:Nat->Prop)(B rb:Nat)(S:List Bool)(l1 l2:List Int)(gc gl gr hc hl hr b1 o1 n1 c1 b2 o2 n2 c2:Nat)(all:List It)(hl1:l1.length=n1)(hl2:l2.length=n2)(hG1:Good l1)(hG2:Good l2)(hall:Has l1 l2 all)(hvi:∀i∈all,VI i)(hS:S.length+15*all.length<=300000):
 Snk (PJ Bx B rb S l1 l2 gc gl gr hc hl hr b1 o1 n1 c1 b2 o2 n2 c2) B 244 244 155 #[.pointer (some ⟨gc,0,none⟩),.pointer (some ⟨gl,0,none⟩),.pointer (some ⟨gr,0,none⟩)] #[.pointer (some ⟨hc,0,none⟩),.pointer (some ⟨hl,0,none⟩),.pointer (some ⟨hr,0,none⟩)] #[.pointer (some ⟨rb,0,none⟩)] all:=by
 have step:∀ {No:Nat->Prop} {is R:List It} {i:It} {W W':World},is++i::R=all->PJ Bx B rb S l1 l2 gc gl gr hc hl hr b1 o1 n1 c1 b2 o2 n2 c2 No is W->Rp (fun g=>No g\/Bx g) B W rb (S++putIs l1 l2 is++KP l1 l2 i) W'->PJ Bx B rb S l1 l2 gc gl gr hc hl hr b1 o1 n1 c1 b2 o2 n2 c2 No (is++ [i]) W'/\Below B W W'/\Kp No W W':=by
  intro No is R i W W' he hJ hR;refine⟨⟨?_, ?_, ?_,fun g h=>VK (hJ.bl g h) hR.below.size⟩,hR.below,hR.kp.weaken (fun g h=>.inl h)⟩
  . have e:putIs l1 l2 (is++ [i])=putIs l1 l2 is++KP l1 l2 i:=by rw[Qq];simp[putIs]
    rw[e,<-VJ];exact hR.is
  . exact hJ.ca.keep hR.below.size (fun g hg hb=>hR.kp g hg (.inr hb))
  . exact hJ.cb.keep hR.below.size (fun g hg hb=>hR.kp g hg (.inr hb))
 have hlen:∀ {is R:List It} {i:It},is++i::R=all->(S++putIs l1 l2 is).length<=300000:=by
  intro is R i he;have h1:Has l1 l2 is:=by rw[<-he]at hall;exact hall.app.1
  have h2:∀j∈is,VI j:=fun j hj=>hvi j (by rw[<-he];simp[hj])
  have h3:=Le l1 l2 hG1 hG2 is h1 h2;have h4:=congrArg List.length he;rw[VB,VH]at h4;rw[VB];omega
 refine⟨Na Tryz.func244 (by kernel_rfl) rfl,Na Tryz.func244 (by kernel_rfl) rfl,Na Tryz.func155 (by kernel_rfl) rfl, ?_, ?_, ?_, ?_⟩
 . intro No No' is W W1 hJ hB hn;refine⟨hJ.row.grow hB (fun g e=> ?_),hJ.ca.keep hB.size (fun g hg _=>hB.block g hg),hJ.cb.keep hB.size (fun g hg _=>hB.block g hg),fun g h=>VK (hJ.bl g h) hB.size⟩
   rcases e with e|e
   . rcases hn g e with h|h
     . exact .inl (.inl h)
     . exact .inr h
   . exact .inl (.inr e)
 . intro No is R k W he hJ hNo;have hk:=hall.1 k (by rw[<-he];simp);have:=Xs Bx (fun g=>No g\/Bx g) B gc gl gr rb (some ⟨b1,o1,none⟩) n1 c1 l1 k (S++putIs l1 l2 is) W hJ.ca hl1 hG1 (by omega) hk.2 hJ.row (hlen he) (fun g hg e=> ?_)
   . refine this.mono ?_;rintro e W' ⟨rfl,hR⟩;exact⟨rfl,step he hJ hR⟩
   . rcases e with e|e
     . exact hNo g hg e
     . have:=hJ.bl g e;omega
 . intro No is R k W he hJ hNo;have hk:=hall.2 k (by rw[<-he];simp);have:=Xs Bx (fun g=>No g\/Bx g) B hc hl hr rb (some ⟨b2,o2,none⟩) n2 c2 l2 k (S++putIs l1 l2 is) W hJ.cb hl2 hG2 (by omega) hk.2 hJ.row (hlen he) (fun g hg e=> ?_)
   . refine this.mono ?_;rintro e W' ⟨rfl,hR⟩;exact⟨rfl,step he hJ hR⟩
   . rcases e with e|e
     . exact hNo g hg e
     . have:=hJ.bl g e;omega
 . intro No is R n s W he hJ hNo;have hv:=hvi (.rest n s) (by rw[<-he];simp);have hs:s<=10:=hv.2;have hp:2^s<=2^10:=VV (by decide) hs;have hn:n<65536:=VK (VK hv.1 hp) (by decide);refine(Dl (fun g=>No g\/Bx g) B rb n s (S++putIs l1 l2 is) W hJ.row hn (by omega) (hlen he) (fun g hg e=> ?_)).mono ?_
   . rcases e with e|e
     . exact hNo g hg e
     . have:=hJ.bl g e;omega
   . rintro e W' ⟨rfl,hR⟩;exact⟨rfl,step he hJ hR⟩
structure KJ (B gs gf:Nat)(No:Nat->Prop)(is:List It)(W:World):Prop where
 base:B<=gs/\B<=gf
 ne:gs≠gf
 no:¬No gs/\¬No gf
 s:ARow 301 W gs (symC is)
 f:ARow 302 W gf (farC is)
theorem Zj (is:List It)(k:Nat):symC (is++ [.sym k])=Sp (symC is) k/\farC (is++ [.sym k])=farC is:=by
 unfold symC farC QZ TV Cj;simp[List.filterMap_append,List.foldl_append]
theorem I0 (is:List It)(k:Nat):farC (is++ [.far k])=Sp (farC is) k/\symC (is++ [.far k])=symC is:=by
 unfold symC farC QZ TV Cj;simp[List.filterMap_append,List.foldl_append]
theorem Uf (is:List It)(n s:Nat):farC (is++ [.rest n s])=farC is/\symC (is++ [.rest n s])=symC is:=by
 unfold symC farC QZ TV Cj;simp[List.filterMap_append]
theorem Z21 (is:List It)(k:Nat):(symC is).getD k 0<=is.length/\0<=(symC is).getD k 0:=by
 by_cases hk:k<286
 . unfold symC;rw[Gr _ _ k (by simpa using hk),Hg];have h1:=YE (a:=k) (l:=QZ is);have h2:(QZ is).length<=is.length:=YT _ _;omega
 . have:(symC is).getD k 0=0:=by
    simp only[List.getD];rw[WA (by rw[Kx];omega)];rfl
   omega
theorem Z3n (is:List It)(k:Nat):(farC is).getD k 0<=is.length/\0<=(farC is).getD k 0:=by
 by_cases hk:k<30
 . unfold farC;rw[Gr _ _ k (by simpa using hk),Hg];have h1:=YE (a:=k) (l:=TV is);have h2:(TV is).length<=is.length:=YT _ _;omega
 . have:(farC is).getD k 0=0:=by
    simp only[List.getD];rw[WA (by rw[Ma];omega)];rfl
   omega
theorem GC (T:TypeId)(g k:Nat)(xs:List Int)(W:World)(hT:T=301)(h:ARow T W g xs)(hl:xs.length=286)(hk:k<286)(hx:0<=xs.getD k 0/\xs.getD k 0<=1000000):
 Calls Tryz.prog 246 #[.int .i64 (k:Int),.pointer (some ⟨g,0,none⟩)] W fun e w'=>e=.returned (.tuple #[])/\w'=W.setCell ⟨g,k,none⟩ (.int .i64 (xs.getD k 0+1)):=by
 have c:=h.cell k (by omega);have f:=h.frozen k;have hkI:(k:Int)<286:=by omega
 clear h hT;generalize xs.getD k 0=x at*;go_enter Tryz.func246,Tryz.ntmps246
 go_wp2;go_end0
 exact⟨rfl,rfl⟩
theorem GB (T:TypeId)(g k:Nat)(xs:List Int)(W:World)(hT:T=302)(h:ARow T W g xs)(hl:xs.length=30)(hk:k<30)(hx:0<=xs.getD k 0/\xs.getD k 0<=1000000):
 Calls Tryz.prog 247 #[.int .i64 (k:Int),.pointer (some ⟨g,0,none⟩)] W fun e w'=>e=.returned (.tuple #[])/\w'=W.setCell ⟨g,k,none⟩ (.int .i64 (xs.getD k 0+1)):=by
 have c:=h.cell k (by omega);have f:=h.frozen k;have hkI:(k:Int)<30:=by omega
 clear h hT;generalize xs.getD k 0=x at*;go_enter Tryz.func247,Tryz.ntmps247
 go_wp2;go_end0
 exact⟨rfl,rfl⟩
theorem GA (n s:Int)(W:World):Calls Tryz.prog 248 #[.int .i64 n,.int .i64 s] W fun e w'=>e=.returned (.tuple #[])/\w'=W:=by
 go_enter Tryz.func248,Tryz.ntmps248
 go_wp2;go_end0
 exact⟨rfl,rfl⟩
theorem Gg {f:Nat}{fn:Func}{c:Code}(hf:Tryz.prog.funcs[f]? =some fn)(hname:(fn.name== "runtime.NumGoroutine")=false)(hb:fn.body=some c):∀(args:Array Value) (w:World),(callFunc f args).run Tryz.prog w=.ok (.enter f args) w:=enters_of hf hname hb
theorem KJ.step {B gs gf g k:Nat}{No:Nat->Prop}{is is':List It}{W:World}{v:Value}(h:KJ B gs gf No is W)(hg:g=gs\/g=gf)(hs:ARow 301 (W.setCell ⟨g,k,none⟩ v) gs (symC is'))(hf:ARow 302 (W.setCell ⟨g,k,none⟩ v) gf (farC is')):
 KJ B gs gf No is' (W.setCell ⟨g,k,none⟩ v)/\Below B W (W.setCell ⟨g,k,none⟩ v)/\Kp No W (W.setCell ⟨g,k,none⟩ v):=by
 have hgr:=Ad W g k v;have hb:=h.base;have hn:=h.no;have hlt:=h.s.lt;refine⟨⟨h.base,h.ne,h.no,hs,hf⟩,(Below.refl B W).grown hgr (by omega) (fun j e=>by rw[<-VN e];rcases hg with e|e<;>rw[e]<;>omega),(Kp.refl No W).grown hgr (VC _) (fun j e=>by rw[<-VN e];rcases hg with e|e<;>rw[e];exact hn.1;exact hn.2)⟩
theorem ON (B gs gf:Nat)(all:List It)(hvi:∀i∈all,VI i)(hlen:all.length<=100000):
 Snk (KJ B gs gf) B 246 247 248 #[.pointer (some ⟨gs,0,none⟩)] #[.pointer (some ⟨gf,0,none⟩)] #[] all:=by
 have hl:∀ {is R:List It} {i:It},is++i::R=all->is.length<=100000/\VI i:=by
  intro is R i he;have h4:=congrArg List.length he;rw[VB,VH]at h4;exact⟨by omega,hvi i (by rw[<-he];simp)⟩
 refine⟨Gg Tryz.func246 (by kernel_rfl) rfl,Gg Tryz.func247 (by kernel_rfl) rfl,Gg Tryz.func248 (by kernel_rfl) rfl, ?_, ?_, ?_, ?_⟩
 . intro No No' is W W1 hJ hB hn;have l1:=hJ.s.lt;have l2:=hJ.f.lt;refine⟨hJ.base,hJ.ne,⟨fun e=> ?_,fun e=> ?_⟩,hJ.s.keep (hB.block _ l1),hJ.f.keep (hB.block _ l2)⟩
   . rcases hn gs e with h|h
     . exact hJ.no.1 h
     . omega
   . rcases hn gf e with h|h
     . exact hJ.no.2 h
     . omega
 . intro No is R k W he hJ hNo;have hk:k<286:=(hl he).2;have hle:=Z21 is k;have:=(hl he).1
   refine(GC _ gs k (symC is) W rfl hJ.s (Kx is) hk ⟨hle.2,by omega⟩).mono ?_;rintro e W' ⟨rfl,rfl⟩;refine⟨rfl,hJ.step (.inl rfl) ?_ ?_⟩
   . rw[(Zj is k).1];exact hJ.s.set k _
   . rw[(Zj is k).2];exact hJ.f.keep ((Ad W gs k _).block gf hJ.f.lt (fun e=>hJ.ne (VN e).symm))
 . intro No is R k W he hJ hNo;have hk:k<30:=(hl he).2;have hle:=Z3n is k;have:=(hl he).1
   refine(GB _ gf k (farC is) W rfl hJ.f (Ma is) hk ⟨hle.2,by omega⟩).mono ?_;rintro e W' ⟨rfl,rfl⟩;refine⟨rfl,hJ.step (.inr rfl) ?_ ?_⟩
   . rw[(I0 is k).2];exact hJ.s.keep ((Ad W gf k _).block gs hJ.s.lt (fun e=>hJ.ne (VN e)))
   . rw[(I0 is k).1];exact hJ.f.set k _
 . intro No is R n s W he hJ hNo;refine(GA n s W).mono ?_;rintro e W' ⟨rfl,rfl⟩;refine⟨rfl,⟨hJ.base,hJ.ne,hJ.no, ?_, ?_⟩,Below.refl _ _,Kp.refl _ _⟩
   . rw[(Uf is n s).2];exact hJ.s
   . rw[(Uf is n s).1];exact hJ.f
end Go.Proofs.YtieianhejdcgdaaGreatDoor
namespace Go.Proofs.YtieianhejdcgdaaGreatDoor
open Go.RowKit
set_option linter.unusedVariables false
theorem EV:(Tryz.prog.info? 344).map (fun i=>(i.zero,i.size,i.bytes))=some (some (.agg #[.slice none 0 0,.slice none 0 0]),2,48):=by kernel_rfl
theorem StSt.made {w W:World}{m:Nat}(Ws:List Int)(A B:Nat->Nat)(hO:W.ownsRow w.heap.size 344 2 (.slice (some ⟨w.heap.size,0,none⟩) m m) m (madeCells #[.slice none 0 0,.slice none 0 0] (m*2)).toList)(hg:w.grownBy W none):StSt w W w.heap.size m Ws 0 A B:=by
 have hc:∀j,j<m*2->W.cell? ⟨w.heap.size,j,none⟩=some (.slice none 0 0):=by
  intro j hj;rw[hO.cellAt j hj];have h2:j%2=0\/j%2=1:=by omega
  rcases h2 with h2|h2<;>simp[madeCells,hj,h2]
 refine⟨VC _,(hO.lt _ rfl).2,fun j=>hO.frozenAt j,fun i hi=>by omega,fun i _ hi=>⟨hc _ (by omega),hc _ (by omega)⟩,fun i hi=>by omega,fun i hi=>by omega,(Below.refl w.heap.size w).grown hg (VC _) (fun j h=>by cases h)⟩
set_option maxRecDepth 100000 in
theorem P7 (gw n c m:Nat)(Ws:List Int)(w:World)(hl:Ws.length=n)(hn:n<=288)(hc:n<=c)(hcm:c<=maxLen)(hm:m<=15)(hb:∀x∈Ws,0<=x/\x<=1000000)(hW:WRow w gw Ws):
 Calls Tryz.prog 268 #[.slice (some ⟨gw,0,none⟩) n c,.int .i64 m] w fun e w'=>∃g A B,e=.returned (.slice (some ⟨g,0,none⟩) m m)/\StSt w w' g m Ws m A B:=by
 obtain⟨i0,hi,hz0,hz1,hz2⟩:=info_parts EV;have HW:=Ab hW;have HBd:=Ab hb;have hgw:=hW.lt;clear hW hb;go_enter Tryz.func268,Tryz.ntmps268
 go_wp2_with (at_make;refine wpList_make_full _ rfl _ _ 339 rfl w.heap.size 344 i0 (.agg #[.slice none 0 0,.slice none 0 0]) 2 Tryz.underlying339 hi hz0 hz1 _ _ _ _ m rfl rfl rfl rfl (by rw[hz2];omega) (by unfold maxLen;omega) (by simp) ?_)
 intro w1 hown hgrow;have H0:=Ab (StSt.made Ws (fun _=>0) (fun _=>0) hown hgrow);clear hown hgrow;generalize hgg:w.heap.size=g at*;have HGG:=Ab hgg;clear hgg;go_wp2;go_loopw [6,7,11] (fun va _ i wr=>∃(k:Nat) (A B:Nat->Nat),k<=m/\i=.int .i64 k/\StSt w wr g m Ws k A B/\((k=0/\va=.slice none 0 0)\/ (0<k/\va=.slice (some ⟨A (k-1),0,none⟩) (rowAt Ws (k-1)).length (rowAt Ws (k-1)).length))) (fun _ _ i _=>m-(intOf i).toNat)
 case atStart=>exact⟨0,_,_,VM _,rfl,Aa H0,.inl ⟨rfl,rfl⟩⟩
 case round=>
  obtain⟨k,A,B,hk,rfl,hS,hva⟩:=hrel;have HS:=Ab hS
  by_cases hlt:k<m
  . 
    obtain⟨a0,N0,ys,hv,hlen,hN0,hRy,hby,hrow⟩:∃(a0:Option Addr) (N0:Nat) (ys:List Int),u6=.slice a0 N0 N0/\ys.length=N0/\N0<=576/\RowIn .i64 wr a0 ys/\(∀j,0<=ys.getD j 0/\ys.getD j 0<=1000000000000)/\rowAt Ws k=mrg Ws (prs ys):=by
     rcases hva with ⟨h1,h2⟩|⟨h1,h2⟩
     . exact⟨none,0,[],h2,rfl,by omega,.inl rfl,fun j=>by simp,by rw[h1,rowAt];rfl⟩
     . refine⟨some ⟨A (k-1),0,none⟩,(rowAt Ws (k-1)).length,(rowAt Ws (k-1)).map Prod.fst,h2,by simp, ?_,(hS.ws (k-1) (by omega)).2.2.row,Q5 Ws (Aa HBd) (k-1) (by omega), ?_⟩
       . have:=Ik Ws (k-1);omega
       . obtain⟨q,rfl⟩:∃q,k=q+1:=⟨k-1,by omega⟩
         rw[XW,rowAt]
    subst hv;have HRy:=Ab hRy;have HBy:=Ab hby;have HRow:=Ab hrow;have HLen:=Ab hlen;have hz:w.heap.size<=wr.heap.size:=hS.bel.size;have HWr:Hid (WRow wr gw Ws):=(Aa HW).below hS.bel (Aa HW).lt;clear hva hRy hby hrow hS H0;go_wp2_with fail
    refine(LA a0 N0 N0 ys wr hlen (by omega) (Aa HRy) (Aa HBy)).mono ?_;rintro e w2 ⟨gp,rfl,hWp,hBp,hgp⟩;have HS2:=Ab ((Aa HS).below hBp);have HWw:=Ab ((Aa HWr).below hBp (Aa HWr).lt);have HWp:=Ab hWp;have hz2':=hBp.size;have hle:(prs ys).length=N0/2:=by rw[Eo,hlen]
    have HLe:=Ab hle;have hN1:N0/2<=288:=by omega
    clear hWp hBp;go_wp2_with fail
    refine(LQ gw 0 gp 0 n c (N0/2) (N0/2) Ws (prs ys) w2 hl (Aa HLe) (by omega) (by omega) hc (VC _) hcm (by unfold maxLen;omega) (Aa HWw).lt (Aa HWp).lt (fun j hj=>by rw[WI];exact((Aa HWw).at_ j hj).1) (fun j hj=>by rw[WI];exact((Aa HWp).at_ j hj).1)).mono ?_;rintro e w3 ⟨g1,g2,rfl,hW3,hF3,hB3,hg1,hg2⟩;have hS3:=(Aa HS2).below hB3;rw[<-Aa HRow]at hW3 hF3;have hLL:n+N0/2=(rowAt Ws k).length:=by rw[Aa HRow,Be,hl,Aa HLe]
    have hgl:=(Aa HS2).ghi;have hglo:=(Aa HS2).glo;have hN:=Ab (hS3.next hlt g1 g2 ⟨by omega,by omega⟩ ⟨by omega,by omega⟩ hW3 hF3 (n+N0/2) hLL);have c0:=(hS3.todo k (VC _) hlt).1;have c1:=(hS3.todo k (VC _) hlt).2;have f0:=hS3.fz (k*2);have f1:=hS3.fz (k*2+1);have q0:=((Aa hN).done k (by omega)).1;simp only[if_true]at q0;rw[<-hLL]at q0;have HLL:=Ab hLL;have hkm:(k:Int)<(m:Int):=by omega
    clear hW3 hF3 hB3 hS3 hLL HS HS2;generalize hLg:n+N0/2=L at*;clear hLg;go_wp2;go_roundw
    case rel=>
     refine⟨k+1,_,_,by omega,by go_num,Aa hN,.inr ⟨by omega, ?_⟩⟩;simp only[XW,if_true];rw[Aa HLL]
    case measure=>simp[intOf];omega
  . obtain rfl:k=m:=by omega
    clear hS hva;go_wp2;go_ret;exact⟨g,A,B,rfl,Aa HS⟩
theorem Td {w w':World}(h:Below w.heap.size w w')(r:Option Nat):w.grownBy w' r:=⟨h.os,h.tape,h.output,h.size,fun i hi _=>h.block i hi⟩
theorem StSt.grown {w W W':World}{g m:Nat}{Ws:List Int}{k:Nat}{A B:Nat->Nat}{r:Nat}(h:StSt w W g m Ws k A B)(hg:W.grownBy W' (some r))(hr:r<w.heap.size):
 (∀i,i<k->W'.cell? ⟨g,i*2,none⟩=some (.slice (some ⟨A i,0,none⟩) (rowAt Ws i).length (rowAt Ws i).length)/\W'.cell? ⟨g,i*2+1,none⟩=some (.slice (some ⟨B i,0,none⟩) (rowAt Ws i).length (rowAt Ws i).length))/\(∀i,i<k->BRow W' (B i) ((rowAt Ws i).map Prod.snd)):=by
 have hgl:=h.glo;refine⟨fun i hi=>⟨hg.cell (h.done i hi).1 (by simp;omega),hg.cell (h.done i hi).2 (by simp;omega)⟩,fun i hi=> ?_⟩;obtain⟨q1,q2,q3⟩:=h.fs i hi;exact q3.grown hg (by simp;omega)
set_option maxRecDepth 100000 in
theorem EH (a:Option Addr)(len cap:Nat)(l:List Int)(m:Nat)(w:World)(hl:l.length=len)(hR:RowIn .i64 w a l)(hG:GoodW l m):
 Calls Tryz.prog 249 #[.slice a len cap,.int .i64 m] w fun e w'=>∃g s,e=.returned (.tuple #[.slice (some ⟨g,0,none⟩) len len,.int .i64 0])/\IsLens l m s/\s.length=len/\WRow w' g s/\Below w.heap.size w w'/\w.heap.size<=g:=by
 obtain⟨i0,hi,hz0,hz1,hz2⟩:=info_parts Cn;have hlen:=hG.len;have hm1:=hG.lo;have hm15:=hG.hi;have HG:=Ab hG;have HR:=Ab hR;have HL:=Ab hl;have HC0:=CU a len cap l m w hl (by omega) hR;rw[NL hG]at HC0;have HC:=Ab HC0;clear hR hG HC0;go_enter Tryz.func249,Tryz.ntmps249
 go_wp2_with fail
 refine(Aa HC).mono ?_;rintro e w1 ⟨rfl,rfl⟩;clear HC;go_wp2_with (at_make;refine wpList_make_full _ rfl _ _ 81 rfl w1.heap.size 3 i0 (.int .i64 0) 1 Tryz.underlying81 hi hz0 hz1 _ _ _ _ len rfl rfl rfl rfl (by rw[hz2];omega) (by unfold maxLen;omega) (by simp) ?_)
 intro w2 hown hgrow;have e0:(madeCells #[Value.int .i64 0] len).toList=iv (List.replicate len 0):=Qz len;rw[e0]at hown;have HW:=Ab (WRow.own hown);have HB:=Ab ((Below.refl w1.heap.size w1).grown hgrow (VC _) (fun j h=>by cases h));clear hown hgrow e0;obtain⟨g0,hg0⟩:∃g0,w1.heap.size=g0:=⟨_,rfl⟩
 rw[hg0]at HW;rw[hg0];have HG0:=Ab hg0;have hg2:=(Aa HW).lt;clear hg0;go_wp2_with fail
 refine(DQ a len cap l w2 hl (by omega) ((Aa HR).below (Aa HB) (VC _))).mono ?_;rintro e w3 ⟨vP,P,rfl,hRi,hB3,hP⟩;have HRi:=Ab hRi;have hPlt:=hRi.lt;have hPlen:=hRi.length;have hwle:=Pt l l.length;have HB3:=Ab ((Aa HB).trans (hB3.mono (Aa HB).size));have HW3:=Ab ((Aa HW).below hB3 (Aa HW).lt);have hz3:=hB3.size;have HPlt:=Ab hPlt;have HPlen:=Ab hPlen;have hP288:P.length<=288:=by omega
 clear hRi hPlt hB3 HW HB
 rcases hP with ⟨rfl,rfl⟩|⟨gP,cP,rfl,hcP,hcm,hgP,hWP⟩
 . 
   go_wp2_with fail
   refine(Iu g0 len len (List.replicate len 0) none 0 0 [] w3 (by simp) rfl (by omega) (by omega) (Aa HW3) (.inl rfl) (fun b o h=>by cases h) (fun p h=>by cases h) (fun j=>by by_cases h:j<len<;>simp[List.getD,h])).mono ?_;rintro e w4 ⟨rfl,hW4,hg4⟩;have HW4:=Ab hW4;have HB4:Hid (Below w1.heap.size w1 w4):=(Aa HB3).grown hg4 (Aa HB3).size (fun j h=>by cases h;exact ZJ (Aa HG0));clear hW4 hg4;go_wp2;go_ret2;exact⟨g0,_,rfl,⟨[],Aa HRi,by unfold Cl;rw[if_pos (by simp),hl]⟩,by rw[Bo];simp,Aa HW4,Aa HB4,ZJ (Aa HG0)⟩
 . have HWP:=Ab hWP;have hgPlt:=hWP.lt;clear hWP;obtain⟨N,hN⟩:∃N,P.length=N:=⟨_,rfl⟩
   rw[hN]at hcP hP288;rw[hN];have HN:=Ab hN;clear hN hPlen
   by_cases h2:N<2
   . 
     have h2I:(N:Int)<2:=by omega
     have HLn:=Ab (Iu g0 len len (List.replicate len 0) (some ⟨gP,0,none⟩) N cP P w3 (by simp) (Aa HN) (by omega) (by omega) (Aa HW3) (Aa HWP).row (fun b o h=>by cases h;omega) (fun p hp=>by have:=Aa HPlt p hp;omega) (fun j=>by by_cases h:j<len<;>simp[List.getD,h]));go_wp2_with fail
     refine(Aa HLn).mono ?_;rintro e w4 ⟨rfl,hW4,hg4⟩;have HW4:=Ab hW4;have HB4:Hid (Below w1.heap.size w1 w4):=(Aa HB3).grown hg4 (Aa HB3).size (fun j h=>by cases h;exact ZJ (Aa HG0));clear hW4 hg4;go_wp2;go_ret2;exact⟨g0,_,rfl,⟨P,Aa HRi,by unfold Cl;rw[if_pos (by rw[Aa HN];exact h2),hl]⟩,by rw[Bo];simp,Aa HW4,Aa HB4,ZJ (Aa HG0)⟩
   . have h2I:¬(N:Int)<2:=by omega
     have HWt:=Ab (Vp a len cap l (some ⟨gP,0,none⟩) N cP P w3 hl (Aa HN) (by omega) (by omega) ((Aa HR).below (Aa HB3) (VC _)) (Aa HWP).row (fun p hp=>by have:=Aa HPlt p hp;omega));go_wp2_with fail
     refine(Aa HWt).mono ?_;rintro e w4 ⟨gw,rfl,hWw,hB4,hgw⟩;have HWw:=Ab hWw;have hz4:=hB4.size;have HB4:=Ab ((Aa HB3).trans (hB4.mono (Aa HB3).size));have HW4:=Ab ((Aa HW3).below hB4 (Aa HW3).lt);have HWP4:=Ab ((Aa HWP).below hB4 (Aa HWP).lt)
     have hWsb:∀x∈(P.map fun p=>l.getD p 0),0<=x/\x<=1000000:=by
      intro x hx;obtain⟨p,hp,rfl⟩:=WY.1 hx;exact(Aa HG).ok p (Aa HPlt p hp)
     have HWsb:=Ab hWsb;have HLO:Hid (Cl l P m=Ez len P (P.map fun p=>l.getD p 0) m m):=by unfold Hid Cl;rw[if_neg (by rw[Aa HN];exact h2),hl]
     have HWl:Hid ((P.map fun p=>l.getD p 0).length=N):=by rw[WN];exact HN
     have HRoom:Hid (N<=2^m):=by have h:=(Aa HG).room;rw[<-Aa HPlen,Aa HN]at h;exact h
     clear hWw hB4 hWsb HW3 HWP HB3 HWt;generalize (P.map fun p=>l.getD p 0)=Ws at*;have HSs:=Ab (P7 gw N N m Ws w4 (Aa HWl) (by omega) (VC _) (by unfold maxLen;omega) hm15 (Aa HWsb) (Aa HWw));go_wp2_with fail
     refine(Aa HSs).mono ?_;rintro e w5 ⟨gs,A,B,rfl,hSt⟩;have HSt:=Ab hSt;have HW5:=Ab ((Aa HW4).below hSt.bel (by omega));have HWP5:=Ab ((Aa HWP4).below hSt.bel (by omega));have HB5:=Ab ((Aa HB4).trans (hSt.bel.mono (Aa HB4).size));have hz5:=hSt.bel.size;have E0:Hid (2*((N:Int)-1)=((Ck Ws m 0:Nat):Int)):=by unfold Hid;rw[Ck,Aa HWl];omega
     clear hSt HW4 HWP4 HB4 HWw HSs;unfold maxLen at hcm;go_wp2;go_loopw [10,11,12,41] (fun vt _ _ vi wr=>∃i:Nat,i<=m/\vi=.int .i64 i/\vt=.int .i64 ((Ck Ws m i:Nat):Int)/\w5.grownBy wr (some g0)/\WRow wr g0 (Ez len P Ws m i)) (fun _ _ _ vi _=>m-(intOf vi).toNat)
     case atStart=>exact⟨0,VM _,rfl,congrArg (Value.int .i64) (Aa E0),Ap _ _,Aa HW5⟩
     case round=>
      obtain⟨i,him,rfl,rfl,hgr,hWi⟩:=hrel;have HGr:=Ab hgr;have HWi:=Ab hWi
      by_cases hlt:i<m
      . obtain⟨q,hq⟩:∃q,q=m-1-i:=⟨_,rfl⟩
        obtain⟨hcells,hfs⟩:=(Aa HSt).grown hgr (by omega);have c0:=(hcells q (by omega)).1;have c1:=(hcells q (by omega)).2;have HFq:=Ab (hfs q (by omega));have HWPi:=Ab ((Aa HWP5).grown hgr (by simp;omega));have hW1:1<=Ws.length:=by rw[Aa HWl];omega
        have hTL:=Kw Ws m hW1 hm1 (by rw[Aa HWl];exact Aa HRoom) i hlt;have hAT:=Nz Ws m i;have hAN:=Vj Ws m i;rw[Aa HWl]at hAN
        have hEA:Hy ((rowAt Ws q).map Prod.snd) (Ck Ws m i)=Ba Ws m i:=by
         unfold Ba;rw[<-hq];rw[<-hq]at hTL;exact(Ny _ _ hTL).symm
        have HEA:=Ab hEA;rw[<-hq]at hTL;have hrl:=Ik Ws q;rw[Aa HWl]at hrl;have HT:Hid (Ck Ws m (i+1)=2*(Ck Ws m i-Ba Ws m i)):=rfl;have HLs:Hid (Ez len P Ws m (i+1)=Cj (Ez len P Ws m i) (P.take (Ba Ws m i))):=rfl;have HBd:=Ab (Nt len P Ws m (by rw[Aa HN];omega) i);have HLl:=Ab (Eg len P Ws m i);have HFl:Hid (((rowAt Ws q).map Prod.snd).length=(rowAt Ws q).length):=by unfold Hid;simp
        have ea:((m:Int)-1-(i:Int)).toNat=q:=by omega
        have pa:(0:Int)<=(m:Int)-1-(i:Int):=by omega
        have ba:(m:Int)-1-(i:Int)<(m:Int):=by omega
        clear hgr hWi hcells hfs hEA hq;generalize Ck Ws m i=T at*;generalize Ba Ws m i=al at*;generalize (rowAt Ws q).length=Lq at*;generalize (rowAt Ws q).map Prod.snd=fs at*;generalize Ez len P Ws m i=li at*;generalize A q=Aq at*;generalize B q=Bq at*;have HAl:=Ab (Ti (.slice (some ⟨Aq,0,none⟩) Lq Lq) rfl Bq Lq Lq T fs wr (Aa HFl) hTL (by omega) (Aa HFq));go_wp2_with fail
        refine(Aa HAl).mono ?_;rintro e w6 ⟨rfl,hB6⟩;rw[Aa HEA];have HGr6:=Ab (Aj (Aa HGr) (Td hB6 (some g0)));have HWi6:=Ab ((Aa HWi).below hB6 (Aa HWi).lt);have HWP6:=Ab ((Aa HWPi).below hB6 (Aa HWPi).lt)
        have hpt:RowIn .i64 w6 (some ⟨gP,0,none⟩) (ni (P.take al)):=.inr ⟨gP,0,rfl,(Aa HWP6).lt,fun j hj=>by
         have hj':j<al/\j<P.length:=by simp at hj;omega
         rw[WI,((Aa HWP6).at_ j (by simpa using hj'.2)).1];simp[List.getD,hj'.1,hj'.2]⟩
        have HLn:=Ab (Iu g0 len len li (some ⟨gP,0,none⟩) al cP (P.take al) w6 (Aa HLl) (by rw[VL,Aa HN];omega) (by omega) (by omega) (Aa HWi6) hpt (fun b o h=>by cases h;omega) (fun p hp=>by have:=Aa HPlt p (VS hp);omega) (fun j=>by have:=Aa HBd j;omega));have hal:(al:Int)<=(cP:Int):=by omega
        have halN:al<=N:=hAN;clear hB6 hpt HAl c0 c1 ea pa ba;go_wp2_with fail
        refine(Aa HLn).mono ?_;rintro e w7 ⟨rfl,hW7,hg7⟩;have HW7:=Ab hW7;have HG7:=Ab (Aj (Aa HGr6) hg7);clear hW7 hg7 HLn;go_wp2;go_roundw
        case rel=>exact⟨i+1,by omega,by go_num,by rw[Aa HT];go_num,Aa HG7,by rw[Aa HLs];exact Aa HW7⟩
        case measure=>simp[intOf];omega
      . obtain rfl:i=m:=by omega
        have HBf:Hid (Below w1.heap.size w1 wr):=(Aa HB5).grown hgr (Aa HB5).size (fun j h=>by cases h;exact ZJ (Aa HG0));clear hgr hWi;go_wp2;go_ret2;exact⟨g0,_,rfl,⟨P,Aa HRi,(Aa HLO).symm⟩,Eg _ _ _ _ _,Aa HWi,Aa HBf,ZJ (Aa HG0)⟩
end Go.Proofs.YtieianhejdcgdaaGreatDoor
