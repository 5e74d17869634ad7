import Derived.Test.YtieianhejdcgdaaGreatDoorQ34
import Derived.Deep.OwnRows
import Derived.Deep.CutBlock
set_option linter.unusedSimpArgs false
set_option maxHeartbeats 2000000
namespace Go.Proofs.YtieianhejdcgdaaGreatDoor
open Go.RowKit
set_option linter.unusedVariables false
set_option maxRecDepth 100000
theorem Dx (w:World)(R X1 X2 X3:Obj):((((w.alloc R).alloc X1).alloc X2).alloc X3).drew.heap[w.heap.size]? =some R/\((((w.alloc R).alloc X1).alloc X2).alloc X3).drew.heap[w.heap.size+1]? =some X1/\((((w.alloc R).alloc X1).alloc X2).alloc X3).drew.heap[w.heap.size+1+1]? =some X2/\((((w.alloc R).alloc X1).alloc X2).alloc X3).drew.heap[w.heap.size+1+1+1]? =some X3/\Below w.heap.size w ((((w.alloc R).alloc X1).alloc X2).alloc X3).drew:=by
 refine⟨?_, ?_, ?_, ?_,Af (((((Below.refl w.heap.size w).alloc (VC _) _).alloc (by simp) _).alloc (by simp;omega) _).alloc (by simp;omega) _) 1⟩
 all_goals (simp only[World.alloc,World.drew,XZ,YS];simp[WJ])
structure EvSt (w:World)(N:Nat)(W:World)(g3 ga gb:Nat):Prop where
 lo:w.heap.size<g3/\w.heap.size<ga/\w.heap.size<gb
 ne:g3≠ga/\g3≠gb/\ga≠gb
 blk:W.heap[g3]? =some (.cells #[.slice none 0 0,.slice (some ⟨ga,0,none⟩) 257 257,.slice (some ⟨gb,0,none⟩) 1 1] 260 (0,0))
 ra:W.heap[ga]? =some (.cells (madeCells #[Value.int .i64 0] N) 3 (0,0))
 rb:W.heap[gb]? =some (.cells (madeCells #[Value.int .i64 0] 1) 3 (0,0))
 res:W.heap[w.heap.size]? =some (.cells #[.slice none 0 0,.slice none 0 0,.slice none 0 0] 260 (0,0))
 bel:Below w.heap.size w W
theorem TX (a:Option Addr)(len cap:Nat)(bs:List Nat)(w:World)(hl:bs.length=len)(hlen:len<=3000)(hB:BytesIn w a bs)(hx:∀j,bs.getD j 0<256):
 Calls Tryz.prog 192 #[.slice a len cap] w fun e w'=>∃a1 c1 b1 b2,e=.returned (.agg #[.slice a1 len c1,.slice (some ⟨b1,0,none⟩) 257 257,.slice (some ⟨b2,0,none⟩) 1 1])/\PlanIs w' a1 len b1 257 b2 1 (Dq bs) Jw Om/\w.heap.size<=b1/\w.heap.size<=b2/\(∀b o,a1=some ⟨b,o,none⟩->Dq bs≠ []->w.heap.size<=b)/\Below w.heap.size w w':=by
 obtain⟨i0,hi,hz0,hz1,hz2⟩:=info_parts BK;obtain⟨N,hN⟩:∃N:Nat,N=257:=⟨_,rfl⟩
 have mk1:∀W:World,(Instr.makeSlice 81 (.int .i64 257) (.int .i64 257)).run Tryz.prog W=.ok (.slice (some ⟨W.heap.size,0,none⟩) 257 257) (W.alloc (.cells (madeCells #[.int .i64 0] N) 3)):=fun W=>by rw[hN];exact run_make_row' (P:=Tryz.prog) 81 3 (.int .i64 0) 8 Tryz.underlying81 Cn rfl .i64 .i64 257 (by decide) (by decide) W
 have mk2:∀W:World,(Instr.makeSlice 81 (.int .i64 1) (.int .i64 1)).run Tryz.prog W=.ok (.slice (some ⟨W.heap.size,0,none⟩) 1 1) (W.alloc (.cells (madeCells #[.int .i64 0] 1) 3)):=fun W=>run_make_row' (P:=Tryz.prog) 81 3 (.int .i64 0) 8 Tryz.underlying81 Cn rfl .i64 .i64 1 (by decide) (by decide) W
 have HN:=Ab hN;have HL:=Ab hl;have HB:=Ab hB;have HX:=Ab hx;clear hl hB hx hN;go_enter Tryz.func192,Tryz.ntmps192
 go_upto_region 1 with (fail)
 go_cut [3] (fun v wc=>∃g3 ga gb,v=.pointer (some ⟨g3,0,none⟩)/\Hid (EvSt w N wc g3 ga gb))
 case first=>
  go_big_region
  all_goals go_wp2_with fail
  all_goals go_meet
  all_goals first
   |exact⟨w.heap.size+1,w.heap.size+1+1,w.heap.size+1+1+1,rfl,Ab ⟨⟨by omega,by omega,by omega⟩,⟨by omega,by omega,by omega⟩,(Dx w _ _ _ _).2.1,(Dx w _ _ _ _).2.2.1,(Dx w _ _ _ _).2.2.2.1,(Dx w _ _ _ _).1,(Dx w _ _ _ _).2.2.2.2⟩⟩
   |exact⟨w.heap.size+1,w.heap.size+1+1+1,w.heap.size+1+1,rfl,Ab ⟨⟨by omega,by omega,by omega⟩,⟨by omega,by omega,by omega⟩,(Dx w _ _ _ _).2.1,(Dx w _ _ _ _).2.2.2.1,(Dx w _ _ _ _).2.2.1,(Dx w _ _ _ _).1,(Dx w _ _ _ _).2.2.2.2⟩⟩
   |exact⟨w.heap.size+1+1,w.heap.size+1,w.heap.size+1+1+1,rfl,Ab ⟨⟨by omega,by omega,by omega⟩,⟨by omega,by omega,by omega⟩,(Dx w _ _ _ _).2.2.1,(Dx w _ _ _ _).2.1,(Dx w _ _ _ _).2.2.2.1,(Dx w _ _ _ _).1,(Dx w _ _ _ _).2.2.2.2⟩⟩
   |exact⟨w.heap.size+1+1,w.heap.size+1+1+1,w.heap.size+1,rfl,Ab ⟨⟨by omega,by omega,by omega⟩,⟨by omega,by omega,by omega⟩,(Dx w _ _ _ _).2.2.1,(Dx w _ _ _ _).2.2.2.1,(Dx w _ _ _ _).2.1,(Dx w _ _ _ _).1,(Dx w _ _ _ _).2.2.2.2⟩⟩
   |exact⟨w.heap.size+1+1+1,w.heap.size+1,w.heap.size+1+1,rfl,Ab ⟨⟨by omega,by omega,by omega⟩,⟨by omega,by omega,by omega⟩,(Dx w _ _ _ _).2.2.2.1,(Dx w _ _ _ _).2.1,(Dx w _ _ _ _).2.2.1,(Dx w _ _ _ _).1,(Dx w _ _ _ _).2.2.2.2⟩⟩
   |exact⟨w.heap.size+1+1+1,w.heap.size+1+1,w.heap.size+1,rfl,Ab ⟨⟨by omega,by omega,by omega⟩,⟨by omega,by omega,by omega⟩,(Dx w _ _ _ _).2.2.2.1,(Dx w _ _ _ _).2.2.1,(Dx w _ _ _ _).2.1,(Dx w _ _ _ _).1,(Dx w _ _ _ _).2.2.2.2⟩⟩
 case rest=>
  obtain⟨g3,ga,gb,rfl,hst⟩:=hcut;have hE:=Aa hst;have hlo:=hE.lo;have hne:=hE.ne;have hz:=hE.bel.size;have lr:=(VG.1 hE.res).1;have l3:=(VG.1 hE.blk).1;have la:=(VG.1 hE.ra).1;have lb:=(VG.1 hE.rb).1;clear mk1 mk2 hE;generalize wc=w0 at*;go_wp2;go_loopw [12] (fun v wr=>∃k:Nat,k<=len/\v=.int .i64 (k:Int)/\Hid (∃ov,wr.heap[g3]? =some (.cells #[ov,.slice (some ⟨ga,0,none⟩) 257 257,.slice (some ⟨gb,0,none⟩) 1 1] 260 (0,0))/\wr.ownsRow w0.heap.size 248 3 ov k (tvs (Dq (bs.take k)))/\(∀j,j<w0.heap.size->j≠g3->wr.heap[j]? =w0.heap[j]?)/\Below w.heap.size w wr/\w0.heap.size<=wr.heap.size)) (fun v _=>len-(intOf v).toNat)
  case atStart=>exact⟨0,VM _,rfl,Ab ⟨.slice none 0 0,(Aa hst).blk,World.ownsRow_nil _ _ _ _,fun j _ _=>rfl,(Aa hst).bel,VC _⟩⟩
  case round=>
   obtain⟨k,hk,rfl,hr⟩:=hrel;obtain⟨ov,h1,h2,h3,h4,h5⟩:=Aa hr
   by_cases hlt:k<len
   . obtain⟨b,o,rfl,hb,hBy⟩:=Ca (Aa HB) (by rw[Aa HL];omega);have cb:=(h4.cell (p:=⟨b,o+k,none⟩) hb).trans (hBy k (by rw[Aa HL];exact hlt));have hx:=Aa HX k
     have hstep:Dq (bs.take (k+1))=Dq (bs.take k)++ [(bs.getD k 0,0,0)]:=by
      have hk2:k<bs.length:=by rw[Aa HL];exact hlt
      have e:bs.take (k+1)=bs.take k++ [bs.getD k 0]:=by
       rw[XH];simp[List.getD,hk2]
      rw[e];simp[Dq]
     obtain⟨x,hxx⟩:∃x,bs.getD k 0=x:=⟨_,rfl⟩
     rw[hxx]at cb hx hstep;have HST:=Ab hstep;have c0:wr.cell? ⟨g3,0,none⟩=some ov:=Ac h1;have f0:=frozen_of_row wr g3 0 _ _ h1;have hkI:(k:Int)<(len:Int):=by omega
     have HO:=Ab (h2.alloc (.cells #[.int .u8 (x:Int),.int .i64 0,.int .i64 0] 248));have HCw:=Ab (Zb wr (.int .u8 (x:Int)) (.int .i64 0) (.int .i64 0) 248);have hov:∀g,ov.ownBlock=some g->w0.heap.size<=g/\g<wr.heap.size:=fun g e=>h2.lt g e
     have HOV:=Ab hov;have H1:=Ab h1;have H3:=Ab h3;have H4:=Ab h4;clear hr h1 h2 h3 h4 hstep hBy hxx hov;go_wp2_with (at_builtin;refine wpList_append_own_at _ rfl _ _ 219 rfl w0.heap.size 248 i0 _ 3 24 Tryz.underlying219 hi hz0 hz1 hz2 rfl (by decide) ov k (tvs (Dq (bs.take k))) rfl (Aa HO) ⟨wr.heap.size,0,none⟩ 1 1 [.int .u8 (x:Int),.int .i64 0,.int .i64 0] rfl rfl (Aa HCw) (by intro u hu;simp at hu;rcases hu with rfl|rfl|rfl<;>rfl) (by unfold maxLen;omega) (by omega) (by simp;omega) ?_)
     intro v' w3 hO3 hgrow _ hspot;have hzg:=hgrow.size;simp only[World.size_alloc]at hzg;have hg3:w3.heap[g3]? =some (.cells #[ov,.slice (some ⟨ga,0,none⟩) 257 257,.slice (some ⟨gb,0,none⟩) 1 1] 260 (0,0)):=(hgrow.block g3 (by simp;omega) (fun e=>by have:=Aa HOV g3 e.symm;omega)).trans ((Below.heap_alloc wr _ g3 (by omega)).trans (Aa H1));have q0:w3.cell? ⟨g3,0,none⟩=some ov:=Ac hg3;have qf0:=frozen_of_row w3 g3 0 _ _ hg3
     have HFIN:Hid (∃ov,(w3.setCell ⟨g3,0,none⟩ v').heap[g3]? =some (.cells #[ov,.slice (some ⟨ga,0,none⟩) 257 257,.slice (some ⟨gb,0,none⟩) 1 1] 260 (0,0))/\(w3.setCell ⟨g3,0,none⟩ v').ownsRow w0.heap.size 248 3 ov (k+1) (tvs (Dq (bs.take (k+1))))/\(∀j,j<w0.heap.size->j≠g3->(w3.setCell ⟨g3,0,none⟩ v').heap[j]? =w0.heap[j]?)/\Below w.heap.size w (w3.setCell ⟨g3,0,none⟩ v')/\w0.heap.size<=(w3.setCell ⟨g3,0,none⟩ v').heap.size):=by
      have hs:=Ad w3 g3 0 v';have hsz:=hs.size;refine⟨v', ?_, ?_, ?_, ?_,by omega⟩
      . rw[heap_setCell_same _ g3 0 _ _ _ hg3];rfl
      . rw[Aa HST,Ts];refine hO3.kept hs ?_
        cases hx:v'.ownBlock with
        |none=>exact .inl rfl
        |some g=>
         refine .inr (fun e=> ?_);have:=(hO3.lt g hx).1
         cases e
         omega
      . intro j hj hne;rw[hs.block j (by omega) (fun e=>hne (VN e)),hgrow.block j (by simp;omega) (fun e=>by have:=Aa HOV j e.symm;omega),Below.heap_alloc wr _ j (by omega)];exact Aa H3 j hj hne
      . have b1:=(Aa H4).alloc (by omega) (.cells #[.int .u8 (x:Int),.int .i64 0,.int .i64 0] 248);have b2:=b1.grown hgrow (by simp;omega) (fun g e=>by have:=Aa HOV g e;omega);exact b2.grown hs (by omega) (fun g e=>by have:=VN e;omega)
     obtain⟨g9,c9,hv9,_,_⟩:=Bt hO3 (by omega);subst hv9;clear hO3 hgrow hspot hg3 c0 f0 cb HO HCw HOV H1 H3 H4 HST hzg;go_wp2;go_roundw
     case rel=>exact⟨k+1,by omega,by go_num,HFIN⟩
     case measure=>simp[intOf];omega
   . obtain rfl:k=len:=by omega
     have e:bs.take k=bs:=VP (by rw[Aa HL];exact VC _);rw[e]at h2;obtain⟨a1,c1,rfl⟩:=Ao h2;have hra:wr.heap[ga]? =some (.cells (madeCells #[Value.int .i64 0] N) 3 (0,0)):=(h3 ga la (fun e=>hne.1 e.symm)).trans (Aa hst).ra;have hrb:wr.heap[gb]? =some (.cells (madeCells #[Value.int .i64 0] 1) 3 (0,0)):=(h3 gb lb (fun e=>hne.2.1 e.symm)).trans (Aa hst).rb;have hres:wr.heap[w.heap.size]? =some (.cells #[.slice none 0 0,.slice none 0 0,.slice none 0 0] 260 (0,0)):=(h3 _ lr (by omega)).trans (Aa hst).res;obtain⟨EA,hEA⟩:∃EA:List Int,EA=List.replicate 257 8:=⟨_,rfl⟩
     have hEl:EA.length=257:=by rw[hEA];simp
     have hEg:∀j,j<257->EA.getD j 0=8:=fun j hj=>by rw[hEA];simp only[List.getD];rw[List.getElem?_replicate,if_pos hj];rfl
     have HEA:=Ab hEA;have HEG:=Ab hEg;have d1:wr.cell? ⟨g3,1,none⟩=some (.slice (some ⟨ga,0,none⟩) 257 257):=Ac h1
     have HA0:Hid (ARow 3 wr ga (EA.take 0++List.replicate (EA.length-0) 0)):=Ab (by
      rw[List.take_zero,XG,hEl];unfold ARow;rw[hra,Aa HN]
      congr 2
      exact Array.toList_inj.1 (Qz 257))
     have HTK:Hid (TokIn wr a1 (Dq bs)/\∀b o,a1=some ⟨b,o,none⟩->Dq bs≠ []->w0.heap.size<=b/\b<wr.heap.size):=by
      obtain⟨h6,a2,c2,e2,h7⟩:=TokIn.ofOwn h2
      cases e2
      refine⟨h7,fun b o e _=> ?_⟩;subst e;exact h2.lt b rfl
     have H1:=Ab h1;have HRB:=Ab hrb;have HRES:=Ab hres;have H4:=Ab h4;clear hr h1 h2 h3 h4 e hra hrb hres hEA hEg;generalize wr=w5 at*;go_wp2;go_loopw [27] (fun v wr=>∃q:Nat,q<=257/\v=.int .i64 (q:Int)/\Hid (ARow 3 wr ga (EA.take q++List.replicate (EA.length-q) 0)/\(∀j,j<w5.heap.size->j≠ga->wr.heap[j]? =w5.heap[j]?)/\Below w.heap.size w wr/\w5.heap.size<=wr.heap.size)) (fun v _=>257-(intOf v).toNat)
     case atStart=>exact⟨0,by decide,rfl,Ab ⟨Aa HA0,fun j _ _=>rfl,Aa H4,VC _⟩⟩
     case round=>
      obtain⟨q,hq,rfl,hr⟩:=hrel;obtain⟨s1,s2,s3,s4⟩:=Aa hr;have hg3:wr.heap[g3]? =some (.cells #[.slice a1 k c1,.slice (some ⟨ga,0,none⟩) 257 257,.slice (some ⟨gb,0,none⟩) 1 1] 260 (0,0)):=(s2 g3 (by omega) hne.1).trans (Aa H1);have x1:wr.cell? ⟨g3,1,none⟩=some (.slice (some ⟨ga,0,none⟩) 257 257):=Ac hg3
      by_cases hlt2:q<257
      . have hl1:(EA.take q++List.replicate (EA.length-q) 0).length=257:=by simp;omega
        have c:=s1.cell q (by omega);have f:=s1.frozen q
        have HF:Hid (ARow 3 (wr.setCell ⟨ga,q,none⟩ (.int .i64 8)) ga (EA.take (q+1)++List.replicate (EA.length-(q+1)) 0)/\(∀j,j<w5.heap.size->j≠ga->(wr.setCell ⟨ga,q,none⟩ (.int .i64 8)).heap[j]? =w5.heap[j]?)/\Below w.heap.size w (wr.setCell ⟨ga,q,none⟩ (.int .i64 8))/\w5.heap.size<=(wr.setCell ⟨ga,q,none⟩ (.int .i64 8)).heap.size):=by
         have hgr:=Ad wr ga q (.int .i64 8);have hsz:=hgr.size;refine⟨?_,fun j hj hn=>(hgr.block j (by omega) (fun e=>hn (VN e))).trans (s2 j hj hn),s3.grown hgr (by omega) (fun j e=>by have:=VN e;omega),by omega⟩;have:=s1.set q 8
         have e8:(8:Int)=EA.getD q 0:=(Aa HEG q hlt2).symm;rw[e8,Wm EA q (by omega)]at this;rw[e8];exact this
        have hqI:(q:Int)<257:=by omega
        clear hr s1 s2 s3 hl1 hg3;generalize (EA.take q++List.replicate (EA.length-q) 0).getD q 0=old at c;go_wp2;go_roundw
        case rel=>exact⟨q+1,by omega,by go_num,HF⟩
        case measure=>simp[intOf];omega
      . obtain rfl:q=257:=by omega
        rw[VP (by omega),hEl,XK]at s1;simp only[YX,WO]at s1;have c5:=s1.cell 255 (by omega);have c6:=s1.cell 256 (by omega);have f5:=s1.frozen 255;have f6:=s1.frozen 256;rw[Aa HEG 255 (by decide)]at c5;rw[Aa HEG 256 (by decide)]at c6;have HS1:=Ab s1;have HS2:=Ab s2;have HS3:=Ab s3;have HG3:=Ab hg3;have ne5:(⟨ga,256,none⟩:Addr)≠⟨ga,255,none⟩:=by intro h;injection h;omega
        have HFA:Hid (ARow 3 ((wr.setCell ⟨ga,255,none⟩ (.int .i64 9)).setCell ⟨ga,256,none⟩ (.int .i64 9)).drew ga Jw/\(∀j,j<w5.heap.size->j≠ga->((wr.setCell ⟨ga,255,none⟩ (.int .i64 9)).setCell ⟨ga,256,none⟩ (.int .i64 9)).drew.heap[j]? =w5.heap[j]?)/\Below w.heap.size w ((wr.setCell ⟨ga,255,none⟩ (.int .i64 9)).setCell ⟨ga,256,none⟩ (.int .i64 9)).drew/\w5.heap.size<=((wr.setCell ⟨ga,255,none⟩ (.int .i64 9)).setCell ⟨ga,256,none⟩ (.int .i64 9)).drew.heap.size):=by
         have g1:=Ad wr ga 255 (.int .i64 9);have g2:=Ad (wr.setCell ⟨ga,255,none⟩ (.int .i64 9)) ga 256 (.int .i64 9);have gg:=Aj g1 g2;have hsz:=gg.size;refine⟨?_,fun j hj hn=>(gg.block j (by omega) (fun e=>hn (VN e))).trans (s2 j hj hn),Af (s3.grown gg (by omega) (fun j e=>by have:=VN e;omega)) 1,by show w5.heap.size<=(World.setCell _ _ _).heap.size;omega⟩;have:=(s1.set 255 9).set 256 9
         have e9:(EA.set 255 9).set 256 9=Jw:=by rw[Aa HEA];decide+kernel
         rw[e9]at this;exact this
        clear hr s1 s2 s3 hg3;generalize wr=w6 at*;go_upto_region 12 with (fail)
        go_cut [] (fun wc=>ARow 3 wc ga Jw/\(∀j,j<w5.heap.size->j≠ga->wc.heap[j]? =w5.heap[j]?)/\Below w.heap.size w wc/\w5.heap.size<=wc.heap.size)
        case first=>
         go_big_region
         all_goals go_wp2_with fail
         all_goals go_meet
         all_goals exact Aa HFA
        case rest=>
         obtain⟨z1,z2,z3,z4⟩:=hcut;have zg:wc.heap[g3]? =some (.cells #[.slice a1 k c1,.slice (some ⟨ga,0,none⟩) 257 257,.slice (some ⟨gb,0,none⟩) 1 1] 260 (0,0)):=(z2 g3 (by omega) hne.1).trans (Aa H1);have zr:wc.heap[w.heap.size]? =some (.cells #[.slice none 0 0,.slice none 0 0,.slice none 0 0] 260 (0,0)):=(z2 _ (by omega) (by omega)).trans (Aa HRES);have y0:wc.cell? ⟨g3,0,none⟩=some (.slice a1 k c1):=Ac zg;have y1:wc.cell? ⟨g3,1,none⟩=some (.slice (some ⟨ga,0,none⟩) 257 257):=Ac zg;have y2:wc.cell? ⟨g3,2,none⟩=some (.slice (some ⟨gb,0,none⟩) 1 1):=Ac zg;have r0:wc.cell? ⟨w.heap.size,0,none⟩=some (.slice none 0 0):=Ac zr;have r1:wc.cell? ⟨w.heap.size,1,none⟩=some (.slice none 0 0):=Ac zr;have r2:wc.cell? ⟨w.heap.size,2,none⟩=some (.slice none 0 0):=Ac zr;have f0:=frozen_of_row wc w.heap.size 0 _ _ zr;have f1:=frozen_of_row wc w.heap.size 1 _ _ zr;have f2:=frozen_of_row wc w.heap.size 2 _ _ zr;obtain⟨t1,t2,t3,t4⟩:=Qb zr (.slice a1 k c1) (.slice (some ⟨ga,0,none⟩) 257 257) (.slice (some ⟨gb,0,none⟩) 1 1)
         have HFIN:Hid (PlanIs (((wc.setCell ⟨w.heap.size,0,none⟩ (.slice a1 k c1)).setCell ⟨w.heap.size,1,none⟩ (.slice (some ⟨ga,0,none⟩) 257 257)).setCell ⟨w.heap.size,2,none⟩ (.slice (some ⟨gb,0,none⟩) 1 1)) a1 k ga 257 gb 1 (Dq bs) Jw Om/\Below w.heap.size w (((wc.setCell ⟨w.heap.size,0,none⟩ (.slice a1 k c1)).setCell ⟨w.heap.size,1,none⟩ (.slice (some ⟨ga,0,none⟩) 257 257)).setCell ⟨w.heap.size,2,none⟩ (.slice (some ⟨gb,0,none⟩) 1 1))):=by
          refine⟨⟨by rw[Ja,Aa HL],hlen,Xk (Aa HX), ?_,Pk (Aa HX),Mb,Ru,by omega,by omega, ?_, ?_⟩,t4 z3 (VC _)⟩
          . refine Z0m (Aa HTK).1 (by omega) (fun b o ea hne2 hb=> ?_);have:=(Aa HTK).2 b o ea hne2
            rw[t2 b (by omega) (by omega)];exact z2 b (by omega) (by omega)
          . exact Z8 z1.row (t2 ga (by omega) (by omega))
          . have hb1:ARow 3 wc gb Om:=by
             unfold ARow;rw[z2 gb (by omega) (fun e=>hne.2.2 e.symm),Aa HRB]
             congr 2
             exact Array.toList_inj.1 (Qz 1)
            exact Z8 hb1.row (t2 gb (by omega) (by omega))
         have HT1:=Ab t1;clear z1 z2 z3 zg zr t1 t2 t4;go_wp2;refine bodyPost_ret (v:=.agg #[.slice a1 k c1,.slice (some ⟨ga,0,none⟩) 257 257,.slice (some ⟨gb,0,none⟩) 1 1]) ?_ rfl ⟨a1,c1,ga,gb,rfl,(Aa HFIN).1,by omega,by omega,fun b o e hn=>by have:=(Aa HTK).2 b o e hn;omega,(Aa HFIN).2⟩;exact results_cell_row rfl _ _ _ _ _ _ _ rfl (Aa HT1) Tryz.underlying260 rfl (by kernel_rfl)
theorem DD (a:Option Addr)(n cap:Nat)(bs:List Nat)(w:World)(hl:bs.length=n)(hn:n<=3000)(hcap:n<=cap)(hB:BytesIn w a bs)(hx:∀j,bs.getD j 0<256)(L:Nat)(hL:Hid ((Dm bs).length=L)):
 Calls Tryz.prog 157 #[.slice a n cap] w fun e w'=>∃a1 c1,e=.returned (.tuple #[.slice a1 L c1,.int .i64 0])/\TokIn w' a1 (Dm bs)/\(∀b o,a1=some ⟨b,o,none⟩->Dm bs≠ []->w.heap.size<=b/\b<w'.heap.size)/\Below w.heap.size w w':=by
 by_cases h0:n=0
 . subst h0;obtain rfl:bs= []:=WP hl;obtain rfl:0=L:=Aa hL;refine(P4 a cap w).mono ?_;rintro e w' ⟨rfl,h⟩;exact⟨none,0,rfl,.inl rfl,(fun b o e=>by cases e),h⟩
 . obtain⟨b,o,rfl,hb,hBy⟩:=Ca hB (by omega);refine(O9 b o n cap bs w hl hn hcap hb hBy hx).mono ?_;rintro e w' ⟨v,rfl,hO,h⟩;obtain⟨h1,a1,c1,rfl,h2⟩:=TokIn.ofOwn hO;rw[Aa hL]at hO ⊢;refine⟨a1,c1,rfl,h2,fun b o e _=> ?_,h⟩;subst e;exact hO.lt b rfl
theorem R7 (No:Nat->Prop)(B rb:Nat)(S:List Bool)(w:World)(h:RIs No B w rb S)(hNo:∀g,w.heap.size<=g->¬No g)(a:Option Addr)(len cap b1 n1 c1 b2 n2 c2:Nat)(ts:List Tk)(l1 l2:List Int)(W:World)(hP:PlanIs W a len b1 n1 b2 n2 ts l1 l2)(hB:Below w.heap.size w W)(h1:w.heap.size<=b1)(h2:w.heap.size<=b2)(ha:∀b o,a=some ⟨b,o,none⟩->ts≠ []->No b\/w.heap.size<=b)(hS:S.length+60*len<=277000):
 Calls Tryz.prog 194 #[.agg #[.slice a len cap,.slice (some ⟨b1,0,none⟩) n1 c1,.slice (some ⟨b2,0,none⟩) n2 c2],.pointer (some ⟨rb,0,none⟩)] W fun e w'=>e=.returned (.tuple #[])/\(Gb l1 l2 ts).length<=2300+60*len/\Rp No B w rb (S++Gb l1 l2 ts) w':=by
 have hz:=hB.size;have hba:=h.base;have hlt:=h.lt;have m1:=hP.m1;have m2:=hP.m2;refine(Qt (fun g=>No g\/ (w.heap.size<=g/\g<W.heap.size)) B rb a len cap b1 n1 c1 b2 n2 c2 ts l1 l2 S W (h.grow hB (fun g e=>by rcases e with e|e;exact .inl e;exact .inr e.1)) hP (fun b o e hne=> ?_) (.inr ⟨h1,m1⟩) (.inr ⟨h2,m2⟩) (fun g hg e=> ?_) hS).mono ?_
 . rcases ha b o e hne with h3|h3
   . exact .inl h3
   . rcases hP.tok with h4|⟨b',o',e',hb',_⟩
     . exact absurd h4 hne
     . rw[e']at e
       cases e
       exact .inr ⟨h3,hb'⟩
 . rcases e with e|e
   . exact hNo g (by omega) e
   . omega
 . rintro e w' ⟨rfl,ho,hR⟩;refine⟨rfl, ?_,hR.is.grow (Below.refl _ _) (fun g e=>.inl (.inl e)),(hB.mono (by omega)).trans hR.below,fun g hg hn=>(hR.kp g (by omega) (.inl hn)).trans (hB.block g hg)⟩;have:=A7 hP.d hP.tv ho
   rw[hP.tl]at this;exact this
theorem Sy (No:Nat->Prop)(B rb:Nat)(a at':Option Addr)(n cap len ct:Nat)(bs:List Nat)(S:List Bool)(w:World)(h:RIs No B w rb S)(hl:bs.length=n)(hn:n<=3000)(hB:BytesIn w a bs)(hx:∀j,bs.getD j 0<256)(hT:TokIn w at' (Dm bs))(htl:(Dm bs).length=len)(hlen:len<=n)(hTn:∀b o,at'=some ⟨b,o,none⟩->Dm bs≠ []->No b)(hNo:∀g,w.heap.size<=g->¬No g)(hS:S.length+60*n<=277000):
 Calls Tryz.prog 159 #[.pointer (some ⟨rb,0,none⟩),.slice a n cap,.slice at' len ct] w fun e w'=>e=.returned (.tuple #[])/\(BZ bs).length<=2300+60*n/\Rp No B w rb (S++BZ bs) w':=by
 have hrb:=h.lt;have hba:=h.base;have HSH:=Ab (Zq at' len ct (Dm bs) w htl (by omega) (Kb hx (by omega)) hT);have HEV:=Ab (fun W (hW:Below w.heap.size w W)=>TX a n cap bs W hl hn (hB.below hW (VC _)) hx);have HH:=Ab h;have HTn:=Ab hTn;have HNo:=Ab hNo;have HTT:=Ab hT;have HL:=Ab hl;have HTL:=Ab htl;have hdy:BZ bs=if (Gb Jw Om (Dq bs)).length<(Gb (JP (Dm bs)) (NR (Dm bs)) (Dm bs)).length then Gb Jw Om (Dq bs)else Gb (JP (Dm bs)) (NR (Dm bs)) (Dm bs):=by unfold BZ;congr
 have HDY:=Ab hdy;have HVE:=Ab (Pk hx);have HVV:=Ab (Xk hx);have HVT:=Ab (Kb hx (by omega:bs.length<=3000));clear h hTn hNo hT hB hx hl htl hdy;obtain⟨ts,hts⟩:∃ts,Dm bs=ts:=⟨_,rfl⟩
 obtain⟨es,hes⟩:∃es,Dq bs=es:=⟨_,rfl⟩
 obtain⟨A1,hA1⟩:∃A1,JP ts=A1:=⟨_,rfl⟩
 obtain⟨A2,hA2⟩:∃A2,NR ts=A2:=⟨_,rfl⟩
 rw[hts]at HSH HTn HTT HDY HTL HVT;rw[hes]at HEV HDY HVE HVV;rw[hA1]at HSH HDY;rw[hA2]at HSH HDY;have hel:es.length=n:=by rw[<-hes,Ja];exact Aa HL
 obtain⟨E1,hE1⟩:∃E1,Jw=E1:=⟨_,rfl⟩
 obtain⟨E2,hE2⟩:∃E2,Om=E2:=⟨_,rfl⟩
 rw[hE1]at HEV HDY HVE;rw[hE2]at HEV HDY HVE;clear hts hes hA1 hA2 hE1 hE2;go_enter Tryz.func159,Tryz.ntmps159
 go_wp2_with fail
 refine(Aa HSH).mono ?_;rintro e w1 ⟨b1,n1,b2,n2,rfl,hP1,hb1,hb2,hB1⟩;have HP1:=Ab hP1;have HB1:=Ab hB1;have hz1:=hB1.size;clear hP1 hB1 HSH;go_wp2_with fail
 refine(Aa HEV _ ((Aa HB1).alloc hz1 _)).mono ?_;rintro e w2 ⟨a3,c3,b3,b4,rfl,hP3,hb3,hb4,ha3,hB2⟩;have hz2:=hB2.size;simp only[World.size_alloc]at hz2 hb3 hb4 ha3;have HP2:Hid (PlanIs w2 at' len b1 n1 b2 n2 ts A1 A2):=Ab (((Aa HP1).below ((Below.refl w1.heap.size w1).alloc (VC _) _)).below hB2);have hg1:w2.heap[w1.heap.size]? =some (.cells #[.slice at' len ct,.slice (some ⟨b1,0,none⟩) n1 286,.slice (some ⟨b2,0,none⟩) n2 30] 260 (0,0)):=(hB2.block _ (by simp)).trans (heap_alloc_new _ _);have HBW:Hid (Below w.heap.size w w2):=Ab (((Aa HB1).alloc hz1 _).trans (hB2.mono (by simp;omega)));have HP3:=Ab hP3;have HA3:=Ab ha3;have HG1:=Ab hg1;clear hP3 hB2 HP1 HB1 HEV ha3 hg1;have HPN:=Ab (fun a1 l1 c1 x1 y1 z1 x2 y2 z2 t1 q1 q2 (W:World) hP hW k1 k2 ka kS=>R7 No B rb S w (Aa HH) (Aa HNo) a1 l1 c1 x1 y1 z1 x2 y2 z2 t1 q1 q2 W hP hW k1 k2 ka kS);obtain⟨eL,heL⟩:∃eL,(Gb E1 E2 es).length=eL:=⟨_,rfl⟩
 obtain⟨sL,hsL⟩:∃sL,(Gb A1 A2 ts).length=sL:=⟨_,rfl⟩
 go_upto_region 2 with (fail)
 generalize hW3:w2.alloc _=W3;have hz3:w2.heap.size<W3.heap.size:=by rw[<-hW3];simp
 have hg7:W3.heap[w2.heap.size]? =some (.cells #[.slice a3 n c3,.slice (some ⟨b3,0,none⟩) 257 257,.slice (some ⟨b4,0,none⟩) 1 1] 260 (0,0)):=by rw[<-hW3];exact heap_alloc_new _ _
 have hB3:Below w2.heap.size w2 W3:=by rw[<-hW3];exact(Below.refl w2.heap.size w2).alloc (VC _) _
 have hg6:=(hB3.block _ (by omega)).trans (Aa HG1);have HPA:=Ab ((Aa HP2).below hB3);have HPE:=Ab ((Aa HP3).below hB3);have HB3:=Ab ((Aa HBW).trans (hB3.mono (by omega)));clear hW3 hB3 HP2 HP3 HBW HG1;generalize hg7n:w2.heap.size=g7 at*;generalize hg6n:w1.heap.size=g6 at*;have lt7:g7<W3.heap.size:=hz3;have lt6:g6<W3.heap.size:=by omega
 have ne67:g6≠g7:=by omega
 clear hg7n hg6n;have HCE:Hid (∀W,Below W3.heap.size W3 W->W.heap[g6]? =some (.cells #[.slice at' len ct,.slice (some ⟨b1,0,none⟩) n1 286,.slice (some ⟨b2,0,none⟩) n2 30] 260 (0,0))/\W.heap[g7]? =some (.cells #[.slice a3 n c3,.slice (some ⟨b3,0,none⟩) 257 257,.slice (some ⟨b4,0,none⟩) 1 1] 260 (0,0))):=fun W hW=>⟨(hW.block _ lt6).trans hg6,(hW.block _ lt7).trans hg7⟩
 have x0:W3.cell? ⟨g6,0,none⟩=some (.slice at' len ct):=Ac hg6;have x1:W3.cell? ⟨g6,1,none⟩=some (.slice (some ⟨b1,0,none⟩) n1 286):=Ac hg6;have x2:W3.cell? ⟨g6,2,none⟩=some (.slice (some ⟨b2,0,none⟩) n2 30):=Ac hg6;have y0:W3.cell? ⟨g7,0,none⟩=some (.slice a3 n c3):=Ac hg7;have y1:W3.cell? ⟨g7,1,none⟩=some (.slice (some ⟨b3,0,none⟩) 257 257):=Ac hg7;have y2:W3.cell? ⟨g7,2,none⟩=some (.slice (some ⟨b4,0,none⟩) 1 1):=Ac hg7;clear hg6 hg7;have HBE:=Ab (fun k=>Np a3 n c3 b3 257 257 b4 1 1 es E1 E2 (W3.drewN k) ((Aa HPE).below (Af (Below.refl _ _) k)));have HBA:=Ab (fun(W:World) (hW:Below W3.heap.size W3 W)=>Np at' len ct b1 n1 286 b2 n2 30 ts A1 A2 W ((Aa HPA).below hW));rw[heL]at HBE;rw[hsL]at HBA;have HEL:=Ab heL;have HSL:=Ab hsL;clear heL hsL;go_cut [16] (fun v wc=>v=.bool (decide (eL<sL))/\Hid (Below W3.heap.size W3 wc))
 case first=>
  go_region_with (first|(go_at_call 193;refine(Aa HBA _ (Aa HWZ)).mono ?_;rintro e wy ⟨rfl,ho2,hb2⟩;have HWY:=Ab ((Aa HWZ).trans (hb2.mono (Aa HWZ).size));clear ho2 hb2)|(go_at_call 193;refine(Aa HBE _).mono ?_;rintro e wz ⟨rfl,ho1,hb1'⟩;have HWZ:=Ab ((Af (Below.refl W3.heap.size W3) _).trans hb1');obtain⟨r6,r7⟩:=Aa HCE wz (Aa HWZ);have u0:wz.cell? ⟨g6,0,none⟩=some (.slice at' len ct):=Ac r6;have u1:wz.cell? ⟨g6,1,none⟩=some (.slice (some ⟨b1,0,none⟩) n1 286):=Ac r6;have u2:wz.cell? ⟨g6,2,none⟩=some (.slice (some ⟨b2,0,none⟩) n2 30):=Ac r6;clear ho1 hb1' r6 r7))
  all_goals go_wp2_with fail
  all_goals go_meet
  all_goals exact⟨rfl,HWY⟩
 case rest=>
  obtain⟨rfl,hbw⟩:=hcut;obtain⟨r6,r7⟩:=Aa HCE wc (Aa hbw);have hzB:=(Aa HB3).size;have hzc:=(Aa hbw).size;have HB4:=Ab ((Aa HB3).trans ((Aa hbw).mono hzB));clear x0 x1 x2 y0 y1 y2 HBE HBA HCE
  by_cases hlt:eL<sL
  . have hd:=decide_eq_true hlt;rw[hd];have HDE:Hid (BZ bs=Gb E1 E2 es):=Ab (by rw[Aa HDY,Aa HEL,Aa HSL,if_pos hlt]);obtain⟨t1,t2,t3,t4⟩:=Qb r6 (.slice a3 n c3) (.slice (some ⟨b3,0,none⟩) 257 257) (.slice (some ⟨b4,0,none⟩) 1 1)
    have HK:Hid (PlanIs (((wc.setCell ⟨g6,0,none⟩ (.slice a3 n c3)).setCell ⟨g6,1,none⟩ (.slice (some ⟨b3,0,none⟩) 257 257)).setCell ⟨g6,2,none⟩ (.slice (some ⟨b4,0,none⟩) 1 1)) a3 n b3 257 b4 1 es E1 E2/\Below w.heap.size w (((wc.setCell ⟨g6,0,none⟩ (.slice a3 n c3)).setCell ⟨g6,1,none⟩ (.slice (some ⟨b3,0,none⟩) 257 257)).setCell ⟨g6,2,none⟩ (.slice (some ⟨b4,0,none⟩) 1 1))):=by
     have hPc:=(Aa HPE).below (Aa hbw);refine⟨hPc.keep (by omega) (fun b o ea hne hb=> ?_) (t2 b3 hPc.m1 (by omega)) (t2 b4 hPc.m2 (by omega)),t4 (Aa HB4) (by omega)⟩;have:=Aa HA3 b o ea hne
     exact t2 b hb (by omega)
    have x0:wc.cell? ⟨g6,0,none⟩=some (.slice at' len ct):=Ac r6;have x1:wc.cell? ⟨g6,1,none⟩=some (.slice (some ⟨b1,0,none⟩) n1 286):=Ac r6;have x2:wc.cell? ⟨g6,2,none⟩=some (.slice (some ⟨b2,0,none⟩) n2 30):=Ac r6;have f0:=frozen_of_row wc g6 0 _ _ r6;have f1:=frozen_of_row wc g6 1 _ _ r6;have f2:=frozen_of_row wc g6 2 _ _ r6;have y0:wc.cell? ⟨g7,0,none⟩=some (.slice a3 n c3):=Ac r7;have y1:wc.cell? ⟨g7,1,none⟩=some (.slice (some ⟨b3,0,none⟩) 257 257):=Ac r7;have y2:wc.cell? ⟨g7,2,none⟩=some (.slice (some ⟨b4,0,none⟩) 1 1):=Ac r7;clear t1 t2 t3 t4 r6 r7 hd hlt;go_wp2_with fail
    refine(Aa HPN a3 n c3 b3 257 257 b4 1 1 es E1 E2 _ (Aa HK).1 (Aa HK).2 (by omega) (by omega) (fun b o e hne=>.inr (by have:=Aa HA3 b o e hne;omega)) hS).mono ?_;rintro e w9 ⟨rfl,hp,hR⟩;have HF:=Ab (And.intro hp hR);clear hp hR;go_wp2;go_end0
    rw[Aa HDE];exact⟨rfl,Aa HF⟩
  . have hd:=decide_eq_false hlt;rw[hd];have HDE:Hid (BZ bs=Gb A1 A2 ts):=Ab (by rw[Aa HDY,Aa HEL,Aa HSL,if_neg hlt]);have HK:=Ab ((Aa HPA).below (Aa hbw));have x0:wc.cell? ⟨g6,0,none⟩=some (.slice at' len ct):=Ac r6;have x1:wc.cell? ⟨g6,1,none⟩=some (.slice (some ⟨b1,0,none⟩) n1 286):=Ac r6;have x2:wc.cell? ⟨g6,2,none⟩=some (.slice (some ⟨b2,0,none⟩) n2 30):=Ac r6;clear r6 r7 hd hlt;go_wp2_with fail
    refine(Aa HPN at' len ct b1 n1 286 b2 n2 30 ts A1 A2 _ (Aa HK) (Aa HB4) hb1 hb2 (fun b o e hne=>.inl (Aa HTn b o e hne)) (by omega)).mono ?_;rintro e w9 ⟨rfl,hp,hR⟩;have HF:=Ab (And.intro hp hR);clear hp hR;go_wp2;go_end0
    rw[Aa HDE];exact⟨rfl,by have:=(Aa HF).1;omega,(Aa HF).2⟩
end Go.Proofs.YtieianhejdcgdaaGreatDoor
