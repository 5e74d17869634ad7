import Derived.Test.YtleocpdblhbimaaGreatDoorQ38
import Derived.Deep.OwnRows
import Derived.Deep.CutBlock
set_option linter.unusedSimpArgs false
set_option maxHeartbeats 2000000
namespace Go.Proofs.YtleocpdblhbimaaGreatDoor
open Go.RowKit
set_option linter.unusedVariables false
set_option maxRecDepth 100000
theorem Ec (w:World)(R G E F:Obj):((((w.alloc R).alloc G).alloc E).alloc F).drew.heap[w.heap.size]? =some R/\((((w.alloc R).alloc G).alloc E).alloc F).drew.heap[w.heap.size+1]? =some G/\((((w.alloc R).alloc G).alloc E).alloc F).drew.heap[w.heap.size+1+1]? =some E/\((((w.alloc R).alloc G).alloc E).alloc F).drew.heap[w.heap.size+1+1+1]? =some F/\Below w.heap.size w ((((w.alloc R).alloc G).alloc E).alloc F).drew:=by
 refine⟨?_, ?_, ?_, ?_,Ae (((((Below.refl w.heap.size w).alloc (VB _) _).alloc (by simp) _).alloc (by simp;omega) _).alloc (by simp;omega) _) 1⟩
 all_goals (simp only[World.alloc,World.drew,YC,YV];simp[WT])
structure EvSt (w:World)(N:Nat)(W:World)(g3 ga gb:Nat):Prop where
 lo:w.heap.size<g3/\w.heap.size<ga/\w.heap.size<gb
 ne:g3≠ga/\g3≠gb/\ga≠gb
 blk:W.heap[g3]? =some (.cells #[.slice none 0 0,.slice (some ⟨ga,0,none⟩) 257 257,.slice (some ⟨gb,0,none⟩) 1 1] 256 (0,0))
 ra:W.heap[ga]? =some (.cells (madeCells #[Value.int .i64 0] N) 3 (0,0))
 rb:W.heap[gb]? =some (.cells (madeCells #[Value.int .i64 0] 1) 3 (0,0))
 res:W.heap[w.heap.size]? =some (.cells #[.slice none 0 0,.slice none 0 0,.slice none 0 0] 256 (0,0))
 bel:Below w.heap.size w W
theorem Z1p (a:Option Addr)(M bv:Nat)(bs:List Nat)(w:World)(bf:bs.length=M)(cl:M<=3000)(bn:BytesIn w a bs)(ae:∀j,bs.getD j 0<256):
 Calls Tryz.prog 184 #[.slice a M bv] w fun e w'=>∃F c1 b1 b2,e=.returned (.agg #[.slice F M c1,.slice (some ⟨b1,0,none⟩) 257 257,.slice (some ⟨b2,0,none⟩) 1 1])/\PlanIs w' F M b1 257 b2 1 (Gf bs) Ks Sc/\w.heap.size<=b1/\w.heap.size<=b2/\(∀b o,F=some ⟨b,o,none⟩->Gf bs≠ []->w.heap.size<=b)/\Below w.heap.size w w':=by
 obtain⟨ct,hi,cw,cu,ch⟩:=info_parts CO;obtain⟨N,a2⟩:∃N:Nat,N=257:=⟨_,rfl⟩
 have b4:∀W:World,(Instr.makeSlice 76 (.int .i64 257) (.int .i64 257)).run Tryz.prog W=.ok (.slice (some ⟨W.heap.size,0,none⟩) 257 257) (W.alloc (.cells (madeCells #[.int .i64 0] N) 3)):=fun W=>by rw[a2];exact run_make_row' (P:=Tryz.prog) 76 3 (.int .i64 0) 8 Tryz.underlying76 Bv rfl .i64 .i64 257 (by decide) (by decide) W
 have bw:∀W:World,(Instr.makeSlice 76 (.int .i64 1) (.int .i64 1)).run Tryz.prog W=.ok (.slice (some ⟨W.heap.size,0,none⟩) 1 1) (W.alloc (.cells (madeCells #[.int .i64 0] 1) 3)):=fun W=>run_make_row' (P:=Tryz.prog) 76 3 (.int .i64 0) 8 Tryz.underlying76 Bv rfl .i64 .i64 1 (by decide) (by decide) W
 have b3:=Ab a2;have al:=Ab bf;have bz:=Ab bn;have a0:=Ab ae;clear bf bn ae a2;go_enter Tryz.func184,Tryz.ntmps184
 go_upto_region 1 with (fail)
 go_cut [3] (fun v wc=>∃g3 ga gb,v=.pointer (some ⟨g3,0,none⟩)/\Hid (EvSt w N wc g3 ga gb))
 case first=>
  go_big_region
  all_goals go_wp2_with fail
  all_goals go_meet
  all_goals first
   |exact⟨w.heap.size+1,w.heap.size+1+1,w.heap.size+1+1+1,rfl,Ab ⟨⟨by omega,by omega,by omega⟩,⟨by omega,by omega,by omega⟩,(Ec w _ _ _ _).2.1,(Ec w _ _ _ _).2.2.1,(Ec w _ _ _ _).2.2.2.1,(Ec w _ _ _ _).1,(Ec w _ _ _ _).2.2.2.2⟩⟩
   |exact⟨w.heap.size+1,w.heap.size+1+1+1,w.heap.size+1+1,rfl,Ab ⟨⟨by omega,by omega,by omega⟩,⟨by omega,by omega,by omega⟩,(Ec w _ _ _ _).2.1,(Ec w _ _ _ _).2.2.2.1,(Ec w _ _ _ _).2.2.1,(Ec w _ _ _ _).1,(Ec w _ _ _ _).2.2.2.2⟩⟩
   |exact⟨w.heap.size+1+1,w.heap.size+1,w.heap.size+1+1+1,rfl,Ab ⟨⟨by omega,by omega,by omega⟩,⟨by omega,by omega,by omega⟩,(Ec w _ _ _ _).2.2.1,(Ec w _ _ _ _).2.1,(Ec w _ _ _ _).2.2.2.1,(Ec w _ _ _ _).1,(Ec w _ _ _ _).2.2.2.2⟩⟩
   |exact⟨w.heap.size+1+1,w.heap.size+1+1+1,w.heap.size+1,rfl,Ab ⟨⟨by omega,by omega,by omega⟩,⟨by omega,by omega,by omega⟩,(Ec w _ _ _ _).2.2.1,(Ec w _ _ _ _).2.2.2.1,(Ec w _ _ _ _).2.1,(Ec w _ _ _ _).1,(Ec w _ _ _ _).2.2.2.2⟩⟩
   |exact⟨w.heap.size+1+1+1,w.heap.size+1,w.heap.size+1+1,rfl,Ab ⟨⟨by omega,by omega,by omega⟩,⟨by omega,by omega,by omega⟩,(Ec w _ _ _ _).2.2.2.1,(Ec w _ _ _ _).2.1,(Ec w _ _ _ _).2.2.1,(Ec w _ _ _ _).1,(Ec w _ _ _ _).2.2.2.2⟩⟩
   |exact⟨w.heap.size+1+1+1,w.heap.size+1+1,w.heap.size+1,rfl,Ab ⟨⟨by omega,by omega,by omega⟩,⟨by omega,by omega,by omega⟩,(Ec w _ _ _ _).2.2.2.1,(Ec w _ _ _ _).2.2.1,(Ec w _ _ _ _).2.1,(Ec w _ _ _ _).1,(Ec w _ _ _ _).2.2.2.2⟩⟩
 case rest=>
  obtain⟨g3,ga,gb,rfl,ac⟩:=hcut;have T:=Aa ac;have c8:=T.lo;have Y:=T.ne;have dt:=T.bel.size;have co:=(VK.1 T.res).1;have df:=(VK.1 T.blk).1;have la:=(VK.1 T.ra).1;have lb:=(VK.1 T.rb).1;clear b4 bw T;generalize wc=I at*;go_wp2;go_loopw [12] (fun v wr=>∃k:Nat,k<=M/\v=.int .i64 (k:Int)/\Hid (∃ov,wr.heap[g3]? =some (.cells #[ov,.slice (some ⟨ga,0,none⟩) 257 257,.slice (some ⟨gb,0,none⟩) 1 1] 256 (0,0))/\wr.ownsRow I.heap.size 244 3 ov k (tvs (Gf (bs.take k)))/\(∀j,j<I.heap.size->j≠g3->wr.heap[j]? =I.heap[j]?)/\Below w.heap.size w wr/\I.heap.size<=wr.heap.size)) (fun v _=>M-(intOf v).toNat)
  case atStart=>exact⟨0,VH _,rfl,Ab ⟨.slice none 0 0,(Aa ac).blk,World.ownsRow_nil _ _ _ _,fun j _ _=>rfl,(Aa ac).bel,VB _⟩⟩
  case round=>
   obtain⟨k,dp,rfl,hr⟩:=hrel;obtain⟨ov,aa,U,af,am,dh⟩:=Aa hr
   by_cases bb:k<M
   . obtain⟨b,o,rfl,hb,bi⟩:=Dz (Aa bz) (by rw[Aa al];omega);have cb:=(am.cell (p:=⟨b,o+k,none⟩) hb).trans (bi k (by rw[Aa al];exact bb));have ae:=Aa a0 k
     have aw:Gf (bs.take (k+1))=Gf (bs.take k)++ [(bs.getD k 0,0,0)]:=by
      have cq:k<bs.length:=by rw[Aa al];exact bb
      have e:bs.take (k+1)=bs.take k++ [bs.getD k 0]:=by
       rw[XM];simp[List.getD,cq]
      rw[e];simp[Gf]
     obtain⟨x,a9⟩:=exq (bs.getD k 0);rw[a9]at cb ae aw;have bo:=Ab aw;have c0:wr.cell? ⟨g3,0,none⟩=some ov:=Ac aa;have f0:=frozen_of_row wr g3 0 _ _ aa;have dc:(k:Int)<(M:Int):=by omega
     have a3:=Ab (U.alloc (.cells #[.int .u8 (x:Int),.int .i64 0,.int .i64 0] 244));have bj:=Ab (Zs wr (.int .u8 (x:Int)) (.int .i64 0) (.int .i64 0) 244);have bk:∀g,ov.ownBlock=some g->I.heap.size<=g/\g<wr.heap.size:=fun g e=>U.lt g e
     have ao:=Ab bk;have ah:=Ab aa;have bh:=Ab af;have au:=Ab am;clear hr aa U af am aw bi a9 bk;go_wp2_with (at_builtin;refine wpList_append_own_at _ rfl _ _ 215 rfl I.heap.size 244 ct _ 3 24 Tryz.underlying215 hi cw cu ch rfl (by decide) ov k (tvs (Gf (bs.take k))) rfl (Aa a3) ⟨wr.heap.size,0,none⟩ 1 1 [.int .u8 (x:Int),.int .i64 0,.int .i64 0] rfl rfl (Aa bj) (by intro u bq;simp at bq;rcases bq with rfl|rfl|rfl<;>rfl) (by unfold maxLen;omega) (by omega) (by simp;omega) ?_)
     intro v' w3 ap aj _ cg;have a6:=aj.size;simp only[World.size_alloc]at a6;have O:w3.heap[g3]? =some (.cells #[ov,.slice (some ⟨ga,0,none⟩) 257 257,.slice (some ⟨gb,0,none⟩) 1 1] 256 (0,0)):=(aj.block g3 (by simp;omega) (fun e=>by have:=Aa ao g3 e.symm;omega)).trans ((Below.heap_alloc wr _ g3 (by omega)).trans (Aa ah));have c7:w3.cell? ⟨g3,0,none⟩=some ov:=Ac O;have de:=frozen_of_row w3 g3 0 _ _ O
     have as:Hid (∃ov,(w3.setCell ⟨g3,0,none⟩ v').heap[g3]? =some (.cells #[ov,.slice (some ⟨ga,0,none⟩) 257 257,.slice (some ⟨gb,0,none⟩) 1 1] 256 (0,0))/\(w3.setCell ⟨g3,0,none⟩ v').ownsRow I.heap.size 244 3 ov (k+1) (tvs (Gf (bs.take (k+1))))/\(∀j,j<I.heap.size->j≠g3->(w3.setCell ⟨g3,0,none⟩ v').heap[j]? =I.heap[j]?)/\Below w.heap.size w (w3.setCell ⟨g3,0,none⟩ v')/\I.heap.size<=(w3.setCell ⟨g3,0,none⟩ v').heap.size):=by
      have an:=Ad w3 g3 0 v';have a5:=an.size;refine⟨v', ?_, ?_, ?_, ?_,by omega⟩
      . rw[heap_setCell_same _ g3 0 _ _ _ O];rfl
      . rw[Aa bo,Uj];refine ap.kept an ?_
        cases ae:v'.ownBlock with
        |none=>exact .inl rfl
        |some g=>
         refine .inr (fun e=> ?_);have:=(ap.lt g ae).1
         cases e
         omega
      . intro j ab Y;rw[an.block j (by omega) (fun e=>Y (VM e)),aj.block j (by simp;omega) (fun e=>by have:=Aa ao j e.symm;omega),Below.heap_alloc wr _ j (by omega)];exact Aa bh j ab Y
      . have b1:=(Aa au).alloc (by omega) (.cells #[.int .u8 (x:Int),.int .i64 0,.int .i64 0] 244);have b2:=b1.grown aj (by simp;omega) (fun g e=>by have:=Aa ao g e;omega);exact b2.grown an (by omega) (fun g e=>by have:=VM e;omega)
     obtain⟨cz,dr,ce,_,_⟩:=Ba ap (by omega);subst ce;clear ap aj cg O c0 f0 cb a3 bj ao ah bh au bo a6;go_wp2;go_roundw
     case rel=>exact⟨k+1,by omega,by go_num,as⟩
     case measure=>simp[intOf];omega
   . obtain rfl:k=M:=by omega
     have e:bs.take k=bs:=VV (by rw[Aa al];exact VB _);rw[e]at U;obtain⟨F,c1,rfl⟩:=An U;have bm:wr.heap[ga]? =some (.cells (madeCells #[Value.int .i64 0] N) 3 (0,0)):=(af ga la (fun e=>Y.1 e.symm)).trans (Aa ac).ra;have bc:wr.heap[gb]? =some (.cells (madeCells #[Value.int .i64 0] 1) 3 (0,0)):=(af gb lb (fun e=>Y.2.1 e.symm)).trans (Aa ac).rb;have a4:wr.heap[w.heap.size]? =some (.cells #[.slice none 0 0,.slice none 0 0,.slice none 0 0] 256 (0,0)):=(af _ co (by omega)).trans (Aa ac).res;obtain⟨E,av⟩:∃E:List Int,E=List.replicate 257 8:=⟨_,rfl⟩
     have bt:E.length=257:=by rw[av];simp
     have bd:∀j,j<257->E.getD j 0=8:=fun j ab=>by rw[av];simp only[List.getD];rw[List.getElem?_replicate,if_pos ab];rfl
     have b5:=Ab av;have az:=Ab bd;have c9:wr.cell? ⟨g3,1,none⟩=some (.slice (some ⟨ga,0,none⟩) 257 257):=Ac aa
     have ci:Hid (ARow 3 wr ga (E.take 0++List.replicate (E.length-0) 0)):=Ab (by
      rw[List.take_zero,List.nil_append,bt];unfold ARow;rw[bm,Aa b3]
      congr 2
      exact Array.toList_inj.1 (Rh 257))
     have ay:Hid (TokIn wr F (Gf bs)/\∀b o,F=some ⟨b,o,none⟩->Gf bs≠ []->I.heap.size<=b/\b<wr.heap.size):=by
      obtain⟨ds,dq,c2,e2,b9⟩:=TokIn.ofOwn U
      cases e2
      refine⟨b9,fun b o e _=> ?_⟩;subst e;exact U.lt b rfl
     have ah:=Ab aa;have b7:=Ab bc;have b8:=Ab a4;have au:=Ab am;clear hr aa U af am e bm bc a4 av bd;generalize wr=G at*;go_wp2;go_loopw [27] (fun v wr=>∃q:Nat,q<=257/\v=.int .i64 (q:Int)/\Hid (ARow 3 wr ga (E.take q++List.replicate (E.length-q) 0)/\(∀j,j<G.heap.size->j≠ga->wr.heap[j]? =G.heap[j]?)/\Below w.heap.size w wr/\G.heap.size<=wr.heap.size)) (fun v _=>257-(intOf v).toNat)
     case atStart=>exact⟨0,by decide,rfl,Ab ⟨Aa ci,fun j _ _=>rfl,Aa au,VB _⟩⟩
     case round=>
      obtain⟨q,c4,rfl,hr⟩:=hrel;obtain⟨H,ag,ai,da⟩:=Aa hr;have O:wr.heap[g3]? =some (.cells #[.slice F k c1,.slice (some ⟨ga,0,none⟩) 257 257,.slice (some ⟨gb,0,none⟩) 1 1] 256 (0,0)):=(ag g3 (by omega) Y.1).trans (Aa ah);have x1:wr.cell? ⟨g3,1,none⟩=some (.slice (some ⟨ga,0,none⟩) 257 257):=Ac O
      by_cases cj:q<257
      . have bu:(E.take q++List.replicate (E.length-q) 0).length=257:=by simp;omega
        have c:=H.cell q (by omega);have f:=H.frozen q
        have cp:Hid (ARow 3 (wr.setCell ⟨ga,q,none⟩ (.int .i64 8)) ga (E.take (q+1)++List.replicate (E.length-(q+1)) 0)/\(∀j,j<G.heap.size->j≠ga->(wr.setCell ⟨ga,q,none⟩ (.int .i64 8)).heap[j]? =G.heap[j]?)/\Below w.heap.size w (wr.setCell ⟨ga,q,none⟩ (.int .i64 8))/\G.heap.size<=(wr.setCell ⟨ga,q,none⟩ (.int .i64 8)).heap.size):=by
         have ax:=Ad wr ga q (.int .i64 8);have a5:=ax.size;refine⟨?_,fun j ab hn=>(ax.block j (by omega) (fun e=>hn (VM e))).trans (ag j ab hn),ai.grown ax (by omega) (fun j e=>by have:=VM e;omega),by omega⟩;have:=H.set q 8
         have a8:(8:Int)=E.getD q 0:=(Aa az q cj).symm;rw[a8,Xn E q (by omega)]at this;rw[a8];exact this
        have c6:(q:Int)<257:=by omega
        clear hr H ag ai bu O;generalize (E.take q++List.replicate (E.length-q) 0).getD q 0=old at c;go_wp2;go_roundw
        case rel=>exact⟨q+1,by omega,by go_num,cp⟩
        case measure=>simp[intOf];omega
      . obtain rfl:q=257:=by omega
        rw[VV (by omega),bt,XW]at H;simp only[ZI,XA]at H;have cy:=H.cell 255 (by omega);have ck:=H.cell 256 (by omega);have c3:=H.frozen 255;have di:=H.frozen 256;rw[Aa az 255 (by decide)]at cy;rw[Aa az 256 (by decide)]at ck;have c5:=Ab H;have dg:=Ab ag;have dj:=Ab ai;have dm:=Ab O;have dd:(⟨ga,256,none⟩:Addr)≠⟨ga,255,none⟩:=by intro h;injection h;omega
        have cv:Hid (ARow 3 ((wr.setCell ⟨ga,255,none⟩ (.int .i64 9)).setCell ⟨ga,256,none⟩ (.int .i64 9)).drew ga Ks/\(∀j,j<G.heap.size->j≠ga->((wr.setCell ⟨ga,255,none⟩ (.int .i64 9)).setCell ⟨ga,256,none⟩ (.int .i64 9)).drew.heap[j]? =G.heap[j]?)/\Below w.heap.size w ((wr.setCell ⟨ga,255,none⟩ (.int .i64 9)).setCell ⟨ga,256,none⟩ (.int .i64 9)).drew/\G.heap.size<=((wr.setCell ⟨ga,255,none⟩ (.int .i64 9)).setCell ⟨ga,256,none⟩ (.int .i64 9)).drew.heap.size):=by
         have g1:=Ad wr ga 255 (.int .i64 9);have g2:=Ad (wr.setCell ⟨ga,255,none⟩ (.int .i64 9)) ga 256 (.int .i64 9);have a1:=Aj g1 g2;have a5:=a1.size;refine⟨?_,fun j ab hn=>(a1.block j (by omega) (fun e=>hn (VM e))).trans (ag j ab hn),Ae (ai.grown a1 (by omega) (fun j e=>by have:=VM e;omega)) 1,by show G.heap.size<=(World.setCell _ _ _).heap.size;omega⟩;have:=(H.set 255 9).set 256 9
         have cn:(E.set 255 9).set 256 9=Ks:=by rw[Aa b5];decide+kernel
         rw[cn]at this;exact this
        clear hr H ag ai O;generalize wr=w6 at*;go_upto_region 12 with (fail)
        go_cut [] (fun wc=>ARow 3 wc ga Ks/\(∀j,j<G.heap.size->j≠ga->wc.heap[j]? =G.heap[j]?)/\Below w.heap.size w wc/\G.heap.size<=wc.heap.size)
        case first=>
         go_big_region
         all_goals go_wp2_with fail
         all_goals go_meet
         all_goals exact Aa cv
        case rest=>
         obtain⟨be,ak,ba,dl⟩:=hcut;have aq:wc.heap[g3]? =some (.cells #[.slice F k c1,.slice (some ⟨ga,0,none⟩) 257 257,.slice (some ⟨gb,0,none⟩) 1 1] 256 (0,0)):=(ak g3 (by omega) Y.1).trans (Aa ah);have Z:wc.heap[w.heap.size]? =some (.cells #[.slice none 0 0,.slice none 0 0,.slice none 0 0] 256 (0,0)):=(ak _ (by omega) (by omega)).trans (Aa b8);have dn:wc.cell? ⟨g3,0,none⟩=some (.slice F k c1):=Ac aq;have y1:wc.cell? ⟨g3,1,none⟩=some (.slice (some ⟨ga,0,none⟩) 257 257):=Ac aq;have y2:wc.cell? ⟨g3,2,none⟩=some (.slice (some ⟨gb,0,none⟩) 1 1):=Ac aq;have r0:wc.cell? ⟨w.heap.size,0,none⟩=some (.slice none 0 0):=Ac Z;have r1:wc.cell? ⟨w.heap.size,1,none⟩=some (.slice none 0 0):=Ac Z;have r2:wc.cell? ⟨w.heap.size,2,none⟩=some (.slice none 0 0):=Ac Z;have f0:=frozen_of_row wc w.heap.size 0 _ _ Z;have f1:=frozen_of_row wc w.heap.size 1 _ _ Z;have f2:=frozen_of_row wc w.heap.size 2 _ _ Z;obtain⟨a7,ar,db,bg⟩:=Qe Z (.slice F k c1) (.slice (some ⟨ga,0,none⟩) 257 257) (.slice (some ⟨gb,0,none⟩) 1 1)
         have as:Hid (PlanIs (((wc.setCell ⟨w.heap.size,0,none⟩ (.slice F k c1)).setCell ⟨w.heap.size,1,none⟩ (.slice (some ⟨ga,0,none⟩) 257 257)).setCell ⟨w.heap.size,2,none⟩ (.slice (some ⟨gb,0,none⟩) 1 1)) F k ga 257 gb 1 (Gf bs) Ks Sc/\Below w.heap.size w (((wc.setCell ⟨w.heap.size,0,none⟩ (.slice F k c1)).setCell ⟨w.heap.size,1,none⟩ (.slice (some ⟨ga,0,none⟩) 257 257)).setCell ⟨w.heap.size,2,none⟩ (.slice (some ⟨gb,0,none⟩) 1 1))):=by
          refine⟨⟨by rw[Oc,Aa al],cl,DF (Aa a0), ?_,DE (Aa a0),Mp,Sb,by omega,by omega, ?_, ?_⟩,bg ba (VB _)⟩
          . refine Z2b (Aa ay).1 (by omega) (fun b o ea cd hb=> ?_);have:=(Aa ay).2 b o ea cd
            rw[ar b (by omega) (by omega)];exact ak b (by omega) (by omega)
          . exact BM be.row (ar ga (by omega) (by omega))
          . have b0:ARow 3 wc gb Sc:=by
             unfold ARow;rw[ak gb (by omega) (fun e=>Y.2.2 e.symm),Aa b7]
             congr 2
             exact Array.toList_inj.1 (Rh 1)
            exact BM b0.row (ar gb (by omega) (by omega))
         have cm:=Ab a7;clear be ak ba aq Z a7 ar bg;go_wp2;refine bodyPost_ret (v:=.agg #[.slice F k c1,.slice (some ⟨ga,0,none⟩) 257 257,.slice (some ⟨gb,0,none⟩) 1 1]) ?_ rfl ⟨F,c1,ga,gb,rfl,(Aa as).1,by omega,by omega,fun b o e hn=>by have:=(Aa ay).2 b o e hn;omega,(Aa as).2⟩;exact results_cell_row rfl _ _ _ _ _ _ _ rfl (Aa cm) Tryz.underlying256 rfl (by kernel_rfl)
theorem EP (a:Option Addr)(n F:Nat)(bs:List Nat)(w:World)(M:bs.length=n)(U:n<=3000)(ab:n<=F)(aa:BytesIn w a bs)(O:∀j,bs.getD j 0<256)(G:Nat)(I:Hid ((Gi bs).length=G)):
 Calls Tryz.prog 149 #[.slice a n F] w fun e w'=>∃E c1,e=.returned (.tuple #[.slice E G c1,.int .i64 0])/\TokIn w' E (Gi bs)/\(∀b o,E=some ⟨b,o,none⟩->Gi bs≠ []->w.heap.size<=b/\b<w'.heap.size)/\Below w.heap.size w w':=by
 by_cases Y:n=0
 . subst Y;obtain rfl:bs= []:=WV M;obtain rfl:0=G:=Aa I;refine(R4 a F w).mono ?_;rintro e w' ⟨rfl,h⟩;exact⟨none,0,rfl,.inl rfl,(fun b o e=>by cases e),h⟩
 . obtain⟨b,o,rfl,hb,T⟩:=Dz aa (by omega);refine(R3 b o n F bs w M U ab hb T O).mono ?_;rintro e w' ⟨v,rfl,H,h⟩;obtain⟨ac,E,c1,rfl,Z⟩:=TokIn.ofOwn H;rw[Aa I]at H ⊢;refine⟨E,c1,rfl,Z,fun b o e _=> ?_,h⟩;subst e;exact H.lt b rfl
theorem W4 (No:Nat->Prop)(B G:Nat)(S:List Bool)(w:World)(U:RIs No B w G S)(an:∀g,w.heap.size<=g->¬No g)(a:Option Addr)(F ac M Z ae T Y ah:Nat)(ts:List Tk)(O H:List Int)(W:World)(E:PlanIs W a F M Z T Y ts O H)(I:Below w.heap.size w W)(aj:w.heap.size<=M)(ak:w.heap.size<=T)(ai:∀b o,a=some ⟨b,o,none⟩->ts≠ []->No b\/w.heap.size<=b)(ap:S.length+60*F<=277000):
 Calls Tryz.prog 186 #[.agg #[.slice a F ac,.slice (some ⟨M,0,none⟩) Z ae,.slice (some ⟨T,0,none⟩) Y ah],.pointer (some ⟨G,0,none⟩)] W fun e w'=>e=.returned (.tuple #[])/\(Ga O H ts).length<=2300+60*F/\Rp No B w G (S++Ga O H ts) w':=by
 have aw:=I.size;have as:=U.base;have ar:=U.lt;have m1:=E.m1;have m2:=E.m2;refine(Qz (fun g=>No g\/ (w.heap.size<=g/\g<W.heap.size)) B G a F ac M Z ae T Y ah ts O H S W (U.grow I (fun g e=>by rcases e with e|e;exact .inl e;exact .inr e.1)) E (fun b o e ag=> ?_) (.inr ⟨aj,m1⟩) (.inr ⟨ak,m2⟩) (fun g af e=> ?_) ap).mono ?_
 . rcases ai b o e ag with aa|aa
   . exact .inl aa
   . rcases E.tok with aq|⟨au,av,ao,am,_⟩
     . exact absurd aq ag
     . rw[ao]at e
       cases e
       exact .inr ⟨aa,am⟩
 . rcases e with e|e
   . exact an g (by omega) e
   . omega
 . rintro e w' ⟨rfl,al,ab⟩;refine⟨rfl, ?_,ab.is.grow (Below.refl _ _) (fun g e=>.inl (.inl e)),(I.mono (by omega)).trans ab.below,fun g af hn=>(ab.kp g (by omega) (.inl hn)).trans (I.block g af)⟩;have:=C9 E.d E.tv al
   rw[E.tl]at this;exact this
theorem Tj (No:Nat->Prop)(B a0:Nat)(a H:Option Addr)(n bo G U:Nat)(bs:List Nat)(S:List Bool)(w:World)(h:RIs No B w a0 S)(bm:bs.length=n)(da:n<=3000)(b3:BytesIn w a bs)(ae:∀j,bs.getD j 0<256)(bh:TokIn w H (Gi bs))(bi:(Gi bs).length=G)(dw:G<=n)(cy:∀b o,H=some ⟨b,o,none⟩->Gi bs≠ []->No b)(bw:∀g,w.heap.size<=g->¬No g)(dh:S.length+60*n<=277000):
 Calls Tryz.prog 151 #[.pointer (some ⟨a0,0,none⟩),.slice a n bo,.slice H G U] w fun e w'=>e=.returned (.tuple #[])/\(IK bs).length<=2300+60*n/\Rp No B w a0 (S++IK bs) w':=by
 have d3:=h.lt;have dy:=h.base;have ah:=Ab (B7 H G U (Gi bs) w bi (by omega) (Wz ae (by omega)) bh);have ap:=Ab (fun W (ab:Below w.heap.size w W)=>Z1p a n bo bs W bm da (b3.below ab (VB _)) ae);have c7:=Ab h;have bt:=Ab cy;have c9:=Ab bw;have du:=Ab bh;have dq:=Ab bm;have dj:=Ab bi;have bu:IK bs=if (Ga Ks Sc (Gf bs)).length<(Ga (TS (Gi bs)) (Z1n (Gi bs)) (Gi bs)).length then Ga Ks Sc (Gf bs)else Ga (TS (Gi bs)) (Z1n (Gi bs)) (Gi bs):=by unfold IK;congr
 have aa:=Ab bu;have bg:=Ab (DE ae);have dm:=Ab (DF ae);have df:=Ab (Wz ae (by omega:bs.length<=3000));clear h cy bw bh b3 ae bm bi bu;obtain⟨ts,ci⟩:=exq (Gi bs);obtain⟨es,a7⟩:=exq (Gf bs);obtain⟨ar,bv⟩:=exq (TS ts);obtain⟨am,bn⟩:=exq (Z1n ts);rw[ci]at ah bt du aa dj df;rw[a7]at ap aa bg dm;rw[bv]at ah aa;rw[bn]at ah aa;have dz:es.length=n:=by rw[<-a7,Oc];exact Aa dq
 obtain⟨an,cm⟩:=exq (Ks);obtain⟨aq,bq⟩:=exq (Sc);rw[cm]at ap aa bg;rw[bq]at ap aa bg;clear ci a7 bv bn cm bq;go_enter Tryz.func151,Tryz.ntmps151
 go_wp2_with fail
 refine(Aa ah).mono ?_;rintro e a2 ⟨b1,n1,b2,n2,rfl,cn,c8,a3,bj⟩;have cw:=Ab cn;have ba:=Ab bj;have b0:=bj.size;clear cn bj ah;go_wp2_with fail
 refine(Aa ap _ ((Aa ba).alloc b0 _)).mono ?_;rintro e O ⟨T,Y,I,M,rfl,cj,c4,dc,a5,ag⟩;have dp:=ag.size;simp only[World.size_alloc]at dp c4 dc a5;have ct:Hid (PlanIs O H G b1 n1 b2 n2 ts ar am):=Ab (((Aa cw).below ((Below.refl a2.heap.size a2).alloc (VB _) _)).below ag);have cp:O.heap[a2.heap.size]? =some (.cells #[.slice H G U,.slice (some ⟨b1,0,none⟩) n1 286,.slice (some ⟨b2,0,none⟩) n2 30] 256 (0,0)):=(ag.block _ (by simp)).trans (heap_alloc_new _ _);have cl:Hid (Below w.heap.size w O):=Ab (((Aa ba).alloc b0 _).trans (ag.mono (by simp;omega)));have b4:=Ab cj;have bz:=Ab a5;have ck:=Ab cp;clear cj ag cw ba ap a5 cp;have ch:=Ab (fun dg l1 c1 x1 y1 dt x2 y2 dn bc c5 cz (W:World) hP ab k1 k2 ka kS=>W4 No B a0 S w (Aa c7) (Aa c9) dg l1 c1 x1 y1 dt x2 y2 dn bc c5 cz W hP ab k1 k2 ka kS);obtain⟨cu,a9⟩:=exq ((Ga an aq es).length);obtain⟨b5,bb⟩:=exq ((Ga ar am ts).length);go_upto_region 2 with (fail)
 generalize ax:O.alloc _=E;have dl:O.heap.size<E.heap.size:=by rw[<-ax];simp
 have av:E.heap[O.heap.size]? =some (.cells #[.slice T n Y,.slice (some ⟨I,0,none⟩) 257 257,.slice (some ⟨M,0,none⟩) 1 1] 256 (0,0)):=by rw[<-ax];exact heap_alloc_new _ _
 have as:Below O.heap.size O E:=by rw[<-ax];exact(Below.refl O.heap.size O).alloc (VB _) _
 have aj:=(as.block _ (by omega)).trans (Aa ck);have cd:=Ab ((Aa ct).below as);have ce:=Ab ((Aa b4).below as);have cq:=Ab ((Aa cl).trans (as.mono (by omega)));clear ax as ct b4 cl ck;generalize c3:O.heap.size=Z at*;generalize db:a2.heap.size=g6 at*;have lt7:Z<E.heap.size:=dl;have dr:g6<E.heap.size:=by omega
 have d1:g6≠Z:=by omega
 clear c3 db;have bk:Hid (∀W,Below E.heap.size E W->W.heap[g6]? =some (.cells #[.slice H G U,.slice (some ⟨b1,0,none⟩) n1 286,.slice (some ⟨b2,0,none⟩) n2 30] 256 (0,0))/\W.heap[Z]? =some (.cells #[.slice T n Y,.slice (some ⟨I,0,none⟩) 257 257,.slice (some ⟨M,0,none⟩) 1 1] 256 (0,0))):=fun W ab=>⟨(ab.block _ dr).trans aj,(ab.block _ lt7).trans av⟩
 have a6:E.cell? ⟨g6,0,none⟩=some (.slice H G U):=Ac aj;have x1:E.cell? ⟨g6,1,none⟩=some (.slice (some ⟨b1,0,none⟩) n1 286):=Ac aj;have x2:E.cell? ⟨g6,2,none⟩=some (.slice (some ⟨b2,0,none⟩) n2 30):=Ac aj;have b7:E.cell? ⟨Z,0,none⟩=some (.slice T n Y):=Ac av;have y1:E.cell? ⟨Z,1,none⟩=some (.slice (some ⟨I,0,none⟩) 257 257):=Ac av;have y2:E.cell? ⟨Z,2,none⟩=some (.slice (some ⟨M,0,none⟩) 1 1):=Ac av;clear aj av;have be:=Ab (fun k=>Nx T n Y I 257 257 M 1 1 es an aq (E.drewN k) ((Aa ce).below (Ae (Below.refl _ _) k)));have bf:=Ab (fun(W:World) (ab:Below E.heap.size E W)=>Nx H G U b1 n1 286 b2 n2 30 ts ar am W ((Aa cd).below ab));rw[a9]at be;rw[bb]at bf;have cg:=Ab a9;have co:=Ab bb;clear a9 bb;go_cut [16] (fun v wc=>v=.bool (decide (cu<b5))/\Hid (Below E.heap.size E wc))
 case first=>
  go_region_with (first|(go_at_call 185;refine(Aa bf _ (Aa a4)).mono ?_;rintro e dx ⟨rfl,de,a3⟩;have c6:=Ab ((Aa a4).trans (a3.mono (Aa a4).size));clear de a3)|(go_at_call 185;refine(Aa be _).mono ?_;rintro e ay ⟨rfl,dd,b9⟩;have a4:=Ab ((Ae (Below.refl E.heap.size E) _).trans b9);obtain⟨F,ac⟩:=Aa bk ay (Aa a4);have u0:ay.cell? ⟨g6,0,none⟩=some (.slice H G U):=Ac F;have u1:ay.cell? ⟨g6,1,none⟩=some (.slice (some ⟨b1,0,none⟩) n1 286):=Ac F;have u2:ay.cell? ⟨g6,2,none⟩=some (.slice (some ⟨b2,0,none⟩) n2 30):=Ac F;clear dd b9 F ac))
  all_goals go_wp2_with fail
  all_goals go_meet
  all_goals exact⟨rfl,c6⟩
 case rest=>
  obtain⟨rfl,ai⟩:=hcut;obtain⟨F,ac⟩:=Aa bk wc (Aa ai);have dv:=(Aa cq).size;have d2:=(Aa ai).size;have b8:=Ab ((Aa cq).trans ((Aa ai).mono dv));clear a6 x1 x2 b7 y1 y2 be bf bk
  by_cases af:cu<b5
  . have al:=decide_eq_true af;rw[al];have bd:Hid (IK bs=Ga an aq es):=Ab (by rw[Aa aa,Aa cg,Aa co,if_pos af]);obtain⟨bc,a1,ds,cv⟩:=Qe F (.slice T n Y) (.slice (some ⟨I,0,none⟩) 257 257) (.slice (some ⟨M,0,none⟩) 1 1)
    have aw:Hid (PlanIs (((wc.setCell ⟨g6,0,none⟩ (.slice T n Y)).setCell ⟨g6,1,none⟩ (.slice (some ⟨I,0,none⟩) 257 257)).setCell ⟨g6,2,none⟩ (.slice (some ⟨M,0,none⟩) 1 1)) T n I 257 M 1 es an aq/\Below w.heap.size w (((wc.setCell ⟨g6,0,none⟩ (.slice T n Y)).setCell ⟨g6,1,none⟩ (.slice (some ⟨I,0,none⟩) 257 257)).setCell ⟨g6,2,none⟩ (.slice (some ⟨M,0,none⟩) 1 1))):=by
     have a8:=(Aa ce).below (Aa ai);refine⟨a8.keep (by omega) (fun b o ea au hb=> ?_) (a1 I a8.m1 (by omega)) (a1 M a8.m2 (by omega)),cv (Aa b8) (by omega)⟩;have:=Aa bz b o ea au
     exact a1 b hb (by omega)
    have a6:wc.cell? ⟨g6,0,none⟩=some (.slice H G U):=Ac F;have x1:wc.cell? ⟨g6,1,none⟩=some (.slice (some ⟨b1,0,none⟩) n1 286):=Ac F;have x2:wc.cell? ⟨g6,2,none⟩=some (.slice (some ⟨b2,0,none⟩) n2 30):=Ac F;have f0:=frozen_of_row wc g6 0 _ _ F;have f1:=frozen_of_row wc g6 1 _ _ F;have f2:=frozen_of_row wc g6 2 _ _ F;have b7:wc.cell? ⟨Z,0,none⟩=some (.slice T n Y):=Ac ac;have y1:wc.cell? ⟨Z,1,none⟩=some (.slice (some ⟨I,0,none⟩) 257 257):=Ac ac;have y2:wc.cell? ⟨Z,2,none⟩=some (.slice (some ⟨M,0,none⟩) 1 1):=Ac ac;clear bc a1 ds cv F ac al af;go_wp2_with fail
    refine(Aa ch T n Y I 257 257 M 1 1 es an aq _ (Aa aw).1 (Aa aw).2 (by omega) (by omega) (fun b o e au=>.inr (by have:=Aa bz b o e au;omega)) dh).mono ?_;rintro e di ⟨rfl,ak,ao⟩;have az:=Ab (And.intro ak ao);clear ak ao;go_wp2;go_end0
    rw[Aa bd];exact⟨rfl,Aa az⟩
  . have al:=decide_eq_false af;rw[al];have bd:Hid (IK bs=Ga ar am ts):=Ab (by rw[Aa aa,Aa cg,Aa co,if_neg af]);have aw:=Ab ((Aa cd).below (Aa ai));have a6:wc.cell? ⟨g6,0,none⟩=some (.slice H G U):=Ac F;have x1:wc.cell? ⟨g6,1,none⟩=some (.slice (some ⟨b1,0,none⟩) n1 286):=Ac F;have x2:wc.cell? ⟨g6,2,none⟩=some (.slice (some ⟨b2,0,none⟩) n2 30):=Ac F;clear F ac al af;go_wp2_with fail
    refine(Aa ch H G U b1 n1 286 b2 n2 30 ts ar am _ (Aa aw) (Aa b8) c8 a3 (fun b o e au=>.inl (Aa bt b o e au)) (by omega)).mono ?_;rintro e di ⟨rfl,ak,ao⟩;have az:=Ab (And.intro ak ao);clear ak ao;go_wp2;go_end0
    rw[Aa bd];exact⟨rfl,by have:=(Aa az).1;omega,(Aa az).2⟩
theorem Rp.down {No No':Nat->Prop}{B I:Nat}{w G M w':World}{S T:List Bool}(E:Rp No B w I S G)(H:Below G.heap.size G M)(F:Rp No' B M I T w')(O:∀g,No g->No' g):Rp No B w I T w':=by
 have ab:=E.below.size;have Y:=H.size;have Z:=E.is.lt;have aa:=E.is.base;refine⟨F.is.grow (Below.refl _ _) (fun g e=>.inl (O g e)),E.below.trans ((H.mono (by omega)).trans F.below),fun g U hn=> ?_⟩;rw[F.kp g (by omega) (O g hn),H.block g (by omega)];exact E.kp g U hn
theorem Z52 {bs:List Nat}(F:∀j,bs.getD j 0<256)(G:bs.length<=3000):(Ha (Gi bs)).length<=15+60*bs.length:=by
 have E:=Wz F G;have M:=Lp Ky Ir Mk Mi (itsOf (Gi bs)) (PM E) (Ka E);have I:=Gb (Gi bs);have H:=BG bs;unfold Ha;omega
theorem TV (S:List Bool)(bs:List Nat):(Qm S bs).length<=S.length+40+8*bs.length:=by
 have:=Pk S.length
 unfold Qm;simp only[VE,XD,Ah,Af];omega
theorem C8 (No:Nat->Prop)(B F:Nat)(a:Option Addr)(n O I:Nat)(U:Bool)(bs:List Nat)(S:List Bool)(w:World)(h:RIs No B w F S)(ah:bs.length=n)(as:n<=3000)(bg:n<=O)(a2:a=none->O=0)(bi:I<=2)(a7:BytesIn w a bs)(ab:∀j,bs.getD j 0<256)(aw:∀b o,a=some ⟨b,o,none⟩->bs≠ []->No b)(aa:∀g,w.heap.size<=g->¬No g)(bk:S.length+60*n<=276000):
 Calls Tryz.prog 112 #[.pointer (some ⟨F,0,none⟩),.slice a n O,.int .i64 (I:Int),.bool U] w fun e w'=>e=.returned (.tuple #[])/\(JT S bs I U).length<=S.length+2400+60*n/\Rp No B w F (JT S bs I U) w':=by
 obtain⟨Y,aj⟩:=exq (S++ [U]);obtain⟨G,am⟩:=exq (Y++Al I 2);have l1:Y.length=S.length+1:=by rw[<-aj];simp
 have l2:G.length=S.length+3:=by rw[<-am,VE,Ah,l1]
 have bb:JT S bs I U=if I=0 then Qm G bs else if I=1 then G++Ha (Gi bs)else G++IK bs:=by unfold JT;rw[aj,am]
 have av:Hid (Calls Tryz.prog 147 #[.pointer (some ⟨F,0,none⟩),.int .i64 (if U then 1 else 0),.int .i64 1] w fun e w'=>e=.returned (.tuple #[])/\Rp No B w F Y w'):=by
  rw[<-aj]
  cases U with
  |true=>exact Dp No B F 1 1 S w h (by decide) (by decide) (by omega) aa
  |false=>exact Dp No B F 0 1 S w h (by decide) (by decide) (by omega) aa
 have ba:Hid (∀ac,Rp No B w F Y ac->Calls Tryz.prog 147 #[.pointer (some ⟨F,0,none⟩),.int .i64 (I:Int),.int .i64 2] ac fun e w'=>e=.returned (.tuple #[])/\Rp No B w F G w'):=fun ac r=>by
  refine(Dp No B F I 2 Y ac r.is (by omega) (by decide) (by omega) (fun g Z=>aa g (by have:=r.below.size;omega))).mono ?_;rintro e w' ⟨rfl,r2⟩;rw[am]at r2;exact⟨rfl,r.trans r2⟩
 have al:Hid (∀E,Rp No B w F G E->BytesIn E a bs):=fun E r=>Yu a7 r.below.size (fun b o e ag hb=>r.kp b hb (aw b o e ag))
 have a0:Hid (∀E,Rp No B w F G E->Calls Tryz.prog 148 #[.pointer (some ⟨F,0,none⟩),.slice a n O] E fun e w'=>e=.returned (.tuple #[])/\Rp No B w F (Qm G bs) w'):=fun E r=>by
  refine(Xl No B F a n O bs G E r.is ah as a2 (Aa al E r) ab aw (fun g Z=>aa g (by have:=r.below.size;omega)) (by omega)).mono ?_;rintro e w' ⟨rfl,r2⟩;exact⟨rfl,r.trans r2⟩
 obtain⟨L,au⟩:=exq ((Gi bs).length);have bf:L<=n:=by have:=BG bs;omega
 have a5:Hid (∀E,Rp No B w F G E->Calls Tryz.prog 149 #[.slice a n O] E fun e w'=>∃H c1,e=.returned (.tuple #[.slice H L c1,.int .i64 0])/\TokIn w' H (Gi bs)/\(∀b o,H=some ⟨b,o,none⟩->Gi bs≠ []->E.heap.size<=b/\b<w'.heap.size)/\Below E.heap.size E w'):=fun E r=>EP a n O bs E ah as bg (Aa al E r) ab L (Ab au)
 have ap:Hid (∀(E w3:World),Rp No B w F G E->Below E.heap.size E w3->RIs (fun g=>No g\/ (E.heap.size<=g/\g<w3.heap.size)) B w3 F G/\∀g,w3.heap.size<=g->¬(No g\/ (E.heap.size<=g/\g<w3.heap.size))):=fun E w3 r hb=>by
  refine⟨r.is.grow hb (fun g e=>by rcases e with e|e;exact .inl e;exact .inr e.1),fun g Z e=> ?_⟩;have:=hb.size
  have:=r.below.size
  rcases e with e|e
  . exact aa g (by omega) e
  . omega
 have a1:Hid (∀(E w3:World) (H:Option Addr) (c1:Nat),Rp No B w F G E->Below E.heap.size E w3->TokIn w3 H (Gi bs)->(∀b o,H=some ⟨b,o,none⟩->Gi bs≠ []->E.heap.size<=b/\b<w3.heap.size)->Calls Tryz.prog 150 #[.pointer (some ⟨F,0,none⟩),.slice H L c1] w3 fun e w'=>e=.returned (.tuple #[])/\Rp No B w F (G++Ha (Gi bs)) w'):=fun E w3 H c1 r hb T M=>by
  obtain⟨aq,ao⟩:=Aa ap E w3 r hb;refine(C7 _ B F H L c1 (Gi bs) G w3 aq au (by omega) (Wz ab (by omega)) T (fun b o e ag=>.inr (M b o e ag)) ao (by omega)).mono ?_;rintro e w' ⟨rfl,r2⟩;exact⟨rfl,r.down hb r2 (fun g Z=>.inl Z)⟩
 have ay:Hid (∀(E w3:World) (H:Option Addr) (c1:Nat),Rp No B w F G E->Below E.heap.size E w3->TokIn w3 H (Gi bs)->(∀b o,H=some ⟨b,o,none⟩->Gi bs≠ []->E.heap.size<=b/\b<w3.heap.size)->Calls Tryz.prog 151 #[.pointer (some ⟨F,0,none⟩),.slice a n O,.slice H L c1] w3 fun e w'=>e=.returned (.tuple #[])/\(IK bs).length<=2300+60*n/\Rp No B w F (G++IK bs) w'):=fun E w3 H c1 r hb T M=>by
  obtain⟨aq,ao⟩:=Aa ap E w3 r hb;refine(Tj _ B F a H n O L c1 bs G w3 aq ah as ((Aa al E r).below hb (VB _)) ab T au bf (fun b o e ag=>.inr (M b o e ag)) ao (by omega)).mono ?_;rintro e w' ⟨rfl,ak,r2⟩;exact⟨rfl,ak,r.down hb r2 (fun g Z=>.inl Z)⟩
 have a8:=Ab (Z52 ab (by omega:bs.length<=3000));have a3:=Ab (TV G bs);have a6:=Ab ah;rw[bb];obtain⟨bm,ax⟩:=exq (Ha (Gi bs));obtain⟨bn,a9⟩:=exq (IK bs);obtain⟨bj,a4⟩:=exq (Qm G bs);rw[ax]at a1 a8 ⊢;rw[a9]at ay ⊢;rw[a4]at a0 a3 ⊢;clear bb a7 aw aa a2 h ab ap al ah ax a9 a4 aj am;have bh:I=0\/I=1\/I=2:=by omega
 go_enter Tryz.func112,Tryz.ntmps112
 go_upto_if 10 with (fail)
 go_cut [] (fun wc=>Hid (Rp No B w F Y wc))
 case first=>
  cases U with
  |true=>
   go_wp2_with fail
   refine(Aa av).mono ?_;rintro e ac ⟨rfl,r⟩;have an:=Ab r;clear r;go_wp2;go_meet
   exact an
  |false=>
   go_wp2_with fail
   refine(Aa av).mono ?_;rintro e ac ⟨rfl,r⟩;have an:=Ab r;clear r;go_wp2;go_meet
   exact an
 case rest=>
  have bd:=hcut;clear hcut;go_wp2_with fail
  refine(Aa ba wc (Aa bd)).mono ?_;rintro e E ⟨rfl,r2⟩;have ae:=Ab r2;clear r2 av ba
  rcases bh with rfl|rfl|rfl
  . go_wp2_with fail
    refine(Aa a0 E (Aa ae)).mono ?_;rintro e w3 ⟨rfl,az⟩;have bc:=Ab az;clear az;go_wp2;refine bodyPost_ret (results_none rfl _ _ _) rfl ⟨rfl, ?_⟩;exact⟨by have:=Aa a3;rw[Aa a6]at this;omega,Aa bc⟩
  . go_wp2_with fail
    refine(Aa a5 E (Aa ae)).mono ?_;rintro e w3 ⟨H,c1,rfl,T,M,hb⟩;have ar:=Ab (Aa a1 E w3 H c1 (Aa ae) hb T M);clear T M hb;go_wp2_with fail
    refine(Aa ar).mono ?_;rintro e be ⟨rfl,af⟩;have ai:=Ab af;clear af;go_wp2;go_end0
    refine⟨rfl, ?_⟩;exact⟨by have:=Aa a8;rw[Aa a6]at this;omega,Aa ai⟩
  . go_wp2_with fail
    refine(Aa a5 E (Aa ae)).mono ?_;rintro e w3 ⟨H,c1,rfl,T,M,hb⟩;have ar:=Ab (Aa ay E w3 H c1 (Aa ae) hb T M);clear T M hb;go_wp2_with fail
    refine(Aa ar).mono ?_;rintro e be ⟨rfl,ak,af⟩;have ai:=Ab (And.intro ak af);clear af ak;go_wp2;go_end0
    refine⟨rfl, ?_⟩;exact⟨by have:=(Aa ai).1;omega,(Aa ai).2⟩
end Go.Proofs.YtleocpdblhbimaaGreatDoor
namespace Go.Proofs.YtleocpdblhbimaaGreatDoor
open Go.RowKit
set_option linter.unusedVariables false
structure PartsIn (w:World)(b o:Nat)(A:Nat->Option Addr)(C:Nat->Nat)(bss:List (List Nat)):Prop where
 lt:b<w.heap.size
 cell:∀j,j<bss.length->w.cell? ⟨b,o+j,none⟩=some (.slice (A j) (bss.getD j []).length (C j))
 byt:∀j,j<bss.length->BytesIn w (A j) (bss.getD j [])
 cap:∀j,j<bss.length->(bss.getD j []).length<=C j
 nil:∀j,j<bss.length->A j=none->C j=0
 big:∀j,j<bss.length->(bss.getD j []).length+(if j=0 then 0 else 3000)<=9223372036854775807
 val:∀j i,(bss.getD j []).getD i 0<256
end Go.Proofs.YtleocpdblhbimaaGreatDoor
namespace Go.Proofs.YtleocpdblhbimaaGreatDoor
open Go.RowKit
set_option linter.unusedVariables false
set_option maxRecDepth 100000
def Q2:List Nat->List Int->Nat->Nat->Int
 | [],_,_,_=>0
 |n::r,ks,i,t=>if 3000<t+n\/40<=i then 2 else if ks.headD 0=0\/ks.headD 0=1\/ks.headD 0=2 then Q2 r ks.tail (i+1) (t+n)else 3
def JQ (ns:List Nat)(ks:List Int):Int:=if ns.length=0\/ks.length≠ns.length then 4 else Q2 ns ks 0 0
theorem Mh {E:Type}(l:List E)(d:E){k:Nat}(F:k<l.length):l.drop k=l.getD k d::l.drop (k+1):=by
 rw[WS F];simp[List.getD,F]
theorem We (b o a4:Nat)(am:Option Addr)(H G a0:Nat)(A:Nat->Option Addr)(C:Nat->Nat)(E:List (List Nat))(ks:List Int)(w:World)(aa:E.length=H)(an:ks.length=G)(ah:E= []\/PartsIn w b o A C E)(hK:RowIn .i64 w am ks)(aq:Option Addr)(ag:E≠ []->aq=some ⟨b,o,none⟩)(M:Int)(Z:Hid (JQ (E.map List.length) ks=M)):
 Calls Tryz.prog 111 #[.slice aq H a4,.slice am G a0] w fun e w'=>e=.returned (.int .i64 M)/\w'=w:=by
 have as:(E.map List.length).length=H:=by rw[WL];exact aa
 by_cases Y:H=0
 . subst Y;have ak:M=4:=by rw[<-Aa Z];unfold JQ;rw[if_pos (.inl as)]
   subst ak;clear ah hK ag;go_enter Tryz.func111,Tryz.ntmps111
   go_wp2;go_ret;exact⟨rfl,rfl⟩
 . have ab:E≠ []:=fun e=>Y (by rw[<-aa,e];rfl)
   obtain rfl:=ag ab;have ae:PartsIn w b o A C E:=by rcases ah with h|h;exact absurd h ab;exact h
   have bk:((H:Int)==0)=false:=by rw[beq_eq_false_iff_ne];omega
   by_cases bb:G=H
   . subst bb
     have bd:∃b2 o2,am=some ⟨b2,o2,none⟩/\Row .i64 w b2 o2 ks:=by
      rcases hK with h|⟨b2,o2,e,_,h⟩
      . exact absurd (by rw[<-an,h];rfl) Y
      . exact⟨b2,o2,e,h⟩
     obtain⟨b2,o2,rfl,az⟩:=bd
     have a5:Hid (Q2 (E.map List.length) ks 0 0=M):=Ab (by
      have:=Aa Z
      unfold JQ at this;rw[if_neg (by rintro (h|h);exact Y (by omega);exact h (by omega))]at this;exact this)
     have a7:(((G:Int)==(G:Int)))=true:=by simp
     have a8:=Ab ae.cell;have bc:=Ab ae.big;have a2:=Ab az;have U:=Ab aa;have ap:=Ab an;clear ah hK ae az Z as ag ab aa an a7;go_enter Tryz.func111,Tryz.ntmps111
     go_wp2;go_loop [5,20] (fun a1 al=>∃k t:Nat,k<=G/\t<=3000/\(k=0->t=0)/\a1=.int .i64 (t:Int)/\al=.int .i64 (k:Int)/\Hid (Q2 ((E.map List.length).drop k) (ks.drop k) k t=M)) (fun _ al=>G-(intOf al).toNat)
     case atStart=>exact⟨0,0,VH _,by decide,fun _=>rfl,rfl,rfl,a5⟩
     case round=>
      obtain⟨k,t,be,bg,ar,rfl,rfl,hc⟩:=hrel
      by_cases O:k<G
      . have c1:=Aa a8 k (by rw[Aa U];exact O);have ac:=Aa bc k (by rw[Aa U];exact O);have c2:=Aa a2 k (by rw[Aa ap];exact O);have af:=Mh (E.map List.length) 0 (k:=k) (by rw[WL,Aa U];exact O);have ai:=Mh ks 0 (k:=k) (by rw[Aa ap];exact O)
        have ay:(E.map List.length).getD k 0=(E.getD k []).length:=by
         have ba:k<E.length:=by rw[Aa U];exact O
         simp[List.getD,ba]
        rw[ay]at af;obtain⟨n,hn⟩:=exq ((E.getD k []).length);obtain⟨x,ax⟩:=exq (ks.getD k 0);rw[hn]at c1 ac af;rw[ax]at c2 ai;have ao:Q2 ((E.map List.length).drop k) (ks.drop k) k t=if 3000<t+n\/40<=k then 2 else if x=0\/x=1\/x=2 then Q2 ((E.map List.length).drop (k+1)) (ks.drop (k+1)) (k+1) (t+n)else 3:=by rw[af,ai,Q2];rfl
        have F:=Aa hc;rw[ao]at F;have bf:(k:Int)<(G:Int):=by omega
        have bj:t+n<=9223372036854775807:=by
         by_cases e:k=0
         . rw[if_pos e]at ac;have:=ar e
           omega
         . rw[if_neg e]at ac;omega
        clear ac ar hc af ai ay hn ax ao;generalize A k=bi at*;generalize C k=cc at*
        by_cases aj:3000<t+n
        . rw[if_pos (.inl aj)]at F;subst F;have au:(3000:Int)<(t:Int)+(n:Int)\/ (40:Int)<=(k:Int):=.inl (by omega);clear aj;go_wp2
          all_goals go_ret
          all_goals exact⟨rfl,rfl⟩
        . have au:¬(3000:Int)<(t:Int)+(n:Int):=by omega
          by_cases av:40<=k
          . rw[if_pos (.inr av)]at F;subst F;have a3:(3000:Int)<(t:Int)+(n:Int)\/ (40:Int)<=(k:Int):=.inr (by omega);clear aj av au;go_wp2
            all_goals go_ret
            all_goals exact⟨rfl,rfl⟩
          . have a3:¬((3000:Int)<(t:Int)+(n:Int)\/ (40:Int)<=(k:Int)):=by omega
            rw[if_neg (by omega)]at F
            by_cases I:x=0\/x=1\/x=2
            . rw[if_pos I]at F;have a9:=Ab F;clear F
              rcases I with rfl|rfl|rfl
              all_goals go_wp2
              all_goals go_round
              all_goals first|exact⟨k+1,t+n,by omega,by omega,fun e=>absurd e (by omega),by go_num,by go_num,a9⟩|(simp[intOf];omega)
            . rw[if_neg I]at F;subst F;have aw:(x==0)=false:=by rw[beq_eq_false_iff_ne];exact fun e=>I (.inl e)
              have x1:(x==1)=false:=by rw[beq_eq_false_iff_ne];exact fun e=>I (.inr (.inl e))
              have x2:(x==2)=false:=by rw[beq_eq_false_iff_ne];exact fun e=>I (.inr (.inr e))
              have x3:((x !=0)=true/\(x !=1)=true)/\(x !=2)=true:=⟨⟨by simp[bne,aw],by simp[bne,x1]⟩,by simp[bne,x2]⟩
              clear I;go_wp2
              all_goals first|(go_ret;exact⟨rfl,rfl⟩)|(exfalso;rename_i T;rcases T with (T|T)|T<;>simp[bne,aw,x1,x2]at T)
      . obtain rfl:k=G:=by omega
        have a6:M=0:=by
         rw[<-Aa hc,XR (by rw[WL,Aa U];exact VB _)];rfl
        subst a6;clear hc;go_wp2;go_ret;exact⟨rfl,rfl⟩
   . have ak:M=4:=by rw[<-Aa Z];unfold JQ;rw[if_pos (.inr (by omega))]
     subst ak;have bh:((G:Int)==(H:Int))=false:=by rw[beq_eq_false_iff_ne];omega
     clear ah hK ae ag ab;go_enter Tryz.func111,Tryz.ntmps111
     go_wp2;go_ret;exact⟨rfl,rfl⟩
end Go.Proofs.YtleocpdblhbimaaGreatDoor
