import Derived.Test.YtleocpdblhbimaaGreatDoorQ34
import Derived.Laws.Cover3
import Derived.Laws.ResultCell
import Derived.Shelf.Abstract
set_option linter.unusedSimpArgs false
set_option maxHeartbeats 8000000
namespace Go.Proofs.YtleocpdblhbimaaGreatDoor
open Go.RowKit
set_option linter.unusedVariables false
set_option maxRecDepth 100000
theorem DK (w:World)(q r:Nat):(w.drewN q).drewN r=w.drewN (r+q):=by
 first|rfl|(simp[World.drewN];try omega)
theorem NO (p b o n ac i k E m:Nat)(bs:List Nat)(w:World)(ao:w.cell? ⟨p,0,none⟩=some (.slice (some ⟨b,o,none⟩) n ac))(T:Bytes w b o bs)(ag:bs.length=n)(ak:n<=3000)(ab:∀j,bs.getD j 0<256)(an:i<k)(ah:E<m)(am:k+m<=n)(r:Nat)(O:Hid (r=if bs.getD (i+E) 0=bs.getD (k+E) 0 then lcp bs i k m else 0)):
 Calls Tryz.prog 233 #[.pointer (some ⟨p,0,none⟩),.int .i64 (i:Int),.int .i64 (k:Int),.int .i64 (E:Int),.int .i64 (m:Int)] w fun e w'=>e=.returned (.int .i64 (r:Int))/\∃q,w'=w.drewN q:=by
 have al:=Ab ag;have aj:=Ab ab;have aa:=Ab T;have H:=T (i+E) (by omega);have M:=T (k+E) (by omega);clear T ab;rw[show o+(i+E)=o+(i+E) from rfl]at H;go_enter Tryz.func233,Tryz.ntmps233
 go_wp2
 by_cases F:bs.getD (i+E) 0=bs.getD (k+E) 0
 . rw[if_pos F]at O;have G:(((bs.getD (i+E) 0:Nat):Int)!=((bs.getD (k+E) 0:Nat):Int))=false:=by rw[F];simp
   clear F;generalize bs.getD (i+E) 0=x at*;generalize bs.getD (k+E) 0=y at*;go_quiet (fail)
   clear H M G;go_wp2;go_loopw [11] (fun s wr=>∃j q:Nat,j<=m/\s=.int .i64 (j:Int)/\(∀I,I<j->bs.getD (i+I) 0=bs.getD (k+I) 0)/\wr=w.drewN q) (fun s _=>m-(intOf s).toNat)
   case atStart=>exact⟨0,nq,VH _,rfl,fun I h=>by omega,rfl⟩
   case round=>
    obtain⟨j,q,ae,rfl,Z,rfl⟩:=hrel;have U:=Ab Z;clear Z
    by_cases ai:j<m
    . have af:decide ((j:Int)<(m:Int))=true:=decide_eq_true (by omega);have H:=(Aa aa) (i+j) (by omega)
      have M:=(Aa aa) (k+j) (by omega)
      by_cases F:bs.getD (i+j) 0=bs.getD (k+j) 0
      . have Y:=Ab F;have G:(((bs.getD (i+j) 0:Nat):Int)==((bs.getD (k+j) 0:Nat):Int))=true:=by rw[F];simp
        clear F;generalize bs.getD (i+j) 0=x at H M G;generalize bs.getD (k+j) 0=y at H M G;go_wp2;go_quiet (fail)
        go_wp2;go_roundw
        case rel=>exact⟨j+1,_,by omega,by go_num,fun I h=>by
         by_cases c:I=j
         . subst c;exact Aa Y
         . exact Aa U I (by omega),rfl⟩
        case measure=>simp[intOf];omega
      . have Y:=Ab F;have G:(((bs.getD (i+j) 0:Nat):Int)==((bs.getD (k+j) 0:Nat):Int))=false:=by rw[beq_eq_false_iff_ne];omega
        clear F;generalize bs.getD (i+j) 0=x at H M G;generalize bs.getD (k+j) 0=y at H M G;go_wp2;go_quiet (fail)
        go_wp2;go_ret;exact⟨Dd (by rw[Aa O,Z2m ae (Aa U) (.inr (Aa Y))]),_,DK w q nq⟩
    . obtain rfl:m=j:=by omega
      have af:decide ((m:Int)<(m:Int))=false:=decide_eq_false (by omega);go_wp2;go_quiet (fail)
      go_wp2;go_ret;exact⟨Dd (by rw[Aa O,Z2m (VB _) (Aa U) (.inl rfl)]),_,DK w q nq⟩
 . rw[if_neg F]at O;have G:(((bs.getD (i+E) 0:Nat):Int)!=((bs.getD (k+E) 0:Nat):Int))=true:=by rw[bne_iff_ne];omega
   clear F;generalize bs.getD (i+E) 0=x at*;generalize bs.getD (k+E) 0=y at*;obtain rfl:=Aa O;go_quiet (fail)
   go_wp2;go_ret;exact⟨rfl,nq,rfl⟩
theorem AP (w:World):(zeroValue 76).run Tryz.prog w=.ok (.slice none 0 0) w:=by kernel_rfl
structure Mid (No:Nat->Prop)(B:Nat)(R w3:World)(p mb base b o n cap:Nat)(bs:List Nat)(j:Nat):Prop where
 pst:Pst w3 p (.slice (some ⟨b,o,none⟩) n cap) mb j
 grp:Grp w3 base mb bs (j+1)
 shun:w3.Shuns mb No
 row:Bytes w3 b o bs
 size:R.heap.size<=w3.heap.size
 room:base<=R.heap.size
 below:Below B R w3
 kp:Kp No R w3
theorem Mid.next {No:Nat->Prop}{B:Nat}{w R F:World}{p H I b o n T j:Nat}{bs:List Nat}(M:Mid No B R F p H I b o n T bs j)(E:Geo No B p H I b bs)(U:Below B w R)(hK:Kp No w R)(O:w.heap.size<=R.heap.size):
 Pas No (F.setCell ⟨p,2,none⟩ (.int .i64 ((j:Int)+1))) p H I b o n T bs (j+1)/\Below B w (F.setCell ⟨p,2,none⟩ (.int .i64 ((j:Int)+1)))/\Kp No w (F.setCell ⟨p,2,none⟩ (.int .i64 ((j:Int)+1))):=by
 have G:=Ad F p 2 (.int .i64 ((j:Int)+1));have hm:=M.grp.lt;have Y:Below B w F:=U.trans (M.below);refine⟨⟨M.pst.set (j+1),M.grp.kept G (fun i e=>by cases e;exact⟨E.pb,E.pm⟩),M.shun.kept G hm.2 (fun e=>E.pm (by simpa using e.symm)),M.row.grown G (fun e=>by have:=E.bB;have:=E.pB;simp at e;omega), ?_⟩, ?_, ?_⟩
 . exact VU M.room (VU M.size G.size)
 . exact Y.grown G (by have:=O;have:=M.size;have:=M.pst.lt;have:=E.pB;omega) (fun i e=>by cases e;exact E.pB)
 . exact(hK.trans M.kp O).grown G (VU O M.size) (fun i e=>by cases e;exact E.nop)
theorem Vw (No:Nat->Prop)(B p U I b o n ap j:Nat)(bs:List Nat)(R:World)(E:Geo No B p U I b bs)(bq:bs.length=n)(G:Pas No R p U I b o n ap bs j)(bt:j+3<=n)(bd:∀g,R.heap.size<=g->¬No g)(al am an:Nat)(bc:Hi bs j=(al,am,an)):
 ∃(v:Value) (st:Nat) (H:World),(Instr.mapEntry 290 (.map (some U)) (.agg #[.int .u8 (al:Int),.int .u8 (am:Int),.int .u8 (an:Int)])).run Tryz.prog R=.ok (.tuple #[v,.int .i64 (st:Int)]) H/\R.grownBy H (some U)/\H.heap.size=R.heap.size/\
  ∀(W:World) (X:Nat),H.grownBy W none->W.cell? ⟨X,0,none⟩=some (.int .i64 (j:Int))->∃(v':Value) (O T:World),(∀aq,(Builtin.append_ #[76,76] aq #[v,.slice (some ⟨X,0,none⟩) 1 1]).run Tryz.prog W=.ok v' O)/\
   (Instr.entryStore 290 (.map (some U)) (.int .i64 (st:Int)) v').run Tryz.prog O=.ok () T/\Mid No B R T p U I b o n ap bs j:=by
 obtain⟨bf,hi,bj,bg,ba⟩:=info_parts Bv;have hn:=E.len;have ok:=X4 E.byte j;obtain⟨D,au,ay⟩:=G.grp;obtain⟨v,ab,st,H,a7,ac,ah,a6,ak,bo,aw,a4⟩:=N5 au Z81 Tryz.underlying290 AP (by unfold maxLen;omega) (Pg ok);have bn:ab=(plc bs j (Hi bs j)).map fun x:Nat=>(x:Int):=Uv ak (by rw[<-a6];exact(ay _ ok).symm)
 refine⟨v,st,H, ?_,ac,ah, ?_⟩
 . rw[show (Value.agg #[.int .u8 (al:Int),.int .u8 (am:Int),.int .u8 (an:Int)])=kv (Hi bs j) by rw[bc];rfl];exact a7
 intro W X F a3;have bh:I<=H.heap.size:=by rw[ah];exact G.size
 have ax:W.ownsInts I 3 .i64 v ab:=ak.kept F (by cases az:v.ownBlock with
  |none=>exact .inl rfl
  |some g=>exact .inr (by simp))
 obtain⟨v',O,a0,bm,ae,_,ar⟩:=run_append_own_at W I 76 76 3 bf (.int .i64 0) 1 8 Tryz.underlying76 hi bj bg ba rfl (by decide) v ab.length _ ax.1 ⟨X,0,none⟩ 1 1 [.int .i64 (j:Int)] rfl (fun i u hi=>Lu a3 hi) (Bc rfl) (by unfold maxLen;omega) (by omega) (VU bh F.size);have aj:O.ownsInts I 3 .i64 v' (ab++ [(j:Int)]):=ax.appended bm (WalkArith.wf_i64 (by omega));have M:H.grownBy O v.ownBlock:=⟨ae.os.trans F.os,ae.tape.trans F.tape,ae.output.trans F.output,VU F.size ae.size,fun i aa af=>(ae.block i (VG aa F.size) af).trans (F.block i aa (by simp))⟩
 obtain⟨T,a2,a8,Z,a9⟩:=a4 O v' _ M aj (by simp;omega) (by
  rcases ar with h|h
  . exact .inl h
  . exact .inr ⟨_,h,F.size⟩)
 have bb:T.ownsInts I 3 .i64 v' (ab++ [(j:Int)]):=aj.kept Z (by
  cases az:v'.ownBlock with
  |none=>exact .inl rfl
  |some g=>
   refine .inr (fun e=> ?_);have:=(aj.1.lt g az).1
   have:=G.grp.lt.1
   cases e
   omega)
 have ai:∀g,v.ownBlock=some g->I<=g:=fun g e=>(ak.1.lt g e).1
 have ag:∀g,g<R.heap.size->g≠U->v.ownBlock≠some g->T.heap[g]? =R.heap[g]? :=by
  intro g aa af bi;have av:g<H.heap.size:=by rw[ah];exact aa
  rw[Z.block g (VG av M.size) (fun e=>af (by simpa using e)),M.block g av (fun e=>bi e.symm),ac.block g aa (fun e=>af (by simpa using e))]
 have ao:R.heap.size<=T.heap.size:=by
  have:=M.size
  have:=Z.size
  omega
 have a1:=G.pst.lt;have bk:v.ownBlock≠some p:=fun e=>by have:=ai p e;have:=E.pb;omega
 have a5:v.ownBlock≠some b:=fun e=>by have:=ai b e;have:=E.pb;have:=E.bB;have:=E.pB;omega
 refine⟨v',O,T,fun aq=>a0,a2, ?_, ?_, ?_, ?_,ao,G.size, ?_, ?_⟩
 . exact(ag p a1 E.pm bk).trans G.pst
 . exact Grp.step E.byte ay (J5 au) a8 bb (by rw[bn])
 . refine a9 No G.shun ?_;intro g Y
   rcases ar with h|h
   . exact aw No G.shun g (by rw[<-h];exact Y)
   . rw[h]at Y
     cases Y
     have:=F.size
     exact bd _ (by omega)
 . intro i hi;have be:b<R.heap.size:=by have:=E.bB;have:=E.pB;omega
   have e:=ag b be (by have:=E.bB;have:=E.mB;omega) a5;have:=G.row i hi
   unfold World.cell? at this ⊢;rw[e];exact this
 . refine⟨Z.os.trans (M.os.trans ac.os),Z.tape.trans (M.tape.trans ac.tape),Z.output.trans (M.output.trans ac.output),ao, ?_⟩;intro g Y;have:=E.pB
   have:=E.mB
   exact ag g (by omega) (by omega) (fun e=>by have:=ai g e;have:=E.pb;omega)
 . intro g Y as;exact ag g Y (fun e=>E.nom (by rw[<-e];exact as)) (fun e=>aw No G.shun g e as)
theorem PW (No:Nat->Prop)(B p I M b o n F aa k:Nat)(bs:List Nat)(w:World)(U:Geo No B p I M b bs)(aq:bs.length=n)(b8:n<=F)(a0:Pas No w p I M b o n F bs aa)(bj:aa<=k)(bq:k+3<=n)(ay:∀g,w.heap.size<=g->¬No g):
 Calls Tryz.prog 232 #[.pointer (some ⟨p,0,none⟩),.int .i64 (k:Int)] w fun e w'=>e=.returned (.tuple #[])/\Pas No w' p I M b o n F bs k/\Below B w w'/\Kp No w w':=by
 have H:=Ab U;have a4:=Ab a0;have ak:=Ab ay;have hn:=U.len;have bd:=U.pm;clear U a0 ay;go_enter Tryz.func232,Tryz.ntmps232
 go_wp2;go_loopw [4] (fun _ wr=>∃j:Nat,aa<=j/\j<=k/\Pas No wr p I M b o n F bs j/\Below B w wr/\Kp No w wr) (fun _ wr=>k-((wr.cell? ⟨p,2,none⟩).map (fun v=>(intOf v).toNat)).getD 0)
 case atStart=>exact⟨aa,VB _,bj,Aa a4,Below.refl _ _,Kp.refl _ _⟩
 case round=>
  obtain⟨j,cm,cn,G,Z,af⟩:=hrel;have ai:=Ab G;have ag:=Ab Z;have ae:=Ab af;have c2:=G.pst.cell2
  by_cases b4:j<k
  . have c0:=G.pst.cell0;have c1:=G.pst.cell1;have ar:=G.row j (by omega);have b1:=G.row (j+1) (by omega);have b2:=G.row (j+2) (by omega);rw[<-WT]at b1 b2;have ao:=Z.size;have bf:=G.pst.lt;have bw:b<wr.heap.size:=Nat.lt_trans (VG (Aa H).bB (Aa H).pB) bf;clear G Z af;generalize av:bs.getD j 0=E at ar;generalize aw:bs.getD (j+1) 0=x1 at b1;generalize an:bs.getD (j+2) 0=x2 at b2;have ax:Hid (Hi bs j=(E,x1,x2)):=by rw[<-av,<-aw,<-an];rfl
    clear av aw an;have cj:¬F=j:=by omega
    have bm:∀(a:Option Addr) (c:Nat) (W:World),(Instr.arrayAt 313 (.slice a (n-j) c)).run Tryz.prog W=.ok (.pointer a) W:=fun a c W=>run_arrayAt _ _ _ _ _ _ _ Tryz.underlying313 (by omega)
    go_wp2;go_big_region
    clear ar b1 b2 bm;have O:Hid (Pas No (wr.alloc (.cells #[.int .u8 (E:Int),.int .u8 (x1:Int),.int .u8 (x2:Int)] 313)).drew p I M b o n F bs j):=((Aa ai).grown (Aa H) (World.grownBy_alloc wr _ none) (fun j e=>by cases e)).drewN 1;have au:Hid (Below B w (wr.alloc (.cells #[.int .u8 (E:Int),.int .u8 (x1:Int),.int .u8 (x2:Int)] 313)).drew):=(Ae ((Aa ag).alloc (VU (VU (Aa H).pB (YX (Aa a4).pst.lt)) ao) (.cells #[.int .u8 (E:Int),.int .u8 (x1:Int),.int .u8 (x2:Int)] 313)) 1)
    have al:Hid (Kp No w (wr.alloc (.cells #[.int .u8 (E:Int),.int .u8 (x1:Int),.int .u8 (x2:Int)] 313)).drew):=((Aa ae).grown (Cb (World.grownBy_alloc wr (.cells #[.int .u8 (E:Int),.int .u8 (x1:Int),.int .u8 (x2:Int)] 313) none)) ao (fun j e=>by cases e))
    have bb:(wr.alloc (.cells #[.int .u8 (E:Int),.int .u8 (x1:Int),.int .u8 (x2:Int)] 313)).drew.cell? ⟨wr.heap.size,0,none⟩=some (.int .u8 (E:Int)):=by simp
    have bh:(wr.alloc (.cells #[.int .u8 (E:Int),.int .u8 (x1:Int),.int .u8 (x2:Int)] 313)).drew.cell? ⟨wr.heap.size,1,none⟩=some (.int .u8 (x1:Int)):=by simp
    have bg:(wr.alloc (.cells #[.int .u8 (E:Int),.int .u8 (x1:Int),.int .u8 (x2:Int)] 313)).drew.cell? ⟨wr.heap.size,2,none⟩=some (.int .u8 (x2:Int)):=by simp
    have cg:wr.heap.size<(wr.alloc (.cells #[.int .u8 (E:Int),.int .u8 (x1:Int),.int .u8 (x2:Int)] 313)).drew.heap.size:=by simp
    have T:w.heap.size<=(wr.alloc (.cells #[.int .u8 (E:Int),.int .u8 (x1:Int),.int .u8 (x2:Int)] 313)).drew.heap.size:=by simp;omega
    clear c0 c1 ag ae;generalize (wr.alloc (.cells #[.int .u8 (E:Int),.int .u8 (x1:Int),.int .u8 (x2:Int)] 313)).drew=r at*;generalize wr.heap.size=bv at*;have bc:=(Aa O).pst.cell1;have am:=(Aa O).pst.cell2;have be:=(Aa O).pst.lt;have ba:Hid (Pas No r.drew p I M b o n F bs j):=(Aa O).drewN 1;have a8:Hid (Pas No (r.alloc (.cells #[.int .i64 (j:Int)] 3)).drew p I M b o n F bs j):=((Aa O).grown (Aa H) (World.grownBy_alloc r _ none) (fun j e=>by cases e)).drewN 1;obtain⟨ce,stA,aj,bk,a3,cd,as⟩:=Vw No B p I M b o n F j bs r.drew (Aa H) aq (Aa ba) (by omega) (fun g h=>Aa ak g (VU T h)) E x1 x2 (Aa ax);obtain⟨b3,ck,cl,Y,bn,az⟩:=as (aj.alloc (.cells #[.int .i64 (j:Int)] 3)) aj.heap.size (World.grownBy_alloc _ _ _) (by simp);obtain⟨b0,ci,bi,a9,a2,b9,a1⟩:=Vw No B p I M b o n F j bs (r.alloc (.cells #[.int .i64 (j:Int)] 3)).drew (Aa H) aq (Aa a8) (by omega) (fun g h=>Aa ak g (VU (VU T (by simp)) h)) E x1 x2 (Aa ax)
    obtain⟨b5,b7,bt,ab,a6,mB⟩:=a1 bi r.heap.size (Aw _ _) (a2.cell (by simp) (by
     have:=(Aa O).grp.lt.2
     simp;omega))
    have a7:=a3.cell (a:=⟨p,2,none⟩) am (by simpa using bd);replace Y:=Y 76;replace ab:=ab 76;simp[go_sem]at Y ab
    have ah:=Ab az;have ac:=Ab mB;clear as a1 az mB a3 a2;have ch:=(Aa ah).pst.cell2;have bu:=(Aa ah).pst.frozen 2;have bo:=(Aa ac).pst.cell2;have bz:=(Aa ac).pst.frozen 2;have ap:=Ab ((Aa ah).next (Aa H) (Ae (Aa au) 1) (Aa al) T);have a5:=Ab ((Aa ac).next (Aa H) (Ae ((Aa au).alloc (VU (Aa H).pB (YX be)) (.cells #[.int .i64 (j:Int)] 3)) 1) ((Aa al).grown (Cb (World.grownBy_alloc r (.cells #[.int .i64 (j:Int)] 3) none)) T (fun j e=>by cases e)) (VU T (by simp)));go_wp2;go_big_region
    all_goals clear Y ab bk a9 bn a6 bb bh bg bc am a7
    all_goals
     go_wp2;go_roundw
     case rel=>first|exact⟨j+1,by omega,by omega,Aa ap⟩|exact⟨j+1,by omega,by omega,Aa a5⟩
     case measure=>
      rw[c2]
      first|rw[(Aa ap).1.pst.cell2]|rw[(Aa a5).1.pst.cell2]
      simp[intOf];omega
  . obtain rfl:k=j:=by omega
    clear G Z af;go_wp2;go_end0
    exact⟨rfl,Aa ai,Aa ag,Aa ae⟩
theorem Pas.row3 {No:Nat->Prop}{w:World}{p O al b o n ae k:Nat}{bs:List Nat}(h:Pas No w p O al b o n ae bs k)(ab:∀j,bs.getD j 0<256)(an:k<=3000)(I H F:Nat)(am:Hi bs k=(I,H,F)):
 ∃(a:Option Addr) (c E:Nat),(plc bs k (Hi bs k)).length=E/\(Instr.lookup 290 (.map (some O)) (.agg #[.int .u8 (I:Int),.int .u8 (H:Int),.int .u8 (F:Int)]) false).run Tryz.prog w=.ok (.slice a E c) w/\E<=k/\
  ∀j,j<E->∃g,a=some ⟨g,0,none⟩/\w.cell? ⟨g,j,none⟩=some (.int .i64 (((plc bs k (Hi bs k)).getD j 0:Nat):Int)):=by
 have ok:=X4 ab k;obtain⟨D,ac,af⟩:=h.grp;obtain⟨v,T,ah,ag,M,ai,_⟩:=ac.at Z81 Tryz.underlying290 (AP w) (by unfold maxLen;omega) (Pg ok);have Z:T=(plc bs k (Hi bs k)).map fun x:Nat=>(x:Int):=Uv M (by rw[<-ag];exact(af _ ok).symm)
 have aa:T.length=(plc bs k (Hi bs k)).length:=by rw[Z];simp
 have U:(Instr.lookup 290 (.map (some O)) (.agg #[.int .u8 (I:Int),.int .u8 (H:Int),.int .u8 (F:Int)]) false).run Tryz.prog w=.ok v w:=by
  rw[show (Value.agg #[.int .u8 (I:Int),.int .u8 (H:Int),.int .u8 (F:Int)])=kv (Hi bs k) by rw[am];rfl];exact ah
 rcases M.1.2 with ⟨G,aj⟩|⟨g,c,cur,G,aj⟩
 . refine⟨none,0,0,by omega,by rw[U,G],VH _,fun j ak=>by omega⟩
 . refine⟨some ⟨g,0,none⟩,c,T.length,aa.symm,by rw[U,G],ai,fun j ak=>⟨g,rfl, ?_⟩⟩;have Y:=M.1;rw[G]at Y;rw[Y.cellAt j (by omega)];have:j<(plc bs k (Hi bs k)).length:=by omega
   simp[Z,List.getD,this]
theorem NT {bs:List Nat}{k:Nat}(E:mst bs.length k<3):lng bs k=(0,0):=
 CD (fun d G F=>XO (Rm _ _ _ _) E)
theorem Rj (No:Nat->Prop)(B p O T b o n H Z k:Nat)(bs:List Nat)(w:World)(G:Geo No B p O T b bs)(an:bs.length=n)(cd:n<=H)(ai:Pas No w p O T b o n H bs Z)(a4:Z<=k)(ck:k<=n)(aw:∀g,w.heap.size<=g->¬No g)(M aa:Nat)(a2:Hid (lng bs k=(M,aa))):
 Calls Tryz.prog 207 #[.pointer (some ⟨p,0,none⟩),.int .i64 (k:Int)] w fun e w'=>e=.returned (.tuple #[.int .i64 (M:Int),.int .i64 (aa:Int)])/\(∃aq,aq<=k/\Pas No w' p O T b o n H bs aq)/\Below B w w'/\Kp No w w':=by
 have ag:=Ab G;have be:=Ab ai;have bz:=Ab aw;have Y:=Ab an;have hn:=G.len;have c0:=ai.pst.cell0;clear G ai aw;go_enter Tryz.func207,Tryz.ntmps207
 by_cases ay:mst n k<3
 . obtain⟨m,hm⟩:∃m,m=mst n k:=⟨_,rfl⟩
   have a5:(if (n:Int)-(k:Int)<258 then (n:Int)-(k:Int)else 258)=(m:Int):=by rw[hm];unfold mst;split<;>omega
   have ah:m<3:=by omega
   have a7:=Aa a2;rw[NT (by rw[an];exact ay)]at a7;obtain⟨rfl,rfl⟩:0=M/\0=aa:=by simpa using a7
   go_wp2;go_ret2;exact⟨rfl,⟨Z,a4,Aa be⟩,Below.refl _ _,Kp.refl _ _⟩
 . obtain⟨m,hm⟩:∃m,m=mst n k:=⟨_,rfl⟩
   have a5:(if (n:Int)-(k:Int)<258 then (n:Int)-(k:Int)else 258)=(m:Int):=by rw[hm];unfold mst;split<;>omega
   have ah:3<=m:=by omega
   have b0:k+m<=n:=by rw[hm];unfold mst;omega
   have co:m<=258:=by rw[hm];unfold mst;omega
   have ab:=Ab hm;clear hm ay;go_wp2_with fail
   refine(PW No B p O T b o n H Z k bs w (Aa ag) an cd (Aa be) a4 (by omega) (Aa bz)).mono ?_;rintro e ac ⟨rfl,I,a9,a3⟩;have ao:=Ab I;have ax:=Ab a9;have bb:=Ab a3;have d0:=I.pst.cell0;have b7:=I.pst.cell1;have bf:=I.row k (by omega);have b1:=I.row (k+1) (by omega);have b2:=I.row (k+2) (by omega);rw[<-WT]at b1 b2;clear I a9 a3 c0;generalize ar:bs.getD k 0=as at bf;generalize au:bs.getD (k+1) 0=x1 at b1;generalize a1:bs.getD (k+2) 0=x2 at b2;have bw:Hid (Hi bs k=(as,x1,x2)):=by rw[<-ar,<-au,<-a1];rfl
   clear ar au a1;have ci:¬H=k:=by omega
   have ce:∀(a:Option Addr) (c:Nat) (W:World),(Instr.arrayAt 313 (.slice a (n-k) c)).run Tryz.prog W=.ok (.pointer a) W:=fun a c W=>run_arrayAt _ _ _ _ _ _ _ Tryz.underlying313 (by omega)
   have bc:Hid (Pas No ac.drew p O T b o n H bs k):=(Aa ao).drewN 1;obtain⟨a,c,L,az,cg,cq,a8⟩:=(Aa bc).row3 (Aa ag).byte (by omega) as x1 x2 (Aa bw);have U:=Ab az;have bu:=Ab a8;clear az a8;go_wp2;go_big_region
   clear bf b1 b2 ce cg b7 a5;have bq:=Ab (Aa ag).byte;have bv:Hid (Han bs k (plc bs k (Hi bs k)) (L-L) 0 0):=.inl ⟨by omega,rfl,rfl⟩
   have bg:Hid (∀j,j<(plc bs k (Hi bs k)).length->3<=lcp bs ((plc bs k (Hi bs k)).getD j 0) k (mst bs.length k)):=by
    intro j al;refine(CI ?_).1 (MK bs k (Hi bs k) al).2;rw[Aa Y,<-Aa ab];exact ah
   have bt:=Ab (fun j (al:j<L)=>(MK bs k (Hi bs k) (j:=j) (by rw[Aa U];exact al)).1);have b4:Hid (∀q x y,Han bs k (plc bs k (Hi bs k)) q x y->(q=L\/x=m)->lng bs k=(x,y)):=fun q x y h b3=>h.lng (by rw[Aa Y,<-Aa ab];exact ah) (by rw[Aa Y,<-Aa ab,Aa U];exact b3)
   have ba:Hid (mst bs.length k=m):=by rw[Aa Y];exact(Aa ab).symm
   have bd:=(Aa bc).row;have bm:=Ab bd;clear bd;generalize plc bs k (Hi bs k)=E at*;go_wp2;go_loopw [4,5,8] (fun bi bh ak wr=>∃t x y q:Nat,t<=L/\ak=.int .i64 ((t:Int)-1)/\bi=.int .i64 (x:Int)/\bh=.int .i64 (y:Int)/\Han bs k E (L-t) x y/\wr=ac.drewN q) (fun _ _ ak _=>((intOf ak)+1).toNat)
   case atStart=>exact⟨L,0,0,1,VB _,rfl,rfl,rfl,Aa bv,rfl⟩
   case round=>
    obtain⟨t,x,y,q,cj,rfl,rfl,rfl,aj,rfl⟩:=hrel;have af:=Ab aj;have cm:x<=m:=by have:=aj.le.1;rw[Aa ba]at this;exact this
    clear aj
    by_cases bn:0<t/\x<m
    . obtain⟨bj,b5⟩:=bn;obtain⟨t,rfl⟩:∃am,t=am+1:=⟨t-1,by omega⟩
      obtain⟨g,rfl,hc⟩:=Aa bu t (by omega);have cl:ac.cell? ⟨g,t,none⟩=some (.int .i64 ((E.getD t 0:Nat):Int)):=hc;have b8:=Aa bt t (by omega);have ez:E.length-1-(L-(t+1))=t:=by rw[Aa U];omega
      obtain⟨r,F⟩:∃r,r=if bs.getD (E.getD t 0+x) 0=bs.getD (k+x) 0 then lcp bs (E.getD t 0) k m else 0:=⟨_,rfl⟩
      have b9:=Ab (NO p b o n H (E.getD t 0) k x m bs (ac.drewN q) d0 (Aa bm) (Aa Y) (by omega) (Aa bq) b8 b5 b0 r F)
      have a6:Hid ((r<=x->Han bs k E (L-t) x y)/\(x<r->Han bs k E (L-t) r (k-E.getD t 0))):=by
       have ap:=(Aa af).more (by rw[Aa U];omega) (Aa bg);have a0:=(Aa af).less (by rw[Aa U];omega) (Aa bg);rw[ez,show L-(t+1)+1=L-t by omega,Aa ba]at ap a0
       constructor
       . intro h;refine a0 ?_
         by_cases e:bs.getD (E.getD t 0+x) 0=bs.getD (k+x) 0
         . rw[if_pos e]at F;omega
         . exact G0 e
       . intro h
         have e:bs.getD (E.getD t 0+x) 0=bs.getD (k+x) 0:=by
          by_cases e:bs.getD (E.getD t 0+x) 0=bs.getD (k+x) 0
          . exact e
          . rw[if_neg e]at F;omega
         rw[if_pos e]at F;rw[F]at h ⊢;exact ap h
      have cn:r<=m:=by
       rw[F];split
       . exact Rm _ _ _ _
       . omega
      clear F hc ez;generalize E.getD t 0=z at*;go_wp2_with fail
      refine(Aa b9).mono ?_;rintro e cp ⟨rfl,ch,rfl⟩
      by_cases bk:x<r
      . have ae:=Ab ((Aa a6).2 bk);go_wp2;go_quiet (fail)
        go_wp2;go_roundw
        case rel=>exact⟨t,r,k-z,_,by omega,by go_num,rfl,by go_num,Aa ae,rfl⟩
        case measure=>(simp[intOf];try omega)
      . have ae:=Ab ((Aa a6).1 (by omega));go_wp2;go_roundw
        case rel=>exact⟨t,x,y,_,by omega,by go_num,rfl,rfl,Aa ae,rfl⟩
        case measure=>(simp[intOf];try omega)
    . have av:lng bs k=(x,y):=Aa b4 (L-t) x y (Aa af) (by omega);rw[Aa a2]at av;obtain⟨rfl,rfl⟩:M=x/\aa=y:=by simpa using av
      by_cases bj:0<t
      . have bo:M=m:=by omega
        obtain⟨t,rfl⟩:∃am,t=am+1:=⟨t-1,by omega⟩
        subst bo;go_wp2;go_ret2;exact⟨rfl,⟨k,VB _,(Aa ao).drewN q⟩,Ae (Aa ax) q,Aa bb⟩
      . obtain rfl:t=0:=by omega
        go_wp2;go_ret2;exact⟨rfl,⟨k,VB _,(Aa ao).drewN q⟩,Ae (Aa ax) q,Aa bb⟩
def tcs (t:Tk):List Value:= [.int .u8 (t.1:Int),.int .i64 t.2.1,.int .i64 t.2.2]
def tvs (l:List Tk):List Value:=l.flatMap tcs
def Toks (w:World)(b o:Nat)(l:List Tk):Prop:=∀j,j<l.length->w.cell? ⟨b,o+j*3,none⟩=some (.int .u8 ((l.getD j (0,0,0)).1:Int))/\w.cell? ⟨b,o+j*3+1,none⟩=some (.int .i64 (l.getD j (0,0,0)).2.1)/\w.cell? ⟨b,o+j*3+2,none⟩=some (.int .i64 (l.getD j (0,0,0)).2.2)
def TokIn (w:World)(a:Option Addr)(l:List Tk):Prop:=l= []\/∃b o,a=some ⟨b,o,none⟩/\b<w.heap.size/\Toks w b o l
theorem Ui (l:List Tk):(tvs l).length=l.length*3:=by
 induction l with
 |nil=>rfl
 |cons t r ih=>
  have:tvs (t::r)=tcs t++tvs r:=rfl
  rw[this,VE,ih,VJ];show 3+r.length*3=_
  omega
theorem Uj (l r:List Tk):tvs (l++r)=tvs l++tvs r:=by simp[tvs]
theorem Z64 (l:List Tk)(j:Nat)(E:j<l.length):(tvs l)[j*3]? =some (.int .u8 ((l.getD j (0,0,0)).1:Int))/\(tvs l)[j*3+1]? =some (.int .i64 (l.getD j (0,0,0)).2.1)/\(tvs l)[j*3+2]? =some (.int .i64 (l.getD j (0,0,0)).2.2):=by
 induction l generalizing j with
 |nil=>simp at E
 |cons t r ih=>
  have e:tvs (t::r)=tcs t++tvs r:=rfl
  match j with
  |0=>rw[e];exact⟨rfl,rfl,rfl⟩
  |j+1=>
   have H:j<r.length:=by simpa using E
   obtain⟨I,G,F⟩:=ih j H;have hl:(tcs t).length=3:=rfl;refine⟨?_, ?_, ?_⟩
   . rw[e,VX (by rw[hl];omega),hl,show (j+1)*3-3=j*3 by omega,I];rfl
   . rw[e,VX (by rw[hl];omega),hl,show (j+1)*3+1-3=j*3+1 by omega,G];rfl
   . rw[e,VX (by rw[hl];omega),hl,show (j+1)*3+2-3=j*3+2 by omega,F];rfl
theorem TokIn.own {w:World}{B F n M:Nat}{l:List Tk}(E:w.ownsRow B 244 3 (.slice (some ⟨F,0,none⟩) n M) n (tvs l)):TokIn w (some ⟨F,0,none⟩) l:=by
 refine .inr ⟨F,0,rfl,(E.lt F rfl).2, ?_⟩;intro j I;have hn:l.length=n:=by have:=E.1;rw[Ui]at this;omega
 obtain⟨O,H,G⟩:=Z64 l j I;refine⟨?_, ?_, ?_⟩
 . rw[WG,E.cellAt _ (by omega)];simp[List.getD,O]
 . rw[WG,E.cellAt _ (by omega)];simp[List.getD,H]
 . rw[WG,E.cellAt _ (by omega)];simp[List.getD,G]
theorem Toks.below {w w':World}{B b o:Nat}{l:List Tk}(M:Toks w b o l)(F:Below B w w')(E:b<B):Toks w' b o l:=by
 intro j I;obtain⟨O,H,G⟩:=M j I;exact⟨(F.cell (p:=⟨b,_,none⟩) E).trans O,(F.cell (p:=⟨b,_,none⟩) E).trans H,(F.cell (p:=⟨b,_,none⟩) E).trans G⟩
theorem TokIn.below {w w':World}{B:Nat}{a:Option Addr}{l:List Tk}(E:TokIn w a l)(F:Below B w w')(M:w.heap.size<=B):TokIn w' a l:=by
 rcases E with E|⟨b,o,I,H,G⟩
 . exact .inl E
 . exact .inr ⟨b,o,I,VG H F.size,G.below F (by omega)⟩
theorem TokIn.alloc {w:World}{a:Option Addr}{l:List Tk}(E:TokIn w a l)(x:Obj):TokIn (w.alloc x) a l:=
 E.below ((Below.refl w.heap.size w).alloc (VB _) x) (VB _)
theorem CO:(Tryz.prog.info? 244).map (fun i=>(i.zero,i.size,i.bytes))=some (some (.agg #[.int .u8 0,.int .i64 0,.int .i64 0]),3,24):=by kernel_rfl
theorem AE (b:Nat)(s f:Int)(w:World)(m:Nat)(E:max s 1=(m:Int)):
 Calls Tryz.prog 179 #[.agg #[.int .u8 (b:Int),.int .i64 s,.int .i64 f]] w fun e w'=>e=.returned (.int .i64 (m:Int))/\w.grownBy w' none:=by
 have G:(if 1<s then s else 1)=(m:Int):=by split<;>omega
 have F:(if s<1 then 1 else s)=(m:Int):=by split<;>omega
 go_enter Tryz.func179,Tryz.ntmps179
 go_wp2;go_ret;exact⟨rfl,World.grownBy_alloc w _ none⟩
theorem Rf (a:Option Addr)(n E:Nat)(w:World):
 Calls Tryz.prog 177 #[.slice a n E] w fun e w'=>e=.returned (.pointer (some ⟨w.heap.size+1,0,none⟩))/\w'=(w.alloc (.map #[] 0)).alloc (.cells #[.slice a n E,.map (some w.heap.size),.int .i64 0] 292):=by
 have F:= @run_makeMap Tryz.prog;go_enter Tryz.func177,Tryz.ntmps177
 go_wp2;go_ret;exact⟨rfl,rfl⟩
structure Snk (J:(Nat->Prop)->List It->World->Prop)(B ks kf kr:Nat)(cs cf br:Array Value)(all:List It):Prop where
 es:∀(args:Array Value) (w:World),(callFunc ks args).run Tryz.prog w=.ok (.enter ks args) w
 ef:∀(args:Array Value) (w:World),(callFunc kf args).run Tryz.prog w=.ok (.enter kf args) w
 er:∀(args:Array Value) (w:World),(callFunc kr args).run Tryz.prog w=.ok (.enter kr args) w
 grow:∀ {No No':Nat->Prop} {is:List It} {W W1:World},J No is W->Below W.heap.size W W1->(∀g,No' g->No g\/W.heap.size<=g)->J No' is W1
 sym:∀ {No:Nat->Prop} {is R:List It} {k:Nat} {W:World},is++It.sym k::R=all->J No is W->(∀g,W.heap.size<=g->¬No g)->Calls Tryz.prog ks (#[.int .i64 (k:Int)]++cs) W fun e W'=>e=.returned (.tuple #[])/\J No (is++ [It.sym k]) W'/\Below B W W'/\Kp No W W'
 far:∀ {No:Nat->Prop} {is R:List It} {k:Nat} {W:World},is++It.far k::R=all->J No is W->(∀g,W.heap.size<=g->¬No g)->Calls Tryz.prog kf (#[.int .i64 (k:Int)]++cf) W fun e W'=>e=.returned (.tuple #[])/\J No (is++ [It.far k]) W'/\Below B W W'/\Kp No W W'
 rest:∀ {No:Nat->Prop} {is R:List It} {n s:Nat} {W:World},is++It.rest n s::R=all->J No is W->(∀g,W.heap.size<=g->¬No g)->Calls Tryz.prog kr (br++ #[.int .i64 (n:Int),.int .i64 (s:Int)]) W fun e W'=>e=.returned (.tuple #[])/\J No (is++ [It.rest n s]) W'/\Below B W W'/\Kp No W W'
theorem Kp.cell {No:Nat->Prop}{w w':World}{E j:Nat}{v:Value}(I:Kp No w w')(H:E<w.heap.size)(F:No E)(G:w.cell? ⟨E,j,none⟩=some v):w'.cell? ⟨E,j,none⟩=some v:=by
 rw[World.cell?_of_block (w:=w) (a:=⟨E,j,none⟩) (I E H F)];exact G
theorem Z3d {w w':World}{a:Option Addr}{l:List Tk}{k:Nat}(U:TokIn w a l)(O:∀b o,a=some ⟨b,o,none⟩->b<w.heap.size->w'.heap[b]? =w.heap[b]?)(I:k<l.length){G:Nat}{ts F:Int}(Y:l.getD k (0,0,0)=(G,ts,F)):
 ∃b o,a=some ⟨b,o,none⟩/\b<w.heap.size/\w'.cell? ⟨b,o+k*3,none⟩=some (.int .u8 (G:Int))/\w'.cell? ⟨b,o+k*3+1,none⟩=some (.int .i64 ts)/\w'.cell? ⟨b,o+k*3+2,none⟩=some (.int .i64 F):=by
 rcases U with rfl|⟨b,o,rfl,hb,T⟩
 . simp at I
 . obtain⟨M,H,E⟩:=T k I;rw[Y]at M H E;have e:=O b o rfl hb;exact⟨b,o,rfl,hb,(World.cell?_of_block (w:=w) (a:=⟨b,_,none⟩) e).trans M,(World.cell?_of_block (w:=w) (a:=⟨b,_,none⟩) e).trans H,(World.cell?_of_block (w:=w) (a:=⟨b,_,none⟩) e).trans E⟩
theorem OD (ts:List Tk)(k:Nat)(E:k<ts.length):Tp (ts.take (k+1))=Tp (ts.take k)++GF (ts.getD k (0,0,0)):=by
 have:ts.take (k+1)=ts.take k++ [ts.getD k (0,0,0)]:=by
  rw[XM];simp[List.getD,E]
 rw[this];simp[Tp]
theorem Y1 (ts:List Tk)(k:Nat)(G:k<ts.length):itsOf ts=Tp (ts.take k)++(GF (ts.getD k (0,0,0))++(Tp (ts.drop (k+1))++ [.sym 256])):=by
 have e:ts=ts.take k++(ts.getD k (0,0,0)::ts.drop (k+1)):=by rw[<-Z58 G,YW]
 have F:Tp ts=Tp (ts.take k)++(GF (ts.getD k (0,0,0))++Tp (ts.drop (k+1))):=by
  have E:=congrArg Tp e;rw[E];simp[Tp]
 unfold itsOf;rw[F];simp
theorem BU (J:(Nat->Prop)->List It->World->Prop)(No:Nat->Prop)(B ks Z T:Nat)(ak ab U:Array Value)(a:Option Addr)(ah cu:Nat)(ts:List Tk)(w:World)(hK:Snk J B ks Z T ak ab U (itsOf ts))(bq:ts.length=ah)(d1:ah<=3000)(bz:∀t∈ts,VT t)(bi:TokIn w a ts)(ct:∀b o,a=some ⟨b,o,none⟩->ts≠ []->No b)(dm:B<=w.heap.size)(bg:J No [] w)(b4:∀g,w.heap.size<=g->¬No g):
 Calls Tryz.prog 181 #[.slice a ah cu,.agg #[.func (.func ks) #[] ak,.func (.func Z) #[] ab,.func (.func T) U #[]]] w fun e w'=>e=.returned (.tuple #[])/\J No (itsOf ts) w'/\Below B w w'/\Kp No w w':=by
 have es:=hK.es;have ef:=hK.ef;have er:=hK.er;have db:=Ab bg;have da:=Ab bi;have df:=Ab ct;have H:=Ab hK;have cp:=Ab bq;have cy:=Ab b4;have cz:=Ab bz;clear bg bi hK ct bq b4 bz;obtain⟨E,b7⟩:∃E:Nat->Prop,E=fun g=>No g\/g=w.heap.size:=⟨_,rfl⟩
 have ao:=Ab b7;clear b7;go_enter Tryz.func181,Tryz.ntmps181
 go_wp2;go_loopw [11] (fun i wr=>∃k:Nat,k<=ah/\i=.int .i64 k/\Hid (J E (Tp (ts.take k)) wr/\Below B w wr/\Kp E (w.alloc (.cells #[.func (.func ks) #[] ak,.func (.func Z) #[] ab,.func (.func T) U #[]] 253)) wr/\w.heap.size<wr.heap.size)) (fun i _=>ah-(intOf i).toNat)
 case atStart=>
  refine⟨0,VH _,rfl,Ab ⟨?_,(Below.refl B w).alloc dm _,Kp.refl _ _,by simp⟩⟩
  have:=(Aa H).grow (No':=E) (Aa db) ((Below.refl w.heap.size w).alloc (VB _) (.cells #[.func (.func ks) #[] ak,.func (.func Z) #[] ab,.func (.func T) U #[]] 253)) (fun g e=>by
   rw[Aa ao]at e
   rcases e with e|e
   . exact .inl e
   . exact .inr (by omega))
  simpa[Tp]using this
 case round=>
  obtain⟨k,d5,rfl,a7⟩:=hrel;obtain⟨aq,au,ae,c5⟩:=Aa a7
  have ay:∀g,wr.heap.size<=g->¬E g:=by
   intro g Y e;rw[Aa ao]at e
   rcases e with e|e
   . exact Aa cy g (by omega) e
   . omega
  have ag:E w.heap.size:=by rw[Aa ao];exact .inr rfl
  have be:wr.cell? ⟨w.heap.size,0,none⟩=some (.func (.func ks) #[] ak):=ae.cell (by simp) ag (by simp);have x1:wr.cell? ⟨w.heap.size,1,none⟩=some (.func (.func Z) #[] ab):=ae.cell (by simp) ag (by simp);have x2:wr.cell? ⟨w.heap.size,2,none⟩=some (.func (.func T) U #[]):=ae.cell (by simp) ag (by simp);have dy:=Ab ag
  by_cases c8:k<ah
  . obtain⟨ap,am,an,ax⟩:∃ap am an,ts.getD k (0,0,0)=(ap,am,an):=⟨_,_,_,rfl⟩
    have af:k<ts.length:=by rw[Aa cp];exact c8
    obtain⟨b,o,ea,de,c1,c2,dn⟩:=Z3d (w':=wr) (Aa da) (fun b o e hb=>by
     have cv:=ae b (by simp;omega) (by rw[Aa ao];exact .inl (Aa df b o e (fun h=>by rw[h]at af;simp at af)));rw[cv];exact Below.heap_alloc w _ b hb) af ax
    have b0:=Aa cz (ts.getD k (0,0,0)) (by
     have:ts.getD k (0,0,0)=ts[k]:=by simp[List.getD,af]
     rw[this];exact WK af)
    rw[ax]at b0;have aw:=Y1 ts k af;have a0:=OD ts k af;rw[ax]at aw a0;obtain⟨R,cd⟩:=exq (Tp (ts.drop (k+1))++ [It.sym 256]);rw[cd]at aw;obtain⟨al,b8⟩:=exq (Tp (ts.take k));rw[b8]at aw a0 aq;obtain⟨G,aj⟩:∃G:Nat->Prop,G=fun g=>E g\/g=wr.heap.size:=⟨_,rfl⟩
    have ch:∀X:Obj,J G al (wr.alloc X):=fun X=>(Aa H).grow aq ((Below.refl wr.heap.size wr).alloc (VB _) X) (fun g e=>by
     rw[aj]at e
     rcases e with e|e
     . exact .inl e
     . exact .inr (by omega))
    have bt:∀W:World,wr.heap.size<W.heap.size->∀g,W.heap.size<=g->¬G g:=by
     intro W bu g Y e;rw[aj]at e
     rcases e with e|e
     . exact ay g (by omega) e
     . omega
    have cl:∀(is:List It) (W:World),J G is W->J E is W:=fun _ _ bu=>(Aa H).grow bu (Below.refl _ _) (fun g e=>.inl (by rw[aj];exact .inl e))
    have bh:∀(X:Obj) (W:World),Below B (wr.alloc X) W->Kp G (wr.alloc X) W->Below B w W/\Kp E (w.alloc (.cells #[.func (.func ks) #[] ak,.func (.func Z) #[] ab,.func (.func T) U #[]] 253)) W/\w.heap.size<W.heap.size:=by
     intro X W bn dj;have dx:=bn.size;simp only[World.size_alloc]at dx;refine⟨(au.alloc (by have:=au.size;omega) X).trans bn, ?_,by omega⟩;refine(Kp.trans ae ?_ (by simp;omega));intro g Y hn;rw[dj g (by simp;omega) (by rw[aj];exact .inl hn)];exact Below.heap_alloc wr X g Y
    have cn:G wr.heap.size:=by rw[aj];exact .inr rfl
    have cm:G w.heap.size:=by rw[aj];exact .inl ag
    have ai:=Ab aw;have az:=Ab a0;have bo:=Ab ch;have as:=Ab bt;have bd:=Ab cl;have ci:=Ab bh;have b3:=Ab cn;have ar:=Ab cm;subst ea;have d7:b<wr.heap.size:=by omega
    clear a7 aq au ae ay ag ax aw a0 cd b8 aj ch bt cl bh cn cm af de;obtain⟨c3,cq⟩:=b0;simp only at c3 cq
    by_cases a1:am=0
    . subst a1;have hit:GF (ap,0,an)= [.sym ap]:=by unfold GF;rw[if_pos rfl]
      rw[hit]at ai az;have d3:= @World.size_alloc;go_wp2_with fail
      refine((Aa H).sym (No:=G) (is:=al) (R:=R) (k:=ap) (Aa ai).symm (Aa bo _) (Aa as _ (by simp))).mono ?_;rintro e O ⟨rfl,ac,aa,I⟩;have bb:=Ab (Aa bd _ _ ac);have dc:=Ab (Aa ci _ _ aa I);clear ac aa I;go_wp2;go_roundw
      case rel=>exact⟨k+1,by omega,by go_num,Ab ⟨by rw[Aa az];exact Aa bb,Aa dc⟩⟩
      case measure=>simp[intOf];omega
    . have d6:3<=am/\am<=258/\1<=an/\an<=3000:=by rcases cq with h|h;exact absurd h a1;exact h
      obtain⟨n,rfl⟩:=WF (show 0<=am by omega);obtain⟨d,rfl⟩:=WF (show 0<=an by omega);have d4:((n:Int)==0)=false:=by rw[beq_eq_false_iff_ne];omega
      have hit:GF (ap,(n:Int),(d:Int))= [.sym (De n).1,.rest (De n).2.1 (De n).2.2,.far (Mn d).1,.rest (Mn d).2.1 (Mn d).2.2]:=by unfold GF;rw[if_neg a1];rfl
      rw[hit]at ai az;have c4:=Ab (fun W=>Y8 n W (by omega) (by omega));have c6:=Ab (fun W=>GN d W (by omega) (by omega));generalize (De n).1=M at*;generalize (De n).2.1=a3 at*;generalize (De n).2.2=a8 at*;generalize (Mn d).1=F at*;generalize (Mn d).2.1=a9 at*;generalize (Mn d).2.2=a5 at*;go_wp2_with fail
      refine(Aa c4 _).mono ?_;rintro e O ⟨rfl,q,rfl⟩;go_wp2_with fail
      refine((Aa H).sym (No:=G) (is:=al) (k:=M) (R:=_) (by rw[Aa ai];rfl) ((Aa H).grow (Aa bo _) (Ae (Below.refl _ _) q) (fun g e=>.inl e)) (Aa as _ (by simp))).mono ?_;rintro e O ⟨rfl,ac,aa,I⟩;have c9:wr.heap.size<O.heap.size:=by have:=aa.size;simp at this;omega
      have ce:O.cell? ⟨w.heap.size,1,none⟩=some (.func (.func Z) #[] ab):=I.cell (by simp;omega) (Aa ar) (by simpa using by go_simp);have y1:O.cell? ⟨w.heap.size,2,none⟩=some (.func (.func T) U #[]):=I.cell (by simp;omega) (Aa ar) (by simpa using by go_simp);have y2:O.cell? ⟨wr.heap.size,2,none⟩=some (.int .i64 (d:Int)):=I.cell (by simp) (Aa b3) (by simp);have bm:=Ab aa;have c7:=Ab I;have bb:=Ab ac;clear aa I ac be x1 x2 c1 c2 dn;go_wp2_with fail
      refine((Aa H).rest (No:=G) (is:=al++ [.sym M]) (n:=a3) (s:=a8) (R:=.far F::.rest a9 a5::R) (by rw[Aa ai];simp) (Aa bb) (Aa as _ c9)).mono ?_;rintro e w3 ⟨rfl,co,a2,av⟩;have ba:wr.heap.size<w3.heap.size:=by have:=a2.size;omega
      have dt:w3.cell? ⟨w.heap.size,1,none⟩=some (.func (.func Z) #[] ab):=av.cell (by omega) (Aa ar) ce;have bk:w3.cell? ⟨w.heap.size,2,none⟩=some (.func (.func T) U #[]):=av.cell (by omega) (Aa ar) y1;have du:w3.cell? ⟨wr.heap.size,2,none⟩=some (.int .i64 (d:Int)):=av.cell (by omega) (Aa b3) y2;have cj:=Ab a2;have dw:=Ab av;have dg:=Ab co;clear a2 av co ce y1 y2;go_wp2_with fail
      refine(Aa c6 _).mono ?_;rintro e dz ⟨rfl,bv,rfl⟩;go_wp2_with fail
      refine((Aa H).far (No:=G) (is:=al++ [.sym M]++ [.rest a3 a8]) (k:=F) (R:=.rest a9 a5::R) (by rw[Aa ai];simp) ((Aa H).grow (Aa dg) (Ae (Below.refl _ _) bv) (fun g e=>.inl e)) (Aa as _ ba)).mono ?_;rintro e a6 ⟨rfl,cg,a4,bc⟩;have dr:wr.heap.size<a6.heap.size:=by have:=a4.size;exact VG ba this
      have dv:a6.cell? ⟨w.heap.size,2,none⟩=some (.func (.func T) U #[]):=bc.cell (Nat.lt_trans c5 ba) (Aa ar) bk;have bw:=Ab a4;have dq:=Ab bc;have di:=Ab cg;clear a4 bc cg dt bk du;go_wp2_with fail
      refine((Aa H).rest (No:=G) (is:=al++ [.sym M]++ [.rest a3 a8]++ [.far F]) (n:=a9) (s:=a5) (R:=R) (by rw[Aa ai];simp) (Aa di) (Aa as _ dr)).mono ?_;rintro e w6 ⟨rfl,b5,b9,ck⟩;have dl:=Ab (Aa bd _ _ b5);have cw:=Ab (Aa ci _ _ ((Ae (Below.refl B _) q).trans ((Aa bm).trans ((Aa cj).trans ((Ae (Below.refl B _) bv).trans ((Aa bw).trans b9))))) (Kp.trans (b:=O) (fun g Y hn=>Aa c7 g Y hn) (Kp.trans (b:=w3) (Aa dw) (Kp.trans (b:=a6) (fun g Y hn=>Aa dq g Y hn) ck (Aa bw).size) (Aa cj).size) (by have:=(Aa bm).size;exact this)));clear b5 b9 ck dv;go_wp2;go_roundw
      case rel=>exact⟨k+1,by omega,by go_num,Ab ⟨by rw[Aa az];simpa using Aa dl,Aa cw⟩⟩
      case measure=>simp[intOf];omega
  . obtain rfl:k=ah:=by omega
    have bj:=Ab (show J E (Tp ts) wr/\Below B w wr/\Kp E (w.alloc (.cells #[.func (.func ks) #[] ak,.func (.func Z) #[] ab,.func (.func T) U #[]] 253)) wr from ⟨by rw[VV (by rw[Aa cp];exact VB _)]at aq;exact aq,au,ae⟩);have dp:=Ab ay;clear a7 aq au ae ay ag;go_wp2_with fail
    refine((Aa H).sym (No:=E) (is:=Tp ts) (k:=256) (R:= []) rfl (Aa bj).1 (Aa dp)).mono ?_;rintro e O ⟨rfl,ac,aa,I⟩
    have dh:Hid (J No (itsOf ts) O/\Below B w O/\Kp No w O):=by
     obtain⟨d2,ds,dd⟩:=Aa bj;refine⟨(Aa H).grow ac (Below.refl _ _) (fun g e=>.inl (by rw[Aa ao];exact .inl e)),ds.trans aa, ?_⟩;intro g Y hn;have bf:E g:=by rw[Aa ao];exact .inl hn
     exact(I g (by omega) bf).trans ((dd g (by simp;omega) bf).trans (Below.heap_alloc w _ g Y))
    clear ac aa I be x1 x2;go_wp2;go_end0
    exact⟨rfl,Aa dh⟩
end Go.Proofs.YtleocpdblhbimaaGreatDoor
namespace Go.Proofs.YtleocpdblhbimaaGreatDoor
open Go.RowKit
set_option linter.unusedVariables false
def B6 (s:Int):Bool:=decide (0<=s/\s<=16)
def GW (n s:Int):Bool:=decide (0<=s/\s<=16/\0<=n/\n<2^s.toNat)
theorem FC {s:Int}(E:B6 s=true):0<=s/\s<=16:=of_decide_eq_true E
theorem S6 {s:Int}(E:B6 s=false):¬(0<=s/\s<=16):=of_decide_eq_false E
theorem Nl (s:Int)(w:World):
 Calls Tryz.prog 274 #[.int .i64 s] w fun e w'=>e=.returned (.bool (B6 s))/\w'=w:=by
 by_cases G:0<=s
 . by_cases F:s<=16
   . have E:B6 s=true:=decide_eq_true ⟨G,F⟩;rw[E];clear E;go_enter Tryz.func274,Tryz.ntmps274
     go_wp2;go_ret;exact⟨by simp,rfl⟩
   . have E:B6 s=false:=decide_eq_false (by omega);rw[E];clear E;go_enter Tryz.func274,Tryz.ntmps274
     go_wp2;go_ret;exact⟨by simp,rfl⟩
 . have E:B6 s=false:=decide_eq_false (by omega);rw[E];clear E;go_enter Tryz.func274,Tryz.ntmps274
   go_wp2;go_ret;exact⟨rfl,rfl⟩
theorem SP {s:Int}(H:s<=16):wrap64 (2^s.toNat)=2^s.toNat:=by
 have E:s.toNat<=16:=by omega
 have G:(2:Int)^s.toNat<=2^16:=by
  have:=VO (n:=2) (by decide) E
  exact_mod_cast this
 have F:(0:Int)<=2^s.toNat:=by
  have:=VH (2^s.toNat)
  exact_mod_cast this
 unfold wrap64;omega
theorem Z1l (n s:Int)(w:World):
 Calls Tryz.prog 256 #[.int .i64 n,.int .i64 s] w fun e w'=>e=.returned (.bool (GW n s))/\w'=w:=by
 by_cases F:B6 s=true
 . obtain⟨I,G⟩:=FC F
   by_cases H:0<=n
   . go_enter Tryz.func256,Tryz.ntmps256
     go_wp2_with (go_at_call 274;refine(Nl _ _).mono ?_;rintro e w' ⟨rfl,rfl⟩)
     go_ret;refine⟨Dq ?_,rfl⟩;rw[SP G];simp[GW,I,G,H]
   . have E:GW n s=false:=decide_eq_false (by omega);rw[E];clear E;go_enter Tryz.func256,Tryz.ntmps256
     go_wp2_with (go_at_call 274;refine(Nl _ _).mono ?_;rintro e w' ⟨rfl,rfl⟩)
     go_ret;exact⟨rfl,rfl⟩
 . have M:B6 s=false:=by simpa using F
   have E:GW n s=false:=decide_eq_false (by have:=S6 M;omega);rw[E];clear E F;go_enter Tryz.func256,Tryz.ntmps256
   go_wp2_with (go_at_call 274;refine(Nl _ _).mono ?_;rintro e w' ⟨rfl,rfl⟩)
   go_ret;exact⟨rfl,rfl⟩
end Go.Proofs.YtleocpdblhbimaaGreatDoor
