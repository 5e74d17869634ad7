import Derived.Test.YtleocpdblhbimaaGreatDoorQ31
import Derived.Laws.Cover3
import Derived.Laws.ResultCell
import Derived.Shelf.Abstract
import Derived.Test.YtleocpdblhbimaaGreatDoorQ18
set_option linter.unusedSimpArgs false
set_option maxHeartbeats 8000000
namespace Go.Proofs.YtleocpdblhbimaaGreatDoor
open Go.RowKit
set_option linter.unusedVariables false
set_option maxRecDepth 100000
theorem AP (w:World):(zeroValue 76).run Tryz.prog w=.ok (.slice none 0 0) w:=by kernel_rfl
structure Mid (No:Nat->Prop)(B:Nat)(R w3:World)(p mb base b o n cap:Nat)(bs:List Nat)(j:Nat):Prop where
 pst:Pst w3 p (.slice (some ⟨b,o,none⟩) n cap) mb j
 grp:Grp w3 base mb bs (j+1)
 shun:w3.Shuns mb No
 row:Bytes w3 b o bs
 size:R.heap.size<=w3.heap.size
 room:base<=R.heap.size
 below:Below B R w3
 kp:Kp No R w3
theorem Mid.next {No:Nat->Prop}{B:Nat}{w R G:World}{p I H b o n T j:Nat}{bs:List Nat}(M:Mid No B R G p I H b o n T bs j)(E:Geo No B p I H b bs)(Y:Below B w R)(hK:Kp No w R)(O:w.heap.size<=R.heap.size):
 Pas No (G.setCell ⟨p,2,none⟩ (.int .i64 ((j:Int)+1))) p I H b o n T bs (j+1)/\Below B w (G.setCell ⟨p,2,none⟩ (.int .i64 ((j:Int)+1)))/\Kp No w (G.setCell ⟨p,2,none⟩ (.int .i64 ((j:Int)+1))):=by
 have F:=Ad G p 2 (.int .i64 ((j:Int)+1));have hm:=M.grp.lt;have U:Below B w G:=Y.trans (M.below);refine⟨⟨M.pst.set (j+1),M.grp.kept F (fun i e=>by cases e;exact⟨E.pb,E.pm⟩),M.shun.kept F hm.2 (fun e=>E.pm (by simpa using e.symm)),M.row.grown F (fun e=>by have:=E.bB;have:=E.pB;simp at e;omega), ?_⟩, ?_, ?_⟩
 . exact VU M.room (VU M.size F.size)
 . exact U.grown F (by have:=O;have:=M.size;have:=M.pst.lt;have:=E.pB;omega) (fun i e=>by cases e;exact E.pB)
 . exact(hK.trans M.kp O).grown F (VU O M.size) (fun i e=>by cases e;exact E.nop)
theorem Vw (No:Nat->Prop)(B p M I b o n a4 j:Nat)(bs:List Nat)(R:World)(E:Geo No B p M I b bs)(b5:bs.length=n)(G:Pas No R p M I b o n a4 bs j)(b3:j+3<=n)(bo:∀g,R.heap.size<=g->¬No g)(al ao ap:Nat)(bw:Hi bs j=(al,ao,ap)):
 ∃(v:Value) (st:Nat) (H:World),(Instr.mapEntry 290 (.map (some M)) (.agg #[.int .u8 (al:Int),.int .u8 (ao:Int),.int .u8 (ap:Int)])).run Tryz.prog R=.ok (.tuple #[v,.int .i64 (st:Int)]) H/\R.grownBy H (some M)/\H.heap.size=R.heap.size/\
  ∀(W:World) (X:Nat),H.grownBy W none->W.cell? ⟨X,0,none⟩=some (.int .i64 (j:Int))->∃(v':Value) (O T:World),(∀a2,(Builtin.append_ #[76,76] a2 #[v,.slice (some ⟨X,0,none⟩) 1 1]).run Tryz.prog W=.ok v' O)/\
   (Instr.entryStore 290 (.map (some M)) (.int .i64 (st:Int)) v').run Tryz.prog O=.ok () T/\Mid No B R T p M I b o n a4 bs j:=by
 obtain⟨bf,hi,bd,bm,bc⟩:=info_parts Bv;have hn:=E.len;have ok:=X4 E.byte j;obtain⟨D,a3,ay⟩:=G.grp;obtain⟨v,af,st,H,bq,ac,aj,bi,ai,b4,aw,a9⟩:=N5 a3 Z81 Tryz.underlying290 AP (by unfold maxLen;omega) (Pg ok);have a7:af=(plc bs j (Hi bs j)).map fun x:Nat=>(x:Int):=Uv ai (by rw[<-bi];exact(ay _ ok).symm)
 refine⟨v,st,H, ?_,ac,aj, ?_⟩
 . rw[show (Value.agg #[.int .u8 (al:Int),.int .u8 (ao:Int),.int .u8 (ap:Int)])=kv (Hi bs j) by rw[bw];rfl];exact bq
 intro W X F b0;have bg:I<=H.heap.size:=by rw[aj];exact G.size
 have a1:W.ownsInts I 3 .i64 v af:=ai.kept F (by cases az:v.ownBlock with
  |none=>exact .inl rfl
  |some g=>exact .inr (by simp))
 obtain⟨v',O,ba,bn,ae,_,av⟩:=run_append_own_at W I 76 76 3 bf (.int .i64 0) 1 8 Tryz.underlying76 hi bd bm bc rfl (by decide) v af.length _ a1.1 ⟨X,0,none⟩ 1 1 [.int .i64 (j:Int)] rfl (fun i u hi=>Lu b0 hi) (Bc rfl) (by unfold maxLen;omega) (by omega) (VU bg F.size);have ar:O.ownsInts I 3 .i64 v' (af++ [(j:Int)]):=a1.appended bn (WalkArith.wf_i64 (by omega));have U:H.grownBy O v.ownBlock:=⟨ae.os.trans F.os,ae.tape.trans F.tape,ae.output.trans F.output,VU F.size ae.size,fun i aa ah=>(ae.block i (VG aa F.size) ah).trans (F.block i aa (by simp))⟩
 obtain⟨T,bu,a8,Y,bk⟩:=a9 O v' _ U ar (by simp;omega) (by
  rcases av with h|h
  . exact .inl h
  . exact .inr ⟨_,h,F.size⟩)
 have a6:T.ownsInts I 3 .i64 v' (af++ [(j:Int)]):=ar.kept Y (by
  cases az:v'.ownBlock with
  |none=>exact .inl rfl
  |some g=>
   refine .inr (fun e=> ?_);have:=(ar.1.lt g az).1
   have:=G.grp.lt.1
   cases e
   omega)
 have ak:∀g,v.ownBlock=some g->I<=g:=fun g e=>(ai.1.lt g e).1
 have ag:∀g,g<R.heap.size->g≠M->v.ownBlock≠some g->T.heap[g]? =R.heap[g]? :=by
  intro g aa ah bh;have a5:g<H.heap.size:=by rw[aj];exact aa
  rw[Y.block g (VG a5 U.size) (fun e=>ah (by simpa using e)),U.block g a5 (fun e=>bh e.symm),ac.block g aa (fun e=>ah (by simpa using e))]
 have au:R.heap.size<=T.heap.size:=by
  have:=U.size
  have:=Y.size
  omega
 have bv:=G.pst.lt;have bz:v.ownBlock≠some p:=fun e=>by have:=ak p e;have:=E.pb;omega
 have bj:v.ownBlock≠some b:=fun e=>by have:=ak b e;have:=E.pb;have:=E.bB;have:=E.pB;omega
 refine⟨v',O,T,fun a2=>ba,bu, ?_, ?_, ?_, ?_,au,G.size, ?_, ?_⟩
 . exact(ag p bv E.pm bz).trans G.pst
 . exact Grp.step E.byte ay (J5 a3) a8 a6 (by rw[a7])
 . refine bk No G.shun ?_;intro g Z
   rcases av with h|h
   . exact aw No G.shun g (by rw[<-h];exact Z)
   . rw[h]at Z
     cases Z
     have:=F.size
     exact bo _ (by omega)
 . intro i hi;have bb:b<R.heap.size:=by have:=E.bB;have:=E.pB;omega
   have e:=ag b bb (by have:=E.bB;have:=E.mB;omega) bj;have:=G.row i hi
   unfold World.cell? at this ⊢;rw[e];exact this
 . refine⟨Y.os.trans (U.os.trans ac.os),Y.tape.trans (U.tape.trans ac.tape),Y.output.trans (U.output.trans ac.output),au, ?_⟩;intro g Z;have:=E.pB
   have:=E.mB
   exact ag g (by omega) (by omega) (fun e=>by have:=ak g e;have:=E.pb;omega)
 . intro g Z ax;exact ag g Z (fun e=>E.nom (by rw[<-e];exact ax)) (fun e=>aw No G.shun g e ax)
theorem PW (No:Nat->Prop)(B p M I b o n F ac k:Nat)(bs:List Nat)(w:World)(U:Geo No B p M I b bs)(a5:bs.length=n)(ck:n<=F)(a2:Pas No w p M I b o n F bs ac)(bi:ac<=k)(cu:k+3<=n)(bb:∀g,w.heap.size<=g->¬No g):
 Calls Tryz.prog 232 #[.pointer (some ⟨p,0,none⟩),.int .i64 (k:Int)] w fun e w'=>e=.returned (.tuple #[])/\Pas No w' p M I b o n F bs k/\Below B w w'/\Kp No w w':=by
 have H:=Ab U;have a9:=Ab a2;have a8:=Ab bb;have hn:=U.len;have bh:=U.pm;clear U a2 bb;go_enter Tryz.func232,Tryz.ntmps232
 go_wp2;go_loopw [4] (fun _ wr=>∃j:Nat,ac<=j/\j<=k/\Pas No wr p M I b o n F bs j/\Below B w wr/\Kp No w wr) (fun _ wr=>k-((wr.cell? ⟨p,2,none⟩).map (fun v=>(intOf v).toNat)).getD 0)
 case atStart=>exact⟨ac,VB _,bi,Aa a9,Below.refl _ _,Kp.refl _ _⟩
 case round=>
  obtain⟨j,cq,b3,G,Y,ag⟩:=hrel;have aj:=Ab G;have ai:=Ab Y;have ah:=Ab ag;have c2:=G.pst.cell2
  by_cases b8:j<k
  . have c0:=G.pst.cell0;have c1:=G.pst.cell1;have ay:=G.row j (by omega);have b1:=G.row (j+1) (by omega);have b2:=G.row (j+2) (by omega);rw[<-WT]at b1 b2;have ax:=Y.size;have bq:=G.pst.lt;have ci:b<wr.heap.size:=Nat.lt_trans (VG (Aa H).bB (Aa H).pB) bq;clear G Y ag;generalize ba:bs.getD j 0=E at ay;generalize az:bs.getD (j+1) 0=x1 at b1;generalize a1:bs.getD (j+2) 0=x2 at b2;have ar:Hid (Hi bs j=(E,x1,x2)):=by rw[<-ba,<-az,<-a1];rfl
    clear ba az a1;have cj:¬F=j:=by omega
    have bu:∀(a:Option Addr) (c:Nat) (W:World),(Instr.arrayAt 313 (.slice a (n-j) c)).run Tryz.prog W=.ok (.pointer a) W:=fun a c W=>run_arrayAt _ _ _ _ _ _ _ Tryz.underlying313 (by omega)
    go_wp2;go_big_region
    clear ay b1 b2 bu;have O:Hid (Pas No (wr.alloc (.cells #[.int .u8 (E:Int),.int .u8 (x1:Int),.int .u8 (x2:Int)] 313)).drew p M I b o n F bs j):=((Aa aj).grown (Aa H) (World.grownBy_alloc wr _ none) (fun j e=>by cases e)).drewN 1;have ao:Hid (Below B w (wr.alloc (.cells #[.int .u8 (E:Int),.int .u8 (x1:Int),.int .u8 (x2:Int)] 313)).drew):=(Ae ((Aa ai).alloc (VU (VU (Aa H).pB (YX (Aa a9).pst.lt)) ax) (.cells #[.int .u8 (E:Int),.int .u8 (x1:Int),.int .u8 (x2:Int)] 313)) 1)
    have a7:Hid (Kp No w (wr.alloc (.cells #[.int .u8 (E:Int),.int .u8 (x1:Int),.int .u8 (x2:Int)] 313)).drew):=((Aa ah).grown (Cb (World.grownBy_alloc wr (.cells #[.int .u8 (E:Int),.int .u8 (x1:Int),.int .u8 (x2:Int)] 313) none)) ax (fun j e=>by cases e))
    have b0:(wr.alloc (.cells #[.int .u8 (E:Int),.int .u8 (x1:Int),.int .u8 (x2:Int)] 313)).drew.cell? ⟨wr.heap.size,0,none⟩=some (.int .u8 (E:Int)):=by simp
    have bc:(wr.alloc (.cells #[.int .u8 (E:Int),.int .u8 (x1:Int),.int .u8 (x2:Int)] 313)).drew.cell? ⟨wr.heap.size,1,none⟩=some (.int .u8 (x1:Int)):=by simp
    have bw:(wr.alloc (.cells #[.int .u8 (E:Int),.int .u8 (x1:Int),.int .u8 (x2:Int)] 313)).drew.cell? ⟨wr.heap.size,2,none⟩=some (.int .u8 (x2:Int)):=by simp
    have cm:wr.heap.size<(wr.alloc (.cells #[.int .u8 (E:Int),.int .u8 (x1:Int),.int .u8 (x2:Int)] 313)).drew.heap.size:=by simp
    have T:w.heap.size<=(wr.alloc (.cells #[.int .u8 (E:Int),.int .u8 (x1:Int),.int .u8 (x2:Int)] 313)).drew.heap.size:=by simp;omega
    clear c0 c1 ai ah;generalize (wr.alloc (.cells #[.int .u8 (E:Int),.int .u8 (x1:Int),.int .u8 (x2:Int)] 313)).drew=r at*;generalize wr.heap.size=cp at*;have bn:=(Aa O).pst.cell1;have al:=(Aa O).pst.cell2;have bo:=(Aa O).pst.lt;have bk:Hid (Pas No r.drew p M I b o n F bs j):=(Aa O).drewN 1;have bv:Hid (Pas No (r.alloc (.cells #[.int .i64 (j:Int)] 3)).drew p M I b o n F bs j):=((Aa O).grown (Aa H) (World.grownBy_alloc r _ none) (fun j e=>by cases e)).drewN 1;obtain⟨co,stA,a4,bj,a6,cw,aw⟩:=Vw No B p M I b o n F j bs r.drew (Aa H) a5 (Aa bk) (by omega) (fun g h=>Aa a8 g (VU T h)) E x1 x2 (Aa ar);obtain⟨b9,cy,cd,Z,bf,ak⟩:=aw (a4.alloc (.cells #[.int .i64 (j:Int)] 3)) a4.heap.size (World.grownBy_alloc _ _ _) (by simp);obtain⟨ct,cv,bg,bz,au,c5,ap⟩:=Vw No B p M I b o n F j bs (r.alloc (.cells #[.int .i64 (j:Int)] 3)).drew (Aa H) a5 (Aa bv) (by omega) (fun g h=>Aa a8 g (VU (VU T (by simp)) h)) E x1 x2 (Aa ar)
    obtain⟨cg,cn,b7,aa,bd,mB⟩:=ap bg r.heap.size (Aw _ _) (au.cell (by simp) (by
     have:=(Aa O).grp.lt.2
     simp;omega))
    have bm:=a6.cell (a:=⟨p,2,none⟩) al (by simpa using bh);replace Z:=Z 76;replace aa:=aa 76;simp[go_sem]at Z aa
    have af:=Ab ak;have ae:=Ab mB;clear aw ap ak mB a6 au;have cz:=(Aa af).pst.cell2;have b5:=(Aa af).pst.frozen 2;have b4:=(Aa ae).pst.cell2;have ce:=(Aa ae).pst.frozen 2;have a3:=Ab ((Aa af).next (Aa H) (Ae (Aa ao) 1) (Aa a7) T);have av:=Ab ((Aa ae).next (Aa H) (Ae ((Aa ao).alloc (VU (Aa H).pB (YX bo)) (.cells #[.int .i64 (j:Int)] 3)) 1) ((Aa a7).grown (Cb (World.grownBy_alloc r (.cells #[.int .i64 (j:Int)] 3) none)) T (fun j e=>by cases e)) (VU T (by simp)));go_wp2;go_big_region
    all_goals clear Z aa bj bz bf bd b0 bc bw bn al bm
    all_goals
     go_wp2;go_roundw
     case rel=>first|exact⟨j+1,by omega,by omega,Aa a3⟩|exact⟨j+1,by omega,by omega,Aa av⟩
     case measure=>
      rw[c2]
      first|rw[(Aa a3).1.pst.cell2]|rw[(Aa av).1.pst.cell2]
      simp[intOf];omega
  . obtain rfl:k=j:=by omega
    clear G Y ag;go_wp2;go_end0
    exact⟨rfl,Aa aj,Aa ai,Aa ah⟩
theorem Pas.row3 {No:Nat->Prop}{w:World}{p T ai b o n af k:Nat}{bs:List Nat}(h:Pas No w p T ai b o n af bs k)(ag:∀j,bs.getD j 0<256)(ar:k<=3000)(I F H:Nat)(ap:Hi bs k=(I,F,H)):
 ∃(a:Option Addr) (c G:Nat),(plc bs k (Hi bs k)).length=G/\(Instr.lookup 290 (.map (some T)) (.agg #[.int .u8 (I:Int),.int .u8 (F:Int),.int .u8 (H:Int)]) false).run Tryz.prog w=.ok (.slice a G c) w/\G<=k/\
  ∀j,j<G->∃g,a=some ⟨g,0,none⟩/\w.cell? ⟨g,j,none⟩=some (.int .i64 (((plc bs k (Hi bs k)).getD j 0:Nat):Int)):=by
 have ok:=X4 ag k;obtain⟨D,ae,aa⟩:=h.grp;obtain⟨v,M,ah,ac,O,aj,_⟩:=ae.at Z81 Tryz.underlying290 (AP w) (by unfold maxLen;omega) (Pg ok);have Y:M=(plc bs k (Hi bs k)).map fun x:Nat=>(x:Int):=Uv O (by rw[<-ac];exact(aa _ ok).symm)
 have al:M.length=(plc bs k (Hi bs k)).length:=by rw[Y];simp
 have U:(Instr.lookup 290 (.map (some T)) (.agg #[.int .u8 (I:Int),.int .u8 (F:Int),.int .u8 (H:Int)]) false).run Tryz.prog w=.ok v w:=by
  rw[show (Value.agg #[.int .u8 (I:Int),.int .u8 (F:Int),.int .u8 (H:Int)])=kv (Hi bs k) by rw[ap];rfl];exact ah
 rcases O.1.2 with ⟨E,ao⟩|⟨g,c,cur,E,ao⟩
 . refine⟨none,0,0,by omega,by rw[U,E],VH _,fun j ak=>by omega⟩
 . refine⟨some ⟨g,0,none⟩,c,M.length,al.symm,by rw[U,E],aj,fun j ak=>⟨g,rfl, ?_⟩⟩;have Z:=O.1;rw[E]at Z;rw[Z.cellAt j (by omega)];have:j<(plc bs k (Hi bs k)).length:=by omega
   simp[Y,List.getD,this]
theorem NT {bs:List Nat}{k:Nat}(E:mst bs.length k<3):lng bs k=(0,0):=
 CD (fun d G F=>XO (Rm _ _ _ _) E)
theorem Rj (No:Nat->Prop)(B p Y U b o n H ae k:Nat)(bs:List Nat)(w:World)(G:Geo No B p Y U b bs)(ak:bs.length=n)(bw:n<=H)(aj:Pas No w p Y U b o n H bs ae)(a6:ae<=k)(cw:k<=n)(bm:∀g,w.heap.size<=g->¬No g)(M aa:Nat)(bk:Hid (lng bs k=(M,aa))):
 Calls Tryz.prog 207 #[.pointer (some ⟨p,0,none⟩),.int .i64 (k:Int)] w fun e w'=>e=.returned (.tuple #[.int .i64 (M:Int),.int .i64 (aa:Int)])/\(∃bf,bf<=k/\Pas No w' p Y U b o n H bs bf)/\Below B w w'/\Kp No w w':=by
 have ag:=Ab G;have bi:=Ab aj;have ck:=Ab bm;have T:=Ab ak;have hn:=G.len;have c0:=aj.pst.cell0;clear G aj bm;go_enter Tryz.func207,Tryz.ntmps207
 by_cases a7:mst n k<3
 . obtain⟨m,hm⟩:∃m,m=mst n k:=⟨_,rfl⟩
   have av:(if (n:Int)-(k:Int)<258 then (n:Int)-(k:Int)else 258)=(m:Int):=by rw[hm];unfold mst;split<;>omega
   have ah:m<3:=by omega
   have bo:=Aa bk;rw[NT (by rw[ak];exact a7)]at bo;obtain⟨rfl,rfl⟩:0=M/\0=aa:=by simpa using bo
   go_wp2;go_ret2;exact⟨rfl,⟨ae,a6,Aa bi⟩,Below.refl _ _,Kp.refl _ _⟩
 . obtain⟨m,hm⟩:∃m,m=mst n k:=⟨_,rfl⟩
   have av:(if (n:Int)-(k:Int)<258 then (n:Int)-(k:Int)else 258)=(m:Int):=by rw[hm];unfold mst;split<;>omega
   have ah:3<=m:=by omega
   have cp:k+m<=n:=by rw[hm];unfold mst;omega
   have c7:m<=258:=by rw[hm];unfold mst;omega
   have ac:=Ab hm;clear hm a7;go_wp2_with fail
   refine(PW No B p Y U b o n H ae k bs w (Aa ag) ak bw (Aa bi) a6 (by omega) (Aa ck)).mono ?_;rintro e Z ⟨rfl,I,bc,ax⟩;have ar:=Ab I;have bd:=Ab bc;have bn:=Ab ax;have d0:=I.pst.cell0;have cn:=I.pst.cell1;have aw:=I.row k (by omega);have b1:=I.row (k+1) (by omega);have b2:=I.row (k+2) (by omega);rw[<-WT]at b1 b2;clear I bc ax c0;generalize bj:bs.getD k 0=a2 at aw;generalize ay:bs.getD (k+1) 0=x1 at b1;generalize a1:bs.getD (k+2) 0=x2 at b2;have b7:Hid (Hi bs k=(a2,x1,x2)):=by rw[<-bj,<-ay,<-a1];rfl
   clear bj ay a1;have cv:¬H=k:=by omega
   have bu:∀(a:Option Addr) (c:Nat) (W:World),(Instr.arrayAt 313 (.slice a (n-k) c)).run Tryz.prog W=.ok (.pointer a) W:=fun a c W=>run_arrayAt _ _ _ _ _ _ _ Tryz.underlying313 (by omega)
   have bh:Hid (Pas No Z.drew p Y U b o n H bs k):=(Aa ar).drewN 1;obtain⟨a,c,L,a9,b4,c6,a4⟩:=(Aa bh).row3 (Aa ag).byte (by omega) a2 x1 x2 (Aa b7);have O:=Ab a9;have bv:=Ab a4;clear a9 a4;go_wp2;go_big_region
   clear aw b1 b2 bu b4 cn av;have cq:=Ab (Aa ag).byte;have ce:Hid (Han bs k (plc bs k (Hi bs k)) (L-L) 0 0):=.inl ⟨by omega,rfl,rfl⟩
   have bb:Hid (∀j,j<(plc bs k (Hi bs k)).length->3<=lcp bs ((plc bs k (Hi bs k)).getD j 0) k (mst bs.length k)):=by
    intro j al;refine(CI ?_).1 (MK bs k (Hi bs k) al).2;rw[Aa T,<-Aa ac];exact ah
   have bq:=Ab (fun j (al:j<L)=>(MK bs k (Hi bs k) (j:=j) (by rw[Aa O];exact al)).1);have ci:Hid (∀q x y,Han bs k (plc bs k (Hi bs k)) q x y->(q=L\/x=m)->lng bs k=(x,y)):=fun q x y h cm=>h.lng (by rw[Aa T,<-Aa ac];exact ah) (by rw[Aa T,<-Aa ac,Aa O];exact cm)
   have a8:Hid (mst bs.length k=m):=by rw[Aa T];exact(Aa ac).symm
   have a3:=(Aa bh).row;have b3:=Ab a3;clear a3;generalize plc bs k (Hi bs k)=E at*;go_wp2;go_loopw [4,5,8] (fun cj cg ai wr=>∃t x y q:Nat,t<=L/\ai=.int .i64 ((t:Int)-1)/\cj=.int .i64 (x:Int)/\cg=.int .i64 (y:Int)/\Han bs k E (L-t) x y/\wr=Z.drewN q) (fun _ _ ai _=>((intOf ai)+1).toNat)
   case atStart=>exact⟨L,0,0,1,VB _,rfl,rfl,rfl,Aa ce,rfl⟩
   case round=>
    obtain⟨t,x,y,q,c8,rfl,rfl,rfl,au,rfl⟩:=hrel;have af:=Ab au;have c5:x<=m:=by have:=au.le.1;rw[Aa a8]at this;exact this
    clear au
    by_cases b5:0<t/\x<m
    . obtain⟨b9,cd⟩:=b5;obtain⟨t,rfl⟩:∃ap,t=ap+1:=⟨t-1,by omega⟩
      obtain⟨g,rfl,hc⟩:=Aa bv t (by omega);have ct:Z.cell? ⟨g,t,none⟩=some (.int .i64 ((E.getD t 0:Nat):Int)):=hc;have b0:=Aa bq t (by omega);have ez:E.length-1-(L-(t+1))=t:=by rw[Aa O];omega
      obtain⟨r,F⟩:∃r,r=if bs.getD (E.getD t 0+x) 0=bs.getD (k+x) 0 then lcp bs (E.getD t 0) k m else 0:=⟨_,rfl⟩
      have co:=Ab (NO p b o n H (E.getD t 0) k x m bs (Z.drewN q) d0 (Aa b3) (Aa T) (by omega) (Aa cq) b0 cd cp r F)
      have a5:Hid ((r<=x->Han bs k E (L-t) x y)/\(x<r->Han bs k E (L-t) r (k-E.getD t 0))):=by
       have az:=(Aa af).more (by rw[Aa O];omega) (Aa bb);have ba:=(Aa af).less (by rw[Aa O];omega) (Aa bb);rw[ez,show L-(t+1)+1=L-t by omega,Aa a8]at az ba
       constructor
       . intro h;refine ba ?_
         by_cases e:bs.getD (E.getD t 0+x) 0=bs.getD (k+x) 0
         . rw[if_pos e]at F;omega
         . exact G0 e
       . intro h
         have e:bs.getD (E.getD t 0+x) 0=bs.getD (k+x) 0:=by
          by_cases e:bs.getD (E.getD t 0+x) 0=bs.getD (k+x) 0
          . exact e
          . rw[if_neg e]at F;omega
         rw[if_pos e]at F;rw[F]at h ⊢;exact az h
      have cz:r<=m:=by
       rw[F];split
       . exact Rm _ _ _ _
       . omega
      clear F hc ez;generalize E.getD t 0=z at*;go_wp2_with fail
      refine(Aa co).mono ?_;rintro e cy ⟨rfl,cu,rfl⟩
      by_cases b8:x<r
      . have ao:=Ab ((Aa a5).2 b8);go_wp2;go_quiet (fail)
        go_wp2;go_roundw
        case rel=>exact⟨t,r,k-z,_,by omega,by go_num,rfl,by go_num,Aa ao,rfl⟩
        case measure=>(simp[intOf];try omega)
      . have ao:=Ab ((Aa a5).1 (by omega));go_wp2;go_roundw
        case rel=>exact⟨t,x,y,_,by omega,by go_num,rfl,rfl,Aa ao,rfl⟩
        case measure=>(simp[intOf];try omega)
    . have bg:lng bs k=(x,y):=Aa ci (L-t) x y (Aa af) (by omega);rw[Aa bk]at bg;obtain⟨rfl,rfl⟩:M=x/\aa=y:=by simpa using bg
      by_cases b9:0<t
      . have bz:M=m:=by omega
        obtain⟨t,rfl⟩:∃ap,t=ap+1:=⟨t-1,by omega⟩
        subst bz;go_wp2;go_ret2;exact⟨rfl,⟨k,VB _,(Aa ar).drewN q⟩,Ae (Aa bd) q,Aa bn⟩
      . obtain rfl:t=0:=by omega
        go_wp2;go_ret2;exact⟨rfl,⟨k,VB _,(Aa ar).drewN q⟩,Ae (Aa bd) q,Aa bn⟩
def tcs (t:Tk):List Value:= [.int .u8 (t.1:Int),.int .i64 t.2.1,.int .i64 t.2.2]
def tvs (l:List Tk):List Value:=l.flatMap tcs
def Toks (w:World)(b o:Nat)(l:List Tk):Prop:=∀j,j<l.length->w.cell? ⟨b,o+j*3,none⟩=some (.int .u8 ((l.getD j (0,0,0)).1:Int))/\w.cell? ⟨b,o+j*3+1,none⟩=some (.int .i64 (l.getD j (0,0,0)).2.1)/\w.cell? ⟨b,o+j*3+2,none⟩=some (.int .i64 (l.getD j (0,0,0)).2.2)
def TokIn (w:World)(a:Option Addr)(l:List Tk):Prop:=l= []\/∃b o,a=some ⟨b,o,none⟩/\b<w.heap.size/\Toks w b o l
theorem Ui (l:List Tk):(tvs l).length=l.length*3:=by
 induction l with
 |nil=>rfl
 |cons t r ih=>
  have:tvs (t::r)=tcs t++tvs r:=rfl
  rw[this,VE,ih,VJ];show 3+r.length*3=_
  omega
theorem Uj (l r:List Tk):tvs (l++r)=tvs l++tvs r:=by simp[tvs]
theorem Z64 (l:List Tk)(j:Nat)(E:j<l.length):(tvs l)[j*3]? =some (.int .u8 ((l.getD j (0,0,0)).1:Int))/\(tvs l)[j*3+1]? =some (.int .i64 (l.getD j (0,0,0)).2.1)/\(tvs l)[j*3+2]? =some (.int .i64 (l.getD j (0,0,0)).2.2):=by
 induction l generalizing j with
 |nil=>simp at E
 |cons t r ih=>
  have e:tvs (t::r)=tcs t++tvs r:=rfl
  match j with
  |0=>rw[e];exact⟨rfl,rfl,rfl⟩
  |j+1=>
   have I:j<r.length:=by simpa using E
   obtain⟨F,H,G⟩:=ih j I;have hl:(tcs t).length=3:=rfl;refine⟨?_, ?_, ?_⟩
   . rw[e,VX (by rw[hl];omega),hl,show (j+1)*3-3=j*3 by omega,F];rfl
   . rw[e,VX (by rw[hl];omega),hl,show (j+1)*3+1-3=j*3+1 by omega,H];rfl
   . rw[e,VX (by rw[hl];omega),hl,show (j+1)*3+2-3=j*3+2 by omega,G];rfl
theorem TokIn.own {w:World}{B F n O:Nat}{l:List Tk}(E:w.ownsRow B 244 3 (.slice (some ⟨F,0,none⟩) n O) n (tvs l)):TokIn w (some ⟨F,0,none⟩) l:=by
 refine .inr ⟨F,0,rfl,(E.lt F rfl).2, ?_⟩;intro j H;have hn:l.length=n:=by have:=E.1;rw[Ui]at this;omega
 obtain⟨G,M,I⟩:=Z64 l j H;refine⟨?_, ?_, ?_⟩
 . rw[WG,E.cellAt _ (by omega)];simp[List.getD,G]
 . rw[WG,E.cellAt _ (by omega)];simp[List.getD,M]
 . rw[WG,E.cellAt _ (by omega)];simp[List.getD,I]
theorem Toks.below {w w':World}{B b o:Nat}{l:List Tk}(O:Toks w b o l)(F:Below B w w')(E:b<B):Toks w' b o l:=by
 intro j H;obtain⟨G,M,I⟩:=O j H;exact⟨(F.cell (p:=⟨b,_,none⟩) E).trans G,(F.cell (p:=⟨b,_,none⟩) E).trans M,(F.cell (p:=⟨b,_,none⟩) E).trans I⟩
theorem TokIn.below {w w':World}{B:Nat}{a:Option Addr}{l:List Tk}(E:TokIn w a l)(F:Below B w w')(M:w.heap.size<=B):TokIn w' a l:=by
 rcases E with E|⟨b,o,G,I,H⟩
 . exact .inl E
 . exact .inr ⟨b,o,G,VG I F.size,H.below F (by omega)⟩
theorem TokIn.alloc {w:World}{a:Option Addr}{l:List Tk}(E:TokIn w a l)(x:Obj):TokIn (w.alloc x) a l:=
 E.below ((Below.refl w.heap.size w).alloc (VB _) x) (VB _)
theorem CO:(Tryz.prog.info? 244).map (fun i=>(i.zero,i.size,i.bytes))=some (some (.agg #[.int .u8 0,.int .i64 0,.int .i64 0]),3,24):=by kernel_rfl
theorem AE (b:Nat)(s f:Int)(w:World)(m:Nat)(G:max s 1=(m:Int)):
 Calls Tryz.prog 179 #[.agg #[.int .u8 (b:Int),.int .i64 s,.int .i64 f]] w fun e w'=>e=.returned (.int .i64 (m:Int))/\w.grownBy w' none:=by
 have F:(if 1<s then s else 1)=(m:Int):=by split<;>omega
 have E:(if s<1 then 1 else s)=(m:Int):=by split<;>omega
 go_enter Tryz.func179,Tryz.ntmps179
 go_wp2;go_ret;exact⟨rfl,World.grownBy_alloc w _ none⟩
theorem Rf (a:Option Addr)(n E:Nat)(w:World):
 Calls Tryz.prog 177 #[.slice a n E] w fun e w'=>e=.returned (.pointer (some ⟨w.heap.size+1,0,none⟩))/\w'=(w.alloc (.map #[] 0)).alloc (.cells #[.slice a n E,.map (some w.heap.size),.int .i64 0] 292):=by
 have F:= @run_makeMap Tryz.prog;go_enter Tryz.func177,Tryz.ntmps177
 go_wp2;go_ret;exact⟨rfl,rfl⟩
structure Snk (J:(Nat->Prop)->List It->World->Prop)(B ks kf kr:Nat)(cs cf br:Array Value)(all:List It):Prop where
 es:∀(args:Array Value) (w:World),(callFunc ks args).run Tryz.prog w=.ok (.enter ks args) w
 ef:∀(args:Array Value) (w:World),(callFunc kf args).run Tryz.prog w=.ok (.enter kf args) w
 er:∀(args:Array Value) (w:World),(callFunc kr args).run Tryz.prog w=.ok (.enter kr args) w
 grow:∀ {No No':Nat->Prop} {is:List It} {W W1:World},J No is W->Below W.heap.size W W1->(∀g,No' g->No g\/W.heap.size<=g)->J No' is W1
 sym:∀ {No:Nat->Prop} {is R:List It} {k:Nat} {W:World},is++It.sym k::R=all->J No is W->(∀g,W.heap.size<=g->¬No g)->Calls Tryz.prog ks (#[.int .i64 (k:Int)]++cs) W fun e W'=>e=.returned (.tuple #[])/\J No (is++ [It.sym k]) W'/\Below B W W'/\Kp No W W'
 far:∀ {No:Nat->Prop} {is R:List It} {k:Nat} {W:World},is++It.far k::R=all->J No is W->(∀g,W.heap.size<=g->¬No g)->Calls Tryz.prog kf (#[.int .i64 (k:Int)]++cf) W fun e W'=>e=.returned (.tuple #[])/\J No (is++ [It.far k]) W'/\Below B W W'/\Kp No W W'
 rest:∀ {No:Nat->Prop} {is R:List It} {n s:Nat} {W:World},is++It.rest n s::R=all->J No is W->(∀g,W.heap.size<=g->¬No g)->Calls Tryz.prog kr (br++ #[.int .i64 (n:Int),.int .i64 (s:Int)]) W fun e W'=>e=.returned (.tuple #[])/\J No (is++ [It.rest n s]) W'/\Below B W W'/\Kp No W W'
theorem Kp.cell {No:Nat->Prop}{w w':World}{E j:Nat}{v:Value}(I:Kp No w w')(H:E<w.heap.size)(G:No E)(F:w.cell? ⟨E,j,none⟩=some v):w'.cell? ⟨E,j,none⟩=some v:=by
 rw[World.cell?_of_block (w:=w) (a:=⟨E,j,none⟩) (I E H G)];exact F
theorem Z3d {w w':World}{a:Option Addr}{l:List Tk}{k:Nat}(Y:TokIn w a l)(O:∀b o,a=some ⟨b,o,none⟩->b<w.heap.size->w'.heap[b]? =w.heap[b]?)(G:k<l.length){F:Nat}{ts M:Int}(U:l.getD k (0,0,0)=(F,ts,M)):
 ∃b o,a=some ⟨b,o,none⟩/\b<w.heap.size/\w'.cell? ⟨b,o+k*3,none⟩=some (.int .u8 (F:Int))/\w'.cell? ⟨b,o+k*3+1,none⟩=some (.int .i64 ts)/\w'.cell? ⟨b,o+k*3+2,none⟩=some (.int .i64 M):=by
 rcases Y with rfl|⟨b,o,rfl,hb,T⟩
 . simp at G
 . obtain⟨E,I,H⟩:=T k G;rw[U]at E I H;have e:=O b o rfl hb;exact⟨b,o,rfl,hb,(World.cell?_of_block (w:=w) (a:=⟨b,_,none⟩) e).trans E,(World.cell?_of_block (w:=w) (a:=⟨b,_,none⟩) e).trans I,(World.cell?_of_block (w:=w) (a:=⟨b,_,none⟩) e).trans H⟩
theorem OD (ts:List Tk)(k:Nat)(E:k<ts.length):Tp (ts.take (k+1))=Tp (ts.take k)++GF (ts.getD k (0,0,0)):=by
 have:ts.take (k+1)=ts.take k++ [ts.getD k (0,0,0)]:=by
  rw[XM];simp[List.getD,E]
 rw[this];simp[Tp]
theorem Y1 (ts:List Tk)(k:Nat)(F:k<ts.length):itsOf ts=Tp (ts.take k)++(GF (ts.getD k (0,0,0))++(Tp (ts.drop (k+1))++ [.sym 256])):=by
 have e:ts=ts.take k++(ts.getD k (0,0,0)::ts.drop (k+1)):=by rw[<-Z58 F,YW]
 have G:Tp ts=Tp (ts.take k)++(GF (ts.getD k (0,0,0))++Tp (ts.drop (k+1))):=by
  have E:=congrArg Tp e;rw[E];simp[Tp]
 unfold itsOf;rw[G];simp
theorem BU (J:(Nat->Prop)->List It->World->Prop)(No:Nat->Prop)(B ks Y U:Nat)(ah aa T:Array Value)(a:Option Addr)(ak de:Nat)(ts:List Tk)(w:World)(hK:Snk J B ks Y U ah aa T (itsOf ts))(ci:ts.length=ak)(ep:ak<=3000)(bn:∀t∈ts,VT t)(ce:TokIn w a ts)(bo:∀b o,a=some ⟨b,o,none⟩->ts≠ []->No b)(d6:B<=w.heap.size)(cn:J No [] w)(c8:∀g,w.heap.size<=g->¬No g):
 Calls Tryz.prog 181 #[.slice a ak de,.agg #[.func (.func ks) #[] ah,.func (.func Y) #[] aa,.func (.func U) T #[]]] w fun e w'=>e=.returned (.tuple #[])/\J No (itsOf ts) w'/\Below B w w'/\Kp No w w':=by
 have es:=hK.es;have ef:=hK.ef;have er:=hK.er;have d5:=Ab cn;have dq:=Ab ce;have d9:=Ab bo;have H:=Ab hK;have bv:=Ab ci;have dv:=Ab c8;have du:=Ab bn;clear cn ce hK bo ci c8 bn;obtain⟨E,b0⟩:∃E:Nat->Prop,E=fun g=>No g\/g=w.heap.size:=⟨_,rfl⟩
 have au:=Ab b0;clear b0;go_enter Tryz.func181,Tryz.ntmps181
 go_wp2;go_loopw [11] (fun i wr=>∃k:Nat,k<=ak/\i=.int .i64 k/\Hid (J E (Tp (ts.take k)) wr/\Below B w wr/\Kp E (w.alloc (.cells #[.func (.func ks) #[] ah,.func (.func Y) #[] aa,.func (.func U) T #[]] 253)) wr/\w.heap.size<wr.heap.size)) (fun i _=>ak-(intOf i).toNat)
 case atStart=>
  refine⟨0,VH _,rfl,Ab ⟨?_,(Below.refl B w).alloc d6 _,Kp.refl _ _,by simp⟩⟩
  have:=(Aa H).grow (No':=E) (Aa d5) ((Below.refl w.heap.size w).alloc (VB _) (.cells #[.func (.func ks) #[] ah,.func (.func Y) #[] aa,.func (.func U) T #[]] 253)) (fun g e=>by
   rw[Aa au]at e
   rcases e with e|e
   . exact .inl e
   . exact .inr (by omega))
  simpa[Tp]using this
 case round=>
  obtain⟨k,em,rfl,bd⟩:=hrel;obtain⟨ap,az,ae,dy⟩:=Aa bd
  have a5:∀g,wr.heap.size<=g->¬E g:=by
   intro g Z e;rw[Aa au]at e
   rcases e with e|e
   . exact Aa dv g (by omega) e
   . omega
  have aj:E w.heap.size:=by rw[Aa au];exact .inr rfl
  have bm:wr.cell? ⟨w.heap.size,0,none⟩=some (.func (.func ks) #[] ah):=ae.cell (by simp) aj (by simp);have x1:wr.cell? ⟨w.heap.size,1,none⟩=some (.func (.func Y) #[] aa):=ae.cell (by simp) aj (by simp);have x2:wr.cell? ⟨w.heap.size,2,none⟩=some (.func (.func U) T #[]):=ae.cell (by simp) aj (by simp);have ej:=Ab aj
  by_cases dp:k<ak
  . obtain⟨ar,ao,av,a6⟩:∃ar ao av,ts.getD k (0,0,0)=(ar,ao,av):=⟨_,_,_,rfl⟩
    have af:k<ts.length:=by rw[Aa bv];exact dp
    obtain⟨b,o,ea,di,c1,c2,d7⟩:=Z3d (w':=wr) (Aa dq) (fun b o e hb=>by
     have dz:=ae b (by simp;omega) (by rw[Aa au];exact .inl (Aa d9 b o e (fun h=>by rw[h]at af;simp at af)));rw[dz];exact Below.heap_alloc w _ b hb) af a6
    have ck:=Aa du (ts.getD k (0,0,0)) (by
     have:ts.getD k (0,0,0)=ts[k]:=by simp[List.getD,af]
     rw[this];exact WK af)
    rw[a6]at ck;have a2:=Y1 ts k af;have a4:=OD ts k af;rw[a6]at a2 a4;obtain⟨R,b7⟩:=exq (Tp (ts.drop (k+1))++ [It.sym 256]);rw[b7]at a2;obtain⟨aw,bk⟩:=exq (Tp (ts.take k));rw[bk]at a2 a4 ap;obtain⟨G,ai⟩:∃G:Nat->Prop,G=fun g=>E g\/g=wr.heap.size:=⟨_,rfl⟩
    have c6:∀X:Obj,J G aw (wr.alloc X):=fun X=>(Aa H).grow ap ((Below.refl wr.heap.size wr).alloc (VB _) X) (fun g e=>by
     rw[ai]at e
     rcases e with e|e
     . exact .inl e
     . exact .inr (by omega))
    have c9:∀W:World,wr.heap.size<W.heap.size->∀g,W.heap.size<=g->¬G g:=by
     intro W cz g Z e;rw[ai]at e
     rcases e with e|e
     . exact a5 g (by omega) e
     . omega
    have cw:∀(is:List It) (W:World),J G is W->J E is W:=fun _ _ cz=>(Aa H).grow cz (Below.refl _ _) (fun g e=>.inl (by rw[ai];exact .inl e))
    have ct:∀(X:Obj) (W:World),Below B (wr.alloc X) W->Kp G (wr.alloc X) W->Below B w W/\Kp E (w.alloc (.cells #[.func (.func ks) #[] ah,.func (.func Y) #[] aa,.func (.func U) T #[]] 253)) W/\w.heap.size<W.heap.size:=by
     intro X W bq dt;have dc:=bq.size;simp only[World.size_alloc]at dc;refine⟨(az.alloc (by have:=az.size;omega) X).trans bq, ?_,by omega⟩;refine(Kp.trans ae ?_ (by simp;omega));intro g Z hn;rw[dt g (by simp;omega) (by rw[ai];exact .inl hn)];exact Below.heap_alloc wr X g Z
    have cj:G wr.heap.size:=by rw[ai];exact .inr rfl
    have b3:G w.heap.size:=by rw[ai];exact .inl aj
    have al:=Ab a2;have a3:=Ab a4;have co:=Ab c6;have a1:=Ab c9;have cq:=Ab cw;have b5:=Ab ct;have bz:=Ab cj;have ay:=Ab b3;subst ea;have eu:b<wr.heap.size:=by omega
    clear bd ap az ae a5 aj a6 a2 a4 b7 bk ai c6 c9 cw ct cj b3 af di;obtain⟨db,cg⟩:=ck;simp only at db cg
    by_cases bj:ao=0
    . subst bj;have hit:GF (ar,0,av)= [.sym ar]:=by unfold GF;rw[if_pos rfl]
      rw[hit]at al a3;have ew:= @World.size_alloc;go_wp2_with fail
      refine((Aa H).sym (No:=G) (is:=aw) (R:=R) (k:=ar) (Aa al).symm (Aa co _) (Aa a1 _ (by simp))).mono ?_;rintro e O ⟨rfl,ag,ac,I⟩;have a8:=Ab (Aa cq _ _ ag);have d8:=Ab (Aa b5 _ _ ac I);clear ag ac I;go_wp2;go_roundw
      case rel=>exact⟨k+1,by omega,by go_num,Ab ⟨by rw[Aa a3];exact Aa a8,Aa d8⟩⟩
      case measure=>simp[intOf];omega
    . have en:3<=ao/\ao<=258/\1<=av/\av<=3000:=by rcases cg with h|h;exact absurd h bj;exact h
      obtain⟨n,rfl⟩:=WF (show 0<=ao by omega);obtain⟨d,rfl⟩:=WF (show 0<=av by omega);have et:((n:Int)==0)=false:=by rw[beq_eq_false_iff_ne];omega
      have hit:GF (ar,(n:Int),(d:Int))= [.sym (De n).1,.rest (De n).2.1 (De n).2.2,.far (Mn d).1,.rest (Mn d).2.1 (Mn d).2.2]:=by unfold GF;rw[if_neg bj];rfl
      rw[hit]at al a3;have dn:=Ab (fun W=>Y8 n W (by omega) (by omega));have dl:=Ab (fun W=>GN d W (by omega) (by omega));generalize (De n).1=M at*;generalize (De n).2.1=bc at*;generalize (De n).2.2=bb at*;generalize (Mn d).1=F at*;generalize (Mn d).2.1=a7 at*;generalize (Mn d).2.2=bg at*;go_wp2_with fail
      refine(Aa dn _).mono ?_;rintro e O ⟨rfl,q,rfl⟩;go_wp2_with fail
      refine((Aa H).sym (No:=G) (is:=aw) (k:=M) (R:=_) (by rw[Aa al];rfl) ((Aa H).grow (Aa co _) (Ae (Below.refl _ _) q) (fun g e=>.inl e)) (Aa a1 _ (by simp))).mono ?_;rintro e O ⟨rfl,ag,ac,I⟩;have ds:wr.heap.size<O.heap.size:=by have:=ac.size;simp at this;omega
      have bw:O.cell? ⟨w.heap.size,1,none⟩=some (.func (.func Y) #[] aa):=I.cell (by simp;omega) (Aa ay) (by simpa using by go_simp);have y1:O.cell? ⟨w.heap.size,2,none⟩=some (.func (.func U) T #[]):=I.cell (by simp;omega) (Aa ay) (by simpa using by go_simp);have y2:O.cell? ⟨wr.heap.size,2,none⟩=some (.int .i64 (d:Int)):=I.cell (by simp) (Aa bz) (by simp);have cy:=Ab ac;have da:=Ab I;have a8:=Ab ag;clear ac I ag bm x1 x2 c1 c2 d7;go_wp2_with fail
      refine((Aa H).rest (No:=G) (is:=aw++ [.sym M]) (n:=bc) (s:=bb) (R:=.far F::.rest a7 bg::R) (by rw[Aa al];simp) (Aa a8) (Aa a1 _ ds)).mono ?_;rintro e w3 ⟨rfl,c5,ba,ax⟩;have a9:wr.heap.size<w3.heap.size:=by have:=ba.size;omega
      have df:w3.cell? ⟨w.heap.size,1,none⟩=some (.func (.func Y) #[] aa):=ax.cell (by omega) (Aa ay) bw;have b4:w3.cell? ⟨w.heap.size,2,none⟩=some (.func (.func U) T #[]):=ax.cell (by omega) (Aa ay) y1;have dx:w3.cell? ⟨wr.heap.size,2,none⟩=some (.int .i64 (d:Int)):=ax.cell (by omega) (Aa bz) y2;have cm:=Ab ba;have eh:=Ab ax;have ee:=Ab c5;clear ba ax c5 bw y1 y2;go_wp2_with fail
      refine(Aa dl _).mono ?_;rintro e ek ⟨rfl,b9,rfl⟩;go_wp2_with fail
      refine((Aa H).far (No:=G) (is:=aw++ [.sym M]++ [.rest bc bb]) (k:=F) (R:=.rest a7 bg::R) (by rw[Aa al];simp) ((Aa H).grow (Aa ee) (Ae (Below.refl _ _) b9) (fun g e=>.inl e)) (Aa a1 _ a9)).mono ?_;rintro e bf ⟨rfl,b8,bh,bi⟩;have ei:wr.heap.size<bf.heap.size:=by have:=bh.size;exact VG a9 this
      have dr:bf.cell? ⟨w.heap.size,2,none⟩=some (.func (.func U) T #[]):=bi.cell (Nat.lt_trans dy a9) (Aa ay) b4;have cp:=Ab bh;have dj:=Ab bi;have eg:=Ab b8;clear bh bi b8 df b4 dx;go_wp2_with fail
      refine((Aa H).rest (No:=G) (is:=aw++ [.sym M]++ [.rest bc bb]++ [.far F]) (n:=a7) (s:=bg) (R:=R) (by rw[Aa al];simp) (Aa eg) (Aa a1 _ ei)).mono ?_;rintro e w6 ⟨rfl,cu,bu,cv⟩;have dh:=Ab (Aa cq _ _ cu);have dd:=Ab (Aa b5 _ _ ((Ae (Below.refl B _) q).trans ((Aa cy).trans ((Aa cm).trans ((Ae (Below.refl B _) b9).trans ((Aa cp).trans bu))))) (Kp.trans (b:=O) (fun g Z hn=>Aa da g Z hn) (Kp.trans (b:=w3) (Aa eh) (Kp.trans (b:=bf) (fun g Z hn=>Aa dj g Z hn) cv (Aa cp).size) (Aa cm).size) (by have:=(Aa cy).size;exact this)));clear cu bu cv dr;go_wp2;go_roundw
      case rel=>exact⟨k+1,by omega,by go_num,Ab ⟨by rw[Aa a3];simpa using Aa dh,Aa dd⟩⟩
      case measure=>simp[intOf];omega
  . obtain rfl:k=ak:=by omega
    have c7:=Ab (show J E (Tp ts) wr/\Below B w wr/\Kp E (w.alloc (.cells #[.func (.func ks) #[] ah,.func (.func Y) #[] aa,.func (.func U) T #[]] 253)) wr from ⟨by rw[VV (by rw[Aa bv];exact VB _)]at ap;exact ap,az,ae⟩);have ed:=Ab a5;clear bd ap az ae a5 aj;go_wp2_with fail
    refine((Aa H).sym (No:=E) (is:=Tp ts) (k:=256) (R:= []) rfl (Aa c7).1 (Aa ed)).mono ?_;rintro e O ⟨rfl,ag,ac,I⟩
    have dm:Hid (J No (itsOf ts) O/\Below B w O/\Kp No w O):=by
     obtain⟨eo,eb,dw⟩:=Aa c7;refine⟨(Aa H).grow ag (Below.refl _ _) (fun g e=>.inl (by rw[Aa au];exact .inl e)),eb.trans ac, ?_⟩;intro g Z hn;have cd:E g:=by rw[Aa au];exact .inl hn
     exact(I g (by omega) cd).trans ((dw g (by simp;omega) cd).trans (Below.heap_alloc w _ g Z))
    clear ag ac I bm x1 x2;go_wp2;go_end0
    exact⟨rfl,Aa dm⟩
end Go.Proofs.YtleocpdblhbimaaGreatDoor
namespace Go.Proofs.YtleocpdblhbimaaGreatDoor
open Go.RowKit
set_option linter.unusedVariables false
def B6 (s:Int):Bool:=decide (0<=s/\s<=16)
def GW (n s:Int):Bool:=decide (0<=s/\s<=16/\0<=n/\n<2^s.toNat)
theorem FC {s:Int}(E:B6 s=true):0<=s/\s<=16:=of_decide_eq_true E
theorem S6 {s:Int}(E:B6 s=false):¬(0<=s/\s<=16):=of_decide_eq_false E
theorem Nl (s:Int)(w:World):
 Calls Tryz.prog 274 #[.int .i64 s] w fun e w'=>e=.returned (.bool (B6 s))/\w'=w:=by
 by_cases G:0<=s
 . by_cases F:s<=16
   . have E:B6 s=true:=decide_eq_true ⟨G,F⟩;rw[E];clear E;go_enter Tryz.func274,Tryz.ntmps274
     go_wp2;go_ret;exact⟨by simp,rfl⟩
   . have E:B6 s=false:=decide_eq_false (by omega);rw[E];clear E;go_enter Tryz.func274,Tryz.ntmps274
     go_wp2;go_ret;exact⟨by simp,rfl⟩
 . have E:B6 s=false:=decide_eq_false (by omega);rw[E];clear E;go_enter Tryz.func274,Tryz.ntmps274
   go_wp2;go_ret;exact⟨rfl,rfl⟩
theorem SP {s:Int}(F:s<=16):wrap64 (2^s.toNat)=2^s.toNat:=by
 have E:s.toNat<=16:=by omega
 have H:(2:Int)^s.toNat<=2^16:=by
  have:=VO (n:=2) (by decide) E
  exact_mod_cast this
 have G:(0:Int)<=2^s.toNat:=by
  have:=VH (2^s.toNat)
  exact_mod_cast this
 unfold wrap64;omega
theorem Z1l (n s:Int)(w:World):
 Calls Tryz.prog 256 #[.int .i64 n,.int .i64 s] w fun e w'=>e=.returned (.bool (GW n s))/\w'=w:=by
 by_cases F:B6 s=true
 . obtain⟨M,G⟩:=FC F
   by_cases I:0<=n
   . go_enter Tryz.func256,Tryz.ntmps256
     go_wp2_with (go_at_call 274;refine(Nl _ _).mono ?_;rintro e w' ⟨rfl,rfl⟩)
     go_ret;refine⟨Dq ?_,rfl⟩;rw[SP G];simp[GW,M,G,I]
   . have E:GW n s=false:=decide_eq_false (by omega);rw[E];clear E;go_enter Tryz.func256,Tryz.ntmps256
     go_wp2_with (go_at_call 274;refine(Nl _ _).mono ?_;rintro e w' ⟨rfl,rfl⟩)
     go_ret;exact⟨rfl,rfl⟩
 . have H:B6 s=false:=by simpa using F
   have E:GW n s=false:=decide_eq_false (by have:=S6 H;omega);rw[E];clear E F;go_enter Tryz.func256,Tryz.ntmps256
   go_wp2_with (go_at_call 274;refine(Nl _ _).mono ?_;rintro e w' ⟨rfl,rfl⟩)
   go_ret;exact⟨rfl,rfl⟩
theorem Uk (n:Nat){k:Nat}(E:k<16):Ip n k<32768:=VG (TG n k) (VO (j:=15) (by decide) (by omega))
theorem TE (n s:Nat)(w:World)(T:GW n s=true)(G:s<=16)(M:n<65536):
 Calls Tryz.prog 237 #[.int .i64 n,.int .i64 s] w fun e w'=>e=.returned (.tuple #[.int .i64 (Ip n s:Nat),.int .i64 0])/\w'=w:=by
 go_enter Tryz.func237,Tryz.ntmps237
 go_wp2_with (go_at_call 256;refine(Z1l _ _ _).mono ?_;rintro e w' ⟨rfl,rfl⟩)
 go_loop [6,13] (fun t i=>∃k:Nat,k<=s/\i=.int .i64 k/\t=.int .i64 (Ip n k:Nat)) (fun _ i=>s-(intOf i).toNat)
 case atStart=>exact⟨0,VH _,rfl,rfl⟩
 case round=>
  obtain⟨k,I,rfl,rfl⟩:=hrel
  by_cases O:k<s
  . have hb:=Uk n (k:=k) (by omega);have E:=KR (Ip n k) n k (by omega) (by omega);have H:Hid (Ip n (k+1)=Ip n k*2|||n/2^k%2):=rfl;have F:=Ab E;clear E;generalize Ip n k=m at*;go_wp2;go_round
    case rel=>exact⟨k+1,by omega,by go_num,by rw[H.out,Aa F]⟩
    case measure=>simp[intOf];omega
  . have e:k=s:=by omega
    subst e;go_wp2;go_ret2;exact⟨rfl,rfl⟩
end Go.Proofs.YtleocpdblhbimaaGreatDoor
namespace Go.Proofs.YtleocpdblhbimaaGreatDoor
open Go.RowKit
set_option linter.unusedVariables false
set_option maxRecDepth 100000
theorem D9:∀n c,Al (Ip c n) n=hb c n:=by
 intro n c;apply XK
 . rw[Ah,Bd]
 . intro i E F;rw[Ah]at E;have G:(Al (Ip c n) n).getD i false=(Al (Ip c n) n)[i]'(by rw[Ah];exact E):=by simp[List.getD,Ah,E]
   rw[<-G,Jb,decide_eq_true E,ZF,Qc,decide_eq_true E,ZF];exact(hb_at n c i E F).symm
where
 hb_at:∀n c i (h:i<n) (F:i<(hb c n).length),(hb c n)[i]=c.testBit (n-1-i)
 |0,c,i,h,_=>by omega
 |n+1,c,i,h,F=>by
  by_cases e:i=n
  . subst e
    have:(hb c (i+1))[i]'h2=decide (c%2=1):=by
     have hl:=Bd i (c/2);simp only[hb];rw[List.getElem_append_right (by omega)];simp[hl]
    rw[this];rw[show i+1-1-i=0 by omega,Nat.testBit_zero]
  . have hl:=Bd n (c/2)
    have:(hb c (n+1))[i]'h2=(hb (c/2) n)[i]'(by omega):=by
     simp only[hb];rw[List.getElem_append_left (by omega)]
    rw[this,hb_at n (c/2) i (by omega) (by omega),show n+1-1-i=(n-1-i)+1 by omega,Nat.testBit_succ]
structure CIs (Bx:Nat->Prop)(W:World)(gc gl gr rb:Nat)(a:Option Addr)(len cap:Nat)(l:List Int):Prop where
 ex:∃gk b o,a=some ⟨b,o,none⟩/\(b<W.heap.size/\Bx b)/\(gk<W.heap.size/\Bx gk)/\W.cell? ⟨gc,0,none⟩=some (.slice (some ⟨gk,0,none⟩) len len)/\Row .i64 W b o l/\∀j,j<len->W.cell? ⟨gk,j,none⟩=some (.int .i64 (codeN l j:Nat))
 bl:W.cell? ⟨gl,0,none⟩=some (.slice a len cap)
 br:W.cell? ⟨gr,0,none⟩=some (.pointer (some ⟨rb,0,none⟩))
 bx:(gc<W.heap.size/\Bx gc)/\(gl<W.heap.size/\Bx gl)/\(gr<W.heap.size/\Bx gr)
theorem CIs.keep {F:Nat->Prop}{W W':World}{aa T O M:Nat}{a:Option Addr}{I Z:Nat}{l:List Int}(E:CIs F W aa T O M a I Z l)(af:W.heap.size<=W'.heap.size)(ag:∀g,g<W.heap.size->F g->W'.heap[g]? =W.heap[g]?):CIs F W' aa T O M a I Z l:=by
 have hc:∀ {g j:Nat} {v:Value},g<W.heap.size/\F g->W.cell? ⟨g,j,none⟩=some v->W'.cell? ⟨g,j,none⟩=some v:=fun {g j v} G hv=>by
  rw[World.cell?_of_block (w:=W) (a:=⟨g,j,none⟩) (ag g G.1 G.2)];exact hv
 have up:∀ {g:Nat},g<W.heap.size/\F g->g<W'.heap.size/\F g:=fun G=>⟨VG G.1 af,G.2⟩
 obtain⟨gk,b,o,ae,Y,U,ac,ah,ai⟩:=E.ex;exact⟨⟨gk,b,o,ae,up Y,up U,hc E.bx.1 ac,fun j H=>hc Y (ah j H),fun j H=>hc U (ai j H)⟩,hc E.bx.2.1 E.bl,hc E.bx.2.2 E.br,up E.bx.1,up E.bx.2.1,up E.bx.2.2⟩
theorem CIs.more {Y I:Nat->Prop}{W:World}{aa O M H:Nat}{a:Option Addr}{G Z:Nat}{l:List Int}(E:CIs Y W aa O M H a G Z l)(F:∀g,Y g->I g):CIs I W aa O M H a G Z l:=by
 obtain⟨gk,b,o,ae,U,T,ac,af,ag⟩:=E.ex;exact⟨⟨gk,b,o,ae,⟨U.1,F _ U.2⟩,⟨T.1,F _ T.2⟩,ac,af,ag⟩,E.bl,E.br,⟨E.bx.1.1,F _ E.bx.1.2⟩,⟨E.bx.2.1.1,F _ E.bx.2.1.2⟩,⟨E.bx.2.2.1,F _ E.bx.2.2.2⟩⟩
abbrev CV (gc gl gr:Nat):Value:=.func (.func 236) #[] #[.pointer (some ⟨gc,0,none⟩),.pointer (some ⟨gl,0,none⟩),.pointer (some ⟨gr,0,none⟩)]
theorem Yo (ap No:Nat->Prop)(B ac Z M F:Nat)(a:Option Addr)(G ar:Nat)(l:List Int)(q:Nat)(S:List Bool)(W:World)(H:CIs ap W ac Z M F a G ar l)(a8:l.length=G)(E:Good l)(av:q<G)(ah:0<l.getD q 0)(I:RIs No B W F S)(al:S.length<=300000)(ae:∀g,W.heap.size<=g->¬No g):
 Calls Tryz.prog 236 #[.int .i64 (q:Int),.pointer (some ⟨ac,0,none⟩),.pointer (some ⟨Z,0,none⟩),.pointer (some ⟨M,0,none⟩)] W fun e w'=>e=.returned (.tuple #[])/\Rp No B W F (S++codeT l q) w':=by
 obtain⟨gk,b,o,rfl,hb,a3,c1,aa,O⟩:=H.ex;have c2:=H.bl;have a2:=H.br;have a9:=E.len;obtain⟨m,hm⟩:=WF (E.ok q (by omega)).1;have af:=(E.ok q (by omega)).2;have ag:=aa q (by omega);have a5:=O q av;rw[hm]at ag af ah;have U:=(Ig l E (by omega) hm (by omega)).2.2;have Y:Hid (S++codeT l q=S++Al (Ip (codeN l q) m) m):=Ab (by unfold codeT;rw[hm,WM,D9]);have ao:2^m<=2^15:=VO (by decide) (by omega);have aj:(2:Nat)^15=32768:=by decide
 have a6:codeN l q<32768:=by omega
 have T:GW (codeN l q:Nat) (m:Nat)=true:=decide_eq_true ⟨by omega,by omega,by omega,by rw[WM];exact_mod_cast U⟩;have ak:=Ab (fun W=>TE (codeN l q) m W T (by omega) (by omega));have az:=Uk (codeN l q) (k:=m) (by omega);have ax:=Ab (fun(k x:Nat) (au:x<65536)=>Dp No B F x m S (W.drewN k) (I.drewN k) au (by omega) al ae);have aw:=Ab (fun k=>I.drew k);rw[Aa Y];have a4:(q:Int)<(G:Int):=by omega
 clear H aa O U T Y I ae E hm ao aj;generalize codeN l q=ai at*;generalize Ip ai m=a1 at*;go_enter Tryz.func236,Tryz.ntmps236
 go_wp2;go_quiet ((go_at_call 237;refine Calls.quiet_of_same (Aa ak _)))
 go_wp2;go_region_with (go_at_call 147;refine(Aa ax _ _ (by omega)).mono ?_;rintro e a7 ⟨rfl,ay⟩)
 all_goals try go_wp2
 all_goals go_end0
 all_goals trace_state
 all_goals exact⟨rfl,(Aa aw _).trans ay⟩
end Go.Proofs.YtleocpdblhbimaaGreatDoor
