import Derived.Test.YtleocpdblhbimaaGreatDoorQ31
import Derived.Laws.Cover3
import Derived.Laws.ResultCell
import Derived.Shelf.Abstract
import Derived.Test.YtleocpdblhbimaaGreatDoorQ18
set_option linter.unusedSimpArgs false
set_option linter.unusedVariables false
set_option maxRecDepth 100000
set_option maxHeartbeats 8000000
namespace Go.Proofs.YtleocpdblhbimaaGreatDoor
open Go.RowKit
theorem AP (w:World):(zeroValue 76).run Tryz.prog w=.ok (.slice none 0 0) w:=by kernel_rfl
structure Mid (No:Nat->Prop)(B:Nat)(R w3:World)(p mb base b o n cap:Nat)(bs:List Nat)(j:Nat):Prop where
 pst:Pst w3 p (.slice (some ⟨b,o,none⟩) n cap) mb j
 grp:Grp w3 base mb bs (j+1)
 shun:w3.Shuns mb No
 row:Bytes w3 b o bs
 size:R.heap.size<=w3.heap.size
 room:base<=R.heap.size
 below:Below B R w3
 kp:Kp No R w3
theorem Mid.next {No:Nat->Prop}{B:Nat}{w R F:World}{p O H b o n T j:Nat}{bs:List Nat}(M:Mid No B R F p O H b o n T bs j)(E:Geo No B p O H b bs)(Y:Below B w R)(hK:Kp No w R)(I:w.heap.size<=R.heap.size):
 Pas No (F.setCell ⟨p,2,none⟩ (.int .i64 ((j:Int)+1))) p O H b o n T bs (j+1)/\Below B w (F.setCell ⟨p,2,none⟩ (.int .i64 ((j:Int)+1)))/\Kp No w (F.setCell ⟨p,2,none⟩ (.int .i64 ((j:Int)+1))):=by
 have G:=Ad F p 2 (.int .i64 ((j:Int)+1));have hm:=M.grp.lt;have U:Below B w F:=Y.trans (M.below);refine⟨⟨M.pst.set (j+1),M.grp.kept G (fun i e=>by cases e;exact⟨E.pb,E.pm⟩),M.shun.kept G hm.2 (fun e=>E.pm (by simpa using e.symm)),M.row.grown G (fun e=>by have:=E.bB;have:=E.pB;simp at e;omega), ?_⟩, ?_, ?_⟩
 . exact VU M.room (VU M.size G.size)
 . exact U.grown G (by have:=I;have:=M.size;have:=M.pst.lt;have:=E.pB;omega) (fun i e=>by cases e;exact E.pB)
 . exact(hK.trans M.kp I).grown G (VU I M.size) (fun i e=>by cases e;exact E.nop)
theorem Vw (No:Nat->Prop)(B p O I b o n aw j:Nat)(bs:List Nat)(R:World)(E:Geo No B p O I b bs)(b4:bs.length=n)(F:Pas No R p O I b o n aw bs j)(b5:j+3<=n)(bq:∀g,R.heap.size<=g->¬No g)(ak ap ao:Nat)(a7:Hi bs j=(ak,ap,ao)):
 ∃(v:Value) (st:Nat) (H:World),(Instr.mapEntry 290 (.map (some O)) (.agg #[.int .u8 (ak:Int),.int .u8 (ap:Int),.int .u8 (ao:Int)])).run Tryz.prog R=.ok (.tuple #[v,.int .i64 (st:Int)]) H/\R.grownBy H (some O)/\H.heap.size=R.heap.size/\
  ∀(W:World) (X:Nat),H.grownBy W none->W.cell? ⟨X,0,none⟩=some (.int .i64 (j:Int))->∃(v':Value) (M U:World),(∀a3,(Builtin.append_ #[76,76] a3 #[v,.slice (some ⟨X,0,none⟩) 1 1]).run Tryz.prog W=.ok v' M)/\
   (Instr.entryStore 290 (.map (some O)) (.int .i64 (st:Int)) v').run Tryz.prog M=.ok () U/\Mid No B R U p O I b o n aw bs j:=by
 obtain⟨a9,hi,bn,bz,bu⟩:=info_parts Bv;have hn:=E.len;have ok:=X4 E.byte j;obtain⟨D,av,ax⟩:=F.grp;obtain⟨v,ac,st,H,bk,aa,al,bb,ar,b3,a4,bf⟩:=N5 av Z81 Tryz.underlying290 AP (by unfold maxLen;omega) (Pg ok);have ba:ac=(plc bs j (Hi bs j)).map fun x:Nat=>(x:Int):=Uv ar (by rw[<-bb];exact(ax _ ok).symm)
 refine⟨v,st,H, ?_,aa,al, ?_⟩
 . rw[show (Value.agg #[.int .u8 (ak:Int),.int .u8 (ap:Int),.int .u8 (ao:Int)])=kv (Hi bs j) by rw[a7];rfl];exact bk
 intro W X G a8;have bh:I<=H.heap.size:=by rw[al];exact F.size
 have a5:W.ownsInts I 3 .i64 v ac:=ar.kept G (by cases ay:v.ownBlock with
  |none=>exact .inl rfl
  |some g=>exact .inr (by simp))
 obtain⟨v',M,bi,bg,ae,_,a2⟩:=run_append_own_at W I 76 76 3 a9 (.int .i64 0) 1 8 Tryz.underlying76 hi bn bz bu rfl (by decide) v ac.length _ a5.1 ⟨X,0,none⟩ 1 1 [.int .i64 (j:Int)] rfl (fun i u hi=>Lu a8 hi) (Bc rfl) (by unfold maxLen;omega) (by omega) (VU bh G.size);have aj:M.ownsInts I 3 .i64 v' (ac++ [(j:Int)]):=a5.appended bg (WalkArith.wf_i64 (by omega));have T:H.grownBy M v.ownBlock:=⟨ae.os.trans G.os,ae.tape.trans G.tape,ae.output.trans G.output,VU G.size ae.size,fun i af ah=>(ae.block i (VG af G.size) ah).trans (G.block i af (by simp))⟩
 obtain⟨U,bd,bv,Y,bm⟩:=bf M v' _ T aj (by simp;omega) (by
  rcases a2 with h|h
  . exact .inl h
  . exact .inr ⟨_,h,G.size⟩)
 have bj:U.ownsInts I 3 .i64 v' (ac++ [(j:Int)]):=aj.kept Y (by
  cases ay:v'.ownBlock with
  |none=>exact .inl rfl
  |some g=>
   refine .inr (fun e=> ?_);have:=(aj.1.lt g ay).1
   have:=F.grp.lt.1
   cases e
   omega)
 have ai:∀g,v.ownBlock=some g->I<=g:=fun g e=>(ar.1.lt g e).1
 have ag:∀g,g<R.heap.size->g≠O->v.ownBlock≠some g->U.heap[g]? =R.heap[g]? :=by
  intro g af ah b0;have a1:g<H.heap.size:=by rw[al];exact af
  rw[Y.block g (VG a1 T.size) (fun e=>ah (by simpa using e)),T.block g a1 (fun e=>b0 e.symm),aa.block g af (fun e=>ah (by simpa using e))]
 have au:R.heap.size<=U.heap.size:=by
  have:=T.size
  have:=Y.size
  omega
 have bc:=F.pst.lt;have bw:v.ownBlock≠some p:=fun e=>by have:=ai p e;have:=E.pb;omega
 have bo:v.ownBlock≠some b:=fun e=>by have:=ai b e;have:=E.pb;have:=E.bB;have:=E.pB;omega
 refine⟨v',M,U,fun a3=>bi,bd, ?_, ?_, ?_, ?_,au,F.size, ?_, ?_⟩
 . exact(ag p bc E.pm bw).trans F.pst
 . exact Grp.step E.byte ax (J5 av) bv bj (by rw[ba])
 . refine bm No F.shun ?_;intro g Z
   rcases a2 with h|h
   . exact a4 No F.shun g (by rw[<-h];exact Z)
   . rw[h]at Z
     cases Z
     have:=G.size
     exact bq _ (by omega)
 . intro i hi;have a6:b<R.heap.size:=by have:=E.bB;have:=E.pB;omega
   have e:=ag b a6 (by have:=E.bB;have:=E.mB;omega) bo;have:=F.row i hi
   unfold World.cell? at this ⊢;rw[e];exact this
 . refine⟨Y.os.trans (T.os.trans aa.os),Y.tape.trans (T.tape.trans aa.tape),Y.output.trans (T.output.trans aa.output),au, ?_⟩;intro g Z;have:=E.pB
   have:=E.mB
   exact ag g (by omega) (by omega) (fun e=>by have:=ai g e;have:=E.pb;omega)
 . intro g Z az;exact ag g Z (fun e=>E.nom (by rw[<-e];exact az)) (fun e=>a4 No F.shun g e az)
theorem PW (No:Nat->Prop)(B p O M b o n F Z k:Nat)(bs:List Nat)(w:World)(G:Geo No B p O M b bs)(a2:bs.length=n)(b8:n<=F)(aw:Pas No w p O M b o n F bs Z)(bz:Z<=k)(ct:k+3<=n)(a7:∀g,w.heap.size<=g->¬No g):
 Calls Tryz.prog 232 #[.pointer (some ⟨p,0,none⟩),.int .i64 (k:Int)] w fun e w'=>e=.returned (.tuple #[])/\Pas No w' p O M b o n F bs k/\Below B w w'/\Kp No w w':=by
 have I:=Ab G;have a3:=Ab aw;have ak:=Ab a7;have hn:=G.len;have bn:=G.pm;clear G aw a7;go_enter Tryz.func232,Tryz.ntmps232
 go_wp2;go_loopw [4] (fun _ wr=>∃j:Nat,Z<=j/\j<=k/\Pas No wr p O M b o n F bs j/\Below B w wr/\Kp No w wr) (fun _ wr=>k-((wr.cell? ⟨p,2,none⟩).map (fun v=>(intOf v).toNat)).getD 0)
 case atStart=>exact⟨Z,VB _,bz,Aa a3,Below.refl _ _,Kp.refl _ _⟩
 case round=>
  obtain⟨j,c5,cg,H,ac,ah⟩:=hrel;have ap:=Ab H;have af:=Ab ac;have ag:=Ab ah;have c2:=H.pst.cell2
  by_cases co:j<k
  . have c0:=H.pst.cell0;have c1:=H.pst.cell1;have ba:=H.row j (by omega);have b1:=H.row (j+1) (by omega);have b2:=H.row (j+2) (by omega);rw[<-WT]at b1 b2;have a1:=ac.size;have bd:=H.pst.lt;have cw:b<wr.heap.size:=Nat.lt_trans (VG (Aa I).bB (Aa I).pB) bd;clear H ac ah;generalize al:bs.getD j 0=E at ba;generalize ao:bs.getD (j+1) 0=x1 at b1;generalize a8:bs.getD (j+2) 0=x2 at b2;have aj:Hid (Hi bs j=(E,x1,x2)):=by rw[<-al,<-ao,<-a8];rfl
    clear al ao a8;have cv:¬F=j:=by omega
    have bj:∀(a:Option Addr) (c:Nat) (W:World),(Instr.arrayAt 313 (.slice a (n-j) c)).run Tryz.prog W=.ok (.pointer a) W:=fun a c W=>run_arrayAt _ _ _ _ _ _ _ Tryz.underlying313 (by omega)
    go_wp2;go_big_region
    clear ba b1 b2 bj;have T:Hid (Pas No (wr.alloc (.cells #[.int .u8 (E:Int),.int .u8 (x1:Int),.int .u8 (x2:Int)] 313)).drew p O M b o n F bs j):=((Aa ap).grown (Aa I) (World.grownBy_alloc wr _ none) (fun j e=>by cases e)).drewN 1;have ay:Hid (Below B w (wr.alloc (.cells #[.int .u8 (E:Int),.int .u8 (x1:Int),.int .u8 (x2:Int)] 313)).drew):=(Ae ((Aa af).alloc (VU (VU (Aa I).pB (YX (Aa a3).pst.lt)) a1) (.cells #[.int .u8 (E:Int),.int .u8 (x1:Int),.int .u8 (x2:Int)] 313)) 1)
    have a4:Hid (Kp No w (wr.alloc (.cells #[.int .u8 (E:Int),.int .u8 (x1:Int),.int .u8 (x2:Int)] 313)).drew):=((Aa ag).grown (Cb (World.grownBy_alloc wr (.cells #[.int .u8 (E:Int),.int .u8 (x1:Int),.int .u8 (x2:Int)] 313) none)) a1 (fun j e=>by cases e))
    have bf:(wr.alloc (.cells #[.int .u8 (E:Int),.int .u8 (x1:Int),.int .u8 (x2:Int)] 313)).drew.cell? ⟨wr.heap.size,0,none⟩=some (.int .u8 (E:Int)):=by simp
    have bg:(wr.alloc (.cells #[.int .u8 (E:Int),.int .u8 (x1:Int),.int .u8 (x2:Int)] 313)).drew.cell? ⟨wr.heap.size,1,none⟩=some (.int .u8 (x1:Int)):=by simp
    have bv:(wr.alloc (.cells #[.int .u8 (E:Int),.int .u8 (x1:Int),.int .u8 (x2:Int)] 313)).drew.cell? ⟨wr.heap.size,2,none⟩=some (.int .u8 (x2:Int)):=by simp
    have cu:wr.heap.size<(wr.alloc (.cells #[.int .u8 (E:Int),.int .u8 (x1:Int),.int .u8 (x2:Int)] 313)).drew.heap.size:=by simp
    have U:w.heap.size<=(wr.alloc (.cells #[.int .u8 (E:Int),.int .u8 (x1:Int),.int .u8 (x2:Int)] 313)).drew.heap.size:=by simp;omega
    clear c0 c1 af ag;generalize (wr.alloc (.cells #[.int .u8 (E:Int),.int .u8 (x1:Int),.int .u8 (x2:Int)] 313)).drew=r at*;generalize wr.heap.size=cm at*;have bo:=(Aa T).pst.cell1;have a9:=(Aa T).pst.cell2;have bk:=(Aa T).pst.lt;have b0:Hid (Pas No r.drew p O M b o n F bs j):=(Aa T).drewN 1;have bu:Hid (Pas No (r.alloc (.cells #[.int .i64 (j:Int)] 3)).drew p O M b o n F bs j):=((Aa T).grown (Aa I) (World.grownBy_alloc r _ none) (fun j e=>by cases e)).drewN 1;obtain⟨cy,stA,a5,bm,ar,ci,az⟩:=Vw No B p O M b o n F j bs r.drew (Aa I) a2 (Aa b0) (by omega) (fun g h=>Aa ak g (VU U h)) E x1 x2 (Aa aj);obtain⟨b9,ce,b4,aa,bi,bb⟩:=az (a5.alloc (.cells #[.int .i64 (j:Int)] 3)) a5.heap.size (World.grownBy_alloc _ _ _) (by simp);obtain⟨b7,cz,bq,bc,a6,cj,av⟩:=Vw No B p O M b o n F j bs (r.alloc (.cells #[.int .i64 (j:Int)] 3)).drew (Aa I) a2 (Aa bu) (by omega) (fun g h=>Aa ak g (VU (VU U (by simp)) h)) E x1 x2 (Aa aj)
    obtain⟨b5,cq,ck,Y,bh,mB⟩:=av bq r.heap.size (Aw _ _) (a6.cell (by simp) (by
     have:=(Aa T).grp.lt.2
     simp;omega))
    have bw:=ar.cell (a:=⟨p,2,none⟩) a9 (by simpa using bn);replace aa:=aa 76;replace Y:=Y 76;simp[go_sem]at aa Y
    have ae:=Ab bb;have ai:=Ab mB;clear az av bb mB ar a6;have b3:=(Aa ae).pst.cell2;have cp:=(Aa ae).pst.frozen 2;have cd:=(Aa ai).pst.cell2;have cn:=(Aa ai).pst.frozen 2;have ax:=Ab ((Aa ae).next (Aa I) (Ae (Aa ay) 1) (Aa a4) U);have au:=Ab ((Aa ai).next (Aa I) (Ae ((Aa ay).alloc (VU (Aa I).pB (YX bk)) (.cells #[.int .i64 (j:Int)] 3)) 1) ((Aa a4).grown (Cb (World.grownBy_alloc r (.cells #[.int .i64 (j:Int)] 3) none)) U (fun j e=>by cases e)) (VU U (by simp)));go_wp2;go_big_region
    all_goals clear aa Y bm bc bi bh bf bg bv bo a9 bw
    all_goals
     go_wp2;go_roundw
     case rel=>first|exact⟨j+1,by omega,by omega,Aa ax⟩|exact⟨j+1,by omega,by omega,Aa au⟩
     case measure=>
      rw[c2]
      first|rw[(Aa ax).1.pst.cell2]|rw[(Aa au).1.pst.cell2]
      simp[intOf];omega
  . obtain rfl:k=j:=by omega
    clear H ac ah;go_wp2;go_end0
    exact⟨rfl,Aa ap,Aa af,Aa ag⟩
theorem Pas.row3 {No:Nat->Prop}{w:World}{p T ah b o n aj k:Nat}{bs:List Nat}(h:Pas No w p T ah b o n aj bs k)(ap:∀j,bs.getD j 0<256)(ar:k<=3000)(E I H:Nat)(ac:Hi bs k=(E,I,H)):
 ∃(a:Option Addr) (c F:Nat),(plc bs k (Hi bs k)).length=F/\(Instr.lookup 290 (.map (some T)) (.agg #[.int .u8 (E:Int),.int .u8 (I:Int),.int .u8 (H:Int)]) false).run Tryz.prog w=.ok (.slice a F c) w/\F<=k/\
  ∀j,j<F->∃g,a=some ⟨g,0,none⟩/\w.cell? ⟨g,j,none⟩=some (.int .i64 (((plc bs k (Hi bs k)).getD j 0:Nat):Int)):=by
 have ok:=X4 ap k;obtain⟨D,ag,ak⟩:=h.grp;obtain⟨v,M,af,ao,O,aa,_⟩:=ag.at Z81 Tryz.underlying290 (AP w) (by unfold maxLen;omega) (Pg ok);have Z:M=(plc bs k (Hi bs k)).map fun x:Nat=>(x:Int):=Uv O (by rw[<-ao];exact(ak _ ok).symm)
 have al:M.length=(plc bs k (Hi bs k)).length:=by rw[Z];simp
 have U:(Instr.lookup 290 (.map (some T)) (.agg #[.int .u8 (E:Int),.int .u8 (I:Int),.int .u8 (H:Int)]) false).run Tryz.prog w=.ok v w:=by
  rw[show (Value.agg #[.int .u8 (E:Int),.int .u8 (I:Int),.int .u8 (H:Int)])=kv (Hi bs k) by rw[ac];rfl];exact af
 rcases O.1.2 with ⟨G,ae⟩|⟨g,c,cur,G,ae⟩
 . refine⟨none,0,0,by omega,by rw[U,G],VH _,fun j ai=>by omega⟩
 . refine⟨some ⟨g,0,none⟩,c,M.length,al.symm,by rw[U,G],aa,fun j ai=>⟨g,rfl, ?_⟩⟩;have Y:=O.1;rw[G]at Y;rw[Y.cellAt j (by omega)];have:j<(plc bs k (Hi bs k)).length:=by omega
   simp[Z,List.getD,this]
theorem NT {bs:List Nat}{k:Nat}(E:mst bs.length k<3):lng bs k=(0,0):=
 CD (fun d F G=>XO (Rm _ _ _ _) E)
theorem Rj (No:Nat->Prop)(B p O M b o n F ac k:Nat)(bs:List Nat)(w:World)(G:Geo No B p O M b bs)(ak:bs.length=n)(b0:n<=F)(aj:Pas No w p O M b o n F bs ac)(bk:ac<=k)(cz:k<=n)(bh:∀g,w.heap.size<=g->¬No g)(T aa:Nat)(a7:Hid (lng bs k=(T,aa))):
 Calls Tryz.prog 207 #[.pointer (some ⟨p,0,none⟩),.int .i64 (k:Int)] w fun e w'=>e=.returned (.tuple #[.int .i64 (T:Int),.int .i64 (aa:Int)])/\(∃a2,a2<=k/\Pas No w' p O M b o n F bs a2)/\Below B w w'/\Kp No w w':=by
 have ar:=Ab G;have a9:=Ab aj;have bv:=Ab bh;have U:=Ab ak;have hn:=G.len;have c0:=aj.pst.cell0;clear G aj bh;go_enter Tryz.func207,Tryz.ntmps207
 by_cases a8:mst n k<3
 . obtain⟨m,hm⟩:∃m,m=mst n k:=⟨_,rfl⟩
   have a1:(if (n:Int)-(k:Int)<258 then (n:Int)-(k:Int)else 258)=(m:Int):=by rw[hm];unfold mst;split<;>omega
   have ap:m<3:=by omega
   have ay:=Aa a7;rw[NT (by rw[ak];exact a8)]at ay;obtain⟨rfl,rfl⟩:0=T/\0=aa:=by simpa using ay
   go_wp2;go_ret2;exact⟨rfl,⟨ac,bk,Aa a9⟩,Below.refl _ _,Kp.refl _ _⟩
 . obtain⟨m,hm⟩:∃m,m=mst n k:=⟨_,rfl⟩
   have a1:(if (n:Int)-(k:Int)<258 then (n:Int)-(k:Int)else 258)=(m:Int):=by rw[hm];unfold mst;split<;>omega
   have ap:3<=m:=by omega
   have cd:k+m<=n:=by rw[hm];unfold mst;omega
   have c6:m<=258:=by rw[hm];unfold mst;omega
   have ae:=Ab hm;clear hm a8;go_wp2_with fail
   refine(PW No B p O M b o n F ac k bs w (Aa ar) ak b0 (Aa a9) bk (by omega) (Aa bv)).mono ?_;rintro e Z ⟨rfl,I,a6,a3⟩;have al:=Ab I;have av:=Ab a6;have bj:=Ab a3;have d0:=I.pst.cell0;have cn:=I.pst.cell1;have bm:=I.row k (by omega);have b1:=I.row (k+1) (by omega);have b2:=I.row (k+2) (by omega);rw[<-WT]at b1 b2;clear I a6 a3 c0;generalize aw:bs.getD k 0=ax at bm;generalize az:bs.getD (k+1) 0=x1 at b1;generalize bi:bs.getD (k+2) 0=x2 at b2;have bu:Hid (Hi bs k=(ax,x1,x2)):=by rw[<-aw,<-az,<-bi];rfl
   clear aw az bi;have c8:¬F=k:=by omega
   have ce:∀(a:Option Addr) (c:Nat) (W:World),(Instr.arrayAt 313 (.slice a (n-k) c)).run Tryz.prog W=.ok (.pointer a) W:=fun a c W=>run_arrayAt _ _ _ _ _ _ _ Tryz.underlying313 (by omega)
   have a4:Hid (Pas No Z.drew p O M b o n F bs k):=(Aa al).drewN 1;obtain⟨a,c,L,a5,bw,cu,bf⟩:=(Aa a4).row3 (Aa ar).byte (by omega) ax x1 x2 (Aa bu);have Y:=Ab a5;have cj:=Ab bf;clear a5 bf;go_wp2;go_big_region
   clear bm b1 b2 ce bw cn a1;have cg:=Ab (Aa ar).byte;have b5:Hid (Han bs k (plc bs k (Hi bs k)) (L-L) 0 0):=.inl ⟨by omega,rfl,rfl⟩
   have bc:Hid (∀j,j<(plc bs k (Hi bs k)).length->3<=lcp bs ((plc bs k (Hi bs k)).getD j 0) k (mst bs.length k)):=by
    intro j ah;refine(CI ?_).1 (MK bs k (Hi bs k) ah).2;rw[Aa U,<-Aa ae];exact ap
   have ci:=Ab (fun j (ah:j<L)=>(MK bs k (Hi bs k) (j:=j) (by rw[Aa Y];exact ah)).1);have cp:Hid (∀q x y,Han bs k (plc bs k (Hi bs k)) q x y->(q=L\/x=m)->lng bs k=(x,y)):=fun q x y h bz=>h.lng (by rw[Aa U,<-Aa ae];exact ap) (by rw[Aa U,<-Aa ae,Aa Y];exact bz)
   have bg:Hid (mst bs.length k=m):=by rw[Aa U];exact(Aa ae).symm
   have bb:=(Aa a4).row;have cq:=Ab bb;clear bb;generalize plc bs k (Hi bs k)=E at*;go_wp2;go_loopw [4,5,8] (fun cm b7 ai wr=>∃t x y q:Nat,t<=L/\ai=.int .i64 ((t:Int)-1)/\cm=.int .i64 (x:Int)/\b7=.int .i64 (y:Int)/\Han bs k E (L-t) x y/\wr=Z.drewN q) (fun _ _ ai _=>((intOf ai)+1).toNat)
   case atStart=>exact⟨L,0,0,1,VB _,rfl,rfl,rfl,Aa b5,rfl⟩
   case round=>
    obtain⟨t,x,y,q,cv,rfl,rfl,rfl,ag,rfl⟩:=hrel;have au:=Ab ag;have c7:x<=m:=by have:=ag.le.1;rw[Aa bg]at this;exact this
    clear ag
    by_cases b9:0<t/\x<m
    . obtain⟨b8,co⟩:=b9;obtain⟨t,rfl⟩:∃ao,t=ao+1:=⟨t-1,by omega⟩
      obtain⟨g,rfl,hc⟩:=Aa cj t (by omega);have cw:Z.cell? ⟨g,t,none⟩=some (.int .i64 ((E.getD t 0:Nat):Int)):=hc;have b3:=Aa ci t (by omega);have ez:E.length-1-(L-(t+1))=t:=by rw[Aa Y];omega
      obtain⟨r,H⟩:∃r,r=if bs.getD (E.getD t 0+x) 0=bs.getD (k+x) 0 then lcp bs (E.getD t 0) k m else 0:=⟨_,rfl⟩
      have ck:=Ab (NO p b o n F (E.getD t 0) k x m bs (Z.drewN q) d0 (Aa cq) (Aa U) (by omega) (Aa cg) b3 co cd r H)
      have bn:Hid ((r<=x->Han bs k E (L-t) x y)/\(x<r->Han bs k E (L-t) r (k-E.getD t 0))):=by
       have bo:=(Aa au).more (by rw[Aa Y];omega) (Aa bc);have ba:=(Aa au).less (by rw[Aa Y];omega) (Aa bc);rw[ez,show L-(t+1)+1=L-t by omega,Aa bg]at bo ba
       constructor
       . intro h;refine ba ?_
         by_cases e:bs.getD (E.getD t 0+x) 0=bs.getD (k+x) 0
         . rw[if_pos e]at H;omega
         . exact G0 e
       . intro h
         have e:bs.getD (E.getD t 0+x) 0=bs.getD (k+x) 0:=by
          by_cases e:bs.getD (E.getD t 0+x) 0=bs.getD (k+x) 0
          . exact e
          . rw[if_neg e]at H;omega
         rw[if_pos e]at H;rw[H]at h ⊢;exact bo h
      have cy:r<=m:=by
       rw[H];split
       . exact Rm _ _ _ _
       . omega
      clear H hc ez;generalize E.getD t 0=z at*;go_wp2_with fail
      refine(Aa ck).mono ?_;rintro e ct ⟨rfl,c5,rfl⟩
      by_cases bq:x<r
      . have af:=Ab ((Aa bn).2 bq);go_wp2;go_quiet (fail)
        go_wp2;go_roundw
        case rel=>exact⟨t,r,k-z,_,by omega,by go_num,rfl,by go_num,Aa af,rfl⟩
        case measure=>(simp[intOf];try omega)
      . have af:=Ab ((Aa bn).1 (by omega));go_wp2;go_roundw
        case rel=>exact⟨t,x,y,_,by omega,by go_num,rfl,rfl,Aa af,rfl⟩
        case measure=>(simp[intOf];try omega)
    . have bd:lng bs k=(x,y):=Aa cp (L-t) x y (Aa au) (by omega);rw[Aa a7]at bd;obtain⟨rfl,rfl⟩:T=x/\aa=y:=by simpa using bd
      by_cases b8:0<t
      . have b4:T=m:=by omega
        obtain⟨t,rfl⟩:∃ao,t=ao+1:=⟨t-1,by omega⟩
        subst b4;go_wp2;go_ret2;exact⟨rfl,⟨k,VB _,(Aa al).drewN q⟩,Ae (Aa av) q,Aa bj⟩
      . obtain rfl:t=0:=by omega
        go_wp2;go_ret2;exact⟨rfl,⟨k,VB _,(Aa al).drewN q⟩,Ae (Aa av) q,Aa bj⟩
def tcs (t:Tk):List Value:= [.int .u8 (t.1:Int),.int .i64 t.2.1,.int .i64 t.2.2]
def tvs (l:List Tk):List Value:=l.flatMap tcs
def Toks (w:World)(b o:Nat)(l:List Tk):Prop:=∀j,j<l.length->w.cell? ⟨b,o+j*3,none⟩=some (.int .u8 ((l.getD j (0,0,0)).1:Int))/\w.cell? ⟨b,o+j*3+1,none⟩=some (.int .i64 (l.getD j (0,0,0)).2.1)/\w.cell? ⟨b,o+j*3+2,none⟩=some (.int .i64 (l.getD j (0,0,0)).2.2)
def TokIn (w:World)(a:Option Addr)(l:List Tk):Prop:=l= []\/∃b o,a=some ⟨b,o,none⟩/\b<w.heap.size/\Toks w b o l
theorem Ui (l:List Tk):(tvs l).length=l.length*3:=by
 induction l with
 |nil=>rfl
 |cons t r ih=>
  have:tvs (t::r)=tcs t++tvs r:=rfl
  rw[this,VE,ih,VJ];show 3+r.length*3=_
  omega
theorem Uj (l r:List Tk):tvs (l++r)=tvs l++tvs r:=by simp[tvs]
theorem Z64 (l:List Tk)(j:Nat)(E:j<l.length):(tvs l)[j*3]? =some (.int .u8 ((l.getD j (0,0,0)).1:Int))/\(tvs l)[j*3+1]? =some (.int .i64 (l.getD j (0,0,0)).2.1)/\(tvs l)[j*3+2]? =some (.int .i64 (l.getD j (0,0,0)).2.2):=by
 induction l generalizing j with
 |nil=>simp at E
 |cons t r ih=>
  have e:tvs (t::r)=tcs t++tvs r:=rfl
  match j with
  |0=>rw[e];exact⟨rfl,rfl,rfl⟩
  |j+1=>
   have G:j<r.length:=by simpa using E
   obtain⟨H,F,I⟩:=ih j G;have hl:(tcs t).length=3:=rfl;refine⟨?_, ?_, ?_⟩
   . rw[e,VX (by rw[hl];omega),hl,show (j+1)*3-3=j*3 by omega,H];rfl
   . rw[e,VX (by rw[hl];omega),hl,show (j+1)*3+1-3=j*3+1 by omega,F];rfl
   . rw[e,VX (by rw[hl];omega),hl,show (j+1)*3+2-3=j*3+2 by omega,I];rfl
theorem TokIn.own {w:World}{B F n M:Nat}{l:List Tk}(E:w.ownsRow B 244 3 (.slice (some ⟨F,0,none⟩) n M) n (tvs l)):TokIn w (some ⟨F,0,none⟩) l:=by
 refine .inr ⟨F,0,rfl,(E.lt F rfl).2, ?_⟩;intro j I;have hn:l.length=n:=by have:=E.1;rw[Ui]at this;omega
 obtain⟨H,G,O⟩:=Z64 l j I;refine⟨?_, ?_, ?_⟩
 . rw[WG,E.cellAt _ (by omega)];simp[List.getD,H]
 . rw[WG,E.cellAt _ (by omega)];simp[List.getD,G]
 . rw[WG,E.cellAt _ (by omega)];simp[List.getD,O]
theorem Toks.below {w w':World}{B b o:Nat}{l:List Tk}(H:Toks w b o l)(E:Below B w w')(F:b<B):Toks w' b o l:=by
 intro j M;obtain⟨I,G,O⟩:=H j M;exact⟨(E.cell (p:=⟨b,_,none⟩) F).trans I,(E.cell (p:=⟨b,_,none⟩) F).trans G,(E.cell (p:=⟨b,_,none⟩) F).trans O⟩
theorem TokIn.below {w w':World}{B:Nat}{a:Option Addr}{l:List Tk}(E:TokIn w a l)(F:Below B w w')(M:w.heap.size<=B):TokIn w' a l:=by
 rcases E with E|⟨b,o,H,G,I⟩
 . exact .inl E
 . exact .inr ⟨b,o,H,VG G F.size,I.below F (by omega)⟩
theorem TokIn.alloc {w:World}{a:Option Addr}{l:List Tk}(E:TokIn w a l)(x:Obj):TokIn (w.alloc x) a l:=
 E.below ((Below.refl w.heap.size w).alloc (VB _) x) (VB _)
theorem CO:(Tryz.prog.info? 244).map (fun i=>(i.zero,i.size,i.bytes))=some (some (.agg #[.int .u8 0,.int .i64 0,.int .i64 0]),3,24):=by kernel_rfl
theorem AE (b:Nat)(s f:Int)(w:World)(m:Nat)(E:max s 1=(m:Int)):
 Calls Tryz.prog 179 #[.agg #[.int .u8 (b:Int),.int .i64 s,.int .i64 f]] w fun e w'=>e=.returned (.int .i64 (m:Int))/\w.grownBy w' none:=by
 have G:(if 1<s then s else 1)=(m:Int):=by split<;>omega
 have F:(if s<1 then 1 else s)=(m:Int):=by split<;>omega
 go_enter Tryz.func179,Tryz.ntmps179
 go_wp2;go_ret;exact⟨rfl,World.grownBy_alloc w _ none⟩
theorem Rf (a:Option Addr)(n E:Nat)(w:World):
 Calls Tryz.prog 177 #[.slice a n E] w fun e w'=>e=.returned (.pointer (some ⟨w.heap.size+1,0,none⟩))/\w'=(w.alloc (.map #[] 0)).alloc (.cells #[.slice a n E,.map (some w.heap.size),.int .i64 0] 292):=by
 have F:= @run_makeMap Tryz.prog;go_enter Tryz.func177,Tryz.ntmps177
 go_wp2;go_ret;exact⟨rfl,rfl⟩
structure Snk (J:(Nat->Prop)->List It->World->Prop)(B ks kf kr:Nat)(cs cf br:Array Value)(all:List It):Prop where
 es:∀(args:Array Value) (w:World),(callFunc ks args).run Tryz.prog w=.ok (.enter ks args) w
 ef:∀(args:Array Value) (w:World),(callFunc kf args).run Tryz.prog w=.ok (.enter kf args) w
 er:∀(args:Array Value) (w:World),(callFunc kr args).run Tryz.prog w=.ok (.enter kr args) w
 grow:∀ {No No':Nat->Prop} {is:List It} {W W1:World},J No is W->Below W.heap.size W W1->(∀g,No' g->No g\/W.heap.size<=g)->J No' is W1
 sym:∀ {No:Nat->Prop} {is R:List It} {k:Nat} {W:World},is++It.sym k::R=all->J No is W->(∀g,W.heap.size<=g->¬No g)->Calls Tryz.prog ks (#[.int .i64 (k:Int)]++cs) W fun e W'=>e=.returned (.tuple #[])/\J No (is++ [It.sym k]) W'/\Below B W W'/\Kp No W W'
 far:∀ {No:Nat->Prop} {is R:List It} {k:Nat} {W:World},is++It.far k::R=all->J No is W->(∀g,W.heap.size<=g->¬No g)->Calls Tryz.prog kf (#[.int .i64 (k:Int)]++cf) W fun e W'=>e=.returned (.tuple #[])/\J No (is++ [It.far k]) W'/\Below B W W'/\Kp No W W'
 rest:∀ {No:Nat->Prop} {is R:List It} {n s:Nat} {W:World},is++It.rest n s::R=all->J No is W->(∀g,W.heap.size<=g->¬No g)->Calls Tryz.prog kr (br++ #[.int .i64 (n:Int),.int .i64 (s:Int)]) W fun e W'=>e=.returned (.tuple #[])/\J No (is++ [It.rest n s]) W'/\Below B W W'/\Kp No W W'
theorem Kp.cell {No:Nat->Prop}{w w':World}{E j:Nat}{v:Value}(F:Kp No w w')(H:E<w.heap.size)(I:No E)(G:w.cell? ⟨E,j,none⟩=some v):w'.cell? ⟨E,j,none⟩=some v:=by
 rw[World.cell?_of_block (w:=w) (a:=⟨E,j,none⟩) (F E H I)];exact G
theorem Z3d {w w':World}{a:Option Addr}{l:List Tk}{k:Nat}(T:TokIn w a l)(Y:∀b o,a=some ⟨b,o,none⟩->b<w.heap.size->w'.heap[b]? =w.heap[b]?)(F:k<l.length){I:Nat}{ts G:Int}(U:l.getD k (0,0,0)=(I,ts,G)):
 ∃b o,a=some ⟨b,o,none⟩/\b<w.heap.size/\w'.cell? ⟨b,o+k*3,none⟩=some (.int .u8 (I:Int))/\w'.cell? ⟨b,o+k*3+1,none⟩=some (.int .i64 ts)/\w'.cell? ⟨b,o+k*3+2,none⟩=some (.int .i64 G):=by
 rcases T with rfl|⟨b,o,rfl,hb,O⟩
 . simp at F
 . obtain⟨H,E,M⟩:=O k F;rw[U]at H E M;have e:=Y b o rfl hb;exact⟨b,o,rfl,hb,(World.cell?_of_block (w:=w) (a:=⟨b,_,none⟩) e).trans H,(World.cell?_of_block (w:=w) (a:=⟨b,_,none⟩) e).trans E,(World.cell?_of_block (w:=w) (a:=⟨b,_,none⟩) e).trans M⟩
theorem OD (ts:List Tk)(k:Nat)(E:k<ts.length):Tp (ts.take (k+1))=Tp (ts.take k)++GF (ts.getD k (0,0,0)):=by
 have:ts.take (k+1)=ts.take k++ [ts.getD k (0,0,0)]:=by
  rw[XM];simp[List.getD,E]
 rw[this];simp[Tp]
theorem Y1 (ts:List Tk)(k:Nat)(G:k<ts.length):itsOf ts=Tp (ts.take k)++(GF (ts.getD k (0,0,0))++(Tp (ts.drop (k+1))++ [.sym 256])):=by
 have e:ts=ts.take k++(ts.getD k (0,0,0)::ts.drop (k+1)):=by rw[<-Z58 G,YW]
 have F:Tp ts=Tp (ts.take k)++(GF (ts.getD k (0,0,0))++Tp (ts.drop (k+1))):=by
  have E:=congrArg Tp e;rw[E];simp[Tp]
 unfold itsOf;rw[F];simp
theorem BU (J:(Nat->Prop)->List It->World->Prop)(No:Nat->Prop)(B ks aa U:Nat)(aj Y T:Array Value)(a:Option Addr)(ak db:Nat)(ts:List Tk)(w:World)(hK:Snk J B ks aa U aj Y T (itsOf ts))(b0:ts.length=ak)(em:ak<=3000)(bw:∀t∈ts,VT t)(bo:TokIn w a ts)(bv:∀b o,a=some ⟨b,o,none⟩->ts≠ []->No b)(d9:B<=w.heap.size)(ct:J No [] w)(c5:∀g,w.heap.size<=g->¬No g):
 Calls Tryz.prog 181 #[.slice a ak db,.agg #[.func (.func ks) #[] aj,.func (.func aa) #[] Y,.func (.func U) T #[]]] w fun e w'=>e=.returned (.tuple #[])/\J No (itsOf ts) w'/\Below B w w'/\Kp No w w':=by
 have es:=hK.es;have ef:=hK.ef;have er:=hK.er;have dz:=Ab ct;have eh:=Ab bo;have dh:=Ab bv;have H:=Ab hK;have bz:=Ab b0;have d6:=Ab c5;have dl:=Ab bw;clear ct bo hK bv b0 c5 bw;obtain⟨E,b3⟩:∃E:Nat->Prop,E=fun g=>No g\/g=w.heap.size:=⟨_,rfl⟩
 have av:=Ab b3;clear b3;go_enter Tryz.func181,Tryz.ntmps181
 go_wp2;go_loopw [11] (fun i wr=>∃k:Nat,k<=ak/\i=.int .i64 k/\Hid (J E (Tp (ts.take k)) wr/\Below B w wr/\Kp E (w.alloc (.cells #[.func (.func ks) #[] aj,.func (.func aa) #[] Y,.func (.func U) T #[]] 253)) wr/\w.heap.size<wr.heap.size)) (fun i _=>ak-(intOf i).toNat)
 case atStart=>
  refine⟨0,VH _,rfl,Ab ⟨?_,(Below.refl B w).alloc d9 _,Kp.refl _ _,by simp⟩⟩
  have:=(Aa H).grow (No':=E) (Aa dz) ((Below.refl w.heap.size w).alloc (VB _) (.cells #[.func (.func ks) #[] aj,.func (.func aa) #[] Y,.func (.func U) T #[]] 253)) (fun g e=>by
   rw[Aa av]at e
   rcases e with e|e
   . exact .inl e
   . exact .inr (by omega))
  simpa[Tp]using this
 case round=>
  obtain⟨k,eo,rfl,bh⟩:=hrel;obtain⟨ao,ay,af,dp⟩:=Aa bh
  have a3:∀g,wr.heap.size<=g->¬E g:=by
   intro g Z e;rw[Aa av]at e
   rcases e with e|e
   . exact Aa d6 g (by omega) e
   . omega
  have ah:E w.heap.size:=by rw[Aa av];exact .inr rfl
  have ce:wr.cell? ⟨w.heap.size,0,none⟩=some (.func (.func ks) #[] aj):=af.cell (by simp) ah (by simp);have x1:wr.cell? ⟨w.heap.size,1,none⟩=some (.func (.func aa) #[] Y):=af.cell (by simp) ah (by simp);have x2:wr.cell? ⟨w.heap.size,2,none⟩=some (.func (.func U) T #[]):=af.cell (by simp) ah (by simp);have et:=Ab ah
  by_cases dr:k<ak
  . obtain⟨ap,aw,au,a5⟩:∃ap aw au,ts.getD k (0,0,0)=(ap,aw,au):=⟨_,_,_,rfl⟩
    have ae:k<ts.length:=by rw[Aa bz];exact dr
    obtain⟨b,o,ea,eb,c1,c2,ds⟩:=Z3d (w':=wr) (Aa eh) (fun b o e hb=>by
     have dv:=af b (by simp;omega) (by rw[Aa av];exact .inl (Aa dh b o e (fun h=>by rw[h]at ae;simp at ae)));rw[dv];exact Below.heap_alloc w _ b hb) ae a5
    have cn:=Aa dl (ts.getD k (0,0,0)) (by
     have:ts.getD k (0,0,0)=ts[k]:=by simp[List.getD,ae]
     rw[this];exact WK ae)
    rw[a5]at cn;have ax:=Y1 ts k ae;have a4:=OD ts k ae;rw[a5]at ax a4;obtain⟨R,cm⟩:=exq (Tp (ts.drop (k+1))++ [It.sym 256]);rw[cm]at ax;obtain⟨ar,cy⟩:=exq (Tp (ts.take k));rw[cy]at ax a4 ao;obtain⟨G,al⟩:∃G:Nat->Prop,G=fun g=>E g\/g=wr.heap.size:=⟨_,rfl⟩
    have ck:∀X:Obj,J G ar (wr.alloc X):=fun X=>(Aa H).grow ao ((Below.refl wr.heap.size wr).alloc (VB _) X) (fun g e=>by
     rw[al]at e
     rcases e with e|e
     . exact .inl e
     . exact .inr (by omega))
    have bq:∀W:World,wr.heap.size<W.heap.size->∀g,W.heap.size<=g->¬G g:=by
     intro W c6 g Z e;rw[al]at e
     rcases e with e|e
     . exact a3 g (by omega) e
     . omega
    have cv:∀(is:List It) (W:World),J G is W->J E is W:=fun _ _ c6=>(Aa H).grow c6 (Below.refl _ _) (fun g e=>.inl (by rw[al];exact .inl e))
    have cp:∀(X:Obj) (W:World),Below B (wr.alloc X) W->Kp G (wr.alloc X) W->Below B w W/\Kp E (w.alloc (.cells #[.func (.func ks) #[] aj,.func (.func aa) #[] Y,.func (.func U) T #[]] 253)) W/\w.heap.size<W.heap.size:=by
     intro X W c8 df;have ei:=c8.size;simp only[World.size_alloc]at ei;refine⟨(ay.alloc (by have:=ay.size;omega) X).trans c8, ?_,by omega⟩;refine(Kp.trans af ?_ (by simp;omega));intro g Z hn;rw[df g (by simp;omega) (by rw[al];exact .inl hn)];exact Below.heap_alloc wr X g Z
    have cj:G wr.heap.size:=by rw[al];exact .inr rfl
    have cq:G w.heap.size:=by rw[al];exact .inl ah
    have ai:=Ab ax;have a6:=Ab a4;have cz:=Ab ck;have az:=Ab bq;have bk:=Ab cv;have b4:=Ab cp;have bu:=Ab cj;have a1:=Ab cq;subst ea;have eu:b<wr.heap.size:=by omega
    clear bh ao ay af a3 ah a5 ax a4 cm cy al ck bq cv cp cj cq ae eb;obtain⟨de,co⟩:=cn;simp only at de co
    by_cases bi:aw=0
    . subst bi;have hit:GF (ap,0,au)= [.sym ap]:=by unfold GF;rw[if_pos rfl]
      rw[hit]at ai a6;have ek:= @World.size_alloc;go_wp2_with fail
      refine((Aa H).sym (No:=G) (is:=ar) (R:=R) (k:=ap) (Aa ai).symm (Aa cz _) (Aa az _ (by simp))).mono ?_;rintro e I ⟨rfl,ag,ac,O⟩;have bj:=Ab (Aa bk _ _ ag);have dt:=Ab (Aa b4 _ _ ac O);clear ag ac O;go_wp2;go_roundw
      case rel=>exact⟨k+1,by omega,by go_num,Ab ⟨by rw[Aa a6];exact Aa bj,Aa dt⟩⟩
      case measure=>simp[intOf];omega
    . have ew:3<=aw/\aw<=258/\1<=au/\au<=3000:=by rcases co with h|h;exact absurd h bi;exact h
      obtain⟨n,rfl⟩:=WF (show 0<=aw by omega);obtain⟨d,rfl⟩:=WF (show 0<=au by omega);have ej:((n:Int)==0)=false:=by rw[beq_eq_false_iff_ne];omega
      have hit:GF (ap,(n:Int),(d:Int))= [.sym (De n).1,.rest (De n).2.1 (De n).2.2,.far (Mn d).1,.rest (Mn d).2.1 (Mn d).2.2]:=by unfold GF;rw[if_neg bi];rfl
      rw[hit]at ai a6;have di:=Ab (fun W=>Y8 n W (by omega) (by omega));have dc:=Ab (fun W=>GN d W (by omega) (by omega));generalize (De n).1=M at*;generalize (De n).2.1=bc at*;generalize (De n).2.2=a8 at*;generalize (Mn d).1=F at*;generalize (Mn d).2.1=a7 at*;generalize (Mn d).2.2=ba at*;go_wp2_with fail
      refine(Aa di _).mono ?_;rintro e I ⟨rfl,q,rfl⟩;go_wp2_with fail
      refine((Aa H).sym (No:=G) (is:=ar) (k:=M) (R:=_) (by rw[Aa ai];rfl) ((Aa H).grow (Aa cz _) (Ae (Below.refl _ _) q) (fun g e=>.inl e)) (Aa az _ (by simp))).mono ?_;rintro e I ⟨rfl,ag,ac,O⟩;have dm:wr.heap.size<I.heap.size:=by have:=ac.size;simp at this;omega
      have c7:I.cell? ⟨w.heap.size,1,none⟩=some (.func (.func aa) #[] Y):=O.cell (by simp;omega) (Aa a1) (by simpa using by go_simp);have y1:I.cell? ⟨w.heap.size,2,none⟩=some (.func (.func U) T #[]):=O.cell (by simp;omega) (Aa a1) (by simpa using by go_simp);have y2:I.cell? ⟨wr.heap.size,2,none⟩=some (.int .i64 (d:Int)):=O.cell (by simp) (Aa bu) (by simp);have b9:=Ab ac;have du:=Ab O;have bj:=Ab ag;clear ac O ag ce x1 x2 c1 c2 ds;go_wp2_with fail
      refine((Aa H).rest (No:=G) (is:=ar++ [.sym M]) (n:=bc) (s:=a8) (R:=.far F::.rest a7 ba::R) (by rw[Aa ai];simp) (Aa bj) (Aa az _ dm)).mono ?_;rintro e w3 ⟨rfl,bn,bg,a2⟩;have bb:wr.heap.size<w3.heap.size:=by have:=bg.size;omega
      have dj:w3.cell? ⟨w.heap.size,1,none⟩=some (.func (.func aa) #[] Y):=a2.cell (by omega) (Aa a1) c7;have bm:w3.cell? ⟨w.heap.size,2,none⟩=some (.func (.func U) T #[]):=a2.cell (by omega) (Aa a1) y1;have da:w3.cell? ⟨wr.heap.size,2,none⟩=some (.int .i64 (d:Int)):=a2.cell (by omega) (Aa bu) y2;have cg:=Ab bg;have ee:=Ab a2;have eg:=Ab bn;clear bg a2 bn c7 y1 y2;go_wp2_with fail
      refine(Aa dc _).mono ?_;rintro e ep ⟨rfl,b5,rfl⟩;go_wp2_with fail
      refine((Aa H).far (No:=G) (is:=ar++ [.sym M]++ [.rest bc a8]) (k:=F) (R:=.rest a7 ba::R) (by rw[Aa ai];simp) ((Aa H).grow (Aa eg) (Ae (Below.refl _ _) b5) (fun g e=>.inl e)) (Aa az _ bb)).mono ?_;rintro e bd ⟨rfl,b7,a9,bf⟩;have dd:wr.heap.size<bd.heap.size:=by have:=a9.size;exact VG bb this
      have d5:bd.cell? ⟨w.heap.size,2,none⟩=some (.func (.func U) T #[]):=bf.cell (Nat.lt_trans dp bb) (Aa a1) bm;have cw:=Ab a9;have dx:=Ab bf;have dn:=Ab b7;clear a9 bf b7 dj bm da;go_wp2_with fail
      refine((Aa H).rest (No:=G) (is:=ar++ [.sym M]++ [.rest bc a8]++ [.far F]) (n:=a7) (s:=ba) (R:=R) (by rw[Aa ai];simp) (Aa dn) (Aa az _ dd)).mono ?_;rintro e w6 ⟨rfl,ci,b8,cd⟩;have dq:=Ab (Aa bk _ _ ci);have ed:=Ab (Aa b4 _ _ ((Ae (Below.refl B _) q).trans ((Aa b9).trans ((Aa cg).trans ((Ae (Below.refl B _) b5).trans ((Aa cw).trans b8))))) (Kp.trans (b:=I) (fun g Z hn=>Aa du g Z hn) (Kp.trans (b:=w3) (Aa ee) (Kp.trans (b:=bd) (fun g Z hn=>Aa dx g Z hn) cd (Aa cw).size) (Aa cg).size) (by have:=(Aa b9).size;exact this)));clear ci b8 cd d5;go_wp2;go_roundw
      case rel=>exact⟨k+1,by omega,by go_num,Ab ⟨by rw[Aa a6];simpa using Aa dq,Aa ed⟩⟩
      case measure=>simp[intOf];omega
  . obtain rfl:k=ak:=by omega
    have cu:=Ab (show J E (Tp ts) wr/\Below B w wr/\Kp E (w.alloc (.cells #[.func (.func ks) #[] aj,.func (.func aa) #[] Y,.func (.func U) T #[]] 253)) wr from ⟨by rw[VV (by rw[Aa bz];exact VB _)]at ao;exact ao,ay,af⟩);have d8:=Ab a3;clear bh ao ay af a3 ah;go_wp2_with fail
    refine((Aa H).sym (No:=E) (is:=Tp ts) (k:=256) (R:= []) rfl (Aa cu).1 (Aa d8)).mono ?_;rintro e I ⟨rfl,ag,ac,O⟩
    have dw:Hid (J No (itsOf ts) I/\Below B w I/\Kp No w I):=by
     obtain⟨en,dy,d7⟩:=Aa cu;refine⟨(Aa H).grow ag (Below.refl _ _) (fun g e=>.inl (by rw[Aa av];exact .inl e)),dy.trans ac, ?_⟩;intro g Z hn;have c9:E g:=by rw[Aa av];exact .inl hn
     exact(O g (by omega) c9).trans ((d7 g (by simp;omega) c9).trans (Below.heap_alloc w _ g Z))
    clear ag ac O ce x1 x2;go_wp2;go_end0
    exact⟨rfl,Aa dw⟩
def B6 (s:Int):Bool:=decide (0<=s/\s<=16)
def GW (n s:Int):Bool:=decide (0<=s/\s<=16/\0<=n/\n<2^s.toNat)
theorem FC {s:Int}(E:B6 s=true):0<=s/\s<=16:=of_decide_eq_true E
theorem S6 {s:Int}(E:B6 s=false):¬(0<=s/\s<=16):=of_decide_eq_false E
theorem Nl (s:Int)(w:World):
 Calls Tryz.prog 274 #[.int .i64 s] w fun e w'=>e=.returned (.bool (B6 s))/\w'=w:=by
 by_cases F:0<=s
 . by_cases G:s<=16
   . have E:B6 s=true:=decide_eq_true ⟨F,G⟩;rw[E];clear E;go_enter Tryz.func274,Tryz.ntmps274
     go_wp2;go_ret;exact⟨by simp,rfl⟩
   . have E:B6 s=false:=decide_eq_false (by omega);rw[E];clear E;go_enter Tryz.func274,Tryz.ntmps274
     go_wp2;go_ret;exact⟨by simp,rfl⟩
 . have E:B6 s=false:=decide_eq_false (by omega);rw[E];clear E;go_enter Tryz.func274,Tryz.ntmps274
   go_wp2;go_ret;exact⟨rfl,rfl⟩
theorem SP {s:Int}(F:s<=16):wrap64 (2^s.toNat)=2^s.toNat:=by
 have E:s.toNat<=16:=by omega
 have G:(2:Int)^s.toNat<=2^16:=by
  have:=VO (n:=2) (by decide) E
  exact_mod_cast this
 have H:(0:Int)<=2^s.toNat:=by
  have:=VH (2^s.toNat)
  exact_mod_cast this
 unfold wrap64;omega
theorem Z1l (n s:Int)(w:World):
 Calls Tryz.prog 256 #[.int .i64 n,.int .i64 s] w fun e w'=>e=.returned (.bool (GW n s))/\w'=w:=by
 by_cases F:B6 s=true
 . obtain⟨I,G⟩:=FC F
   by_cases M:0<=n
   . go_enter Tryz.func256,Tryz.ntmps256
     go_wp2_with (go_at_call 274;refine(Nl _ _).mono ?_;rintro e w' ⟨rfl,rfl⟩)
     go_ret;refine⟨Dq ?_,rfl⟩;rw[SP G];simp[GW,I,G,M]
   . have E:GW n s=false:=decide_eq_false (by omega);rw[E];clear E;go_enter Tryz.func256,Tryz.ntmps256
     go_wp2_with (go_at_call 274;refine(Nl _ _).mono ?_;rintro e w' ⟨rfl,rfl⟩)
     go_ret;exact⟨rfl,rfl⟩
 . have H:B6 s=false:=by simpa using F
   have E:GW n s=false:=decide_eq_false (by have:=S6 H;omega);rw[E];clear E F;go_enter Tryz.func256,Tryz.ntmps256
   go_wp2_with (go_at_call 274;refine(Nl _ _).mono ?_;rintro e w' ⟨rfl,rfl⟩)
   go_ret;exact⟨rfl,rfl⟩
theorem Uk (n:Nat){k:Nat}(E:k<16):Ip n k<32768:=VG (TG n k) (VO (j:=15) (by decide) (by omega))
theorem TE (n s:Nat)(w:World)(I:GW n s=true)(M:s<=16)(T:n<65536):
 Calls Tryz.prog 237 #[.int .i64 n,.int .i64 s] w fun e w'=>e=.returned (.tuple #[.int .i64 (Ip n s:Nat),.int .i64 0])/\w'=w:=by
 go_enter Tryz.func237,Tryz.ntmps237
 go_wp2_with (go_at_call 256;refine(Z1l _ _ _).mono ?_;rintro e w' ⟨rfl,rfl⟩)
 go_loop [6,13] (fun t i=>∃k:Nat,k<=s/\i=.int .i64 k/\t=.int .i64 (Ip n k:Nat)) (fun _ i=>s-(intOf i).toNat)
 case atStart=>exact⟨0,VH _,rfl,rfl⟩
 case round=>
  obtain⟨k,G,rfl,rfl⟩:=hrel
  by_cases O:k<s
  . have hb:=Uk n (k:=k) (by omega);have E:=KR (Ip n k) n k (by omega) (by omega);have H:Hid (Ip n (k+1)=Ip n k*2|||n/2^k%2):=rfl;have F:=Ab E;clear E;generalize Ip n k=m at*;go_wp2;go_round
    case rel=>exact⟨k+1,by omega,by go_num,by rw[H.out,Aa F]⟩
    case measure=>simp[intOf];omega
  . have e:k=s:=by omega
    subst e;go_wp2;go_ret2;exact⟨rfl,rfl⟩
theorem D9:∀n c,Al (Ip c n) n=hb c n:=by
 intro n c;apply XK
 . rw[Ah,Bd]
 . intro i E F;rw[Ah]at E;have G:(Al (Ip c n) n).getD i false=(Al (Ip c n) n)[i]'(by rw[Ah];exact E):=by simp[List.getD,Ah,E]
   rw[<-G,Jb,decide_eq_true E,ZF,Qc,decide_eq_true E,ZF];exact(hb_at n c i E F).symm
where
 hb_at:∀n c i (h:i<n) (F:i<(hb c n).length),(hb c n)[i]=c.testBit (n-1-i)
 |0,c,i,h,_=>by omega
 |n+1,c,i,h,F=>by
  by_cases e:i=n
  . subst e
    have:(hb c (i+1))[i]'F=decide (c%2=1):=by
     have hl:=Bd i (c/2);simp only[hb];rw[List.getElem_append_right (by omega)];simp[hl]
    rw[this];rw[show i+1-1-i=0 by omega,Nat.testBit_zero]
  . have hl:=Bd n (c/2)
    have:(hb c (n+1))[i]'F=(hb (c/2) n)[i]'(by omega):=by
     simp only[hb];rw[List.getElem_append_left (by omega)]
    rw[this,hb_at n (c/2) i (by omega) (by omega),show n+1-1-i=(n-1-i)+1 by omega,Nat.testBit_succ]
structure CIs (Bx:Nat->Prop)(W:World)(gc gl gr rb:Nat)(a:Option Addr)(len cap:Nat)(l:List Int):Prop where
 ex:∃gk b o,a=some ⟨b,o,none⟩/\(b<W.heap.size/\Bx b)/\(gk<W.heap.size/\Bx gk)/\W.cell? ⟨gc,0,none⟩=some (.slice (some ⟨gk,0,none⟩) len len)/\Row .i64 W b o l/\∀j,j<len->W.cell? ⟨gk,j,none⟩=some (.int .i64 (codeN l j:Nat))
 bl:W.cell? ⟨gl,0,none⟩=some (.slice a len cap)
 br:W.cell? ⟨gr,0,none⟩=some (.pointer (some ⟨rb,0,none⟩))
 bx:(gc<W.heap.size/\Bx gc)/\(gl<W.heap.size/\Bx gl)/\(gr<W.heap.size/\Bx gr)
theorem CIs.keep {F:Nat->Prop}{W W':World}{I O U T:Nat}{a:Option Addr}{Z Y:Nat}{l:List Int}(E:CIs F W I O U T a Z Y l)(af:W.heap.size<=W'.heap.size)(ac:∀g,g<W.heap.size->F g->W'.heap[g]? =W.heap[g]?):CIs F W' I O U T a Z Y l:=by
 have hc:∀ {g j:Nat} {v:Value},g<W.heap.size/\F g->W.cell? ⟨g,j,none⟩=some v->W'.cell? ⟨g,j,none⟩=some v:=fun {g j v} G hv=>by
  rw[World.cell?_of_block (w:=W) (a:=⟨g,j,none⟩) (ac g G.1 G.2)];exact hv
 have up:∀ {g:Nat},g<W.heap.size/\F g->g<W'.heap.size/\F g:=fun G=>⟨VG G.1 af,G.2⟩
 obtain⟨gk,b,o,ag,M,aa,ah,ae,ai⟩:=E.ex;exact⟨⟨gk,b,o,ag,up M,up aa,hc E.bx.1 ah,fun j H=>hc M (ae j H),fun j H=>hc aa (ai j H)⟩,hc E.bx.2.1 E.bl,hc E.bx.2.2 E.br,up E.bx.1,up E.bx.2.1,up E.bx.2.2⟩
theorem CIs.more {U M:Nat->Prop}{W:World}{G I T O:Nat}{a:Option Addr}{Z Y:Nat}{l:List Int}(E:CIs U W G I T O a Z Y l)(F:∀g,U g->M g):CIs M W G I T O a Z Y l:=by
 obtain⟨gk,b,o,ae,H,aa,af,ac,ag⟩:=E.ex;exact⟨⟨gk,b,o,ae,⟨H.1,F _ H.2⟩,⟨aa.1,F _ aa.2⟩,af,ac,ag⟩,E.bl,E.br,⟨E.bx.1.1,F _ E.bx.1.2⟩,⟨E.bx.2.1.1,F _ E.bx.2.1.2⟩,⟨E.bx.2.2.1,F _ E.bx.2.2.2⟩⟩
abbrev CV (gc gl gr:Nat):Value:=.func (.func 236) #[] #[.pointer (some ⟨gc,0,none⟩),.pointer (some ⟨gl,0,none⟩),.pointer (some ⟨gr,0,none⟩)]
theorem Yo (ak No:Nat->Prop)(B M aa ac G:Nat)(a:Option Addr)(F ah:Nat)(l:List Int)(q:Nat)(S:List Bool)(W:World)(H:CIs ak W M aa ac G a F ah l)(a1:l.length=F)(E:Good l)(aj:q<F)(au:0<l.getD q 0)(I:RIs No B W G S)(ao:S.length<=300000)(Z:∀g,W.heap.size<=g->¬No g):
 Calls Tryz.prog 236 #[.int .i64 (q:Int),.pointer (some ⟨M,0,none⟩),.pointer (some ⟨aa,0,none⟩),.pointer (some ⟨ac,0,none⟩)] W fun e w'=>e=.returned (.tuple #[])/\Rp No B W G (S++codeT l q) w':=by
 obtain⟨gk,b,o,rfl,hb,a8,c1,ae,O⟩:=H.ex;have c2:=H.bl;have a3:=H.br;have a7:=E.len;obtain⟨m,hm⟩:=WF (E.ok q (by omega)).1;have al:=(E.ok q (by omega)).2;have ar:=ae q (by omega);have a6:=O q aj;rw[hm]at ar al au;have T:=(Ig l E (by omega) hm (by omega)).2.2;have Y:Hid (S++codeT l q=S++Al (Ip (codeN l q) m) m):=Ab (by unfold codeT;rw[hm,WM,D9]);have ap:2^m<=2^15:=VO (by decide) (by omega);have af:(2:Nat)^15=32768:=by decide
 have a4:codeN l q<32768:=by omega
 have U:GW (codeN l q:Nat) (m:Nat)=true:=decide_eq_true ⟨by omega,by omega,by omega,by rw[WM];exact_mod_cast T⟩;have ai:=Ab (fun W=>TE (codeN l q) m W U (by omega) (by omega));have a5:=Uk (codeN l q) (k:=m) (by omega);have ag:=Ab (fun(k x:Nat) (ax:x<65536)=>Dp No B G x m S (W.drewN k) (I.drewN k) ax (by omega) ao Z);have av:=Ab (fun k=>I.drew k);rw[Aa Y];have a9:(q:Int)<(F:Int):=by omega
 clear H ae O T U Y I Z E hm ap af;generalize codeN l q=ay at*;generalize Ip ay m=a2 at*;go_enter Tryz.func236,Tryz.ntmps236
 go_wp2;go_quiet ((go_at_call 237;refine Calls.quiet_of_same (Aa ai _)))
 go_wp2;go_region_with (go_at_call 147;refine(Aa ag _ _ (by omega)).mono ?_;rintro e az ⟨rfl,aw⟩)
 all_goals try go_wp2
 all_goals go_end0
 all_goals trace_state
 all_goals exact⟨rfl,(Aa av _).trans aw⟩
end Go.Proofs.YtleocpdblhbimaaGreatDoor
