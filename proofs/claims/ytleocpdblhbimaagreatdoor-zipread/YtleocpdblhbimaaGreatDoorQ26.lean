import Derived.Test.YtleocpdblhbimaaGreatDoorQ25
import Derived.Deep.DeepCutAuto
import Derived.Laws.AppendOwnNone
set_option linter.unusedSimpArgs false
set_option linter.unusedVariables false
set_option maxRecDepth 100000
set_option maxHeartbeats 4000000
namespace Go.Proofs.YtleocpdblhbimaaGreatDoor
open Go.RowKit
theorem Pk (n:Nat):freeN n<8:=by unfold freeN;omega
theorem J9 (n:Nat):(n+freeN n)%8=0:=by unfold freeN;omega
theorem GT {n:Nat}:freeN (n+1)=(if freeN n=0 then 8 else freeN n)-1:=by unfold freeN;split<;>omega
theorem Dr (S:List Bool):(padB S).length=S.length+freeN S.length:=by simp[padB]
theorem Z3z (bs:List Nat)(n f x k:Nat)(S:List Bool)(ac:bs.length=n)(aa:1<=f)(ae:f<=8)(H:rowB bs n=S++List.replicate f false):
 rowB (bs.set (n-1) (bs.getD (n-1) 0|||x/2^k%2*2^(8-f))) n=S++ [x.testBit k]++List.replicate (f-1) false:=by
 have O:=congrArg List.length H;rw[Af,VE,XD]at O;have hb:∀i,i<8*n->Iq bs i=(S++List.replicate f false).getD i false:=fun i hi=>by rw[<-H,Hf bs n i hi]
 apply XK
 . rw[Af];simp;omega
 . intro i G Z;rw[Af]at G;have M:∀(l:List Bool) (hi:i<l.length),l[i]=l.getD i false:=fun l hi=>by simp[List.getD,hi]
   rw[M,M,Hf _ n i G];unfold Iq;rw[CZ];have F:=hb i G;unfold Iq at F
   by_cases e:i/8=n-1
   . rw[e]at F ⊢;rw[if_pos ⟨rfl,by omega⟩,Nat.testBit_or,Qf,F]
     by_cases E:i<S.length
     . have:¬i%8=8-f:=by omega
       rw[decide_eq_false this,Bool.false_and,Bool.or_false];simp only[List.getD];rw[VS,WN E,WN E]
     . by_cases U:i=S.length
       . subst U;have:S.length%8=8-f:=by omega
         rw[decide_eq_true this,ZF];simp only[List.getD];rw[VX (VB _),XW,VS,VX (VB _),XW];obtain⟨I,rfl⟩:∃I,f=I+1:=⟨f-1,by omega⟩
         simp[List.replicate_succ]
       . have:¬i%8=8-f:=by omega
         rw[decide_eq_false this,Bool.false_and,Bool.or_false];simp only[List.getD];rw[VX (by omega),VX (by simp;omega)]
         have hr:∀(m j:Nat),((List.replicate m false:List Bool)[j]?).getD false=false:=by
          intro m j
          by_cases Y:j<m<;>simp[Y]
         rw[hr,hr]
   . rw[if_neg (fun T=>e T.1.symm),F];have E:i<S.length:=by omega
     simp only[List.getD];rw[VS,WN E,WN E]
theorem Z3p {bs:List Nat}{y:Nat}(F:∀j,bs.getD j 0<256)(G:y<256)(j:Nat):(bs++ [y]).getD j 0<256:=by
 simp only[List.getD]
 by_cases e:j<bs.length
 . rw[WN e];exact F j
 . rw[VX (by omega)]
   by_cases e2:j-bs.length=0
   . rw[e2];simpa using G
   . obtain⟨q,E⟩:∃q,j-bs.length=q+1:=⟨j-bs.length-1,by omega⟩
     rw[E];simp
structure RIs (No:Nat->Prop)(B:Nat)(w:World)(b:Nat)(S:List Bool):Prop where
 base:B<=b
 no:¬No b
 ex:∃ov bs,w.heap[b]? =some (.cells #[ov,.int .i64 (freeN S.length:Nat)] 179 (0,0))/\w.ownsRow (b+1) 5 1 ov bs.length (u8s bs)/\(∀g,ov.ownBlock=some g->¬No g)/\(∀j,bs.getD j 0<256)/\rowB bs bs.length=padB S
structure Rp (No:Nat->Prop)(B:Nat)(w:World)(b:Nat)(S:List Bool)(w':World):Prop where
 is:RIs No B w' b S
 below:Below B w w'
 kp:Kp No w w'
theorem RIs.lt {No:Nat->Prop}{B b:Nat}{w:World}{S:List Bool}(F:RIs No B w b S):b<w.heap.size:=by
 obtain⟨ov,bs,E,_⟩:=F.ex;exact(VK.1 E).1
theorem Rp.refl {No:Nat->Prop}{B b:Nat}{w:World}{S:List Bool}(E:RIs No B w b S):Rp No B w b S w:=⟨E,Below.refl _ _,Kp.refl _ _⟩
theorem Rp.trans {No:Nat->Prop}{B b:Nat}{w F G:World}{S H:List Bool}(E:Rp No B w b S F)(k:Rp No B F b H G):Rp No B w b H G:=⟨k.is,E.below.trans k.below,E.kp.trans k.kp E.below.size⟩
theorem RIs.grow {No No':Nat->Prop}{B b:Nat}{w w':World}{S:List Bool}(E:RIs No B w b S)(H:Below w.heap.size w w')(I:∀g,No' g->No g\/w.heap.size<=g):RIs No' B w' b S:=by
 obtain⟨ov,bs,O,G,U,T,M⟩:=E.ex;refine⟨E.base, ?_,ov,bs,(H.block b E.lt).trans O,Au G (fun g F=>H.block g (G.lt g F).2), ?_,T,M⟩
 . intro e
   rcases I b e with e|e
   . exact E.no e
   . have:=E.lt;omega
 . intro g F e
   rcases I g e with e|e
   . exact U g F e
   . have:=(G.lt g F).2;omega
theorem RIs.drewN {No:Nat->Prop}{B b:Nat}{w:World}{S:List Bool}(E:RIs No B w b S)(q:Nat):RIs No B (w.drewN q) b S:=E.grow (Ae (Below.refl _ _) q) (fun g e=>.inl e)
theorem RIs.drew {No:Nat->Prop}{B b:Nat}{w:World}{S:List Bool}(E:RIs No B w b S)(q:Nat):Rp No B w b S (w.drewN q):=⟨E.drewN q,Ae (Below.refl _ _) q,fun _ _ _=>rfl⟩
def Z8i (No:Nat->Prop)(B:Nat)(w:World)(b:Nat)(S:List Bool)(n f g cap:Nat)(bs:List Nat)(wc:World):Prop:=
 wc.heap[b]? =some (.cells #[.slice (some ⟨g,0,none⟩) n cap,.int .i64 (f:Nat)] 179 (0,0))/\wc.ownsRow (b+1) 5 1 (.slice (some ⟨g,0,none⟩) n cap) n (u8s bs)/\¬No g/\bs.length=n/\(∀j,bs.getD j 0<256)/\rowB bs n=S++List.replicate f false/\1<=f/\f<=8/\(f-1=freeN (S.length+1))/\Below B w wc/\Kp No w wc
theorem Dp (No:Nat->Prop)(B b n s:Nat)(S:List Bool)(w:World)(E:RIs No B w b S)(de:n<65536)(d7:s<=16)(dp:S.length<=300000)(b0:∀g,w.heap.size<=g->¬No g):
 Calls Tryz.prog 147 #[.pointer (some ⟨b,0,none⟩),.int .i64 (n:Int),.int .i64 (s:Int)] w fun e w'=>e=.returned (.tuple #[])/\Rp No B w b (S++Al n s) w':=by
 obtain⟨cw,hi,cg,bg,ci⟩:=info_parts Gz;have H:=Ab E;have c5:=Ab b0;clear E b0;go_enter Tryz.func147,Tryz.ntmps147
 go_wp2;go_loopw [8] (fun i wr=>∃k:Nat,k<=s/\i=.int .i64 k/\Rp No B w b (S++Al n k) wr) (fun i _=>s-(intOf i).toNat)
 case atStart=>exact⟨0,VH _,rfl,by simpa[Al]using Rp.refl (Aa H)⟩
 case round=>
  obtain⟨k,dq,rfl,O⟩:=hrel
  by_cases dn:k<s
  . have ck:(S++Al n k).length=S.length+k:=by rw[VE,Ah]
    have bm:S++Al n (k+1)=S++Al n k++ [n.testBit k]:=by rw[Al,VS]
    have cn:=Ab bm;obtain⟨F,a5⟩:=exq (S++Al n k);rw[a5]at ck O;have dd:=Ab a5;clear a5 bm;obtain⟨ov,bs,I,a4,bo,bq,G⟩:=O.is.ex;have bh:=congrArg List.length G;rw[Af,Dr]at bh;have cd:=Pk F.length;have dc:=O.is.lt;have az:=O.is.base;have au:=O.is.no;have ag:=Ab O;have cj:=O.below.size;have c0:wr.cell? ⟨b,0,none⟩=some ov:=Ac I;have c1:wr.cell? ⟨b,1,none⟩=some (.int .i64 (freeN F.length:Nat)):=Ac I;have f0:=frozen_of_row wr b 0 _ _ I;have f1:=frozen_of_row wr b 1 _ _ I;obtain⟨a,cc,ax⟩:∃a c,ov=.slice a bs.length c:=An a4;have b5:=Ab I;have ao:=Ab a4;have a7:=Ab bo;have bk:=Ab bq;have bv:=Ab G;have a6:=GT (n:=F.length);obtain⟨a2,ba⟩:=exq (freeN F.length);obtain⟨L,bf⟩:=exq (bs.length);rw[ba]at c1 bh cd a6;have av:=Ab ba;have aa:=Ab bf;rw[bf]at ax bh;clear I a4 bo bq G ba bf O;go_upto_if 15 with (fail)
    go_cut [] (fun wc=>∃n2 f g cap Z,Hid (Z8i No B w b F n2 f g cap Z wc)/\n2<=40000)
    case first=>
     by_cases bu:a2=0
     . subst bu;subst ax
       have cu:Hid ((Value.slice a L cc).ownBlock=none\/ (Value.slice a L cc).ownBlock≠some b):=by
        cases T:(Value.slice a L cc).ownBlock with
        |none=>exact .inl rfl
        |some g=>
         refine .inr (fun e=> ?_);have:=((Aa ao).lt g T).1
         cases e
         omega
       have co:Hid (wr.ownsRow (b+1) 5 1 (.slice a L cc) L (u8s bs)):=by
        have:=Aa ao
        rw[Aa aa]at this;exact Ab this
       go_wp2_with (at_builtin;refine wpList_append_own_at _ rfl _ _ 23 rfl (b+1) 5 cw (.int .u8 0) 1 1 Tryz.underlying23 hi cg bg ci rfl (by decide) _ L (u8s bs) rfl ((Aa co).alloc _) ⟨wr.heap.size,0,none⟩ 1 1 [.int .u8 0] rfl rfl (cell_one_new _ _ _) (Bc rfl) (by unfold maxLen;omega) (by omega) (by simp;omega) ?_)
       intro v' w3 a8 aj _ bz;have a9:=a8;obtain⟨U,ai,M,bd,bi⟩:=Ba a8 (by omega)
       have a1:w3.heap[b]? =some (.cells #[.slice a L cc,.int .i64 ((0:Nat):Int)] 179 (0,0)):=by
        rw[aj.block b (by simp;omega) (fun e=>by rcases Aa cu with E|E;rw[E]at e;cases e;exact E e.symm)];have:=Aa b5
        rw[Aa av]at this;exact(Below.heap_alloc wr _ b dc).trans this
       have dl:w3.cell? ⟨b,0,none⟩=some (.slice a L cc):=Ac a1;have dj:=frozen_of_row w3 b 0 _ _ a1
       have aw:(w3.setCell ⟨b,0,none⟩ v').heap[b]? =some (.cells #[v',.int .i64 ((0:Nat):Int)] 179 (0,0)):=by
        rw[heap_setCell_same w3 b 0 _ _ _ a1];rfl
       have dm:(w3.setCell ⟨b,0,none⟩ v').cell? ⟨b,1,none⟩=some (.int .i64 ((0:Nat):Int)):=Ac aw;have dr:=frozen_of_row (w3.setCell ⟨b,0,none⟩ v') b 1 _ _ aw
       have bj:Hid (Z8i No B w b F (L+1) 8 U ai (bs++ [0]) ((w3.setCell ⟨b,0,none⟩ v').setCell ⟨b,1,none⟩ (.int .i64 8))):=by
        have al:=Ad w3 b 0 v';have Y:=Ad (w3.setCell ⟨b,0,none⟩ v') b 1 (.int .i64 8);have cm:=aj.size;simp only[World.size_alloc]at cm;have bg:=al.size
        have b3:v'.ownBlock=none\/v'.ownBlock≠some b:=by
         cases T:v'.ownBlock with
         |none=>exact .inl rfl
         |some g=>
          refine .inr (fun e=> ?_);have:=(a9.lt g T).1
          cases e
          omega
        have b4:=Aa ag;refine⟨?_, ?_, ?_, ?_,Z3p (Aa bk) (by decide), ?_,by omega,by omega, ?_, ?_, ?_⟩
        . rw[heap_setCell_same _ b 1 _ _ _ aw,<-M];rfl
        . rw[<-M];have:=(a9.kept al b3).kept Y b3
          rw[Wx];exact this
        . rcases bz with E|E
          . exact Aa a7 U (by rw[<-E,M];rfl)
          . rw[M]at E;have:=VM E
            exact Aa c5 U (by simp at this;omega)
        . rw[VE,Aa aa];rfl
        . have G:=Aa bv;have e:=Xi bs [0] 1;rw[Aa aa]at e G;rw[e,G];unfold padB;rw[Aa av];simp only[ZI,XA];rfl
        . rw[a6];rfl
        . have cv:=b4.below;have b1:=cv.alloc (by omega) (.cells #[.int .u8 0] 5);have b2:=b1.grown aj (by simp;omega) (fun g e=>by have:=((Aa ao).lt g e).1;omega);exact(b2.grown al (by omega) (fun g e=>by cases e;exact az)).grown Y (by omega) (fun g e=>by cases e;exact az)
        . have cp:=b4.kp;have k1:=cp.grown (ga (Aw wr none) (.cells #[.int .u8 0] 5)) cj (fun j e=>by cases e);have k2:=k1.grown aj (by simp;omega) (fun j e=>Aa a7 j e);exact(k2.grown al (by omega) (fun g e=>by cases e;exact au)).grown Y (by omega) (fun g e=>by cases e;exact au)
       subst M;clear a8 a9 aj bz a1 aw bd bi;go_wp2
       all_goals go_meet
       all_goals exact⟨L+1,8,U,ai,bs++ [0],bj,by omega⟩
     . have dh:((a2:Int)==0)=false:=by rw[beq_eq_false_iff_ne];omega
       have bw:Hid (wr.ownsRow (b+1) 5 1 ov L (u8s bs)):=by
        have:=Aa ao
        rw[Aa aa]at this;exact Ab this
       obtain⟨U,ai,M,bd,bi⟩:=Ba (Aa bw) (by omega)
       have bj:Hid (Z8i No B w b F L a2 U ai bs wr):=by
        have I:=Aa b5;have G:=Aa bv;rw[Aa av]at I;rw[Aa aa]at G;unfold padB at G;rw[Aa av]at G;rw[M]at I;refine⟨I,by rw[<-M];exact Aa bw,Aa a7 U (by rw[M];rfl),Aa aa,Aa bk,G,by omega,by omega, ?_,(Aa ag).below,(Aa ag).kp⟩;rw[a6,if_neg bu]
       subst ax;clear bd bi M;go_wp2
       all_goals go_meet
       all_goals exact⟨L,a2,U,ai,bs,bj,by omega⟩
    case rest=>
     obtain⟨n2,f,g,cap,Z,bc,dy⟩:=hcut;obtain⟨m1,m2,ap,ac,ay,ak,d5,df,ar,ae,a3⟩:=Aa bc;clear c0 c1 f0 f1 ax;have af:g≠b:=by have:=(m2.lt g rfl).1;omega
     have di:1<=n2:=by
      have:=congrArg List.length ak
      rw[Af,VE,XD]at this;omega
     have c0:wc.cell? ⟨b,0,none⟩=some (.slice (some ⟨g,0,none⟩) n2 cap):=Ac m1;have c1:wc.cell? ⟨b,1,none⟩=some (.int .i64 (f:Nat)):=Ac m1;have f1:=frozen_of_row wc b 1 _ _ m1;obtain⟨x,T⟩:=exq (Z.getD (n2-1) 0);have bb:=ay (n2-1);rw[T]at bb
     have dw:wc.cell? ⟨g,n2-1,none⟩=some (.int .u8 (x:Int)):=by
      rw[m2.cellAt (n2-1) (by omega),<-T];simp[List.getD,ac,show n2-1<n2 by omega]
     have fl:=m2.frozenAt (n2-1);have c8:=Ab (Z08 x n k (8-f) bb de (by omega));have b8:=bc;have du:((n2:Int)-1).toNat=n2-1:=by omega
     have dt:(0:Int)<=(n2:Int)-1:=by omega
     have dz:(n2:Int)-1<(n2:Int):=by omega
     have dv:(0:Int)<=8-(f:Int):=by omega
     have dx:∀v,(wc.setCell ⟨g,n2-1,none⟩ v).cell? ⟨b,1,none⟩=some (.int .i64 (f:Nat)):=fun v=>(World.cell?_setCell_other _ _ _ _ (by intro E;injection E;omega)).trans c1
     have d6:∀v,(wc.setCell ⟨g,n2-1,none⟩ v).frozen? ⟨b,1,none⟩=false:=fun v=>by simp[f1]
     have b7:=Ab T;have ct:=Ab af;clear m1 m2 ap ac ay ak ar ae a3 T bc af;go_wp2;go_big_region
     go_wp2;go_roundw
     case rel=>
      obtain⟨m1,m2,ap,ac,ay,ak,cz,ce,ar,ae,a3⟩:=Aa b8;have c7:=Aa c8;have af:=Aa ct;rw[c7];have b9:(x|||n/2^k%2*2^(8-f))<256:=Nat.or_lt_two_pow (n:=8) bb (XO (Wd (BP (k:=8-f) (by omega))) (by decide));have ah:=m2.stored (n2-1) (.int .u8 ((x|||n/2^k%2*2^(8-f):Nat):Int));have bn:=Z3z Z n2 f n k F ac cz ce ak;rw[Aa b7]at bn;generalize (x|||n/2^k%2*2^(8-f))=y at*;have Y:=Ad (wc.setCell ⟨g,n2-1,none⟩ (.int .u8 ((y:Nat):Int))) b 1 (.int .i64 ((f:Int)-1))
      have da:(wc.setCell ⟨g,n2-1,none⟩ (.int .u8 ((y:Nat):Int))).heap[b]? =some (.cells #[.slice (some ⟨g,0,none⟩) n2 cap,.int .i64 (f:Nat)] 179 (0,0)):=
       (ah.2.block b (VK.1 m1).1 (fun e=>af (VM e).symm)).trans m1
      have ds:b<wc.heap.size:=(VK.1 m1).1;have bg:=ah.2.size;refine⟨k+1,by omega,by go_num, ?_⟩;have c6:S++Al n (k+1)=F++ [n.testBit k]:=by rw[Aa cn,Aa dd]
      rw[c6];refine⟨⟨az,au,.slice (some ⟨g,0,none⟩) n2 cap,Z.set (n2-1) y, ?_, ?_, ?_, ?_, ?_⟩, ?_, ?_⟩
      . show (((wc.setCell ⟨g,n2-1,none⟩ (.int .u8 ((y:Nat):Int))).setCell ⟨b,1,none⟩ (.int .i64 ((f:Int)-1))).heap)[b]? =_
        rw[heap_setCell_same _ b 1 _ _ _ da,VE];show some (Obj.cells #[_,.int .i64 ((f:Int)-1)] _ _)=some (Obj.cells #[_,.int .i64 ((freeN (F.length+1):Nat):Int)] _ _)
        rw[<-ar,show ((f:Int)-1)=((f-1:Nat):Int) by omega]
      . have cq:=Z0f (ah.1.kept Y (.inr (fun e=>af (VM e))));have cy:u8s (Z.set (n2-1) y)=(u8s Z).set (n2-1) (.int .u8 ((y:Nat):Int)):=by rw[u8s,List.map_set]
        rw[XS,ac,cy];exact cq
      . intro c9 db;have:g=c9:=by simpa[Value.ownBlock]using db
        rw[<-this];exact ap
      . intro j;rw[CZ]
        split
        . exact b9
        . exact ay j
      . rw[XS,ac,bn];unfold padB;rw[VE];show _=F++ [n.testBit k]++List.replicate (freeN (F.length+1)) false
        rw[<-ar]
      . exact((ae.grown ah.2 (by omega) (fun j e=>by have:=VM e;have:=(m2.lt g rfl).1;omega)).grown Y (by omega) (fun j e=>by cases e;exact az)).drew
      . have k1:=a3.grown ah.2 ae.size (fun j e=>by rw[<-VM e];exact ap);exact k1.grown (Cb Y) (by have:=ae.size;omega) (fun j e=>by cases e;exact au)
     case measure=>simp[intOf];omega
  . obtain rfl:k=s:=by omega
    have ag:=Ab O;clear O;go_wp2;go_end0
    exact⟨rfl,Aa ag⟩
theorem MD (No:Nat->Prop)(B b:Nat)(S:List Bool)(w:World)(E:RIs No B w b S):
 Calls Tryz.prog 176 #[.pointer (some ⟨b,0,none⟩)] w fun e w'=>e=.returned (.tuple #[])/\Rp No B w b (padB S) w':=by
 obtain⟨ov,bs,F,G,U,M,I⟩:=E.ex;have T:=E.base;have O:=E.no;have aa:=E.lt;have c1:w.cell? ⟨b,1,none⟩=some (.int .i64 (freeN S.length:Nat)):=Ac F;have f1:=frozen_of_row w b 1 _ _ F
 have Y:Hid (Rp No B w b (padB S) (w.setCell ⟨b,1,none⟩ (.int .i64 0))):=by
  have H:=Ad w b 1 (.int .i64 0);have e0:freeN (padB S).length=0:=by rw[Dr];have:=J9 S.length;unfold freeN at*;omega
  refine⟨⟨T,O,ov,bs, ?_, ?_,U,M, ?_⟩, ?_, ?_⟩
  . rw[heap_setCell_same w b 1 _ _ _ F,e0];rfl
  . refine G.kept H ?_
    cases Z:ov.ownBlock with
    |none=>exact .inl rfl
    |some g=>
     refine .inr (fun e=> ?_);have:=(G.lt g Z).1
     cases e
     omega
  . rw[I];unfold padB;unfold padB at e0;rw[e0];simp
  . exact(Below.refl B w).grown H (by omega) (fun g e=>by cases e;exact T)
  . exact(Kp.refl No w).grown H (VB _) (fun g e=>by cases e;exact O)
 clear E F G U M I;generalize (freeN S.length)=ac at*;go_enter Tryz.func176,Tryz.ntmps176
 go_wp2;go_end0
 exact⟨rfl,Aa Y⟩
theorem Z1k (S:List Bool):freeN (padB S).length=0:=by rw[Dr];have:=J9 S.length;unfold freeN at*;omega
theorem BV {S:List Bool}(E:freeN S.length=0):padB S=S:=by unfold padB;rw[E];simp
theorem EO:(List.range 3001).all (fun n=>bits .and .i64 (bits .xor .i64 (-1) (n:Int)) 65535==((65535-n:Nat):Int))=true:=by decide+kernel
theorem KQ {n:Nat}(E:n<=3000):bits .and .i64 (bits .xor .i64 (-1) (n:Int)) 65535=((65535-n:Nat):Int):=by
 have:=WX.1 EO n (by simp;omega)
 simpa using this
theorem LP {w:World}{a:Option Addr}{bs:List Nat}{n H:Nat}(M:bs.length=n)(G:BytesIn w a bs)(I:a=none->H=0):(a=none/\n=0/\H=0/\bs= [])\/∃ad,a=some ad/\∀j u,(u8s bs)[j]? =some u->w.cell? (ad.add j)=some u:=by
 cases a with
 |none=>
  rcases G with h|⟨b,o,e,_⟩
  . subst h;exact .inl ⟨rfl,M.symm,I rfl,rfl⟩
  . cases e
 |some ad=>
  refine .inr ⟨ad,rfl, ?_⟩
  rcases G with h|⟨b,o,e,hb,h⟩
  . subst h;intro j u E;simp at E
  . cases e
    intro j u E;have O:(⟨b,o,none⟩:Addr).add j=⟨b,o+j,none⟩:=by unfold Addr.add;split<;>simp_all
    have F:j<bs.length:=by
     by_cases c:j<bs.length
     . exact c
     . rw[WJ (by simp;omega)]at E;cases E
    rw[O,h j F];simp[F]at E
    subst E;simp[List.getD,F]
theorem Yu {w w':World}{a:Option Addr}{bs:List Nat}(E:BytesIn w a bs)(I:w.heap.size<=w'.heap.size)(F:∀b o,a=some ⟨b,o,none⟩->bs≠ []->b<w.heap.size->w'.heap[b]? =w.heap[b]?):BytesIn w' a bs:=by
 by_cases e:bs= []
 . exact .inl e
 . rcases E with E|⟨b,o,rfl,hb,G⟩
   . exact absurd E e
   . exact .inr ⟨b,o,rfl,by omega,fun j H=>(World.cell?_of_block (w:=w) (a:=⟨b,_,none⟩) (F b o rfl e hb)).trans (G j H)⟩
theorem Xl (No:Nat->Prop)(B E:Nat)(a:Option Addr)(n al:Nat)(bs:List Nat)(S:List Bool)(w:World)(T:RIs No B w E S)(au:bs.length=n)(cn:n<=3000)(a8:a=none->al=0)(bi:BytesIn w a bs)(ak:∀j,bs.getD j 0<256)(a5:∀b o,a=some ⟨b,o,none⟩->bs≠ []->No b)(aj:∀g,w.heap.size<=g->¬No g)(ct:S.length<=290000):
 Calls Tryz.prog 148 #[.pointer (some ⟨E,0,none⟩),.slice a n al] w fun e w'=>e=.returned (.tuple #[])/\Rp No B w E (Qm S bs) w':=by
 obtain⟨bd,hi,b3,ck,b4⟩:=info_parts Gz;have bv:=Dr S;have co:=Pk S.length;have bq:=Ab (MD No B E S w T);have a4:=Ab (fun af (r:Rp No B w E (padB S) af)=>Dp No B E n 16 (padB S) af r.is (by omega) (by decide) (by omega) (fun g Y=>aj g (by have:=r.below.size;omega)));have a9:=Ab (fun ag (r:Rp No B w E (padB S++Al n 16) ag)=>Dp No B E (65535-n) 16 (padB S++Al n 16) ag r.is (by omega) (by decide) (by rw[VE,Ah];omega) (fun g Y=>aj g (by have:=r.below.size;omega)));have bf:Qm S bs=padB S++Al n 16++Al (65535-n) 16++rowB bs bs.length:=by unfold Qm padB;rw[au]
 rw[bf];have cj:=KQ cn;have bk:=Ab (fun w3 Z (r:Rp No B w E Z w3)=>Yu bi r.below.size (fun b o e b7 hb=>r.kp b hb (a5 b o e b7)));have ac:=Ab au;have bu:=Ab ak;have cd:=Ab a8;have cg:=Ab aj;have cw:=T.lt;have bj:=T.base;have bb:=T.no;clear bf T bi a5 a8 ak au aj;go_enter Tryz.func148,Tryz.ntmps148
 go_wp2_with fail
 refine(Aa bq).mono ?_;rintro e af ⟨rfl,ap⟩;have a3:=Ab (Aa a4 af ap);have bg:=Ab ap;clear ap bq a4;go_wp2_with fail
 refine(Aa a3).mono ?_;rintro e ag ⟨rfl,ba⟩;have aw:=(Aa bg).trans ba;have bn:=Ab (Aa a9 ag aw);have a2:=Ab aw;clear ba aw a9 a3 bg;go_wp2_with fail
 refine(Aa bn).mono ?_;rintro e w3 ⟨rfl,bo⟩;have H:=(Aa a2).trans bo;obtain⟨Z,O⟩:=exq (padB S++Al n 16++Al (65535-n) 16);rw[O]at H;have a6:Z.length=(padB S).length+32:=by rw[<-O];simp[Ah]
 have ao:freeN Z.length=0:=by
  have:=Z1k S
  rw[a6];unfold freeN at*;omega
 have cq:=Ab O;obtain⟨ov,old,U,I,ar,bh,aa⟩:=H.is.ex;rw[BV ao]at aa;rw[ao]at U;have az:=congrArg List.length aa;rw[Af]at az;have ci:=LP (Aa ac) (Aa bk w3 _ H) (Aa cd);have c0:w3.cell? ⟨E,0,none⟩=some ov:=Ac U;have f0:=frozen_of_row w3 E 0 _ _ U;obtain⟨L,ax⟩:=exq (old.length);rw[ax]at I az;have b5:=H.below.size
 have ah:Hid (∀v' F,F.ownsRow (E+1) 5 1 v' (L+n) (u8s old++u8s bs)->w3.grownBy F ov.ownBlock->(v'.ownBlock=ov.ownBlock\/v'.ownBlock=some w3.heap.size)->F.cell? ⟨E,0,none⟩=some ov/\F.frozen? ⟨E,0,none⟩=false/\Rp No B w E (padB S++Al n 16++Al (65535-n) 16++rowB bs bs.length) (F.setCell ⟨E,0,none⟩ v')):=by
  intro v' F M G ai;have ay:F.heap[E]? =some (.cells #[ov,.int .i64 ((0:Nat):Int)] 179 (0,0)):=(G.block E (by omega) (fun e=>by have:=(I.lt E e.symm).1;omega)).trans U;have a1:=Ad F E 0 v';have cp:=G.size;have cm:(rowB bs bs.length).length=8*n:=by rw[Af,Aa ac]
  have a7:freeN (Z++rowB bs bs.length).length=0:=by
   rw[VE,cm];unfold freeN at*;omega
  refine⟨Ac ay,frozen_of_row F E 0 _ _ ay, ?_⟩;rw[O];refine⟨⟨bj,bb,v',old++bs, ?_, ?_, ?_, ?_, ?_⟩, ?_, ?_⟩
  . rw[a7,heap_setCell_same _ E 0 _ _ _ ay];rfl
  . rw[VE,ax,Aa ac];have e:u8s (old++bs)=u8s old++u8s bs:=by simp
    rw[e];refine M.kept a1 ?_
    cases ak:v'.ownBlock with
    |none=>exact .inl rfl
    |some g=>
     refine .inr (fun e=> ?_);have:=(M.lt g ak).1
     cases e
     omega
  . intro g Y
    rcases ai with e|e
    . exact ar g (by rw[<-e];exact Y)
    . rw[e]at Y;have:=VM Y
      exact Aa cg g (by omega)
  . intro j
    by_cases bw:j<old.length
    . have:=bh j
      simp only[List.getD]at this ⊢;rw[WN bw];exact this
    . have:=Aa bu (j-old.length)
      simp only[List.getD]at this ⊢;rw[VX (by omega)];exact this
  . rw[BV a7,VE,Xi old bs bs.length,<-ax]at*;rw[aa]
  . exact(H.below.grown G (by omega) (fun g e=>by have:=(I.lt g e).1;omega)).grown a1 (by omega) (fun g e=>by cases e;exact bj)
  . exact(H.kp.grown G b5 (fun g e=>ar g e)).grown a1 (by omega) (fun g e=>by cases e;exact bb)
 have ae:=Ab I;have cv:L<=40000:=by omega
 have b0:0<L:=by omega
 obtain⟨ga,ca,bz,_,_⟩:=Ba I b0;clear U I ar bh aa bo H bn a2 az bv O a6 ao bk cj;subst bz
 rcases ci with ⟨rfl,rfl,rfl,rfl⟩|⟨ad,rfl,bc⟩
 . have bm:=Aa ah _ w3 (by simpa using Aa ae) (Aw w3 _) (.inl rfl);have av:=Ab bm.2.2;clear bm ah;go_wp2_with (at_builtin;refine wpList_append_own_none rfl _ _ 23 rfl (E+1) 5 bd 1 Tryz.underlying23 hi _ L (u8s old) rfl (Aa ae) rfl ?_)
   go_end0
   exact⟨rfl,Aa av⟩
 . have b8:=Ab bc;clear bc;go_wp2_with (at_builtin;refine wpList_append_own_at _ rfl _ _ 23 rfl (E+1) 5 bd (.int .u8 0) 1 1 Tryz.underlying23 hi b3 ck b4 rfl (by decide) _ L (u8s old) rfl (Aa ae) ad n al (u8s bs) rfl (by rw[WL,Aa ac,Nat.mul_one]) (Aa b8) (by intro u ce;obtain⟨x,_,rfl⟩:=XG.1 ce;rfl) (by unfold maxLen;omega) (by omega) (by omega) ?_)
   intro v' F M G _ ai;obtain⟨r0,r1,r2⟩:=Aa ah v' F M G ai;obtain⟨cy,cu,b9,_,_⟩:=Ba M (by omega);have av:=Ab r2;subst b9;clear M G ai r2 ah ae;go_wp2;go_end0
   exact⟨rfl,Aa av⟩
def PC (N bp:Nat)(l:List Int)(d:Nat->Int×Int)(W:World):Prop:=
 ∀k,k<N->(W.cell? ⟨bp,k,none⟩=some (.int .i64 (d k).2)/\W.frozen? ⟨bp,k,none⟩=false)/\∃p:Nat,(d k).2=p/\p<l.length/\(d k).1=l.getD p 0
structure Cx (bp bx bl ol ln lc:Nat)(l:List Int)(W:World):Prop where
 box:W.cell? ⟨bx,0,none⟩=some (.slice (some ⟨bl,ol,none⟩) ln lc)
 row:Row .i64 W bl ol l
 len:l.length=ln
 sm:ln<=288
 xlt:bx<W.heap.size
 llt:bl<W.heap.size
 plt:bp<W.heap.size
 xne:bx≠bp
 lne:bl≠bp
theorem Cx.grown {G H M I T O:Nat}{l:List Int}{W W':World}(E:Cx G H M I T O l W)(F:W.grownBy W' (some G)):Cx G H M I T O l W':=
 ⟨F.cell E.box (by simpa using E.xne),fun j U=>F.cell (E.row j U) (by simpa using E.lne),E.len,E.sm,VG E.xlt F.size,VG E.llt F.size,VG E.plt F.size,E.xne,E.lne⟩
theorem Cx.drewN {G F I H O M:Nat}{l:List Int}{W:World}(E:Cx G F I H O M l W)(n:Nat):Cx G F I H O M l (W.drewN n):=⟨E.box,E.row,E.len,E.sm,E.xlt,E.llt,E.plt,E.xne,E.lne⟩
def Z5w (x y:Int):Int:=if x<y then-1 else if y<x then 1 else 0
theorem Yq (x y:Int):decide (Z5w x y<0)=decide (x<y):=by
 unfold Z5w
 by_cases h:x<y
 . rw[if_pos h];simp[h]
 . rw[if_neg h]
   by_cases E:y<x
   . rw[if_pos E];simp[h]
   . rw[if_neg E];simp[h]
theorem Z8 (x y:Int)(w:World):Calls Tryz.prog 130 #[.int .i64 x,.int .i64 y] w fun e w'=>e=.returned (.int .i64 (Z5w x y))/\∃q,w'=w.drewN q:=by
 have hn:∀(x:Int) w,Calls Tryz.prog 168 #[.int .i64 x] w fun e w'=>e=.returned (.bool false)/\w'=w:=by
  intro x w;have H:(x !=x)=false:=by simp
  go_enter Tryz.func168,Tryz.ntmps168
  go_wp2;go_ret;exact⟨rfl,rfl⟩
 unfold Z5w;go_enter Tryz.func130,Tryz.ntmps130
 go_wp2_with fail
 refine(hn x w).mono ?_;rintro e E ⟨rfl,rfl⟩;go_wp2_with fail
 refine(hn y E).mono ?_;rintro e F ⟨rfl,rfl⟩
 by_cases h:x<y
 . go_wp2;go_ret;exact⟨rfl,0,rfl⟩
 . by_cases G:y<x
   . go_wp2;go_ret;exact⟨rfl,0,rfl⟩
   . go_wp2;go_ret;exact⟨rfl,0,rfl⟩
abbrev CF (bx:Nat):Value:=.func (.func 276) #[] #[.pointer (some ⟨bx,0,none⟩)]
theorem AB (O G T M F U:Nat)(l:List Int)(W:World)(p q:Nat)(H:p<l.length)(I:q<l.length)(E:Cx O G T M F U l W):
 Calls Tryz.prog 276 #[.int .i64 p,.int .i64 q,.pointer (some ⟨G,0,none⟩)] W fun e w'=>e=.returned (.int .i64 (Z5w (l.getD p 0) (l.getD q 0)))/\∃q,w'=W.drewN q:=by
 have hb:=E.box;have c1:=E.row p H;have c2:=E.row q I;have hl:=E.len;have Z:=E.sm;generalize l.getD p 0=x at*;generalize l.getD q 0=y at*;have Y:(p:Int)<(F:Int):=by omega
 have aa:(q:Int)<(F:Int):=by omega
 clear E;go_enter Tryz.func276,Tryz.ntmps276
 go_wp2;go_quiet ((go_at_call 130;refine Calls.quiet_of (Z8 _ _ _)))
 go_wp2;go_ret;exact⟨rfl,_,rfl⟩
theorem DN {N F E I H O M:Nat}{l:List Int}{d:Nat->Int×Int}{W:World}(G:PC N F l d W)(T:Cx F E I H O M l W)(i j:Nat)(af:i<N)(aa:j<N)(n:Nat):
 Calls Tryz.prog 276 #[.int .i64 (d i).2,.int .i64 (d j).2,.pointer (some ⟨E,0,none⟩)] (W.drewN n) fun e w'=>e=.returned (.int .i64 (Z5w (d i).1 (d j).1))/\∃q,w'=(W.drewN n).drewN q:=by
 obtain⟨_,p,ae,ag,U⟩:=G i af;obtain⟨_,q,ac,Z,Y⟩:=G j aa;rw[ae,ac,U,Y];exact AB F E I H O M l (W.drewN n) p q ag Z (T.drewN n)
def swC (W:World)(bp:Nat)(x y:Int)(i j:Nat):World:=(W.setCell ⟨bp,i,none⟩ (.int .i64 y)).setCell ⟨bp,j,none⟩ (.int .i64 x)
theorem Mf (W:World)(E:Nat)(x y:Int)(i j:Nat):W.grownBy (swC W E x y i j) (some E):=Aj (Ad W E i _) (Ad _ E j _)
theorem PC.sw {N F:Nat}{l:List Int}{d:Nat->Int×Int}{W:World}(G:PC N F l d W)(i j:Nat)(Y:i<N)(T:j<N):PC N F l (Stab.swp d i j) (swC W F (d i).2 (d j).2 i j):=by
 intro k M;obtain⟨⟨c0,f0⟩,Z⟩:=G k M;obtain⟨⟨H,_⟩,O⟩:=G i Y;obtain⟨⟨U,_⟩,I⟩:=G j T;unfold swC
 have e2:(W.setCell ⟨F,i,none⟩ (.int .i64 (d j).2)).cell? ⟨F,j,none⟩≠none:=by
  by_cases e:i=j
  . subst e;rw[World.cell?_setCell_same' _ _ _ (by rw[H];rfl)];simp
  . rw[World.cell?_setCell_other _ _ _ _ (by intro h;injection h;omega),U];simp
 refine⟨⟨?_,by simp[f0]⟩, ?_⟩
 . unfold Stab.swp
   by_cases e:k=j
   . subst e;rw[World.cell?_setCell_same' _ _ _ (by rw[Option.isSome_iff_ne_none];exact e2)]
     by_cases E:k=i
     . subst E;rw[if_pos rfl]
     . rw[if_neg E,if_pos rfl]
   . rw[World.cell?_setCell_other _ _ _ _ (by intro h;injection h;omega)]
     by_cases E:k=i
     . subst E;rw[if_pos rfl,World.cell?_setCell_same' _ _ _ (by rw[H];rfl)]
     . rw[if_neg E,if_neg e,World.cell?_setCell_other _ _ _ _ (by intro h;injection h;omega)];exact c0
 . unfold Stab.swp
   by_cases E:k=i
   . rw[if_pos E];exact I
   . rw[if_neg E]
     by_cases e:k=j
     . rw[if_pos e];exact O
     . rw[if_neg e];exact Z
theorem PC.c2 {N E:Nat}{l:List Int}{d:Nat->Int×Int}{W:World}(F:PC N E l d W)(i j:Nat)(G:i<N)(H:j<N)(v:Value):∃u,(W.setCell ⟨E,i,none⟩ v).cell? ⟨E,j,none⟩=some u:=by
 by_cases e:i=j
 . subst e;exact⟨v,World.cell?_setCell_same _ _ _ (F i G).1.1⟩
 . exact⟨_,(World.cell?_setCell_other _ _ _ _ (by intro h;injection h;omega)).trans (F j H).1.1⟩
theorem PC.drewN {N E:Nat}{l:List Int}{d:Nat->Int×Int}{W:World}(F:PC N E l d W)(n:Nat):PC N E l d (W.drewN n):=F
theorem Ge {a b:World}{r:Option Nat}(E:a.grownBy b r)(n:Nat):a.grownBy (b.drewN n) r:=⟨E.os,E.tape,E.output,E.size,E.block⟩
set_option maxRecDepth 100000 in
theorem Nf (ak:Value)(N F ai:Nat)(l:List Int)(d:Nat->Int×Int)(a b n:Nat)(w:World)(av:N<=288)(aw:a+n<=N)(au:b+n<=N)(ac:PC N F l d w):
 Calls Tryz.prog 287 #[.slice (some ⟨F,0,none⟩) N ai,.int .i64 a,.int .i64 b,.int .i64 n,ak] w fun e w'=>e=.returned (.tuple #[])/\PC N F l (Stab.swr d a b n) w'/\w.grownBy w' (some F):=by
 have ah:=Ab ac;clear ac;go_enter Tryz.func287,Tryz.ntmps287
 go_wp2;go_loopw [10] (fun M wr=>∃i:Nat,i<=n/\M=.int .i64 i/\PC N F l (Stab.swr d a b i) wr/\w.grownBy wr (some F)) (fun M _=>n-(intOf M).toNat)
 case atStart=>exact⟨0,VH _,rfl,Aa ah,Aw _ _⟩
 case round=>
  obtain⟨i,hi,rfl,Y,T⟩:=hrel;have E:=Ab Y;have Z:=Ab T;have U:Hid (Stab.swr d a b (i+1)=Stab.swp (Stab.swr d a b i) (a+i) (b+i)):=rfl;clear Y T
  by_cases ap:i<n
  . generalize Stab.swr d a b i=H at*;obtain⟨s,af⟩:∃s,s=a+i:=⟨_,rfl⟩
    obtain⟨t,aa⟩:∃t,t=b+i:=⟨_,rfl⟩
    have G:s<N:=by omega
    have I:t<N:=by omega
    have c1:=((Aa E) s G).1.1;have f1:=((Aa E) s G).1.2;have c2:=((Aa E) t I).1.1;have f2:=((Aa E) t I).1.2;have ae:=Ab ((Aa E).sw s t G I);have O:=Ab (Aj (Aa Z) (Mf wr F (H s).2 (H t).2 s t));obtain⟨u,aj⟩:=PC.c2 (Aa E) s t G I (.int .i64 (H t).2);generalize (H s).2=x at*;generalize (H t).2=y at*;have ea:((a:Int)+(i:Int)).toNat=s:=by omega
    have pa:(0:Int)<=(a:Int)+(i:Int):=by omega
    have al:(a:Int)+(i:Int)<(N:Int):=by omega
    have ra:IntKind.i64.wrap ((a:Int)+(i:Int))=(a:Int)+(i:Int):=by rw[IntKind.wrap_i64];omega
    have ec:((b:Int)+(i:Int)).toNat=t:=by omega
    have pc:(0:Int)<=(b:Int)+(i:Int):=by omega
    have ar:(b:Int)+(i:Int)<(N:Int):=by omega
    have ao:IntKind.i64.wrap ((b:Int)+(i:Int))=(b:Int)+(i:Int):=by rw[IntKind.wrap_i64];omega
    rw[<-af,<-aa]at U;clear af aa G I E;go_wp2_with fail
    go_big_region
    clear c1 c2 aj f1 f2;unfold swC at ae O;have ag:=Ab (Cb (Aa O));clear O;go_wp2;go_roundw
    case rel=>exact⟨i+1,by omega,by go_num,by rw[Aa U];exact Aa ae,Aa ag⟩
    case measure=>simp[intOf];omega
  . obtain rfl:i=n:=by omega
    go_wp2;go_end0
    exact⟨rfl,Aa E,Aa Z⟩
theorem Xk (U:Value)(N F T:Nat)(l:List Int)(d:Nat->Int×Int)(a m b:Nat)(w:World)(aa:N<=288)(a2:a<m)(a1:m<b)(az:b<=N)(al:PC N F l d w):
 Calls Tryz.prog 286 #[.slice (some ⟨F,0,none⟩) N T,.int .i64 a,.int .i64 m,.int .i64 b,U] w fun e w'=>e=.returned (.tuple #[])/\PC N F l (Stab.rot d a m b) w'/\w.grownBy w' (some F):=by
 have ar:=Ab al;have ay:Hid (Stab.rot d (m-(m-a)) m (m+(b-m))=Stab.rot d a m b):=by rw[show m-(m-a)=a by omega,show m+(b-m)=b by omega];exact rfl
 clear al;go_enter Tryz.func286,Tryz.ntmps286
 go_wp2;go_loopw [10,11] (fun Z ag wr=>∃(i j:Nat) (dk:Nat->Int×Int),0<i/\0<j/\i<=m-a/\j<=b-m/\Z=.int .i64 i/\ag=.int .i64 j/\Stab.rot dk (m-i) m (m+j)=Stab.rot d a m b/\PC N F l dk wr/\w.grownBy wr (some F)) (fun Z ag _=>(intOf Z).toNat+(intOf ag).toNat)
 case atStart=>exact⟨m-a,b-m,d,by omega,by omega,VB _,VB _,by go_num,by go_num,Aa ay,Aa ar,Aw _ _⟩
 case round=>
  obtain⟨i,j,dk,ap,ax,hi,au,rfl,rfl,ao,ak,ai⟩:=hrel;have af:=Ab ak;have ae:=Ab ai;have ac:=Ab ao;clear ak ai ao
  rcases ZR i j with H|H|H
  . have aj:((i:Int)!=(j:Int))=true:=by rw[bne_iff_ne];omega
    have aw:¬(j:Int)<(i:Int):=by omega
    have M:Hid ((m:Int)-(i:Int)=((m-i:Nat):Int)):=by unfold Hid;omega
    have av:Hid ((m:Int)+(j:Int)-(i:Int)=((m+j-i:Nat):Int)):=by unfold Hid;omega
    go_wp2_with fail
    rw[Aa M,Aa av];refine(Nf U N F T l dk _ _ _ _ aa (by omega) (by omega) (Aa af)).mono ?_;rintro e ah ⟨rfl,E,G⟩;have O:=Ab E;have I:=Ab (Aj (Aa ae) G);have Y:=Ab ((Stab.rot_lt dk m i j H (by omega)).trans (Aa ac));clear E G;go_wp2;go_roundw
    case rel=>exact⟨i,j-i,_,ap,by omega,hi,by omega,rfl,by go_num,Aa Y,Aa O,Aa I⟩
    case measure=>simp[intOf];omega
  . subst H;have aj:((i:Int)!=(i:Int))=false:=by simp
    have M:Hid ((m:Int)-(i:Int)=((m-i:Nat):Int)):=by unfold Hid;omega
    go_wp2_with fail
    rw[Aa M];refine(Nf U N F T l dk _ _ _ _ aa (by omega) (by omega) (Aa af)).mono ?_;rintro e ah ⟨rfl,E,G⟩;rw[Stab.rot_eq dk m i (by omega),Aa ac]at E;have O:=Ab E;have I:=Ab (Aj (Aa ae) G);clear E G;go_wp2;go_end0
    exact⟨rfl,Aa O,Aa I⟩
  . have aj:((i:Int)!=(j:Int))=true:=by rw[bne_iff_ne];omega
    have aw:(j:Int)<(i:Int):=by omega
    have M:Hid ((m:Int)-(i:Int)=((m-i:Nat):Int)):=by unfold Hid;omega
    go_wp2_with fail
    rw[Aa M];refine(Nf U N F T l dk _ _ _ _ aa (by omega) (by omega) (Aa af)).mono ?_;rintro e ah ⟨rfl,E,G⟩;have O:=Ab E;have I:=Ab (Aj (Aa ae) G);have Y:=Ab ((Stab.rot_gt dk m i j H (by omega)).trans (Aa ac));clear E G;go_wp2;go_roundw
    case rel=>exact⟨i-j,j,_,by omega,ax,by omega,au,by go_num,rfl,Aa Y,Aa O,Aa I⟩
    case measure=>simp[intOf];omega
set_option maxRecDepth 100000 in
theorem FW (N F bd ag a6 a4 a7 ar:Nat)(l:List Int)(d:Nat->Int×Int)(a m b:Nat)(w:World)(af:Hid (m=a+1))(cn:N<=288)(cd:m<b)(b7:b<=N)(ai:Cx F ag a6 a4 a7 ar l w)
 (al:PC N F l d w) (ay:Stab.Srt Stab.lx d m b) (au:Stab.Cross d a m b):
 Calls Tryz.prog 285 #[.slice (some ⟨F,0,none⟩) N bd,.int .i64 a,.int .i64 m,.int .i64 b,CF ag] w fun e w'=>e=.returned (.tuple #[])/\∃d',PC N F l d' w'/\Stab.Moved a b d d'/\Stab.Srt Stab.lx d' a b/\w.grownBy w' (some F):=by
 have aw:=Ab al;have bm:=Ab ay;have bk:=Ab au;have bc:=Ab ai;have ck:((m:Int)-(a:Int)==1)=true:=by rw[beq_iff_eq];have:=Aa af;omega
 have bv:a<m:=by have:=Aa af;omega
 clear al ay au ai;go_enter Tryz.func285,Tryz.ntmps285
 go_wp2;go_loopw [10,11,12] (fun aa ac ce wr=>∃i j q:Nat,m<=i/\i<=j/\j<=b/\aa=.int .i64 i/\ac=.int .i64 j/\(m<i->Stab.lx (d (i-1)) (d a))/\(j<b->Stab.lx (d a) (d j))/\wr=w.drewN q) (fun aa ac _ _=>(intOf ac).toNat-(intOf aa).toNat)
 case atStart=>exact⟨m,b,0,VB _,by omega,VB _,rfl,rfl,fun h=>by omega,fun h=>by omega,rfl⟩
 case round=>
  obtain⟨i,j,q,hi,b5,Y,rfl,rfl,a9,av,a1⟩:=hrel;have H:=Ab a1;have Z:=Ab a9;have a3:=Ab av;clear a9 av a1
  by_cases cj:i<j
  . obtain⟨c,bn⟩:∃c,c=(i+j)/2:=⟨_,rfl⟩
    have co:i<=c:=by omega
    have ci:c<j:=by omega
    have E:Hid (((i:Int)+(j:Int))/2=(c:Int)):=by unfold Hid;omega
    have U:=Ab (Stab.cross_less (Aa bk a c (VB _) bv (by omega) (by omega)));have M:PC N F l d wr:=by rw[Aa H];exact(Aa aw).drewN q
    have a5:Cx F ag a6 a4 a7 ar l wr:=by rw[Aa H];exact(Aa bc).drewN q
    have ap:=fun n=>DN M a5 c a (by omega) (by omega) n
    have cc:=(M c (by omega)).1.1;have ca:=(M a (by omega)).1.1;generalize (d c).2=y at*;generalize (d a).2=z at*;have bo:=Ab ap;clear bn M a5 ap;have b3:(c:Int)<(N:Int):=by omega
    have b8:(a:Int)<(N:Int):=by omega
    go_wp2_with fail
    rw[Aa E];go_wp2_with fail
    go_quiet ((go_at_call 276;refine Calls.quiet_of (Aa bo _)))
    rw[Yq]
    cases O:decide ((d c).1<(d a).1)with
    |true=>
     have ah:=Ab ((Aa U).1 O);clear U O;go_wp2;go_roundw
     case rel=>exact⟨c+1,j,_,by omega,by omega,Y,by go_num,rfl,fun _=>Aa ah,Aa a3,by rw[Aa H,World.drewN_drewN]⟩
     case measure=>simp[intOf];omega
    |false=>
     have ah:=Ab ((Aa U).2 O);clear U O;go_wp2;go_roundw
     case rel=>exact⟨i,c,_,hi,by omega,by omega,rfl,rfl,Aa Z,fun _=>Aa ah,by rw[Aa H,World.drewN_drewN]⟩
     case measure=>simp[intOf];omega
  . obtain rfl:i=j:=by omega
    have cq:¬(i:Int)<(i:Int):=by omega
    have bg:Hid (Stab.rot d a (a+1) (a+1)=d):=Stab.rot_right d a (a+1);have bf:Hid (PC N F l d wr):=by rw[Aa H];exact(Aa aw).drewN q
    have bw:Hid (w.grownBy wr (some F)):=by rw[Aa H];exact Ge (Aw _ _) q
    go_wp2;go_loopw [13] (fun vk ax=>∃k:Nat,a<=k/\k<i/\vk=.int .i64 k/\PC N F l (Stab.rot d a (a+1) (k+1)) ax/\w.grownBy ax (some F)) (fun vk _=>i-(intOf vk).toNat)
    case atStart=>exact⟨a,VB _,by omega,rfl,by rw[Aa bg];exact Aa bf,Aa bw⟩
    case round=>
     obtain⟨k,bi,b9,rfl,ak,aj⟩:=hrel;have G:=Ab ak;have a2:=Ab aj;clear ak aj
     by_cases cg:k<i-1
     . have ct:(k:Int)<(i:Int)-1:=by omega
       have bu:=Ab (Stab.rot_up d a k bi);generalize Stab.rot d a (a+1) (k+1)=dk at*;obtain⟨t,ao⟩:∃t,t=k+1:=⟨_,rfl⟩
       have I:k<N:=by omega
       have T:t<N:=by omega
       have c1:=((Aa G) k I).1.1;have f1:=((Aa G) k I).1.2;have c2:=((Aa G) t T).1.1;have f2:=((Aa G) t T).1.2;have a8:=Ab ((Aa G).sw k t I T);have az:=Ab (Cb (Aj (Aa a2) (Mf wr F (dk k).2 (dk t).2 k t)));obtain⟨u,bj⟩:=PC.c2 (Aa G) k t I T (.int .i64 (dk t).2);generalize (dk k).2=x at*;generalize (dk t).2=y at*;have b0:(k:Int)<(N:Int):=by omega
       have ec:((k:Int)+1).toNat=t:=by omega
       have pc:(0:Int)<=(k:Int)+1:=by omega
       have cm:(k:Int)+1<(N:Int):=by omega
       have b4:IntKind.i64.wrap ((k:Int)+1)=(k:Int)+1:=by rw[IntKind.wrap_i64];omega
       have bq:=Ab ao;clear ao G;go_wp2_with fail
       go_big_region
       clear c1 c2 bj f1 f2;unfold swC at a8 az;go_wp2;go_roundw
       case rel=>exact⟨k+1,by omega,by omega,by go_num,by rw[<-Aa bu,<-Aa bq];exact Aa a8,Aa az⟩
       case measure=>simp[intOf];omega
     . obtain rfl:k=i-1:=by omega
       have cp:¬((i-1:Nat):Int)<(i:Int)-1:=by omega
       have ba:i-1+1=i:=by omega
       have bb:Hid (PC N F l (Stab.rot d a (a+1) i) wr):=by rw[ba]at G;exact G
       have bz:=Ab ((Stab.moved_rot d a (a+1) i (by omega) (by omega)).wider (VB _) (by omega) Y);have ae:=Aa bm;rw[Aa af]at ae Z;have bh:=Ab (Stab.ins_first (by omega) Y ae (Aa Z) (Aa a3));clear ba ae G;go_wp2;refine bodyPost_ret (results_none rfl _ _ _) rfl ?_;exact⟨rfl,_,Aa bb,Aa bz,Aa bh,Aa a2⟩
set_option maxRecDepth 100000 in
theorem X5 (N F bf ag a8 a6 a9 av:Nat)(l:List Int)(d:Nat->Int×Int)(a m b:Nat)(w:World)(af:Hid (b=m+1))(cm:N<=288)(cp:a+1<m)(bc:m<b)(b5:b<=N)(ai:Cx F ag a8 a6 a9 av l w)
 (ap:PC N F l d w) (a3:Stab.Srt Stab.lx d a m) (aw:Stab.Cross d a m b):
 Calls Tryz.prog 285 #[.slice (some ⟨F,0,none⟩) N bf,.int .i64 a,.int .i64 m,.int .i64 b,CF ag] w fun e w'=>e=.returned (.tuple #[])/\∃d',PC N F l d' w'/\Stab.Moved a b d d'/\Stab.Srt Stab.lx d' a b/\w.grownBy w' (some F):=by
 have ay:=Ab ap;have bm:=Ab a3;have bk:=Ab aw;have bd:=Ab ai;have b9:((m:Int)-(a:Int)==1)=false:=by rw[beq_eq_false_iff_ne];omega
 have cj:((b:Int)-(m:Int)==1)=true:=by rw[beq_iff_eq];have:=Aa af;omega
 clear ap a3 aw ai;go_enter Tryz.func285,Tryz.ntmps285
 go_wp2;go_loopw [14,15,16] (fun Y aa b8 wr=>∃i j q:Nat,a<=i/\i<=j/\j<=m/\Y=.int .i64 i/\aa=.int .i64 j/\(a<i->Stab.lx (d (i-1)) (d m))/\(j<m->Stab.lx (d m) (d j))/\wr=w.drewN q) (fun Y aa _ _=>(intOf aa).toNat-(intOf Y).toNat)
 case atStart=>exact⟨a,m,0,VB _,by omega,VB _,rfl,rfl,fun h=>by omega,fun h=>by omega,rfl⟩
 case round=>
  obtain⟨i,j,q,hi,b4,aj,rfl,rfl,bb,ax,a2⟩:=hrel;have H:=Ab a2;have ak:=Ab bb;have a5:=Ab ax;clear bb ax a2
  by_cases ci:i<j
  . obtain⟨c,bn⟩:∃c,c=(i+j)/2:=⟨_,rfl⟩
    have cn:i<=c:=by omega
    have ce:c<j:=by omega
    have E:Hid (((i:Int)+(j:Int))/2=(c:Int)):=by unfold Hid;omega
    have U:=Ab (Stab.cross_less (Aa bk c m (by omega) (by omega) (VB _) bc));have M:PC N F l d wr:=by rw[Aa H];exact(Aa ay).drewN q
    have a7:Cx F ag a8 a6 a9 av l wr:=by rw[Aa H];exact(Aa bd).drewN q
    have au:=fun n=>DN M a7 m c (by omega) (by omega) n
    have cc:=(M c (by omega)).1.1;have ca:=(M m (by omega)).1.1;generalize (d c).2=y at*;generalize (d m).2=z at*;have bo:=Ab au;clear bn M a7 au;have b0:(c:Int)<(N:Int):=by omega
    have b7:(m:Int)<(N:Int):=by omega
    go_wp2_with fail
    rw[Aa E];go_wp2_with fail
    go_quiet ((go_at_call 276;refine Calls.quiet_of (Aa bo _)))
    rw[Yq]
    cases O:decide ((d m).1<(d c).1)with
    |true=>
     have ah:=Ab ((Aa U).1 O);clear U O;go_wp2;go_roundw
     case rel=>exact⟨i,c,_,hi,by omega,by omega,rfl,rfl,Aa ak,fun _=>Aa ah,by rw[Aa H,World.drewN_drewN]⟩
     case measure=>simp[intOf];omega
    |false=>
     have ah:=Ab ((Aa U).2 O);clear U O;go_wp2;go_roundw
     case rel=>exact⟨c+1,j,_,by omega,by omega,aj,by go_num,rfl,fun _=>Aa ah,Aa a5,by rw[Aa H,World.drewN_drewN]⟩
     case measure=>simp[intOf];omega
  . obtain rfl:i=j:=by omega
    have cq:¬(i:Int)<(i:Int):=by omega
    have bh:Hid (Stab.rot d m m (m+1)=d):=Stab.rot_left d m (m+1);have bg:Hid (PC N F l d wr):=by rw[Aa H];exact(Aa ay).drewN q
    have bv:Hid (w.grownBy wr (some F)):=by rw[Aa H];exact Ge (Aw _ _) q
    go_wp2;go_loopw [17] (fun vk az=>∃k:Nat,i<=k/\k<=m/\vk=.int .i64 k/\PC N F l (Stab.rot d k m (m+1)) az/\w.grownBy az (some F)) (fun vk _=>(intOf vk).toNat)
    case atStart=>exact⟨m,aj,VB _,rfl,by rw[Aa bh];exact Aa bg,Aa bv⟩
    case round=>
     obtain⟨k,cg,Z,rfl,ao,al⟩:=hrel;have G:=Ab ao;have a4:=Ab al;clear ao al
     by_cases cd:i<k
     . have bu:=Ab (Stab.rot_down d k m (by omega) Z);generalize Stab.rot d k m (m+1)=dk at*;obtain⟨t,ar⟩:∃t,t=k-1:=⟨_,rfl⟩
       have I:k<N:=by omega
       have T:t<N:=by omega
       have c1:=((Aa G) k I).1.1;have f1:=((Aa G) k I).1.2;have c2:=((Aa G) t T).1.1;have f2:=((Aa G) t T).1.2;have ba:=Ab ((Aa G).sw k t I T);have a1:=Ab (Cb (Aj (Aa a4) (Mf wr F (dk k).2 (dk t).2 k t)));obtain⟨u,bj⟩:=PC.c2 (Aa G) k t I T (.int .i64 (dk t).2);generalize (dk k).2=x at*;generalize (dk t).2=y at*;have bz:(k:Int)<(N:Int):=by omega
       have ec:((k:Int)-1).toNat=t:=by omega
       have pc:(0:Int)<=(k:Int)-1:=by omega
       have ck:(k:Int)-1<(N:Int):=by omega
       have b3:IntKind.i64.wrap ((k:Int)-1)=(k:Int)-1:=by rw[IntKind.wrap_i64];omega
       have bq:=Ab ar;clear ar G;go_wp2_with fail
       go_big_region
       clear c1 c2 bj f1 f2;unfold swC at ba a1;go_wp2;go_roundw
       case rel=>exact⟨k-1,by omega,by omega,by go_num,by rw[<-Aa bu,<-Aa bq];exact Aa ba,Aa a1⟩
       case measure=>simp[intOf];omega
     . obtain rfl:k=i:=by omega
       have co:¬(k:Int)<(k:Int):=by omega
       have ac:=(Stab.moved_rot d k m (m+1) Z (by omega)).wider hi (by omega) (VB _);have ae:=Stab.ins_last hi Z (Aa bm) (Aa ak) (Aa a5);rw[<-Aa af]at ac ae;have bw:=Ab ac;have bi:=Ab ae;rw[<-Aa af]at G;clear ac ae;go_wp2;refine bodyPost_ret (results_none rfl _ _ _) rfl ?_;exact⟨rfl,_,Aa G,Aa bw,Aa bi,Aa a4⟩
end Go.Proofs.YtleocpdblhbimaaGreatDoor
