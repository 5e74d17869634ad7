import Derived.Test.YtleocpdblhbimaaGreatDoorQ25
import Derived.Deep.DeepCutAuto
import Derived.Laws.AppendOwnNone
set_option linter.unusedSimpArgs false
set_option maxHeartbeats 4000000
namespace Go.Proofs.YtleocpdblhbimaaGreatDoor
open Go.RowKit
set_option linter.unusedVariables false
set_option maxRecDepth 100000
theorem Pk (n:Nat):freeN n<8:=by unfold freeN;omega
theorem J9 (n:Nat):(n+freeN n)%8=0:=by unfold freeN;omega
theorem GT {n:Nat}:freeN (n+1)=(if freeN n=0 then 8 else freeN n)-1:=by unfold freeN;split<;>omega
theorem Dr (S:List Bool):(padB S).length=S.length+freeN S.length:=by simp[padB]
theorem Z3z (bs:List Nat)(n f x k:Nat)(S:List Bool)(aa:bs.length=n)(ae:1<=f)(Z:f<=8)(M:rowB bs n=S++List.replicate f false):
 rowB (bs.set (n-1) (bs.getD (n-1) 0|||x/2^k%2*2^(8-f))) n=S++ [x.testBit k]++List.replicate (f-1) false:=by
 have Y:=congrArg List.length M;rw[Af,VE,XD]at Y;have hb:∀i,i<8*n->Iq bs i=(S++List.replicate f false).getD i false:=fun i hi=>by rw[<-M,Hf bs n i hi]
 apply XK
 . rw[Af];simp;omega
 . intro i G ac;rw[Af]at G;have H:∀(l:List Bool) (hi:i<l.length),l[i]=l.getD i false:=fun l hi=>by simp[List.getD,hi]
   rw[H,H,Hf _ n i G];unfold Iq;rw[CZ];have F:=hb i G;unfold Iq at F
   by_cases e:i/8=n-1
   . rw[e]at F ⊢;rw[if_pos ⟨rfl,by omega⟩,Nat.testBit_or,Qf,F]
     by_cases E:i<S.length
     . have:¬i%8=8-f:=by omega
       rw[decide_eq_false this,Bool.false_and,Bool.or_false];simp only[List.getD];rw[VS,WN E,WN E]
     . by_cases O:i=S.length
       . subst O;have:S.length%8=8-f:=by omega
         rw[decide_eq_true this,ZF];simp only[List.getD];rw[VX (VB _),XW,VS,VX (VB _),XW];obtain⟨I,rfl⟩:∃I,f=I+1:=⟨f-1,by omega⟩
         simp[List.replicate_succ]
       . have:¬i%8=8-f:=by omega
         rw[decide_eq_false this,Bool.false_and,Bool.or_false];simp only[List.getD];rw[VX (by omega),VX (by simp;omega)]
         have hr:∀(m j:Nat),((List.replicate m false:List Bool)[j]?).getD false=false:=by
          intro m j
          by_cases U:j<m<;>simp[U]
         rw[hr,hr]
   . rw[if_neg (fun T=>e T.1.symm),F];have E:i<S.length:=by omega
     simp only[List.getD];rw[VS,WN E,WN E]
theorem Z3p {bs:List Nat}{y:Nat}(E:∀j,bs.getD j 0<256)(G:y<256)(j:Nat):(bs++ [y]).getD j 0<256:=by
 simp only[List.getD]
 by_cases e:j<bs.length
 . rw[WN e];exact E j
 . rw[VX (by omega)]
   by_cases e2:j-bs.length=0
   . rw[e2];simpa using G
   . obtain⟨q,F⟩:∃q,j-bs.length=q+1:=⟨j-bs.length-1,by omega⟩
     rw[F];simp
structure RIs (No:Nat->Prop)(B:Nat)(w:World)(b:Nat)(S:List Bool):Prop where
 base:B<=b
 no:¬No b
 ex:∃ov bs,w.heap[b]? =some (.cells #[ov,.int .i64 (freeN S.length:Nat)] 179 (0,0))/\w.ownsRow (b+1) 5 1 ov bs.length (u8s bs)/\(∀g,ov.ownBlock=some g->¬No g)/\(∀j,bs.getD j 0<256)/\rowB bs bs.length=padB S
structure Rp (No:Nat->Prop)(B:Nat)(w:World)(b:Nat)(S:List Bool)(w':World):Prop where
 is:RIs No B w' b S
 below:Below B w w'
 kp:Kp No w w'
theorem RIs.lt {No:Nat->Prop}{B b:Nat}{w:World}{S:List Bool}(E:RIs No B w b S):b<w.heap.size:=by
 obtain⟨ov,bs,F,_⟩:=E.ex;exact(VK.1 F).1
theorem Rp.refl {No:Nat->Prop}{B b:Nat}{w:World}{S:List Bool}(E:RIs No B w b S):Rp No B w b S w:=⟨E,Below.refl _ _,Kp.refl _ _⟩
theorem Rp.trans {No:Nat->Prop}{B b:Nat}{w G H:World}{S F:List Bool}(E:Rp No B w b S G)(k:Rp No B G b F H):Rp No B w b F H:=⟨k.is,E.below.trans k.below,E.kp.trans k.kp E.below.size⟩
theorem RIs.grow {No No':Nat->Prop}{B b:Nat}{w w':World}{S:List Bool}(E:RIs No B w b S)(I:Below w.heap.size w w')(H:∀g,No' g->No g\/w.heap.size<=g):RIs No' B w' b S:=by
 obtain⟨ov,bs,O,G,T,M,U⟩:=E.ex;refine⟨E.base, ?_,ov,bs,(I.block b E.lt).trans O,Au G (fun g F=>I.block g (G.lt g F).2), ?_,M,U⟩
 . intro e
   rcases H b e with e|e
   . exact E.no e
   . have:=E.lt;omega
 . intro g F e
   rcases H g e with e|e
   . exact T g F e
   . have:=(G.lt g F).2;omega
theorem RIs.drewN {No:Nat->Prop}{B b:Nat}{w:World}{S:List Bool}(E:RIs No B w b S)(q:Nat):RIs No B (w.drewN q) b S:=E.grow (Ae (Below.refl _ _) q) (fun g e=>.inl e)
theorem RIs.drew {No:Nat->Prop}{B b:Nat}{w:World}{S:List Bool}(E:RIs No B w b S)(q:Nat):Rp No B w b S (w.drewN q):=⟨E.drewN q,Ae (Below.refl _ _) q,fun _ _ _=>rfl⟩
def Z8i (No:Nat->Prop)(B:Nat)(w:World)(b:Nat)(S:List Bool)(n f g cap:Nat)(bs:List Nat)(wc:World):Prop:=
 wc.heap[b]? =some (.cells #[.slice (some ⟨g,0,none⟩) n cap,.int .i64 (f:Nat)] 179 (0,0))/\wc.ownsRow (b+1) 5 1 (.slice (some ⟨g,0,none⟩) n cap) n (u8s bs)/\¬No g/\bs.length=n/\(∀j,bs.getD j 0<256)/\rowB bs n=S++List.replicate f false/\1<=f/\f<=8/\(f-1=freeN (S.length+1))/\Below B w wc/\Kp No w wc
theorem Dp (No:Nat->Prop)(B b n s:Nat)(S:List Bool)(w:World)(E:RIs No B w b S)(b7:n<65536)(dj:s<=16)(dw:S.length<=300000)(b5:∀g,w.heap.size<=g->¬No g):
 Calls Tryz.prog 147 #[.pointer (some ⟨b,0,none⟩),.int .i64 (n:Int),.int .i64 (s:Int)] w fun e w'=>e=.returned (.tuple #[])/\Rp No B w b (S++Al n s) w':=by
 obtain⟨ce,hi,c9,bj,cm⟩:=info_parts Gz;have H:=Ab E;have cp:=Ab b5;clear E b5;go_enter Tryz.func147,Tryz.ntmps147
 go_wp2;go_loopw [8] (fun i wr=>∃k:Nat,k<=s/\i=.int .i64 k/\Rp No B w b (S++Al n k) wr) (fun i _=>s-(intOf i).toNat)
 case atStart=>exact⟨0,VH _,rfl,by simpa[Al]using Rp.refl (Aa H)⟩
 case round=>
  obtain⟨k,di,rfl,I⟩:=hrel
  by_cases dp:k<s
  . have ct:(S++Al n k).length=S.length+k:=by rw[VE,Ah]
    have bq:S++Al n (k+1)=S++Al n k++ [n.testBit k]:=by rw[Al,VS]
    have cg:=Ab bq;obtain⟨F,bf⟩:=exq (S++Al n k);rw[bf]at ct I;have c6:=Ab bf;clear bf bq;obtain⟨ov,bs,M,a8,bn,b4,G⟩:=I.is.ex;have bd:=congrArg List.length G;rw[Af,Dr]at bd;have c8:=Pk F.length;have cq:=I.is.lt;have ap:=I.is.base;have a2:=I.is.no;have ai:=Ab I;have dc:=I.below.size;have c0:wr.cell? ⟨b,0,none⟩=some ov:=Ac M;have c1:wr.cell? ⟨b,1,none⟩=some (.int .i64 (freeN F.length:Nat)):=Ac M;have f0:=frozen_of_row wr b 0 _ _ M;have f1:=frozen_of_row wr b 1 _ _ M;obtain⟨a,cc,az⟩:∃a c,ov=.slice a bs.length c:=An a8;have bo:=Ab M;have ar:=Ab a8;have bc:=Ab bn;have bw:=Ab b4;have bm:=Ab G;have a7:=GT (n:=F.length);obtain⟨ak,a6⟩:=exq (freeN F.length);obtain⟨L,bb⟩:=exq (bs.length);rw[a6]at c1 bd c8 a7;have au:=Ab a6;have ac:=Ab bb;rw[bb]at az bd;clear M a8 bn b4 G a6 bb I;go_upto_if 15 with (fail)
    go_cut [] (fun wc=>∃n2 f g cap Z,Hid (Z8i No B w b F n2 f g cap Z wc)/\n2<=40000)
    case first=>
     by_cases b0:ak=0
     . subst b0;subst az
       have cn:Hid ((Value.slice a L cc).ownBlock=none\/ (Value.slice a L cc).ownBlock≠some b):=by
        cases T:(Value.slice a L cc).ownBlock with
        |none=>exact .inl rfl
        |some g=>
         refine .inr (fun e=> ?_);have:=((Aa ar).lt g T).1
         cases e
         omega
       have cj:Hid (wr.ownsRow (b+1) 5 1 (.slice a L cc) L (u8s bs)):=by
        have:=Aa ar
        rw[Aa ac]at this;exact Ab this
       go_wp2_with (at_builtin;refine wpList_append_own_at _ rfl _ _ 23 rfl (b+1) 5 ce (.int .u8 0) 1 1 Tryz.underlying23 hi c9 bj cm rfl (by decide) _ L (u8s bs) rfl ((Aa cj).alloc _) ⟨wr.heap.size,0,none⟩ 1 1 [.int .u8 0] rfl rfl (cell_one_new _ _ _) (Bc rfl) (by unfold maxLen;omega) (by omega) (by simp;omega) ?_)
       intro v' w3 a3 ah _ bz;have a9:=a3;obtain⟨U,aj,O,bi,bh⟩:=Ba a3 (by omega)
       have a1:w3.heap[b]? =some (.cells #[.slice a L cc,.int .i64 ((0:Nat):Int)] 179 (0,0)):=by
        rw[ah.block b (by simp;omega) (fun e=>by rcases Aa cn with E|E;rw[E]at e;cases e;exact E e.symm)];have:=Aa bo
        rw[Aa au]at this;exact(Below.heap_alloc wr _ b cq).trans this
       have d5:w3.cell? ⟨b,0,none⟩=some (.slice a L cc):=Ac a1;have dq:=frozen_of_row w3 b 0 _ _ a1
       have ax:(w3.setCell ⟨b,0,none⟩ v').heap[b]? =some (.cells #[v',.int .i64 ((0:Nat):Int)] 179 (0,0)):=by
        rw[heap_setCell_same w3 b 0 _ _ _ a1];rfl
       have df:(w3.setCell ⟨b,0,none⟩ v').cell? ⟨b,1,none⟩=some (.int .i64 ((0:Nat):Int)):=Ac ax;have du:=frozen_of_row (w3.setCell ⟨b,0,none⟩ v') b 1 _ _ ax
       have a4:Hid (Z8i No B w b F (L+1) 8 U aj (bs++ [0]) ((w3.setCell ⟨b,0,none⟩ v').setCell ⟨b,1,none⟩ (.int .i64 8))):=by
        have av:=Ad w3 b 0 v';have Y:=Ad (w3.setCell ⟨b,0,none⟩ v') b 1 (.int .i64 8);have cv:=ah.size;simp only[World.size_alloc]at cv;have bj:=av.size
        have bv:v'.ownBlock=none\/v'.ownBlock≠some b:=by
         cases T:v'.ownBlock with
         |none=>exact .inl rfl
         |some g=>
          refine .inr (fun e=> ?_);have:=(a9.lt g T).1
          cases e
          omega
        have b3:=Aa ai;refine⟨?_, ?_, ?_, ?_,Z3p (Aa bw) (by decide), ?_,by omega,by omega, ?_, ?_, ?_⟩
        . rw[heap_setCell_same _ b 1 _ _ _ ax,<-O];rfl
        . rw[<-O];have:=(a9.kept av bv).kept Y bv
          rw[Wx];exact this
        . rcases bz with E|E
          . exact Aa bc U (by rw[<-E,O];rfl)
          . rw[O]at E;have:=VM E
            exact Aa cp U (by simp at this;omega)
        . rw[VE,Aa ac];rfl
        . have G:=Aa bm;have e:=Xi bs [0] 1;rw[Aa ac]at e G;rw[e,G];unfold padB;rw[Aa au];simp only[ZI,XA];rfl
        . rw[a7];rfl
        . have cw:=b3.below;have b1:=cw.alloc (by omega) (.cells #[.int .u8 0] 5);have b2:=b1.grown ah (by simp;omega) (fun g e=>by have:=((Aa ar).lt g e).1;omega);exact(b2.grown av (by omega) (fun g e=>by cases e;exact ap)).grown Y (by omega) (fun g e=>by cases e;exact ap)
        . have cd:=b3.kp;have k1:=cd.grown (ga (Aw wr none) (.cells #[.int .u8 0] 5)) dc (fun j e=>by cases e);have k2:=k1.grown ah (by simp;omega) (fun j e=>Aa bc j e);exact(k2.grown av (by omega) (fun g e=>by cases e;exact a2)).grown Y (by omega) (fun g e=>by cases e;exact a2)
       subst O;clear a3 a9 ah bz a1 ax bi bh;go_wp2
       all_goals go_meet
       all_goals exact⟨L+1,8,U,aj,bs++ [0],a4,by omega⟩
     . have dr:((ak:Int)==0)=false:=by rw[beq_eq_false_iff_ne];omega
       have bu:Hid (wr.ownsRow (b+1) 5 1 ov L (u8s bs)):=by
        have:=Aa ar
        rw[Aa ac]at this;exact Ab this
       obtain⟨U,aj,O,bi,bh⟩:=Ba (Aa bu) (by omega)
       have a4:Hid (Z8i No B w b F L ak U aj bs wr):=by
        have M:=Aa bo;have G:=Aa bm;rw[Aa au]at M;rw[Aa ac]at G;unfold padB at G;rw[Aa au]at G;rw[O]at M;refine⟨M,by rw[<-O];exact Aa bu,Aa bc U (by rw[O];rfl),Aa ac,Aa bw,G,by omega,by omega, ?_,(Aa ai).below,(Aa ai).kp⟩;rw[a7,if_neg b0]
       subst az;clear bi bh O;go_wp2
       all_goals go_meet
       all_goals exact⟨L,ak,U,aj,bs,a4,by omega⟩
    case rest=>
     obtain⟨n2,f,g,cap,Z,a5,dt⟩:=hcut;obtain⟨m1,m2,al,aa,aw,ay,dl,dm,ao,ag,bg⟩:=Aa a5;clear c0 c1 f0 f1 az;have ae:g≠b:=by have:=(m2.lt g rfl).1;omega
     have d7:1<=n2:=by
      have:=congrArg List.length ay
      rw[Af,VE,XD]at this;omega
     have c0:wc.cell? ⟨b,0,none⟩=some (.slice (some ⟨g,0,none⟩) n2 cap):=Ac m1;have c1:wc.cell? ⟨b,1,none⟩=some (.int .i64 (f:Nat)):=Ac m1;have f1:=frozen_of_row wc b 1 _ _ m1;obtain⟨x,T⟩:=exq (Z.getD (n2-1) 0);have ba:=aw (n2-1);rw[T]at ba
     have dz:wc.cell? ⟨g,n2-1,none⟩=some (.int .u8 (x:Int)):=by
      rw[m2.cellAt (n2-1) (by omega),<-T];simp[List.getD,aa,show n2-1<n2 by omega]
     have fl:=m2.frozenAt (n2-1);have dd:=Ab (Z08 x n k (8-f) ba b7 (by omega));have cz:=a5;have d6:((n2:Int)-1).toNat=n2-1:=by omega
     have dn:(0:Int)<=(n2:Int)-1:=by omega
     have dx:(n2:Int)-1<(n2:Int):=by omega
     have dh:(0:Int)<=8-(f:Int):=by omega
     have dy:∀v,(wc.setCell ⟨g,n2-1,none⟩ v).cell? ⟨b,1,none⟩=some (.int .i64 (f:Nat)):=fun v=>(World.cell?_setCell_other _ _ _ _ (by intro E;injection E;omega)).trans c1
     have ds:∀v,(wc.setCell ⟨g,n2-1,none⟩ v).frozen? ⟨b,1,none⟩=false:=fun v=>by simp[f1]
     have ci:=Ab T;have c7:=Ab ae;clear m1 m2 al aa aw ay ao ag bg T a5 ae;go_wp2;go_big_region
     go_wp2;go_roundw
     case rel=>
      obtain⟨m1,m2,al,aa,aw,ay,db,ck,ao,ag,bg⟩:=Aa cz;have c5:=Aa dd;have ae:=Aa c7;rw[c5];have b9:(x|||n/2^k%2*2^(8-f))<256:=Nat.or_lt_two_pow (n:=8) ba (XO (Wd (BP (k:=8-f) (by omega))) (by decide));have af:=m2.stored (n2-1) (.int .u8 ((x|||n/2^k%2*2^(8-f):Nat):Int));have bk:=Z3z Z n2 f n k F aa db ck ay;rw[Aa ci]at bk;generalize (x|||n/2^k%2*2^(8-f))=y at*;have Y:=Ad (wc.setCell ⟨g,n2-1,none⟩ (.int .u8 ((y:Nat):Int))) b 1 (.int .i64 ((f:Int)-1))
      have co:(wc.setCell ⟨g,n2-1,none⟩ (.int .u8 ((y:Nat):Int))).heap[b]? =some (.cells #[.slice (some ⟨g,0,none⟩) n2 cap,.int .i64 (f:Nat)] 179 (0,0)):=
       (af.2.block b (VK.1 m1).1 (fun e=>ae (VM e).symm)).trans m1
      have dv:b<wc.heap.size:=(VK.1 m1).1;have bj:=af.2.size;refine⟨k+1,by omega,by go_num, ?_⟩;have cy:S++Al n (k+1)=F++ [n.testBit k]:=by rw[Aa cg,Aa c6]
      rw[cy];refine⟨⟨ap,a2,.slice (some ⟨g,0,none⟩) n2 cap,Z.set (n2-1) y, ?_, ?_, ?_, ?_, ?_⟩, ?_, ?_⟩
      . show (((wc.setCell ⟨g,n2-1,none⟩ (.int .u8 ((y:Nat):Int))).setCell ⟨b,1,none⟩ (.int .i64 ((f:Int)-1))).heap)[b]? =_
        rw[heap_setCell_same _ b 1 _ _ _ co,VE];show some (Obj.cells #[_,.int .i64 ((f:Int)-1)] _ _)=some (Obj.cells #[_,.int .i64 ((freeN (F.length+1):Nat):Int)] _ _)
        rw[<-ao,show ((f:Int)-1)=((f-1:Nat):Int) by omega]
      . have da:=Z0f (af.1.kept Y (.inr (fun e=>ae (VM e))));have cu:u8s (Z.set (n2-1) y)=(u8s Z).set (n2-1) (.int .u8 ((y:Nat):Int)):=by rw[u8s,List.map_set]
        rw[XS,aa,cu];exact da
      . intro de b8;have:g=de:=by simpa[Value.ownBlock]using b8
        rw[<-this];exact al
      . intro j;rw[CZ]
        split
        . exact b9
        . exact aw j
      . rw[XS,aa,bk];unfold padB;rw[VE];show _=F++ [n.testBit k]++List.replicate (freeN (F.length+1)) false
        rw[<-ao]
      . exact((ag.grown af.2 (by omega) (fun j e=>by have:=VM e;have:=(m2.lt g rfl).1;omega)).grown Y (by omega) (fun j e=>by cases e;exact ap)).drew
      . have k1:=bg.grown af.2 ag.size (fun j e=>by rw[<-VM e];exact al);exact k1.grown (Cb Y) (by have:=ag.size;omega) (fun j e=>by cases e;exact a2)
     case measure=>simp[intOf];omega
  . obtain rfl:k=s:=by omega
    have ai:=Ab I;clear I;go_wp2;go_end0
    exact⟨rfl,Aa ai⟩
theorem MD (No:Nat->Prop)(B b:Nat)(S:List Bool)(w:World)(E:RIs No B w b S):
 Calls Tryz.prog 176 #[.pointer (some ⟨b,0,none⟩)] w fun e w'=>e=.returned (.tuple #[])/\Rp No B w b (padB S) w':=by
 obtain⟨ov,bs,F,H,O,I,T⟩:=E.ex;have U:=E.base;have M:=E.no;have aa:=E.lt;have c1:w.cell? ⟨b,1,none⟩=some (.int .i64 (freeN S.length:Nat)):=Ac F;have f1:=frozen_of_row w b 1 _ _ F
 have Z:Hid (Rp No B w b (padB S) (w.setCell ⟨b,1,none⟩ (.int .i64 0))):=by
  have G:=Ad w b 1 (.int .i64 0);have e0:freeN (padB S).length=0:=by rw[Dr];have:=J9 S.length;unfold freeN at*;omega
  refine⟨⟨U,M,ov,bs, ?_, ?_,O,I, ?_⟩, ?_, ?_⟩
  . rw[heap_setCell_same w b 1 _ _ _ F,e0];rfl
  . refine H.kept G ?_
    cases Y:ov.ownBlock with
    |none=>exact .inl rfl
    |some g=>
     refine .inr (fun e=> ?_);have:=(H.lt g Y).1
     cases e
     omega
  . rw[T];unfold padB;unfold padB at e0;rw[e0];simp
  . exact(Below.refl B w).grown G (by omega) (fun g e=>by cases e;exact U)
  . exact(Kp.refl No w).grown G (VB _) (fun g e=>by cases e;exact M)
 clear E F H O I T;generalize (freeN S.length)=ac at*;go_enter Tryz.func176,Tryz.ntmps176
 go_wp2;go_end0
 exact⟨rfl,Aa Z⟩
theorem Z1k (S:List Bool):freeN (padB S).length=0:=by rw[Dr];have:=J9 S.length;unfold freeN at*;omega
theorem BV {S:List Bool}(E:freeN S.length=0):padB S=S:=by unfold padB;rw[E];simp
theorem EO:(List.range 3001).all (fun n=>bits .and .i64 (bits .xor .i64 (-1) (n:Int)) 65535==((65535-n:Nat):Int))=true:=by decide+kernel
theorem KQ {n:Nat}(E:n<=3000):bits .and .i64 (bits .xor .i64 (-1) (n:Int)) 65535=((65535-n:Nat):Int):=by
 have:=WX.1 EO n (by simp;omega)
 simpa using this
theorem LP {w:World}{a:Option Addr}{bs:List Nat}{n G:Nat}(I:bs.length=n)(H:BytesIn w a bs)(O:a=none->G=0):(a=none/\n=0/\G=0/\bs= [])\/∃ad,a=some ad/\∀j u,(u8s bs)[j]? =some u->w.cell? (ad.add j)=some u:=by
 cases a with
 |none=>
  rcases H with h|⟨b,o,e,_⟩
  . subst h;exact .inl ⟨rfl,I.symm,O rfl,rfl⟩
  . cases e
 |some ad=>
  refine .inr ⟨ad,rfl, ?_⟩
  rcases H with h|⟨b,o,e,hb,h⟩
  . subst h;intro j u E;simp at E
  . cases e
    intro j u E;have M:(⟨b,o,none⟩:Addr).add j=⟨b,o+j,none⟩:=by unfold Addr.add;split<;>simp_all
    have F:j<bs.length:=by
     by_cases c:j<bs.length
     . exact c
     . rw[WJ (by simp;omega)]at E;cases E
    rw[M,h j F];simp[F]at E
    subst E;simp[List.getD,F]
theorem Yu {w w':World}{a:Option Addr}{bs:List Nat}(E:BytesIn w a bs)(I:w.heap.size<=w'.heap.size)(F:∀b o,a=some ⟨b,o,none⟩->bs≠ []->b<w.heap.size->w'.heap[b]? =w.heap[b]?):BytesIn w' a bs:=by
 by_cases e:bs= []
 . exact .inl e
 . rcases E with E|⟨b,o,rfl,hb,H⟩
   . exact absurd E e
   . exact .inr ⟨b,o,rfl,by omega,fun j G=>(World.cell?_of_block (w:=w) (a:=⟨b,_,none⟩) (F b o rfl e hb)).trans (H j G)⟩
theorem Xl (No:Nat->Prop)(B E:Nat)(a:Option Addr)(n au:Nat)(bs:List Nat)(S:List Bool)(w:World)(U:RIs No B w E S)(a1:bs.length=n)(bu:n<=3000)(a3:a=none->au=0)(bi:BytesIn w a bs)(af:∀j,bs.getD j 0<256)(a6:∀b o,a=some ⟨b,o,none⟩->bs≠ []->No b)(ak:∀g,w.heap.size<=g->¬No g)(cw:S.length<=290000):
 Calls Tryz.prog 148 #[.pointer (some ⟨E,0,none⟩),.slice a n au] w fun e w'=>e=.returned (.tuple #[])/\Rp No B w E (Qm S bs) w':=by
 obtain⟨a4,hi,ci,cm,cd⟩:=info_parts Gz;have cg:=Dr S;have cq:=Pk S.length;have a7:=Ab (MD No B E S w U);have ba:=Ab (fun ag (r:Rp No B w E (padB S) ag)=>Dp No B E n 16 (padB S) ag r.is (by omega) (by decide) (by omega) (fun g T=>ak g (by have:=r.below.size;omega)));have bj:=Ab (fun ai (r:Rp No B w E (padB S++Al n 16) ai)=>Dp No B E (65535-n) 16 (padB S++Al n 16) ai r.is (by omega) (by decide) (by rw[VE,Ah];omega) (fun g T=>ak g (by have:=r.below.size;omega)));have bq:Qm S bs=padB S++Al n 16++Al (65535-n) 16++rowB bs bs.length:=by unfold Qm padB;rw[a1]
 rw[bq];have cn:=KQ bu;have a5:=Ab (fun w3 O (r:Rp No B w E O w3)=>Yu bi r.below.size (fun b o e b0 hb=>r.kp b hb (a6 b o e b0)));have ae:=Ab a1;have b8:=Ab af;have b3:=Ab a3;have ce:=Ab ak;have co:=U.lt;have a8:=U.base;have bm:=U.no;clear bq U bi a6 a3 af a1 ak;go_enter Tryz.func148,Tryz.ntmps148
 go_wp2_with fail
 refine(Aa a7).mono ?_;rintro e ag ⟨rfl,al⟩;have bb:=Ab (Aa ba ag al);have a9:=Ab al;clear al a7 ba;go_wp2_with fail
 refine(Aa bb).mono ?_;rintro e ai ⟨rfl,bh⟩;have ax:=(Aa a9).trans bh;have bo:=Ab (Aa bj ai ax);have bd:=Ab ax;clear bh ax bj bb a9;go_wp2_with fail
 refine(Aa bo).mono ?_;rintro e w3 ⟨rfl,bf⟩;have G:=(Aa bd).trans bf;obtain⟨O,Y⟩:=exq (padB S++Al n 16++Al (65535-n) 16);rw[Y]at G;have a2:O.length=(padB S).length+32:=by rw[<-Y];simp[Ah]
 have av:freeN O.length=0:=by
  have:=Z1k S
  rw[a2];unfold freeN at*;omega
 have ct:=Ab Y;obtain⟨ov,old,Z,M,ar,bn,ah⟩:=G.is.ex;rw[BV av]at ah;rw[av]at Z;have ao:=congrArg List.length ah;rw[Af]at ao;have bv:=LP (Aa ae) (Aa a5 w3 _ G) (Aa b3);have c0:w3.cell? ⟨E,0,none⟩=some ov:=Ac Z;have f0:=frozen_of_row w3 E 0 _ _ Z;obtain⟨L,az⟩:=exq (old.length);rw[az]at M ao;have b7:=G.below.size
 have aa:Hid (∀v' F,F.ownsRow (E+1) 5 1 v' (L+n) (u8s old++u8s bs)->w3.grownBy F ov.ownBlock->(v'.ownBlock=ov.ownBlock\/v'.ownBlock=some w3.heap.size)->F.cell? ⟨E,0,none⟩=some ov/\F.frozen? ⟨E,0,none⟩=false/\Rp No B w E (padB S++Al n 16++Al (65535-n) 16++rowB bs bs.length) (F.setCell ⟨E,0,none⟩ v')):=by
  intro v' F I H aj;have ay:F.heap[E]? =some (.cells #[ov,.int .i64 ((0:Nat):Int)] 179 (0,0)):=(H.block E (by omega) (fun e=>by have:=(M.lt E e.symm).1;omega)).trans Z;have ap:=Ad F E 0 v';have cp:=H.size;have b9:(rowB bs bs.length).length=8*n:=by rw[Af,Aa ae]
  have bk:freeN (O++rowB bs bs.length).length=0:=by
   rw[VE,b9];unfold freeN at*;omega
  refine⟨Ac ay,frozen_of_row F E 0 _ _ ay, ?_⟩;rw[Y];refine⟨⟨a8,bm,v',old++bs, ?_, ?_, ?_, ?_, ?_⟩, ?_, ?_⟩
  . rw[bk,heap_setCell_same _ E 0 _ _ _ ay];rfl
  . rw[VE,az,Aa ae];have e:u8s (old++bs)=u8s old++u8s bs:=by simp
    rw[e];refine I.kept ap ?_
    cases af:v'.ownBlock with
    |none=>exact .inl rfl
    |some g=>
     refine .inr (fun e=> ?_);have:=(I.lt g af).1
     cases e
     omega
  . intro g T
    rcases aj with e|e
    . exact ar g (by rw[<-e];exact T)
    . rw[e]at T;have:=VM T
      exact Aa ce g (by omega)
  . intro j
    by_cases b5:j<old.length
    . have:=bn j
      simp only[List.getD]at this ⊢;rw[WN b5];exact this
    . have:=Aa b8 (j-old.length)
      simp only[List.getD]at this ⊢;rw[VX (by omega)];exact this
  . rw[BV bk,VE,Xi old bs bs.length,<-az]at*;rw[ah]
  . exact(G.below.grown H (by omega) (fun g e=>by have:=(M.lt g e).1;omega)).grown ap (by omega) (fun g e=>by cases e;exact a8)
  . exact(G.kp.grown H b7 (fun g e=>ar g e)).grown ap (by omega) (fun g e=>by cases e;exact bm)
 have ac:=Ab M;have cu:L<=40000:=by omega
 have ck:0<L:=by omega
 obtain⟨ga,ca,bz,_,_⟩:=Ba M ck;clear Z M ar bn ah bf G bo bd ao cg Y a2 av a5 cn;subst bz
 rcases bv with ⟨rfl,rfl,rfl,rfl⟩|⟨ad,rfl,bg⟩
 . have bc:=Aa aa _ w3 (by simpa using Aa ac) (Aw w3 _) (.inl rfl);have aw:=Ab bc.2.2;clear bc aa;go_wp2_with (at_builtin;refine wpList_append_own_none rfl _ _ 23 rfl (E+1) 5 a4 1 Tryz.underlying23 hi _ L (u8s old) rfl (Aa ac) rfl ?_)
   go_end0
   exact⟨rfl,Aa aw⟩
 . have bw:=Ab bg;clear bg;go_wp2_with (at_builtin;refine wpList_append_own_at _ rfl _ _ 23 rfl (E+1) 5 a4 (.int .u8 0) 1 1 Tryz.underlying23 hi ci cm cd rfl (by decide) _ L (u8s old) rfl (Aa ac) ad n au (u8s bs) rfl (by rw[WL,Aa ae,Nat.mul_one]) (Aa bw) (by intro u b4;obtain⟨x,_,rfl⟩:=XG.1 b4;rfl) (by unfold maxLen;omega) (by omega) (by omega) ?_)
   intro v' F I H _ aj;obtain⟨r0,r1,r2⟩:=Aa aa v' F I H aj;obtain⟨cv,cy,cj,_,_⟩:=Ba I (by omega);have aw:=Ab r2;subst cj;clear I H aj r2 aa ac;go_wp2;go_end0
   exact⟨rfl,Aa aw⟩
end Go.Proofs.YtleocpdblhbimaaGreatDoor
namespace Go.Proofs.YtleocpdblhbimaaGreatDoor
open Go.RowKit
set_option linter.unusedVariables false
def PC (N bp:Nat)(l:List Int)(d:Nat->Int×Int)(W:World):Prop:=
 ∀k,k<N->(W.cell? ⟨bp,k,none⟩=some (.int .i64 (d k).2)/\W.frozen? ⟨bp,k,none⟩=false)/\∃p:Nat,(d k).2=p/\p<l.length/\(d k).1=l.getD p 0
structure Cx (bp bx bl ol ln lc:Nat)(l:List Int)(W:World):Prop where
 box:W.cell? ⟨bx,0,none⟩=some (.slice (some ⟨bl,ol,none⟩) ln lc)
 row:Row .i64 W bl ol l
 len:l.length=ln
 sm:ln<=288
 xlt:bx<W.heap.size
 llt:bl<W.heap.size
 plt:bp<W.heap.size
 xne:bx≠bp
 lne:bl≠bp
theorem Cx.grown {G I T M O H:Nat}{l:List Int}{W W':World}(E:Cx G I T M O H l W)(F:W.grownBy W' (some G)):Cx G I T M O H l W':=
 ⟨F.cell E.box (by simpa using E.xne),fun j U=>F.cell (E.row j U) (by simpa using E.lne),E.len,E.sm,VG E.xlt F.size,VG E.llt F.size,VG E.plt F.size,E.xne,E.lne⟩
theorem Cx.drewN {M G O H F I:Nat}{l:List Int}{W:World}(E:Cx M G O H F I l W)(n:Nat):Cx M G O H F I l (W.drewN n):=⟨E.box,E.row,E.len,E.sm,E.xlt,E.llt,E.plt,E.xne,E.lne⟩
def Z5w (x y:Int):Int:=if x<y then-1 else if y<x then 1 else 0
theorem Yq (x y:Int):decide (Z5w x y<0)=decide (x<y):=by
 unfold Z5w
 by_cases h:x<y
 . rw[if_pos h];simp[h]
 . rw[if_neg h]
   by_cases E:y<x
   . rw[if_pos E];simp[h]
   . rw[if_neg E];simp[h]
theorem Z8 (x y:Int)(w:World):Calls Tryz.prog 130 #[.int .i64 x,.int .i64 y] w fun e w'=>e=.returned (.int .i64 (Z5w x y))/\∃q,w'=w.drewN q:=by
 have hn:∀(x:Int) w,Calls Tryz.prog 168 #[.int .i64 x] w fun e w'=>e=.returned (.bool false)/\w'=w:=by
  intro x w;have F:(x !=x)=false:=by simp
  go_enter Tryz.func168,Tryz.ntmps168
  go_wp2;go_ret;exact⟨rfl,rfl⟩
 unfold Z5w;go_enter Tryz.func130,Tryz.ntmps130
 go_wp2_with fail
 refine(hn x w).mono ?_;rintro e E ⟨rfl,rfl⟩;go_wp2_with fail
 refine(hn y E).mono ?_;rintro e G ⟨rfl,rfl⟩
 by_cases h:x<y
 . go_wp2;go_ret;exact⟨rfl,0,rfl⟩
 . by_cases H:y<x
   . go_wp2;go_ret;exact⟨rfl,0,rfl⟩
   . go_wp2;go_ret;exact⟨rfl,0,rfl⟩
abbrev CF (bx:Nat):Value:=.func (.func 276) #[] #[.pointer (some ⟨bx,0,none⟩)]
theorem AB (T G U M F I:Nat)(l:List Int)(W:World)(p q:Nat)(O:p<l.length)(H:q<l.length)(E:Cx T G U M F I l W):
 Calls Tryz.prog 276 #[.int .i64 p,.int .i64 q,.pointer (some ⟨G,0,none⟩)] W fun e w'=>e=.returned (.int .i64 (Z5w (l.getD p 0) (l.getD q 0)))/\∃q,w'=W.drewN q:=by
 have hb:=E.box;have c1:=E.row p O;have c2:=E.row q H;have hl:=E.len;have Y:=E.sm;generalize l.getD p 0=x at*;generalize l.getD q 0=y at*;have Z:(p:Int)<(F:Int):=by omega
 have aa:(q:Int)<(F:Int):=by omega
 clear E;go_enter Tryz.func276,Tryz.ntmps276
 go_wp2;go_quiet ((go_at_call 130;refine Calls.quiet_of (Z8 _ _ _)))
 go_wp2;go_ret;exact⟨rfl,_,rfl⟩
theorem DN {N F E O I M H:Nat}{l:List Int}{d:Nat->Int×Int}{W:World}(G:PC N F l d W)(aa:Cx F E O I M H l W)(i j:Nat)(ae:i<N)(Y:j<N)(n:Nat):
 Calls Tryz.prog 276 #[.int .i64 (d i).2,.int .i64 (d j).2,.pointer (some ⟨E,0,none⟩)] (W.drewN n) fun e w'=>e=.returned (.int .i64 (Z5w (d i).1 (d j).1))/\∃q,w'=(W.drewN n).drewN q:=by
 obtain⟨_,p,Z,T,af⟩:=G i ae;obtain⟨_,q,ag,U,ac⟩:=G j Y;rw[Z,ag,af,ac];exact AB F E O I M H l (W.drewN n) p q T U (aa.drewN n)
def swC (W:World)(bp:Nat)(x y:Int)(i j:Nat):World:=(W.setCell ⟨bp,i,none⟩ (.int .i64 y)).setCell ⟨bp,j,none⟩ (.int .i64 x)
theorem Mf (W:World)(E:Nat)(x y:Int)(i j:Nat):W.grownBy (swC W E x y i j) (some E):=Aj (Ad W E i _) (Ad _ E j _)
theorem PC.sw {N F:Nat}{l:List Int}{d:Nat->Int×Int}{W:World}(G:PC N F l d W)(i j:Nat)(Y:i<N)(T:j<N):PC N F l (Stab.swp d i j) (swC W F (d i).2 (d j).2 i j):=by
 intro k O;obtain⟨⟨c0,f0⟩,Z⟩:=G k O;obtain⟨⟨H,_⟩,I⟩:=G i Y;obtain⟨⟨M,_⟩,U⟩:=G j T;unfold swC
 have e2:(W.setCell ⟨F,i,none⟩ (.int .i64 (d j).2)).cell? ⟨F,j,none⟩≠none:=by
  by_cases e:i=j
  . subst e;rw[World.cell?_setCell_same' _ _ _ (by rw[H];rfl)];simp
  . rw[World.cell?_setCell_other _ _ _ _ (by intro h;injection h;omega),M];simp
 refine⟨⟨?_,by simp[f0]⟩, ?_⟩
 . unfold Stab.swp
   by_cases e:k=j
   . subst e;rw[World.cell?_setCell_same' _ _ _ (by rw[Option.isSome_iff_ne_none];exact e2)]
     by_cases E:k=i
     . subst E;rw[if_pos rfl]
     . rw[if_neg E,if_pos rfl]
   . rw[World.cell?_setCell_other _ _ _ _ (by intro h;injection h;omega)]
     by_cases E:k=i
     . subst E;rw[if_pos rfl,World.cell?_setCell_same' _ _ _ (by rw[H];rfl)]
     . rw[if_neg E,if_neg e,World.cell?_setCell_other _ _ _ _ (by intro h;injection h;omega)];exact c0
 . unfold Stab.swp
   by_cases E:k=i
   . rw[if_pos E];exact U
   . rw[if_neg E]
     by_cases e:k=j
     . rw[if_pos e];exact I
     . rw[if_neg e];exact Z
theorem PC.c2 {N E:Nat}{l:List Int}{d:Nat->Int×Int}{W:World}(F:PC N E l d W)(i j:Nat)(H:i<N)(G:j<N)(v:Value):∃u,(W.setCell ⟨E,i,none⟩ v).cell? ⟨E,j,none⟩=some u:=by
 by_cases e:i=j
 . subst e;exact⟨v,World.cell?_setCell_same _ _ _ (F i H).1.1⟩
 . exact⟨_,(World.cell?_setCell_other _ _ _ _ (by intro h;injection h;omega)).trans (F j G).1.1⟩
theorem PC.drewN {N E:Nat}{l:List Int}{d:Nat->Int×Int}{W:World}(F:PC N E l d W)(n:Nat):PC N E l d (W.drewN n):=F
theorem Ge {a b:World}{r:Option Nat}(E:a.grownBy b r)(n:Nat):a.grownBy (b.drewN n) r:=⟨E.os,E.tape,E.output,E.size,E.block⟩
set_option maxRecDepth 100000 in
theorem Nf (ak:Value)(N F aj:Nat)(l:List Int)(d:Nat->Int×Int)(a b n:Nat)(w:World)(al:N<=288)(aw:a+n<=N)(ap:b+n<=N)(Z:PC N F l d w):
 Calls Tryz.prog 287 #[.slice (some ⟨F,0,none⟩) N aj,.int .i64 a,.int .i64 b,.int .i64 n,ak] w fun e w'=>e=.returned (.tuple #[])/\PC N F l (Stab.swr d a b n) w'/\w.grownBy w' (some F):=by
 have ah:=Ab Z;clear Z;go_enter Tryz.func287,Tryz.ntmps287
 go_wp2;go_loopw [10] (fun O wr=>∃i:Nat,i<=n/\O=.int .i64 i/\PC N F l (Stab.swr d a b i) wr/\w.grownBy wr (some F)) (fun O _=>n-(intOf O).toNat)
 case atStart=>exact⟨0,VH _,rfl,Aa ah,Aw _ _⟩
 case round=>
  obtain⟨i,hi,rfl,U,Y⟩:=hrel;have E:=Ab U;have T:=Ab Y;have ac:Hid (Stab.swr d a b (i+1)=Stab.swp (Stab.swr d a b i) (a+i) (b+i)):=rfl;clear U Y
  by_cases ao:i<n
  . generalize Stab.swr d a b i=G at*;obtain⟨s,aa⟩:∃s,s=a+i:=⟨_,rfl⟩
    obtain⟨t,ae⟩:∃t,t=b+i:=⟨_,rfl⟩
    have I:s<N:=by omega
    have H:t<N:=by omega
    have c1:=((Aa E) s I).1.1;have f1:=((Aa E) s I).1.2;have c2:=((Aa E) t H).1.1;have f2:=((Aa E) t H).1.2;have af:=Ab ((Aa E).sw s t I H);have M:=Ab (Aj (Aa T) (Mf wr F (G s).2 (G t).2 s t));obtain⟨u,ai⟩:=PC.c2 (Aa E) s t I H (.int .i64 (G t).2);generalize (G s).2=x at*;generalize (G t).2=y at*;have ea:((a:Int)+(i:Int)).toNat=s:=by omega
    have pa:(0:Int)<=(a:Int)+(i:Int):=by omega
    have au:(a:Int)+(i:Int)<(N:Int):=by omega
    have ra:IntKind.i64.wrap ((a:Int)+(i:Int))=(a:Int)+(i:Int):=by rw[IntKind.wrap_i64];omega
    have ec:((b:Int)+(i:Int)).toNat=t:=by omega
    have pc:(0:Int)<=(b:Int)+(i:Int):=by omega
    have ar:(b:Int)+(i:Int)<(N:Int):=by omega
    have av:IntKind.i64.wrap ((b:Int)+(i:Int))=(b:Int)+(i:Int):=by rw[IntKind.wrap_i64];omega
    rw[<-aa,<-ae]at ac;clear aa ae I H E;go_wp2_with fail
    go_big_region
    clear c1 c2 ai f1 f2;unfold swC at af M;have ag:=Ab (Cb (Aa M));clear M;go_wp2;go_roundw
    case rel=>exact⟨i+1,by omega,by go_num,by rw[Aa ac];exact Aa af,Aa ag⟩
    case measure=>simp[intOf];omega
  . obtain rfl:i=n:=by omega
    go_wp2;go_end0
    exact⟨rfl,Aa E,Aa T⟩
theorem Xk (U:Value)(N E T:Nat)(l:List Int)(d:Nat->Int×Int)(a m b:Nat)(w:World)(Y:N<=288)(a1:a<m)(a2:m<b)(az:b<=N)(ak:PC N E l d w):
 Calls Tryz.prog 286 #[.slice (some ⟨E,0,none⟩) N T,.int .i64 a,.int .i64 m,.int .i64 b,U] w fun e w'=>e=.returned (.tuple #[])/\PC N E l (Stab.rot d a m b) w'/\w.grownBy w' (some E):=by
 have au:=Ab ak;have aw:Hid (Stab.rot d (m-(m-a)) m (m+(b-m))=Stab.rot d a m b):=by rw[show m-(m-a)=a by omega,show m+(b-m)=b by omega];exact rfl
 clear ak;go_enter Tryz.func286,Tryz.ntmps286
 go_wp2;go_loopw [10,11] (fun ac Z wr=>∃(i j:Nat) (dk:Nat->Int×Int),0<i/\0<j/\i<=m-a/\j<=b-m/\ac=.int .i64 i/\Z=.int .i64 j/\Stab.rot dk (m-i) m (m+j)=Stab.rot d a m b/\PC N E l dk wr/\w.grownBy wr (some E)) (fun ac Z _=>(intOf ac).toNat+(intOf Z).toNat)
 case atStart=>exact⟨m-a,b-m,d,by omega,by omega,VB _,VB _,by go_num,by go_num,Aa aw,Aa au,Aw _ _⟩
 case round=>
  obtain⟨i,j,dk,ar,av,hi,ax,rfl,rfl,ai,ah,aj⟩:=hrel;have af:=Ab ah;have aa:=Ab aj;have ae:=Ab ai;clear ah aj ai
  rcases ZR i j with H|H|H
  . have al:((i:Int)!=(j:Int))=true:=by rw[bne_iff_ne];omega
    have ay:¬(j:Int)<(i:Int):=by omega
    have O:Hid ((m:Int)-(i:Int)=((m-i:Nat):Int)):=by unfold Hid;omega
    have ap:Hid ((m:Int)+(j:Int)-(i:Int)=((m+j-i:Nat):Int)):=by unfold Hid;omega
    go_wp2_with fail
    rw[Aa O,Aa ap];refine(Nf U N E T l dk _ _ _ _ Y (by omega) (by omega) (Aa af)).mono ?_;rintro e ao ⟨rfl,F,G⟩;have M:=Ab F;have I:=Ab (Aj (Aa aa) G);have ag:=Ab ((Stab.rot_lt dk m i j H (by omega)).trans (Aa ae));clear F G;go_wp2;go_roundw
    case rel=>exact⟨i,j-i,_,ar,by omega,hi,by omega,rfl,by go_num,Aa ag,Aa M,Aa I⟩
    case measure=>simp[intOf];omega
  . subst H;have al:((i:Int)!=(i:Int))=false:=by simp
    have O:Hid ((m:Int)-(i:Int)=((m-i:Nat):Int)):=by unfold Hid;omega
    go_wp2_with fail
    rw[Aa O];refine(Nf U N E T l dk _ _ _ _ Y (by omega) (by omega) (Aa af)).mono ?_;rintro e ao ⟨rfl,F,G⟩;rw[Stab.rot_eq dk m i (by omega),Aa ae]at F;have M:=Ab F;have I:=Ab (Aj (Aa aa) G);clear F G;go_wp2;go_end0
    exact⟨rfl,Aa M,Aa I⟩
  . have al:((i:Int)!=(j:Int))=true:=by rw[bne_iff_ne];omega
    have ay:(j:Int)<(i:Int):=by omega
    have O:Hid ((m:Int)-(i:Int)=((m-i:Nat):Int)):=by unfold Hid;omega
    go_wp2_with fail
    rw[Aa O];refine(Nf U N E T l dk _ _ _ _ Y (by omega) (by omega) (Aa af)).mono ?_;rintro e ao ⟨rfl,F,G⟩;have M:=Ab F;have I:=Ab (Aj (Aa aa) G);have ag:=Ab ((Stab.rot_gt dk m i j H (by omega)).trans (Aa ae));clear F G;go_wp2;go_roundw
    case rel=>exact⟨i-j,j,_,by omega,av,by omega,ax,by go_num,rfl,Aa ag,Aa M,Aa I⟩
    case measure=>simp[intOf];omega
set_option maxRecDepth 100000 in
theorem FW (N F bf Y aw au a2 a7:Nat)(l:List Int)(d:Nat->Int×Int)(a m b:Nat)(w:World)(af:Hid (m=a+1))(ci:N<=288)(ce:m<b)(ck:b<=N)(ay:Cx F Y aw au a2 a7 l w)
 (ar:PC N F l d w) (a9:Stab.Srt Stab.lx d m b) (al:Stab.Cross d a m b):
 Calls Tryz.prog 285 #[.slice (some ⟨F,0,none⟩) N bf,.int .i64 a,.int .i64 m,.int .i64 b,CF Y] w fun e w'=>e=.returned (.tuple #[])/\∃d',PC N F l d' w'/\Stab.Moved a b d d'/\Stab.Srt Stab.lx d' a b/\w.grownBy w' (some F):=by
 have a6:=Ab ar;have bw:=Ab a9;have bb:=Ab al;have bj:=Ab ay;have cg:((m:Int)-(a:Int)==1)=true:=by rw[beq_iff_eq];have:=Aa af;omega
 have bu:a<m:=by have:=Aa af;omega
 clear ar a9 al ay;go_enter Tryz.func285,Tryz.ntmps285
 go_wp2;go_loopw [10,11,12] (fun ac aa cd wr=>∃i j q:Nat,m<=i/\i<=j/\j<=b/\ac=.int .i64 i/\aa=.int .i64 j/\(m<i->Stab.lx (d (i-1)) (d a))/\(j<b->Stab.lx (d a) (d j))/\wr=w.drewN q) (fun ac aa _ _=>(intOf aa).toNat-(intOf ac).toNat)
 case atStart=>exact⟨m,b,0,VB _,by omega,VB _,rfl,rfl,fun h=>by omega,fun h=>by omega,rfl⟩
 case round=>
  obtain⟨i,j,q,hi,b4,ae,rfl,rfl,a4,ap,ax⟩:=hrel;have H:=Ab ax;have ag:=Ab a4;have av:=Ab ap;clear a4 ap ax
  by_cases cj:i<j
  . obtain⟨c,bk⟩:∃c,c=(i+j)/2:=⟨_,rfl⟩
    have cp:i<=c:=by omega
    have cm:c<j:=by omega
    have E:Hid (((i:Int)+(j:Int))/2=(c:Int)):=by unfold Hid;omega
    have U:=Ab (Stab.cross_less (Aa bb a c (VB _) bu (by omega) (by omega)));have O:PC N F l d wr:=by rw[Aa H];exact(Aa a6).drewN q
    have a1:Cx F Y aw au a2 a7 l wr:=by rw[Aa H];exact(Aa bj).drewN q
    have ai:=fun n=>DN O a1 c a (by omega) (by omega) n
    have cc:=(O c (by omega)).1.1;have ca:=(O a (by omega)).1.1;generalize (d c).2=y at*;generalize (d a).2=z at*;have bc:=Ab ai;clear bk O a1 ai;have co:(c:Int)<(N:Int):=by omega
    have b8:(a:Int)<(N:Int):=by omega
    go_wp2_with fail
    rw[Aa E];go_wp2_with fail
    go_quiet ((go_at_call 276;refine Calls.quiet_of (Aa bc _)))
    rw[Yq]
    cases T:decide ((d c).1<(d a).1)with
    |true=>
     have ah:=Ab ((Aa U).1 T);clear U T;go_wp2;go_roundw
     case rel=>exact⟨c+1,j,_,by omega,by omega,ae,by go_num,rfl,fun _=>Aa ah,Aa av,by rw[Aa H,World.drewN_drewN]⟩
     case measure=>simp[intOf];omega
    |false=>
     have ah:=Ab ((Aa U).2 T);clear U T;go_wp2;go_roundw
     case rel=>exact⟨i,c,_,hi,by omega,by omega,rfl,rfl,Aa ag,fun _=>Aa ah,by rw[Aa H,World.drewN_drewN]⟩
     case measure=>simp[intOf];omega
  . obtain rfl:i=j:=by omega
    have b3:¬(i:Int)<(i:Int):=by omega
    have bq:Hid (Stab.rot d a (a+1) (a+1)=d):=Stab.rot_right d a (a+1);have bz:Hid (PC N F l d wr):=by rw[Aa H];exact(Aa a6).drewN q
    have bo:Hid (w.grownBy wr (some F)):=by rw[Aa H];exact Ge (Aw _ _) q
    go_wp2;go_loopw [13] (fun vk ak=>∃k:Nat,a<=k/\k<i/\vk=.int .i64 k/\PC N F l (Stab.rot d a (a+1) (k+1)) ak/\w.grownBy ak (some F)) (fun vk _=>i-(intOf vk).toNat)
    case atStart=>exact⟨a,VB _,by omega,rfl,by rw[Aa bq];exact Aa bz,Aa bo⟩
    case round=>
     obtain⟨k,bh,cn,rfl,a3,a5⟩:=hrel;have G:=Ab a3;have ao:=Ab a5;clear a3 a5
     by_cases b0:k<i-1
     . have cq:(k:Int)<(i:Int)-1:=by omega
       have bv:=Ab (Stab.rot_up d a k bh);generalize Stab.rot d a (a+1) (k+1)=dk at*;obtain⟨t,a8⟩:∃t,t=k+1:=⟨_,rfl⟩
       have M:k<N:=by omega
       have I:t<N:=by omega
       have c1:=((Aa G) k M).1.1;have f1:=((Aa G) k M).1.2;have c2:=((Aa G) t I).1.1;have f2:=((Aa G) t I).1.2;have ba:=Ab ((Aa G).sw k t M I);have aj:=Ab (Cb (Aj (Aa ao) (Mf wr F (dk k).2 (dk t).2 k t)));obtain⟨u,bd⟩:=PC.c2 (Aa G) k t M I (.int .i64 (dk t).2);generalize (dk k).2=x at*;generalize (dk t).2=y at*;have b7:(k:Int)<(N:Int):=by omega
       have ec:((k:Int)+1).toNat=t:=by omega
       have pc:(0:Int)<=(k:Int)+1:=by omega
       have b5:(k:Int)+1<(N:Int):=by omega
       have b9:IntKind.i64.wrap ((k:Int)+1)=(k:Int)+1:=by rw[IntKind.wrap_i64];omega
       have bn:=Ab a8;clear a8 G;go_wp2_with fail
       go_big_region
       clear c1 c2 bd f1 f2;unfold swC at ba aj;go_wp2;go_roundw
       case rel=>exact⟨k+1,by omega,by omega,by go_num,by rw[<-Aa bv,<-Aa bn];exact Aa ba,Aa aj⟩
       case measure=>simp[intOf];omega
     . obtain rfl:k=i-1:=by omega
       have ct:¬((i-1:Nat):Int)<(i:Int)-1:=by omega
       have az:i-1+1=i:=by omega
       have bm:Hid (PC N F l (Stab.rot d a (a+1) i) wr):=by rw[az]at G;exact G
       have bg:=Ab ((Stab.moved_rot d a (a+1) i (by omega) (by omega)).wider (VB _) (by omega) ae);have Z:=Aa bw;rw[Aa af]at Z ag;have bi:=Ab (Stab.ins_first (by omega) ae Z (Aa ag) (Aa av));clear az Z G;go_wp2;refine bodyPost_ret (results_none rfl _ _ _) rfl ?_;exact⟨rfl,_,Aa bm,Aa bg,Aa bi,Aa ao⟩
set_option maxRecDepth 100000 in
theorem X5 (N F bh Y aw au a3 a8:Nat)(l:List Int)(d:Nat->Int×Int)(a m b:Nat)(w:World)(ag:Hid (b=m+1))(cg:N<=288)(cm:a+1<m)(bc:m<b)(cj:b<=N)(az:Cx F Y aw au a3 a8 l w)
 (ar:PC N F l d w) (a9:Stab.Srt Stab.lx d a m) (al:Stab.Cross d a m b):
 Calls Tryz.prog 285 #[.slice (some ⟨F,0,none⟩) N bh,.int .i64 a,.int .i64 m,.int .i64 b,CF Y] w fun e w'=>e=.returned (.tuple #[])/\∃d',PC N F l d' w'/\Stab.Moved a b d d'/\Stab.Srt Stab.lx d' a b/\w.grownBy w' (some F):=by
 have a7:=Ab ar;have bv:=Ab a9;have bd:=Ab al;have bk:=Ab az;have cn:((m:Int)-(a:Int)==1)=false:=by rw[beq_eq_false_iff_ne];omega
 have ce:((b:Int)-(m:Int)==1)=true:=by rw[beq_iff_eq];have:=Aa ag;omega
 clear ar a9 al az;go_enter Tryz.func285,Tryz.ntmps285
 go_wp2;go_loopw [14,15,16] (fun aa Z b9 wr=>∃i j q:Nat,a<=i/\i<=j/\j<=m/\aa=.int .i64 i/\Z=.int .i64 j/\(a<i->Stab.lx (d (i-1)) (d m))/\(j<m->Stab.lx (d m) (d j))/\wr=w.drewN q) (fun aa Z _ _=>(intOf Z).toNat-(intOf aa).toNat)
 case atStart=>exact⟨a,m,0,VB _,by omega,VB _,rfl,rfl,fun h=>by omega,fun h=>by omega,rfl⟩
 case round=>
  obtain⟨i,j,q,hi,b3,ax,rfl,rfl,a5,ap,ay⟩:=hrel;have H:=Ab ay;have a1:=Ab a5;have av:=Ab ap;clear a5 ap ay
  by_cases ci:i<j
  . obtain⟨c,bm⟩:∃c,c=(i+j)/2:=⟨_,rfl⟩
    have cp:i<=c:=by omega
    have ck:c<j:=by omega
    have E:Hid (((i:Int)+(j:Int))/2=(c:Int)):=by unfold Hid;omega
    have U:=Ab (Stab.cross_less (Aa bd c m (by omega) (by omega) (VB _) bc));have O:PC N F l d wr:=by rw[Aa H];exact(Aa a7).drewN q
    have a2:Cx F Y aw au a3 a8 l wr:=by rw[Aa H];exact(Aa bk).drewN q
    have ai:=fun n=>DN O a2 m c (by omega) (by omega) n
    have cc:=(O c (by omega)).1.1;have ca:=(O m (by omega)).1.1;generalize (d c).2=y at*;generalize (d m).2=z at*;have bf:=Ab ai;clear bm O a2 ai;have co:(c:Int)<(N:Int):=by omega
    have b7:(m:Int)<(N:Int):=by omega
    go_wp2_with fail
    rw[Aa E];go_wp2_with fail
    go_quiet ((go_at_call 276;refine Calls.quiet_of (Aa bf _)))
    rw[Yq]
    cases T:decide ((d m).1<(d c).1)with
    |true=>
     have ae:=Ab ((Aa U).1 T);clear U T;go_wp2;go_roundw
     case rel=>exact⟨i,c,_,hi,by omega,by omega,rfl,rfl,Aa a1,fun _=>Aa ae,by rw[Aa H,World.drewN_drewN]⟩
     case measure=>simp[intOf];omega
    |false=>
     have ae:=Ab ((Aa U).2 T);clear U T;go_wp2;go_roundw
     case rel=>exact⟨c+1,j,_,by omega,by omega,ax,by go_num,rfl,fun _=>Aa ae,Aa av,by rw[Aa H,World.drewN_drewN]⟩
     case measure=>simp[intOf];omega
  . obtain rfl:i=j:=by omega
    have b0:¬(i:Int)<(i:Int):=by omega
    have bq:Hid (Stab.rot d m m (m+1)=d):=Stab.rot_left d m (m+1);have bw:Hid (PC N F l d wr):=by rw[Aa H];exact(Aa a7).drewN q
    have bo:Hid (w.grownBy wr (some F)):=by rw[Aa H];exact Ge (Aw _ _) q
    go_wp2;go_loopw [17] (fun vk ak=>∃k:Nat,i<=k/\k<=m/\vk=.int .i64 k/\PC N F l (Stab.rot d k m (m+1)) ak/\w.grownBy ak (some F)) (fun vk _=>(intOf vk).toNat)
    case atStart=>exact⟨m,ax,VB _,rfl,by rw[Aa bq];exact Aa bw,Aa bo⟩
    case round=>
     obtain⟨k,cd,af,rfl,a4,a6⟩:=hrel;have G:=Ab a4;have ao:=Ab a6;clear a4 a6
     by_cases bz:i<k
     . have bu:=Ab (Stab.rot_down d k m (by omega) af);generalize Stab.rot d k m (m+1)=dk at*;obtain⟨t,ba⟩:∃t,t=k-1:=⟨_,rfl⟩
       have M:k<N:=by omega
       have I:t<N:=by omega
       have c1:=((Aa G) k M).1.1;have f1:=((Aa G) k M).1.2;have c2:=((Aa G) t I).1.1;have f2:=((Aa G) t I).1.2;have bb:=Ab ((Aa G).sw k t M I);have aj:=Ab (Cb (Aj (Aa ao) (Mf wr F (dk k).2 (dk t).2 k t)));obtain⟨u,bg⟩:=PC.c2 (Aa G) k t M I (.int .i64 (dk t).2);generalize (dk k).2=x at*;generalize (dk t).2=y at*;have b5:(k:Int)<(N:Int):=by omega
       have ec:((k:Int)-1).toNat=t:=by omega
       have pc:(0:Int)<=(k:Int)-1:=by omega
       have b4:(k:Int)-1<(N:Int):=by omega
       have b8:IntKind.i64.wrap ((k:Int)-1)=(k:Int)-1:=by rw[IntKind.wrap_i64];omega
       have bn:=Ab ba;clear ba G;go_wp2_with fail
       go_big_region
       clear c1 c2 bg f1 f2;unfold swC at bb aj;go_wp2;go_roundw
       case rel=>exact⟨k-1,by omega,by omega,by go_num,by rw[<-Aa bu,<-Aa bn];exact Aa bb,Aa aj⟩
       case measure=>simp[intOf];omega
     . obtain rfl:k=i:=by omega
       have cq:¬(k:Int)<(k:Int):=by omega
       have ac:=(Stab.moved_rot d k m (m+1) af (by omega)).wider hi (by omega) (VB _);have ah:=Stab.ins_last hi af (Aa bv) (Aa a1) (Aa av);rw[<-Aa ag]at ac ah;have bi:=Ab ac;have bj:=Ab ah;rw[<-Aa ag]at G;clear ac ah;go_wp2;refine bodyPost_ret (results_none rfl _ _ _) rfl ?_;exact⟨rfl,_,Aa G,Aa bi,Aa bj,Aa ao⟩
end Go.Proofs.YtleocpdblhbimaaGreatDoor
