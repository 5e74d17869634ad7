import Derived.Test.YtleocpdblhbimaaGreatDoorQ27
import Derived.Deep.DeepCutAuto
import Derived.Laws.AppendOwnNone
set_option linter.unusedSimpArgs false
set_option maxHeartbeats 4000000
namespace Go.Proofs.YtleocpdblhbimaaGreatDoor
open Go.RowKit
set_option linter.unusedVariables false
set_option maxRecDepth 100000
theorem Pk (n:Nat):freeN n<8:=by unfold freeN;omega
theorem J9 (n:Nat):(n+freeN n)%8=0:=by unfold freeN;omega
theorem GT {n:Nat}:freeN (n+1)=(if freeN n=0 then 8 else freeN n)-1:=by unfold freeN;split<;>omega
theorem Dr (S:List Bool):(padB S).length=S.length+freeN S.length:=by simp[padB]
theorem Z3z (bs:List Nat)(n f x k:Nat)(S:List Bool)(aa:bs.length=n)(ac:1<=f)(ab:f<=8)(I:rowB bs n=S++List.replicate f false):
 rowB (bs.set (n-1) (bs.getD (n-1) 0|||x/2^k%2*2^(8-f))) n=S++ [x.testBit k]++List.replicate (f-1) false:=by
 have O:=congrArg List.length I;rw[Af,VE,XD]at O;have hb:∀i,i<8*n->Iq bs i=(S++List.replicate f false).getD i false:=fun i hi=>by rw[<-I,Hf bs n i hi]
 apply XK
 . rw[Af];simp;omega
 . intro i G Z;rw[Af]at G;have M:∀(l:List Bool) (hi:i<l.length),l[i]=l.getD i false:=fun l hi=>by simp[List.getD,hi]
   rw[M,M,Hf _ n i G];unfold Iq;rw[CZ];have F:=hb i G;unfold Iq at F
   by_cases e:i/8=n-1
   . rw[e]at F ⊢;rw[if_pos ⟨rfl,by omega⟩,Nat.testBit_or,Qf,F]
     by_cases E:i<S.length
     . have:¬i%8=8-f:=by omega
       rw[decide_eq_false this,Bool.false_and,Bool.or_false];simp only[List.getD];rw[VS,WN E,WN E]
     . by_cases U:i=S.length
       . subst U;have:S.length%8=8-f:=by omega
         rw[decide_eq_true this,ZF];simp only[List.getD];rw[VX (VB _),XW,VS,VX (VB _),XW];obtain⟨H,rfl⟩:∃H,f=H+1:=⟨f-1,by omega⟩
         simp[List.replicate_succ]
       . have:¬i%8=8-f:=by omega
         rw[decide_eq_false this,Bool.false_and,Bool.or_false];simp only[List.getD];rw[VX (by omega),VX (by simp;omega)]
         have hr:∀(m j:Nat),((List.replicate m false:List Bool)[j]?).getD false=false:=by
          intro m j
          by_cases T:j<m<;>simp[T]
         rw[hr,hr]
   . rw[if_neg (fun Y=>e Y.1.symm),F];have E:i<S.length:=by omega
     simp only[List.getD];rw[VS,WN E,WN E]
theorem Z3p {bs:List Nat}{y:Nat}(G:∀j,bs.getD j 0<256)(F:y<256)(j:Nat):(bs++ [y]).getD j 0<256:=by
 simp only[List.getD]
 by_cases e:j<bs.length
 . rw[WN e];exact G j
 . rw[VX (by omega)]
   by_cases e2:j-bs.length=0
   . rw[e2];simpa using F
   . obtain⟨q,E⟩:∃q,j-bs.length=q+1:=⟨j-bs.length-1,by omega⟩
     rw[E];simp
structure RIs (No:Nat->Prop)(B:Nat)(w:World)(b:Nat)(S:List Bool):Prop where
 base:B<=b
 no:¬No b
 ex:∃ov bs,w.heap[b]? =some (.cells #[ov,.int .i64 (freeN S.length:Nat)] 179 (0,0))/\w.ownsRow (b+1) 5 1 ov bs.length (u8s bs)/\(∀g,ov.ownBlock=some g->¬No g)/\(∀j,bs.getD j 0<256)/\rowB bs bs.length=padB S
structure Rp (No:Nat->Prop)(B:Nat)(w:World)(b:Nat)(S:List Bool)(w':World):Prop where
 is:RIs No B w' b S
 below:Below B w w'
 kp:Kp No w w'
theorem RIs.lt {No:Nat->Prop}{B b:Nat}{w:World}{S:List Bool}(F:RIs No B w b S):b<w.heap.size:=by
 obtain⟨ov,bs,E,_⟩:=F.ex;exact(VK.1 E).1
theorem Rp.refl {No:Nat->Prop}{B b:Nat}{w:World}{S:List Bool}(E:RIs No B w b S):Rp No B w b S w:=⟨E,Below.refl _ _,Kp.refl _ _⟩
theorem Rp.trans {No:Nat->Prop}{B b:Nat}{w H G:World}{S F:List Bool}(E:Rp No B w b S H)(k:Rp No B H b F G):Rp No B w b F G:=⟨k.is,E.below.trans k.below,E.kp.trans k.kp E.below.size⟩
theorem RIs.grow {No No':Nat->Prop}{B b:Nat}{w w':World}{S:List Bool}(E:RIs No B w b S)(I:Below w.heap.size w w')(H:∀g,No' g->No g\/w.heap.size<=g):RIs No' B w' b S:=by
 obtain⟨ov,bs,U,G,M,T,O⟩:=E.ex;refine⟨E.base, ?_,ov,bs,(I.block b E.lt).trans U,Au G (fun g F=>I.block g (G.lt g F).2), ?_,T,O⟩
 . intro e
   rcases H b e with e|e
   . exact E.no e
   . have:=E.lt;omega
 . intro g F e
   rcases H g e with e|e
   . exact M g F e
   . have:=(G.lt g F).2;omega
theorem RIs.drewN {No:Nat->Prop}{B b:Nat}{w:World}{S:List Bool}(E:RIs No B w b S)(q:Nat):RIs No B (w.drewN q) b S:=E.grow (Ae (Below.refl _ _) q) (fun g e=>.inl e)
theorem RIs.drew {No:Nat->Prop}{B b:Nat}{w:World}{S:List Bool}(E:RIs No B w b S)(q:Nat):Rp No B w b S (w.drewN q):=⟨E.drewN q,Ae (Below.refl _ _) q,fun _ _ _=>rfl⟩
def Z8i (No:Nat->Prop)(B:Nat)(w:World)(b:Nat)(S:List Bool)(n f g cap:Nat)(bs:List Nat)(wc:World):Prop:=
 wc.heap[b]? =some (.cells #[.slice (some ⟨g,0,none⟩) n cap,.int .i64 (f:Nat)] 179 (0,0))/\wc.ownsRow (b+1) 5 1 (.slice (some ⟨g,0,none⟩) n cap) n (u8s bs)/\¬No g/\bs.length=n/\(∀j,bs.getD j 0<256)/\rowB bs n=S++List.replicate f false/\1<=f/\f<=8/\(f-1=freeN (S.length+1))/\Below B w wc/\Kp No w wc
theorem Dp (No:Nat->Prop)(B b n s:Nat)(S:List Bool)(w:World)(E:RIs No B w b S)(co:n<65536)(c3:s<=16)(c5:S.length<=300000)(bh:∀g,w.heap.size<=g->¬No g):
 Calls Tryz.prog 147 #[.pointer (some ⟨b,0,none⟩),.int .i64 (n:Int),.int .i64 (s:Int)] w fun e w'=>e=.returned (.tuple #[])/\Rp No B w b (S++Al n s) w':=by
 obtain⟨cq,hi,cu,a4,ce⟩:=info_parts Gz;have H:=Ab E;have b3:=Ab bh;clear E bh;go_enter Tryz.func147,Tryz.ntmps147
 go_wp2;go_loopw [8] (fun i wr=>∃k:Nat,k<=s/\i=.int .i64 k/\Rp No B w b (S++Al n k) wr) (fun i _=>s-(intOf i).toNat)
 case atStart=>exact⟨0,VH _,rfl,by simpa[Al]using Rp.refl (Aa H)⟩
 case round=>
  obtain⟨k,di,rfl,O⟩:=hrel
  by_cases c9:k<s
  . have ck:(S++Al n k).length=S.length+k:=by rw[VE,Ah]
    have bi:S++Al n (k+1)=S++Al n k++ [n.testBit k]:=by rw[Al,VS]
    have cy:=Ab bi;obtain⟨F,a6⟩:=exq (S++Al n k);rw[a6]at ck O;have cm:=Ab a6;clear a6 bi;obtain⟨ov,bs,I,a3,bj,bn,G⟩:=O.is.ex;have a0:=congrArg List.length G;rw[Af,Dr]at a0;have bw:=Pk F.length;have b7:=O.is.lt;have ap:=O.is.base;have ao:=O.is.no;have ag:=Ab O;have cv:=O.below.size;have c0:wr.cell? ⟨b,0,none⟩=some ov:=Ac I;have c1:wr.cell? ⟨b,1,none⟩=some (.int .i64 (freeN F.length:Nat)):=Ac I;have f0:=frozen_of_row wr b 0 _ _ I;have f1:=frozen_of_row wr b 1 _ _ I;obtain⟨a,cc,ak⟩:∃a c,ov=.slice a bs.length c:=An a3;have be:=Ab I;have av:=Ab a3;have a1:=Ab bj;have bm:=Ab bn;have bo:=Ab G;have az:=GT (n:=F.length);obtain⟨aj,ba⟩:=exq (freeN F.length);obtain⟨L,a5⟩:=exq (bs.length);rw[ba]at c1 a0 bw az;have aq:=Ab ba;have ab:=Ab a5;rw[a5]at ak a0;clear I a3 bj bn G ba a5 O;go_upto_if 15 with (fail)
    go_cut [] (fun wc=>∃n2 f g cap Y,Hid (Z8i No B w b F n2 f g cap Y wc)/\n2<=40000)
    case first=>
     by_cases bd:aj=0
     . subst bd;subst ak
       have cw:Hid ((Value.slice a L cc).ownBlock=none\/ (Value.slice a L cc).ownBlock≠some b):=by
        cases U:(Value.slice a L cc).ownBlock with
        |none=>exact .inl rfl
        |some g=>
         refine .inr (fun e=> ?_);have:=((Aa av).lt g U).1
         cases e
         omega
       have ch:Hid (wr.ownsRow (b+1) 5 1 (.slice a L cc) L (u8s bs)):=by
        have:=Aa av
        rw[Aa ab]at this;exact Ab this
       go_wp2_with (at_builtin;refine wpList_append_own_at _ rfl _ _ 23 rfl (b+1) 5 cq (.int .u8 0) 1 1 Tryz.underlying23 hi cu a4 ce rfl (by decide) _ L (u8s bs) rfl ((Aa ch).alloc _) ⟨wr.heap.size,0,none⟩ 1 1 [.int .u8 0] rfl rfl (cell_one_new _ _ _) (Bc rfl) (by unfold maxLen;omega) (by omega) (by simp;omega) ?_)
       intro v' w3 a2 af _ bf;have ax:=a2;obtain⟨T,ai,M,ay,bb⟩:=Ba a2 (by omega)
       have am:w3.heap[b]? =some (.cells #[.slice a L cc,.int .i64 ((0:Nat):Int)] 179 (0,0)):=by
        rw[af.block b (by simp;omega) (fun e=>by rcases Aa cw with E|E;rw[E]at e;cases e;exact E e.symm)];have:=Aa be
        rw[Aa aq]at this;exact(Below.heap_alloc wr _ b b7).trans this
       have c7:w3.cell? ⟨b,0,none⟩=some (.slice a L cc):=Ac am;have dc:=frozen_of_row w3 b 0 _ _ am
       have aw:(w3.setCell ⟨b,0,none⟩ v').heap[b]? =some (.cells #[v',.int .i64 ((0:Nat):Int)] 179 (0,0)):=by
        rw[heap_setCell_same w3 b 0 _ _ _ am];rfl
       have de:(w3.setCell ⟨b,0,none⟩ v').cell? ⟨b,1,none⟩=some (.int .i64 ((0:Nat):Int)):=Ac aw;have dn:=frozen_of_row (w3.setCell ⟨b,0,none⟩ v') b 1 _ _ aw
       have a9:Hid (Z8i No B w b F (L+1) 8 T ai (bs++ [0]) ((w3.setCell ⟨b,0,none⟩ v').setCell ⟨b,1,none⟩ (.int .i64 8))):=by
        have an:=Ad w3 b 0 v';have Z:=Ad (w3.setCell ⟨b,0,none⟩ v') b 1 (.int .i64 8);have b8:=af.size;simp only[World.size_alloc]at b8;have a4:=an.size
        have bq:v'.ownBlock=none\/v'.ownBlock≠some b:=by
         cases U:v'.ownBlock with
         |none=>exact .inl rfl
         |some g=>
          refine .inr (fun e=> ?_);have:=(ax.lt g U).1
          cases e
          omega
        have bg:=Aa ag;refine⟨?_, ?_, ?_, ?_,Z3p (Aa bm) (by decide), ?_,by omega,by omega, ?_, ?_, ?_⟩
        . rw[heap_setCell_same _ b 1 _ _ _ aw,<-M];rfl
        . rw[<-M];have:=(ax.kept an bq).kept Z bq
          rw[Wx];exact this
        . rcases bf with E|E
          . exact Aa a1 T (by rw[<-E,M];rfl)
          . rw[M]at E;have:=VM E
            exact Aa b3 T (by simp at this;omega)
        . rw[VE,Aa ab];rfl
        . have G:=Aa bo;have e:=Xi bs [0] 1;rw[Aa ab]at e G;rw[e,G];unfold padB;rw[Aa aq];simp only[ZI,XA];rfl
        . rw[az];rfl
        . have cj:=bg.below;have b1:=cj.alloc (by omega) (.cells #[.int .u8 0] 5);have b2:=b1.grown af (by simp;omega) (fun g e=>by have:=((Aa av).lt g e).1;omega);exact(b2.grown an (by omega) (fun g e=>by cases e;exact ap)).grown Z (by omega) (fun g e=>by cases e;exact ap)
        . have cl:=bg.kp;have k1:=cl.grown (ga (Aw wr none) (.cells #[.int .u8 0] 5)) cv (fun j e=>by cases e);have k2:=k1.grown af (by simp;omega) (fun j e=>Aa a1 j e);exact(k2.grown an (by omega) (fun g e=>by cases e;exact ao)).grown Z (by omega) (fun g e=>by cases e;exact ao)
       subst M;clear a2 ax af bf am aw ay bb;go_wp2
       all_goals go_meet
       all_goals exact⟨L+1,8,T,ai,bs++ [0],a9,by omega⟩
     . have dh:((aj:Int)==0)=false:=by rw[beq_eq_false_iff_ne];omega
       have bk:Hid (wr.ownsRow (b+1) 5 1 ov L (u8s bs)):=by
        have:=Aa av
        rw[Aa ab]at this;exact Ab this
       obtain⟨T,ai,M,ay,bb⟩:=Ba (Aa bk) (by omega)
       have a9:Hid (Z8i No B w b F L aj T ai bs wr):=by
        have I:=Aa be;have G:=Aa bo;rw[Aa aq]at I;rw[Aa ab]at G;unfold padB at G;rw[Aa aq]at G;rw[M]at I;refine⟨I,by rw[<-M];exact Aa bk,Aa a1 T (by rw[M];rfl),Aa ab,Aa bm,G,by omega,by omega, ?_,(Aa ag).below,(Aa ag).kp⟩;rw[az,if_neg bd]
       subst ak;clear ay bb M;go_wp2
       all_goals go_meet
       all_goals exact⟨L,aj,T,ai,bs,a9,by omega⟩
    case rest=>
     obtain⟨n2,f,g,cap,Y,a8,c8⟩:=hcut;obtain⟨m1,m2,au,aa,as,ar,dp,da,al,ac,a7⟩:=Aa a8;clear c0 c1 f0 f1 ak;have ah:g≠b:=by have:=(m2.lt g rfl).1;omega
     have dm:1<=n2:=by
      have:=congrArg List.length ar
      rw[Af,VE,XD]at this;omega
     have c0:wc.cell? ⟨b,0,none⟩=some (.slice (some ⟨g,0,none⟩) n2 cap):=Ac m1;have c1:wc.cell? ⟨b,1,none⟩=some (.int .i64 (f:Nat)):=Ac m1;have f1:=frozen_of_row wc b 1 _ _ m1;obtain⟨x,U⟩:=exq (Y.getD (n2-1) 0);have bc:=as (n2-1);rw[U]at bc
     have dj:wc.cell? ⟨g,n2-1,none⟩=some (.int .u8 (x:Int)):=by
      rw[m2.cellAt (n2-1) (by omega),<-U];simp[List.getD,aa,show n2-1<n2 by omega]
     have fl:=m2.frozenAt (n2-1);have ci:=Ab (Z08 x n k (8-f) bc co (by omega));have ct:=a8;have dl:((n2:Int)-1).toNat=n2-1:=by omega
     have dg:(0:Int)<=(n2:Int)-1:=by omega
     have dd:(n2:Int)-1<(n2:Int):=by omega
     have c6:(0:Int)<=8-(f:Int):=by omega
     have df:∀v,(wc.setCell ⟨g,n2-1,none⟩ v).cell? ⟨b,1,none⟩=some (.int .i64 (f:Nat)):=fun v=>(World.cell?_setCell_other _ _ _ _ (by intro E;injection E;omega)).trans c1
     have db:∀v,(wc.setCell ⟨g,n2-1,none⟩ v).frozen? ⟨b,1,none⟩=false:=fun v=>by simp[f1]
     have cn:=Ab U;have cp:=Ab ah;clear m1 m2 au aa as ar al ac a7 U a8 ah;go_wp2;go_big_region
     go_wp2;go_roundw
     case rel=>
      obtain⟨m1,m2,au,aa,as,ar,b4,bz,al,ac,a7⟩:=Aa ct;have cg:=Aa ci;have ah:=Aa cp;rw[cg];have cz:(x|||n/2^k%2*2^(8-f))<256:=Nat.or_lt_two_pow (n:=8) bc (XO (Wd (BP (k:=8-f) (by omega))) (by decide));have ae:=m2.stored (n2-1) (.int .u8 ((x|||n/2^k%2*2^(8-f):Nat):Int));have bt:=Z3z Y n2 f n k F aa b4 bz ar;rw[Aa cn]at bt;generalize (x|||n/2^k%2*2^(8-f))=y at*;have Z:=Ad (wc.setCell ⟨g,n2-1,none⟩ (.int .u8 ((y:Nat):Int))) b 1 (.int .i64 ((f:Int)-1))
      have b0:(wc.setCell ⟨g,n2-1,none⟩ (.int .u8 ((y:Nat):Int))).heap[b]? =some (.cells #[.slice (some ⟨g,0,none⟩) n2 cap,.int .i64 (f:Nat)] 179 (0,0)):=
       (ae.2.block b (VK.1 m1).1 (fun e=>ah (VM e).symm)).trans m1
      have c4:b<wc.heap.size:=(VK.1 m1).1;have a4:=ae.2.size;refine⟨k+1,by omega,by go_num, ?_⟩;have bv:S++Al n (k+1)=F++ [n.testBit k]:=by rw[Aa cy,Aa cm]
      rw[bv];refine⟨⟨ap,ao,.slice (some ⟨g,0,none⟩) n2 cap,Y.set (n2-1) y, ?_, ?_, ?_, ?_, ?_⟩, ?_, ?_⟩
      . show (((wc.setCell ⟨g,n2-1,none⟩ (.int .u8 ((y:Nat):Int))).setCell ⟨b,1,none⟩ (.int .i64 ((f:Int)-1))).heap)[b]? =_
        rw[heap_setCell_same _ b 1 _ _ _ b0,VE];show some (Obj.cells #[_,.int .i64 ((f:Int)-1)] _ _)=some (Obj.cells #[_,.int .i64 ((freeN (F.length+1):Nat):Int)] _ _)
        rw[<-al,show ((f:Int)-1)=((f-1:Nat):Int) by omega]
      . have cd:=Z0f (ae.1.kept Z (.inr (fun e=>ah (VM e))));have bu:u8s (Y.set (n2-1) y)=(u8s Y).set (n2-1) (.int .u8 ((y:Nat):Int)):=by rw[u8s,List.map_set]
        rw[XS,aa,bu];exact cd
      . intro b5 b9;have:g=b5:=by simpa[Value.ownBlock]using b9
        rw[<-this];exact au
      . intro j;rw[CZ]
        split
        . exact cz
        . exact as j
      . rw[XS,aa,bt];unfold padB;rw[VE];show _=F++ [n.testBit k]++List.replicate (freeN (F.length+1)) false
        rw[<-al]
      . exact((ac.grown ae.2 (by omega) (fun j e=>by have:=VM e;have:=(m2.lt g rfl).1;omega)).grown Z (by omega) (fun j e=>by cases e;exact ap)).drew
      . have k1:=a7.grown ae.2 ac.size (fun j e=>by rw[<-VM e];exact au);exact k1.grown (Cb Z) (by have:=ac.size;omega) (fun j e=>by cases e;exact ao)
     case measure=>simp[intOf];omega
  . obtain rfl:k=s:=by omega
    have ag:=Ab O;clear O;go_wp2;go_end0
    exact⟨rfl,Aa ag⟩
theorem MD (No:Nat->Prop)(B b:Nat)(S:List Bool)(w:World)(E:RIs No B w b S):
 Calls Tryz.prog 176 #[.pointer (some ⟨b,0,none⟩)] w fun e w'=>e=.returned (.tuple #[])/\Rp No B w b (padB S) w':=by
 obtain⟨ov,bs,F,G,I,T,M⟩:=E.ex;have U:=E.base;have O:=E.no;have aa:=E.lt;have c1:w.cell? ⟨b,1,none⟩=some (.int .i64 (freeN S.length:Nat)):=Ac F;have f1:=frozen_of_row w b 1 _ _ F
 have Z:Hid (Rp No B w b (padB S) (w.setCell ⟨b,1,none⟩ (.int .i64 0))):=by
  have H:=Ad w b 1 (.int .i64 0);have e0:freeN (padB S).length=0:=by rw[Dr];have:=J9 S.length;unfold freeN at*;omega
  refine⟨⟨U,O,ov,bs, ?_, ?_,I,T, ?_⟩, ?_, ?_⟩
  . rw[heap_setCell_same w b 1 _ _ _ F,e0];rfl
  . refine G.kept H ?_
    cases Y:ov.ownBlock with
    |none=>exact .inl rfl
    |some g=>
     refine .inr (fun e=> ?_);have:=(G.lt g Y).1
     cases e
     omega
  . rw[M];unfold padB;unfold padB at e0;rw[e0];simp
  . exact(Below.refl B w).grown H (by omega) (fun g e=>by cases e;exact U)
  . exact(Kp.refl No w).grown H (VB _) (fun g e=>by cases e;exact O)
 clear E F G I T M;generalize (freeN S.length)=ab at*;go_enter Tryz.func176,Tryz.ntmps176
 go_wp2;go_end0
 exact⟨rfl,Aa Z⟩
theorem Z1k (S:List Bool):freeN (padB S).length=0:=by rw[Dr];have:=J9 S.length;unfold freeN at*;omega
theorem BV {S:List Bool}(E:freeN S.length=0):padB S=S:=by unfold padB;rw[E];simp
theorem EO:(List.range 3001).all (fun n=>bits .and .i64 (bits .xor .i64 (-1) (n:Int)) 65535==((65535-n:Nat):Int))=true:=by decide+kernel
theorem KQ {n:Nat}(E:n<=3000):bits .and .i64 (bits .xor .i64 (-1) (n:Int)) 65535=((65535-n:Nat):Int):=by
 have:=WX.1 EO n (by simp;omega)
 simpa using this
theorem LP {w:World}{a:Option Addr}{bs:List Nat}{n G:Nat}(I:bs.length=n)(H:BytesIn w a bs)(M:a=none->G=0):(a=none/\n=0/\G=0/\bs= [])\/∃ad,a=some ad/\∀j u,(u8s bs)[j]? =some u->w.cell? (ad.add j)=some u:=by
 cases a with
 |none=>
  rcases H with h|⟨b,o,e,_⟩
  . subst h;exact .inl ⟨rfl,I.symm,M rfl,rfl⟩
  . cases e
 |some ad=>
  refine .inr ⟨ad,rfl, ?_⟩
  rcases H with h|⟨b,o,e,hb,h⟩
  . subst h;intro j u E;simp at E
  . cases e
    intro j u E;have O:(⟨b,o,none⟩:Addr).add j=⟨b,o+j,none⟩:=by unfold Addr.add;split<;>simp_all
    have F:j<bs.length:=by
     by_cases c:j<bs.length
     . exact c
     . rw[WJ (by simp;omega)]at E;cases E
    rw[O,h j F];simp[F]at E
    subst E;simp[List.getD,F]
theorem Yu {w w':World}{a:Option Addr}{bs:List Nat}(E:BytesIn w a bs)(I:w.heap.size<=w'.heap.size)(F:∀b o,a=some ⟨b,o,none⟩->bs≠ []->b<w.heap.size->w'.heap[b]? =w.heap[b]?):BytesIn w' a bs:=by
 by_cases e:bs= []
 . exact .inl e
 . rcases E with E|⟨b,o,rfl,hb,G⟩
   . exact absurd E e
   . exact .inr ⟨b,o,rfl,by omega,fun j H=>(World.cell?_of_block (w:=w) (a:=⟨b,_,none⟩) (F b o rfl e hb)).trans (G j H)⟩
theorem Xl (No:Nat->Prop)(B E:Nat)(a:Option Addr)(n ak:Nat)(bs:List Nat)(S:List Bool)(w:World)(O:RIs No B w E S)(ao:bs.length=n)(bw:n<=3000)(ax:a=none->ak=0)(a8:BytesIn w a bs)(ag:∀j,bs.getD j 0<256)(bh:∀b o,a=some ⟨b,o,none⟩->bs≠ []->No b)(af:∀g,w.heap.size<=g->¬No g)(cg:S.length<=290000):
 Calls Tryz.prog 148 #[.pointer (some ⟨E,0,none⟩),.slice a n ak] w fun e w'=>e=.returned (.tuple #[])/\Rp No B w E (Qm S bs) w':=by
 obtain⟨a7,hi,b0,bz,bo⟩:=info_parts Gz;have bq:=Dr S;have cd:=Pk S.length;have a0:=Ab (MD No B E S w O);have bd:=Ab (fun ac (r:Rp No B w E (padB S) ac)=>Dp No B E n 16 (padB S) ac r.is (by omega) (by decide) (by omega) (fun g Z=>af g (by have:=r.below.size;omega)));have a3:=Ab (fun ah (r:Rp No B w E (padB S++Al n 16) ah)=>Dp No B E (65535-n) 16 (padB S++Al n 16) ah r.is (by omega) (by decide) (by rw[VE,Ah];omega) (fun g Z=>af g (by have:=r.below.size;omega)));have a5:Qm S bs=padB S++Al n 16++Al (65535-n) 16++rowB bs bs.length:=by unfold Qm padB;rw[ao]
 rw[a5];have bi:=KQ bw;have aw:=Ab (fun w3 Y (r:Rp No B w E Y w3)=>Yu a8 r.below.size (fun b o e b8 hb=>r.kp b hb (bh b o e b8)));have aj:=Ab ao;have bv:=Ab ag;have bj:=Ab ax;have bm:=Ab af;have ci:=O.lt;have a6:=O.base;have a1:=O.no;clear a5 O a8 bh ax ag ao af;go_enter Tryz.func148,Tryz.ntmps148
 go_wp2_with fail
 refine(Aa a0).mono ?_;rintro e ac ⟨rfl,aq⟩;have be:=Ab (Aa bd ac aq);have bf:=Ab aq;clear aq a0 bd;go_wp2_with fail
 refine(Aa be).mono ?_;rintro e ah ⟨rfl,a4⟩;have ap:=(Aa bf).trans a4;have ay:=Ab (Aa a3 ah ap);have ba:=Ab ap;clear a4 ap a3 be bf;go_wp2_with fail
 refine(Aa ay).mono ?_;rintro e w3 ⟨rfl,a9⟩;have H:=(Aa ba).trans a9;obtain⟨Y,U⟩:=exq (padB S++Al n 16++Al (65535-n) 16);rw[U]at H;have a2:Y.length=(padB S).length+32:=by rw[<-U];simp[Ah]
 have av:freeN Y.length=0:=by
  have:=Z1k S
  rw[a2];unfold freeN at*;omega
 have ck:=Ab U;obtain⟨ov,old,T,M,as,bg,ae⟩:=H.is.ex;rw[BV av]at ae;rw[av]at T;have am:=congrArg List.length ae;rw[Af]at am;have bk:=LP (Aa aj) (Aa aw w3 _ H) (Aa bj);have c0:w3.cell? ⟨E,0,none⟩=some ov:=Ac T;have f0:=frozen_of_row w3 E 0 _ _ T;obtain⟨L,au⟩:=exq (old.length);rw[au]at M am;have b4:=H.below.size
 have ai:Hid (∀v' F,F.ownsRow (E+1) 5 1 v' (L+n) (u8s old++u8s bs)->w3.grownBy F ov.ownBlock->(v'.ownBlock=ov.ownBlock\/v'.ownBlock=some w3.heap.size)->F.cell? ⟨E,0,none⟩=some ov/\F.frozen? ⟨E,0,none⟩=false/\Rp No B w E (padB S++Al n 16++Al (65535-n) 16++rowB bs bs.length) (F.setCell ⟨E,0,none⟩ v')):=by
  intro v' F I G ab;have an:F.heap[E]? =some (.cells #[ov,.int .i64 ((0:Nat):Int)] 179 (0,0)):=(G.block E (by omega) (fun e=>by have:=(M.lt E e.symm).1;omega)).trans T;have al:=Ad F E 0 v';have cj:=G.size;have b3:(rowB bs bs.length).length=8*n:=by rw[Af,Aa aj]
  have bb:freeN (Y++rowB bs bs.length).length=0:=by
   rw[VE,b3];unfold freeN at*;omega
  refine⟨Ac an,frozen_of_row F E 0 _ _ an, ?_⟩;rw[U];refine⟨⟨a6,a1,v',old++bs, ?_, ?_, ?_, ?_, ?_⟩, ?_, ?_⟩
  . rw[bb,heap_setCell_same _ E 0 _ _ _ an];rfl
  . rw[VE,au,Aa aj];have e:u8s (old++bs)=u8s old++u8s bs:=by simp
    rw[e];refine I.kept al ?_
    cases ag:v'.ownBlock with
    |none=>exact .inl rfl
    |some g=>
     refine .inr (fun e=> ?_);have:=(I.lt g ag).1
     cases e
     omega
  . intro g Z
    rcases ab with e|e
    . exact as g (by rw[<-e];exact Z)
    . rw[e]at Z;have:=VM Z
      exact Aa bm g (by omega)
  . intro j
    by_cases b5:j<old.length
    . have:=bg j
      simp only[List.getD]at this ⊢;rw[WN b5];exact this
    . have:=Aa bv (j-old.length)
      simp only[List.getD]at this ⊢;rw[VX (by omega)];exact this
  . rw[BV bb,VE,Xi old bs bs.length,<-au]at*;rw[ae]
  . exact(H.below.grown G (by omega) (fun g e=>by have:=(M.lt g e).1;omega)).grown al (by omega) (fun g e=>by cases e;exact a6)
  . exact(H.kp.grown G b4 (fun g e=>as g e)).grown al (by omega) (fun g e=>by cases e;exact a1)
 have aa:=Ab M;have ch:L<=40000:=by omega
 have bt:0<L:=by omega
 obtain⟨ga,ca,bu,_,_⟩:=Ba M bt;clear T M as bg ae a9 H ay ba am bq U a2 av aw bi;subst bu
 rcases bk with ⟨rfl,rfl,rfl,rfl⟩|⟨ad,rfl,bc⟩
 . have az:=Aa ai _ w3 (by simpa using Aa aa) (Aw w3 _) (.inl rfl);have ar:=Ab az.2.2;clear az ai;go_wp2_with (at_builtin;refine wpList_append_own_none rfl _ _ 23 rfl (E+1) 5 a7 1 Tryz.underlying23 hi _ L (u8s old) rfl (Aa aa) rfl ?_)
   go_end0
   exact⟨rfl,Aa ar⟩
 . have b9:=Ab bc;clear bc;go_wp2_with (at_builtin;refine wpList_append_own_at _ rfl _ _ 23 rfl (E+1) 5 a7 (.int .u8 0) 1 1 Tryz.underlying23 hi b0 bz bo rfl (by decide) _ L (u8s old) rfl (Aa aa) ad n ak (u8s bs) rfl (by rw[WL,Aa aj,Nat.mul_one]) (Aa b9) (by intro u b7;obtain⟨x,_,rfl⟩:=XG.1 b7;rfl) (by unfold maxLen;omega) (by omega) (by omega) ?_)
   intro v' F I G _ ab;obtain⟨r0,r1,r2⟩:=Aa ai v' F I G ab;obtain⟨ce,cl,bn,_,_⟩:=Ba I (by omega);have ar:=Ab r2;subst bn;clear I G ab r2 ai aa;go_wp2;go_end0
   exact⟨rfl,Aa ar⟩
end Go.Proofs.YtleocpdblhbimaaGreatDoor
namespace Go.Proofs.YtleocpdblhbimaaGreatDoor
open Go.RowKit
set_option linter.unusedVariables false
def PC (N bp:Nat)(l:List Int)(d:Nat->Int×Int)(W:World):Prop:=
 ∀k,k<N->(W.cell? ⟨bp,k,none⟩=some (.int .i64 (d k).2)/\W.frozen? ⟨bp,k,none⟩=false)/\∃p:Nat,(d k).2=p/\p<l.length/\(d k).1=l.getD p 0
structure Cx (bp bx bl ol ln lc:Nat)(l:List Int)(W:World):Prop where
 box:W.cell? ⟨bx,0,none⟩=some (.slice (some ⟨bl,ol,none⟩) ln lc)
 row:Row .i64 W bl ol l
 len:l.length=ln
 sm:ln<=288
 xlt:bx<W.heap.size
 llt:bl<W.heap.size
 plt:bp<W.heap.size
 xne:bx≠bp
 lne:bl≠bp
theorem Cx.grown {G I H M T O:Nat}{l:List Int}{W W':World}(E:Cx G I H M T O l W)(F:W.grownBy W' (some G)):Cx G I H M T O l W':=
 ⟨F.cell E.box (by simpa using E.xne),fun j U=>F.cell (E.row j U) (by simpa using E.lne),E.len,E.sm,VG E.xlt F.size,VG E.llt F.size,VG E.plt F.size,E.xne,E.lne⟩
theorem Cx.drewN {G H F I O M:Nat}{l:List Int}{W:World}(E:Cx G H F I O M l W)(n:Nat):Cx G H F I O M l (W.drewN n):=⟨E.box,E.row,E.len,E.sm,E.xlt,E.llt,E.plt,E.xne,E.lne⟩
def Z5w (x y:Int):Int:=if x<y then-1 else if y<x then 1 else 0
theorem Yq (x y:Int):decide (Z5w x y<0)=decide (x<y):=by
 unfold Z5w
 by_cases h:x<y
 . rw[if_pos h];simp[h]
 . rw[if_neg h]
   by_cases E:y<x
   . rw[if_pos E];simp[h]
   . rw[if_neg E];simp[h]
theorem Z8 (x y:Int)(w:World):Calls Tryz.prog 130 #[.int .i64 x,.int .i64 y] w fun e w'=>e=.returned (.int .i64 (Z5w x y))/\∃q,w'=w.drewN q:=by
 have hn:∀(x:Int) w,Calls Tryz.prog 168 #[.int .i64 x] w fun e w'=>e=.returned (.bool false)/\w'=w:=by
  intro x w;have F:(x !=x)=false:=by simp
  go_enter Tryz.func168,Tryz.ntmps168
  go_wp2;go_ret;exact⟨rfl,rfl⟩
 unfold Z5w;go_enter Tryz.func130,Tryz.ntmps130
 go_wp2_with fail
 refine(hn x w).mono ?_;rintro e E ⟨rfl,rfl⟩;go_wp2_with fail
 refine(hn y E).mono ?_;rintro e H ⟨rfl,rfl⟩
 by_cases h:x<y
 . go_wp2;go_ret;exact⟨rfl,0,rfl⟩
 . by_cases G:y<x
   . go_wp2;go_ret;exact⟨rfl,0,rfl⟩
   . go_wp2;go_ret;exact⟨rfl,0,rfl⟩
abbrev CF (bx:Nat):Value:=.func (.func 276) #[] #[.pointer (some ⟨bx,0,none⟩)]
theorem AB (M G H O F U:Nat)(l:List Int)(W:World)(p q:Nat)(T:p<l.length)(I:q<l.length)(E:Cx M G H O F U l W):
 Calls Tryz.prog 276 #[.int .i64 p,.int .i64 q,.pointer (some ⟨G,0,none⟩)] W fun e w'=>e=.returned (.int .i64 (Z5w (l.getD p 0) (l.getD q 0)))/\∃q,w'=W.drewN q:=by
 have hb:=E.box;have c1:=E.row p T;have c2:=E.row q I;have hl:=E.len;have aa:=E.sm;generalize l.getD p 0=x at*;generalize l.getD q 0=y at*;have Z:(p:Int)<(F:Int):=by omega
 have Y:(q:Int)<(F:Int):=by omega
 clear E;go_enter Tryz.func276,Tryz.ntmps276
 go_wp2;go_quiet ((go_at_call 130;refine Calls.quiet_of (Z8 _ _ _)))
 go_wp2;go_ret;exact⟨rfl,_,rfl⟩
theorem DN {N E F H O I G:Nat}{l:List Int}{d:Nat->Int×Int}{W:World}(M:PC N E l d W)(af:Cx E F H O I G l W)(i j:Nat)(Y:i<N)(Z:j<N)(n:Nat):
 Calls Tryz.prog 276 #[.int .i64 (d i).2,.int .i64 (d j).2,.pointer (some ⟨F,0,none⟩)] (W.drewN n) fun e w'=>e=.returned (.int .i64 (Z5w (d i).1 (d j).1))/\∃q,w'=(W.drewN n).drewN q:=by
 obtain⟨_,p,U,ac,T⟩:=M i Y;obtain⟨_,q,ab,aa,ae⟩:=M j Z;rw[U,ab,T,ae];exact AB E F H O I G l (W.drewN n) p q ac aa (af.drewN n)
def swC (W:World)(bp:Nat)(x y:Int)(i j:Nat):World:=(W.setCell ⟨bp,i,none⟩ (.int .i64 y)).setCell ⟨bp,j,none⟩ (.int .i64 x)
theorem Mf (W:World)(E:Nat)(x y:Int)(i j:Nat):W.grownBy (swC W E x y i j) (some E):=Aj (Ad W E i _) (Ad _ E j _)
theorem PC.sw {N F:Nat}{l:List Int}{d:Nat->Int×Int}{W:World}(G:PC N F l d W)(i j:Nat)(I:i<N)(U:j<N):PC N F l (Stab.swp d i j) (swC W F (d i).2 (d j).2 i j):=by
 intro k T;obtain⟨⟨c0,f0⟩,M⟩:=G k T;obtain⟨⟨H,_⟩,Y⟩:=G i I;obtain⟨⟨Z,_⟩,O⟩:=G j U;unfold swC
 have e2:(W.setCell ⟨F,i,none⟩ (.int .i64 (d j).2)).cell? ⟨F,j,none⟩≠none:=by
  by_cases e:i=j
  . subst e;rw[World.cell?_setCell_same' _ _ _ (by rw[H];rfl)];simp
  . rw[World.cell?_setCell_other _ _ _ _ (by intro h;injection h;omega),Z];simp
 refine⟨⟨?_,by simp[f0]⟩, ?_⟩
 . unfold Stab.swp
   by_cases e:k=j
   . subst e;rw[World.cell?_setCell_same' _ _ _ (by rw[Option.isSome_iff_ne_none];exact e2)]
     by_cases E:k=i
     . subst E;rw[if_pos rfl]
     . rw[if_neg E,if_pos rfl]
   . rw[World.cell?_setCell_other _ _ _ _ (by intro h;injection h;omega)]
     by_cases E:k=i
     . subst E;rw[if_pos rfl,World.cell?_setCell_same' _ _ _ (by rw[H];rfl)]
     . rw[if_neg E,if_neg e,World.cell?_setCell_other _ _ _ _ (by intro h;injection h;omega)];exact c0
 . unfold Stab.swp
   by_cases E:k=i
   . rw[if_pos E];exact O
   . rw[if_neg E]
     by_cases e:k=j
     . rw[if_pos e];exact Y
     . rw[if_neg e];exact M
theorem PC.c2 {N E:Nat}{l:List Int}{d:Nat->Int×Int}{W:World}(F:PC N E l d W)(i j:Nat)(G:i<N)(H:j<N)(v:Value):∃u,(W.setCell ⟨E,i,none⟩ v).cell? ⟨E,j,none⟩=some u:=by
 by_cases e:i=j
 . subst e;exact⟨v,World.cell?_setCell_same _ _ _ (F i G).1.1⟩
 . exact⟨_,(World.cell?_setCell_other _ _ _ _ (by intro h;injection h;omega)).trans (F j H).1.1⟩
theorem PC.drewN {N E:Nat}{l:List Int}{d:Nat->Int×Int}{W:World}(F:PC N E l d W)(n:Nat):PC N E l d (W.drewN n):=F
theorem Ge {a b:World}{r:Option Nat}(E:a.grownBy b r)(n:Nat):a.grownBy (b.drewN n) r:=⟨E.os,E.tape,E.output,E.size,E.block⟩
set_option maxRecDepth 100000 in
theorem Nf (ag:Value)(N F af:Nat)(l:List Int)(d:Nat->Int×Int)(a b n:Nat)(w:World)(ao:N<=288)(ak:a+n<=N)(al:b+n<=N)(ae:PC N F l d w):
 Calls Tryz.prog 287 #[.slice (some ⟨F,0,none⟩) N af,.int .i64 a,.int .i64 b,.int .i64 n,ag] w fun e w'=>e=.returned (.tuple #[])/\PC N F l (Stab.swr d a b n) w'/\w.grownBy w' (some F):=by
 have aj:=Ab ae;clear ae;go_enter Tryz.func287,Tryz.ntmps287
 go_wp2;go_loopw [10] (fun M wr=>∃i:Nat,i<=n/\M=.int .i64 i/\PC N F l (Stab.swr d a b i) wr/\w.grownBy wr (some F)) (fun M _=>n-(intOf M).toNat)
 case atStart=>exact⟨0,VH _,rfl,Aa aj,Aw _ _⟩
 case round=>
  obtain⟨i,hi,rfl,U,aa⟩:=hrel;have E:=Ab U;have ab:=Ab aa;have ac:Hid (Stab.swr d a b (i+1)=Stab.swp (Stab.swr d a b i) (a+i) (b+i)):=rfl;clear U aa
  by_cases an:i<n
  . generalize Stab.swr d a b i=H at*;obtain⟨s,Z⟩:∃s,s=a+i:=⟨_,rfl⟩
    obtain⟨t,Y⟩:∃t,t=b+i:=⟨_,rfl⟩
    have G:s<N:=by omega
    have I:t<N:=by omega
    have c1:=((Aa E) s G).1.1;have f1:=((Aa E) s G).1.2;have c2:=((Aa E) t I).1.1;have f2:=((Aa E) t I).1.2;have T:=Ab ((Aa E).sw s t G I);have O:=Ab (Aj (Aa ab) (Mf wr F (H s).2 (H t).2 s t));obtain⟨u,ah⟩:=PC.c2 (Aa E) s t G I (.int .i64 (H t).2);generalize (H s).2=x at*;generalize (H t).2=y at*;have ea:((a:Int)+(i:Int)).toNat=s:=by omega
    have pa:(0:Int)<=(a:Int)+(i:Int):=by omega
    have ap:(a:Int)+(i:Int)<(N:Int):=by omega
    have ra:IntKind.i64.wrap ((a:Int)+(i:Int))=(a:Int)+(i:Int):=by rw[IntKind.wrap_i64];omega
    have ec:((b:Int)+(i:Int)).toNat=t:=by omega
    have pc:(0:Int)<=(b:Int)+(i:Int):=by omega
    have aq:(b:Int)+(i:Int)<(N:Int):=by omega
    have am:IntKind.i64.wrap ((b:Int)+(i:Int))=(b:Int)+(i:Int):=by rw[IntKind.wrap_i64];omega
    rw[<-Z,<-Y]at ac;clear Z Y G I E;go_wp2_with fail
    go_big_region
    clear c1 c2 ah f1 f2;unfold swC at T O;have ai:=Ab (Cb (Aa O));clear O;go_wp2;go_roundw
    case rel=>exact⟨i+1,by omega,by go_num,by rw[Aa ac];exact Aa T,Aa ai⟩
    case measure=>simp[intOf];omega
  . obtain rfl:i=n:=by omega
    go_wp2;go_end0
    exact⟨rfl,Aa E,Aa ab⟩
theorem Xk (U:Value)(N F T:Nat)(l:List Int)(d:Nat->Int×Int)(a m b:Nat)(w:World)(Z:N<=288)(au:a<m)(av:m<b)(aw:b<=N)(al:PC N F l d w):
 Calls Tryz.prog 286 #[.slice (some ⟨F,0,none⟩) N T,.int .i64 a,.int .i64 m,.int .i64 b,U] w fun e w'=>e=.returned (.tuple #[])/\PC N F l (Stab.rot d a m b) w'/\w.grownBy w' (some F):=by
 have as:=Ab al;have am:Hid (Stab.rot d (m-(m-a)) m (m+(b-m))=Stab.rot d a m b):=by rw[show m-(m-a)=a by omega,show m+(b-m)=b by omega];exact rfl
 clear al;go_enter Tryz.func286,Tryz.ntmps286
 go_wp2;go_loopw [10,11] (fun Y ab wr=>∃(i j:Nat) (dk:Nat->Int×Int),0<i/\0<j/\i<=m-a/\j<=b-m/\Y=.int .i64 i/\ab=.int .i64 j/\Stab.rot dk (m-i) m (m+j)=Stab.rot d a m b/\PC N F l dk wr/\w.grownBy wr (some F)) (fun Y ab _=>(intOf Y).toNat+(intOf ab).toNat)
 case atStart=>exact⟨m-a,b-m,d,by omega,by omega,VB _,VB _,by go_num,by go_num,Aa am,Aa as,Aw _ _⟩
 case round=>
  obtain⟨i,j,dk,an,ap,hi,aq,rfl,rfl,ai,ak,ah⟩:=hrel;have ae:=Ab ak;have ac:=Ab ah;have af:=Ab ai;clear ak ah ai
  rcases ZR i j with H|H|H
  . have aj:((i:Int)!=(j:Int))=true:=by rw[bne_iff_ne];omega
    have ar:¬(j:Int)<(i:Int):=by omega
    have M:Hid ((m:Int)-(i:Int)=((m-i:Nat):Int)):=by unfold Hid;omega
    have ao:Hid ((m:Int)+(j:Int)-(i:Int)=((m+j-i:Nat):Int)):=by unfold Hid;omega
    go_wp2_with fail
    rw[Aa M,Aa ao];refine(Nf U N F T l dk _ _ _ _ Z (by omega) (by omega) (Aa ae)).mono ?_;rintro e ag ⟨rfl,E,G⟩;have O:=Ab E;have I:=Ab (Aj (Aa ac) G);have aa:=Ab ((Stab.rot_lt dk m i j H (by omega)).trans (Aa af));clear E G;go_wp2;go_roundw
    case rel=>exact⟨i,j-i,_,an,by omega,hi,by omega,rfl,by go_num,Aa aa,Aa O,Aa I⟩
    case measure=>simp[intOf];omega
  . subst H;have aj:((i:Int)!=(i:Int))=false:=by simp
    have M:Hid ((m:Int)-(i:Int)=((m-i:Nat):Int)):=by unfold Hid;omega
    go_wp2_with fail
    rw[Aa M];refine(Nf U N F T l dk _ _ _ _ Z (by omega) (by omega) (Aa ae)).mono ?_;rintro e ag ⟨rfl,E,G⟩;rw[Stab.rot_eq dk m i (by omega),Aa af]at E;have O:=Ab E;have I:=Ab (Aj (Aa ac) G);clear E G;go_wp2;go_end0
    exact⟨rfl,Aa O,Aa I⟩
  . have aj:((i:Int)!=(j:Int))=true:=by rw[bne_iff_ne];omega
    have ar:(j:Int)<(i:Int):=by omega
    have M:Hid ((m:Int)-(i:Int)=((m-i:Nat):Int)):=by unfold Hid;omega
    go_wp2_with fail
    rw[Aa M];refine(Nf U N F T l dk _ _ _ _ Z (by omega) (by omega) (Aa ae)).mono ?_;rintro e ag ⟨rfl,E,G⟩;have O:=Ab E;have I:=Ab (Aj (Aa ac) G);have aa:=Ab ((Stab.rot_gt dk m i j H (by omega)).trans (Aa af));clear E G;go_wp2;go_roundw
    case rel=>exact⟨i-j,j,_,by omega,ap,by omega,aq,by go_num,rfl,Aa aa,Aa O,Aa I⟩
    case measure=>simp[intOf];omega
end Go.Proofs.YtleocpdblhbimaaGreatDoor
