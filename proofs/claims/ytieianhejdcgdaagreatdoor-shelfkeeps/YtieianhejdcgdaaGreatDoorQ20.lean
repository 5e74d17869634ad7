import Derived.Deep.RegionHeld3
import Derived.Deep.AppendLies
import Derived.Test.YtieianhejdcgdaaGreatDoorQ19
import Derived.Deep.DeepCutAuto
import Derived.Laws.AppendOwnNone
set_option maxHeartbeats 4000000
namespace Go.Proofs.YtieianhejdcgdaaGreatDoor
open Go.RowKit
set_option linter.unusedVariables false
end Go.Proofs.YtieianhejdcgdaaGreatDoor
namespace Go.Proofs.YtieianhejdcgdaaGreatDoor
set_option linter.unusedVariables false
set_option maxRecDepth 100000
theorem Zv (xs ys:List Nat):∀q,q<=xs.length->rowB (xs++ys) q=rowB xs q
 |0,_=>rfl
 |q+1,h=>by
  rw[rowB,rowB,Zv xs ys q (by omega)]
  congr 2
  simp only[List.getD];rw[WE (by omega)]
theorem La (xs ys:List Nat):∀q,rowB (xs++ys) (xs.length+q)=rowB xs xs.length++rowB ys q
 |0=>by rw[YN,Zv xs ys _ (VC _)];simp[rowB]
 |q+1=>by
  rw[<-WJ,rowB,La xs ys q,rowB,VJ]
  congr 3
  simp only[List.getD];rw[VY (by omega)]
  congr 2
  omega
theorem Bc {row X R:List Bool}{p:Nat}(h:row.drop p=X++R):row.drop (p+X.length)=R:=by
 rw[<-YY,h,List.drop_left]
theorem Z06 {row X R:List Bool}{p:Nat}(h:row.drop p=X++R)(hX:0<X.length):p+X.length<=row.length:=by
 have:=congrArg List.length h
 rw[VO,VB]at this;omega
theorem Ed (row:List Bool)(n x:Nat)(u:US)(R:List Bool)(he:u.e=0)(hp:u.p<=row.length)(hx:x<2^n)(h:row.drop u.p=Ah x n++R):uget row n u=(x,{u with p:=u.p+n}):=by
 have hl:=Ae x n;have hlen:=congrArg List.length h;rw[VO,VB,hl]at hlen;refine Z1t row n x u he (by omega) hx ?_;rw[h,WC (by omega),VP (by omega)]
theorem Zw (x:Nat)(xs:List Nat):∀q,rowB (x::xs) (q+1)=Ah x 8++rowB xs q
 |0=>by simp[rowB]
 |q+1=>by
  rw[rowB,Zw x xs q,rowB,VJ];rfl
theorem Yp (row:List Bool):∀(bs:List Nat) (u:US) (R:List Bool),u.e=0->u.p<=row.length->(∀j,bs.getD j 0<256)->u.out.length+bs.length<=3000->row.drop u.p=rowB bs bs.length++R->
 ustore row bs.length u= {u with p:=u.p+8*bs.length,out:=u.out++bs}
 | [],u,R,he,hp,hb,hl,h=>by
  rw[VQ,ustore];simp
 |b::bs,u,R,he,hp,hb,hl,h=>by
  rw[VH]at hl h ⊢;rw[Zw,VJ]at h;have h0:b<2^8:=by have:=hb 0;simpa using this
  have hR:=congrArg List.length h;rw[VO,VB,Ae]at hR;have c1:=Ed row 8 b u _ he hp h0 h;have d1:=Bc h;rw[Ae]at d1
  have e:Jt b {u with p:=u.p+8}= {u with p:=u.p+8,out:=u.out++ [b]}:=by
   unfold Jt;simp only
   rw[if_pos he,if_neg (by omega)]
  rw[ustore,if_pos he,c1];simp only
  rw[e,Yp row bs {u with p:=u.p+8,out:=u.out++ [b]} R he (by simp only;omega) (fun j=>by have:=hb (j+1);simpa using this) (by simp;omega) d1];simp only[VJ,List.singleton_append]
  congr 1
  omega
end Go.Proofs.YtieianhejdcgdaaGreatDoor
namespace Go.Proofs.YtieianhejdcgdaaGreatDoor
open Go.RowKit
set_option linter.unusedVariables false
set_option maxRecDepth 100000
theorem Jq (n:Nat):freeN n<8:=by unfold freeN;omega
theorem Iy (n:Nat):(n+freeN n)%8=0:=by unfold freeN;omega
theorem FE {n:Nat}:freeN (n+1)=(if freeN n=0 then 8 else freeN n)-1:=by unfold freeN;split<;>omega
theorem Cm (S:List Bool):(padB S).length=S.length+freeN S.length:=by simp[padB]
theorem Z2j (bs:List Nat)(n f x k:Nat)(S:List Bool)(hl:bs.length=n)(hf:1<=f)(hf8:f<=8)(h:rowB bs n=S++List.replicate f false):
 rowB (bs.set (n-1) (bs.getD (n-1) 0|||x/2^k%2*2^(8-f))) n=S++ [x.testBit k]++List.replicate (f-1) false:=by
 have hlen:=congrArg List.length h;rw[Ag,VB,XT]at hlen;have hb:∀i,i<8*n->Jy bs i=(S++List.replicate f false).getD i false:=fun i hi=>by rw[<-h,Fy bs n i hi]
 apply XF
 . rw[Ag];simp;omega
 . intro i h1 h2;rw[Ag]at h1;have e1:∀(l:List Bool) (hi:i<l.length),l[i]=l.getD i false:=fun l hi=>by simp[List.getD,hi]
   rw[e1,e1,Fy _ n i h1];unfold Jy;rw[BS];have hbi:=hb i h1;unfold Jy at hbi
   by_cases e:i/8=n-1
   . rw[e]at hbi ⊢;rw[if_pos ⟨rfl,by omega⟩,Nat.testBit_or,Qc,hbi]
     by_cases h3:i<S.length
     . have:¬i%8=8-f:=by omega
       rw[decide_eq_false this,Bool.false_and,Bool.or_false];simp only[List.getD];rw[VJ,WE h3,WE h3]
     . by_cases h4:i=S.length
       . subst h4;have:S.length%8=8-f:=by omega
         rw[decide_eq_true this,ZK];simp only[List.getD];rw[VY (VC _),XK,VJ,VY (VC _),XK];obtain⟨f',rfl⟩:∃f',f=f'+1:=⟨f-1,by omega⟩
         simp[YV]
       . have:¬i%8=8-f:=by omega
         rw[decide_eq_false this,Bool.false_and,Bool.or_false];simp only[List.getD];rw[VY (by omega),VY (by simp;omega)]
         have hr:∀(m j:Nat),((List.replicate m false:List Bool)[j]?).getD false=false:=by
          intro m j
          by_cases hj:j<m<;>simp[hj]
         rw[hr,hr]
   . rw[if_neg (fun hh=>e hh.1.symm),hbi];have h3:i<S.length:=by omega
     simp only[List.getD];rw[VJ,WE h3,WE h3]
theorem Z25 {bs:List Nat}{y:Nat}(h:∀j,bs.getD j 0<256)(hy:y<256)(j:Nat):(bs++ [y]).getD j 0<256:=by
 simp only[List.getD]
 by_cases e:j<bs.length
 . rw[WE e];exact h j
 . rw[VY (by omega)]
   by_cases e2:j-bs.length=0
   . rw[e2];simpa using hy
   . obtain⟨q,hq⟩:∃q,j-bs.length=q+1:=⟨j-bs.length-1,by omega⟩
     rw[hq];simp
structure RIs (No:Nat->Prop)(B:Nat)(w:World)(b:Nat)(S:List Bool):Prop where
 base:B<=b
 no:¬No b
 ex:∃ov bs,w.heap[b]? =some (.cells #[ov,.int .i64 (freeN S.length:Nat)] 184 (0,0))/\w.ownsRow (b+1) 5 1 ov bs.length (u8s bs)/\(∀g,ov.ownBlock=some g->¬No g)/\(∀j,bs.getD j 0<256)/\rowB bs bs.length=padB S
structure Rp (No:Nat->Prop)(B:Nat)(w:World)(b:Nat)(S:List Bool)(w':World):Prop where
 is:RIs No B w' b S
 below:Below B w w'
 kp:Kp No w w'
theorem RIs.lt {No:Nat->Prop}{B b:Nat}{w:World}{S:List Bool}(h:RIs No B w b S):b<w.heap.size:=by
 obtain⟨ov,bs,h1,_⟩:=h.ex;exact(VG.1 h1).1
theorem Rp.refl {No:Nat->Prop}{B b:Nat}{w:World}{S:List Bool}(h:RIs No B w b S):Rp No B w b S w:=⟨h,Below.refl _ _,Kp.refl _ _⟩
theorem Rp.trans {No:Nat->Prop}{B b:Nat}{w w1 w2:World}{S S2:List Bool}(h:Rp No B w b S w1)(k:Rp No B w1 b S2 w2):Rp No B w b S2 w2:=⟨k.is,h.below.trans k.below,h.kp.trans k.kp h.below.size⟩
theorem RIs.grow {No No':Nat->Prop}{B b:Nat}{w w':World}{S:List Bool}(h:RIs No B w b S)(hB:Below w.heap.size w w')(hn:∀g,No' g->No g\/w.heap.size<=g):RIs No' B w' b S:=by
 obtain⟨ov,bs,h1,h2,h3,h4,h5⟩:=h.ex;refine⟨h.base, ?_,ov,bs,(hB.block b h.lt).trans h1,Ar h2 (fun g hg=>hB.block g (h2.lt g hg).2), ?_,h4,h5⟩
 . intro e
   rcases hn b e with e|e
   . exact h.no e
   . have:=h.lt;omega
 . intro g hg e
   rcases hn g e with e|e
   . exact h3 g hg e
   . have:=(h2.lt g hg).2;omega
theorem RIs.drewN {No:Nat->Prop}{B b:Nat}{w:World}{S:List Bool}(h:RIs No B w b S)(q:Nat):RIs No B (w.drewN q) b S:=h.grow (Af (Below.refl _ _) q) (fun g e=>.inl e)
theorem RIs.drew {No:Nat->Prop}{B b:Nat}{w:World}{S:List Bool}(h:RIs No B w b S)(q:Nat):Rp No B w b S (w.drewN q):=⟨h.drewN q,Af (Below.refl _ _) q,fun _ _ _=>rfl⟩
def Z74 (No:Nat->Prop)(B:Nat)(w:World)(b:Nat)(S:List Bool)(n f g cap:Nat)(bs:List Nat)(wc:World):Prop:=
 wc.heap[b]? =some (.cells #[.slice (some ⟨g,0,none⟩) n cap,.int .i64 (f:Nat)] 184 (0,0))/\wc.ownsRow (b+1) 5 1 (.slice (some ⟨g,0,none⟩) n cap) n (u8s bs)/\¬No g/\bs.length=n/\(∀j,bs.getD j 0<256)/\rowB bs n=S++List.replicate f false/\1<=f/\f<=8/\(f-1=freeN (S.length+1))/\Below B w wc/\Kp No w wc
theorem Dl (No:Nat->Prop)(B b n s:Nat)(S:List Bool)(w:World)(h:RIs No B w b S)(hn:n<65536)(hs:s<=16)(hS:S.length<=300000)(hNo:∀g,w.heap.size<=g->¬No g):
 Calls Tryz.prog 155 #[.pointer (some ⟨b,0,none⟩),.int .i64 (n:Int),.int .i64 (s:Int)] w fun e w'=>e=.returned (.tuple #[])/\Rp No B w b (S++Ah n s) w':=by
 obtain⟨i0,hi,hz0,hz1,hz2⟩:=info_parts Hs;have H:=Ab h;have HNo:=Ab hNo;clear h hNo;go_enter Tryz.func155,Tryz.ntmps155
 go_wp2;go_loopw [8] (fun i wr=>∃k:Nat,k<=s/\i=.int .i64 k/\Rp No B w b (S++Ah n k) wr) (fun i _=>s-(intOf i).toNat)
 case atStart=>exact⟨0,VM _,rfl,by simpa[Ah]using Rp.refl (Aa H)⟩
 case round=>
  obtain⟨k,hk,rfl,hR⟩:=hrel
  by_cases hlt:k<s
  . have hlen:(S++Ah n k).length=S.length+k:=by rw[VB,Ae]
    have hnum:S++Ah n (k+1)=S++Ah n k++ [n.testBit k]:=by rw[Ah,VJ]
    have HNum:=Ab hnum;obtain⟨S2,hS2⟩:∃S2,S++Ah n k=S2:=⟨_,rfl⟩
    rw[hS2]at hlen hR;have HS2:=Ab hS2;clear hS2 hnum;obtain⟨ov,bs,h1,h2,h3,h4,h5⟩:=hR.is.ex;have hRl:=congrArg List.length h5;rw[Ag,Cm]at hRl;have hfl:=Jq S2.length;have hbl:=hR.is.lt;have hbb:=hR.is.base;have hbn:=hR.is.no;have HR:=Ab hR;have hszw:=hR.below.size;have c0:wr.cell? ⟨b,0,none⟩=some ov:=Ac h1;have c1:wr.cell? ⟨b,1,none⟩=some (.int .i64 (freeN S2.length:Nat)):=Ac h1;have f0:=frozen_of_row wr b 0 _ _ h1;have f1:=frozen_of_row wr b 1 _ _ h1;obtain⟨a,cc,hv⟩:∃a c,ov=.slice a bs.length c:=Ao h2;have H1:=Ab h1;have H2:=Ab h2;have H3:=Ab h3;have H4:=Ab h4;have H5:=Ab h5;have hfn:=FE (n:=S2.length);obtain⟨fr,hfr⟩:∃fr,freeN S2.length=fr:=⟨_,rfl⟩
    obtain⟨L,hL⟩:∃L,bs.length=L:=⟨_,rfl⟩
    rw[hfr]at c1 hRl hfl hfn;have HF:=Ab hfr;have HL:=Ab hL;rw[hL]at hv hRl;clear h1 h2 h3 h4 h5 hfr hL hR;go_upto_if 15 with (fail)
    go_cut [] (fun wc=>∃n2 f g cap bs2,Hid (Z74 No B w b S2 n2 f g cap bs2 wc)/\n2<=40000)
    case first=>
     by_cases h0:fr=0
     . subst h0;subst hv
       have HVb:Hid ((Value.slice a L cc).ownBlock=none\/ (Value.slice a L cc).ownBlock≠some b):=by
        cases hx:(Value.slice a L cc).ownBlock with
        |none=>exact .inl rfl
        |some g=>
         refine .inr (fun e=> ?_);have:=((Aa H2).lt g hx).1
         cases e
         omega
       have HOV:Hid (wr.ownsRow (b+1) 5 1 (.slice a L cc) L (u8s bs)):=by
        have:=Aa H2
        rw[Aa HL]at this;exact Ab this
       go_wp2_with (at_builtin;refine wpList_append_own_at _ rfl _ _ 23 rfl (b+1) 5 i0 (.int .u8 0) 1 1 Tryz.underlying23 hi hz0 hz1 hz2 rfl (by decide) _ L (u8s bs) rfl ((Aa HOV).alloc _) ⟨wr.heap.size,0,none⟩ 1 1 [.int .u8 0] rfl rfl (cell_one_new _ _ _) (Bf rfl) (by unfold maxLen;omega) (by omega) (by simp;omega) ?_)
       intro v' w3 hO3 hgrow _ hspot;have hO3':=hO3;obtain⟨g9,c9,hv9,hg91,hg92⟩:=Bt hO3 (by omega)
       have hgb:w3.heap[b]? =some (.cells #[.slice a L cc,.int .i64 ((0:Nat):Int)] 184 (0,0)):=by
        rw[hgrow.block b (by simp;omega) (fun e=>by rcases Aa HVb with h|h;rw[h]at e;cases e;exact h e.symm)];have:=Aa H1
        rw[Aa HF]at this;exact(Below.heap_alloc wr _ b hbl).trans this
       have q0:w3.cell? ⟨b,0,none⟩=some (.slice a L cc):=Ac hgb;have qf0:=frozen_of_row w3 b 0 _ _ hgb
       have hgb2:(w3.setCell ⟨b,0,none⟩ v').heap[b]? =some (.cells #[v',.int .i64 ((0:Nat):Int)] 184 (0,0)):=by
        rw[heap_setCell_same w3 b 0 _ _ _ hgb];rfl
       have q1:(w3.setCell ⟨b,0,none⟩ v').cell? ⟨b,1,none⟩=some (.int .i64 ((0:Nat):Int)):=Ac hgb2;have qf1:=frozen_of_row (w3.setCell ⟨b,0,none⟩ v') b 1 _ _ hgb2
       have HFIN:Hid (Z74 No B w b S2 (L+1) 8 g9 c9 (bs++ [0]) ((w3.setCell ⟨b,0,none⟩ v').setCell ⟨b,1,none⟩ (.int .i64 8))):=by
        have hs1:=Ad w3 b 0 v';have hs2:=Ad (w3.setCell ⟨b,0,none⟩ v') b 1 (.int .i64 8);have hsz:=hgrow.size;simp only[World.size_alloc]at hsz;have hz1:=hs1.size
        have hv'b:v'.ownBlock=none\/v'.ownBlock≠some b:=by
         cases hx:v'.ownBlock with
         |none=>exact .inl rfl
         |some g=>
          refine .inr (fun e=> ?_);have:=(hO3'.lt g hx).1
          cases e
          omega
        have hRb:=Aa HR;refine⟨?_, ?_, ?_, ?_,Z25 (Aa H4) (by decide), ?_,by omega,by omega, ?_, ?_, ?_⟩
        . rw[heap_setCell_same _ b 1 _ _ _ hgb2,<-hv9];rfl
        . rw[<-hv9];have:=(hO3'.kept hs1 hv'b).kept hs2 hv'b
          rw[IY];exact this
        . rcases hspot with h|h
          . exact Aa H3 g9 (by rw[<-h,hv9];rfl)
          . rw[hv9]at h;have:=VN h
            exact Aa HNo g9 (by simp at this;omega)
        . rw[VB,Aa HL];rfl
        . have h5:=Aa H5;have e:=La bs [0] 1;rw[Aa HL]at e h5;rw[e,h5];unfold padB;rw[Aa HF];simp only[YX,WO];rfl
        . rw[hfn];rfl
        . have b0:=hRb.below;have b1:=b0.alloc (by omega) (.cells #[.int .u8 0] 5);have b2:=b1.grown hgrow (by simp;omega) (fun g e=>by have:=((Aa H2).lt g e).1;omega);exact(b2.grown hs1 (by omega) (fun g e=>by cases e;exact hbb)).grown hs2 (by omega) (fun g e=>by cases e;exact hbb)
        . have k0:=hRb.kp;have k1:=k0.grown (ga (Ap wr none) (.cells #[.int .u8 0] 5)) hszw (fun j e=>by cases e);have k2:=k1.grown hgrow (by simp;omega) (fun j e=>Aa H3 j e);exact(k2.grown hs1 (by omega) (fun g e=>by cases e;exact hbn)).grown hs2 (by omega) (fun g e=>by cases e;exact hbn)
       subst hv9;clear hO3 hO3' hgrow hspot hgb hgb2 hg91 hg92;go_wp2
       all_goals go_meet
       all_goals exact⟨L+1,8,g9,c9,bs++ [0],HFIN,by omega⟩
     . have hb0:((fr:Int)==0)=false:=by rw[beq_eq_false_iff_ne];omega
       have HO2:Hid (wr.ownsRow (b+1) 5 1 ov L (u8s bs)):=by
        have:=Aa H2
        rw[Aa HL]at this;exact Ab this
       obtain⟨g9,c9,hv9,hg91,hg92⟩:=Bt (Aa HO2) (by omega)
       have HFIN:Hid (Z74 No B w b S2 L fr g9 c9 bs wr):=by
        have h1:=Aa H1;have h5:=Aa H5;rw[Aa HF]at h1;rw[Aa HL]at h5;unfold padB at h5;rw[Aa HF]at h5;rw[hv9]at h1;refine⟨h1,by rw[<-hv9];exact Aa HO2,Aa H3 g9 (by rw[hv9];rfl),Aa HL,Aa H4,h5,by omega,by omega, ?_,(Aa HR).below,(Aa HR).kp⟩;rw[hfn,if_neg h0]
       subst hv;clear hg91 hg92 hv9;go_wp2
       all_goals go_meet
       all_goals exact⟨L,fr,g9,c9,bs,HFIN,by omega⟩
    case rest=>
     obtain⟨n2,f,g,cap,bs2,hM,hn2⟩:=hcut;obtain⟨m1,m2,m3,m4,m5,m6,m7,m8,m9,m10,m11⟩:=Aa hM;clear c0 c1 f0 f1 hv;have hgne:g≠b:=by have:=(m2.lt g rfl).1;omega
     have hn0:1<=n2:=by
      have:=congrArg List.length m6
      rw[Ag,VB,XT]at this;omega
     have c0:wc.cell? ⟨b,0,none⟩=some (.slice (some ⟨g,0,none⟩) n2 cap):=Ac m1;have c1:wc.cell? ⟨b,1,none⟩=some (.int .i64 (f:Nat)):=Ac m1;have f1:=frozen_of_row wc b 1 _ _ m1;obtain⟨x,hx⟩:∃x,bs2.getD (n2-1) 0=x:=⟨_,rfl⟩
     have hx256:=m5 (n2-1);rw[hx]at hx256
     have cl:wc.cell? ⟨g,n2-1,none⟩=some (.int .u8 (x:Int)):=by
      rw[m2.cellAt (n2-1) (by omega),<-hx];simp[List.getD,m4,show n2-1<n2 by omega]
     have fl:=m2.frozenAt (n2-1);have HS:=Ab (RR x n k (8-f) hx256 hn (by omega));have hM':=hM;have i1:((n2:Int)-1).toNat=n2-1:=by omega
     have i2:(0:Int)<=(n2:Int)-1:=by omega
     have i3:(n2:Int)-1<(n2:Int):=by omega
     have j1:(0:Int)<=8-(f:Int):=by omega
     have c1':∀v,(wc.setCell ⟨g,n2-1,none⟩ v).cell? ⟨b,1,none⟩=some (.int .i64 (f:Nat)):=fun v=>(World.cell?_setCell_other _ _ _ _ (by intro h;injection h;omega)).trans c1
     have f1':∀v,(wc.setCell ⟨g,n2-1,none⟩ v).frozen? ⟨b,1,none⟩=false:=fun v=>by simp[f1]
     have HX:=Ab hx;have HG:=Ab hgne;clear m1 m2 m3 m4 m5 m6 m9 m10 m11 hx hM hgne;go_wp2;go_big_region
     go_wp2;go_roundw
     case rel=>
      obtain⟨m1,m2,m3,m4,m5,m6,m7',m8',m9,m10,m11⟩:=Aa hM';have HS':=Aa HS;have hgne:=Aa HG;rw[HS'];have hy:(x|||n/2^k%2*2^(8-f))<256:=Nat.or_lt_two_pow (n:=8) hx256 (XV (Vg (AF (k:=8-f) (by omega))) (by decide));have hst:=m2.stored (n2-1) (.int .u8 ((x|||n/2^k%2*2^(8-f):Nat):Int));have hrow:=Z2j bs2 n2 f n k S2 m4 m7' m8' m6;rw[Aa HX]at hrow;generalize (x|||n/2^k%2*2^(8-f))=y at*;have hs2:=Ad (wc.setCell ⟨g,n2-1,none⟩ (.int .u8 ((y:Nat):Int))) b 1 (.int .i64 ((f:Int)-1))
      have hb1:(wc.setCell ⟨g,n2-1,none⟩ (.int .u8 ((y:Nat):Int))).heap[b]? =some (.cells #[.slice (some ⟨g,0,none⟩) n2 cap,.int .i64 (f:Nat)] 184 (0,0)):=
       (hst.2.block b (VG.1 m1).1 (fun e=>hgne (VN e).symm)).trans m1
      have hlb:b<wc.heap.size:=(VG.1 m1).1;have hz1:=hst.2.size;refine⟨k+1,by omega,by go_num, ?_⟩;have eS:S++Ah n (k+1)=S2++ [n.testBit k]:=by rw[Aa HNum,Aa HS2]
      rw[eS];refine⟨⟨hbb,hbn,.slice (some ⟨g,0,none⟩) n2 cap,bs2.set (n2-1) y, ?_, ?_, ?_, ?_, ?_⟩, ?_, ?_⟩
      . show (((wc.setCell ⟨g,n2-1,none⟩ (.int .u8 ((y:Nat):Int))).setCell ⟨b,1,none⟩ (.int .i64 ((f:Int)-1))).heap)[b]? =_
        rw[heap_setCell_same _ b 1 _ _ _ hb1,VB];show some (Obj.cells #[_,.int .i64 ((f:Int)-1)] _ _)=some (Obj.cells #[_,.int .i64 ((freeN (S2.length+1):Nat):Int)] _ _)
        rw[<-m9,show ((f:Int)-1)=((f-1:Nat):Int) by omega]
      . have ho:=RY (hst.1.kept hs2 (.inr (fun e=>hgne (VN e))));have eu:u8s (bs2.set (n2-1) y)=(u8s bs2).set (n2-1) (.int .u8 ((y:Nat):Int)):=by rw[u8s,List.map_set]
        rw[YA,m4,eu];exact ho
      . intro g' hg';have:g=g':=by simpa[Value.ownBlock]using hg'
        rw[<-this];exact m3
      . intro j;rw[BS]
        split
        . exact hy
        . exact m5 j
      . rw[YA,m4,hrow];unfold padB;rw[VB];show _=S2++ [n.testBit k]++List.replicate (freeN (S2.length+1)) false
        rw[<-m9]
      . exact((m10.grown hst.2 (by omega) (fun j e=>by have:=VN e;have:=(m2.lt g rfl).1;omega)).grown hs2 (by omega) (fun j e=>by cases e;exact hbb)).drew
      . have k1:=m11.grown hst.2 m10.size (fun j e=>by rw[<-VN e];exact m3);exact k1.grown (Bp hs2) (by have:=m10.size;omega) (fun j e=>by cases e;exact hbn)
     case measure=>simp[intOf];omega
  . obtain rfl:k=s:=by omega
    have HR:=Ab hR;clear hR;go_wp2;go_end0
    exact⟨rfl,Aa HR⟩
theorem KM (No:Nat->Prop)(B b:Nat)(S:List Bool)(w:World)(h:RIs No B w b S):
 Calls Tryz.prog 184 #[.pointer (some ⟨b,0,none⟩)] w fun e w'=>e=.returned (.tuple #[])/\Rp No B w b (padB S) w':=by
 obtain⟨ov,bs,h1,h2,h3,h4,h5⟩:=h.ex;have hbb:=h.base;have hbn:=h.no;have hbl:=h.lt;have c1:w.cell? ⟨b,1,none⟩=some (.int .i64 (freeN S.length:Nat)):=Ac h1;have f1:=frozen_of_row w b 1 _ _ h1
 have HFIN:Hid (Rp No B w b (padB S) (w.setCell ⟨b,1,none⟩ (.int .i64 0))):=by
  have hs:=Ad w b 1 (.int .i64 0);have e0:freeN (padB S).length=0:=by rw[Cm];have:=Iy S.length;unfold freeN at*;omega
  refine⟨⟨hbb,hbn,ov,bs, ?_, ?_,h3,h4, ?_⟩, ?_, ?_⟩
  . rw[heap_setCell_same w b 1 _ _ _ h1,e0];rfl
  . refine h2.kept hs ?_
    cases hx:ov.ownBlock with
    |none=>exact .inl rfl
    |some g=>
     refine .inr (fun e=> ?_);have:=(h2.lt g hx).1
     cases e
     omega
  . rw[h5];unfold padB;unfold padB at e0;rw[e0];simp
  . exact(Below.refl B w).grown hs (by omega) (fun g e=>by cases e;exact hbb)
  . exact(Kp.refl No w).grown hs (VC _) (fun g e=>by cases e;exact hbn)
 clear h h1 h2 h3 h4 h5;generalize (freeN S.length)=fr at*;go_enter Tryz.func184,Tryz.ntmps184
 go_wp2;go_end0
 exact⟨rfl,Aa HFIN⟩
theorem TS (S:List Bool):freeN (padB S).length=0:=by rw[Cm];have:=Iy S.length;unfold freeN at*;omega
theorem AM {S:List Bool}(h:freeN S.length=0):padB S=S:=by unfold padB;rw[h];simp
theorem DC:(List.range 3001).all (fun n=>bits .and .i64 (bits .xor .i64 (-1) (n:Int)) 65535==((65535-n:Nat):Int))=true:=by decide+kernel
theorem JA {n:Nat}(h:n<=3000):bits .and .i64 (bits .xor .i64 (-1) (n:Int)) 65535=((65535-n:Nat):Int):=by
 have:=WS.1 DC n (by simp;omega)
 simpa using this
theorem JX {w:World}{a:Option Addr}{bs:List Nat}{n cap:Nat}(hl:bs.length=n)(hB:BytesIn w a bs)(hnil:a=none->cap=0):(a=none/\n=0/\cap=0/\bs= [])\/∃ad,a=some ad/\∀j u,(u8s bs)[j]? =some u->w.cell? (ad.add j)=some u:=by
 cases a with
 |none=>
  rcases hB with h|⟨b,o,e,_⟩
  . subst h;exact .inl ⟨rfl,hl.symm,hnil rfl,rfl⟩
  . cases e
 |some ad=>
  refine .inr ⟨ad,rfl, ?_⟩
  rcases hB with h|⟨b,o,e,hb,h⟩
  . subst h;intro j u hj;simp at hj
  . cases e
    intro j u hj;have e1:(⟨b,o,none⟩:Addr).add j=⟨b,o+j,none⟩:=by unfold Addr.add;split<;>simp_all
    have hj2:j<bs.length:=by
     by_cases c:j<bs.length
     . exact c
     . rw[WA (by simp;omega)]at hj;cases hj
    rw[e1,h j hj2];simp[hj2]at hj
    subst hj;simp[List.getD,hj2]
theorem Xz {w w':World}{a:Option Addr}{bs:List Nat}(h:BytesIn w a bs)(hs:w.heap.size<=w'.heap.size)(hk:∀b o,a=some ⟨b,o,none⟩->bs≠ []->b<w.heap.size->w'.heap[b]? =w.heap[b]?):BytesIn w' a bs:=by
 by_cases e:bs= []
 . exact .inl e
 . rcases h with h|⟨b,o,rfl,hb,hT⟩
   . exact absurd h e
   . exact .inr ⟨b,o,rfl,by omega,fun j hj=>(World.cell?_of_block (w:=w) (a:=⟨b,_,none⟩) (hk b o rfl e hb)).trans (hT j hj)⟩
theorem Wi (No:Nat->Prop)(B rb:Nat)(a:Option Addr)(n cap:Nat)(bs:List Nat)(S:List Bool)(w:World)(h:RIs No B w rb S)(hl:bs.length=n)(hn:n<=3000)(hnil:a=none->cap=0)(hB:BytesIn w a bs)(hx:∀j,bs.getD j 0<256)(hTn:∀b o,a=some ⟨b,o,none⟩->bs≠ []->No b)(hNo:∀g,w.heap.size<=g->¬No g)(hS:S.length<=290000):
 Calls Tryz.prog 156 #[.pointer (some ⟨rb,0,none⟩),.slice a n cap] w fun e w'=>e=.returned (.tuple #[])/\Rp No B w rb (Ia S bs) w':=by
 obtain⟨i0,hi,hz0,hz1,hz2⟩:=info_parts Hs;have hpl:=Cm S;have hfl:=Jq S.length;have H1:=Ab (KM No B rb S w h);have H2:=Ab (fun w1 (r:Rp No B w rb (padB S) w1)=>Dl No B rb n 16 (padB S) w1 r.is (by omega) (by decide) (by omega) (fun g hg=>hNo g (by have:=r.below.size;omega)));have H3:=Ab (fun w2 (r:Rp No B w rb (padB S++Ah n 16) w2)=>Dl No B rb (65535-n) 16 (padB S++Ah n 16) w2 r.is (by omega) (by decide) (by rw[VB,Ae];omega) (fun g hg=>hNo g (by have:=r.below.size;omega)));have hE:Ia S bs=padB S++Ah n 16++Ah (65535-n) 16++rowB bs bs.length:=by unfold Ia padB;rw[hl]
 rw[hE];have ht:=JA hn;have HKP:=Ab (fun w3 S3 (r:Rp No B w rb S3 w3)=>Xz hB r.below.size (fun b o e hne hb=>r.kp b hb (hTn b o e hne)));have HL:=Ab hl;have HX:=Ab hx;have HNIL:=Ab hnil;have HNo:=Ab hNo;have hbl:=h.lt;have hbb:=h.base;have hbn:=h.no;clear hE h hB hTn hnil hx hl hNo;go_enter Tryz.func156,Tryz.ntmps156
 go_wp2_with fail
 refine(Aa H1).mono ?_;rintro e w1 ⟨rfl,q1⟩;have HP2:=Ab (Aa H2 w1 q1);have HQ1:=Ab q1;clear q1 H1 H2;go_wp2_with fail
 refine(Aa HP2).mono ?_;rintro e w2 ⟨rfl,q2⟩;have q2':=(Aa HQ1).trans q2;have HP3:=Ab (Aa H3 w2 q2');have HQ2:=Ab q2';clear q2 q2' H3 HP2 HQ1;go_wp2_with fail
 refine(Aa HP3).mono ?_;rintro e w3 ⟨rfl,q3⟩;have q3':=(Aa HQ2).trans q3;obtain⟨S3,hS3⟩:∃S3,padB S++Ah n 16++Ah (65535-n) 16=S3:=⟨_,rfl⟩
 rw[hS3]at q3';have hl3:S3.length=(padB S).length+32:=by rw[<-hS3];simp[Ae]
 have hf3:freeN S3.length=0:=by
  have:=TS S
  rw[hl3];unfold freeN at*;omega
 have HS3:=Ab hS3;obtain⟨ov,old,h1,h2,h3,h4,h5⟩:=q3'.is.ex;rw[AM hf3]at h5;rw[hf3]at h1;have hol:=congrArg List.length h5;rw[Ag]at hol;have hsrc:=JX (Aa HL) (Aa HKP w3 _ q3') (Aa HNIL);have c0:w3.cell? ⟨rb,0,none⟩=some ov:=Ac h1;have f0:=frozen_of_row w3 rb 0 _ _ h1;obtain⟨L,hL⟩:∃L,old.length=L:=⟨_,rfl⟩
 rw[hL]at h2 hol;have hz3:=q3'.below.size
 have HFIN:Hid (∀v' w4,w4.ownsRow (rb+1) 5 1 v' (L+n) (u8s old++u8s bs)->w3.grownBy w4 ov.ownBlock->(v'.ownBlock=ov.ownBlock\/v'.ownBlock=some w3.heap.size)->w4.cell? ⟨rb,0,none⟩=some ov/\w4.frozen? ⟨rb,0,none⟩=false/\Rp No B w rb (padB S++Ah n 16++Ah (65535-n) 16++rowB bs bs.length) (w4.setCell ⟨rb,0,none⟩ v')):=by
  intro v' w4 hO4 hgrow hspot;have hgb:w4.heap[rb]? =some (.cells #[ov,.int .i64 ((0:Nat):Int)] 184 (0,0)):=(hgrow.block rb (by omega) (fun e=>by have:=(h2.lt rb e.symm).1;omega)).trans h1;have hs:=Ad w4 rb 0 v';have hsz:=hgrow.size;have hlB:(rowB bs bs.length).length=8*n:=by rw[Ag,Aa HL]
  have hf4:freeN (S3++rowB bs bs.length).length=0:=by
   rw[VB,hlB];unfold freeN at*;omega
  refine⟨Ac hgb,frozen_of_row w4 rb 0 _ _ hgb, ?_⟩;rw[hS3];refine⟨⟨hbb,hbn,v',old++bs, ?_, ?_, ?_, ?_, ?_⟩, ?_, ?_⟩
  . rw[hf4,heap_setCell_same _ rb 0 _ _ _ hgb];rfl
  . rw[VB,hL,Aa HL];have e:u8s (old++bs)=u8s old++u8s bs:=by simp
    rw[e];refine hO4.kept hs ?_
    cases hx:v'.ownBlock with
    |none=>exact .inl rfl
    |some g=>
     refine .inr (fun e=> ?_);have:=(hO4.lt g hx).1
     cases e
     omega
  . intro g hg
    rcases hspot with e|e
    . exact h3 g (by rw[<-e];exact hg)
    . rw[e]at hg;have:=VN hg
      exact Aa HNo g (by omega)
  . intro j
    by_cases hj:j<old.length
    . have:=h4 j
      simp only[List.getD]at this ⊢;rw[WE hj];exact this
    . have:=Aa HX (j-old.length)
      simp only[List.getD]at this ⊢;rw[VY (by omega)];exact this
  . rw[AM hf4,VB,La old bs bs.length,<-hL]at*;rw[h5]
  . exact(q3'.below.grown hgrow (by omega) (fun g e=>by have:=(h2.lt g e).1;omega)).grown hs (by omega) (fun g e=>by cases e;exact hbb)
  . exact(q3'.kp.grown hgrow hz3 (fun g e=>h3 g e)).grown hs (by omega) (fun g e=>by cases e;exact hbn)
 have HO:=Ab h2;have hL40:L<=40000:=by omega
 have hL1:0<L:=by omega
 obtain⟨ga,ca,hov,_,_⟩:=Bt h2 hL1;clear h1 h2 h3 h4 h5 q3 q3' HP3 HQ2 hol hpl hS3 hl3 hf3 HKP ht;subst hov
 rcases hsrc with ⟨rfl,rfl,rfl,rfl⟩|⟨ad,rfl,hcs⟩
 . have hF:=Aa HFIN _ w3 (by simpa using Aa HO) (Ap w3 _) (.inl rfl);have HF:=Ab hF.2.2;clear hF HFIN;go_wp2_with (at_builtin;refine wpList_append_own_none rfl _ _ 23 rfl (rb+1) 5 i0 1 Tryz.underlying23 hi _ L (u8s old) rfl (Aa HO) rfl ?_)
   go_end0
   exact⟨rfl,Aa HF⟩
 . have HCS:=Ab hcs;clear hcs;go_wp2_with (at_builtin;refine wpList_append_own_at _ rfl _ _ 23 rfl (rb+1) 5 i0 (.int .u8 0) 1 1 Tryz.underlying23 hi hz0 hz1 hz2 rfl (by decide) _ L (u8s old) rfl (Aa HO) ad n cap (u8s bs) rfl (by rw[WN,Aa HL,Nat.mul_one]) (Aa HCS) (by intro u hu;obtain⟨x,_,rfl⟩:=WY.1 hu;rfl) (by unfold maxLen;omega) (by omega) (by omega) ?_)
   intro v' w4 hO4 hgrow _ hspot;obtain⟨r0,r1,r2⟩:=Aa HFIN v' w4 hO4 hgrow hspot;obtain⟨g9,c9,hv9,_,_⟩:=Bt hO4 (by omega);have HF:=Ab r2;subst hv9;clear hO4 hgrow hspot r2 HFIN HO;go_wp2;go_end0
   exact⟨rfl,Aa HF⟩
end Go.Proofs.YtieianhejdcgdaaGreatDoor
