import Derived.Test.YtleocpdblhbimaaGreatDoorQ43
set_option linter.unusedSimpArgs false
set_option maxHeartbeats 2000000
namespace Go.Proofs.YtleocpdblhbimaaGreatDoor
open Go.RowKit
set_option linter.unusedVariables false
set_option maxRecDepth 100000
def pcs (t:Nat×Nat):List Value:= [.int .i64 (t.1:Int),.int .i64 (t.2:Int)]
def pvs (l:List (Nat×Nat)):List Value:=l.flatMap pcs
theorem FL (l:List (Nat×Nat)):(pvs l).length=l.length*2:=by
 induction l with
 |nil=>rfl
 |cons t r ih=>
  have:pvs (t::r)=pcs t++pvs r:=rfl
  rw[this,VE,ih,VJ];show 2+r.length*2=_
  omega
theorem Nh (l r:List (Nat×Nat)):pvs (l++r)=pvs l++pvs r:=by simp[pvs]
theorem Z6a (l:List (Nat×Nat))(j:Nat)(hj:j<l.length):(pvs l)[j*2]? =some (.int .i64 ((l.getD j (0,0)).1:Int))/\(pvs l)[j*2+1]? =some (.int .i64 ((l.getD j (0,0)).2:Int)):=by
 induction l generalizing j with
 |nil=>simp at hj
 |cons t r ih=>
  have e:pvs (t::r)=pcs t++pvs r:=rfl
  match j with
  |0=>rw[e];exact⟨rfl,rfl⟩
  |j+1=>
   have hj':j<r.length:=by simpa using hj
   obtain⟨h1,h2⟩:=ih j hj';have hl:(pcs t).length=2:=rfl;refine⟨?_, ?_⟩
   . rw[e,VX (by rw[hl];omega),hl,show (j+1)*2-2=j*2 by omega,h1];rfl
   . rw[e,VX (by rw[hl];omega),hl,show (j+1)*2+1-2=j*2+1 by omega,h2];rfl
def Prs (w:World)(g:Nat)(l:List (Nat×Nat)):Prop:=∀j,j<l.length->w.cell? ⟨g,j*2,none⟩=some (.int .i64 ((l.getD j (0,0)).1:Int))/\w.cell? ⟨g,j*2+1,none⟩=some (.int .i64 ((l.getD j (0,0)).2:Int))
theorem Prs.own {w:World}{B g n cap:Nat}{l:List (Nat×Nat)}(h:w.ownsRow B 129 2 (.slice (some ⟨g,0,none⟩) n cap) n (pvs l)):Prs w g l:=by
 intro j hj;have hn:l.length=n:=by have:=h.1;rw[FL]at this;omega
 obtain⟨h1,h2⟩:=Z6a l j hj;refine⟨?_, ?_⟩
 . rw[h.cellAt _ (by omega)];simp[List.getD,h1]
 . rw[h.cellAt _ (by omega)];simp[List.getD,h2]
theorem Prs.block {w w':World}{g:Nat}{l:List (Nat×Nat)}(h:Prs w g l)(hb:w'.heap[g]? =w.heap[g]?):Prs w' g l:=by
 intro j hj;obtain⟨h1,h2⟩:=h j hj;unfold World.cell? at h1 h2 ⊢;rw[hb];exact⟨h1,h2⟩
theorem Z4x:(Tryz.prog.info? 129).map (fun i=>(i.zero,i.size,i.bytes))=some (some (.agg #[.int .i64 0,.int .i64 0]),2,16):=by kernel_rfl
def O7:List Int:= [0,0,0,0,0,0,0,0,1,1,1,1,2,2,2,2,3,3,3,3,4,4,4,4,5,5,5,5]
def Y9 (k:Nat):Nat:=if k=28 then 259 else (samesL.getD k (0,0)).1
def GS (k:Nat):Nat:=if k=30 then 32769 else (farsL.getD k (0,0)).1
theorem FD:∀k,k<28->samesL.take (k+1)=samesL.take k++ [(Y9 k,(O7.getD k 0).toNat)]/\Y9 (k+1)=Y9 k+2^(O7.getD k 0).toNat/\0<=O7.getD k 0/\O7.getD k 0<=5/\Y9 k<=300:=by decide
theorem PR:∀k,k<30->farsL.take (k+1)=farsL.take k++ [(GS k,if k<4 then 0 else k/2-1)]/\GS (k+1)=GS k+2^(if k<4 then 0 else k/2-1)/\(if k<4 then 0 else k/2-1)<=13/\GS k<=40000:=by decide
theorem Lf (W:World)(x y:Value)(t:TypeId):∀j u,[x,y][j]? =some u->(W.alloc (.cells #[x,y] t)).cell? ((⟨W.heap.size,0,none⟩:Addr).add j)=some u:=by
 intro j u hj;have e:(⟨W.heap.size,0,none⟩:Addr).add j=⟨W.heap.size,j,none⟩:=by unfold Addr.add;split<;>simp_all
 rw[e,World.cell?_alloc_at _ _ _ _ rfl]
 match j,hj with
 |0,hj=>simpa using hj
 |1,hj=>simpa using hj
theorem LS (w:World):Calls Tryz.prog 96 #[] w fun e w'=>∃g1 c1 g2 c2,e=.returned (.tuple #[.slice (some ⟨g1,0,none⟩) 29 c1,.slice (some ⟨g2,0,none⟩) 30 c2])/\w.heap.size<=g1/\w.heap.size<=g2/\Prs w' g1 samesL/\Prs w' g2 farsL/\Below w.heap.size w w'/\g1<w'.heap.size/\g2<w'.heap.size:=by
 obtain⟨i0,hi,hz0,hz1,hz2⟩:=info_parts Z4x;have HR0:=Ab (RowIn.new .i64 w O7 3 #[.int .i64 0,.int .i64 0,.int .i64 0,.int .i64 0,.int .i64 0,.int .i64 0,.int .i64 0,.int .i64 0,.int .i64 1,.int .i64 1,.int .i64 1,.int .i64 1,.int .i64 2,.int .i64 2,.int .i64 2,.int .i64 2,.int .i64 3,.int .i64 3,.int .i64 3,.int .i64 3,.int .i64 4,.int .i64 4,.int .i64 4,.int .i64 4,.int .i64 5,.int .i64 5,.int .i64 5,.int .i64 5] w.heap.size rfl rfl);have HB0:=Ab ((Below.refl w.heap.size w).alloc (VB _) (.cells #[.int .i64 0,.int .i64 0,.int .i64 0,.int .i64 0,.int .i64 0,.int .i64 0,.int .i64 0,.int .i64 0,.int .i64 1,.int .i64 1,.int .i64 1,.int .i64 1,.int .i64 2,.int .i64 2,.int .i64 2,.int .i64 2,.int .i64 3,.int .i64 3,.int .i64 3,.int .i64 3,.int .i64 4,.int .i64 4,.int .i64 4,.int .i64 4,.int .i64 5,.int .i64 5,.int .i64 5,.int .i64 5] 3));have hz0':(w.alloc (.cells #[.int .i64 0,.int .i64 0,.int .i64 0,.int .i64 0,.int .i64 0,.int .i64 0,.int .i64 0,.int .i64 0,.int .i64 1,.int .i64 1,.int .i64 1,.int .i64 1,.int .i64 2,.int .i64 2,.int .i64 2,.int .i64 2,.int .i64 3,.int .i64 3,.int .i64 3,.int .i64 3,.int .i64 4,.int .i64 4,.int .i64 4,.int .i64 4,.int .i64 5,.int .i64 5,.int .i64 5,.int .i64 5] 3)).heap.size=w.heap.size+1:=by simp
 go_enter Tryz.func96,Tryz.ntmps96
 go_wp2;generalize w.alloc (.cells #[.int .i64 0,.int .i64 0,.int .i64 0,.int .i64 0,.int .i64 0,.int .i64 0,.int .i64 0,.int .i64 0,.int .i64 1,.int .i64 1,.int .i64 1,.int .i64 1,.int .i64 2,.int .i64 2,.int .i64 2,.int .i64 2,.int .i64 3,.int .i64 3,.int .i64 3,.int .i64 3,.int .i64 4,.int .i64 4,.int .i64 4,.int .i64 4,.int .i64 5,.int .i64 5,.int .i64 5,.int .i64 5] 3)=w0 at*;go_loopw [0,2,9] (fun v0 v2 v9 wr=>∃k:Nat,k<=28/\v9=.int .i64 (k:Int)/\v2=.int .i64 (Y9 k:Int)/\wr.ownsRow (w.heap.size+1) 129 2 v0 k (pvs (samesL.take k))/\Below (w.heap.size+1) w0 wr) (fun _ _ v9 _=>28-(intOf v9).toNat)
 case atStart=>exact⟨0,by omega,rfl,rfl,World.ownsRow_nil _ _ _ _,Below.refl _ _⟩
 case round=>
  obtain⟨k,hk,rfl,rfl,hO,hBr⟩:=hrel;have HO:=Ab hO;have HBr:=Ab hBr;have hzr:=hBr.size
  by_cases hlt:k<28
  . obtain⟨h1,h2,h3,h4,h5⟩:=FD k hlt
    have c1:wr.cell? ⟨w.heap.size,k,none⟩=some (.int .i64 (O7.getD k 0)):=by
     rw[hBr.cell (p:=⟨w.heap.size,k,none⟩) (by simp)]
     rcases Aa HR0 with h|⟨b,o,e,_,h⟩
     . cases h
     . cases e
       have:=h k (by simpa[O7]using hlt)
       simpa using this
    have H1:=Ab h1;have H2:=Ab h2;clear h1 h2 hO hBr;generalize O7.getD k 0=bt at*;obtain⟨m,rfl⟩:=WF h3;rw[WM]at H1 H2;generalize Y9 k=fk at*;have HOw:=Ab ((Aa HO).alloc (.cells #[.int .i64 (fk:Int),.int .i64 (m:Int)] 129));have HBw:=Ab ((Aa HBr).alloc (by omega) (.cells #[.int .i64 (fk:Int),.int .i64 (m:Int)] 129));have HCw:=Ab (Lf wr (.int .i64 (fk:Int)) (.int .i64 (m:Int)) 129);go_wp2_with (at_builtin;refine wpList_append_own_at _ rfl _ _ 130 rfl (w.heap.size+1) 129 i0 _ 2 16 Tryz.underlying130 hi hz0 hz1 hz2 rfl (by decide) u0 k (pvs (samesL.take k)) rfl (Aa HOw) ⟨wr.heap.size,0,none⟩ 1 1 [.int .i64 (fk:Int),.int .i64 (m:Int)] rfl rfl (Aa HCw) (by intro u hu;simp at hu;rcases hu with rfl|rfl<;>rfl) (by unfold maxLen;omega) (by omega) (by simp;omega) ?_)
    intro v' w4 hO4 hgrow _ hspot
    have HO4:Hid (w4.ownsRow (w.heap.size+1) 129 2 v' (k+1) (pvs (samesL.take (k+1)))):=by
     rw[Aa H1,Nh];exact hO4
    have HB4:=Ab ((Aa HBw).grown hgrow (by simp;omega) (fun g e=>((Aa HO).lt g e).1));clear hO4 hgrow hspot HOw HBw HCw HO HBr c1;have hm5:m=0\/m=1\/m=2\/m=3\/m=4\/m=5:=by omega
    rcases hm5 with rfl|rfl|rfl|rfl|rfl|rfl
    all_goals
     go_wp2;go_roundw
     case rel=>exact⟨k+1,by omega,by go_num,by rw[Aa H2];simp,Aa HO4,Aa HB4⟩
     case measure=>simp[intOf];omega
  . obtain rfl:k=28:=by omega
    have hf28:Y9 28=259:=rfl;rw[hf28];have HOw:=Ab ((Aa HO).alloc (.cells #[.int .i64 258,.int .i64 0] 129));have HBw:=Ab ((Aa HBr).alloc (by omega) (.cells #[.int .i64 258,.int .i64 0] 129));have HCw:=Ab (Lf wr (.int .i64 258) (.int .i64 0) 129);clear hO hBr hf28;go_wp2_with (at_builtin;refine wpList_append_own_at _ rfl _ _ 130 rfl (w.heap.size+1) 129 i0 _ 2 16 Tryz.underlying130 hi hz0 hz1 hz2 rfl (by decide) u0 28 (pvs (samesL.take 28)) rfl (Aa HOw) ⟨wr.heap.size,0,none⟩ 1 1 [.int .i64 258,.int .i64 0] rfl rfl (Aa HCw) (by intro u hu;simp at hu;rcases hu with rfl|rfl<;>rfl) (by unfold maxLen;omega) (by omega) (by simp;omega) ?_)
    intro v1 w4 hO4 hgrow _ hspot;obtain⟨g1,c1,rfl,hg1,hg1'⟩:=Ba hO4 (by omega);have HO4:Hid (w4.ownsRow (w.heap.size+1) 129 2 (.slice (some ⟨g1,0,none⟩) 29 c1) 29 (pvs samesL)):=hO4;have HB4:=Ab ((Aa HB0).trans (((Aa HBw).grown hgrow (by simp;omega) (fun g e=>((Aa HO).lt g e).1)).mono (by omega)));have hz4:=hgrow.size;simp only[World.size_alloc]at hz4;clear hO4 hgrow hspot HOw HBw HCw HO HBr HR0 HB0;go_wp2;go_loopw [1,2,28] (fun v1 v2 v28 wr=>∃k:Nat,k<=30/\v28=.int .i64 (k:Int)/\v2=.int .i64 (GS k:Int)/\wr.ownsRow w4.heap.size 129 2 v1 k (pvs (farsL.take k))/\Below w4.heap.size w4 wr) (fun _ _ v28 _=>30-(intOf v28).toNat)
    case atStart=>exact⟨0,by omega,rfl,rfl,World.ownsRow_nil _ _ _ _,Below.refl _ _⟩
    case round=>
     obtain⟨k,hk,rfl,rfl,hO,hBr⟩:=hrel;have HO:=Ab hO;have HBr:=Ab hBr;have hzr:=hBr.size
     by_cases hlt2:k<30
     . obtain⟨h1,h2,h4,h5⟩:=PR k hlt2;have H1:=Ab h1;have H2:=Ab h2;clear h1 h2 hO hBr;generalize GS k=fk at*;obtain⟨m,hm⟩:∃m,(if k<4 then 0 else k/2-1)=m:=⟨_,rfl⟩
       rw[hm]at H1 H2 h4
       have hkm:(k<4/\m=0)\/ (4<=k/\k/2=m+1):=by
        by_cases c:k<4
        . rw[if_pos c]at hm;exact .inl ⟨c,hm.symm⟩
        . rw[if_neg c]at hm;exact .inr ⟨by omega,by omega⟩
       clear hm
       rcases hkm with ⟨hk4,rfl⟩|⟨hk4,hk2⟩
       . have hq4:(k:Int)/4=0:=by omega
         have hmn:min (1:Int) 0=0:=by decide
         have HOw:=Ab (((Aa HO).alloc (.cells #[.int .i64 0,.int .i64 ((k:Int)/2-1)] 3)).alloc (.cells #[.int .i64 (fk:Int),.int .i64 0] 129));have HBw:=Ab (((Aa HBr).alloc (by omega) (.cells #[.int .i64 0,.int .i64 ((k:Int)/2-1)] 3)).alloc (by simp;omega) (.cells #[.int .i64 (fk:Int),.int .i64 0] 129));have HCw:=Ab (Lf (wr.alloc (.cells #[.int .i64 0,.int .i64 ((k:Int)/2-1)] 3)) (.int .i64 (fk:Int)) (.int .i64 0) 129);simp only[World.size_alloc]at HCw;go_wp2_with (at_builtin;refine wpList_append_own_at _ rfl _ _ 130 rfl w4.heap.size 129 i0 _ 2 16 Tryz.underlying130 hi hz0 hz1 hz2 rfl (by decide) u1 k (pvs (farsL.take k)) rfl (Aa HOw) ⟨wr.heap.size+1,0,none⟩ 1 1 [.int .i64 (fk:Int),.int .i64 0] rfl rfl (Aa HCw) (by intro u hu;simp at hu;rcases hu with rfl|rfl<;>rfl) (by unfold maxLen;omega) (by omega) (by simp;omega) ?_)
         intro v' w5 hO5 hgrow _ hspot
         have HO5:Hid (w5.ownsRow w4.heap.size 129 2 v' (k+1) (pvs (farsL.take (k+1)))):=by
          rw[Aa H1,Nh];exact hO5
         have HB5:=Ab ((Aa HBw).grown hgrow (by simp;omega) (fun g e=>((Aa HO).lt g e).1));clear hO5 hgrow hspot HOw HBw HCw HO HBr;go_wp2;go_roundw
         case rel=>exact⟨k+1,by omega,by go_num,by rw[Aa H2];simp,Aa HO5,Aa HB5⟩
         case measure=>simp[intOf];omega
       . have hq2:(k:Int)/2-1=(m:Int):=by omega
         have hmn:min (1:Int) ((k:Int)/4)=1:=by omega
         have HOw:=Ab (((Aa HO).alloc (.cells #[.int .i64 0,.int .i64 (m:Int)] 3)).alloc (.cells #[.int .i64 (fk:Int),.int .i64 (m:Int)] 129));have HBw:=Ab (((Aa HBr).alloc (by omega) (.cells #[.int .i64 0,.int .i64 (m:Int)] 3)).alloc (by simp;omega) (.cells #[.int .i64 (fk:Int),.int .i64 (m:Int)] 129));have HCw:=Ab (Lf (wr.alloc (.cells #[.int .i64 0,.int .i64 (m:Int)] 3)) (.int .i64 (fk:Int)) (.int .i64 (m:Int)) 129);simp only[World.size_alloc]at HCw;go_wp2_with (at_builtin;refine wpList_append_own_at _ rfl _ _ 130 rfl w4.heap.size 129 i0 _ 2 16 Tryz.underlying130 hi hz0 hz1 hz2 rfl (by decide) u1 k (pvs (farsL.take k)) rfl (Aa HOw) ⟨wr.heap.size+1,0,none⟩ 1 1 [.int .i64 (fk:Int),.int .i64 (m:Int)] rfl rfl (Aa HCw) (by intro u hu;simp at hu;rcases hu with rfl|rfl<;>rfl) (by unfold maxLen;omega) (by omega) (by simp;omega) ?_)
         intro v' w5 hO5 hgrow _ hspot
         have HO5:Hid (w5.ownsRow w4.heap.size 129 2 v' (k+1) (pvs (farsL.take (k+1)))):=by
          rw[Aa H1,Nh];exact hO5
         have HB5:=Ab ((Aa HBw).grown hgrow (by simp;omega) (fun g e=>((Aa HO).lt g e).1));clear hO5 hgrow hspot HOw HBw HCw HO HBr;have hm13:m=0\/m=1\/m=2\/m=3\/m=4\/m=5\/m=6\/m=7\/m=8\/m=9\/m=10\/m=11\/m=12\/m=13:=by omega
         rcases hm13 with rfl|rfl|rfl|rfl|rfl|rfl|rfl|rfl|rfl|rfl|rfl|rfl|rfl|rfl
         all_goals
          go_wp2;go_roundw
          case rel=>exact⟨k+1,by omega,by go_num,by rw[Aa H2];simp,Aa HO5,Aa HB5⟩
          case measure=>simp[intOf];omega
     . obtain rfl:k=30:=by omega
       have HO30:Hid (wr.ownsRow w4.heap.size 129 2 u1 30 (pvs farsL)):=hO;obtain⟨g2,c2,rfl,hg2,hg2'⟩:=Ba hO (by omega);have P1:=Ab ((Prs.own (Aa HO4)).block (hBr.block g1 hg1'));have P2:=Ab (Prs.own (Aa HO30));have HB6:=Ab ((Aa HB4).trans (hBr.mono (by omega)));clear hO hBr;go_wp2;go_ret2;exact⟨g1,c1,g2,c2,rfl,by omega,by omega,Aa P1,Aa P2,Aa HB6,by omega,hg2'⟩
theorem FH (b o len cap:Nat)(xs:List Nat)(w:World)(hl:xs.length=len)(hx:∀j,xs.getD j 0<256)(hm:len<=25000)(hb:b<w.heap.size)(hX:Bytes w b o xs):
 Calls Tryz.prog 60 #[.slice (some ⟨b,o,none⟩) len cap] w fun e w'=>e=.returned (.string (text (rowB xs len)))/\Below w.heap.size w w':=by
 have HX:=Ab hX;have HL:=Ab hl;have Hx:=Ab hx;clear hX hl hx;go_enter Tryz.func60,Tryz.ntmps60
 go_wp2;go_loopw [9] (fun i wr=>∃q:Nat,q<=len/\i=.int .i64 q/\IsB wr w.heap.size (Lib.byteCells ((rowB xs q).map chr))/\Below w.heap.size w wr) (fun i _=>len-(intOf i).toNat)
 case atStart=>exact⟨0,VH _,rfl,IsB.new w,(Below.refl _ _).alloc (VB _) _⟩
 case round=>
  obtain⟨q,hq,rfl,hI,hB⟩:=hrel;have HI:=Ab hI;have HB:=Ab hB;have hzr:=hB.size
  by_cases hlt:q<len
  . have c:=(hB.cell (p:=⟨b,o+q,none⟩) hb).trans (Aa HX q (by rw[Aa HL];exact hlt));have hx1:=Aa Hx q;have H2:Hid (rowB xs (q+1)=rowB xs q++Al (xs.getD q 0) 8):=rfl;have HLN:=Ab (Af xs q);generalize xs.getD q 0=x at*;clear hI hB;go_wp2;go_loopw [13] (fun i wq=>∃k:Nat,k<=8/\i=.int .i64 k/\IsB wq w.heap.size (Lib.byteCells ((rowB xs q++Al x k).map chr))/\Below w.heap.size w wq) (fun i _=>8-(intOf i).toNat)
    case atStart=>exact⟨0,VH _,rfl,by simpa[Al]using Aa HI,Aa HB⟩
    case round=>
     obtain⟨k,hk,rfl,hI,hB⟩:=hrel;have HI2:=Ab hI;have HB2:=Ab hB;clear hI hB
     by_cases hlt2:k<8
     . have hbl:(Lib.byteCells ((rowB xs q++Al x k).map chr)).length<=1000000:=by
        rw[Lib.byteCells_length,WL,VE,Aa HLN,Ah];omega
       have H3:Hid (Al x (k+1)=Al x k++ [x.testBit k]):=rfl;go_wp2_with fail
       refine(Wi _ _ _ _ (Aa HI2) hbl).mono ?_;rintro e w3 ⟨rfl,hI3,hB3⟩;have HI3:=Ab hI3;have HB3:=Ab ((Aa HB2).trans hB3);clear hI3 hB3;go_wp2;go_roundw
       case rel=>exact⟨k+1,by omega,by go_num,by rw[Aa H3,<-VS,<-JB _ _ _ (Z5d x k hx1)];exact Aa HI3,Aa HB3⟩
       case measure=>simp[intOf];omega
     . obtain rfl:k=8:=by omega
       go_wp2;go_roundw
       case rel=>exact⟨q+1,by omega,by go_num,by rw[Aa H2];exact Aa HI2,Aa HB2⟩
       case measure=>simp[intOf];omega
  . obtain rfl:q=len:=by omega
    clear hI hB;go_wp2_with fail
    refine(Us _ _ _ (Aa HI) hzr).mono ?_;rintro e w5 ⟨rfl,hB5⟩;have HB5:=Ab ((Aa HB).trans hB5);clear hB5;go_wp2;go_ret;exact⟨rfl,Aa HB5⟩
theorem LX (a:Option Addr)(len cap:Nat)(xs:List Nat)(w:World)(hl:xs.length=len)(hx:∀j,xs.getD j 0<256)(hm:len<=25000)(hX:BytesIn w a xs):
 Calls Tryz.prog 60 #[.slice a len cap] w fun e w'=>e=.returned (.string (text (rowB xs len)))/\Below w.heap.size w w':=by
 rcases hX with rfl|⟨b,o,rfl,hb,hX⟩
 . obtain rfl:len=0:=by simp at hl;omega
   exact FI a cap w
 . exact FH b o len cap xs w hl hx hm hb hX
end Go.Proofs.YtleocpdblhbimaaGreatDoor
