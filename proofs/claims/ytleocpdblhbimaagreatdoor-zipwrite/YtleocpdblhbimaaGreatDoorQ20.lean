import Derived.Test.YtleocpdblhbimaaGreatDoorQ19
set_option linter.unusedSimpArgs false
set_option maxHeartbeats 4000000
namespace Go.Proofs.YtleocpdblhbimaaGreatDoor
open Go.RowKit
set_option linter.unusedVariables false
set_option maxRecDepth 100000
def pcs (t:Nat×Nat):List Value:= [.int .i64 (t.1:Int),.int .i64 (t.2:Int)]
def pvs (l:List (Nat×Nat)):List Value:=l.flatMap pcs
theorem CN (l:List (Nat×Nat)):(pvs l).length=l.length*2:=by
 induction l with
 |nil=>rfl
 |cons t r ih=>
  have:pvs (t::r)=pcs t++pvs r:=rfl
  rw[this,VB,ih,VJ];show 2+r.length*2=_
  omega
theorem Mx (l r:List (Nat×Nat)):pvs (l++r)=pvs l++pvs r:=by simp[pvs]
theorem Z3c (l:List (Nat×Nat))(j:Nat)(hj:j<l.length):(pvs l)[j*2]? =some (.int .i64 ((l.getD j (0,0)).1:Int))/\(pvs l)[j*2+1]? =some (.int .i64 ((l.getD j (0,0)).2:Int)):=by
 induction l generalizing j with
 |nil=>simp at hj
 |cons t r ih=>
  have e:pvs (t::r)=pcs t++pvs r:=rfl
  match j with
  |0=>rw[e];exact⟨rfl,rfl⟩
  |j+1=>
   have hj':j<r.length:=by simpa using hj
   obtain⟨h1,h2⟩:=ih j hj';have hl:(pcs t).length=2:=rfl;refine⟨?_, ?_⟩
   . rw[e,VS (by rw[hl];omega),hl,show (j+1)*2-2=j*2 by omega,h1];rfl
   . rw[e,VS (by rw[hl];omega),hl,show (j+1)*2+1-2=j*2+1 by omega,h2];rfl
def Prs (w:World)(g:Nat)(l:List (Nat×Nat)):Prop:=∀j,j<l.length->w.cell? ⟨g,j*2,none⟩=some (.int .i64 ((l.getD j (0,0)).1:Int))/\w.cell? ⟨g,j*2+1,none⟩=some (.int .i64 ((l.getD j (0,0)).2:Int))
theorem Prs.own {w:World}{B g n cap:Nat}{l:List (Nat×Nat)}(h:w.ownsRow B 129 2 (.slice (some ⟨g,0,none⟩) n cap) n (pvs l)):Prs w g l:=by
 intro j hj;have hn:l.length=n:=by have:=h.1;rw[CN]at this;omega
 obtain⟨h1,h2⟩:=Z3c l j hj;refine⟨?_, ?_⟩
 . rw[h.cellAt _ (by omega)];simp[List.getD,h1]
 . rw[h.cellAt _ (by omega)];simp[List.getD,h2]
theorem Prs.block {w w':World}{g:Nat}{l:List (Nat×Nat)}(h:Prs w g l)(hb:w'.heap[g]? =w.heap[g]?):Prs w' g l:=by
 intro j hj;obtain⟨h1,h2⟩:=h j hj;unfold World.cell? at h1 h2 ⊢;rw[hb];exact⟨h1,h2⟩
theorem Z1v:(Tryz.prog.info? 129).map (fun i=>(i.zero,i.size,i.bytes))=some (some (.agg #[.int .i64 0,.int .i64 0]),2,16):=by kernel_rfl
def G0:List Int:= [0,0,0,0,0,0,0,0,1,1,1,1,2,2,2,2,3,3,3,3,4,4,4,4,5,5,5,5]
def P6 (k:Nat):Nat:=if k=28 then 259 else (samesL.getD k (0,0)).1
def DS (k:Nat):Nat:=if k=30 then 32769 else (farsL.getD k (0,0)).1
theorem CC:∀k,k<28->samesL.take (k+1)=samesL.take k++ [(P6 k,(G0.getD k 0).toNat)]/\P6 (k+1)=P6 k+2^(G0.getD k 0).toNat/\0<=G0.getD k 0/\G0.getD k 0<=5/\P6 k<=300:=by decide
theorem LR:∀k,k<30->farsL.take (k+1)=farsL.take k++ [(DS k,if k<4 then 0 else k/2-1)]/\DS (k+1)=DS k+2^(if k<4 then 0 else k/2-1)/\(if k<4 then 0 else k/2-1)<=13/\DS k<=40000:=by decide
theorem Kw (W:World)(x y:Value)(t:TypeId):∀j u,[x,y][j]? =some u->(W.alloc (.cells #[x,y] t)).cell? ((⟨W.heap.size,0,none⟩:Addr).add j)=some u:=by
 intro j u hj;have e:(⟨W.heap.size,0,none⟩:Addr).add j=⟨W.heap.size,j,none⟩:=by unfold Addr.add;split<;>simp_all
 rw[e,World.cell?_alloc_at _ _ _ _ rfl]
 match j,hj with
 |0,hj=>simpa using hj
 |1,hj=>simpa using hj
theorem Yw (w:World):Calls Tryz.prog 96 #[] w fun e w'=>∃g1 c1 g2 c2,e=.returned (.tuple #[.slice (some ⟨g1,0,none⟩) 29 c1,.slice (some ⟨g2,0,none⟩) 30 c2])/\w.heap.size<=g1/\w.heap.size<=g2/\Prs w' g1 samesL/\Prs w' g2 farsL/\Below w.heap.size w w'/\g1<w'.heap.size/\g2<w'.heap.size:=by
 obtain⟨i0,hi,hz0,hz1,hz2⟩:=info_parts Z1v;have HR0:=Ab (RowIn.new .i64 w G0 3 #[.int .i64 0,.int .i64 0,.int .i64 0,.int .i64 0,.int .i64 0,.int .i64 0,.int .i64 0,.int .i64 0,.int .i64 1,.int .i64 1,.int .i64 1,.int .i64 1,.int .i64 2,.int .i64 2,.int .i64 2,.int .i64 2,.int .i64 3,.int .i64 3,.int .i64 3,.int .i64 3,.int .i64 4,.int .i64 4,.int .i64 4,.int .i64 4,.int .i64 5,.int .i64 5,.int .i64 5,.int .i64 5] w.heap.size rfl rfl);have HB0:=Ab ((Below.refl w.heap.size w).alloc (VC _) (.cells #[.int .i64 0,.int .i64 0,.int .i64 0,.int .i64 0,.int .i64 0,.int .i64 0,.int .i64 0,.int .i64 0,.int .i64 1,.int .i64 1,.int .i64 1,.int .i64 1,.int .i64 2,.int .i64 2,.int .i64 2,.int .i64 2,.int .i64 3,.int .i64 3,.int .i64 3,.int .i64 3,.int .i64 4,.int .i64 4,.int .i64 4,.int .i64 4,.int .i64 5,.int .i64 5,.int .i64 5,.int .i64 5] 3));have hz0':(w.alloc (.cells #[.int .i64 0,.int .i64 0,.int .i64 0,.int .i64 0,.int .i64 0,.int .i64 0,.int .i64 0,.int .i64 0,.int .i64 1,.int .i64 1,.int .i64 1,.int .i64 1,.int .i64 2,.int .i64 2,.int .i64 2,.int .i64 2,.int .i64 3,.int .i64 3,.int .i64 3,.int .i64 3,.int .i64 4,.int .i64 4,.int .i64 4,.int .i64 4,.int .i64 5,.int .i64 5,.int .i64 5,.int .i64 5] 3)).heap.size=w.heap.size+1:=by simp
 go_enter Tryz.func96,Tryz.ntmps96
 go_wp2;generalize w.alloc (.cells #[.int .i64 0,.int .i64 0,.int .i64 0,.int .i64 0,.int .i64 0,.int .i64 0,.int .i64 0,.int .i64 0,.int .i64 1,.int .i64 1,.int .i64 1,.int .i64 1,.int .i64 2,.int .i64 2,.int .i64 2,.int .i64 2,.int .i64 3,.int .i64 3,.int .i64 3,.int .i64 3,.int .i64 4,.int .i64 4,.int .i64 4,.int .i64 4,.int .i64 5,.int .i64 5,.int .i64 5,.int .i64 5] 3)=w0 at*;go_loopw [0,2,9] (fun v0 v2 v9 wr=>∃k:Nat,k<=28/\v9=.int .i64 (k:Int)/\v2=.int .i64 (P6 k:Int)/\wr.ownsRow (w.heap.size+1) 129 2 v0 k (pvs (samesL.take k))/\Below (w.heap.size+1) w0 wr) (fun _ _ v9 _=>28-(intOf v9).toNat)
 case atStart=>exact⟨0,by omega,rfl,rfl,World.ownsRow_nil _ _ _ _,Below.refl _ _⟩
 case round=>
  obtain⟨k,hk,rfl,rfl,hO,hBr⟩:=hrel;have HO:=Ab hO;have HBr:=Ab hBr;have hzr:=hBr.size
  by_cases hlt:k<28
  . obtain⟨h1,h2,h3,h4,h5⟩:=CC k hlt
    have c1:wr.cell? ⟨w.heap.size,k,none⟩=some (.int .i64 (G0.getD k 0)):=by
     rw[hBr.cell (p:=⟨w.heap.size,k,none⟩) (by simp)]
     rcases Aa HR0 with h|⟨b,o,e,_,h⟩
     . cases h
     . cases e
       have:=h k (by simpa[G0]using hlt)
       simpa using this
    have H1:=Ab h1;have H2:=Ab h2;clear h1 h2 hO hBr;generalize G0.getD k 0=bt at*;obtain⟨m,rfl⟩:=VW h3;rw[WD]at H1 H2;generalize P6 k=fk at*;have HOw:=Ab ((Aa HO).alloc (.cells #[.int .i64 (fk:Int),.int .i64 (m:Int)] 129));have HBw:=Ab ((Aa HBr).alloc (by omega) (.cells #[.int .i64 (fk:Int),.int .i64 (m:Int)] 129));have HCw:=Ab (Kw wr (.int .i64 (fk:Int)) (.int .i64 (m:Int)) 129);go_wp2_with (at_builtin;refine wpList_append_own_at _ rfl _ _ 130 rfl (w.heap.size+1) 129 i0 _ 2 16 Tryz.underlying130 hi hz0 hz1 hz2 rfl (by decide) u0 k (pvs (samesL.take k)) rfl (Aa HOw) ⟨wr.heap.size,0,none⟩ 1 1 [.int .i64 (fk:Int),.int .i64 (m:Int)] rfl rfl (Aa HCw) (by intro u hu;simp at hu;rcases hu with rfl|rfl<;>rfl) (by unfold maxLen;omega) (by omega) (by simp;omega) ?_)
    intro v' w4 hO4 hgrow _ hspot
    have HO4:Hid (w4.ownsRow (w.heap.size+1) 129 2 v' (k+1) (pvs (samesL.take (k+1)))):=by
     rw[Aa H1,Mx];exact hO4
    have HB4:=Ab ((Aa HBw).grown hgrow (by simp;omega) (fun g e=>((Aa HO).lt g e).1));clear hO4 hgrow hspot HOw HBw HCw HO HBr c1;have hm5:m=0\/m=1\/m=2\/m=3\/m=4\/m=5:=by omega
    rcases hm5 with rfl|rfl|rfl|rfl|rfl|rfl
    all_goals
     go_wp2;go_roundw
     case rel=>exact⟨k+1,by omega,by go_num,by rw[Aa H2];simp,Aa HO4,Aa HB4⟩
     case measure=>simp[intOf];omega
  . obtain rfl:k=28:=by omega
    have hf28:P6 28=259:=rfl;rw[hf28];have HOw:=Ab ((Aa HO).alloc (.cells #[.int .i64 258,.int .i64 0] 129));have HBw:=Ab ((Aa HBr).alloc (by omega) (.cells #[.int .i64 258,.int .i64 0] 129));have HCw:=Ab (Kw wr (.int .i64 258) (.int .i64 0) 129);clear hO hBr hf28;go_wp2_with (at_builtin;refine wpList_append_own_at _ rfl _ _ 130 rfl (w.heap.size+1) 129 i0 _ 2 16 Tryz.underlying130 hi hz0 hz1 hz2 rfl (by decide) u0 28 (pvs (samesL.take 28)) rfl (Aa HOw) ⟨wr.heap.size,0,none⟩ 1 1 [.int .i64 258,.int .i64 0] rfl rfl (Aa HCw) (by intro u hu;simp at hu;rcases hu with rfl|rfl<;>rfl) (by unfold maxLen;omega) (by omega) (by simp;omega) ?_)
    intro v1 w4 hO4 hgrow _ hspot;obtain⟨g1,c1,rfl,hg1,hg1'⟩:=Be hO4 (by omega);have HO4:Hid (w4.ownsRow (w.heap.size+1) 129 2 (.slice (some ⟨g1,0,none⟩) 29 c1) 29 (pvs samesL)):=hO4;have HB4:=Ab ((Aa HB0).trans (((Aa HBw).grown hgrow (by simp;omega) (fun g e=>((Aa HO).lt g e).1)).mono (by omega)));have hz4:=hgrow.size;simp only[World.size_alloc]at hz4;clear hO4 hgrow hspot HOw HBw HCw HO HBr HR0 HB0;go_wp2;go_loopw [1,2,28] (fun v1 v2 v28 wr=>∃k:Nat,k<=30/\v28=.int .i64 (k:Int)/\v2=.int .i64 (DS k:Int)/\wr.ownsRow w4.heap.size 129 2 v1 k (pvs (farsL.take k))/\Below w4.heap.size w4 wr) (fun _ _ v28 _=>30-(intOf v28).toNat)
    case atStart=>exact⟨0,by omega,rfl,rfl,World.ownsRow_nil _ _ _ _,Below.refl _ _⟩
    case round=>
     obtain⟨k,hk,rfl,rfl,hO,hBr⟩:=hrel;have HO:=Ab hO;have HBr:=Ab hBr;have hzr:=hBr.size
     by_cases hlt2:k<30
     . obtain⟨h1,h2,h4,h5⟩:=LR k hlt2;have H1:=Ab h1;have H2:=Ab h2;clear h1 h2 hO hBr;generalize DS k=fk at*;obtain⟨m,hm⟩:∃m,(if k<4 then 0 else k/2-1)=m:=⟨_,rfl⟩
       rw[hm]at H1 H2 h4
       have hkm:(k<4/\m=0)\/ (4<=k/\k/2=m+1):=by
        by_cases c:k<4
        . rw[if_pos c]at hm;exact .inl ⟨c,hm.symm⟩
        . rw[if_neg c]at hm;exact .inr ⟨by omega,by omega⟩
       clear hm
       rcases hkm with ⟨hk4,rfl⟩|⟨hk4,hk2⟩
       . have hq4:(k:Int)/4=0:=by omega
         have hmn:min (1:Int) 0=0:=by decide
         have HOw:=Ab (((Aa HO).alloc (.cells #[.int .i64 0,.int .i64 ((k:Int)/2-1)] 3)).alloc (.cells #[.int .i64 (fk:Int),.int .i64 0] 129));have HBw:=Ab (((Aa HBr).alloc (by omega) (.cells #[.int .i64 0,.int .i64 ((k:Int)/2-1)] 3)).alloc (by simp;omega) (.cells #[.int .i64 (fk:Int),.int .i64 0] 129));have HCw:=Ab (Kw (wr.alloc (.cells #[.int .i64 0,.int .i64 ((k:Int)/2-1)] 3)) (.int .i64 (fk:Int)) (.int .i64 0) 129);simp only[World.size_alloc]at HCw;go_wp2_with (at_builtin;refine wpList_append_own_at _ rfl _ _ 130 rfl w4.heap.size 129 i0 _ 2 16 Tryz.underlying130 hi hz0 hz1 hz2 rfl (by decide) u1 k (pvs (farsL.take k)) rfl (Aa HOw) ⟨wr.heap.size+1,0,none⟩ 1 1 [.int .i64 (fk:Int),.int .i64 0] rfl rfl (Aa HCw) (by intro u hu;simp at hu;rcases hu with rfl|rfl<;>rfl) (by unfold maxLen;omega) (by omega) (by simp;omega) ?_)
         intro v' w5 hO5 hgrow _ hspot
         have HO5:Hid (w5.ownsRow w4.heap.size 129 2 v' (k+1) (pvs (farsL.take (k+1)))):=by
          rw[Aa H1,Mx];exact hO5
         have HB5:=Ab ((Aa HBw).grown hgrow (by simp;omega) (fun g e=>((Aa HO).lt g e).1));clear hO5 hgrow hspot HOw HBw HCw HO HBr;go_wp2;go_roundw
         case rel=>exact⟨k+1,by omega,by go_num,by rw[Aa H2];simp,Aa HO5,Aa HB5⟩
         case measure=>simp[intOf];omega
       . have hq2:(k:Int)/2-1=(m:Int):=by omega
         have hmn:min (1:Int) ((k:Int)/4)=1:=by omega
         have HOw:=Ab (((Aa HO).alloc (.cells #[.int .i64 0,.int .i64 (m:Int)] 3)).alloc (.cells #[.int .i64 (fk:Int),.int .i64 (m:Int)] 129));have HBw:=Ab (((Aa HBr).alloc (by omega) (.cells #[.int .i64 0,.int .i64 (m:Int)] 3)).alloc (by simp;omega) (.cells #[.int .i64 (fk:Int),.int .i64 (m:Int)] 129));have HCw:=Ab (Kw (wr.alloc (.cells #[.int .i64 0,.int .i64 (m:Int)] 3)) (.int .i64 (fk:Int)) (.int .i64 (m:Int)) 129);simp only[World.size_alloc]at HCw;go_wp2_with (at_builtin;refine wpList_append_own_at _ rfl _ _ 130 rfl w4.heap.size 129 i0 _ 2 16 Tryz.underlying130 hi hz0 hz1 hz2 rfl (by decide) u1 k (pvs (farsL.take k)) rfl (Aa HOw) ⟨wr.heap.size+1,0,none⟩ 1 1 [.int .i64 (fk:Int),.int .i64 (m:Int)] rfl rfl (Aa HCw) (by intro u hu;simp at hu;rcases hu with rfl|rfl<;>rfl) (by unfold maxLen;omega) (by omega) (by simp;omega) ?_)
         intro v' w5 hO5 hgrow _ hspot
         have HO5:Hid (w5.ownsRow w4.heap.size 129 2 v' (k+1) (pvs (farsL.take (k+1)))):=by
          rw[Aa H1,Mx];exact hO5
         have HB5:=Ab ((Aa HBw).grown hgrow (by simp;omega) (fun g e=>((Aa HO).lt g e).1));clear hO5 hgrow hspot HOw HBw HCw HO HBr;have hm13:m=0\/m=1\/m=2\/m=3\/m=4\/m=5\/m=6\/m=7\/m=8\/m=9\/m=10\/m=11\/m=12\/m=13:=by omega
         rcases hm13 with rfl|rfl|rfl|rfl|rfl|rfl|rfl|rfl|rfl|rfl|rfl|rfl|rfl|rfl
         all_goals
          go_wp2;go_roundw
          case rel=>exact⟨k+1,by omega,by go_num,by rw[Aa H2];simp,Aa HO5,Aa HB5⟩
          case measure=>simp[intOf];omega
     . obtain rfl:k=30:=by omega
       have HO30:Hid (wr.ownsRow w4.heap.size 129 2 u1 30 (pvs farsL)):=hO;obtain⟨g2,c2,rfl,hg2,hg2'⟩:=Be hO (by omega);have P1:=Ab ((Prs.own (Aa HO4)).block (hBr.block g1 hg1'));have P2:=Ab (Prs.own (Aa HO30));have HB6:=Ab ((Aa HB4).trans (hBr.mono (by omega)));clear hO hBr;go_wp2;go_ret2;exact⟨g1,c1,g2,c2,rfl,by omega,by omega,Aa P1,Aa P2,Aa HB6,by omega,hg2'⟩
theorem Qs {w:World}{b e size n:Nat}{v:Value}{xs:List Value}(h:w.ownsRow (b+1) e size v n xs):v.ownBlock=none\/v.ownBlock≠some b:=by
 cases hx:v.ownBlock with
 |none=>exact .inl rfl
 |some g=>
  refine .inr (fun e=> ?_);have:=(h.lt g hx).1
  cases e
  omega
theorem UIs.keepK {No:Nat->Prop}{B b k:Nat}{w w3:World}{row:List Bool}{u:US}{ov kv v':Value}{X:Obj}(hbb:B<=b)(hbn:¬No b)(hh:w.heap[b]? =some (.cells (ucells row u ov kv) 110 (0,0)))
 (hov:w.ownsRow (b+1) 5 1 ov u.out.length (u8s u.out)) (hkv:w.ownsRow (b+1) 3 1 kv u.ks.length (i64s u.ks)) (hap:ov.ownBlock=none\/ov.ownBlock≠kv.ownBlock) (hn1:∀g,ov.ownBlock=some g->¬No g) (hn2:∀g,kv.ownBlock=some g->¬No g) (hNo:∀g,w.heap.size<=g->¬No g)
 (hO3:w3.ownsRow (b+1) 3 1 v' (u.ks.length+1) (i64s u.ks++ [.int .i64 (k:Int)])) (hgrow:(w.alloc X).grownBy w3 kv.ownBlock) (hspot:v'.ownBlock=kv.ownBlock\/v'.ownBlock=some (w.heap.size+1)):
 w3.cell? ⟨b,3,none⟩=some kv/\w3.frozen? ⟨b,3,none⟩=false/\UUp No B w b row (ukept k u) (w3.setCell ⟨b,3,none⟩ v'):=by
 have hbl:b<w.heap.size:=(VL.1 hh).1;have hVb:=Qs hkv
 have hgb:w3.heap[b]? =some (.cells (ucells row u ov kv) 110 (0,0)):=by
  rw[hgrow.block b (by simp;omega) (fun e=>by rcases hVb with h|h;rw[h]at e;cases e;exact h e.symm)];exact(Below.heap_alloc w _ b hbl).trans hh
 have hgw:∀g,g<w.heap.size->kv.ownBlock≠some g->w3.heap[g]? =w.heap[g]? :=fun g hg hne=>by
  rw[hgrow.block g (by simp;omega) (fun e=>hne e.symm)];exact Below.heap_alloc w _ g hg
 have hsz:=hgrow.size;have hset:=Ad w3 b 3 v';simp only[World.size_alloc]at hsz
 have ho3:w3.ownsRow (b+1) 5 1 ov u.out.length (u8s u.out):=Dj hov (fun g hg=>hgw g (hov.lt g hg).2 (fun e=>by
  rcases hap with h|h
  . rw[h]at hg;cases hg
  . exact h (by rw[hg];exact e.symm)))
 refine⟨Ac hgb,frozen_of_row w3 b 3 _ _ hgb,⟨⟨hbb,hbn,ov,v', ?_,ho3.kept hset (Qs hov), ?_, ?_,hn1, ?_⟩, ?_, ?_⟩⟩
 . rw[heap_setCell_same w3 b 3 _ _ _ hgb];rfl
 . have:=hO3.kept hset (Qs hO3)
   show (w3.setCell ⟨b,3,none⟩ v').ownsRow (b+1) 3 1 v' (u.ks++ [k]).length (i64s (u.ks++ [k]))
   have e:i64s (u.ks++ [k])=i64s u.ks++ [.int .i64 (k:Int)]:=by simp[i64s]
   rw[e,VB];exact this
 . rcases hspot with h|h
   . rw[h];exact hap
   . cases hx:ov.ownBlock with
     |none=>exact .inl rfl
     |some g=>
      refine .inr (fun e=> ?_);rw[h]at e;have:=(hov.lt _ hx).2
      cases e
      omega
 . intro g hg
   rcases hspot with h|h
   . exact hn2 g (by rw[<-h];exact hg)
   . rw[h]at hg
     cases hg
     exact hNo _ (by omega)
 . have h1:Below B w w3:=((Below.refl B w).alloc (by omega) X).grown hgrow (by simp;omega) (fun g e=>by have:=(hkv.lt g e).1;omega);exact h1.setCell hbb _
 . intro g hg hn;rw[heap_setCell_other w3 _ _ _ (fun e=>hbn (by have:g=b:=e;rw[<-this];exact hn))];exact hgw g hg (fun e=>hn2 g e hn)
theorem R7 (l:Nat):((l:Int)==1)=decide (l=1):=by
 by_cases e:l=1
 . subst e;rfl
 . rw[decide_eq_false e,beq_eq_false_iff_ne];omega
theorem F9 (No:Nat->Prop)(B b n2:Nat)(bs:List Nat)(u:US)(w:World)(h:UIs No B w b (rowB bs n2) u)(hn2:n2<=25000)(hp:u.p<=8*n2)(ho:u.out.length<=3000)(hks:u.ks.length<=200000)(hNo:∀g,w.heap.size<=g->¬No g)(l:Nat)(x1 x2:US)(hg1:uget (rowB bs n2) 1 u=(l,x1))(hg2:uget (rowB bs n2) 2 x1=(0,x2))(he2:x2.e=0)(hst:(ustored (rowB bs n2) x2).e=0):
 Calls Tryz.prog 61 #[.pointer (some ⟨b,0,none⟩)] w fun e w'=>e=.returned (.bool (decide (l=1)))/\UUp No B w b (rowB bs n2) (ukept 0 (ustored (rowB bs n2) x2)) w':=by
 obtain⟨i0,hi,hz0,hz1,hz2⟩:=info_parts Cc;have hN:=Ai bs n2;have hrl:(rowB bs n2).length<=200000:=by omega
 have hp0:u.p<=(rowB bs n2).length:=by omega
 obtain⟨q2,q2l,q2o,q2k,q2e⟩:=Ax hg2 he2;obtain⟨q1,q1l,q1o,q1k,_⟩:=Ax hg1 q2e;obtain⟨r1,r2,y1,y2,hS⟩:=Np hst;have hy1e:y1.e=0:=Pu (by rw[hS.g2];exact hS.e2);obtain⟨p1,p1l,p1o,p1k,_⟩:=Ax hS.g1 hy1e;obtain⟨p2,p2l,p2o,p2k,_⟩:=Ax hS.g2 hS.e2;obtain⟨V,hV⟩:∃V,ustored (rowB bs n2) x2=V:=⟨_,rfl⟩
 rw[hV]at hS
 have hr1:r1<65536:=by
  have:=J8 (rowB bs n2) 16 {x2 with p:=(x2.p+7)/8*8}
  rw[hS.g1]at this;exact this
 have hr2:r2<65536:=by
  have:=J8 (rowB bs n2) 16 y1
  rw[hS.g2]at this;exact this
 have hVk:V.ks=u.ks:=by
  have:=Kv (row:=rowB bs n2) (k:=r1) (u:=y2) (by rw[hS.st];exact hS.ev)
  rw[hS.st]at this;rw[this,p2k,p1k];exact q2k.trans q1k
 have hy2o:y2.out.length<=3000:=by
  rw[p2o,p1o];show x2.out.length<=3000
  rw[q2o,q1o];exact ho
 have HKS:Hid (V.ks.length<=200000):=Ab (by rw[hVk];exact hks);have HS:=Ab hS;have H:=Ab h;have HNo:=Ab hNo;have HG1:=Ab hg1;have HG2:=Ab hg2
 have hl2:l<2:=by
  have:=J8 (rowB bs n2) 1 u
  rw[hg1]at this;exact this
 rw[hV];clear h hS hNo hg1 hg2 hst hV q1 q2 p1 p2 q2k q1k q2o q1o p1k p2k hVk hks;go_enter Tryz.func61,Tryz.ntmps61
 go_wp2_with fail
 refine(Gw No B b 1 _ u w (Aa H) (by omega) hrl hp0 l x1 (Aa HG1)).mono ?_;rintro e w1 ⟨rfl,hU1⟩;have U1:=Ab hU1;clear hU1;go_wp2_with fail
 refine(Gw No B b 2 _ x1 w1 (Aa U1).is (by omega) hrl q1l 0 x2 (Aa HG2)).mono ?_;rintro e w2 ⟨rfl,hU2⟩;have U2:=Ab ((Aa U1).trans hU2);clear hU2;obtain⟨_,c12,c42,f2⟩:=(Aa U2).is.cell;rw[he2]at c42;have hpI:Hid (((x2.p:Int)+7)/8*8=(((x2.p+7)/8*8:Nat):Int)):=Ab (by omega);have U3:=Ab ((Aa U2).trans ((Aa U2).is.setP ((x2.p+7)/8*8)));go_wp2_with fail
 rw[Aa hpI];refine(Gw No B b 16 _ {x2 with p:=(x2.p+7)/8*8} _ (Aa U3).is (by omega) hrl (by show (x2.p+7)/8*8<=_;omega) r1 y1 (Aa HS).g1).mono ?_;rintro e w4 ⟨rfl,hU4⟩;have U4:=Ab ((Aa U3).trans hU4);clear hU4;go_wp2_with fail
 refine(Gw No B b 16 _ y1 w4 (Aa U4).is (by omega) hrl p1l r2 y2 (Aa HS).g2).mono ?_;rintro e w5 ⟨rfl,hU5⟩;have U5:=Ab ((Aa U4).trans hU5);clear hU5;obtain⟨_,_,c45,_⟩:=(Aa U5).is.cell;rw[(Aa HS).e2]at c45
 have hsm:((r1:Int)+(r2:Int)!=65535)=false:=by
  have:=(Aa HS).sum
  rw[bne_eq_false_iff_eq];omega
 clear U1 U2 U3 U4 c12 c42 f2;go_wp2;go_loopw [9] (fun v9 wr=>∃(i:Nat) (x:US),i<=r1/\v9=.int .i64 (i:Int)/\Hid (ustore (rowB bs n2) (r1-i) x=V)/\Hid (x.p<=(rowB bs n2).length)/\Hid (x.out.length<=3000)/\Hid (UUp No B w b (rowB bs n2) x wr)) (fun v9 _=>r1-(intOf v9).toNat)
 case atStart=>exact⟨0,y2,VK _,rfl,Ab (Aa HS).st,Ab p2l,Ab hy2o,U5⟩
 case round=>
  obtain⟨i,x,hir,rfl,hst,hpx,hox,hU⟩:=hrel;have hxe:x.e=0:=Hd (by rw[Aa hst];exact(Aa HS).ev);obtain⟨_,_,c4x,_⟩:=(Aa hU).is.cell;rw[hxe]at c4x
  by_cases hlt:i<r1
  . obtain⟨r,y,hgr⟩:∃r y,uget (rowB bs n2) 8 x=(r,y):=⟨_,_,rfl⟩
    have hst2:ustore (rowB bs n2) (r1-(i+1)) (Hy r y)=V:=by
     have:=Aa hst
     rw[show r1-i=(r1-(i+1))+1 by omega,ustore,if_pos hxe,hgr]at this;exact this
    obtain⟨hye,hy3,hsay⟩:=Nq (Hd (by rw[hst2];exact(Aa HS).ev));obtain⟨_,hyl,hyo,_,_⟩:=Ax hgr hye
    have hr8:r<256:=by
     have:=J8 (rowB bs n2) 8 x
     rw[hgr]at this;exact this
    have hyo2:y.out.length<=3000:=by rw[hyo];exact Aa hox
    have HST2:=Ab hst2;have HSAY:=Ab hsay;have hltI:(i:Int)<(r1:Int):=by omega
    clear hst2 hsay hyo;go_wp2_with fail
    refine(Gw No B b 8 _ x wr (Aa hU).is (by omega) hrl (Aa hpx) r y hgr).mono ?_;rintro e w6 ⟨rfl,hU6⟩;have U6:=Ab ((Aa hU).trans hU6);clear hU6;go_wp2_with fail
    refine(Qg No B b r _ y w6 (Aa U6).is hyo2 (fun g hg=>Aa HNo g (by have:=(Aa U6).below.size;omega))).mono ?_;rintro e w7 ⟨rfl,hU7⟩;have U7:=Ab ((Aa U6).trans hU7);clear hU7;go_wp2;go_roundw
    case rel=>exact⟨i+1,Hy r y,by omega,by go_num,HST2,Ab (by rw[Aa HSAY];exact hyl),Ab (by rw[Aa HSAY];show (y.out++ [r]).length<=3000;rw[VB];simp only[VJ,WO];omega),U7⟩
    case measure=>simp[intOf];omega
  . have hi:i=r1:=by omega
    subst hi
    have hxV:x=V:=by
     have:=Aa hst
     rw[XM,ustore]at this;exact this
    subst hxV;obtain⟨ov,kv,_,c3,hh,hov,hkv,hap,hn1,hn2⟩:=(Aa hU).is.rows;obtain⟨KL,hKL⟩:∃KL,(x).ks.length=KL:=⟨_,rfl⟩
    have hKV:=hkv;rw[hKL]at hkv;obtain⟨ka,kc,rfl⟩:=As hkv;have hsz9:=(Aa hU).below.size;have hbl9:=(Aa hU).is.lt;have hKL2:KL<=200000:=by have:=Aa HKS;omega
    have HKV:=Ab hkv;have HKV2:=Ab hKV;have HOV:=Ab hov;have HH:=Ab hh;have HAP:=Ab hap;have HN1:=Ab hn1;have HN2:=Ab hn2;have HKL:=Ab hKL;have HIS:=Ab (Aa hU).is;clear hkv hKV hov hh hap hn1 hn2 hKL;go_wp2_with (at_builtin;refine wpList_append_own_at _ rfl (.tmp 82) (.tmp 84) 76 rfl (b+1) 3 i0 (.int .i64 0) 1 8 Tryz.underlying76 hi hz0 hz1 hz2 rfl (by decide) _ KL (i64s (x).ks) rfl ((Aa HKV).alloc _) ⟨wr.heap.size,0,none⟩ 1 1 [.int .i64 (0)] rfl rfl (cell_one_new _ _ _) (Fd rfl) (by unfold maxLen;omega) (by omega) (by simp;omega) ?_)
    intro v' wK hO3 hgrow _ hspot;obtain⟨q3,f3,hFIN⟩:=UIs.keepK (k:=0) (X:=.cells #[.int .i64 (0)] 3) (Aa HIS).base (Aa HIS).no (Aa HH) (Aa HOV) (Aa HKV2) (Aa HAP) (Aa HN1) (Aa HN2) (fun g hg=>Aa HNo g (by omega)) (by rw[Aa HKL];exact hO3) hgrow (by simpa using hspot);obtain⟨g9,c9,rfl,_,_⟩:=Be hO3 (by omega);have HFIN:=Ab ((Aa hU).trans hFIN);clear hO3 hgrow hspot hFIN;go_wp2;go_ret;exact⟨by rw[R7];rfl,Aa HFIN⟩
def N2 (No:Nat->Prop)(N M:Nat):Nat->Prop:=fun g=>No g\/ (N<=g/\g<M)
theorem UUp.closed2 {No:Nat->Prop}{B b N M:Nat}{w0 w:World}{row:List Bool}{u:US}(h:UUp (N2 No N M) B w0 b row u w):UUp No B w0 b row u w:=
 ⟨h.is.more (fun e=>h.is.no (.inl e)) (fun g hg=>.inl (.inl hg)),h.below,h.kp.weaken (fun g hg=>.inl hg)⟩
theorem UUp.prs {No:Nat->Prop}{B b N M g:Nat}{w w':World}{row:List Bool}{u:US}{l:List (Nat×Nat)}(h:UUp (N2 No N M) B w b row u w')(ho:Prs w g l)(hg:g<w.heap.size)(hN:N<=g)(hM:g<M):Prs w' g l:=by
 have hk:=h.kp g hg (.inr ⟨hN,hM⟩);intro j hj;have:=ho j hj
 exact⟨(World.cell?_of_block (a:=⟨g,j*2,none⟩) hk).trans this.1,(World.cell?_of_block (a:=⟨g,j*2+1,none⟩) hk).trans this.2⟩
theorem UUp.book2 {No:Nat->Prop}{B b N M mb nn:Nat}{w w':World}{row:List Bool}{u:US}{D:DataW Unit}(h:UUp (N2 No N M) B w b row u w')(hM:Dv w mb nn D)(hm:N<=mb)(hm2:mb<M):Dv w' mb nn D:=by
 have hlt:=hM.lt;obtain⟨es,clock,hb,F,hs,hD⟩:=hM;exact⟨es,clock,(h.kp mb hlt (.inr ⟨hm,hm2⟩)).trans hb,F,hs,hD⟩
theorem Ej {w w':World}{B g:Nat}{l:List (Nat×Nat)}(h:Prs w g l)(hB:Below B w w')(hg:g<B):Prs w' g l:=fun j hj=>
 ⟨(hB.cell (p:=⟨g,j*2,none⟩) hg).trans (h j hj).1,(hB.cell (p:=⟨g,j*2+1,none⟩) hg).trans (h j hj).2⟩
def KA (n b:Nat)(w:World):Nat:=8*n+1-((w.cell? ⟨b,1,none⟩).map (fun x=>(intOf x).toNat)).getD 0
theorem Ef {No:Nat->Prop}{B b n:Nat}{w:World}{row:List Bool}{u:US}(h:UIs No B w b row u):KA n b w=8*n+1-u.p:=by
 unfold KA;rw[h.cell.2.1];simp[intOf]
end Go.Proofs.YtleocpdblhbimaaGreatDoor
namespace Go.Proofs.YtleocpdblhbimaaGreatDoor
set_option linter.unusedVariables false
set_option maxRecDepth 100000
end Go.Proofs.YtleocpdblhbimaaGreatDoor
