import Derived.Test.YtleocpdblhbimaaGreatDoorQ43
set_option linter.unusedSimpArgs false
set_option maxHeartbeats 2000000
namespace Go.Proofs.YtleocpdblhbimaaGreatDoor
open Go.RowKit
set_option linter.unusedVariables false
set_option maxRecDepth 100000
def pcs (t:Nat×Nat):List Value:= [.int .i64 (t.1:Int),.int .i64 (t.2:Int)]
def pvs (l:List (Nat×Nat)):List Value:=l.flatMap pcs
theorem FL (l:List (Nat×Nat)):(pvs l).length=l.length*2:=by
 induction l with
 |nil=>rfl
 |cons t r ih=>
  have:pvs (t::r)=pcs t++pvs r:=rfl
  rw[this,VE,ih,VJ];show 2+r.length*2=_
  omega
theorem Nh (l r:List (Nat×Nat)):pvs (l++r)=pvs l++pvs r:=by simp[pvs]
theorem Z6a (l:List (Nat×Nat))(j:Nat)(E:j<l.length):(pvs l)[j*2]? =some (.int .i64 ((l.getD j (0,0)).1:Int))/\(pvs l)[j*2+1]? =some (.int .i64 ((l.getD j (0,0)).2:Int)):=by
 induction l generalizing j with
 |nil=>simp at E
 |cons t r ih=>
  have e:pvs (t::r)=pcs t++pvs r:=rfl
  match j with
  |0=>rw[e];exact⟨rfl,rfl⟩
  |j+1=>
   have H:j<r.length:=by simpa using E
   obtain⟨G,F⟩:=ih j H;have hl:(pcs t).length=2:=rfl;refine⟨?_, ?_⟩
   . rw[e,VX (by rw[hl];omega),hl,show (j+1)*2-2=j*2 by omega,G];rfl
   . rw[e,VX (by rw[hl];omega),hl,show (j+1)*2+1-2=j*2+1 by omega,F];rfl
def Prs (w:World)(g:Nat)(l:List (Nat×Nat)):Prop:=∀j,j<l.length->w.cell? ⟨g,j*2,none⟩=some (.int .i64 ((l.getD j (0,0)).1:Int))/\w.cell? ⟨g,j*2+1,none⟩=some (.int .i64 ((l.getD j (0,0)).2:Int))
theorem Prs.own {w:World}{B F n I:Nat}{l:List (Nat×Nat)}(E:w.ownsRow B 129 2 (.slice (some ⟨F,0,none⟩) n I) n (pvs l)):Prs w F l:=by
 intro j H;have hn:l.length=n:=by have:=E.1;rw[FL]at this;omega
 obtain⟨M,G⟩:=Z6a l j H;refine⟨?_, ?_⟩
 . rw[E.cellAt _ (by omega)];simp[List.getD,M]
 . rw[E.cellAt _ (by omega)];simp[List.getD,G]
theorem Prs.block {w w':World}{E:Nat}{l:List (Nat×Nat)}(M:Prs w E l)(H:w'.heap[E]? =w.heap[E]?):Prs w' E l:=by
 intro j I;obtain⟨G,F⟩:=M j I;unfold World.cell? at G F ⊢;rw[H];exact⟨G,F⟩
theorem Z4x:(Tryz.prog.info? 129).map (fun i=>(i.zero,i.size,i.bytes))=some (some (.agg #[.int .i64 0,.int .i64 0]),2,16):=by kernel_rfl
def O7:List Int:= [0,0,0,0,0,0,0,0,1,1,1,1,2,2,2,2,3,3,3,3,4,4,4,4,5,5,5,5]
def Y9 (k:Nat):Nat:=if k=28 then 259 else (samesL.getD k (0,0)).1
def GS (k:Nat):Nat:=if k=30 then 32769 else (farsL.getD k (0,0)).1
theorem FD:∀k,k<28->samesL.take (k+1)=samesL.take k++ [(Y9 k,(O7.getD k 0).toNat)]/\Y9 (k+1)=Y9 k+2^(O7.getD k 0).toNat/\0<=O7.getD k 0/\O7.getD k 0<=5/\Y9 k<=300:=by decide
theorem PR:∀k,k<30->farsL.take (k+1)=farsL.take k++ [(GS k,if k<4 then 0 else k/2-1)]/\GS (k+1)=GS k+2^(if k<4 then 0 else k/2-1)/\(if k<4 then 0 else k/2-1)<=13/\GS k<=40000:=by decide
theorem Lf (W:World)(x y:Value)(t:TypeId):∀j u,[x,y][j]? =some u->(W.alloc (.cells #[x,y] t)).cell? ((⟨W.heap.size,0,none⟩:Addr).add j)=some u:=by
 intro j u E;have e:(⟨W.heap.size,0,none⟩:Addr).add j=⟨W.heap.size,j,none⟩:=by unfold Addr.add;split<;>simp_all
 rw[e,World.cell?_alloc_at _ _ _ _ rfl]
 match j,E with
 |0,E=>simpa using E
 |1,E=>simpa using E
theorem LS (w:World):Calls Tryz.prog 96 #[] w fun e w'=>∃g1 c1 g2 c2,e=.returned (.tuple #[.slice (some ⟨g1,0,none⟩) 29 c1,.slice (some ⟨g2,0,none⟩) 30 c2])/\w.heap.size<=g1/\w.heap.size<=g2/\Prs w' g1 samesL/\Prs w' g2 farsL/\Below w.heap.size w w'/\g1<w'.heap.size/\g2<w'.heap.size:=by
 obtain⟨aj,hi,al,ak,ai⟩:=info_parts Z4x;have aw:=Ab (RowIn.new .i64 w O7 3 #[.int .i64 0,.int .i64 0,.int .i64 0,.int .i64 0,.int .i64 0,.int .i64 0,.int .i64 0,.int .i64 0,.int .i64 1,.int .i64 1,.int .i64 1,.int .i64 1,.int .i64 2,.int .i64 2,.int .i64 2,.int .i64 2,.int .i64 3,.int .i64 3,.int .i64 3,.int .i64 3,.int .i64 4,.int .i64 4,.int .i64 4,.int .i64 4,.int .i64 5,.int .i64 5,.int .i64 5,.int .i64 5] w.heap.size rfl rfl);have a0:=Ab ((Below.refl w.heap.size w).alloc (VB _) (.cells #[.int .i64 0,.int .i64 0,.int .i64 0,.int .i64 0,.int .i64 0,.int .i64 0,.int .i64 0,.int .i64 0,.int .i64 1,.int .i64 1,.int .i64 1,.int .i64 1,.int .i64 2,.int .i64 2,.int .i64 2,.int .i64 2,.int .i64 3,.int .i64 3,.int .i64 3,.int .i64 3,.int .i64 4,.int .i64 4,.int .i64 4,.int .i64 4,.int .i64 5,.int .i64 5,.int .i64 5,.int .i64 5] 3));have bk:(w.alloc (.cells #[.int .i64 0,.int .i64 0,.int .i64 0,.int .i64 0,.int .i64 0,.int .i64 0,.int .i64 0,.int .i64 0,.int .i64 1,.int .i64 1,.int .i64 1,.int .i64 1,.int .i64 2,.int .i64 2,.int .i64 2,.int .i64 2,.int .i64 3,.int .i64 3,.int .i64 3,.int .i64 3,.int .i64 4,.int .i64 4,.int .i64 4,.int .i64 4,.int .i64 5,.int .i64 5,.int .i64 5,.int .i64 5] 3)).heap.size=w.heap.size+1:=by simp
 go_enter Tryz.func96,Tryz.ntmps96
 go_wp2;generalize w.alloc (.cells #[.int .i64 0,.int .i64 0,.int .i64 0,.int .i64 0,.int .i64 0,.int .i64 0,.int .i64 0,.int .i64 0,.int .i64 1,.int .i64 1,.int .i64 1,.int .i64 1,.int .i64 2,.int .i64 2,.int .i64 2,.int .i64 2,.int .i64 3,.int .i64 3,.int .i64 3,.int .i64 3,.int .i64 4,.int .i64 4,.int .i64 4,.int .i64 4,.int .i64 5,.int .i64 5,.int .i64 5,.int .i64 5] 3)=bj at*;go_loopw [0,2,9] (fun a2 as an wr=>∃k:Nat,k<=28/\an=.int .i64 (k:Int)/\as=.int .i64 (Y9 k:Int)/\wr.ownsRow (w.heap.size+1) 129 2 a2 k (pvs (samesL.take k))/\Below (w.heap.size+1) bj wr) (fun _ _ an _=>28-(intOf an).toNat)
 case atStart=>exact⟨0,by omega,rfl,rfl,World.ownsRow_nil _ _ _ _,Below.refl _ _⟩
 case round=>
  obtain⟨k,a3,rfl,rfl,Z,H⟩:=hrel;have E:=Ab Z;have Y:=Ab H;have be:=H.size
  by_cases av:k<28
  . obtain⟨af,ag,bi,ax,a7⟩:=FD k av
    have c1:wr.cell? ⟨w.heap.size,k,none⟩=some (.int .i64 (O7.getD k 0)):=by
     rw[H.cell (p:=⟨w.heap.size,k,none⟩) (by simp)]
     rcases Aa aw with h|⟨b,o,e,_,h⟩
     . cases h
     . cases e
       have:=h k (by simpa[O7]using av)
       simpa using this
    have ac:=Ab af;have ae:=Ab ag;clear af ag Z H;generalize O7.getD k 0=bm at*;obtain⟨m,rfl⟩:=WF bi;rw[WM]at ac ae;generalize Y9 k=G at*;have M:=Ab ((Aa E).alloc (.cells #[.int .i64 (G:Int),.int .i64 (m:Int)] 129));have U:=Ab ((Aa Y).alloc (by omega) (.cells #[.int .i64 (G:Int),.int .i64 (m:Int)] 129));have F:=Ab (Lf wr (.int .i64 (G:Int)) (.int .i64 (m:Int)) 129);go_wp2_with (at_builtin;refine wpList_append_own_at _ rfl _ _ 130 rfl (w.heap.size+1) 129 aj _ 2 16 Tryz.underlying130 hi al ak ai rfl (by decide) u0 k (pvs (samesL.take k)) rfl (Aa M) ⟨wr.heap.size,0,none⟩ 1 1 [.int .i64 (G:Int),.int .i64 (m:Int)] rfl rfl (Aa F) (by intro u O;simp at O;rcases O with rfl|rfl<;>rfl) (by unfold maxLen;omega) (by omega) (by simp;omega) ?_)
    intro v' T ab I _ aa
    have ar:Hid (T.ownsRow (w.heap.size+1) 129 2 v' (k+1) (pvs (samesL.take (k+1)))):=by
     rw[Aa ac,Nh];exact ab
    have am:=Ab ((Aa U).grown I (by simp;omega) (fun g e=>((Aa E).lt g e).1));clear ab I aa M U F E Y c1;have ba:m=0\/m=1\/m=2\/m=3\/m=4\/m=5:=by omega
    rcases ba with rfl|rfl|rfl|rfl|rfl|rfl
    all_goals
     go_wp2;go_roundw
     case rel=>exact⟨k+1,by omega,by go_num,by rw[Aa ae];simp,Aa ar,Aa am⟩
     case measure=>simp[intOf];omega
  . obtain rfl:k=28:=by omega
    have ay:Y9 28=259:=rfl;rw[ay];have M:=Ab ((Aa E).alloc (.cells #[.int .i64 258,.int .i64 0] 129));have U:=Ab ((Aa Y).alloc (by omega) (.cells #[.int .i64 258,.int .i64 0] 129));have F:=Ab (Lf wr (.int .i64 258) (.int .i64 0) 129);clear Z H ay;go_wp2_with (at_builtin;refine wpList_append_own_at _ rfl _ _ 130 rfl (w.heap.size+1) 129 aj _ 2 16 Tryz.underlying130 hi al ak ai rfl (by decide) u0 28 (pvs (samesL.take 28)) rfl (Aa M) ⟨wr.heap.size,0,none⟩ 1 1 [.int .i64 258,.int .i64 0] rfl rfl (Aa F) (by intro u O;simp at O;rcases O with rfl|rfl<;>rfl) (by unfold maxLen;omega) (by omega) (by simp;omega) ?_)
    intro az T ab I _ aa;obtain⟨g1,c1,rfl,bt,a5⟩:=Ba ab (by omega);have ar:Hid (T.ownsRow (w.heap.size+1) 129 2 (.slice (some ⟨g1,0,none⟩) 29 c1) 29 (pvs samesL)):=ab;have am:=Ab ((Aa a0).trans (((Aa U).grown I (by simp;omega) (fun g e=>((Aa E).lt g e).1)).mono (by omega)));have a8:=I.size;simp only[World.size_alloc]at a8;clear ab I aa M U F E Y aw a0;go_wp2;go_loopw [1,2,28] (fun az as aq wr=>∃k:Nat,k<=30/\aq=.int .i64 (k:Int)/\as=.int .i64 (GS k:Int)/\wr.ownsRow T.heap.size 129 2 az k (pvs (farsL.take k))/\Below T.heap.size T wr) (fun _ _ aq _=>30-(intOf aq).toNat)
    case atStart=>exact⟨0,by omega,rfl,rfl,World.ownsRow_nil _ _ _ _,Below.refl _ _⟩
    case round=>
     obtain⟨k,a3,rfl,rfl,Z,H⟩:=hrel;have E:=Ab Z;have Y:=Ab H;have be:=H.size
     by_cases bc:k<30
     . obtain⟨af,ag,ax,a7⟩:=PR k bc;have ac:=Ab af;have ae:=Ab ag;clear af ag Z H;generalize GS k=G at*;obtain⟨m,hm⟩:=exq ((if k<4 then 0 else k/2-1));rw[hm]at ac ae ax
       have bd:(k<4/\m=0)\/ (4<=k/\k/2=m+1):=by
        by_cases c:k<4
        . rw[if_pos c]at hm;exact .inl ⟨c,hm.symm⟩
        . rw[if_neg c]at hm;exact .inr ⟨by omega,by omega⟩
       clear hm
       rcases bd with ⟨bg,rfl⟩|⟨bg,bo⟩
       . have bq:(k:Int)/4=0:=by omega
         have a9:min (1:Int) 0=0:=by decide
         have M:=Ab (((Aa E).alloc (.cells #[.int .i64 0,.int .i64 ((k:Int)/2-1)] 3)).alloc (.cells #[.int .i64 (G:Int),.int .i64 0] 129));have U:=Ab (((Aa Y).alloc (by omega) (.cells #[.int .i64 0,.int .i64 ((k:Int)/2-1)] 3)).alloc (by simp;omega) (.cells #[.int .i64 (G:Int),.int .i64 0] 129));have F:=Ab (Lf (wr.alloc (.cells #[.int .i64 0,.int .i64 ((k:Int)/2-1)] 3)) (.int .i64 (G:Int)) (.int .i64 0) 129);simp only[World.size_alloc]at F;go_wp2_with (at_builtin;refine wpList_append_own_at _ rfl _ _ 130 rfl T.heap.size 129 aj _ 2 16 Tryz.underlying130 hi al ak ai rfl (by decide) u1 k (pvs (farsL.take k)) rfl (Aa M) ⟨wr.heap.size+1,0,none⟩ 1 1 [.int .i64 (G:Int),.int .i64 0] rfl rfl (Aa F) (by intro u O;simp at O;rcases O with rfl|rfl<;>rfl) (by unfold maxLen;omega) (by omega) (by simp;omega) ?_)
         intro v' au ah I _ aa
         have ap:Hid (au.ownsRow T.heap.size 129 2 v' (k+1) (pvs (farsL.take (k+1)))):=by
          rw[Aa ac,Nh];exact ah
         have ao:=Ab ((Aa U).grown I (by simp;omega) (fun g e=>((Aa E).lt g e).1));clear ah I aa M U F E Y;go_wp2;go_roundw
         case rel=>exact⟨k+1,by omega,by go_num,by rw[Aa ae];simp,Aa ap,Aa ao⟩
         case measure=>simp[intOf];omega
       . have bn:(k:Int)/2-1=(m:Int):=by omega
         have a9:min (1:Int) ((k:Int)/4)=1:=by omega
         have M:=Ab (((Aa E).alloc (.cells #[.int .i64 0,.int .i64 (m:Int)] 3)).alloc (.cells #[.int .i64 (G:Int),.int .i64 (m:Int)] 129));have U:=Ab (((Aa Y).alloc (by omega) (.cells #[.int .i64 0,.int .i64 (m:Int)] 3)).alloc (by simp;omega) (.cells #[.int .i64 (G:Int),.int .i64 (m:Int)] 129));have F:=Ab (Lf (wr.alloc (.cells #[.int .i64 0,.int .i64 (m:Int)] 3)) (.int .i64 (G:Int)) (.int .i64 (m:Int)) 129);simp only[World.size_alloc]at F;go_wp2_with (at_builtin;refine wpList_append_own_at _ rfl _ _ 130 rfl T.heap.size 129 aj _ 2 16 Tryz.underlying130 hi al ak ai rfl (by decide) u1 k (pvs (farsL.take k)) rfl (Aa M) ⟨wr.heap.size+1,0,none⟩ 1 1 [.int .i64 (G:Int),.int .i64 (m:Int)] rfl rfl (Aa F) (by intro u O;simp at O;rcases O with rfl|rfl<;>rfl) (by unfold maxLen;omega) (by omega) (by simp;omega) ?_)
         intro v' au ah I _ aa
         have ap:Hid (au.ownsRow T.heap.size 129 2 v' (k+1) (pvs (farsL.take (k+1)))):=by
          rw[Aa ac,Nh];exact ah
         have ao:=Ab ((Aa U).grown I (by simp;omega) (fun g e=>((Aa E).lt g e).1));clear ah I aa M U F E Y;have bh:m=0\/m=1\/m=2\/m=3\/m=4\/m=5\/m=6\/m=7\/m=8\/m=9\/m=10\/m=11\/m=12\/m=13:=by omega
         rcases bh with rfl|rfl|rfl|rfl|rfl|rfl|rfl|rfl|rfl|rfl|rfl|rfl|rfl|rfl
         all_goals
          go_wp2;go_roundw
          case rel=>exact⟨k+1,by omega,by go_num,by rw[Aa ae];simp,Aa ap,Aa ao⟩
          case measure=>simp[intOf];omega
     . obtain rfl:k=30:=by omega
       have a4:Hid (wr.ownsRow T.heap.size 129 2 u1 30 (pvs farsL)):=Z;obtain⟨g2,c2,rfl,bu,bb⟩:=Ba Z (by omega);have bf:=Ab ((Prs.own (Aa ar)).block (H.block g1 a5));have a6:=Ab (Prs.own (Aa a4));have a1:=Ab ((Aa am).trans (H.mono (by omega)));clear Z H;go_wp2;go_ret2;exact⟨g1,c1,g2,c2,rfl,by omega,by omega,Aa bf,Aa a6,Aa a1,by omega,bb⟩
theorem FH (b o E ai:Nat)(xs:List Nat)(w:World)(ac:xs.length=E)(Z:∀j,xs.getD j 0<256)(av:E<=25000)(aj:b<w.heap.size)(I:Bytes w b o xs):
 Calls Tryz.prog 60 #[.slice (some ⟨b,o,none⟩) E ai] w fun e w'=>e=.returned (.string (text (rowB xs E)))/\Below w.heap.size w w':=by
 have an:=Ab I;have ao:=Ab ac;have ak:=Ab Z;clear I ac Z;go_enter Tryz.func60,Tryz.ntmps60
 go_wp2;go_loopw [9] (fun i wr=>∃q:Nat,q<=E/\i=.int .i64 q/\IsB wr w.heap.size (Lib.byteCells ((rowB xs q).map chr))/\Below w.heap.size w wr) (fun i _=>E-(intOf i).toNat)
 case atStart=>exact⟨0,VH _,rfl,IsB.new w,(Below.refl _ _).alloc (VB _) _⟩
 case round=>
  obtain⟨q,ax,rfl,G,F⟩:=hrel;have Y:=Ab G;have T:=Ab F;have ap:=F.size
  by_cases al:q<E
  . have c:=(F.cell (p:=⟨b,o+q,none⟩) aj).trans (Aa an q (by rw[Aa ao];exact al));have am:=Aa ak q;have aq:Hid (rowB xs (q+1)=rowB xs q++Al (xs.getD q 0) 8):=rfl;have af:=Ab (Af xs q);generalize xs.getD q 0=x at*;clear G F;go_wp2;go_loopw [13] (fun i U=>∃k:Nat,k<=8/\i=.int .i64 k/\IsB U w.heap.size (Lib.byteCells ((rowB xs q++Al x k).map chr))/\Below w.heap.size w U) (fun i _=>8-(intOf i).toNat)
    case atStart=>exact⟨0,VH _,rfl,by simpa[Al]using Aa Y,Aa T⟩
    case round=>
     obtain⟨k,au,rfl,G,F⟩:=hrel;have M:=Ab G;have H:=Ab F;clear G F
     by_cases aw:k<8
     . have ae:(Lib.byteCells ((rowB xs q++Al x k).map chr)).length<=1000000:=by
        rw[Lib.byteCells_length,WL,VE,Aa af,Ah];omega
       have as:Hid (Al x (k+1)=Al x k++ [x.testBit k]):=rfl;go_wp2_with fail
       refine(Wi _ _ _ _ (Aa M) ae).mono ?_;rintro e w3 ⟨rfl,aa,O⟩;have ag:=Ab aa;have ar:=Ab ((Aa H).trans O);clear aa O;go_wp2;go_roundw
       case rel=>exact⟨k+1,by omega,by go_num,by rw[Aa as,<-VS,<-JB _ _ _ (Z5d x k am)];exact Aa ag,Aa ar⟩
       case measure=>simp[intOf];omega
     . obtain rfl:k=8:=by omega
       go_wp2;go_roundw
       case rel=>exact⟨q+1,by omega,by go_num,by rw[Aa aq];exact Aa M,Aa H⟩
       case measure=>simp[intOf];omega
  . obtain rfl:q=E:=by omega
    clear G F;go_wp2_with fail
    refine(Us _ _ _ (Aa Y) ap).mono ?_;rintro e ay ⟨rfl,ab⟩;have ah:=Ab ((Aa T).trans ab);clear ab;go_wp2;go_ret;exact⟨rfl,Aa ah⟩
theorem LX (a:Option Addr)(E F:Nat)(xs:List Nat)(w:World)(H:xs.length=E)(I:∀j,xs.getD j 0<256)(M:E<=25000)(G:BytesIn w a xs):
 Calls Tryz.prog 60 #[.slice a E F] w fun e w'=>e=.returned (.string (text (rowB xs E)))/\Below w.heap.size w w':=by
 rcases G with rfl|⟨b,o,rfl,hb,G⟩
 . obtain rfl:E=0:=by simp at H;omega
   exact FI a F w
 . exact FH b o E F xs w H I M hb G
end Go.Proofs.YtleocpdblhbimaaGreatDoor
