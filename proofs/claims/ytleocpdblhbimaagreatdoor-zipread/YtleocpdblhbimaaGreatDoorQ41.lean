import Derived.Test.YtleocpdblhbimaaGreatDoorQ40
set_option linter.unusedSimpArgs false
set_option linter.unusedVariables false
set_option maxRecDepth 100000
set_option maxHeartbeats 2000000
namespace Go.Proofs.YtleocpdblhbimaaGreatDoor
open Go.RowKit
def pcs (t:Nat×Nat):List Value:= [.int .i64 (t.1:Int),.int .i64 (t.2:Int)]
def pvs (l:List (Nat×Nat)):List Value:=l.flatMap pcs
theorem FL (l:List (Nat×Nat)):(pvs l).length=l.length*2:=by
 induction l with
 |nil=>rfl
 |cons t r ih=>
  have:pvs (t::r)=pcs t++pvs r:=rfl
  rw[this,VE,ih,VJ];show 2+r.length*2=_
  omega
theorem Nh (l r:List (Nat×Nat)):pvs (l++r)=pvs l++pvs r:=by simp[pvs]
theorem Z6a (l:List (Nat×Nat))(j:Nat)(E:j<l.length):(pvs l)[j*2]? =some (.int .i64 ((l.getD j (0,0)).1:Int))/\(pvs l)[j*2+1]? =some (.int .i64 ((l.getD j (0,0)).2:Int)):=by
 induction l generalizing j with
 |nil=>simp at E
 |cons t r ih=>
  have e:pvs (t::r)=pcs t++pvs r:=rfl
  match j with
  |0=>rw[e];exact⟨rfl,rfl⟩
  |j+1=>
   have G:j<r.length:=by simpa using E
   obtain⟨F,H⟩:=ih j G;have hl:(pcs t).length=2:=rfl;refine⟨?_, ?_⟩
   . rw[e,VX (by rw[hl];omega),hl,show (j+1)*2-2=j*2 by omega,F];rfl
   . rw[e,VX (by rw[hl];omega),hl,show (j+1)*2+1-2=j*2+1 by omega,H];rfl
def Prs (w:World)(g:Nat)(l:List (Nat×Nat)):Prop:=∀j,j<l.length->w.cell? ⟨g,j*2,none⟩=some (.int .i64 ((l.getD j (0,0)).1:Int))/\w.cell? ⟨g,j*2+1,none⟩=some (.int .i64 ((l.getD j (0,0)).2:Int))
theorem Prs.own {w:World}{B F n M:Nat}{l:List (Nat×Nat)}(E:w.ownsRow B 129 2 (.slice (some ⟨F,0,none⟩) n M) n (pvs l)):Prs w F l:=by
 intro j I;have hn:l.length=n:=by have:=E.1;rw[FL]at this;omega
 obtain⟨H,G⟩:=Z6a l j I;refine⟨?_, ?_⟩
 . rw[E.cellAt _ (by omega)];simp[List.getD,H]
 . rw[E.cellAt _ (by omega)];simp[List.getD,G]
theorem Prs.block {w w':World}{E:Nat}{l:List (Nat×Nat)}(H:Prs w E l)(I:w'.heap[E]? =w.heap[E]?):Prs w' E l:=by
 intro j M;obtain⟨G,F⟩:=H j M;unfold World.cell? at G F ⊢;rw[I];exact⟨G,F⟩
theorem Z4x:(Tryz.prog.info? 129).map (fun i=>(i.zero,i.size,i.bytes))=some (some (.agg #[.int .i64 0,.int .i64 0]),2,16):=by kernel_rfl
def O7:List Int:= [0,0,0,0,0,0,0,0,1,1,1,1,2,2,2,2,3,3,3,3,4,4,4,4,5,5,5,5]
def Y9 (k:Nat):Nat:=if k=28 then 259 else (samesL.getD k (0,0)).1
def GS (k:Nat):Nat:=if k=30 then 32769 else (farsL.getD k (0,0)).1
theorem FD:∀k,k<28->samesL.take (k+1)=samesL.take k++ [(Y9 k,(O7.getD k 0).toNat)]/\Y9 (k+1)=Y9 k+2^(O7.getD k 0).toNat/\0<=O7.getD k 0/\O7.getD k 0<=5/\Y9 k<=300:=by decide
theorem PR:∀k,k<30->farsL.take (k+1)=farsL.take k++ [(GS k,if k<4 then 0 else k/2-1)]/\GS (k+1)=GS k+2^(if k<4 then 0 else k/2-1)/\(if k<4 then 0 else k/2-1)<=13/\GS k<=40000:=by decide
theorem Lf (W:World)(x y:Value)(t:TypeId):∀j u,[x,y][j]? =some u->(W.alloc (.cells #[x,y] t)).cell? ((⟨W.heap.size,0,none⟩:Addr).add j)=some u:=by
 intro j u E;have e:(⟨W.heap.size,0,none⟩:Addr).add j=⟨W.heap.size,j,none⟩:=by unfold Addr.add;split<;>simp_all
 rw[e,World.cell?_alloc_at _ _ _ _ rfl]
 match j,E with
 |0,E=>simpa using E
 |1,E=>simpa using E
theorem LS (w:World):Calls Tryz.prog 96 #[] w fun e w'=>∃g1 c1 g2 c2,e=.returned (.tuple #[.slice (some ⟨g1,0,none⟩) 29 c1,.slice (some ⟨g2,0,none⟩) 30 c2])/\w.heap.size<=g1/\w.heap.size<=g2/\Prs w' g1 samesL/\Prs w' g2 farsL/\Below w.heap.size w w'/\g1<w'.heap.size/\g2<w'.heap.size:=by
 obtain⟨aj,hi,ak,ao,al⟩:=info_parts Z4x;have a4:=Ab (RowIn.new .i64 w O7 3 #[.int .i64 0,.int .i64 0,.int .i64 0,.int .i64 0,.int .i64 0,.int .i64 0,.int .i64 0,.int .i64 0,.int .i64 1,.int .i64 1,.int .i64 1,.int .i64 1,.int .i64 2,.int .i64 2,.int .i64 2,.int .i64 2,.int .i64 3,.int .i64 3,.int .i64 3,.int .i64 3,.int .i64 4,.int .i64 4,.int .i64 4,.int .i64 4,.int .i64 5,.int .i64 5,.int .i64 5,.int .i64 5] w.heap.size rfl rfl);have a1:=Ab ((Below.refl w.heap.size w).alloc (VB _) (.cells #[.int .i64 0,.int .i64 0,.int .i64 0,.int .i64 0,.int .i64 0,.int .i64 0,.int .i64 0,.int .i64 0,.int .i64 1,.int .i64 1,.int .i64 1,.int .i64 1,.int .i64 2,.int .i64 2,.int .i64 2,.int .i64 2,.int .i64 3,.int .i64 3,.int .i64 3,.int .i64 3,.int .i64 4,.int .i64 4,.int .i64 4,.int .i64 4,.int .i64 5,.int .i64 5,.int .i64 5,.int .i64 5] 3));have bz:(w.alloc (.cells #[.int .i64 0,.int .i64 0,.int .i64 0,.int .i64 0,.int .i64 0,.int .i64 0,.int .i64 0,.int .i64 0,.int .i64 1,.int .i64 1,.int .i64 1,.int .i64 1,.int .i64 2,.int .i64 2,.int .i64 2,.int .i64 2,.int .i64 3,.int .i64 3,.int .i64 3,.int .i64 3,.int .i64 4,.int .i64 4,.int .i64 4,.int .i64 4,.int .i64 5,.int .i64 5,.int .i64 5,.int .i64 5] 3)).heap.size=w.heap.size+1:=by simp
 go_enter Tryz.func96,Tryz.ntmps96
 go_wp2;generalize w.alloc (.cells #[.int .i64 0,.int .i64 0,.int .i64 0,.int .i64 0,.int .i64 0,.int .i64 0,.int .i64 0,.int .i64 0,.int .i64 1,.int .i64 1,.int .i64 1,.int .i64 1,.int .i64 2,.int .i64 2,.int .i64 2,.int .i64 2,.int .i64 3,.int .i64 3,.int .i64 3,.int .i64 3,.int .i64 4,.int .i64 4,.int .i64 4,.int .i64 4,.int .i64 5,.int .i64 5,.int .i64 5,.int .i64 5] 3)=bj at*;go_loopw [0,2,9] (fun bg az au wr=>∃k:Nat,k<=28/\au=.int .i64 (k:Int)/\az=.int .i64 (Y9 k:Int)/\wr.ownsRow (w.heap.size+1) 129 2 bg k (pvs (samesL.take k))/\Below (w.heap.size+1) bj wr) (fun _ _ au _=>28-(intOf au).toNat)
 case atStart=>exact⟨0,by omega,rfl,rfl,World.ownsRow_nil _ _ _ _,Below.refl _ _⟩
 case round=>
  obtain⟨k,bn,rfl,rfl,Y,H⟩:=hrel;have F:=Ab Y;have Z:=Ab H;have bm:=H.size
  by_cases a2:k<28
  . obtain⟨ai,ag,bv,a6,a8⟩:=FD k a2
    have c1:wr.cell? ⟨w.heap.size,k,none⟩=some (.int .i64 (O7.getD k 0)):=by
     rw[H.cell (p:=⟨w.heap.size,k,none⟩) (by simp)]
     rcases Aa a4 with h|⟨b,o,e,_,h⟩
     . cases h
     . cases e
       have:=h k (by simpa[O7]using a2)
       simpa using this
    have af:=Ab ai;have ac:=Ab ag;clear ai ag Y H;generalize O7.getD k 0=b0 at*;obtain⟨m,rfl⟩:=WF bv;rw[WM]at af ac;generalize Y9 k=G at*;have T:=Ab ((Aa F).alloc (.cells #[.int .i64 (G:Int),.int .i64 (m:Int)] 129));have M:=Ab ((Aa Z).alloc (by omega) (.cells #[.int .i64 (G:Int),.int .i64 (m:Int)] 129));have E:=Ab (Lf wr (.int .i64 (G:Int)) (.int .i64 (m:Int)) 129);go_wp2_with (at_builtin;refine wpList_append_own_at _ rfl _ _ 130 rfl (w.heap.size+1) 129 aj _ 2 16 Tryz.underlying130 hi ak ao al rfl (by decide) u0 k (pvs (samesL.take k)) rfl (Aa T) ⟨wr.heap.size,0,none⟩ 1 1 [.int .i64 (G:Int),.int .i64 (m:Int)] rfl rfl (Aa E) (by intro u O;simp at O;rcases O with rfl|rfl<;>rfl) (by unfold maxLen;omega) (by omega) (by simp;omega) ?_)
    intro v' U ae I _ aa
    have ax:Hid (U.ownsRow (w.heap.size+1) 129 2 v' (k+1) (pvs (samesL.take (k+1)))):=by
     rw[Aa af,Nh];exact ae
    have ap:=Ab ((Aa M).grown I (by simp;omega) (fun g e=>((Aa F).lt g e).1));clear ae I aa T M E F Z c1;have bk:m=0\/m=1\/m=2\/m=3\/m=4\/m=5:=by omega
    rcases bk with rfl|rfl|rfl|rfl|rfl|rfl
    all_goals
     go_wp2;go_roundw
     case rel=>exact⟨k+1,by omega,by go_num,by rw[Aa ac];simp,Aa ax,Aa ap⟩
     case measure=>simp[intOf];omega
  . obtain rfl:k=28:=by omega
    have a3:Y9 28=259:=rfl;rw[a3];have T:=Ab ((Aa F).alloc (.cells #[.int .i64 258,.int .i64 0] 129));have M:=Ab ((Aa Z).alloc (by omega) (.cells #[.int .i64 258,.int .i64 0] 129));have E:=Ab (Lf wr (.int .i64 258) (.int .i64 0) 129);clear Y H a3;go_wp2_with (at_builtin;refine wpList_append_own_at _ rfl _ _ 130 rfl (w.heap.size+1) 129 aj _ 2 16 Tryz.underlying130 hi ak ao al rfl (by decide) u0 28 (pvs (samesL.take 28)) rfl (Aa T) ⟨wr.heap.size,0,none⟩ 1 1 [.int .i64 258,.int .i64 0] rfl rfl (Aa E) (by intro u O;simp at O;rcases O with rfl|rfl<;>rfl) (by unfold maxLen;omega) (by omega) (by simp;omega) ?_)
    intro a5 U ae I _ aa;obtain⟨g1,c1,rfl,bw,ba⟩:=Ba ae (by omega);have ax:Hid (U.ownsRow (w.heap.size+1) 129 2 (.slice (some ⟨g1,0,none⟩) 29 c1) 29 (pvs samesL)):=ae;have ap:=Ab ((Aa a1).trans (((Aa M).grown I (by simp;omega) (fun g e=>((Aa F).lt g e).1)).mono (by omega)));have bf:=I.size;simp only[World.size_alloc]at bf;clear ae I aa T M E F Z a4 a1;go_wp2;go_loopw [1,2,28] (fun a5 az aw wr=>∃k:Nat,k<=30/\aw=.int .i64 (k:Int)/\az=.int .i64 (GS k:Int)/\wr.ownsRow U.heap.size 129 2 a5 k (pvs (farsL.take k))/\Below U.heap.size U wr) (fun _ _ aw _=>30-(intOf aw).toNat)
    case atStart=>exact⟨0,by omega,rfl,rfl,World.ownsRow_nil _ _ _ _,Below.refl _ _⟩
    case round=>
     obtain⟨k,bn,rfl,rfl,Y,H⟩:=hrel;have F:=Ab Y;have Z:=Ab H;have bm:=H.size
     by_cases a7:k<30
     . obtain⟨ai,ag,a6,a8⟩:=PR k a7;have af:=Ab ai;have ac:=Ab ag;clear ai ag Y H;generalize GS k=G at*;obtain⟨m,hm⟩:=exq ((if k<4 then 0 else k/2-1));rw[hm]at af ac a6
       have bb:(k<4/\m=0)\/ (4<=k/\k/2=m+1):=by
        by_cases c:k<4
        . rw[if_pos c]at hm;exact .inl ⟨c,hm.symm⟩
        . rw[if_neg c]at hm;exact .inr ⟨by omega,by omega⟩
       clear hm
       rcases bb with ⟨bu,rfl⟩|⟨bu,b3⟩
       . have b5:(k:Int)/4=0:=by omega
         have bo:min (1:Int) 0=0:=by decide
         have T:=Ab (((Aa F).alloc (.cells #[.int .i64 0,.int .i64 ((k:Int)/2-1)] 3)).alloc (.cells #[.int .i64 (G:Int),.int .i64 0] 129));have M:=Ab (((Aa Z).alloc (by omega) (.cells #[.int .i64 0,.int .i64 ((k:Int)/2-1)] 3)).alloc (by simp;omega) (.cells #[.int .i64 (G:Int),.int .i64 0] 129));have E:=Ab (Lf (wr.alloc (.cells #[.int .i64 0,.int .i64 ((k:Int)/2-1)] 3)) (.int .i64 (G:Int)) (.int .i64 0) 129);simp only[World.size_alloc]at E;go_wp2_with (at_builtin;refine wpList_append_own_at _ rfl _ _ 130 rfl U.heap.size 129 aj _ 2 16 Tryz.underlying130 hi ak ao al rfl (by decide) u1 k (pvs (farsL.take k)) rfl (Aa T) ⟨wr.heap.size+1,0,none⟩ 1 1 [.int .i64 (G:Int),.int .i64 0] rfl rfl (Aa E) (by intro u O;simp at O;rcases O with rfl|rfl<;>rfl) (by unfold maxLen;omega) (by omega) (by simp;omega) ?_)
         intro v' ay ah I _ aa
         have ar:Hid (ay.ownsRow U.heap.size 129 2 v' (k+1) (pvs (farsL.take (k+1)))):=by
          rw[Aa af,Nh];exact ah
         have av:=Ab ((Aa M).grown I (by simp;omega) (fun g e=>((Aa F).lt g e).1));clear ah I aa T M E F Z;go_wp2;go_roundw
         case rel=>exact⟨k+1,by omega,by go_num,by rw[Aa ac];simp,Aa ar,Aa av⟩
         case measure=>simp[intOf];omega
       . have b7:(k:Int)/2-1=(m:Int):=by omega
         have bo:min (1:Int) ((k:Int)/4)=1:=by omega
         have T:=Ab (((Aa F).alloc (.cells #[.int .i64 0,.int .i64 (m:Int)] 3)).alloc (.cells #[.int .i64 (G:Int),.int .i64 (m:Int)] 129));have M:=Ab (((Aa Z).alloc (by omega) (.cells #[.int .i64 0,.int .i64 (m:Int)] 3)).alloc (by simp;omega) (.cells #[.int .i64 (G:Int),.int .i64 (m:Int)] 129));have E:=Ab (Lf (wr.alloc (.cells #[.int .i64 0,.int .i64 (m:Int)] 3)) (.int .i64 (G:Int)) (.int .i64 (m:Int)) 129);simp only[World.size_alloc]at E;go_wp2_with (at_builtin;refine wpList_append_own_at _ rfl _ _ 130 rfl U.heap.size 129 aj _ 2 16 Tryz.underlying130 hi ak ao al rfl (by decide) u1 k (pvs (farsL.take k)) rfl (Aa T) ⟨wr.heap.size+1,0,none⟩ 1 1 [.int .i64 (G:Int),.int .i64 (m:Int)] rfl rfl (Aa E) (by intro u O;simp at O;rcases O with rfl|rfl<;>rfl) (by unfold maxLen;omega) (by omega) (by simp;omega) ?_)
         intro v' ay ah I _ aa
         have ar:Hid (ay.ownsRow U.heap.size 129 2 v' (k+1) (pvs (farsL.take (k+1)))):=by
          rw[Aa af,Nh];exact ah
         have av:=Ab ((Aa M).grown I (by simp;omega) (fun g e=>((Aa F).lt g e).1));clear ah I aa T M E F Z;have bi:m=0\/m=1\/m=2\/m=3\/m=4\/m=5\/m=6\/m=7\/m=8\/m=9\/m=10\/m=11\/m=12\/m=13:=by omega
         rcases bi with rfl|rfl|rfl|rfl|rfl|rfl|rfl|rfl|rfl|rfl|rfl|rfl|rfl|rfl
         all_goals
          go_wp2;go_roundw
          case rel=>exact⟨k+1,by omega,by go_num,by rw[Aa ac];simp,Aa ar,Aa av⟩
          case measure=>simp[intOf];omega
     . obtain rfl:k=30:=by omega
       have bc:Hid (wr.ownsRow U.heap.size 129 2 u1 30 (pvs farsL)):=Y;obtain⟨g2,c2,rfl,b4,bd⟩:=Ba Y (by omega);have a9:=Ab ((Prs.own (Aa ax)).block (H.block g1 ba));have bq:=Ab (Prs.own (Aa bc));have bh:=Ab ((Aa ap).trans (H.mono (by omega)));clear Y H;go_wp2;go_ret2;exact⟨g1,c1,g2,c2,rfl,by omega,by omega,Aa a9,Aa bq,Aa bh,by omega,bd⟩
theorem FH (b o E ai:Nat)(xs:List Nat)(w:World)(M:xs.length=E)(Z:∀j,xs.getD j 0<256)(a2:E<=25000)(al:b<w.heap.size)(I:Bytes w b o xs):
 Calls Tryz.prog 60 #[.slice (some ⟨b,o,none⟩) E ai] w fun e w'=>e=.returned (.string (text (rowB xs E)))/\Below w.heap.size w w':=by
 have af:=Ab I;have ay:=Ab M;have au:=Ab Z;clear I M Z;go_enter Tryz.func60,Tryz.ntmps60
 go_wp2;go_loopw [9] (fun i wr=>∃q:Nat,q<=E/\i=.int .i64 q/\IsB wr w.heap.size (Lib.byteCells ((rowB xs q).map chr))/\Below w.heap.size w wr) (fun i _=>E-(intOf i).toNat)
 case atStart=>exact⟨0,VH _,rfl,IsB.new w,(Below.refl _ _).alloc (VB _) _⟩
 case round=>
  obtain⟨q,a1,rfl,G,F⟩:=hrel;have Y:=Ab G;have ac:=Ab F;have aw:=F.size
  by_cases aj:q<E
  . have c:=(F.cell (p:=⟨b,o+q,none⟩) al).trans (Aa af q (by rw[Aa ay];exact aj));have ah:=Aa au q;have ar:Hid (rowB xs (q+1)=rowB xs q++Al (xs.getD q 0) 8):=rfl;have ax:=Ab (Af xs q);generalize xs.getD q 0=x at*;clear G F;go_wp2;go_loopw [13] (fun i T=>∃k:Nat,k<=8/\i=.int .i64 k/\IsB T w.heap.size (Lib.byteCells ((rowB xs q++Al x k).map chr))/\Below w.heap.size w T) (fun i _=>8-(intOf i).toNat)
    case atStart=>exact⟨0,VH _,rfl,by simpa[Al]using Aa Y,Aa ac⟩
    case round=>
     obtain⟨k,a3,rfl,G,F⟩:=hrel;have O:=Ab G;have aa:=Ab F;clear G F
     by_cases az:k<8
     . have ap:(Lib.byteCells ((rowB xs q++Al x k).map chr)).length<=1000000:=by
        rw[Lib.byteCells_length,WL,VE,Aa ax,Ah];omega
       have ak:Hid (Al x (k+1)=Al x k++ [x.testBit k]):=rfl;go_wp2_with fail
       refine(Wi _ _ _ _ (Aa O) ap).mono ?_;rintro e w3 ⟨rfl,H,ae⟩;have ag:=Ab H;have av:=Ab ((Aa aa).trans ae);clear H ae;go_wp2;go_roundw
       case rel=>exact⟨k+1,by omega,by go_num,by rw[Aa ak,<-VS,<-JB _ _ _ (Z5d x k ah)];exact Aa ag,Aa av⟩
       case measure=>simp[intOf];omega
     . obtain rfl:k=8:=by omega
       go_wp2;go_roundw
       case rel=>exact⟨q+1,by omega,by go_num,by rw[Aa ar];exact Aa O,Aa aa⟩
       case measure=>simp[intOf];omega
  . obtain rfl:q=E:=by omega
    clear G F;go_wp2_with fail
    refine(Us _ _ _ (Aa Y) aw).mono ?_;rintro e a4 ⟨rfl,U⟩;have ao:=Ab ((Aa ac).trans U);clear U;go_wp2;go_ret;exact⟨rfl,Aa ao⟩
theorem LX (a:Option Addr)(E G:Nat)(xs:List Nat)(w:World)(H:xs.length=E)(M:∀j,xs.getD j 0<256)(I:E<=25000)(F:BytesIn w a xs):
 Calls Tryz.prog 60 #[.slice a E G] w fun e w'=>e=.returned (.string (text (rowB xs E)))/\Below w.heap.size w w':=by
 rcases F with rfl|⟨b,o,rfl,hb,F⟩
 . obtain rfl:E=0:=by simp at H;omega
   exact FI a G w
 . exact FH b o E G xs w H M I hb F
end Go.Proofs.YtleocpdblhbimaaGreatDoor
