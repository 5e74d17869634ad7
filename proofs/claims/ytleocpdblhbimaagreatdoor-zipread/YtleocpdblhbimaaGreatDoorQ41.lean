import Derived.Test.YtleocpdblhbimaaGreatDoorQ40
set_option linter.unusedSimpArgs false
set_option maxHeartbeats 2000000
namespace Go.Proofs.YtleocpdblhbimaaGreatDoor
open Go.RowKit
set_option linter.unusedVariables false
set_option maxRecDepth 100000
def pcs (t:Nat×Nat):List Value:= [.int .i64 (t.1:Int),.int .i64 (t.2:Int)]
def pvs (l:List (Nat×Nat)):List Value:=l.flatMap pcs
theorem FL (l:List (Nat×Nat)):(pvs l).length=l.length*2:=by
 induction l with
 |nil=>rfl
 |cons t r ih=>
  have:pvs (t::r)=pcs t++pvs r:=rfl
  rw[this,VE,ih,VJ];show 2+r.length*2=_
  omega
theorem Nh (l r:List (Nat×Nat)):pvs (l++r)=pvs l++pvs r:=by simp[pvs]
theorem Z6a (l:List (Nat×Nat))(j:Nat)(E:j<l.length):(pvs l)[j*2]? =some (.int .i64 ((l.getD j (0,0)).1:Int))/\(pvs l)[j*2+1]? =some (.int .i64 ((l.getD j (0,0)).2:Int)):=by
 induction l generalizing j with
 |nil=>simp at E
 |cons t r ih=>
  have e:pvs (t::r)=pcs t++pvs r:=rfl
  match j with
  |0=>rw[e];exact⟨rfl,rfl⟩
  |j+1=>
   have H:j<r.length:=by simpa using E
   obtain⟨G,F⟩:=ih j H;have hl:(pcs t).length=2:=rfl;refine⟨?_, ?_⟩
   . rw[e,VX (by rw[hl];omega),hl,show (j+1)*2-2=j*2 by omega,G];rfl
   . rw[e,VX (by rw[hl];omega),hl,show (j+1)*2+1-2=j*2+1 by omega,F];rfl
def Prs (w:World)(g:Nat)(l:List (Nat×Nat)):Prop:=∀j,j<l.length->w.cell? ⟨g,j*2,none⟩=some (.int .i64 ((l.getD j (0,0)).1:Int))/\w.cell? ⟨g,j*2+1,none⟩=some (.int .i64 ((l.getD j (0,0)).2:Int))
theorem Prs.own {w:World}{B F n M:Nat}{l:List (Nat×Nat)}(E:w.ownsRow B 129 2 (.slice (some ⟨F,0,none⟩) n M) n (pvs l)):Prs w F l:=by
 intro j H;have hn:l.length=n:=by have:=E.1;rw[FL]at this;omega
 obtain⟨G,I⟩:=Z6a l j H;refine⟨?_, ?_⟩
 . rw[E.cellAt _ (by omega)];simp[List.getD,G]
 . rw[E.cellAt _ (by omega)];simp[List.getD,I]
theorem Prs.block {w w':World}{E:Nat}{l:List (Nat×Nat)}(M:Prs w E l)(H:w'.heap[E]? =w.heap[E]?):Prs w' E l:=by
 intro j I;obtain⟨F,G⟩:=M j I;unfold World.cell? at F G ⊢;rw[H];exact⟨F,G⟩
theorem Z4x:(Tryz.prog.info? 129).map (fun i=>(i.zero,i.size,i.bytes))=some (some (.agg #[.int .i64 0,.int .i64 0]),2,16):=by kernel_rfl
def O7:List Int:= [0,0,0,0,0,0,0,0,1,1,1,1,2,2,2,2,3,3,3,3,4,4,4,4,5,5,5,5]
def Y9 (k:Nat):Nat:=if k=28 then 259 else (samesL.getD k (0,0)).1
def GS (k:Nat):Nat:=if k=30 then 32769 else (farsL.getD k (0,0)).1
theorem FD:∀k,k<28->samesL.take (k+1)=samesL.take k++ [(Y9 k,(O7.getD k 0).toNat)]/\Y9 (k+1)=Y9 k+2^(O7.getD k 0).toNat/\0<=O7.getD k 0/\O7.getD k 0<=5/\Y9 k<=300:=by decide
theorem PR:∀k,k<30->farsL.take (k+1)=farsL.take k++ [(GS k,if k<4 then 0 else k/2-1)]/\GS (k+1)=GS k+2^(if k<4 then 0 else k/2-1)/\(if k<4 then 0 else k/2-1)<=13/\GS k<=40000:=by decide
theorem Lf (W:World)(x y:Value)(t:TypeId):∀j u,[x,y][j]? =some u->(W.alloc (.cells #[x,y] t)).cell? ((⟨W.heap.size,0,none⟩:Addr).add j)=some u:=by
 intro j u E;have e:(⟨W.heap.size,0,none⟩:Addr).add j=⟨W.heap.size,j,none⟩:=by unfold Addr.add;split<;>simp_all
 rw[e,World.cell?_alloc_at _ _ _ _ rfl]
 match j,E with
 |0,E=>simpa using E
 |1,E=>simpa using E
theorem LS (w:World):Calls Tryz.prog 96 #[] w fun e w'=>∃g1 c1 g2 c2,e=.returned (.tuple #[.slice (some ⟨g1,0,none⟩) 29 c1,.slice (some ⟨g2,0,none⟩) 30 c2])/\w.heap.size<=g1/\w.heap.size<=g2/\Prs w' g1 samesL/\Prs w' g2 farsL/\Below w.heap.size w w'/\g1<w'.heap.size/\g2<w'.heap.size:=by
 obtain⟨al,hi,ak,ao,aj⟩:=info_parts Z4x;have a4:=Ab (RowIn.new .i64 w O7 3 #[.int .i64 0,.int .i64 0,.int .i64 0,.int .i64 0,.int .i64 0,.int .i64 0,.int .i64 0,.int .i64 0,.int .i64 1,.int .i64 1,.int .i64 1,.int .i64 1,.int .i64 2,.int .i64 2,.int .i64 2,.int .i64 2,.int .i64 3,.int .i64 3,.int .i64 3,.int .i64 3,.int .i64 4,.int .i64 4,.int .i64 4,.int .i64 4,.int .i64 5,.int .i64 5,.int .i64 5,.int .i64 5] w.heap.size rfl rfl);have a6:=Ab ((Below.refl w.heap.size w).alloc (VB _) (.cells #[.int .i64 0,.int .i64 0,.int .i64 0,.int .i64 0,.int .i64 0,.int .i64 0,.int .i64 0,.int .i64 0,.int .i64 1,.int .i64 1,.int .i64 1,.int .i64 1,.int .i64 2,.int .i64 2,.int .i64 2,.int .i64 2,.int .i64 3,.int .i64 3,.int .i64 3,.int .i64 3,.int .i64 4,.int .i64 4,.int .i64 4,.int .i64 4,.int .i64 5,.int .i64 5,.int .i64 5,.int .i64 5] 3));have b3:(w.alloc (.cells #[.int .i64 0,.int .i64 0,.int .i64 0,.int .i64 0,.int .i64 0,.int .i64 0,.int .i64 0,.int .i64 0,.int .i64 1,.int .i64 1,.int .i64 1,.int .i64 1,.int .i64 2,.int .i64 2,.int .i64 2,.int .i64 2,.int .i64 3,.int .i64 3,.int .i64 3,.int .i64 3,.int .i64 4,.int .i64 4,.int .i64 4,.int .i64 4,.int .i64 5,.int .i64 5,.int .i64 5,.int .i64 5] 3)).heap.size=w.heap.size+1:=by simp
 go_enter Tryz.func96,Tryz.ntmps96
 go_wp2;generalize w.alloc (.cells #[.int .i64 0,.int .i64 0,.int .i64 0,.int .i64 0,.int .i64 0,.int .i64 0,.int .i64 0,.int .i64 0,.int .i64 1,.int .i64 1,.int .i64 1,.int .i64 1,.int .i64 2,.int .i64 2,.int .i64 2,.int .i64 2,.int .i64 3,.int .i64 3,.int .i64 3,.int .i64 3,.int .i64 4,.int .i64 4,.int .i64 4,.int .i64 4,.int .i64 5,.int .i64 5,.int .i64 5,.int .i64 5] 3)=a8 at*;go_loopw [0,2,9] (fun bh au ay wr=>∃k:Nat,k<=28/\ay=.int .i64 (k:Int)/\au=.int .i64 (Y9 k:Int)/\wr.ownsRow (w.heap.size+1) 129 2 bh k (pvs (samesL.take k))/\Below (w.heap.size+1) a8 wr) (fun _ _ ay _=>28-(intOf ay).toNat)
 case atStart=>exact⟨0,by omega,rfl,rfl,World.ownsRow_nil _ _ _ _,Below.refl _ _⟩
 case round=>
  obtain⟨k,bi,rfl,rfl,Y,I⟩:=hrel;have F:=Ab Y;have Z:=Ab I;have bj:=I.size
  by_cases a2:k<28
  . obtain⟨ag,ai,bk,a3,bg⟩:=FD k a2
    have c1:wr.cell? ⟨w.heap.size,k,none⟩=some (.int .i64 (O7.getD k 0)):=by
     rw[I.cell (p:=⟨w.heap.size,k,none⟩) (by simp)]
     rcases Aa a4 with h|⟨b,o,e,_,h⟩
     . cases h
     . cases e
       have:=h k (by simpa[O7]using a2)
       simpa using this
    have af:=Ab ag;have ac:=Ab ai;clear ag ai Y I;generalize O7.getD k 0=bw at*;obtain⟨m,rfl⟩:=WF bk;rw[WM]at af ac;generalize Y9 k=G at*;have U:=Ab ((Aa F).alloc (.cells #[.int .i64 (G:Int),.int .i64 (m:Int)] 129));have O:=Ab ((Aa Z).alloc (by omega) (.cells #[.int .i64 (G:Int),.int .i64 (m:Int)] 129));have E:=Ab (Lf wr (.int .i64 (G:Int)) (.int .i64 (m:Int)) 129);go_wp2_with (at_builtin;refine wpList_append_own_at _ rfl _ _ 130 rfl (w.heap.size+1) 129 al _ 2 16 Tryz.underlying130 hi ak ao aj rfl (by decide) u0 k (pvs (samesL.take k)) rfl (Aa U) ⟨wr.heap.size,0,none⟩ 1 1 [.int .i64 (G:Int),.int .i64 (m:Int)] rfl rfl (Aa E) (by intro u T;simp at T;rcases T with rfl|rfl<;>rfl) (by unfold maxLen;omega) (by omega) (by simp;omega) ?_)
    intro v' M ae H _ aa
    have ap:Hid (M.ownsRow (w.heap.size+1) 129 2 v' (k+1) (pvs (samesL.take (k+1)))):=by
     rw[Aa af,Nh];exact ae
    have ax:=Ab ((Aa O).grown H (by simp;omega) (fun g e=>((Aa F).lt g e).1));clear ae H aa U O E F Z c1;have a9:m=0\/m=1\/m=2\/m=3\/m=4\/m=5:=by omega
    rcases a9 with rfl|rfl|rfl|rfl|rfl|rfl
    all_goals
     go_wp2;go_roundw
     case rel=>exact⟨k+1,by omega,by go_num,by rw[Aa ac];simp,Aa ap,Aa ax⟩
     case measure=>simp[intOf];omega
  . obtain rfl:k=28:=by omega
    have a5:Y9 28=259:=rfl;rw[a5];have U:=Ab ((Aa F).alloc (.cells #[.int .i64 258,.int .i64 0] 129));have O:=Ab ((Aa Z).alloc (by omega) (.cells #[.int .i64 258,.int .i64 0] 129));have E:=Ab (Lf wr (.int .i64 258) (.int .i64 0) 129);clear Y I a5;go_wp2_with (at_builtin;refine wpList_append_own_at _ rfl _ _ 130 rfl (w.heap.size+1) 129 al _ 2 16 Tryz.underlying130 hi ak ao aj rfl (by decide) u0 28 (pvs (samesL.take 28)) rfl (Aa U) ⟨wr.heap.size,0,none⟩ 1 1 [.int .i64 258,.int .i64 0] rfl rfl (Aa E) (by intro u T;simp at T;rcases T with rfl|rfl<;>rfl) (by unfold maxLen;omega) (by omega) (by simp;omega) ?_)
    intro a1 M ae H _ aa;obtain⟨g1,c1,rfl,b0,bf⟩:=Ba ae (by omega);have ap:Hid (M.ownsRow (w.heap.size+1) 129 2 (.slice (some ⟨g1,0,none⟩) 29 c1) 29 (pvs samesL)):=ae;have ax:=Ab ((Aa a6).trans (((Aa O).grown H (by simp;omega) (fun g e=>((Aa F).lt g e).1)).mono (by omega)));have bm:=H.size;simp only[World.size_alloc]at bm;clear ae H aa U O E F Z a4 a6;go_wp2;go_loopw [1,2,28] (fun a1 au ar wr=>∃k:Nat,k<=30/\ar=.int .i64 (k:Int)/\au=.int .i64 (GS k:Int)/\wr.ownsRow M.heap.size 129 2 a1 k (pvs (farsL.take k))/\Below M.heap.size M wr) (fun _ _ ar _=>30-(intOf ar).toNat)
    case atStart=>exact⟨0,by omega,rfl,rfl,World.ownsRow_nil _ _ _ _,Below.refl _ _⟩
    case round=>
     obtain⟨k,bi,rfl,rfl,Y,I⟩:=hrel;have F:=Ab Y;have Z:=Ab I;have bj:=I.size
     by_cases bb:k<30
     . obtain⟨ag,ai,a3,bg⟩:=PR k bb;have af:=Ab ag;have ac:=Ab ai;clear ag ai Y I;generalize GS k=G at*;obtain⟨m,hm⟩:=exq ((if k<4 then 0 else k/2-1));rw[hm]at af ac a3
       have bo:(k<4/\m=0)\/ (4<=k/\k/2=m+1):=by
        by_cases c:k<4
        . rw[if_pos c]at hm;exact .inl ⟨c,hm.symm⟩
        . rw[if_neg c]at hm;exact .inr ⟨by omega,by omega⟩
       clear hm
       rcases bo with ⟨bd,rfl⟩|⟨bd,b4⟩
       . have bz:(k:Int)/4=0:=by omega
         have ba:min (1:Int) 0=0:=by decide
         have U:=Ab (((Aa F).alloc (.cells #[.int .i64 0,.int .i64 ((k:Int)/2-1)] 3)).alloc (.cells #[.int .i64 (G:Int),.int .i64 0] 129));have O:=Ab (((Aa Z).alloc (by omega) (.cells #[.int .i64 0,.int .i64 ((k:Int)/2-1)] 3)).alloc (by simp;omega) (.cells #[.int .i64 (G:Int),.int .i64 0] 129));have E:=Ab (Lf (wr.alloc (.cells #[.int .i64 0,.int .i64 ((k:Int)/2-1)] 3)) (.int .i64 (G:Int)) (.int .i64 0) 129);simp only[World.size_alloc]at E;go_wp2_with (at_builtin;refine wpList_append_own_at _ rfl _ _ 130 rfl M.heap.size 129 al _ 2 16 Tryz.underlying130 hi ak ao aj rfl (by decide) u1 k (pvs (farsL.take k)) rfl (Aa U) ⟨wr.heap.size+1,0,none⟩ 1 1 [.int .i64 (G:Int),.int .i64 0] rfl rfl (Aa E) (by intro u T;simp at T;rcases T with rfl|rfl<;>rfl) (by unfold maxLen;omega) (by omega) (by simp;omega) ?_)
         intro v' aw ah H _ aa
         have av:Hid (aw.ownsRow M.heap.size 129 2 v' (k+1) (pvs (farsL.take (k+1)))):=by
          rw[Aa af,Nh];exact ah
         have az:=Ab ((Aa O).grown H (by simp;omega) (fun g e=>((Aa F).lt g e).1));clear ah H aa U O E F Z;go_wp2;go_roundw
         case rel=>exact⟨k+1,by omega,by go_num,by rw[Aa ac];simp,Aa av,Aa az⟩
         case measure=>simp[intOf];omega
       . have b7:(k:Int)/2-1=(m:Int):=by omega
         have ba:min (1:Int) ((k:Int)/4)=1:=by omega
         have U:=Ab (((Aa F).alloc (.cells #[.int .i64 0,.int .i64 (m:Int)] 3)).alloc (.cells #[.int .i64 (G:Int),.int .i64 (m:Int)] 129));have O:=Ab (((Aa Z).alloc (by omega) (.cells #[.int .i64 0,.int .i64 (m:Int)] 3)).alloc (by simp;omega) (.cells #[.int .i64 (G:Int),.int .i64 (m:Int)] 129));have E:=Ab (Lf (wr.alloc (.cells #[.int .i64 0,.int .i64 (m:Int)] 3)) (.int .i64 (G:Int)) (.int .i64 (m:Int)) 129);simp only[World.size_alloc]at E;go_wp2_with (at_builtin;refine wpList_append_own_at _ rfl _ _ 130 rfl M.heap.size 129 al _ 2 16 Tryz.underlying130 hi ak ao aj rfl (by decide) u1 k (pvs (farsL.take k)) rfl (Aa U) ⟨wr.heap.size+1,0,none⟩ 1 1 [.int .i64 (G:Int),.int .i64 (m:Int)] rfl rfl (Aa E) (by intro u T;simp at T;rcases T with rfl|rfl<;>rfl) (by unfold maxLen;omega) (by omega) (by simp;omega) ?_)
         intro v' aw ah H _ aa
         have av:Hid (aw.ownsRow M.heap.size 129 2 v' (k+1) (pvs (farsL.take (k+1)))):=by
          rw[Aa af,Nh];exact ah
         have az:=Ab ((Aa O).grown H (by simp;omega) (fun g e=>((Aa F).lt g e).1));clear ah H aa U O E F Z;have bu:m=0\/m=1\/m=2\/m=3\/m=4\/m=5\/m=6\/m=7\/m=8\/m=9\/m=10\/m=11\/m=12\/m=13:=by omega
         rcases bu with rfl|rfl|rfl|rfl|rfl|rfl|rfl|rfl|rfl|rfl|rfl|rfl|rfl|rfl
         all_goals
          go_wp2;go_roundw
          case rel=>exact⟨k+1,by omega,by go_num,by rw[Aa ac];simp,Aa av,Aa az⟩
          case measure=>simp[intOf];omega
     . obtain rfl:k=30:=by omega
       have bq:Hid (wr.ownsRow M.heap.size 129 2 u1 30 (pvs farsL)):=Y;obtain⟨g2,c2,rfl,b5,bc⟩:=Ba Y (by omega);have bn:=Ab ((Prs.own (Aa ap)).block (I.block g1 bf));have a7:=Ab (Prs.own (Aa bq));have bv:=Ab ((Aa ax).trans (I.mono (by omega)));clear Y I;go_wp2;go_ret2;exact⟨g1,c1,g2,c2,rfl,by omega,by omega,Aa bn,Aa a7,Aa bv,by omega,bc⟩
theorem FH (b o F ap:Nat)(xs:List Nat)(w:World)(aa:xs.length=F)(Z:∀j,xs.getD j 0<256)(a4:F<=25000)(al:b<w.heap.size)(ae:Bytes w b o xs):
 Calls Tryz.prog 60 #[.slice (some ⟨b,o,none⟩) F ap] w fun e w'=>e=.returned (.string (text (rowB xs F)))/\Below w.heap.size w w':=by
 have av:=Ab ae;have ag:=Ab aa;have ak:=Ab Z;clear ae aa Z;go_enter Tryz.func60,Tryz.ntmps60
 go_wp2;go_loopw [9] (fun i wr=>∃q:Nat,q<=F/\i=.int .i64 q/\IsB wr w.heap.size (Lib.byteCells ((rowB xs q).map chr))/\Below w.heap.size w wr) (fun i _=>F-(intOf i).toNat)
 case atStart=>exact⟨0,VH _,rfl,IsB.new w,(Below.refl _ _).alloc (VB _) _⟩
 case round=>
  obtain⟨q,a3,rfl,G,E⟩:=hrel;have T:=Ab G;have O:=Ab E;have ao:=E.size
  by_cases ai:q<F
  . have c:=(E.cell (p:=⟨b,o+q,none⟩) al).trans (Aa av q (by rw[Aa ag];exact ai));have ah:=Aa ak q;have af:Hid (rowB xs (q+1)=rowB xs q++Al (xs.getD q 0) 8):=rfl;have aw:=Ab (Af xs q);generalize xs.getD q 0=x at*;clear G E;go_wp2;go_loopw [13] (fun i M=>∃k:Nat,k<=8/\i=.int .i64 k/\IsB M w.heap.size (Lib.byteCells ((rowB xs q++Al x k).map chr))/\Below w.heap.size w M) (fun i _=>8-(intOf i).toNat)
    case atStart=>exact⟨0,VH _,rfl,by simpa[Al]using Aa T,Aa O⟩
    case round=>
     obtain⟨k,a1,rfl,G,E⟩:=hrel;have ac:=Ab G;have U:=Ab E;clear G E
     by_cases az:k<8
     . have ar:(Lib.byteCells ((rowB xs q++Al x k).map chr)).length<=1000000:=by
        rw[Lib.byteCells_length,WL,VE,Aa aw,Ah];omega
       have au:Hid (Al x (k+1)=Al x k++ [x.testBit k]):=rfl;go_wp2_with fail
       refine(Wi _ _ _ _ (Aa ac) ar).mono ?_;rintro e w3 ⟨rfl,Y,I⟩;have ax:=Ab Y;have aj:=Ab ((Aa U).trans I);clear Y I;go_wp2;go_roundw
       case rel=>exact⟨k+1,by omega,by go_num,by rw[Aa au,<-VS,<-JB _ _ _ (Z5d x k ah)];exact Aa ax,Aa aj⟩
       case measure=>simp[intOf];omega
     . obtain rfl:k=8:=by omega
       go_wp2;go_roundw
       case rel=>exact⟨q+1,by omega,by go_num,by rw[Aa af];exact Aa ac,Aa U⟩
       case measure=>simp[intOf];omega
  . obtain rfl:q=F:=by omega
    clear G E;go_wp2_with fail
    refine(Us _ _ _ (Aa T) ao).mono ?_;rintro e a2 ⟨rfl,H⟩;have ay:=Ab ((Aa O).trans H);clear H;go_wp2;go_ret;exact⟨rfl,Aa ay⟩
theorem LX (a:Option Addr)(E F:Nat)(xs:List Nat)(w:World)(H:xs.length=E)(I:∀j,xs.getD j 0<256)(M:E<=25000)(G:BytesIn w a xs):
 Calls Tryz.prog 60 #[.slice a E F] w fun e w'=>e=.returned (.string (text (rowB xs E)))/\Below w.heap.size w w':=by
 rcases G with rfl|⟨b,o,rfl,hb,G⟩
 . obtain rfl:E=0:=by simp at H;omega
   exact FI a F w
 . exact FH b o E F xs w H I M hb G
end Go.Proofs.YtleocpdblhbimaaGreatDoor
