import Derived.Test.YtleocpdblhbimaaGreatDoorQ7
import Derived.Deep.WholeRow
import Derived.Laws.ResultCell
set_option linter.unusedSimpArgs false
namespace Go.Proofs.YtleocpdblhbimaaGreatDoor
set_option linter.unusedVariables false
set_option maxRecDepth 100000
def Vl (u:US):Prop:=∀x∈u.out,x<256
theorem Vl.same {u v:US}(h:Vl u)(e:v.out=u.out):Vl v:=fun x hx=>h x (by rw[<-e];exact hx)
theorem Vl.at {u:US}(h:Vl u)(j:Nat):u.out.getD j 0<256:=by
 by_cases hj:j<u.out.length
 . rw[List.getD,VR hj];exact h _ (WK hj)
 . rw[List.getD,WN (by omega)];exact(by decide:(0:Nat)<256)
theorem Dr (row:List Bool)(n:Nat)(u:US)(h:Vl u):Vl (uget row n u).2:=h.same (Eg row n u)
theorem Dq (l:List Int)(row:List Bool)(u:US)(h:Vl u):Vl (uplace l row u).2:=h.same (Ii l row u).1
theorem Xp (x:Int)(u:US)(h:Vl u):Vl (Ck x u):=h.same (Xq x u).2.1
theorem FQ (c:Nat)(u:US)(hc:c<256)(h:Vl u):Vl (Hy c u):=by
 unfold Hy
 split
 . split
   . exact h
   . intro x hx
     rcases WJ.1 hx with h1|h1
     . exact h x h1
     . rw[WQ.1 h1];exact hc
 . exact h
theorem Xs (row:List Bool):∀(k:Nat) (u:US),Vl u->Vl (ustore row k u)
 |0,u,h=>h
 |k+1,u,h=>by
  unfold ustore
  split
  . exact Xs row k _ (FQ _ _ (J8 row 8 u) (Dr _ _ _ h))
  . exact h
theorem V1 (d:Nat):∀(k:Nat) (u:US),Vl u->Vl (ucopy d k u)
 |0,u,h=>h
 |k+1,u,h=>by
  unfold ucopy
  split
  . exact V1 d k _ (FQ _ _ (h.at _) h)
  . exact h
theorem DF (row:List Bool)(u:US)(h:Vl u):Vl (Ey row u):=by
 have h0:Vl {u with p:=(u.p+7)/8*8}:=h
 have h1:Vl (Df row u).2:=by
  unfold Df;dsimp only
  split
  . exact Xp _ _ (Dr _ _ _ (Dr _ _ _ h0))
  . exact Dr _ _ _ (Dr _ _ _ h0)
 unfold Ey;dsimp only
 split
 . exact Xp _ _ h1
 . exact Xs _ _ _ h1
theorem KR (row:List Bool)(l:List Int)(u:US)(h:Vl u):Vl (Wp row l u).2:=by
 unfold Wp
 split
 . exact Dq _ _ _ h
 . split
   . exact Dq _ _ _ h
   . exact Dr _ _ _ (Dq _ _ _ h)
theorem RG (d k:Nat)(u:US)(h:Vl u):Vl (Sw d k u):=by
 unfold Sw
 split
 . exact h
 . split
   . exact h
   . exact V1 _ _ _ h
theorem AA (row:List Bool)(lb:List Int)(k:Nat)(u:US)(h:Vl u):Vl (Fu row lb k u):=by
 unfold Fu
 split
 . rename_i hk
   split
   . exact h
   . intro x hx
     rcases WJ.1 hx with h1|h1
     . exact h x h1
     . rw[WQ.1 h1];exact hk
 . split
   . exact h
   . split
     . exact Dr _ _ _ h
     . split
       . exact KR _ _ _ (Dr _ _ _ h)
       . exact RG _ _ _ (KR _ _ _ (Dr _ _ _ h))
theorem Wm (row:List Bool)(la lb:List Int):∀(f:Nat) (u:US),Vl u->Vl (Nf row la lb f u)
 |0,u,h=>by
  unfold Nf
  split
  . exact Dq _ _ _ h
  . exact Dq _ _ _ h
 |f+1,u,h=>by
  rw[Js]
  split
  . exact Dq _ _ _ h
  . split
    . exact Dq _ _ _ h
    . split
      . exact AA _ _ _ _ (Dq _ _ _ h)
      . exact Wm row la lb f _ (AA _ _ _ _ (Dq _ _ _ h))
theorem Wo (k:Nat)(u:US)(h:Vl u):Vl (Lv k u):=by
 unfold Lv
 split
 . exact h
 . exact h
theorem RF (row:List Bool)(k:Nat)(u:US)(hp:u.p<=row.length)(h:Vl u)(he:(Lu row k u).e=0):Vl (Lu row k u):=by
 unfold Lu at he ⊢
 split
 . exact Wo _ _ (DF _ _ h)
 . rename_i c0
   rw[if_neg c0]at he
   split
   . exact Wo _ _ (Wm _ _ _ _ _ h)
   . rename_i c1
     rw[if_neg c1]at he
     split
     . rename_i c2
       rw[if_pos c2]at he
       split
       . rename_i c3
         rw[if_pos c3]at he;exact absurd he c3
       . rename_i c3
         have e0:(Hc row u).2.e=0:=by omega
         obtain⟨A,C,v,hv⟩:∃A C v,Hc row u=((A,C),v):=⟨_,_,_,rfl⟩
         rw[hv]at e0 ⊢;obtain⟨m0,n0,c0,u1,u2,u3,us,S,L,hT⟩:=Gt hv e0;obtain⟨t1,t2,t3,t4⟩:=Ps hT hp;exact Wo _ _ (Wm _ _ _ _ _ (h.same t3))
     . exact h
theorem B0 (row:List Bool)(u:US)(hp:u.p<=row.length)(h:Vl u)(he:(Bv row u).2.e=0):Vl (Bv row u).2:=by
 unfold Bv at he ⊢
 split
 . exact Dr _ _ _ h
 . rename_i c
   rw[if_neg c]at he
   split
   . exact Dr _ _ _ (Dr _ _ _ h)
   . rename_i c2
     rw[if_neg c2]at he;exact RF _ _ _ (AD _ _ _ (AD _ _ _ hp)) (Dr _ _ _ (Dr _ _ _ h)) he
theorem Um (row:List Bool)(N:Nat)(hN:row.length=8*N):∀(F:Nat) (u:US),u.e=0->u.p<=row.length->u.out.length<=3000->Vl u->(Cr row F u).e=0->Vl (Cr row F u)
 |0,u,he,hp,ho,h,hz=>h
 |F+1,u,he,hp,ho,h,hz=>by
  rw[Cr]at hz ⊢
  by_cases c:(Bv row u).1=0/\(Bv row u).2.e=0
  . rw[if_pos c]at hz ⊢;obtain⟨a1,a2,a3,a4⟩:=Jt row N hN u he hp ho c.2;exact Um row N hN F _ c.2 a3 a4 (B0 row u hp h c.2) hz
  . rw[if_neg c]at hz ⊢;exact B0 row u hp h hz
theorem A8 (row:List Bool)(N:Nat)(hN:row.length=8*N)(h:(Db row).e=0)(j:Nat):(Db row).out.getD j 0<256:=
 (Um row N hN (row.length+1) US0 rfl (VK _) (VK _) (by intro x hx;cases hx) h).at j
end Go.Proofs.YtleocpdblhbimaaGreatDoor
namespace Go.Proofs.YtleocpdblhbimaaGreatDoor
open Go.RowKit
set_option linter.unusedVariables false
set_option maxRecDepth 100000
def tab (c:Nat->Nat):Array Value:=((List.range 256).map fun n=>Value.int .u32 ((c n:Nat):Int)).toArray
theorem Ga (c:Nat->Nat):(tab c).size=256:=by simp[tab]
theorem GQ (c:Nat->Nat){j:Nat}(h:j<256):(tab c)[j]? =some (.int .u32 ((c j:Nat):Int)):=by simp[tab,h]
theorem Z0l (c:Nat->Nat):(tab c).all (·.oneCell')=true:=by
 rw[Array.all_eq_true'];intro x hx;obtain⟨n,_,rfl⟩:∃n,n<256/\Value.int .u32 ((c n:Nat):Int)=x:=by simpa[tab]using hx
 rfl
def Tw (c:Nat->Nat)(j x:Nat):Nat->Nat:=fun n=>if n=j then x else c n
theorem Z0k (c:Nat->Nat)(j x:Nat):(tab c).setIfInBounds j (.int .u32 ((x:Nat):Int))=tab (Tw c j x):=by
 apply Array.ext_getElem?
 intro i;rw[Array.getElem?_setIfInBounds]
 by_cases h:i<256
 . rw[GQ _ h,Ga,GQ _ h]
   by_cases e:j=i
   . subst e;simp[Tw,h]
   . rw[if_neg e];unfold Tw;rw[if_neg (fun h=>e h.symm)]
 . have h1:∀f,(tab f)[i]? =none:=fun f=>by simp[Ga];omega
   rw[h1,h1,Ga]
   by_cases e:j=i
   . rw[if_pos e,if_neg (by omega)]
   . rw[if_neg e]
theorem GP {c d:Nat->Nat}(h:∀n,n<256->c n=d n):tab c=tab d:=by
 unfold tab
 congr 1
 apply YO
 intro n hn;rw[h n (by simpa using hn)]
def Tab (w:World)(b:Nat)(c:Nat->Nat):Prop:=w.heap[b]? =some (.cells (tab c) 174 (0,0))
theorem Tab.cell {w:World}{b:Nat}{c:Nat->Nat}(h:Tab w b c){j:Nat}(hj:j<256):w.cell? ⟨b,j,none⟩=some (.int .u32 ((c j:Nat):Int)):=by
 rw[cell_of_row w b j _ _ _ h];exact GQ c hj
theorem Tab.frozen {w:World}{b:Nat}{c:Nat->Nat}(h:Tab w b c)(j:Nat):w.frozen? ⟨b,j,none⟩=false:=frozen_of_row w b j _ _ h
theorem Tab.set {w:World}{b:Nat}{c:Nat->Nat}(h:Tab w b c)(j x:Nat):Tab (w.setCell ⟨b,j,none⟩ (.int .u32 ((x:Nat):Int))) b (Tw c j x):=by
 unfold Tab;rw[heap_setCell_same w b j _ _ _ h,Z0k]
theorem Tab.other {w:World}{b:Nat}{c:Nat->Nat}(h:Tab w b c){a:Addr}(hb:b≠a.block)(v:Value):Tab (w.setCell a v) b c:=by
 unfold Tab;rw[heap_setCell_other w a b v hb];exact h
theorem Tab.setRow {w:World}{b:Nat}{c:Nat->Nat}(h:Tab w b c)(d:Nat->Nat):Tab (w.setRow b (tab d)) b d:=setRow_heap w b _ _ _ _ h
theorem Tab.congr {w:World}{b:Nat}{c d:Nat->Nat}(h:Tab w b c)(e:∀n,n<256->c n=d n):Tab w b d:=by
 unfold Tab;rw[<-GP e];exact h
theorem Wn:(Tryz.prog.info? 174).map (·.size)=some 256:=by kernel_rfl
theorem S7:∀w:World,(zeroValue 174).run Tryz.prog w=.ok (.agg (tab (fun _=>0))) w:=(zero_of_info (n:=256) (by kernel_rfl)).1
theorem Mm {B:Nat}{a w:World}(h:Below B a w){g:Nat}(hg:B<=g)(cs:Array Value):Below B a (w.setRow g cs):=
 ⟨h.os,h.tape,h.output,by simp;exact h.size,fun k hk=>(Go.setRow_other w g k cs (by omega)).trans (h.block k hk)⟩
theorem QW {ops:Array Oper}{rest:List Oper}{o:Oper}{a:Act}{w:World}{Q:Exit->Act->World->Prop}(hgd:o.guard=none)(x:Operand)(ho:o.op=.load 174 x)
 (b:Nat) (c:Nat->Nat) (hx:a.eval x=.pointer (some ⟨b,0,none⟩)) (h:Tab w b c) (k:wpList Tryz.prog ops Q rest (a.put o.dst (.agg (tab c))) w):wpList Tryz.prog ops Q (o::rest) a w:=
 wpList_load_row hgd 174 x ho b hx _ _ _ _ h Tryz.underlying174 rfl (by rw[Ga];exact Wn) k
theorem Yr {ops:Array Oper}{rest:List Oper}{o:Oper}{a:Act}{w:World}{Q:Exit->Act->World->Prop}(hgd:o.guard=none)(x y:Operand)(ho:o.op=.store 174 x y)
 (b:Nat) (c d:Nat->Nat) (hx:a.eval x=.pointer (some ⟨b,0,none⟩)) (hy:a.eval y=.agg (tab d)) (h:Tab w b c) (k:wpList Tryz.prog ops Q rest (a.put o.dst undef) (w.setRow b (tab d))):wpList Tryz.prog ops Q (o::rest) a w:=
 wpList_store_row hgd 174 x y ho b _ hx hy _ _ h (by rw[Ga];exact Wn) (by rw[Ga,Ga]) (Z0l d) k
theorem Z59 {m:Nat}(h:m<4294967296):bits .and .u32 (m:Int) 1=((m%2:Nat):Int):=by
 have:=u32_and_nat m 1 h (by decide)
 rw[Nat.and_one_is_mod]at this;exact this
theorem Z5c {m:Nat}(h:m<4294967296):bits .xor .u32 ((m:Int)/2) 3988292384=((m/2^^^3988292384:Nat):Int):=by
 have:=u32_xor_nat (m/2) 3988292384 (by omega) (by decide)
 rw[<-this];rfl
theorem Su (n:Nat)(w:World)(hn:n<4294967296):
 Calls Tryz.prog 146 #[.int .u32 (n:Int)] w fun e w'=>e=.returned (.int .u32 (Hz 8 n:Nat))/\w'=w:=by
 go_enter Tryz.func146,Tryz.ntmps146
 go_wp2;go_loop [0,4] (fun t i=>∃k:Nat,k<=8/\i=.int .i64 k/\t=.int .u32 (Hz k n:Nat)) (fun _ i=>8-(intOf i).toNat)
 case atStart=>exact⟨0,VK _,rfl,rfl⟩
 case round=>
  obtain⟨k,hk,rfl,rfl⟩:=hrel
  by_cases hlt:k<8
  . have hb:=Qz k hn;have H:Hid (Hz (k+1) n=lft (Hz k n)):=Zy k n;generalize Hz k n=m at*
    by_cases e:m%2=1
    . have h1:(bits .and .u32 (m:Int) 1==1)=true:=by rw[Z59 hb,e];rfl
      have HX:=Ab (Z5c hb);have HL:Hid (lft m=m/2^^^3988292384):=Ab (by unfold lft;rw[if_pos e]);go_wp2;go_round
      case rel=>exact⟨k+1,by omega,by go_num,by rw[H.out,Aa HX,Aa HL]⟩
      case measure=>simp[intOf];omega
    . have h1:(bits .and .u32 (m:Int) 1==1)=false:=by rw[Z59 hb,show m%2=0 by omega];rfl
      have HL:Hid (lft m=m/2):=Ab (by unfold lft;rw[if_neg e]);go_wp2;go_round
      case rel=>exact⟨k+1,by omega,by go_num,by rw[H.out,Aa HL];rfl⟩
      case measure=>simp[intOf];omega
  . have e:k=8:=by omega
    subst e;go_wp2;go_ret
    trivial
def Yk (k:Nat):Nat->Nat:=fun n=>if n<k then Hz 8 n else 0
theorem BU (k:Nat):Tw (Yk k) k (Hz 8 k)=Yk (k+1):=by
 funext n
 unfold Tw Yk
 by_cases e:n=k
 . subst e;simp
 . rw[if_neg e]
   by_cases h:n<k
   . rw[if_pos h,if_pos (by omega)]
   . rw[if_neg h,if_neg (by omega)]
theorem BT:Yk 0=fun _=>0:=by funext n;simp[Yk]
theorem I1 (w:World):
 Calls Tryz.prog 110 #[] w fun e w'=>e=.returned (.agg (tab (Hz 8)))/\Below w.heap.size w w':=by
 have hz:=S7;go_enter Tryz.func110,Tryz.ntmps110
 go_wp2;have HR:Hid (Tab ((w.alloc (.cells (tab (fun _=>0)) 174)).alloc (.cells (tab (fun _=>0)) 174)) w.heap.size (fun _=>0)):=Ab ((Below.heap_alloc _ _ _ (by simp)).trans (heap_alloc_new _ _))
 have HM:Hid (Tab ((w.alloc (.cells (tab (fun _=>0)) 174)).alloc (.cells (tab (fun _=>0)) 174)) (w.heap.size+1) (Yk 0)):=Ab (by
  have:=heap_alloc_new (w.alloc (.cells (tab (fun _=>0)) 174)) (.cells (tab (fun _=>0)) 174)
  rw[World.size_alloc]at this;rw[BT];exact this)
 have HB:=Ab (((Below.refl w.heap.size w).alloc (VC _) (.cells (tab (fun _=>0)) 174)).alloc (by simp) (.cells (tab (fun _=>0)) 174));go_loopw [3] (fun i wr=>∃k:Nat,k<=256/\i=.int .u32 (k:Int)/\Tab wr w.heap.size (fun _=>0)/\Tab wr (w.heap.size+1) (Yk k)/\Below w.heap.size w wr) (fun i _=>256-(intOf i).toNat)
 case atStart=>exact⟨0,by omega,rfl,Aa HR,Aa HM,Aa HB⟩
 case round=>
  obtain⟨k,hk,rfl,hR,hM,hB⟩:=hrel;have HR1:=Ab hR;have HM1:=Ab hM;have HB1:=Ab hB
  by_cases hlt:k<256
  . have c1:=hM.cell (j:=k) hlt;have f1:=hM.frozen k;clear hR hM hB HR HM HB;go_wp2_with (go_at_call 146;refine(Su _ _ (by omega)).mono ?_;rintro e w' ⟨rfl,rfl⟩)
    go_roundw
    case rel=>exact⟨k+1,by omega,by go_num,(Aa HR1).other (by simp) _,by rw[<-BU];exact(Aa HM1).set _ _,(Aa HB1).setCell (by simp) _⟩
    case measure=>simp[intOf];omega
  . obtain rfl:k=256:=by omega
    have HX:=Ab ((Aa HM1).congr (d:=Hz 8) (fun n hn=>by unfold Yk;rw[if_pos hn]));go_wp2_with (first|(refine QW rfl (.tmp 1) rfl _ (Hz 8) rfl (Aa HX) ?_)|(refine Yr rfl (.tmp 0) (.tmp 11) rfl _ _ (Hz 8) rfl rfl (Aa HR1) ?_))
    have HY:=Ab ((Aa HR1).setRow (Hz 8));refine bodyPost_ret (v:=.agg (tab (Hz 8))) ?_ rfl ⟨rfl,Mm (Aa HB1) (by omega) _⟩;exact results_cell_row rfl _ _ _ _ _ _ _ rfl (Aa HY) Tryz.underlying174 rfl (by rw[Ga];exact Wn)
end Go.Proofs.YtleocpdblhbimaaGreatDoor
