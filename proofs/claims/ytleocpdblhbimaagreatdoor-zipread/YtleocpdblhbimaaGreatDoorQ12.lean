import Derived.Deep.WholeRow
import Derived.Laws.ResultCell
import Derived.Test.YtleocpdblhbimaaGreatDoorQ11
import Derived.Test.YtleocpdblhbimaaGreatDoorQ9
set_option linter.unusedSimpArgs false
set_option linter.unusedVariables false
set_option maxRecDepth 100000
set_option maxHeartbeats 2000000
namespace Go.Proofs.YtleocpdblhbimaaGreatDoor
open Go.RowKit
def tab (c:Nat->Nat):Array Value:=((List.range 256).map fun n=>Value.int .u32 ((c n:Nat):Int)).toArray
theorem Gp (c:Nat->Nat):(tab c).size=256:=by simp[tab]
theorem LI (c:Nat->Nat){j:Nat}(E:j<256):(tab c)[j]? =some (.int .u32 ((c j:Nat):Int)):=by simp[tab,E]
theorem Z3j (c:Nat->Nat):(tab c).all (·.oneCell')=true:=by
 rw[Array.all_eq_true'];intro x E;obtain⟨n,_,rfl⟩:∃n,n<256/\Value.int .u32 ((c n:Nat):Int)=x:=by simpa[tab]using E
 rfl
def Ur (c:Nat->Nat)(j x:Nat):Nat->Nat:=fun n=>if n=j then x else c n
theorem Z3i (c:Nat->Nat)(j x:Nat):(tab c).setIfInBounds j (.int .u32 ((x:Nat):Int))=tab (Ur c j x):=by
 apply Array.ext_getElem?
 intro i;rw[Array.getElem?_setIfInBounds]
 by_cases h:i<256
 . rw[LI _ h,Gp,LI _ h]
   by_cases e:j=i
   . subst e;simp[Ur,h]
   . rw[if_neg e];unfold Ur;rw[if_neg (fun h=>e h.symm)]
 . have E:∀f,(tab f)[i]? =none:=fun f=>by simp[Gp];omega
   rw[E,E,Gp]
   by_cases e:j=i
   . rw[if_pos e,if_neg (by omega)]
   . rw[if_neg e]
theorem LH {c d:Nat->Nat}(E:∀n,n<256->c n=d n):tab c=tab d:=by
 unfold tab
 congr 1
 apply YR
 intro n hn;rw[E n (by simpa using hn)]
def Tab (w:World)(b:Nat)(c:Nat->Nat):Prop:=w.heap[b]? =some (.cells (tab c) 174 (0,0))
theorem Tab.cell {w:World}{b:Nat}{c:Nat->Nat}(E:Tab w b c){j:Nat}(F:j<256):w.cell? ⟨b,j,none⟩=some (.int .u32 ((c j:Nat):Int)):=by
 rw[cell_of_row w b j _ _ _ E];exact LI c F
theorem Tab.frozen {w:World}{b:Nat}{c:Nat->Nat}(E:Tab w b c)(j:Nat):w.frozen? ⟨b,j,none⟩=false:=frozen_of_row w b j _ _ E
theorem Tab.set {w:World}{b:Nat}{c:Nat->Nat}(E:Tab w b c)(j x:Nat):Tab (w.setCell ⟨b,j,none⟩ (.int .u32 ((x:Nat):Int))) b (Ur c j x):=by
 unfold Tab;rw[heap_setCell_same w b j _ _ _ E,Z3i]
theorem Tab.other {w:World}{b:Nat}{c:Nat->Nat}(F:Tab w b c){a:Addr}(E:b≠a.block)(v:Value):Tab (w.setCell a v) b c:=by
 unfold Tab;rw[heap_setCell_other w a b v E];exact F
theorem Tab.setRow {w:World}{b:Nat}{c:Nat->Nat}(E:Tab w b c)(d:Nat->Nat):Tab (w.setRow b (tab d)) b d:=setRow_heap w b _ _ _ _ E
theorem Tab.congr {w:World}{b:Nat}{c d:Nat->Nat}(E:Tab w b c)(e:∀n,n<256->c n=d n):Tab w b d:=by
 unfold Tab;rw[<-LH e];exact E
theorem Xz:(Tryz.prog.info? 174).map (·.size)=some 256:=by kernel_rfl
theorem AO:∀w:World,(zeroValue 174).run Tryz.prog w=.ok (.agg (tab (fun _=>0))) w:=(zero_of_info (n:=256) (by kernel_rfl)).1
theorem Mu {B:Nat}{a w:World}(E:Below B a w){F:Nat}(I:B<=F)(G:Array Value):Below B a (w.setRow F G):=
 ⟨E.os,E.tape,E.output,by simp;exact E.size,fun k H=>(Go.setRow_other w F k G (by omega)).trans (E.block k H)⟩
theorem Z13 {E:Array Oper}{F:List Oper}{o:Oper}{a:Act}{w:World}{Q:Exit->Act->World->Prop}(M:o.guard=none)(x:Operand)(G:o.op=.load 174 x)
 (b:Nat) (c:Nat->Nat) (I:a.eval x=.pointer (some ⟨b,0,none⟩)) (H:Tab w b c) (k:wpList Tryz.prog E Q F (a.put o.dst (.agg (tab c))) w):wpList Tryz.prog E Q (o::F) a w:=
 wpList_load_row M 174 x G b I _ _ _ _ H Tryz.underlying174 rfl (by rw[Gp];exact Xz) k
theorem A8 {E:Array Oper}{F:List Oper}{o:Oper}{a:Act}{w:World}{Q:Exit->Act->World->Prop}(O:o.guard=none)(x y:Operand)(G:o.op=.store 174 x y)
 (b:Nat) (c d:Nat->Nat) (M:a.eval x=.pointer (some ⟨b,0,none⟩)) (I:a.eval y=.agg (tab d)) (H:Tab w b c) (k:wpList Tryz.prog E Q F (a.put o.dst undef) (w.setRow b (tab d))):wpList Tryz.prog E Q (o::F) a w:=
 wpList_store_row O 174 x y G b _ M I _ _ H (by rw[Gp];exact Xz) (by rw[Gp,Gp]) (Z3j d) k
theorem Z8g {m:Nat}(E:m<4294967296):bits .and .u32 (m:Int) 1=((m%2:Nat):Int):=by
 have:=u32_and_nat m 1 E (by decide)
 rw[Nat.and_one_is_mod]at this;exact this
theorem Z8k {m:Nat}(E:m<4294967296):bits .xor .u32 ((m:Int)/2) 3988292384=((m/2^^^3988292384:Nat):Int):=by
 have:=u32_xor_nat (m/2) 3988292384 (by omega) (by decide)
 rw[<-this];rfl
theorem Tn (n:Nat)(w:World)(I:n<4294967296):
 Calls Tryz.prog 146 #[.int .u32 (n:Int)] w fun e w'=>e=.returned (.int .u32 (Ik 8 n:Nat))/\w'=w:=by
 go_enter Tryz.func146,Tryz.ntmps146
 go_wp2;go_loop [0,4] (fun t i=>∃k:Nat,k<=8/\i=.int .i64 k/\t=.int .u32 (Ik k n:Nat)) (fun _ i=>8-(intOf i).toNat)
 case atStart=>exact⟨0,VH _,rfl,rfl⟩
 case round=>
  obtain⟨k,M,rfl,rfl⟩:=hrel
  by_cases O:k<8
  . have hb:=Rl k I;have H:Hid (Ik (k+1) n=lft (Ik k n)):=F4 k n;generalize Ik k n=m at*
    by_cases e:m%2=1
    . have G:(bits .and .u32 (m:Int) 1==1)=true:=by rw[Z8g hb,e];rfl
      have F:=Ab (Z8k hb);have E:Hid (lft m=m/2^^^3988292384):=Ab (by unfold lft;rw[if_pos e]);go_wp2;go_round
      case rel=>exact⟨k+1,by omega,by go_num,by rw[H.out,Aa F,Aa E]⟩
      case measure=>simp[intOf];omega
    . have G:(bits .and .u32 (m:Int) 1==1)=false:=by rw[Z8g hb,show m%2=0 by omega];rfl
      have E:Hid (lft m=m/2):=Ab (by unfold lft;rw[if_neg e]);go_wp2;go_round
      case rel=>exact⟨k+1,by omega,by go_num,by rw[H.out,Aa E];rfl⟩
      case measure=>simp[intOf];omega
  . have e:k=8:=by omega
    subst e;go_wp2;go_ret
    trivial
def Zz (k:Nat):Nat->Nat:=fun n=>if n<k then Ik 8 n else 0
theorem ES (k:Nat):Ur (Zz k) k (Ik 8 k)=Zz (k+1):=by
 funext n
 unfold Ur Zz
 by_cases e:n=k
 . subst e;simp
 . rw[if_neg e]
   by_cases h:n<k
   . rw[if_pos h,if_pos (by omega)]
   . rw[if_neg h,if_neg (by omega)]
theorem ER:Zz 0=fun _=>0:=by funext n;simp[Zz]
theorem P9 (w:World):
 Calls Tryz.prog 110 #[] w fun e w'=>e=.returned (.agg (tab (Ik 8)))/\Below w.heap.size w w':=by
 have ac:=AO;go_enter Tryz.func110,Tryz.ntmps110
 go_wp2;have U:Hid (Tab ((w.alloc (.cells (tab (fun _=>0)) 174)).alloc (.cells (tab (fun _=>0)) 174)) w.heap.size (fun _=>0)):=Ab ((Below.heap_alloc _ _ _ (by simp)).trans (heap_alloc_new _ _))
 have M:Hid (Tab ((w.alloc (.cells (tab (fun _=>0)) 174)).alloc (.cells (tab (fun _=>0)) 174)) (w.heap.size+1) (Zz 0)):=Ab (by
  have:=heap_alloc_new (w.alloc (.cells (tab (fun _=>0)) 174)) (.cells (tab (fun _=>0)) 174)
  rw[World.size_alloc]at this;rw[ER];exact this)
 have T:=Ab (((Below.refl w.heap.size w).alloc (VB _) (.cells (tab (fun _=>0)) 174)).alloc (by simp) (.cells (tab (fun _=>0)) 174));go_loopw [3] (fun i wr=>∃k:Nat,k<=256/\i=.int .u32 (k:Int)/\Tab wr w.heap.size (fun _=>0)/\Tab wr (w.heap.size+1) (Zz k)/\Below w.heap.size w wr) (fun i _=>256-(intOf i).toNat)
 case atStart=>exact⟨0,by omega,rfl,Aa U,Aa M,Aa T⟩
 case round=>
  obtain⟨k,ae,rfl,I,E,H⟩:=hrel;have F:=Ab I;have O:=Ab E;have G:=Ab H
  by_cases aa:k<256
  . have c1:=E.cell (j:=k) aa;have f1:=E.frozen k;clear I E H U M T;go_wp2_with (go_at_call 146;refine(Tn _ _ (by omega)).mono ?_;rintro e w' ⟨rfl,rfl⟩)
    go_roundw
    case rel=>exact⟨k+1,by omega,by go_num,(Aa F).other (by simp) _,by rw[<-ES];exact(Aa O).set _ _,(Aa G).setCell (by simp) _⟩
    case measure=>simp[intOf];omega
  . obtain rfl:k=256:=by omega
    have Y:=Ab ((Aa O).congr (d:=Ik 8) (fun n hn=>by unfold Zz;rw[if_pos hn]));go_wp2_with (first|(refine Z13 rfl (.tmp 1) rfl _ (Ik 8) rfl (Aa Y) ?_)|(refine A8 rfl (.tmp 0) (.tmp 11) rfl _ _ (Ik 8) rfl rfl (Aa F) ?_))
    have Z:=Ab ((Aa F).setRow (Ik 8));refine bodyPost_ret (v:=.agg (tab (Ik 8))) ?_ rfl ⟨rfl,Mu (Aa G) (by omega) _⟩;exact results_cell_row rfl _ _ _ _ _ _ _ rfl (Aa Z) Tryz.underlying174 rfl (by rw[Gp];exact Xz)
theorem DS {w:World}{a:Option Addr}{bs:List Nat}(E:BytesIn w a bs){j:Nat}(F:j<bs.length):∃b o,a=some ⟨b,o,none⟩/\b<w.heap.size/\w.cell? ⟨b,o+j,none⟩=some (.int .u8 ((bs.getD j 0:Nat):Int)):=by
 rcases E with E|⟨b,o,H,G,I⟩
 . subst E;simp at F
 . exact⟨b,o,H,G,I j F⟩
theorem Z7h {n:Nat}(E:n<4294967296):bits .xor .u32 IntKind.u32.max (n:Int)=((n^^^4294967295:Nat):Int):=by
 have:=u32_xor_nat 4294967295 n (by decide) E
 rw[Nat.xor_comm]at this;exact this
theorem Z4p {n x:Nat}(G:n<4294967296)(E:x<256):bits .xor .u8 ((n:Int)%256) (x:Int)=(((n^^^x)%256:Nat):Int):=by
 have h:=u8_xor_nat (n%256) x (Nat.mod_lt _ (by decide)) E;have e:((n%256:Nat):Int)=(n:Int)%256:=rfl;rw[e]at h;rw[h];have F:(n^^^x)%2^8=n%2^8^^^x%2^8:=Nat.xor_mod_two_pow;rw[show (256:Nat)=2^8 from rfl,F,ZJ (a:=x) (by simpa using E)]
theorem Z1h {n m:Nat}(F:n<4294967296)(E:m<4294967296):bits .xor .u32 (m:Int) ((n:Int)/256)=((m^^^n/256:Nat):Int):=u32_xor_nat m (n/256) E (by omega)
theorem Z5a {n x:Nat}(F:x<256):Ik 8 ((n^^^x)%256)^^^n/256=Z1x n x:=by
 unfold Z1x;rw[FX (n^^^x)]
 congr 1
 have E:(n^^^x)/2^8=n/2^8^^^x/2^8:=by simpa[Nat.shiftRight_eq_div_pow]using Nat.shiftRight_xor_distrib (a:=n) (b:=x) (i:=8)
 rw[show (256:Nat)=2^8 from rfl,E,Nat.div_eq_of_lt (a:=x) (by simpa using F),Nat.xor_zero]
theorem Zy {bs:List Nat}{k:Nat}(E:k<bs.length):bs.take (k+1)=bs.take k++ [bs.getD k 0]:=by
 rw[XM];simp[List.getD,E]
theorem Z79 (p:Nat)(a:Option Addr)(n ai:Nat)(bs:List Nat)(w:World)(U:bs.length=n)(az:n<=12000)(H:p<4294967296)(Z:BytesIn w a bs)(Y:∀j,bs.getD j 0<256):
 Calls Tryz.prog 75 #[.int .u32 (p:Int),.slice a n ai] w fun e w'=>e=.returned (.tuple #[.int .u32 (crcN p bs:Nat),.int .i64 0])/\Below w.heap.size w w':=by
 have ax:=AO;have h:¬(12000:Int)<(n:Int):=by omega
 have ao:=Ab Z;have T:=Ab Y;have ae:=Ab U;clear Z Y U;go_enter Tryz.func75,Tryz.ntmps75
 go_wp2_with fail
 refine(P9 w).mono ?_;rintro e E ⟨rfl,ac⟩;have F:=Ab ac;clear ac;have I:Hid (Tab (E.alloc (.cells (tab (fun _=>0)) 174)) E.heap.size (fun _=>0)):=Ab (heap_alloc_new _ _);go_wp2_with (refine A8 rfl (.tmp 6) (.tmp 13) rfl _ _ (Ik 8) rfl rfl (Aa I) ?_)
 have aa:=Ab ((Aa I).setRow (Ik 8));have ag:Hid (Below w.heap.size w ((E.alloc (.cells (tab (fun _=>0)) 174)).setRow E.heap.size (tab (Ik 8)))):=Ab (Mu ((Aa F).alloc (Aa F).size _) (Aa F).size _);have ah:=Ab (Z7h H);rw[Aa ah];go_loopw [7,18] (fun r i wr=>∃k:Nat,k<=n/\i=.int .i64 (k:Int)/\r=.int .u32 (Sn (p^^^4294967295) (bs.take k):Nat)/\Hid (Tab wr E.heap.size (Ik 8)/\Below w.heap.size w wr)) (fun _ i _=>n-(intOf i).toNat)
 case atStart=>exact⟨0,by omega,rfl,rfl,Ab ⟨Aa aa,Aa ag⟩⟩
 case round=>
  obtain⟨k,ay,rfl,rfl,G⟩:=hrel
  by_cases aj:k<n
  . have M:k<bs.length:=by rw[Aa ae];exact aj
    obtain⟨b,o,rfl,hb,hc⟩:=DS (Aa ao) M;have c0:=((Aa G).2.cell (p:=⟨b,o+k,none⟩) hb).trans hc;have af:=Aa T k
    have hr:Sn (p^^^4294967295) (bs.take k)<4294967296:=Sl _ _ (fun y O=>by
     obtain⟨i,hi,rfl⟩:=XI O;have:=Aa T i
     rw[VL]at hi;rw[YN];rw[List.getD,VP (by omega)]at this;exact this) (E5 H)
    have ak:Hid (Sn (p^^^4294967295) (bs.take (k+1))=Z1x (Sn (p^^^4294967295) (bs.take k)) (bs.getD k 0)):=Ab (by rw[Zy M,N7]);generalize Sn (p^^^4294967295) (bs.take k)=r at*;generalize bs.getD k 0=x at*;have hi:=Z4p hr af;have av:(r^^^x)%256<256:=Nat.mod_lt _ (by decide);have c1:=(Aa G).1.cell av;have al:=Ab (Z5a (n:=r) af);have ar:=Rl 8 (show (r^^^x)%256<4294967296 by omega);have aw:=Ab (Z1h hr ar);generalize (r^^^x)%256=q at*;clear hc hb M aa ag I F;go_wp2;go_roundw
    case rel=>exact⟨k+1,by omega,by go_num,by rw[Aa aw,Aa al,Aa ak],G⟩
    case measure=>simp[intOf];omega
  . have e:k=n:=by omega
    subst e;have au:Hid (Sn (p^^^4294967295) (bs.take k)^^^4294967295=crcN p bs):=Ab (by rw[VV (by rw[Aa ae];exact VB _)];rfl)
    have hr:Sn (p^^^4294967295) (bs.take k)<4294967296:=Sl _ _ (fun y O=>by
     obtain⟨i,hi,rfl⟩:=XI O;have:=Aa T i
     rw[VL]at hi;rw[YN];rw[List.getD,VP (by omega)]at this;exact this) (E5 H)
    have ap:=Ab (Z7h hr);clear hr;go_wp2;go_ret2;exact⟨by rw[Aa ap,Aa au];rfl,(Aa G).2⟩
theorem Og {w:World}{G:Array Oper}{H:List Oper}{o:Oper}{a:Act}{Q:Exit->Act->World->Prop}(af:o.guard=none)(s x:Operand)
 (I:o.op=.call {callee:=.builtin .append,args:= #[s,x],argTypes:= #[23,23]}) (E:Nat) (v:Value) (xs ys:List Nat) (Y:a.eval s=v) (aa:w.ownsRow E 5 1 v xs.length (u8s xs)) (F:Option Addr) (m c:Nat) (ac:a.eval x=.slice F m c) (U:ys.length=m) (Z:PkIn w F c ys) (O:xs.length+m<=140737488355328) (ae:E<=w.heap.size)
 (T:∀v' w',w'.ownsRow E 5 1 v' (xs.length+ys.length) (u8s xs++u8s ys)->w.grownBy w' v.ownBlock->wpList Tryz.prog G Q H (a.put o.dst v') w'):wpList Tryz.prog G Q (o::H) a w:=by
 refine wpList_plain af fun K hK=> ?_
 obtain⟨v',w',hr,M,ag⟩:=Ll w o.type E v xs ys aa F m c U Z O ae;unfold Oper.wp execOp;simp only[I,resolve,invoke,builtin,Sem.run_bind,Sem.run_pure,Result.andThen_ok,ZL,WQ,ZE,Y,ac,hr];exact hK _ _ (T v' w' M ag)
theorem AQ (a:Option Addr)(n H:Nat)(bs:List Nat)(w:World)(F:bs.length=n)(T:n<=12000)(I:BytesIn w a bs)(G:∀j,bs.getD j 0<256):
 Calls Tryz.prog 53 #[.slice a n H] w fun e w'=>e=.returned (.int .u32 (crcN 0 bs:Nat))/\Below w.heap.size w w':=by
 have M:=Ab (Z79 0 a n H bs w F T (by decide) I G);clear F I G;go_enter Tryz.func53,Tryz.ntmps53
 go_wp2_with fail
 refine(Aa M).mono ?_;rintro e U ⟨rfl,E⟩;have O:=Ab E;clear E;go_wp2;go_ret;exact⟨rfl,Aa O⟩
def Unp (w:World)(m:Nat)(pk:List Nat)(e:Ending)(w':World):Prop:=
 Below w.heap.size w w'/\((unpF m pk=none/\∃a l c,e=.returned (.tuple #[.slice a l c,.bool false]))\/ (∃ys,unpF m pk=some ys/\ys.length<=12000/\(∀x∈ys,x<256)/\∃a c,e=.returned (.tuple #[.slice a ys.length c,.bool true])/\ys.length<=c/\PkIn w' a c ys/\∀g o,a=some ⟨g,o,none⟩->ys≠ []->w.heap.size<=g))
theorem Zk (m n c:Nat)(a:Option Addr)(pk:List Nat)(w:World)(M:pk.length=n)(bh:n<=12000)(Z:PkIn w a c pk)(T:∀x∈pk,x<256)(a4:Z5u\/m≠8):
 Calls Tryz.prog 128 #[.int .u32 (m:Int),.slice a n c] w fun e w'=>Unp w m pk e w':=by
 by_cases ax:m=0
 . subst ax;have F:unpF 0 pk=some pk:=rfl;have bc:=Ab Z;have ai:=Ab F;have bf:=Ab T;have a9:=Ab M;clear Z F T M;go_enter Tryz.func128,Tryz.ntmps128
   go_wp2_with (at_builtin;refine Og rfl _ _ rfl w.heap.size (.slice none 0 0) [] pk rfl (World.ownsRow_nil _ _ _ _) a n c rfl (Aa a9) (Aa bc) (by simp;omega) (VB _) ?_)
   intro v' w' a8 a2;have a5:w'.ownsRow w.heap.size 5 1 v' pk.length (u8s pk):=by simpa using a8
   obtain⟨I,H,rfl,ae,Y,al,O⟩:=Ve a5;have G:Hid (Unp w 0 pk (.returned (.tuple #[.slice I pk.length H,.bool true])) w'):=Ab ⟨(Below.refl w.heap.size w).grown a2 (VB _) (fun g e=>by cases e),.inr ⟨pk,Aa ai,by rw[Aa a9];exact bh,Aa bf,I,H,rfl,Y,ae,fun g o e _=>O g o e⟩⟩;clear a8 a2 a5 ae Y al O;go_wp2;go_ret2;exact Aa G
 . by_cases a6:m=8
   . subst a6;have a1:Z5u:=by rcases a4 with h|h;exact h;exact absurd rfl h
     clear ax a4;have ar:=Er T;have F:unpF 8 pk=if pk.length<=6000/\(Dk (rowB pk pk.length)).e=0/\((Dk (rowB pk pk.length)).p+7)/8=pk.length then some (Dk (rowB pk pk.length)).out else none:=rfl
     rw[M]at F
     by_cases av:n<=6000
     . have ag:=Ab (a1.1 a n c pk w M av Z.1 ar);have ao:=H9 (rowB pk n) n (Af pk n);have au:(Dk (rowB pk n)).e=0->(Dk (rowB pk n)).out.length<=12000:=fun e=>by have:=Rn (rowB pk n) n (Af pk n) e;omega
       obtain⟨U,a7⟩:=exq (Dk (rowB pk n));unfold Z8h at ag;rw[a7]at ag F ao au;have bg:=Ab au;have ai:=Ab F;have bb:=Ab ao;clear M Z T ar F a7 ao au;go_enter Tryz.func128,Tryz.ntmps128
       go_wp2_with fail
       refine(Aa ag).mono ?_;rintro e aj ⟨ac,(⟨e0,ov,kv,rfl,aw,ay⟩|⟨e0,rfl⟩)⟩
       . obtain⟨I,H,rfl,ae,Y,al,O⟩:=Ve aw;obtain⟨bi,bj,rfl⟩:=An ay;have ap:∀x∈U.out,x<256:=Yf (Aa bb e0);have ba:=Aa bg e0;obtain⟨L,aa⟩:=exq (U.out.length);rw[aa]at ba;obtain⟨bk,az⟩:=exq (U.ks.length);obtain⟨P,af⟩:=exq ((U.p+7)/8);rw[aa,az,af]
         by_cases ak:P=n
         . have G:Hid (Unp w 8 pk (.returned (.tuple #[.slice I L H,.bool true])) aj):=Ab ⟨ac,.inr ⟨U.out,by rw[Aa ai,if_pos ⟨av,e0,by rw[af];exact ak⟩],by rw[aa];exact ba,ap,I,H,by rw[aa],Y,ae,fun g o e _=>Nat.le_of_succ_le (O g o e)⟩⟩;have bd:((P:Int)==(n:Int))=true:=by rw[beq_iff_eq];omega
           clear ac aw ay ae Y al O ap aa az af ak e0;go_wp2;go_ret2;exact Aa G
         . have G:Hid (Unp w 8 pk (.returned (.tuple #[.slice I L H,.bool false])) aj):=Ab ⟨ac,.inl ⟨by rw[Aa ai,if_neg (by intro ah;exact ak (af.symm.trans ah.2.2))],I,L,H,rfl⟩⟩;have bd:((P:Int)==(n:Int))=false:=by rw[beq_eq_false_iff_ne];omega
           clear ac aw ay ae Y al O ap aa az af ak e0;go_wp2;go_ret2;exact Aa G
       . have G:Hid (Unp w 8 pk (.returned (.tuple #[.slice none 0 0,.bool false])) aj):=Ab ⟨ac,.inl ⟨by rw[Aa ai,if_neg (by intro ah;exact e0 ah.2.1)],none,0,0,rfl⟩⟩;obtain⟨E,a3⟩:=exq (U.e);rw[a3]at e0 ⊢;have bn:(E==0)=false:=by rw[beq_eq_false_iff_ne];exact e0
         clear ac a3 e0;go_wp2;go_ret2;exact Aa G
     . have ag:=Ab (a1.2 a n c w (by omega) (by omega));have G:Hid (Unp w 8 pk (.returned (.tuple #[.slice none 0 0,.bool false])) w):=Ab ⟨Below.refl _ _,.inl ⟨by rw[F,if_neg (by intro ah;exact av ah.1)],none,0,0,rfl⟩⟩;clear M Z T ar F;go_enter Tryz.func128,Tryz.ntmps128
       go_wp2_with fail
       refine(Aa ag).mono ?_;rintro e aj ⟨rfl,rfl⟩;go_wp2;go_ret2;exact Aa G
   . have F:unpF m pk=none:=by unfold unpF;rw[if_neg ax,if_neg a6]
     have G:Hid (Unp w m pk (.returned (.tuple #[.slice none 0 0,.bool false])) w):=Ab ⟨Below.refl _ _,.inl ⟨F,none,0,0,rfl⟩⟩;have bm:((m:Int)==0)=false:=by rw[beq_eq_false_iff_ne];omega
     have bo:((m:Int)==8)=false:=by rw[beq_eq_false_iff_ne];omega
     clear M Z T F;go_enter Tryz.func128,Tryz.ntmps128
     go_wp2;go_ret2;exact Aa G
end Go.Proofs.YtleocpdblhbimaaGreatDoor
