import Derived.Test.YtleocpdblhbimaaGreatDoorQ12
import Derived.Laws.BitsAllLaws
import Derived.Deep.WholeRow
import Derived.Laws.ResultCell
import Derived.Test.YtleocpdblhbimaaGreatDoorQ10
set_option linter.unusedSimpArgs false
set_option maxHeartbeats 2000000
namespace Go.Proofs.YtleocpdblhbimaaGreatDoor
open Go.RowKit
set_option linter.unusedVariables false
set_option maxRecDepth 100000
theorem Vf:∀(l:List Nat) (y:Nat),Ak (l++ [y])=Ak l+256^l.length*y
 | [],y=>by simp[Ak]
 |x::r,y=>by
  rw[XL,Ak,Vf r y,Ak,VJ,XC,Nat.mul_add,WT,<-XY,YF 256 (256^r.length)]
theorem Z3s (y k:Nat)(F:k<=3)(M:y<256)(W:World):(Op.shift .shl .u32 (y:Int) .i64 (IntKind.i64.wrap (8*(k:Int)))).run Tryz.prog W=.ok (.int .u32 ((256^k*y:Nat):Int)) W:=by
 have e:IntKind.i64.wrap (8*(k:Int))=((8*k:Nat):Int):=by
  simp[IntKind.wrap,IntKind.bits,IntKind.signed]
  omega
 rw[e];have I:(256:Nat)^k=2^(8*k):=by rw[Nat.pow_mul]
 have G:256^k<=256^3:=VO (by decide) F;have hm:256^k*y<=256^3*255:=Nat.mul_le_mul G (by omega)
 have E:IntKind.u32.wrap ((y:Int)*2^min (8*k) 32)=((256^k*y:Nat):Int):=by
  rw[YP (by omega)];have H:(y:Int)*2^(8*k)=((256^k*y:Nat):Int):=by rw[I];push_cast;rw[Int.mul_comm]
  rw[H,IntKind.wrap_u32'];have:(256:Nat)^3=16777216:=by decide
  omega
 unfold Op.shift;rw[if_neg (by omega),WM];show Result.ok (Value.int .u32 (IntKind.u32.wrap ((y:Int)*2^min (8*k) 32))) W=_
 rw[E]
theorem Z6h (m k y:Nat)(E:m<256^k)(F:k<=3)(O:y<256):bits .or .u32 (m:Int) ((256^k*y:Nat):Int)=((m+256^k*y:Nat):Int):=by
 have G:256^k<=256^3:=VO (by decide) F;have I:(256:Nat)^3=16777216:=by decide
 have M:256^k*y<=256^3*255:=Nat.mul_le_mul G (by omega);rw[u32_or_nat _ _ (by omega) (by omega)];have H:(256:Nat)^k=2^(8*k):=by rw[Nat.pow_mul]
 rw[H]at E ⊢;have:=Nat.two_pow_add_eq_or_of_lt (i:=8*k) (b:=m) E y
 rw[Nat.or_comm,<-this,Nat.add_comm]
theorem Et (b p E n H:Nat)(a:Option Addr)(bs:List Nat)(w:World)(aw:w.heap[b]? =some (.cells #[.slice a n H,.int .i64 (p:Int)] 116 (0,0)))(U:p<=n)(I:ZRow w b a n H bs)(a6:E<=4):
 Calls Tryz.prog 100 #[.pointer (some ⟨b,0,none⟩),.int .u32 (E:Int)] w fun e w'=>(n<p+E/\e=Z31/\ZT w b (.slice a n H) p w')\/ (p+E<=n/\e=.returned (.int .u32 (Ak ((bs.drop p).take E):Nat))/\ZT w b (.slice a n H) (p+E) w'):=by
 have ao:=Ab (Dv b p E n H a bs w aw U I (by omega));have ac:∀x∈(bs.drop p).take E,x<256:=fun x ab=>I.val x (VW (VR ab))
 have hl:p+E<=n->((bs.drop p).take E).length=E:=fun h=>by rw[VL,VQ,I.len];omega
 obtain⟨xs,au⟩:=exq ((bs.drop p).take E);rw[au]at ao ac hl ⊢;have aq:=Ab ac;have a1:=Ab hl;have ax:=Ab I;clear aw I ac hl au U;go_enter Tryz.func100,Tryz.ntmps100
 go_wp2_with fail
 refine(Aa ao).mono ?_;rintro e af (⟨T,rfl,G⟩|⟨T,⟨a4,ba,rfl,a8,av⟩,G⟩)
 . have ae:=Ab G;clear G;go_wp2;exact⟨rfl,.inl ⟨T,rfl,Aa ae⟩⟩
 . have ae:=Ab G;have a2:=Ab (av af ((Aa ax).after G));have aj:=Aa a1 T;have M:=Ab aj;clear G av aj;go_wp2;go_loopw [5,6,7,12] (fun ay _ _ i wr=>∃k:Nat,k<=E/\i=.int .i64 (k:Int)/\ay=.int .u32 (Ak (xs.take k):Nat)/\Hid (wr=af)) (fun _ _ _ i _=>E-(intOf i).toNat)
   case atStart=>exact⟨0,VH _,rfl,by simp[Ak],Ab rfl⟩
   case round=>
    obtain⟨k,a5,rfl,rfl,ak⟩:=hrel;have a3:wr=af:=Aa ak;subst a3;clear ak
    by_cases an:k<E
    . obtain⟨g,o,rfl,a7,as⟩:=Dz (Aa a2).1 (by rw[Aa M];omega);have hc:=as k (by rw[Aa M];exact an);have ah:=Er (Aa aq) k;obtain⟨y,aa⟩:=exq (xs.getD k 0);rw[aa]at hc ah;have O:=Jx (xs.take k) (fun x ab=>Aa aq x (VR ab));have ag:(xs.take k).length=k:=by rw[VL,Aa M];omega
      rw[ag]at O
      have Y:Ak (xs.take (k+1))=Ak (xs.take k)+256^k*y:=by
       have al:k<xs.length:=by rw[Aa M];exact an
       have e:xs.take (k+1)=xs.take k++ [y]:=by
        rw[XB al,<-aa];simp[List.getD,al]
       rw[e,Vf,ag]
      obtain⟨m,F⟩:∃m,Ak (xs.take k)=m:=⟨_,rfl⟩
      rw[F]at O Y ⊢;have ap:=Z3s y k (by omega) ah;have Z:=Z6h m k y O (by omega) ah;obtain⟨z,ai⟩:=exq (256^k*y);rw[ai]at ap Z Y
      have am:bits .or .u32 (m:Int) ((y:Int)*2^(8*k)%4294967296)=((m+z:Nat):Int):=by
       have az:(y:Int)*2^(8*k)=(z:Int):=by rw[<-ai,show (256:Nat)^k=2^(8*k) by rw[Nat.pow_mul]];push_cast;rw[Int.mul_comm]
       have U:256^k<=256^3:=VO (by decide) (by omega);have bc:(256:Nat)^3=16777216:=by decide
       have a9:256^k*y<=256^3*255:=Nat.mul_le_mul U (by omega);rw[az,<-Z]
       congr 1
       omega
      have ar:=Ab (And.intro Y am);clear am Z ap;have bb:IntKind.u32.wrap (y:Int)=(y:Int):=by rw[IntKind.wrap_u32'];omega
      clear as aa O ag Y F ai;go_wp2;go_roundw
      case rel=>exact⟨k+1,by omega,by go_num,by rw[(Aa ar).1,(Aa ar).2],by first|exact Ab rfl|exact Ab trivial⟩
      case measure=>simp[intOf];omega
    . obtain rfl:E=k:=by omega
      have e:xs.take E=xs:=VV (by rw[Aa M];exact VB _);rw[e];obtain⟨m,F⟩:∃m,Ak xs=m:=⟨_,rfl⟩
      rw[F];have a0:=Ab F;clear F e;go_wp2;go_ret;exact .inr ⟨T,by rw[Aa a0];rfl,Aa ae⟩
end Go.Proofs.YtleocpdblhbimaaGreatDoor
namespace Go.Proofs.YtleocpdblhbimaaGreatDoor
open Go.RowKit
set_option linter.unusedVariables false
def Z8h (w:World)(bs:List Nat)(n:Nat)(e:Ending)(w':World):Prop:=
 Below w.heap.size w w'/\(((Dk (rowB bs n)).e=0/\∃ov kv,e=.returned (.tuple #[ov,.int .i64 ((((Dk (rowB bs n)).p+7)/8:Nat):Int),kv,.int .i64 0])/\w'.ownsRow (w.heap.size+1) 5 1 ov (Dk (rowB bs n)).out.length (u8s (Dk (rowB bs n)).out)/\w'.ownsRow (w.heap.size+1) 3 1 kv (Dk (rowB bs n)).ks.length (i64s (Dk (rowB bs n)).ks))\/ ((Dk (rowB bs n)).e≠0/\e=.returned (.tuple #[.slice none 0 0,.int .i64 0,.slice none 0 0,.int .i64 (Dk (rowB bs n)).e])))
def Z5u:Prop:=
 (∀(a:Option Addr) (n cap:Nat) (bs:List Nat) (w:World),bs.length=n->n<=6000->BytesIn w a bs->(∀j,bs.getD j 0<256)->Calls Tryz.prog 166 #[.slice a n cap] w fun e w'=>Z8h w bs n e w')/\
 (∀(a:Option Addr) (n cap:Nat) (w:World),6000<n->n<=9223372036854775807->Calls Tryz.prog 166 #[.slice a n cap] w fun e w'=>e=.returned (.tuple #[.slice none 0 0,.int .i64 0,.slice none 0 0,.int .i64 2])/\w'=w)
end Go.Proofs.YtleocpdblhbimaaGreatDoor
namespace Go.Proofs.YtleocpdblhbimaaGreatDoor
open Go.RowKit
set_option linter.unusedVariables false
set_option maxRecDepth 100000
def tab (c:Nat->Nat):Array Value:=((List.range 256).map fun n=>Value.int .u32 ((c n:Nat):Int)).toArray
theorem Gp (c:Nat->Nat):(tab c).size=256:=by simp[tab]
theorem LI (c:Nat->Nat){j:Nat}(E:j<256):(tab c)[j]? =some (.int .u32 ((c j:Nat):Int)):=by simp[tab,E]
theorem Z3j (c:Nat->Nat):(tab c).all (·.oneCell')=true:=by
 rw[Array.all_eq_true'];intro x E;obtain⟨n,_,rfl⟩:∃n,n<256/\Value.int .u32 ((c n:Nat):Int)=x:=by simpa[tab]using E
 rfl
def Ur (c:Nat->Nat)(j x:Nat):Nat->Nat:=fun n=>if n=j then x else c n
theorem Z3i (c:Nat->Nat)(j x:Nat):(tab c).setIfInBounds j (.int .u32 ((x:Nat):Int))=tab (Ur c j x):=by
 apply Array.ext_getElem?
 intro i;rw[Array.getElem?_setIfInBounds]
 by_cases h:i<256
 . rw[LI _ h,Gp,LI _ h]
   by_cases e:j=i
   . subst e;simp[Ur,h]
   . rw[if_neg e];unfold Ur;rw[if_neg (fun h=>e h.symm)]
 . have E:∀f,(tab f)[i]? =none:=fun f=>by simp[Gp];omega
   rw[E,E,Gp]
   by_cases e:j=i
   . rw[if_pos e,if_neg (by omega)]
   . rw[if_neg e]
theorem LH {c d:Nat->Nat}(E:∀n,n<256->c n=d n):tab c=tab d:=by
 unfold tab
 congr 1
 apply YR
 intro n hn;rw[E n (by simpa using hn)]
def Tab (w:World)(b:Nat)(c:Nat->Nat):Prop:=w.heap[b]? =some (.cells (tab c) 174 (0,0))
theorem Tab.cell {w:World}{b:Nat}{c:Nat->Nat}(F:Tab w b c){j:Nat}(E:j<256):w.cell? ⟨b,j,none⟩=some (.int .u32 ((c j:Nat):Int)):=by
 rw[cell_of_row w b j _ _ _ F];exact LI c E
theorem Tab.frozen {w:World}{b:Nat}{c:Nat->Nat}(E:Tab w b c)(j:Nat):w.frozen? ⟨b,j,none⟩=false:=frozen_of_row w b j _ _ E
theorem Tab.set {w:World}{b:Nat}{c:Nat->Nat}(E:Tab w b c)(j x:Nat):Tab (w.setCell ⟨b,j,none⟩ (.int .u32 ((x:Nat):Int))) b (Ur c j x):=by
 unfold Tab;rw[heap_setCell_same w b j _ _ _ E,Z3i]
theorem Tab.other {w:World}{b:Nat}{c:Nat->Nat}(F:Tab w b c){a:Addr}(E:b≠a.block)(v:Value):Tab (w.setCell a v) b c:=by
 unfold Tab;rw[heap_setCell_other w a b v E];exact F
theorem Tab.setRow {w:World}{b:Nat}{c:Nat->Nat}(E:Tab w b c)(d:Nat->Nat):Tab (w.setRow b (tab d)) b d:=setRow_heap w b _ _ _ _ E
theorem Tab.congr {w:World}{b:Nat}{c d:Nat->Nat}(E:Tab w b c)(e:∀n,n<256->c n=d n):Tab w b d:=by
 unfold Tab;rw[<-LH e];exact E
theorem Xz:(Tryz.prog.info? 174).map (·.size)=some 256:=by kernel_rfl
theorem AO:∀w:World,(zeroValue 174).run Tryz.prog w=.ok (.agg (tab (fun _=>0))) w:=(zero_of_info (n:=256) (by kernel_rfl)).1
theorem Mu {B:Nat}{a w:World}(E:Below B a w){F:Nat}(I:B<=F)(G:Array Value):Below B a (w.setRow F G):=
 ⟨E.os,E.tape,E.output,by simp;exact E.size,fun k H=>(Go.setRow_other w F k G (by omega)).trans (E.block k H)⟩
theorem Z13 {E:Array Oper}{F:List Oper}{o:Oper}{a:Act}{w:World}{Q:Exit->Act->World->Prop}(M:o.guard=none)(x:Operand)(H:o.op=.load 174 x)
 (b:Nat) (c:Nat->Nat) (G:a.eval x=.pointer (some ⟨b,0,none⟩)) (I:Tab w b c) (k:wpList Tryz.prog E Q F (a.put o.dst (.agg (tab c))) w):wpList Tryz.prog E Q (o::F) a w:=
 wpList_load_row M 174 x H b G _ _ _ _ I Tryz.underlying174 rfl (by rw[Gp];exact Xz) k
theorem A8 {E:Array Oper}{F:List Oper}{o:Oper}{a:Act}{w:World}{Q:Exit->Act->World->Prop}(M:o.guard=none)(x y:Operand)(H:o.op=.store 174 x y)
 (b:Nat) (c d:Nat->Nat) (G:a.eval x=.pointer (some ⟨b,0,none⟩)) (O:a.eval y=.agg (tab d)) (I:Tab w b c) (k:wpList Tryz.prog E Q F (a.put o.dst undef) (w.setRow b (tab d))):wpList Tryz.prog E Q (o::F) a w:=
 wpList_store_row M 174 x y H b _ G O _ _ I (by rw[Gp];exact Xz) (by rw[Gp,Gp]) (Z3j d) k
theorem Z8g {m:Nat}(E:m<4294967296):bits .and .u32 (m:Int) 1=((m%2:Nat):Int):=by
 have:=u32_and_nat m 1 E (by decide)
 rw[Nat.and_one_is_mod]at this;exact this
theorem Z8k {m:Nat}(E:m<4294967296):bits .xor .u32 ((m:Int)/2) 3988292384=((m/2^^^3988292384:Nat):Int):=by
 have:=u32_xor_nat (m/2) 3988292384 (by omega) (by decide)
 rw[<-this];rfl
theorem Tn (n:Nat)(w:World)(F:n<4294967296):
 Calls Tryz.prog 146 #[.int .u32 (n:Int)] w fun e w'=>e=.returned (.int .u32 (Ik 8 n:Nat))/\w'=w:=by
 go_enter Tryz.func146,Tryz.ntmps146
 go_wp2;go_loop [0,4] (fun t i=>∃k:Nat,k<=8/\i=.int .i64 k/\t=.int .u32 (Ik k n:Nat)) (fun _ i=>8-(intOf i).toNat)
 case atStart=>exact⟨0,VH _,rfl,rfl⟩
 case round=>
  obtain⟨k,M,rfl,rfl⟩:=hrel
  by_cases O:k<8
  . have hb:=Rl k F;have H:Hid (Ik (k+1) n=lft (Ik k n)):=F4 k n;generalize Ik k n=m at*
    by_cases e:m%2=1
    . have G:(bits .and .u32 (m:Int) 1==1)=true:=by rw[Z8g hb,e];rfl
      have I:=Ab (Z8k hb);have E:Hid (lft m=m/2^^^3988292384):=Ab (by unfold lft;rw[if_pos e]);go_wp2;go_round
      case rel=>exact⟨k+1,by omega,by go_num,by rw[H.out,Aa I,Aa E]⟩
      case measure=>simp[intOf];omega
    . have G:(bits .and .u32 (m:Int) 1==1)=false:=by rw[Z8g hb,show m%2=0 by omega];rfl
      have E:Hid (lft m=m/2):=Ab (by unfold lft;rw[if_neg e]);go_wp2;go_round
      case rel=>exact⟨k+1,by omega,by go_num,by rw[H.out,Aa E];rfl⟩
      case measure=>simp[intOf];omega
  . have e:k=8:=by omega
    subst e;go_wp2;go_ret
    trivial
def Zz (k:Nat):Nat->Nat:=fun n=>if n<k then Ik 8 n else 0
theorem ES (k:Nat):Ur (Zz k) k (Ik 8 k)=Zz (k+1):=by
 funext n
 unfold Ur Zz
 by_cases e:n=k
 . subst e;simp
 . rw[if_neg e]
   by_cases h:n<k
   . rw[if_pos h,if_pos (by omega)]
   . rw[if_neg h,if_neg (by omega)]
theorem ER:Zz 0=fun _=>0:=by funext n;simp[Zz]
theorem P9 (w:World):
 Calls Tryz.prog 110 #[] w fun e w'=>e=.returned (.agg (tab (Ik 8)))/\Below w.heap.size w w':=by
 have ac:=AO;go_enter Tryz.func110,Tryz.ntmps110
 go_wp2;have G:Hid (Tab ((w.alloc (.cells (tab (fun _=>0)) 174)).alloc (.cells (tab (fun _=>0)) 174)) w.heap.size (fun _=>0)):=Ab ((Below.heap_alloc _ _ _ (by simp)).trans (heap_alloc_new _ _))
 have H:Hid (Tab ((w.alloc (.cells (tab (fun _=>0)) 174)).alloc (.cells (tab (fun _=>0)) 174)) (w.heap.size+1) (Zz 0)):=Ab (by
  have:=heap_alloc_new (w.alloc (.cells (tab (fun _=>0)) 174)) (.cells (tab (fun _=>0)) 174)
  rw[World.size_alloc]at this;rw[ER];exact this)
 have O:=Ab (((Below.refl w.heap.size w).alloc (VB _) (.cells (tab (fun _=>0)) 174)).alloc (by simp) (.cells (tab (fun _=>0)) 174));go_loopw [3] (fun i wr=>∃k:Nat,k<=256/\i=.int .u32 (k:Int)/\Tab wr w.heap.size (fun _=>0)/\Tab wr (w.heap.size+1) (Zz k)/\Below w.heap.size w wr) (fun i _=>256-(intOf i).toNat)
 case atStart=>exact⟨0,by omega,rfl,Aa G,Aa H,Aa O⟩
 case round=>
  obtain⟨k,ab,rfl,M,E,T⟩:=hrel;have F:=Ab M;have I:=Ab E;have U:=Ab T
  by_cases Y:k<256
  . have c1:=E.cell (j:=k) Y;have f1:=E.frozen k;clear M E T G H O;go_wp2_with (go_at_call 146;refine(Tn _ _ (by omega)).mono ?_;rintro e w' ⟨rfl,rfl⟩)
    go_roundw
    case rel=>exact⟨k+1,by omega,by go_num,(Aa F).other (by simp) _,by rw[<-ES];exact(Aa I).set _ _,(Aa U).setCell (by simp) _⟩
    case measure=>simp[intOf];omega
  . obtain rfl:k=256:=by omega
    have aa:=Ab ((Aa I).congr (d:=Ik 8) (fun n hn=>by unfold Zz;rw[if_pos hn]));go_wp2_with (first|(refine Z13 rfl (.tmp 1) rfl _ (Ik 8) rfl (Aa aa) ?_)|(refine A8 rfl (.tmp 0) (.tmp 11) rfl _ _ (Ik 8) rfl rfl (Aa F) ?_))
    have Z:=Ab ((Aa F).setRow (Ik 8));refine bodyPost_ret (v:=.agg (tab (Ik 8))) ?_ rfl ⟨rfl,Mu (Aa U) (by omega) _⟩;exact results_cell_row rfl _ _ _ _ _ _ _ rfl (Aa Z) Tryz.underlying174 rfl (by rw[Gp];exact Xz)
theorem DS {w:World}{a:Option Addr}{bs:List Nat}(E:BytesIn w a bs){j:Nat}(F:j<bs.length):∃b o,a=some ⟨b,o,none⟩/\b<w.heap.size/\w.cell? ⟨b,o+j,none⟩=some (.int .u8 ((bs.getD j 0:Nat):Int)):=by
 rcases E with E|⟨b,o,I,H,G⟩
 . subst E;simp at F
 . exact⟨b,o,I,H,G j F⟩
theorem Z7h {n:Nat}(E:n<4294967296):bits .xor .u32 IntKind.u32.max (n:Int)=((n^^^4294967295:Nat):Int):=by
 have:=u32_xor_nat 4294967295 n (by decide) E
 rw[Nat.xor_comm]at this;exact this
theorem Z4p {n x:Nat}(G:n<4294967296)(E:x<256):bits .xor .u8 ((n:Int)%256) (x:Int)=(((n^^^x)%256:Nat):Int):=by
 have h:=u8_xor_nat (n%256) x (Nat.mod_lt _ (by decide)) E;have e:((n%256:Nat):Int)=(n:Int)%256:=rfl;rw[e]at h;rw[h];have F:(n^^^x)%2^8=n%2^8^^^x%2^8:=Nat.xor_mod_two_pow;rw[show (256:Nat)=2^8 from rfl,F,ZJ (a:=x) (by simpa using E)]
theorem Z1h {n m:Nat}(F:n<4294967296)(E:m<4294967296):bits .xor .u32 (m:Int) ((n:Int)/256)=((m^^^n/256:Nat):Int):=u32_xor_nat m (n/256) E (by omega)
theorem Z5a {n x:Nat}(E:x<256):Ik 8 ((n^^^x)%256)^^^n/256=Z1x n x:=by
 unfold Z1x;rw[FX (n^^^x)]
 congr 1
 have F:(n^^^x)/2^8=n/2^8^^^x/2^8:=by simpa[Nat.shiftRight_eq_div_pow]using Nat.shiftRight_xor_distrib (a:=n) (b:=x) (i:=8)
 rw[show (256:Nat)=2^8 from rfl,F,Nat.div_eq_of_lt (a:=x) (by simpa using E),Nat.xor_zero]
theorem Zy {bs:List Nat}{k:Nat}(E:k<bs.length):bs.take (k+1)=bs.take k++ [bs.getD k 0]:=by
 rw[XM];simp[List.getD,E]
theorem Z79 (p:Nat)(a:Option Addr)(n ah:Nat)(bs:List Nat)(w:World)(af:bs.length=n)(as:n<=12000)(H:p<4294967296)(Y:BytesIn w a bs)(ae:∀j,bs.getD j 0<256):
 Calls Tryz.prog 75 #[.int .u32 (p:Int),.slice a n ah] w fun e w'=>e=.returned (.tuple #[.int .u32 (crcN p bs:Nat),.int .i64 0])/\Below w.heap.size w w':=by
 have au:=AO;have h:¬(12000:Int)<(n:Int):=by omega
 have an:=Ab Y;have I:=Ab ae;have aa:=Ab af;clear Y ae af;go_enter Tryz.func75,Tryz.ntmps75
 go_wp2_with fail
 refine(P9 w).mono ?_;rintro e E ⟨rfl,ac⟩;have F:=Ab ac;clear ac;have M:Hid (Tab (E.alloc (.cells (tab (fun _=>0)) 174)) E.heap.size (fun _=>0)):=Ab (heap_alloc_new _ _);go_wp2_with (refine A8 rfl (.tmp 6) (.tmp 13) rfl _ _ (Ik 8) rfl rfl (Aa M) ?_)
 have ab:=Ab ((Aa M).setRow (Ik 8));have U:Hid (Below w.heap.size w ((E.alloc (.cells (tab (fun _=>0)) 174)).setRow E.heap.size (tab (Ik 8)))):=Ab (Mu ((Aa F).alloc (Aa F).size _) (Aa F).size _);have aq:=Ab (Z7h H);rw[Aa aq];go_loopw [7,18] (fun r i wr=>∃k:Nat,k<=n/\i=.int .i64 (k:Int)/\r=.int .u32 (Sn (p^^^4294967295) (bs.take k):Nat)/\Hid (Tab wr E.heap.size (Ik 8)/\Below w.heap.size w wr)) (fun _ i _=>n-(intOf i).toNat)
 case atStart=>exact⟨0,by omega,rfl,rfl,Ab ⟨Aa ab,Aa U⟩⟩
 case round=>
  obtain⟨k,ar,rfl,rfl,G⟩:=hrel
  by_cases ak:k<n
  . have O:k<bs.length:=by rw[Aa aa];exact ak
    obtain⟨b,o,rfl,hb,hc⟩:=DS (Aa an) O;have c0:=((Aa G).2.cell (p:=⟨b,o+k,none⟩) hb).trans hc;have Z:=Aa I k
    have hr:Sn (p^^^4294967295) (bs.take k)<4294967296:=Sl _ _ (fun y T=>by
     obtain⟨i,hi,rfl⟩:=XI T;have:=Aa I i
     rw[VL]at hi;rw[YN];rw[List.getD,VP (by omega)]at this;exact this) (E5 H)
    have al:Hid (Sn (p^^^4294967295) (bs.take (k+1))=Z1x (Sn (p^^^4294967295) (bs.take k)) (bs.getD k 0)):=Ab (by rw[Zy O,N7]);generalize Sn (p^^^4294967295) (bs.take k)=r at*;generalize bs.getD k 0=x at*;have hi:=Z4p hr Z;have aj:(r^^^x)%256<256:=Nat.mod_lt _ (by decide);have c1:=(Aa G).1.cell aj;have ao:=Ab (Z5a (n:=r) Z);have ai:=Rl 8 (show (r^^^x)%256<4294967296 by omega);have am:=Ab (Z1h hr ai);generalize (r^^^x)%256=q at*;clear hc hb O ab U M F;go_wp2;go_roundw
    case rel=>exact⟨k+1,by omega,by go_num,by rw[Aa am,Aa ao,Aa al],G⟩
    case measure=>simp[intOf];omega
  . have e:k=n:=by omega
    subst e;have ap:Hid (Sn (p^^^4294967295) (bs.take k)^^^4294967295=crcN p bs):=Ab (by rw[VV (by rw[Aa aa];exact VB _)];rfl)
    have hr:Sn (p^^^4294967295) (bs.take k)<4294967296:=Sl _ _ (fun y T=>by
     obtain⟨i,hi,rfl⟩:=XI T;have:=Aa I i
     rw[VL]at hi;rw[YN];rw[List.getD,VP (by omega)]at this;exact this) (E5 H)
    have ag:=Ab (Z7h hr);clear hr;go_wp2;go_ret2;exact⟨by rw[Aa ag,Aa ap];rfl,(Aa G).2⟩
theorem Og {w:World}{G:Array Oper}{H:List Oper}{o:Oper}{a:Act}{Q:Exit->Act->World->Prop}(aa:o.guard=none)(s x:Operand)
 (ac:o.op=.call {callee:=.builtin .append,args:= #[s,x],argTypes:= #[23,23]}) (E:Nat) (v:Value) (xs ys:List Nat) (af:a.eval s=v) (T:w.ownsRow E 5 1 v xs.length (u8s xs)) (F:Option Addr) (m c:Nat) (I:a.eval x=.slice F m c) (O:ys.length=m) (ae:PkIn w F c ys) (Y:xs.length+m<=140737488355328) (ab:E<=w.heap.size)
 (Z:∀v' w',w'.ownsRow E 5 1 v' (xs.length+ys.length) (u8s xs++u8s ys)->w.grownBy w' v.ownBlock->wpList Tryz.prog G Q H (a.put o.dst v') w'):wpList Tryz.prog G Q (o::H) a w:=by
 refine wpList_plain aa fun K hK=> ?_
 obtain⟨v',w',hr,U,M⟩:=Ll w o.type E v xs ys T F m c O ae Y ab;unfold Oper.wp execOp;simp only[ac,resolve,invoke,builtin,Sem.run_bind,Sem.run_pure,Result.andThen_ok,ZL,WQ,ZE,af,I,hr];exact hK _ _ (Z v' w' U M)
theorem AQ (a:Option Addr)(n G:Nat)(bs:List Nat)(w:World)(F:bs.length=n)(M:n<=12000)(I:BytesIn w a bs)(E:∀j,bs.getD j 0<256):
 Calls Tryz.prog 53 #[.slice a n G] w fun e w'=>e=.returned (.int .u32 (crcN 0 bs:Nat))/\Below w.heap.size w w':=by
 have T:=Ab (Z79 0 a n G bs w F M (by decide) I E);clear F I E;go_enter Tryz.func53,Tryz.ntmps53
 go_wp2_with fail
 refine(Aa T).mono ?_;rintro e U ⟨rfl,H⟩;have O:=Ab H;clear H;go_wp2;go_ret;exact⟨rfl,Aa O⟩
def Unp (w:World)(m:Nat)(pk:List Nat)(e:Ending)(w':World):Prop:=
 Below w.heap.size w w'/\((unpF m pk=none/\∃a l c,e=.returned (.tuple #[.slice a l c,.bool false]))\/ (∃ys,unpF m pk=some ys/\ys.length<=12000/\(∀x∈ys,x<256)/\∃a c,e=.returned (.tuple #[.slice a ys.length c,.bool true])/\ys.length<=c/\PkIn w' a c ys/\∀g o,a=some ⟨g,o,none⟩->ys≠ []->w.heap.size<=g))
theorem Zk (m n c:Nat)(a:Option Addr)(pk:List Nat)(w:World)(M:pk.length=n)(a9:n<=12000)(ac:PkIn w a c pk)(ab:∀x∈pk,x<256)(av:Z5u\/m≠8):
 Calls Tryz.prog 128 #[.int .u32 (m:Int),.slice a n c] w fun e w'=>Unp w m pk e w':=by
 by_cases al:m=0
 . subst al;have F:unpF 0 pk=some pk:=rfl;have ba:=Ab ac;have ae:=Ab F;have a8:=Ab ab;have a0:=Ab M;clear ac F ab M;go_enter Tryz.func128,Tryz.ntmps128
   go_wp2_with (at_builtin;refine Og rfl _ _ rfl w.heap.size (.slice none 0 0) [] pk rfl (World.ownsRow_nil _ _ _ _) a n c rfl (Aa a0) (Aa ba) (by simp;omega) (VB _) ?_)
   intro v' w' a4 ay;have a2:w'.ownsRow w.heap.size 5 1 v' pk.length (u8s pk):=by simpa using a4
   obtain⟨H,I,rfl,U,T,ak,O⟩:=Ve a2;have G:Hid (Unp w 0 pk (.returned (.tuple #[.slice H pk.length I,.bool true])) w'):=Ab ⟨(Below.refl w.heap.size w).grown ay (VB _) (fun g e=>by cases e),.inr ⟨pk,Aa ae,by rw[Aa a0];exact a9,Aa a8,H,I,rfl,T,U,fun g o e _=>O g o e⟩⟩;clear a4 ay a2 U T ak O;go_wp2;go_ret2;exact Aa G
 . by_cases a1:m=8
   . subst a1;have az:Z5u:=by rcases av with h|h;exact h;exact absurd rfl h
     clear al av;have ar:=Er ab;have F:unpF 8 pk=if pk.length<=6000/\(Dk (rowB pk pk.length)).e=0/\((Dk (rowB pk pk.length)).p+7)/8=pk.length then some (Dk (rowB pk pk.length)).out else none:=rfl
     rw[M]at F
     by_cases as:n<=6000
     . have af:=Ab (az.1 a n c pk w M as ac.1 ar);have an:=H9 (rowB pk n) n (Af pk n);have au:(Dk (rowB pk n)).e=0->(Dk (rowB pk n)).out.length<=12000:=fun e=>by have:=Rn (rowB pk n) n (Af pk n) e;omega
       obtain⟨Y,ax⟩:=exq (Dk (rowB pk n));unfold Z8h at af;rw[ax]at af F an au;have a7:=Ab au;have ae:=Ab F;have a6:=Ab an;clear M ac ab ar F ax an au;go_enter Tryz.func128,Tryz.ntmps128
       go_wp2_with fail
       refine(Aa af).mono ?_;rintro e aj ⟨Z,(⟨e0,ov,kv,rfl,ao,am⟩|⟨e0,rfl⟩)⟩
       . obtain⟨H,I,rfl,U,T,ak,O⟩:=Ve ao;obtain⟨bb,bc,rfl⟩:=An am;have aq:∀x∈Y.out,x<256:=Yf (Aa a6 e0);have a3:=Aa a7 e0;obtain⟨L,aa⟩:=exq (Y.out.length);rw[aa]at a3;obtain⟨be,ap⟩:=exq (Y.ks.length);obtain⟨P,ah⟩:=exq ((Y.p+7)/8);rw[aa,ap,ah]
         by_cases ai:P=n
         . have G:Hid (Unp w 8 pk (.returned (.tuple #[.slice H L I,.bool true])) aj):=Ab ⟨Z,.inr ⟨Y.out,by rw[Aa ae,if_pos ⟨as,e0,by rw[ah];exact ai⟩],by rw[aa];exact a3,aq,H,I,by rw[aa],T,U,fun g o e _=>Nat.le_of_succ_le (O g o e)⟩⟩;have a5:((P:Int)==(n:Int))=true:=by rw[beq_iff_eq];omega
           clear Z ao am U T ak O aq aa ap ah ai e0;go_wp2;go_ret2;exact Aa G
         . have G:Hid (Unp w 8 pk (.returned (.tuple #[.slice H L I,.bool false])) aj):=Ab ⟨Z,.inl ⟨by rw[Aa ae,if_neg (by intro ag;exact ai (ah.symm.trans ag.2.2))],H,L,I,rfl⟩⟩;have a5:((P:Int)==(n:Int))=false:=by rw[beq_eq_false_iff_ne];omega
           clear Z ao am U T ak O aq aa ap ah ai e0;go_wp2;go_ret2;exact Aa G
       . have G:Hid (Unp w 8 pk (.returned (.tuple #[.slice none 0 0,.bool false])) aj):=Ab ⟨Z,.inl ⟨by rw[Aa ae,if_neg (by intro ag;exact e0 ag.2.1)],none,0,0,rfl⟩⟩;obtain⟨E,aw⟩:=exq (Y.e);rw[aw]at e0 ⊢;have bf:(E==0)=false:=by rw[beq_eq_false_iff_ne];exact e0
         clear Z aw e0;go_wp2;go_ret2;exact Aa G
     . have af:=Ab (az.2 a n c w (by omega) (by omega));have G:Hid (Unp w 8 pk (.returned (.tuple #[.slice none 0 0,.bool false])) w):=Ab ⟨Below.refl _ _,.inl ⟨by rw[F,if_neg (by intro ag;exact as ag.1)],none,0,0,rfl⟩⟩;clear M ac ab ar F;go_enter Tryz.func128,Tryz.ntmps128
       go_wp2_with fail
       refine(Aa af).mono ?_;rintro e aj ⟨rfl,rfl⟩;go_wp2;go_ret2;exact Aa G
   . have F:unpF m pk=none:=by unfold unpF;rw[if_neg al,if_neg a1]
     have G:Hid (Unp w m pk (.returned (.tuple #[.slice none 0 0,.bool false])) w):=Ab ⟨Below.refl _ _,.inl ⟨F,none,0,0,rfl⟩⟩;have bg:((m:Int)==0)=false:=by rw[beq_eq_false_iff_ne];omega
     have bd:((m:Int)==8)=false:=by rw[beq_eq_false_iff_ne];omega
     clear M ac ab F;go_enter Tryz.func128,Tryz.ntmps128
     go_wp2;go_ret2;exact Aa G
end Go.Proofs.YtleocpdblhbimaaGreatDoor
