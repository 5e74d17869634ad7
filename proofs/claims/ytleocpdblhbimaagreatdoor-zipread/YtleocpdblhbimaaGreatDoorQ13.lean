import Derived.Test.YtleocpdblhbimaaGreatDoorQ12
import Derived.Laws.BitsAllLaws
import Derived.Deep.WholeRow
import Derived.Laws.ResultCell
import Derived.Test.YtleocpdblhbimaaGreatDoorQ10
set_option linter.unusedSimpArgs false
set_option maxHeartbeats 2000000
namespace Go.Proofs.YtleocpdblhbimaaGreatDoor
open Go.RowKit
set_option linter.unusedVariables false
set_option maxRecDepth 100000
theorem Vf:∀(l:List Nat) (y:Nat),Ak (l++ [y])=Ak l+256^l.length*y
 | [],y=>by simp[Ak]
 |x::r,y=>by
  rw[XL,Ak,Vf r y,Ak,VJ,XC,Nat.mul_add,WT,<-XY,YF 256 (256^r.length)]
theorem Z3s (y k:Nat)(hk:k<=3)(hy:y<256)(W:World):(Op.shift .shl .u32 (y:Int) .i64 (IntKind.i64.wrap (8*(k:Int)))).run Tryz.prog W=.ok (.int .u32 ((256^k*y:Nat):Int)) W:=by
 have e:IntKind.i64.wrap (8*(k:Int))=((8*k:Nat):Int):=by
  simp[IntKind.wrap,IntKind.bits,IntKind.signed]
  omega
 rw[e];have h256:(256:Nat)^k=2^(8*k):=by rw[Nat.pow_mul]
 have hp:256^k<=256^3:=VO (by decide) hk;have hm:256^k*y<=256^3*255:=Nat.mul_le_mul hp (by omega)
 have h2:IntKind.u32.wrap ((y:Int)*2^min (8*k) 32)=((256^k*y:Nat):Int):=by
  rw[YP (by omega)];have e1:(y:Int)*2^(8*k)=((256^k*y:Nat):Int):=by rw[h256];push_cast;rw[Int.mul_comm]
  rw[e1,IntKind.wrap_u32'];have:(256:Nat)^3=16777216:=by decide
  omega
 unfold Op.shift;rw[if_neg (by omega),WM];show Result.ok (Value.int .u32 (IntKind.u32.wrap ((y:Int)*2^min (8*k) 32))) W=_
 rw[h2]
theorem Z6h (m k y:Nat)(hm:m<256^k)(hk:k<=3)(hy:y<256):bits .or .u32 (m:Int) ((256^k*y:Nat):Int)=((m+256^k*y:Nat):Int):=by
 have hp:256^k<=256^3:=VO (by decide) hk;have h3:(256:Nat)^3=16777216:=by decide
 have hmy:256^k*y<=256^3*255:=Nat.mul_le_mul hp (by omega);rw[u32_or_nat _ _ (by omega) (by omega)];have h256:(256:Nat)^k=2^(8*k):=by rw[Nat.pow_mul]
 rw[h256]at hm ⊢;have:=Nat.two_pow_add_eq_or_of_lt (i:=8*k) (b:=m) hm y
 rw[Nat.or_comm,<-this,Nat.add_comm]
theorem Et (b p size n cap:Nat)(a:Option Addr)(bs:List Nat)(w:World)(hI:w.heap[b]? =some (.cells #[.slice a n cap,.int .i64 (p:Int)] 116 (0,0)))(hp:p<=n)(hR:ZRow w b a n cap bs)(hm:size<=4):
 Calls Tryz.prog 100 #[.pointer (some ⟨b,0,none⟩),.int .u32 (size:Int)] w fun e w'=>(n<p+size/\e=Z31/\ZT w b (.slice a n cap) p w')\/ (p+size<=n/\e=.returned (.int .u32 (Ak ((bs.drop p).take size):Nat))/\ZT w b (.slice a n cap) (p+size) w'):=by
 have HC:=Ab (Dv b p size n cap a bs w hI hp hR (by omega));have hvl:∀x∈(bs.drop p).take size,x<256:=fun x hx=>hR.val x (VW (VR hx))
 have hl:p+size<=n->((bs.drop p).take size).length=size:=fun h=>by rw[VL,VQ,hR.len];omega
 obtain⟨xs,hxs⟩:∃xs,(bs.drop p).take size=xs:=⟨_,rfl⟩
 rw[hxs]at HC hvl hl ⊢;have HV:=Ab hvl;have HL:=Ab hl;have HR:=Ab hR;clear hI hR hvl hl hxs hp;go_enter Tryz.func100,Tryz.ntmps100
 go_wp2_with fail
 refine(Aa HC).mono ?_;rintro e w1 (⟨h1,rfl,hT⟩|⟨h1,⟨a',c',rfl,h2,hP⟩,hT⟩)
 . have HT:=Ab hT;clear hT;go_wp2;exact⟨rfl,.inl ⟨h1,rfl,Aa HT⟩⟩
 . have HT:=Ab hT;have HP:=Ab (hP w1 ((Aa HR).after hT));have hxl:=Aa HL h1;have HXL:=Ab hxl;clear hT hP hxl;go_wp2;go_loopw [5,6,7,12] (fun v5 _ _ i wr=>∃k:Nat,k<=size/\i=.int .i64 (k:Int)/\v5=.int .u32 (Ak (xs.take k):Nat)/\Hid (wr=w1)) (fun _ _ _ i _=>size-(intOf i).toNat)
   case atStart=>exact⟨0,VH _,rfl,by simp[Ak],Ab rfl⟩
   case round=>
    obtain⟨k,hk,rfl,rfl,hw⟩:=hrel;have hwr:wr=w1:=Aa hw;subst hwr;clear hw
    by_cases hlt:k<size
    . obtain⟨g,o,rfl,hg,hB⟩:=Dz (Aa HP).1 (by rw[Aa HXL];omega);have hc:=hB k (by rw[Aa HXL];exact hlt);have hy:=Er (Aa HV) k;obtain⟨y,hyy⟩:∃y,xs.getD k 0=y:=⟨_,rfl⟩
      rw[hyy]at hc hy;have hml:=Jx (xs.take k) (fun x hx=>Aa HV x (VR hx));have hkl:(xs.take k).length=k:=by rw[VL,Aa HXL];omega
      rw[hkl]at hml
      have hnx:Ak (xs.take (k+1))=Ak (xs.take k)+256^k*y:=by
       have hk3:k<xs.length:=by rw[Aa HXL];exact hlt
       have e:xs.take (k+1)=xs.take k++ [y]:=by
        rw[XB hk3,<-hyy];simp[List.getD,hk3]
       rw[e,Vf,hkl]
      obtain⟨m,hm'⟩:∃m,Ak (xs.take k)=m:=⟨_,rfl⟩
      rw[hm']at hml hnx ⊢;have hsh:=Z3s y k (by omega) hy;have hor:=Z6h m k y hml (by omega) hy;obtain⟨z,hz⟩:∃z,256^k*y=z:=⟨_,rfl⟩
      rw[hz]at hsh hor hnx
      have hor2:bits .or .u32 (m:Int) ((y:Int)*2^(8*k)%4294967296)=((m+z:Nat):Int):=by
       have e1:(y:Int)*2^(8*k)=(z:Int):=by rw[<-hz,show (256:Nat)^k=2^(8*k) by rw[Nat.pow_mul]];push_cast;rw[Int.mul_comm]
       have hp:256^k<=256^3:=VO (by decide) (by omega);have h3:(256:Nat)^3=16777216:=by decide
       have hmy:256^k*y<=256^3*255:=Nat.mul_le_mul hp (by omega);rw[e1,<-hor]
       congr 1
       omega
      have HNX:=Ab (And.intro hnx hor2);clear hor2 hor hsh;have hwy:IntKind.u32.wrap (y:Int)=(y:Int):=by rw[IntKind.wrap_u32'];omega
      clear hB hyy hml hkl hnx hm' hz;go_wp2;go_roundw
      case rel=>exact⟨k+1,by omega,by go_num,by rw[(Aa HNX).1,(Aa HNX).2],by first|exact Ab rfl|exact Ab trivial⟩
      case measure=>simp[intOf];omega
    . obtain rfl:size=k:=by omega
      have e:xs.take size=xs:=VV (by rw[Aa HXL];exact VB _);rw[e];obtain⟨m,hm'⟩:∃m,Ak xs=m:=⟨_,rfl⟩
      rw[hm'];have HM:=Ab hm';clear hm' e;go_wp2;go_ret;exact .inr ⟨h1,by rw[Aa HM];rfl,Aa HT⟩
end Go.Proofs.YtleocpdblhbimaaGreatDoor
namespace Go.Proofs.YtleocpdblhbimaaGreatDoor
open Go.RowKit
set_option linter.unusedVariables false
def Z8h (w:World)(bs:List Nat)(n:Nat)(e:Ending)(w':World):Prop:=
 Below w.heap.size w w'/\(((Dk (rowB bs n)).e=0/\∃ov kv,e=.returned (.tuple #[ov,.int .i64 ((((Dk (rowB bs n)).p+7)/8:Nat):Int),kv,.int .i64 0])/\w'.ownsRow (w.heap.size+1) 5 1 ov (Dk (rowB bs n)).out.length (u8s (Dk (rowB bs n)).out)/\w'.ownsRow (w.heap.size+1) 3 1 kv (Dk (rowB bs n)).ks.length (i64s (Dk (rowB bs n)).ks))\/ ((Dk (rowB bs n)).e≠0/\e=.returned (.tuple #[.slice none 0 0,.int .i64 0,.slice none 0 0,.int .i64 (Dk (rowB bs n)).e])))
def Z5u:Prop:=
 (∀(a:Option Addr) (n cap:Nat) (bs:List Nat) (w:World),bs.length=n->n<=6000->BytesIn w a bs->(∀j,bs.getD j 0<256)->Calls Tryz.prog 166 #[.slice a n cap] w fun e w'=>Z8h w bs n e w')/\
 (∀(a:Option Addr) (n cap:Nat) (w:World),6000<n->n<=9223372036854775807->Calls Tryz.prog 166 #[.slice a n cap] w fun e w'=>e=.returned (.tuple #[.slice none 0 0,.int .i64 0,.slice none 0 0,.int .i64 2])/\w'=w)
end Go.Proofs.YtleocpdblhbimaaGreatDoor
namespace Go.Proofs.YtleocpdblhbimaaGreatDoor
open Go.RowKit
set_option linter.unusedVariables false
set_option maxRecDepth 100000
def tab (c:Nat->Nat):Array Value:=((List.range 256).map fun n=>Value.int .u32 ((c n:Nat):Int)).toArray
theorem Gp (c:Nat->Nat):(tab c).size=256:=by simp[tab]
theorem LI (c:Nat->Nat){j:Nat}(h:j<256):(tab c)[j]? =some (.int .u32 ((c j:Nat):Int)):=by simp[tab,h]
theorem Z3j (c:Nat->Nat):(tab c).all (·.oneCell')=true:=by
 rw[Array.all_eq_true'];intro x hx;obtain⟨n,_,rfl⟩:∃n,n<256/\Value.int .u32 ((c n:Nat):Int)=x:=by simpa[tab]using hx
 rfl
def Ur (c:Nat->Nat)(j x:Nat):Nat->Nat:=fun n=>if n=j then x else c n
theorem Z3i (c:Nat->Nat)(j x:Nat):(tab c).setIfInBounds j (.int .u32 ((x:Nat):Int))=tab (Ur c j x):=by
 apply Array.ext_getElem?
 intro i;rw[Array.getElem?_setIfInBounds]
 by_cases h:i<256
 . rw[LI _ h,Gp,LI _ h]
   by_cases e:j=i
   . subst e;simp[Ur,h]
   . rw[if_neg e];unfold Ur;rw[if_neg (fun h=>e h.symm)]
 . have h1:∀f,(tab f)[i]? =none:=fun f=>by simp[Gp];omega
   rw[h1,h1,Gp]
   by_cases e:j=i
   . rw[if_pos e,if_neg (by omega)]
   . rw[if_neg e]
theorem LH {c d:Nat->Nat}(h:∀n,n<256->c n=d n):tab c=tab d:=by
 unfold tab
 congr 1
 apply YR
 intro n hn;rw[h n (by simpa using hn)]
def Tab (w:World)(b:Nat)(c:Nat->Nat):Prop:=w.heap[b]? =some (.cells (tab c) 174 (0,0))
theorem Tab.cell {w:World}{b:Nat}{c:Nat->Nat}(h:Tab w b c){j:Nat}(hj:j<256):w.cell? ⟨b,j,none⟩=some (.int .u32 ((c j:Nat):Int)):=by
 rw[cell_of_row w b j _ _ _ h];exact LI c hj
theorem Tab.frozen {w:World}{b:Nat}{c:Nat->Nat}(h:Tab w b c)(j:Nat):w.frozen? ⟨b,j,none⟩=false:=frozen_of_row w b j _ _ h
theorem Tab.set {w:World}{b:Nat}{c:Nat->Nat}(h:Tab w b c)(j x:Nat):Tab (w.setCell ⟨b,j,none⟩ (.int .u32 ((x:Nat):Int))) b (Ur c j x):=by
 unfold Tab;rw[heap_setCell_same w b j _ _ _ h,Z3i]
theorem Tab.other {w:World}{b:Nat}{c:Nat->Nat}(h:Tab w b c){a:Addr}(hb:b≠a.block)(v:Value):Tab (w.setCell a v) b c:=by
 unfold Tab;rw[heap_setCell_other w a b v hb];exact h
theorem Tab.setRow {w:World}{b:Nat}{c:Nat->Nat}(h:Tab w b c)(d:Nat->Nat):Tab (w.setRow b (tab d)) b d:=setRow_heap w b _ _ _ _ h
theorem Tab.congr {w:World}{b:Nat}{c d:Nat->Nat}(h:Tab w b c)(e:∀n,n<256->c n=d n):Tab w b d:=by
 unfold Tab;rw[<-LH e];exact h
theorem Xz:(Tryz.prog.info? 174).map (·.size)=some 256:=by kernel_rfl
theorem AO:∀w:World,(zeroValue 174).run Tryz.prog w=.ok (.agg (tab (fun _=>0))) w:=(zero_of_info (n:=256) (by kernel_rfl)).1
theorem Mu {B:Nat}{a w:World}(h:Below B a w){g:Nat}(hg:B<=g)(cs:Array Value):Below B a (w.setRow g cs):=
 ⟨h.os,h.tape,h.output,by simp;exact h.size,fun k hk=>(Go.setRow_other w g k cs (by omega)).trans (h.block k hk)⟩
theorem Z13 {ops:Array Oper}{rest:List Oper}{o:Oper}{a:Act}{w:World}{Q:Exit->Act->World->Prop}(hgd:o.guard=none)(x:Operand)(ho:o.op=.load 174 x)
 (b:Nat) (c:Nat->Nat) (hx:a.eval x=.pointer (some ⟨b,0,none⟩)) (h:Tab w b c) (k:wpList Tryz.prog ops Q rest (a.put o.dst (.agg (tab c))) w):wpList Tryz.prog ops Q (o::rest) a w:=
 wpList_load_row hgd 174 x ho b hx _ _ _ _ h Tryz.underlying174 rfl (by rw[Gp];exact Xz) k
theorem A8 {ops:Array Oper}{rest:List Oper}{o:Oper}{a:Act}{w:World}{Q:Exit->Act->World->Prop}(hgd:o.guard=none)(x y:Operand)(ho:o.op=.store 174 x y)
 (b:Nat) (c d:Nat->Nat) (hx:a.eval x=.pointer (some ⟨b,0,none⟩)) (hy:a.eval y=.agg (tab d)) (h:Tab w b c) (k:wpList Tryz.prog ops Q rest (a.put o.dst undef) (w.setRow b (tab d))):wpList Tryz.prog ops Q (o::rest) a w:=
 wpList_store_row hgd 174 x y ho b _ hx hy _ _ h (by rw[Gp];exact Xz) (by rw[Gp,Gp]) (Z3j d) k
theorem Z8g {m:Nat}(h:m<4294967296):bits .and .u32 (m:Int) 1=((m%2:Nat):Int):=by
 have:=u32_and_nat m 1 h (by decide)
 rw[Nat.and_one_is_mod]at this;exact this
theorem Z8k {m:Nat}(h:m<4294967296):bits .xor .u32 ((m:Int)/2) 3988292384=((m/2^^^3988292384:Nat):Int):=by
 have:=u32_xor_nat (m/2) 3988292384 (by omega) (by decide)
 rw[<-this];rfl
theorem Tn (n:Nat)(w:World)(hn:n<4294967296):
 Calls Tryz.prog 146 #[.int .u32 (n:Int)] w fun e w'=>e=.returned (.int .u32 (Ik 8 n:Nat))/\w'=w:=by
 go_enter Tryz.func146,Tryz.ntmps146
 go_wp2;go_loop [0,4] (fun t i=>∃k:Nat,k<=8/\i=.int .i64 k/\t=.int .u32 (Ik k n:Nat)) (fun _ i=>8-(intOf i).toNat)
 case atStart=>exact⟨0,VH _,rfl,rfl⟩
 case round=>
  obtain⟨k,hk,rfl,rfl⟩:=hrel
  by_cases hlt:k<8
  . have hb:=Rl k hn;have H:Hid (Ik (k+1) n=lft (Ik k n)):=F4 k n;generalize Ik k n=m at*
    by_cases e:m%2=1
    . have h1:(bits .and .u32 (m:Int) 1==1)=true:=by rw[Z8g hb,e];rfl
      have HX:=Ab (Z8k hb);have HL:Hid (lft m=m/2^^^3988292384):=Ab (by unfold lft;rw[if_pos e]);go_wp2;go_round
      case rel=>exact⟨k+1,by omega,by go_num,by rw[H.out,Aa HX,Aa HL]⟩
      case measure=>simp[intOf];omega
    . have h1:(bits .and .u32 (m:Int) 1==1)=false:=by rw[Z8g hb,show m%2=0 by omega];rfl
      have HL:Hid (lft m=m/2):=Ab (by unfold lft;rw[if_neg e]);go_wp2;go_round
      case rel=>exact⟨k+1,by omega,by go_num,by rw[H.out,Aa HL];rfl⟩
      case measure=>simp[intOf];omega
  . have e:k=8:=by omega
    subst e;go_wp2;go_ret
    trivial
def Zz (k:Nat):Nat->Nat:=fun n=>if n<k then Ik 8 n else 0
theorem ES (k:Nat):Ur (Zz k) k (Ik 8 k)=Zz (k+1):=by
 funext n
 unfold Ur Zz
 by_cases e:n=k
 . subst e;simp
 . rw[if_neg e]
   by_cases h:n<k
   . rw[if_pos h,if_pos (by omega)]
   . rw[if_neg h,if_neg (by omega)]
theorem ER:Zz 0=fun _=>0:=by funext n;simp[Zz]
theorem P9 (w:World):
 Calls Tryz.prog 110 #[] w fun e w'=>e=.returned (.agg (tab (Ik 8)))/\Below w.heap.size w w':=by
 have hz:=AO;go_enter Tryz.func110,Tryz.ntmps110
 go_wp2;have HR:Hid (Tab ((w.alloc (.cells (tab (fun _=>0)) 174)).alloc (.cells (tab (fun _=>0)) 174)) w.heap.size (fun _=>0)):=Ab ((Below.heap_alloc _ _ _ (by simp)).trans (heap_alloc_new _ _))
 have HM:Hid (Tab ((w.alloc (.cells (tab (fun _=>0)) 174)).alloc (.cells (tab (fun _=>0)) 174)) (w.heap.size+1) (Zz 0)):=Ab (by
  have:=heap_alloc_new (w.alloc (.cells (tab (fun _=>0)) 174)) (.cells (tab (fun _=>0)) 174)
  rw[World.size_alloc]at this;rw[ER];exact this)
 have HB:=Ab (((Below.refl w.heap.size w).alloc (VB _) (.cells (tab (fun _=>0)) 174)).alloc (by simp) (.cells (tab (fun _=>0)) 174));go_loopw [3] (fun i wr=>∃k:Nat,k<=256/\i=.int .u32 (k:Int)/\Tab wr w.heap.size (fun _=>0)/\Tab wr (w.heap.size+1) (Zz k)/\Below w.heap.size w wr) (fun i _=>256-(intOf i).toNat)
 case atStart=>exact⟨0,by omega,rfl,Aa HR,Aa HM,Aa HB⟩
 case round=>
  obtain⟨k,hk,rfl,hR,hM,hB⟩:=hrel;have HR1:=Ab hR;have HM1:=Ab hM;have HB1:=Ab hB
  by_cases hlt:k<256
  . have c1:=hM.cell (j:=k) hlt;have f1:=hM.frozen k;clear hR hM hB HR HM HB;go_wp2_with (go_at_call 146;refine(Tn _ _ (by omega)).mono ?_;rintro e w' ⟨rfl,rfl⟩)
    go_roundw
    case rel=>exact⟨k+1,by omega,by go_num,(Aa HR1).other (by simp) _,by rw[<-ES];exact(Aa HM1).set _ _,(Aa HB1).setCell (by simp) _⟩
    case measure=>simp[intOf];omega
  . obtain rfl:k=256:=by omega
    have HX:=Ab ((Aa HM1).congr (d:=Ik 8) (fun n hn=>by unfold Zz;rw[if_pos hn]));go_wp2_with (first|(refine Z13 rfl (.tmp 1) rfl _ (Ik 8) rfl (Aa HX) ?_)|(refine A8 rfl (.tmp 0) (.tmp 11) rfl _ _ (Ik 8) rfl rfl (Aa HR1) ?_))
    have HY:=Ab ((Aa HR1).setRow (Ik 8));refine bodyPost_ret (v:=.agg (tab (Ik 8))) ?_ rfl ⟨rfl,Mu (Aa HB1) (by omega) _⟩;exact results_cell_row rfl _ _ _ _ _ _ _ rfl (Aa HY) Tryz.underlying174 rfl (by rw[Gp];exact Xz)
theorem DS {w:World}{a:Option Addr}{bs:List Nat}(h:BytesIn w a bs){j:Nat}(hj:j<bs.length):∃b o,a=some ⟨b,o,none⟩/\b<w.heap.size/\w.cell? ⟨b,o+j,none⟩=some (.int .u8 ((bs.getD j 0:Nat):Int)):=by
 rcases h with h|⟨b,o,h1,h2,h3⟩
 . subst h;simp at hj
 . exact⟨b,o,h1,h2,h3 j hj⟩
theorem Z7h {n:Nat}(h:n<4294967296):bits .xor .u32 IntKind.u32.max (n:Int)=((n^^^4294967295:Nat):Int):=by
 have:=u32_xor_nat 4294967295 n (by decide) h
 rw[Nat.xor_comm]at this;exact this
theorem Z4p {n x:Nat}(hn:n<4294967296)(hx:x<256):bits .xor .u8 ((n:Int)%256) (x:Int)=(((n^^^x)%256:Nat):Int):=by
 have h:=u8_xor_nat (n%256) x (Nat.mod_lt _ (by decide)) hx;have e:((n%256:Nat):Int)=(n:Int)%256:=rfl;rw[e]at h;rw[h];have h2:(n^^^x)%2^8=n%2^8^^^x%2^8:=Nat.xor_mod_two_pow;rw[show (256:Nat)=2^8 from rfl,h2,ZJ (a:=x) (by simpa using hx)]
theorem Z1h {n m:Nat}(hn:n<4294967296)(hm:m<4294967296):bits .xor .u32 (m:Int) ((n:Int)/256)=((m^^^n/256:Nat):Int):=u32_xor_nat m (n/256) hm (by omega)
theorem Z5a {n x:Nat}(hx:x<256):Ik 8 ((n^^^x)%256)^^^n/256=Z1x n x:=by
 unfold Z1x;rw[FX (n^^^x)]
 congr 1
 have h2:(n^^^x)/2^8=n/2^8^^^x/2^8:=by simpa[Nat.shiftRight_eq_div_pow]using Nat.shiftRight_xor_distrib (a:=n) (b:=x) (i:=8)
 rw[show (256:Nat)=2^8 from rfl,h2,Nat.div_eq_of_lt (a:=x) (by simpa using hx),Nat.xor_zero]
theorem Zy {bs:List Nat}{k:Nat}(h:k<bs.length):bs.take (k+1)=bs.take k++ [bs.getD k 0]:=by
 rw[XM];simp[List.getD,h]
theorem Z79 (p:Nat)(a:Option Addr)(n cap:Nat)(bs:List Nat)(w:World)(hl:bs.length=n)(hn:n<=12000)(hp:p<4294967296)(hby:BytesIn w a bs)(hv:∀j,bs.getD j 0<256):
 Calls Tryz.prog 75 #[.int .u32 (p:Int),.slice a n cap] w fun e w'=>e=.returned (.tuple #[.int .u32 (crcN p bs:Nat),.int .i64 0])/\Below w.heap.size w w':=by
 have hz:=AO;have h:¬(12000:Int)<(n:Int):=by omega
 have HBY:=Ab hby;have HV:=Ab hv;have HL:=Ab hl;clear hby hv hl;go_enter Tryz.func75,Tryz.ntmps75
 go_wp2_with fail
 refine(P9 w).mono ?_;rintro e w1 ⟨rfl,hB1⟩;have HB1:=Ab hB1;clear hB1;have HN:Hid (Tab (w1.alloc (.cells (tab (fun _=>0)) 174)) w1.heap.size (fun _=>0)):=Ab (heap_alloc_new _ _);go_wp2_with (refine A8 rfl (.tmp 6) (.tmp 13) rfl _ _ (Ik 8) rfl rfl (Aa HN) ?_)
 have HT:=Ab ((Aa HN).setRow (Ik 8));have HB:Hid (Below w.heap.size w ((w1.alloc (.cells (tab (fun _=>0)) 174)).setRow w1.heap.size (tab (Ik 8)))):=Ab (Mu ((Aa HB1).alloc (Aa HB1).size _) (Aa HB1).size _);have HP:=Ab (Z7h hp);rw[Aa HP];go_loopw [7,18] (fun r i wr=>∃k:Nat,k<=n/\i=.int .i64 (k:Int)/\r=.int .u32 (Sn (p^^^4294967295) (bs.take k):Nat)/\Hid (Tab wr w1.heap.size (Ik 8)/\Below w.heap.size w wr)) (fun _ i _=>n-(intOf i).toNat)
 case atStart=>exact⟨0,by omega,rfl,rfl,Ab ⟨Aa HT,Aa HB⟩⟩
 case round=>
  obtain⟨k,hk,rfl,rfl,hW⟩:=hrel
  by_cases hlt:k<n
  . have hkl:k<bs.length:=by rw[Aa HL];exact hlt
    obtain⟨b,o,rfl,hb,hc⟩:=DS (Aa HBY) hkl;have c0:=((Aa hW).2.cell (p:=⟨b,o+k,none⟩) hb).trans hc;have hx:=Aa HV k
    have hr:Sn (p^^^4294967295) (bs.take k)<4294967296:=Sl _ _ (fun y hy=>by
     obtain⟨i,hi,rfl⟩:=XI hy;have:=Aa HV i
     rw[VL]at hi;rw[YN];rw[List.getD,VP (by omega)]at this;exact this) (E5 hp)
    have HC:Hid (Sn (p^^^4294967295) (bs.take (k+1))=Z1x (Sn (p^^^4294967295) (bs.take k)) (bs.getD k 0)):=Ab (by rw[Zy hkl,N7]);generalize Sn (p^^^4294967295) (bs.take k)=r at*;generalize bs.getD k 0=x at*;have hi:=Z4p hr hx;have hlo:(r^^^x)%256<256:=Nat.mod_lt _ (by decide);have c1:=(Aa hW).1.cell hlo;have HS:=Ab (Z5a (n:=r) hx);have ht:=Rl 8 (show (r^^^x)%256<4294967296 by omega);have HH:=Ab (Z1h hr ht);generalize (r^^^x)%256=q at*;clear hc hb hkl HT HB HN HB1;go_wp2;go_roundw
    case rel=>exact⟨k+1,by omega,by go_num,by rw[Aa HH,Aa HS,Aa HC],hW⟩
    case measure=>simp[intOf];omega
  . have e:k=n:=by omega
    subst e;have HE:Hid (Sn (p^^^4294967295) (bs.take k)^^^4294967295=crcN p bs):=Ab (by rw[VV (by rw[Aa HL];exact VB _)];rfl)
    have hr:Sn (p^^^4294967295) (bs.take k)<4294967296:=Sl _ _ (fun y hy=>by
     obtain⟨i,hi,rfl⟩:=XI hy;have:=Aa HV i
     rw[VL]at hi;rw[YN];rw[List.getD,VP (by omega)]at this;exact this) (E5 hp)
    have HNN:=Ab (Z7h hr);clear hr;go_wp2;go_ret2;exact⟨by rw[Aa HNN,Aa HE];rfl,(Aa hW).2⟩
theorem Og {w:World}{ops:Array Oper}{rest:List Oper}{o:Oper}{a:Act}{Q:Exit->Act->World->Prop}(hgd:o.guard=none)(s x:Operand)
 (ho:o.op=.call {callee:=.builtin .append,args:= #[s,x],argTypes:= #[23,23]}) (base:Nat) (v:Value) (xs ys:List Nat) (hs:a.eval s=v) (hown:w.ownsRow base 5 1 v xs.length (u8s xs)) (ad:Option Addr) (m c:Nat) (hx:a.eval x=.slice ad m c) (hm:ys.length=m) (hP:PkIn w ad c ys) (hsz:xs.length+m<=140737488355328) (hbase:base<=w.heap.size)
 (h:∀v' w',w'.ownsRow base 5 1 v' (xs.length+ys.length) (u8s xs++u8s ys)->w.grownBy w' v.ownBlock->wpList Tryz.prog ops Q rest (a.put o.dst v') w'):wpList Tryz.prog ops Q (o::rest) a w:=by
 refine wpList_plain hgd fun K hK=> ?_
 obtain⟨v',w',hr,h2,h3⟩:=Ll w o.type base v xs ys hown ad m c hm hP hsz hbase;unfold Oper.wp execOp;simp only[ho,resolve,invoke,builtin,Sem.run_bind,Sem.run_pure,Result.andThen_ok,ZL,WQ,ZE,hs,hx,hr];exact hK _ _ (h v' w' h2 h3)
theorem AQ (a:Option Addr)(n cap:Nat)(bs:List Nat)(w:World)(hl:bs.length=n)(hn:n<=12000)(hby:BytesIn w a bs)(hv:∀j,bs.getD j 0<256):
 Calls Tryz.prog 53 #[.slice a n cap] w fun e w'=>e=.returned (.int .u32 (crcN 0 bs:Nat))/\Below w.heap.size w w':=by
 have HC:=Ab (Z79 0 a n cap bs w hl hn (by decide) hby hv);clear hl hby hv;go_enter Tryz.func53,Tryz.ntmps53
 go_wp2_with fail
 refine(Aa HC).mono ?_;rintro e w1 ⟨rfl,hB⟩;have HB:=Ab hB;clear hB;go_wp2;go_ret;exact⟨rfl,Aa HB⟩
def Unp (w:World)(m:Nat)(pk:List Nat)(e:Ending)(w':World):Prop:=
 Below w.heap.size w w'/\((unpF m pk=none/\∃a l c,e=.returned (.tuple #[.slice a l c,.bool false]))\/ (∃ys,unpF m pk=some ys/\ys.length<=12000/\(∀x∈ys,x<256)/\∃a c,e=.returned (.tuple #[.slice a ys.length c,.bool true])/\ys.length<=c/\PkIn w' a c ys/\∀g o,a=some ⟨g,o,none⟩->ys≠ []->w.heap.size<=g))
theorem Zk (m n c:Nat)(a:Option Addr)(pk:List Nat)(w:World)(hl:pk.length=n)(hn:n<=12000)(hP:PkIn w a c pk)(hv:∀x∈pk,x<256)(hIC:Z5u\/m≠8):
 Calls Tryz.prog 128 #[.int .u32 (m:Int),.slice a n c] w fun e w'=>Unp w m pk e w':=by
 by_cases h0:m=0
 . subst h0;have hu:unpF 0 pk=some pk:=rfl;have HP:=Ab hP;have HU:=Ab hu;have HV:=Ab hv;have HL:=Ab hl;clear hP hu hv hl;go_enter Tryz.func128,Tryz.ntmps128
   go_wp2_with (at_builtin;refine Og rfl _ _ rfl w.heap.size (.slice none 0 0) [] pk rfl (World.ownsRow_nil _ _ _ _) a n c rfl (Aa HL) (Aa HP) (by simp;omega) (VB _) ?_)
   intro v' w' hO hg;have hO2:w'.ownsRow w.heap.size 5 1 v' pk.length (u8s pk):=by simpa using hO
   obtain⟨a',c',rfl,q1,q2,q3,q4⟩:=Ve hO2;have HF:Hid (Unp w 0 pk (.returned (.tuple #[.slice a' pk.length c',.bool true])) w'):=Ab ⟨(Below.refl w.heap.size w).grown hg (VB _) (fun g e=>by cases e),.inr ⟨pk,Aa HU,by rw[Aa HL];exact hn,Aa HV,a',c',rfl,q2,q1,fun g o e _=>q4 g o e⟩⟩;clear hO hg hO2 q1 q2 q3 q4;go_wp2;go_ret2;exact Aa HF
 . by_cases h8:m=8
   . subst h8;have hC8:Z5u:=by rcases hIC with h|h;exact h;exact absurd rfl h
     clear h0 hIC;have hv2:=Er hv;have hu:unpF 8 pk=if pk.length<=6000/\(Dk (rowB pk pk.length)).e=0/\((Dk (rowB pk pk.length)).p+7)/8=pk.length then some (Dk (rowB pk pk.length)).out else none:=rfl
     rw[hl]at hu
     by_cases h6:n<=6000
     . have HC:=Ab (hC8.1 a n c pk w hl h6 hP.1 hv2);have hval:=H9 (rowB pk n) n (Af pk n);have hah:(Dk (rowB pk n)).e=0->(Dk (rowB pk n)).out.length<=12000:=fun e=>by have:=Rn (rowB pk n) n (Af pk n) e;omega
       obtain⟨U,hU⟩:∃U,Dk (rowB pk n)=U:=⟨_,rfl⟩
       unfold Z8h at HC;rw[hU]at HC hu hval hah;have HAH:=Ab hah;have HU:=Ab hu;have HVA:=Ab hval;clear hl hP hv hv2 hu hU hval hah;go_enter Tryz.func128,Tryz.ntmps128
       go_wp2_with fail
       refine(Aa HC).mono ?_;rintro e w1 ⟨hB,(⟨e0,ov,kv,rfl,ho,hk⟩|⟨e0,rfl⟩)⟩
       . obtain⟨a',c',rfl,q1,q2,q3,q4⟩:=Ve ho;obtain⟨ka,kc,rfl⟩:=An hk;have hvv:∀x∈U.out,x<256:=Yf (Aa HVA e0);have hLb:=Aa HAH e0;obtain⟨L,hL⟩:∃L,U.out.length=L:=⟨_,rfl⟩
         rw[hL]at hLb;obtain⟨KL,hKL⟩:∃KL,U.ks.length=KL:=⟨_,rfl⟩
         obtain⟨P,hPP⟩:∃P,(U.p+7)/8=P:=⟨_,rfl⟩
         rw[hL,hKL,hPP]
         by_cases hq:P=n
         . have HF:Hid (Unp w 8 pk (.returned (.tuple #[.slice a' L c',.bool true])) w1):=Ab ⟨hB,.inr ⟨U.out,by rw[Aa HU,if_pos ⟨h6,e0,by rw[hPP];exact hq⟩],by rw[hL];exact hLb,hvv,a',c',by rw[hL],q2,q1,fun g o e _=>Nat.le_of_succ_le (q4 g o e)⟩⟩;have hqb:((P:Int)==(n:Int))=true:=by rw[beq_iff_eq];omega
           clear hB ho hk q1 q2 q3 q4 hvv hL hKL hPP hq e0;go_wp2;go_ret2;exact Aa HF
         . have HF:Hid (Unp w 8 pk (.returned (.tuple #[.slice a' L c',.bool false])) w1):=Ab ⟨hB,.inl ⟨by rw[Aa HU,if_neg (by intro hh;exact hq (hPP.symm.trans hh.2.2))],a',L,c',rfl⟩⟩;have hqb:((P:Int)==(n:Int))=false:=by rw[beq_eq_false_iff_ne];omega
           clear hB ho hk q1 q2 q3 q4 hvv hL hKL hPP hq e0;go_wp2;go_ret2;exact Aa HF
       . have HF:Hid (Unp w 8 pk (.returned (.tuple #[.slice none 0 0,.bool false])) w1):=Ab ⟨hB,.inl ⟨by rw[Aa HU,if_neg (by intro hh;exact e0 hh.2.1)],none,0,0,rfl⟩⟩;obtain⟨E,hE⟩:∃E,U.e=E:=⟨_,rfl⟩
         rw[hE]at e0 ⊢;have heb:(E==0)=false:=by rw[beq_eq_false_iff_ne];exact e0
         clear hB hE e0;go_wp2;go_ret2;exact Aa HF
     . have HC:=Ab (hC8.2 a n c w (by omega) (by omega));have HF:Hid (Unp w 8 pk (.returned (.tuple #[.slice none 0 0,.bool false])) w):=Ab ⟨Below.refl _ _,.inl ⟨by rw[hu,if_neg (by intro hh;exact h6 hh.1)],none,0,0,rfl⟩⟩;clear hl hP hv hv2 hu;go_enter Tryz.func128,Tryz.ntmps128
       go_wp2_with fail
       refine(Aa HC).mono ?_;rintro e w1 ⟨rfl,rfl⟩;go_wp2;go_ret2;exact Aa HF
   . have hu:unpF m pk=none:=by unfold unpF;rw[if_neg h0,if_neg h8]
     have HF:Hid (Unp w m pk (.returned (.tuple #[.slice none 0 0,.bool false])) w):=Ab ⟨Below.refl _ _,.inl ⟨hu,none,0,0,rfl⟩⟩;have hb0:((m:Int)==0)=false:=by rw[beq_eq_false_iff_ne];omega
     have hb8:((m:Int)==8)=false:=by rw[beq_eq_false_iff_ne];omega
     clear hl hP hv hu;go_enter Tryz.func128,Tryz.ntmps128
     go_wp2;go_ret2;exact Aa HF
end Go.Proofs.YtleocpdblhbimaaGreatDoor
