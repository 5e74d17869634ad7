import Derived.Deep.WholeRow
import Derived.Laws.ResultCell
import Derived.Test.YtieianhejdcgdaaGreatDoorQ16
set_option maxHeartbeats 4000000
namespace Go.Proofs.YtieianhejdcgdaaGreatDoor
open Go.RowKit
set_option linter.unusedVariables false
set_option maxRecDepth 100000
def tab (c:Nat->Nat):Array Value:=((List.range 256).map fun n=>Value.int .u32 ((c n:Nat):Int)).toArray
theorem Gl (c:Nat->Nat):(tab c).size=256:=by simp[tab]
theorem JN (c:Nat->Nat){j:Nat}(h:j<256):(tab c)[j]? =some (.int .u32 ((c j:Nat):Int)):=by simp[tab,h]
theorem Z20 (c:Nat->Nat):(tab c).all (·.oneCell')=true:=by
 rw[Array.all_eq_true'];intro x hx;obtain⟨n,_,rfl⟩:∃n,n<256/\Value.int .u32 ((c n:Nat):Int)=x:=by simpa[tab]using hx
 rfl
def Tz (c:Nat->Nat)(j x:Nat):Nat->Nat:=fun n=>if n=j then x else c n
theorem Z1z (c:Nat->Nat)(j x:Nat):(tab c).setIfInBounds j (.int .u32 ((x:Nat):Int))=tab (Tz c j x):=by
 apply Array.ext_getElem?
 intro i;rw[Array.getElem?_setIfInBounds]
 by_cases h:i<256
 . rw[JN _ h,Gl,JN _ h]
   by_cases e:j=i
   . subst e;simp[Tz,h]
   . rw[if_neg e];unfold Tz;rw[if_neg (fun h=>e h.symm)]
 . have h1:∀f,(tab f)[i]? =none:=fun f=>by simp[Gl];omega
   rw[h1,h1,Gl]
   by_cases e:j=i
   . rw[if_pos e,if_neg (by omega)]
   . rw[if_neg e]
theorem JM {c d:Nat->Nat}(h:∀n,n<256->c n=d n):tab c=tab d:=by
 unfold tab
 congr 1
 apply YI
 intro n hn;rw[h n (by simpa using hn)]
def Tab (w:World)(b:Nat)(c:Nat->Nat):Prop:=w.heap[b]? =some (.cells (tab c) 179 (0,0))
theorem Tab.cell {w:World}{b:Nat}{c:Nat->Nat}(h:Tab w b c){j:Nat}(hj:j<256):w.cell? ⟨b,j,none⟩=some (.int .u32 ((c j:Nat):Int)):=by
 rw[cell_of_row w b j _ _ _ h];exact JN c hj
theorem Tab.frozen {w:World}{b:Nat}{c:Nat->Nat}(h:Tab w b c)(j:Nat):w.frozen? ⟨b,j,none⟩=false:=frozen_of_row w b j _ _ h
theorem Tab.set {w:World}{b:Nat}{c:Nat->Nat}(h:Tab w b c)(j x:Nat):Tab (w.setCell ⟨b,j,none⟩ (.int .u32 ((x:Nat):Int))) b (Tz c j x):=by
 unfold Tab;rw[heap_setCell_same w b j _ _ _ h,Z1z]
theorem Tab.other {w:World}{b:Nat}{c:Nat->Nat}(h:Tab w b c){a:Addr}(hb:b≠a.block)(v:Value):Tab (w.setCell a v) b c:=by
 unfold Tab;rw[heap_setCell_other w a b v hb];exact h
theorem Tab.setRow {w:World}{b:Nat}{c:Nat->Nat}(h:Tab w b c)(d:Nat->Nat):Tab (w.setRow b (tab d)) b d:=setRow_heap w b _ _ _ _ h
theorem Tab.congr {w:World}{b:Nat}{c d:Nat->Nat}(h:Tab w b c)(e:∀n,n<256->c n=d n):Tab w b d:=by
 unfold Tab;rw[<-JM e];exact h
theorem Xe:(Tryz.prog.info? 179).map (·.size)=some 256:=by kernel_rfl
theorem X8:∀w:World,(zeroValue 179).run Tryz.prog w=.ok (.agg (tab (fun _=>0))) w:=(zero_of_info (n:=256) (by kernel_rfl)).1
theorem Mi {B:Nat}{a w:World}(h:Below B a w){g:Nat}(hg:B<=g)(cs:Array Value):Below B a (w.setRow g cs):=
 ⟨h.os,h.tape,h.output,by simp;exact h.size,fun k hk=>(Go.setRow_other w g k cs (by omega)).trans (h.block k hk)⟩
theorem SU {ops:Array Oper}{rest:List Oper}{o:Oper}{a:Act}{w:World}{Q:Exit->Act->World->Prop}(hgd:o.guard=none)(x:Operand)(ho:o.op=.load 179 x)
 (b:Nat) (c:Nat->Nat) (hx:a.eval x=.pointer (some ⟨b,0,none⟩)) (h:Tab w b c) (k:wpList Tryz.prog ops Q rest (a.put o.dst (.agg (tab c))) w):wpList Tryz.prog ops Q (o::rest) a w:=
 wpList_load_row hgd 179 x ho b hx _ _ _ _ h Tryz.underlying179 rfl (by rw[Gl];exact Xe) k
theorem Zm {ops:Array Oper}{rest:List Oper}{o:Oper}{a:Act}{w:World}{Q:Exit->Act->World->Prop}(hgd:o.guard=none)(x y:Operand)(ho:o.op=.store 179 x y)
 (b:Nat) (c d:Nat->Nat) (hx:a.eval x=.pointer (some ⟨b,0,none⟩)) (hy:a.eval y=.agg (tab d)) (h:Tab w b c) (k:wpList Tryz.prog ops Q rest (a.put o.dst undef) (w.setRow b (tab d))):wpList Tryz.prog ops Q (o::rest) a w:=
 wpList_store_row hgd 179 x y ho b _ hx hy _ _ h (by rw[Gl];exact Xe) (by rw[Gl,Gl]) (Z20 d) k
theorem Z7a {m:Nat}(h:m<4294967296):bits .and .u32 (m:Int) 1=((m%2:Nat):Int):=by
 have:=u32_and_nat m 1 h (by decide)
 rw[Nat.and_one_is_mod]at this;exact this
theorem Z7e {m:Nat}(h:m<4294967296):bits .xor .u32 ((m:Int)/2) 3988292384=((m/2^^^3988292384:Nat):Int):=by
 have:=u32_xor_nat (m/2) 3988292384 (by omega) (by decide)
 rw[<-this];rfl
theorem Ta (n:Nat)(w:World)(hn:n<4294967296):
 Calls Tryz.prog 154 #[.int .u32 (n:Int)] w fun e w'=>e=.returned (.int .u32 (Jl 8 n:Nat))/\w'=w:=by
 go_enter Tryz.func154,Tryz.ntmps154
 go_wp2;go_loop [0,4] (fun t i=>∃k:Nat,k<=8/\i=.int .i64 k/\t=.int .u32 (Jl k n:Nat)) (fun _ i=>8-(intOf i).toNat)
 case atStart=>exact⟨0,VM _,rfl,rfl⟩
 case round=>
  obtain⟨k,hk,rfl,rfl⟩:=hrel
  by_cases hlt:k<8
  . have hb:=Wx k hn;have H:Hid (Jl (k+1) n=lft (Jl k n)):=LW k n;generalize Jl k n=m at*
    by_cases e:m%2=1
    . have h1:(bits .and .u32 (m:Int) 1==1)=true:=by rw[Z7a hb,e];rfl
      have HX:=Ab (Z7e hb);have HL:Hid (lft m=m/2^^^3988292384):=Ab (by unfold lft;rw[if_pos e]);go_wp2;go_round
      case rel=>exact⟨k+1,by omega,by go_num,by rw[H.out,Aa HX,Aa HL]⟩
      case measure=>simp[intOf];omega
    . have h1:(bits .and .u32 (m:Int) 1==1)=false:=by rw[Z7a hb,show m%2=0 by omega];rfl
      have HL:Hid (lft m=m/2):=Ab (by unfold lft;rw[if_neg e]);go_wp2;go_round
      case rel=>exact⟨k+1,by omega,by go_num,by rw[H.out,Aa HL];rfl⟩
      case measure=>simp[intOf];omega
  . have e:k=8:=by omega
    subst e;go_wp2;go_ret
    trivial
def Zi (k:Nat):Nat->Nat:=fun n=>if n<k then Jl 8 n else 0
theorem DH (k:Nat):Tz (Zi k) k (Jl 8 k)=Zi (k+1):=by
 funext n
 unfold Tz Zi
 by_cases e:n=k
 . subst e;simp
 . rw[if_neg e]
   by_cases h:n<k
   . rw[if_pos h,if_pos (by omega)]
   . rw[if_neg h,if_neg (by omega)]
theorem DG:Zi 0=fun _=>0:=by funext n;simp[Zi]
theorem M9 (w:World):
 Calls Tryz.prog 118 #[] w fun e w'=>e=.returned (.agg (tab (Jl 8)))/\Below w.heap.size w w':=by
 have hz:=X8;go_enter Tryz.func118,Tryz.ntmps118
 go_wp2;have HR:Hid (Tab ((w.alloc (.cells (tab (fun _=>0)) 179)).alloc (.cells (tab (fun _=>0)) 179)) w.heap.size (fun _=>0)):=Ab ((Below.heap_alloc _ _ _ (by simp)).trans (heap_alloc_new _ _))
 have HM:Hid (Tab ((w.alloc (.cells (tab (fun _=>0)) 179)).alloc (.cells (tab (fun _=>0)) 179)) (w.heap.size+1) (Zi 0)):=Ab (by
  have:=heap_alloc_new (w.alloc (.cells (tab (fun _=>0)) 179)) (.cells (tab (fun _=>0)) 179)
  rw[World.size_alloc]at this;rw[DG];exact this)
 have HB:=Ab (((Below.refl w.heap.size w).alloc (VC _) (.cells (tab (fun _=>0)) 179)).alloc (by simp) (.cells (tab (fun _=>0)) 179));go_loopw [3] (fun i wr=>∃k:Nat,k<=256/\i=.int .u32 (k:Int)/\Tab wr w.heap.size (fun _=>0)/\Tab wr (w.heap.size+1) (Zi k)/\Below w.heap.size w wr) (fun i _=>256-(intOf i).toNat)
 case atStart=>exact⟨0,by omega,rfl,Aa HR,Aa HM,Aa HB⟩
 case round=>
  obtain⟨k,hk,rfl,hR,hM,hB⟩:=hrel;have HR1:=Ab hR;have HM1:=Ab hM;have HB1:=Ab hB
  by_cases hlt:k<256
  . have c1:=hM.cell (j:=k) hlt;have f1:=hM.frozen k;clear hR hM hB HR HM HB;go_wp2_with (go_at_call 154;refine(Ta _ _ (by omega)).mono ?_;rintro e w' ⟨rfl,rfl⟩)
    go_roundw
    case rel=>exact⟨k+1,by omega,by go_num,(Aa HR1).other (by simp) _,by rw[<-DH];exact(Aa HM1).set _ _,(Aa HB1).setCell (by simp) _⟩
    case measure=>simp[intOf];omega
  . obtain rfl:k=256:=by omega
    have HX:=Ab ((Aa HM1).congr (d:=Jl 8) (fun n hn=>by unfold Zi;rw[if_pos hn]));go_wp2_with (first|(refine SU rfl (.tmp 1) rfl _ (Jl 8) rfl (Aa HX) ?_)|(refine Zm rfl (.tmp 0) (.tmp 11) rfl _ _ (Jl 8) rfl rfl (Aa HR1) ?_))
    have HY:=Ab ((Aa HR1).setRow (Jl 8));refine bodyPost_ret (v:=.agg (tab (Jl 8))) ?_ rfl ⟨rfl,Mi (Aa HB1) (by omega) _⟩;exact results_cell_row rfl _ _ _ _ _ _ _ rfl (Aa HY) Tryz.underlying179 rfl (by rw[Gl];exact Xe)
theorem Z0a {w:World}{a:Option Addr}{bs:List Nat}(h:BytesIn w a bs){j:Nat}(hj:j<bs.length):∃b o,a=some ⟨b,o,none⟩/\b<w.heap.size/\w.cell? ⟨b,o+j,none⟩=some (.int .u8 ((bs.getD j 0:Nat):Int)):=by
 rcases h with h|⟨b,o,h1,h2,h3⟩
 . subst h;simp at hj
 . exact⟨b,o,h1,h2,h3 j hj⟩
theorem Z77 {n:Nat}(h:n<4294967296):bits .xor .u32 IntKind.u32.max (n:Int)=((n^^^4294967295:Nat):Int):=by
 have:=u32_xor_nat 4294967295 n (by decide) h
 rw[Nat.xor_comm]at this;exact this
theorem Z33 {n x:Nat}(hn:n<4294967296)(hx:x<256):bits .xor .u8 ((n:Int)%256) (x:Int)=(((n^^^x)%256:Nat):Int):=by
 have h:=u8_xor_nat (n%256) x (Nat.mod_lt _ (by decide)) hx;have e:((n%256:Nat):Int)=(n:Int)%256:=rfl;rw[e]at h;rw[h];have h2:(n^^^x)%2^8=n%2^8^^^x%2^8:=Nat.xor_mod_two_pow;rw[show (256:Nat)=2^8 from rfl,h2,Nat.mod_eq_of_lt (a:=x) (by simpa using hx)]
theorem TN {n m:Nat}(hn:n<4294967296)(hm:m<4294967296):bits .xor .u32 (m:Int) ((n:Int)/256)=((m^^^n/256:Nat):Int):=u32_xor_nat m (n/256) hm (by omega)
theorem Z3u {n x:Nat}(hx:x<256):Jl 8 ((n^^^x)%256)^^^n/256=Z4j n x:=by
 unfold Z4j;rw[EF (n^^^x)]
 congr 1
 have h2:(n^^^x)/2^8=n/2^8^^^x/2^8:=by simpa[Nat.shiftRight_eq_div_pow]using Nat.shiftRight_xor_distrib (a:=n) (b:=x) (i:=8)
 rw[show (256:Nat)=2^8 from rfl,h2,Nat.div_eq_of_lt (a:=x) (by simpa using hx),Nat.xor_zero]
theorem JK {bs:List Nat}{k:Nat}(h:k<bs.length):bs.take (k+1)=bs.take k++ [bs.getD k 0]:=by
 rw[XH];simp[List.getD,h]
theorem Z1c (p:Nat)(a:Option Addr)(n cap:Nat)(bs:List Nat)(w:World)(hl:bs.length=n)(hn:n<=12000)(hp:p<4294967296)(hby:BytesIn w a bs)(hv:∀j,bs.getD j 0<256):
 Calls Tryz.prog 83 #[.int .u32 (p:Int),.slice a n cap] w fun e w'=>e=.returned (.tuple #[.int .u32 (crcN p bs:Nat),.int .i64 0])/\Below w.heap.size w w':=by
 have hz:=X8;have h:¬(12000:Int)<(n:Int):=by omega
 have HBY:=Ab hby;have HV:=Ab hv;have HL:=Ab hl;clear hby hv hl;go_enter Tryz.func83,Tryz.ntmps83
 go_wp2_with fail
 refine(M9 w).mono ?_;rintro e w1 ⟨rfl,hB1⟩;have HB1:=Ab hB1;clear hB1;have HN:Hid (Tab (w1.alloc (.cells (tab (fun _=>0)) 179)) w1.heap.size (fun _=>0)):=Ab (heap_alloc_new _ _);go_wp2_with (refine Zm rfl (.tmp 6) (.tmp 13) rfl _ _ (Jl 8) rfl rfl (Aa HN) ?_)
 have HT:=Ab ((Aa HN).setRow (Jl 8));have HB:Hid (Below w.heap.size w ((w1.alloc (.cells (tab (fun _=>0)) 179)).setRow w1.heap.size (tab (Jl 8)))):=Ab (Mi ((Aa HB1).alloc (Aa HB1).size _) (Aa HB1).size _);have HP:=Ab (Z77 hp);rw[Aa HP];go_loopw [7,18] (fun r i wr=>∃k:Nat,k<=n/\i=.int .i64 (k:Int)/\r=.int .u32 (J6 (p^^^4294967295) (bs.take k):Nat)/\Hid (Tab wr w1.heap.size (Jl 8)/\Below w.heap.size w wr)) (fun _ i _=>n-(intOf i).toNat)
 case atStart=>exact⟨0,by omega,rfl,rfl,Ab ⟨Aa HT,Aa HB⟩⟩
 case round=>
  obtain⟨k,hk,rfl,rfl,hW⟩:=hrel
  by_cases hlt:k<n
  . have hkl:k<bs.length:=by rw[Aa HL];exact hlt
    obtain⟨b,o,rfl,hb,hc⟩:=Z0a (Aa HBY) hkl;have c0:=((Aa hW).2.cell (p:=⟨b,o+k,none⟩) hb).trans hc;have hx:=Aa HV k
    have hr:J6 (p^^^4294967295) (bs.take k)<4294967296:=Xq _ _ (fun y hy=>by
     obtain⟨i,hi,rfl⟩:=XC hy;have:=Aa HV i
     rw[VL]at hi;rw[ZG];rw[List.getD,VR (by omega)]at this;exact this) (AU hp)
    have HC:Hid (J6 (p^^^4294967295) (bs.take (k+1))=Z4j (J6 (p^^^4294967295) (bs.take k)) (bs.getD k 0)):=Ab (by rw[JK hkl,OL]);generalize J6 (p^^^4294967295) (bs.take k)=r at*;generalize bs.getD k 0=x at*;have hi:=Z33 hr hx;have hlo:(r^^^x)%256<256:=Nat.mod_lt _ (by decide);have c1:=(Aa hW).1.cell hlo;have HS:=Ab (Z3u (n:=r) hx);have ht:=Wx 8 (show (r^^^x)%256<4294967296 by omega);have HH:=Ab (TN hr ht);generalize (r^^^x)%256=q at*;clear hc hb hkl HT HB HN HB1;go_wp2;go_roundw
    case rel=>exact⟨k+1,by omega,by go_num,by rw[Aa HH,Aa HS,Aa HC],hW⟩
    case measure=>simp[intOf];omega
  . have e:k=n:=by omega
    subst e;have HE:Hid (J6 (p^^^4294967295) (bs.take k)^^^4294967295=crcN p bs):=Ab (by rw[VP (by rw[Aa HL];exact VC _)];rfl)
    have hr:J6 (p^^^4294967295) (bs.take k)<4294967296:=Xq _ _ (fun y hy=>by
     obtain⟨i,hi,rfl⟩:=XC hy;have:=Aa HV i
     rw[VL]at hi;rw[ZG];rw[List.getD,VR (by omega)]at this;exact this) (AU hp)
    have HNN:=Ab (Z77 hr);clear hr;go_wp2;go_ret2;exact⟨by rw[Aa HNN,Aa HE];rfl,(Aa hW).2⟩
end Go.Proofs.YtieianhejdcgdaaGreatDoor
namespace Go.Proofs.YtieianhejdcgdaaGreatDoor
open Go.RowKit
set_option linter.unusedVariables false
set_option linter.unusedSimpArgs false
set_option maxRecDepth 100000
theorem PI (No:Nat->Prop)(B b k:Nat)(a:Option Addr)(n cap:Nat)(bs:List Nat)(u:US)(w0 w:World)(h:Bk No B w0 b (.slice a n cap) u w)(hR:Rd w No a n bs)(hp:u.p<=8*n)(he:u.e=0)(ho:u.out.length<=3000)(hk:u.ks.length<=48000)(hk4:k<4):
 Calls Tryz.prog 239 #[.pointer (some ⟨b,0,none⟩),.int .i64 (k:Int)] w fun e w'=>PX No B w0 b (.slice a n cap) (Dw (rowB bs n) k u) e w':=by
 rcases(by omega:k=0\/k=1\/k=2\/k=3)with rfl|rfl|rfl|rfl
 . exact GT No B b a n cap bs u w0 w h hR hp he ho hk
 . exact GS No B b a n cap bs u w0 w h hR hp he ho hk
 . exact GQ No B b a n cap bs u w0 w h hR hp he ho hk
 . exact GP No B b 3 (.slice a n cap) u (rowB bs n) w0 w h (by decide) (by decide)
theorem Bk.cellP {No:Nat->Prop}{B b n:Nat}{w0 w:World}{R:Value}{u:US}(h:Bk No B w0 b R u w):LY n b w=8*n+1-u.p:=by
 obtain⟨No',f1,f2,_,_,hI,_⟩:=h;exact Lp hI
theorem M1 (No:Nat->Prop)(B b size:Nat)(a:Option Addr)(n cap:Nat)(bs:List Nat)(u:US)(w0 w:World)(h:Bk No B w0 b (.slice a n cap) u w)(hR:Rd w No a n bs)(hp:u.p<=8*n)(he:u.e=0)(hs:size<=16)(r:Nat)(v:US)(hr:uget (rowB bs n) size u=(r,v)):
 Calls Tryz.prog 238 #[.pointer (some ⟨b,0,none⟩),.int .i64 (size:Int)] w fun e w'=>(v.e=0/\e=.returned (.int .i64 (r:Int))/\Bk No B w0 b (.slice a n cap) v w')\/ (v.e≠0/\e=Flt v.e/\Bl No B w0 w'):=by
 obtain⟨No',f1,f2,hn,hNo,hI,hF,hB⟩:=h;refine(Dt No' B b a n cap size bs f1 f2 u w hI (hR.wide hn) hp he hs r v (Ab hr)).mono ?_;rintro e w' (⟨e0,rfl,hU⟩|⟨e0,rfl,hBl⟩)
 . exact .inl ⟨e0,rfl,No',f1,f2,hn,fun g hg=>hNo g (VX hU.below.size hg),hU.is,hF.keep hU.below.size hU.kp,hB.outer hU.bl hn⟩
 . exact .inr ⟨e0,rfl,hB.outer hBl hn⟩
theorem Bk.bl {No:Nat->Prop}{B b:Nat}{w0 w:World}{R:Value}{u:US}(h:Bk No B w0 b R u w):Bl No B w0 w:=by
 obtain⟨No',f1,f2,_,_,_,_,hB⟩:=h;exact hB
theorem GO (No:Nat->Prop)(B b:Nat)(a:Option Addr)(n cap:Nat)(bs:List Nat)(w:World)(h:IIs No B w b (.slice a n cap) .nilFunc .nilFunc US0)(hR:Rd w No a n bs)(hNo:∀g,w.heap.size<=g->¬No g):
 Calls Tryz.prog 213 #[.pointer (some ⟨b,0,none⟩)] w fun e w'=>PX No B w b (.slice a n cap) (Dd (rowB bs n)) e w':=by
 have hrl:=Ag bs n;have hfew:=hR.few;obtain⟨row,hrow⟩:∃row,rowB bs n=row:=⟨_,rfl⟩
 obtain⟨V,hV⟩:∃V,Dd row=V:=⟨_,rfl⟩
 have HBK0:Hid (Bk No B w b (.slice a n cap) US0 w):=Ab ⟨No,.nilFunc,.nilFunc,fun _ h=>h,hNo,h,.inl ⟨rfl,rfl⟩,Bl.refl _ _ _⟩;have HRW:Hid (∀wr,Bl No B w wr->Rd wr No a n bs):=Ab (fun wr hb=>hR.keep hb.below.size hb.kp);have HNUM:Hid (∀(wr:World) (u:US) (size r:Nat) (v:US),Bk No B w b (.slice a n cap) u wr->u.p<=8*n->u.e=0->size<=16->uget row size u=(r,v)->Calls Tryz.prog 238 #[.pointer (some ⟨b,0,none⟩),.int .i64 (size:Int)] wr fun e w'=>(v.e=0/\e=.returned (.int .i64 (r:Int))/\Bk No B w b (.slice a n cap) v w')\/ (v.e≠0/\e=Flt v.e/\Bl No B w w')):=Ab (fun wr u size r v hb h1 h2 h3 h4=>M1 No B b size a n cap bs u w wr hb (Aa HRW wr hb.bl) h1 h2 h3 r v (by rw[hrow];exact h4))
 have HBLK:Hid (∀(wr:World) (u:US) (k:Nat),Bk No B w b (.slice a n cap) u wr->u.p<=8*n->u.e=0->u.out.length<=3000->u.ks.length<=48000->k<4->Calls Tryz.prog 239 #[.pointer (some ⟨b,0,none⟩),.int .i64 (k:Int)] wr fun e w'=>PX No B w b (.slice a n cap) (Dw row k u) e w'):=Ab (fun wr u k hb h1 h2 h3 h4 h5=>by
  have:=PI No B b k a n cap bs u w wr hb (Aa HRW wr hb.bl) h1 h2 h3 h4 h5
  rw[hrow]at this;exact this)
 rw[hrow]at hrl ⊢;rw[hV];obtain⟨F0,hF0⟩:∃F0,row.length+1=F0:=⟨_,rfl⟩
 have HV:Hid (Ce row F0 US0=V):=Ab (by rw[<-hF0];exact hV);have HF0:Hid (8*n+1<=US0.p+F0):=Ab (by rw[<-hF0,hrl];show _<=0+_;omega);clear h hR hNo hrow hV hF0;go_enter Tryz.func213,Tryz.ntmps213
 go_wp2;go_loopw [2] (fun v2 wr=>∃(u:US) (l f:Nat),v2=.int .i64 (l:Int)/\Hid (u.e=0/\u.p<=8*n/\u.out.length<=3000/\u.ks.length<=u.p)/\Hid (Bk No B w b (.slice a n cap) u wr)/\((l=0/\Hid (Ce row f u=V)/\Hid (8*n+1<=u.p+f))\/ (l≠0/\Hid (u=V)))) (fun _ wr=>LY n b wr)
 case atStart=>exact⟨US0,0,F0,rfl,Ab ⟨rfl,VM _,VM _,VM _⟩,HBK0,.inl ⟨rfl,HV,HF0⟩⟩
 case round=>
  obtain⟨u,l,f,rfl,hst,hBK,hor⟩:=hrel;obtain⟨he,hp,ho,hks⟩:=Aa hst
  rcases hor with ⟨rfl,hIB,hf⟩|⟨hl,hVu⟩
  . have hf2:=Aa hf
    cases f with
    |zero=>exact absurd hf2 (by omega)
    |succ f=>
     have hib:=Aa hIB;rw[Ce]at hib;obtain⟨r1,v1,h1⟩:∃r1 v1,uget row 1 u=(r1,v1):=⟨_,_,rfl⟩
     obtain⟨r2,v2,h2⟩:∃r2 v2,uget row 2 v1=(r2,v2):=⟨_,_,rfl⟩
     have hib1:Bv row u=if v1.e≠0 then (1,v1)else if v2.e≠0 then (1,v2)else (r1,Dw row r2 v2):=by
      unfold Bv;rw[h1];simp only
      rw[h2]
     have q1:v1.p<=8*n:=by have:=Gp row 1 u (by omega);rw[h1,hrl]at this;exact this
     have q2:v2.p<=8*n:=by have:=Gp row 2 v1 (by omega);rw[h2,hrl]at this;exact this
     have o1:v1.out=u.out:=by have:=Cg row 1 u;rw[h1]at this;exact this
     have o2:v2.out=u.out:=by have:=Cg row 2 v1;rw[h2]at this;exact this.trans o1
     have s1:v1.ks=u.ks:=by have:=Ht row 1 u;rw[h1]at this;exact this
     have s2:v2.ks=u.ks:=by have:=Ht row 2 v1;rw[h2]at this;exact this.trans s1
     have l2:r2<4:=by have:=PY row 2 v1;rw[h2]at this;exact this
     have HAH:Hid ((Bv row u).2.e=0->(Bv row u).2.ks.length=u.ks.length+1/\u.p+3<=(Bv row u).2.p/\(Bv row u).2.p<=row.length/\(Bv row u).2.out.length<=3000):=Ab (Jp row n hrl u he (by omega) ho);have HN1:=Ab (Aa HNUM wr u 1 r1 v1 (Aa hBK) hp he (by decide) h1);have HN2:Hid (∀W,v1.e=0->Bk No B w b (.slice a n cap) v1 W->Calls Tryz.prog 238 #[.pointer (some ⟨b,0,none⟩),.int .i64 2] W fun e w'=>(v2.e=0/\e=.returned (.int .i64 (r2:Int))/\Bk No B w b (.slice a n cap) v2 w')\/ (v2.e≠0/\e=Flt v2.e/\Bl No B w w')):=Ab (fun W h3 h4=>Aa HNUM W v1 2 r2 v2 h4 q1 h3 (by decide) h2);have HB2:Hid (∀W,v2.e=0->Bk No B w b (.slice a n cap) v2 W->Calls Tryz.prog 239 #[.pointer (some ⟨b,0,none⟩),.int .i64 (r2:Int)] W fun e w'=>PX No B w b (.slice a n cap) (Dw row r2 v2) e w'):=Ab (fun W h3 h4=>Aa HBLK W v2 r2 h4 q2 h3 (by rw[o2];exact ho) (by rw[s2];omega) l2);have HIB1:=Ab hib1;have HIBS:=Ab hib;have HLEFT:=Ab ((Aa hBK).cellP (n:=n));clear hib hib1 h1 h2 o1 o2 s1 s2 hIB hf;go_wp2_with fail
     refine(Aa HN1).mono ?_;rintro e w1 (⟨e1,rfl,hK1⟩|⟨e1,rfl,hL1⟩)
     rotate_left
     . have HF:Hid (V=v1):=Ab (by
        have:=Aa HIBS
        rw[Aa HIB1,if_pos e1,if_neg (fun c=>absurd (show (1:Nat)=0 from c.1) (by decide))]at this;exact this.symm)
       have HL:=Ab hL1;clear hL1;go_wp2;exact⟨rfl,.inr ⟨by rw[Aa HF];exact e1,by rw[Aa HF],Aa HL⟩⟩
     have HK1:=Ab hK1;clear hK1;go_wp2_with fail
     refine(Aa HN2 w1 e1 (Aa HK1)).mono ?_;rintro e w2 (⟨e2,rfl,hK2⟩|⟨e2,rfl,hL2⟩)
     rotate_left
     . have HF:Hid (V=v2):=Ab (by
        have:=Aa HIBS
        rw[Aa HIB1,if_neg (show ¬v1.e≠0 from fun c=>c e1),if_pos e2,if_neg (fun c=>absurd (show (1:Nat)=0 from c.1) (by decide))]at this;exact this.symm)
       have HL:=Ab hL2;clear hL2;go_wp2;exact⟨rfl,.inr ⟨by rw[Aa HF];exact e2,by rw[Aa HF],Aa HL⟩⟩
     have HK2:=Ab hK2;have HIB3:Hid (Bv row u=(r1,Dw row r2 v2)):=Ab (by rw[Aa HIB1,if_neg (show ¬v1.e≠0 from fun c=>c e1),if_neg (show ¬v2.e≠0 from fun c=>c e2)]);clear hK2;go_wp2_with fail
     refine(Aa HB2 w2 e2 (Aa HK2)).mono ?_;obtain⟨Y,hY⟩:∃Y,Dw row r2 v2=Y:=⟨_,rfl⟩
     rw[hY]at HIB3 ⊢;have hibs:=Aa HIBS;have hah:=Aa HAH;rw[Aa HIB3]at hibs hah;simp only at hibs hah
     have HIS:=Ab hibs;have HAY:=Ab hah;clear hibs hah hY;rintro e w3 (⟨e3,rfl,hK3⟩|⟨e3,rfl,hL3⟩)
     rotate_left
     . have HF:Hid (V=Y):=Ab (by
        have:=Aa HIS
        rw[if_neg (fun c=>e3 c.2)]at this;exact this.symm)
       have HL:=Ab hL3;clear hL3;go_wp2;exact⟨rfl,.inr ⟨by rw[Aa HF];exact e3,by rw[Aa HF],Aa HL⟩⟩
     obtain⟨y1,y2,y3,y4⟩:=Aa HAY e3;rw[hrl]at y3;have HK3:=Ab hK3;have HLF3:=Ab (hK3.cellP (n:=n))
     have HNEXT:Hid ((r1=0/\Hid (Ce row f Y=V)/\Hid (8*n+1<=Y.p+f))\/ (r1≠0/\Hid (Y=V))):=Ab (by
      have:=Aa HIS
      by_cases c:r1=0
      . rw[if_pos ⟨c,e3⟩]at this;exact .inl ⟨c,Ab this,Ab (by omega)⟩
      . rw[if_neg (fun d=>c d.1)]at this;exact .inr ⟨c,Ab this⟩)
     clear hK3;go_wp2;go_roundw
     case rel=>exact⟨Y,r1,f,rfl,Ab ⟨e3,y3,y4,by omega⟩,HK3,Aa HNEXT⟩
     case measure=>rw[Aa HLF3,Aa HLEFT];omega
  . have hb:((l:Int)==0)=false:=by rw[beq_eq_false_iff_ne];omega
    have HF:Hid (PX No B w b (.slice a n cap) V (.returned (.tuple #[])) wr):=Ab (.inl ⟨by rw[<-Aa hVu];exact he,rfl,by rw[<-Aa hVu];exact Aa hBK⟩);clear hVu;go_wp2;go_end0
    exact Aa HF
end Go.Proofs.YtieianhejdcgdaaGreatDoor
namespace Go.Proofs.YtieianhejdcgdaaGreatDoor
set_option linter.unusedVariables false
set_option maxRecDepth 100000
theorem Cc (row:List Bool)(n:Nat)(u:US)(h:0<=u.e):0<=(uget row n u).2.e:=by
 unfold uget
 split
 . split
   . exact(by decide:(0:Int)<=7)
   . exact h
 . exact h
theorem AV (l:List Int)(row:List Bool)(p:Nat):∀f n,0<=(Fe l row p f n).2.2
 |0,n=>(by decide:(0:Int)<=8)
 |f+1,n=>by
  unfold Fe
  split
  . exact(by decide:(0:Int)<=7)
  . split
    . exact(by decide:(0:Int)<=0)
    . exact AV l row p f (n+1)
theorem Eb (l:List Int)(row:List Bool)(u:US)(h:0<=u.e):0<=(uplace l row u).2.e:=by
 unfold uplace
 split
 . exact AV l row u.p 15 1
 . exact h
theorem Fr (x:Int)(u:US)(hx:0<=x)(h:0<=u.e):0<=(Ay x u).e:=by
 unfold Ay
 split
 . exact hx
 . exact h
theorem IK (c:Nat)(u:US)(h:0<=u.e):0<=(Jt c u).e:=by
 unfold Jt
 split
 . split
   . exact(by decide:(0:Int)<=2)
   . exact h
 . exact h
theorem Yq (row:List Bool):∀(k:Nat) (u:US),0<=u.e->0<=(ustore row k u).e
 |0,u,h=>h
 |k+1,u,h=>by
  unfold ustore
  split
  . exact Yq row k _ (IK _ _ (Cc _ _ _ h))
  . exact h
theorem Z0 (d:Nat):∀(k:Nat) (u:US),0<=u.e->0<=(ucopy d k u).e
 |0,u,h=>h
 |k+1,u,h=>by
  unfold ucopy
  split
  . exact Z0 d k _ (IK _ _ h)
  . exact h
theorem ES (row:List Bool)(u:US)(h:0<=u.e):0<=(Cs row u).e:=by
 have h1:0<=(De row u).2.e:=by
  unfold De;dsimp only
  split
  . exact Fr _ _ (by decide) (Cc _ _ _ (Cc _ _ _ h))
  . exact Cc _ _ _ (Cc _ _ _ h)
 unfold Cs;dsimp only
 split
 . exact Fr _ _ (by decide) h1
 . exact Yq _ _ _ h1
theorem MX (row:List Bool)(l:List Int)(u:US)(h:0<=u.e):0<=(Ok row l u).2.e:=by
 unfold Ok
 split
 . exact Eb _ _ _ h
 . split
   . exact(by decide:(0:Int)<=8)
   . exact Cc _ _ _ (Eb _ _ _ h)
theorem TM (d k:Nat)(u:US)(h:0<=u.e):0<=(Ju d k u).e:=by
 unfold Ju
 split
 . exact(by decide:(0:Int)<=9)
 . split
   . exact(by decide:(0:Int)<=2)
   . exact Z0 _ _ _ h
theorem BI (row:List Bool)(lb:List Int)(k:Nat)(u:US)(h:0<=u.e):0<=(Cv row lb k u).e:=by
 unfold Cv
 split
 . split
   . exact(by decide:(0:Int)<=2)
   . exact h
 . split
   . exact(by decide:(0:Int)<=8)
   . split
     . exact Cc _ _ _ h
     . split
       . exact MX _ _ _ (Cc _ _ _ h)
       . exact TM _ _ _ (MX _ _ _ (Cc _ _ _ h))
theorem Xd (row:List Bool)(la lb:List Int):∀(f:Nat) (u:US),0<=u.e->0<=(Ib row la lb f u).e
 |0,u,h=>by
  unfold Ib
  split
  . exact Eb _ _ _ h
  . exact Eb _ _ _ h
 |f+1,u,h=>by
  rw[Jo]
  split
  . exact Eb _ _ _ h
  . split
    . exact Eb _ _ _ h
    . split
      . exact BI _ _ _ _ (Eb _ _ _ h)
      . exact Xd row la lb f _ (BI _ _ _ _ (Eb _ _ _ h))
theorem Ys (row:List Bool):∀(ks:List Nat) (s:List Int) (u:US),0<=u.e->0<=(usmall row ks s u).2.e
 | [],s,u,h=>h
 |k::r,s,u,h=>by
  rw[usmall];exact Ys row r _ _ (Cc _ _ _ h)
theorem QR (row:List Bool)(l:List Int)(k:Nat)(u:US)(h:0<=u.e):0<=(ukind row l k u).2.2.e:=by
 unfold ukind
 split
 . split
   . exact Fr _ _ (by decide) h
   . exact Cc _ _ _ h
 . split
   . exact Cc _ _ _ h
   . split
     . exact Cc _ _ _ h
     . exact h
theorem QP (tot:Nat)(l:List Int)(r:Int×Nat×US)(h:0<=r.2.2.e):0<=(Sr tot l r).2.e:=by
 unfold Sr;dsimp only
 split
 . exact Fr _ _ (by decide) h
 . exact h
theorem Y6 (row:List Bool)(S:List Int)(tot:Nat):∀(F:Nat) (l:List Int) (u:US),0<=u.e->0<=(ulens row S tot F l u).2.e
 |0,l,u,h=>h
 |F+1,l,u,h=>by
  rw[ulens]
  split
  . exact Y6 row S tot F _ _ (QP _ _ _ (QR _ _ _ _ (Eb _ _ _ h)))
  . exact h
theorem Y4 (row:List Bool)(u:US)(h:0<=u.e):0<=(Db row u).2.e:=by
 unfold Db;dsimp only;have h3:=Cc row 4 _ (Cc row 5 _ (Cc row 5 u h));generalize (uget row 5 u).1=m0 at*;generalize (uget row 5 (uget row 5 u).2).1=n0 at*;generalize uget row 4 (uget row 5 (uget row 5 u).2).2=g at*
 have hs:0<=(Gj row (m0+257) (n0+1) (g.1+4) g.2).2.e:=by
  unfold Gj;refine Ys _ _ _ _ ?_
  split
  . exact Fr _ _ (by decide) h3
  . exact h3
 generalize Gj row (m0+257) (n0+1) (g.1+4) g.2=s at*
 have hc:0<=(Tq s).e:=by
  unfold Tq
  split
  . exact Fr _ _ (by decide) hs
  . exact hs
 unfold Nn
 split
 . exact hc
 . have hl:=Y6 row s.1 (m0+257+(n0+1)) (m0+257+(n0+1)) [] (Tq s) hc;generalize ulens row s.1 (m0+257+(n0+1)) (m0+257+(n0+1)) [] (Tq s)=r at*;unfold Ig
   split
   . exact hl
   . split
     . exact Fr _ _ (by decide) hl
     . exact hl
theorem Xh (k:Nat)(u:US)(h:0<=u.e):0<=(Lr k u).e:=by
 unfold Lr
 split
 . exact h
 . exact h
theorem TH (row:List Bool)(k:Nat)(u:US)(h:0<=u.e):0<=(Dw row k u).e:=by
 unfold Dw
 split
 . exact Xh _ _ (ES _ _ h)
 . split
   . exact Xh _ _ (Xd _ _ _ _ _ h)
   . split
     . split
       . exact Y4 _ _ h
       . exact Xh _ _ (Xd _ _ _ _ _ (Y4 _ _ h))
     . exact(by decide:(0:Int)<=4)
theorem E5 (row:List Bool)(u:US)(h:0<=u.e):0<=(Bv row u).2.e:=by
 unfold Bv
 split
 . exact Cc _ _ _ h
 . split
   . exact Cc _ _ _ (Cc _ _ _ h)
   . exact TH _ _ _ (Cc _ _ _ (Cc _ _ _ h))
theorem Ur (row:List Bool):∀(F:Nat) (u:US),0<=u.e->0<=(Ce row F u).e
 |0,u,h=>h
 |F+1,u,h=>by
  rw[Ce]
  split
  . exact Ur row F _ (E5 row u h)
  . exact E5 row u h
theorem TB (row:List Bool):0<=(Dd row).e:=Ur row _ _ (by decide)
end Go.Proofs.YtieianhejdcgdaaGreatDoor
namespace Go.Proofs.YtieianhejdcgdaaGreatDoor
open Go.RowKit
set_option linter.unusedVariables false
set_option maxRecDepth 100000
def Z7b (w:World)(bs:List Nat)(n:Nat)(e:Ending)(w':World):Prop:=
 Below w.heap.size w w'/\(((Dd (rowB bs n)).e=0/\∃ov kv,e=.returned (.tuple #[ov,.int .i64 ((((Dd (rowB bs n)).p+7)/8:Nat):Int),kv,.int .i64 0])/\w'.ownsRow (w.heap.size+1) 5 1 ov (Dd (rowB bs n)).out.length (u8s (Dd (rowB bs n)).out)/\w'.ownsRow (w.heap.size+1) 3 1 kv (Dd (rowB bs n)).ks.length (i64s (Dd (rowB bs n)).ks))\/ ((Dd (rowB bs n)).e≠0/\e=.returned (.tuple #[.slice none 0 0,.int .i64 0,.slice none 0 0,.int .i64 (Dd (rowB bs n)).e])))
theorem Vt (a:Option Addr)(n cap:Nat)(bs:List Nat)(w:World)(hl:bs.length=n)(hn:n<=6000)(hby:BytesIn w a bs)(hv:∀j,bs.getD j 0<256):
 Calls Tryz.prog 174 #[.slice a n cap] w fun e w'=>Z7b w bs n e w':=by
 refine(CZ a n cap bs w hn (Dd (rowB bs n)) ?_ (TB _) (fun e=> ?_)).mono (fun e w' h=>h)
 . intro No B b W hI h1 h2 h3 h4 hBel
   have hRw:Rd w No a n bs:=⟨hl,hn,hby,hv,fun b o ea hne=>h2 b (by
    rcases hby with h0|⟨b',o',e',hb',_⟩
    . exact absurd h0 hne
    . rw[ea]at e';cases e';exact hb')⟩
   have hRW:Rd W No a n bs:=hRw.keep hBel.size (fun g hg _=>hBel.block g hg);refine(GO No B b a n cap bs W hI hRW (fun g hg=>h1 g (by omega))).mono ?_;rintro e w' (⟨e0,rfl,hK⟩|⟨e0,rfl,hb⟩)
   . obtain⟨No',f1,f2,hn',hNo',hI',hF',hB'⟩:=hK;exact .inl ⟨e0,rfl,f1,f2,hI'.weak hn',hB'.below,hB'.kp⟩
   . exact .inr ⟨e0,rfl,hb.below,hb.kp⟩
 . have:=(D8 (rowB bs n) n (Ag bs n) e).2.1
   rw[Ag]at this;omega
theorem Sq (a:Option Addr)(n cap:Nat)(w:World)(hn:6000<n)(hm:n<=9223372036854775807):
 Calls Tryz.prog 174 #[.slice a n cap] w fun e w'=>e=.returned (.tuple #[.slice none 0 0,.int .i64 0,.slice none 0 0,.int .i64 2])/\w'=w:=by
 have hnI:(6000:Int)<(n:Int):=by omega
 go_enter Tryz.func174,Tryz.ntmps174
 go_wp2;refine bodyPost_ret (v:=.tuple #[.slice none 0 0,.int .i64 0,.slice none 0 0,.int .i64 2]) ?_ rfl ⟨rfl,rfl⟩
 first|rfl|kernel_rfl
end Go.Proofs.YtieianhejdcgdaaGreatDoor
namespace Go.Proofs.YtieianhejdcgdaaGreatDoor
set_option linter.unusedVariables false
set_option maxRecDepth 100000
def Vl (u:US):Prop:=∀x∈u.out,x<256
theorem Vl.same {u v:US}(h:Vl u)(e:v.out=u.out):Vl v:=fun x hx=>h x (by rw[<-e];exact hx)
theorem Vl.at {u:US}(h:Vl u)(j:Nat):u.out.getD j 0<256:=by
 by_cases hj:j<u.out.length
 . rw[List.getD,VR hj];exact h _ (WR hj)
 . rw[List.getD,WA (by omega)];exact(by decide:(0:Nat)<256)
theorem Ec (row:List Bool)(n:Nat)(u:US)(h:Vl u):Vl (uget row n u).2:=h.same (Cg row n u)
theorem Ea (l:List Int)(row:List Bool)(u:US)(h:Vl u):Vl (uplace l row u).2:=h.same (Gk l row u).1
theorem Yk (x:Int)(u:US)(h:Vl u):Vl (Ay x u):=h.same (Yl x u).2.1
theorem IJ (c:Nat)(u:US)(hc:c<256)(h:Vl u):Vl (Jt c u):=by
 unfold Jt
 split
 . split
   . exact h
   . intro x hx
     rcases VZ.1 hx with h1|h1
     . exact h x h1
     . rw[WK.1 h1];exact hc
 . exact h
theorem Yo (row:List Bool):∀(k:Nat) (u:US),Vl u->Vl (ustore row k u)
 |0,u,h=>h
 |k+1,u,h=>by
  unfold ustore
  split
  . exact Yo row k _ (IJ _ _ (PY row 8 u) (Ec _ _ _ h))
  . exact h
theorem Y8 (d:Nat):∀(k:Nat) (u:US),Vl u->Vl (ucopy d k u)
 |0,u,h=>h
 |k+1,u,h=>by
  unfold ucopy
  split
  . exact Y8 d k _ (IJ _ _ (h.at _) h)
  . exact h
theorem EQ (row:List Bool)(u:US)(h:Vl u):Vl (Cs row u):=by
 have h0:Vl {u with p:=(u.p+7)/8*8}:=h
 have h1:Vl (De row u).2:=by
  unfold De;dsimp only
  split
  . exact Yk _ _ (Ec _ _ _ (Ec _ _ _ h0))
  . exact Ec _ _ _ (Ec _ _ _ h0)
 unfold Cs;dsimp only
 split
 . exact Yk _ _ h1
 . exact Yo _ _ _ h1
theorem MW (row:List Bool)(l:List Int)(u:US)(h:Vl u):Vl (Ok row l u).2:=by
 unfold Ok
 split
 . exact Ea _ _ _ h
 . split
   . exact Ea _ _ _ h
   . exact Ec _ _ _ (Ea _ _ _ h)
theorem TJ (d k:Nat)(u:US)(h:Vl u):Vl (Ju d k u):=by
 unfold Ju
 split
 . exact h
 . split
   . exact h
   . exact Y8 _ _ _ h
theorem BH (row:List Bool)(lb:List Int)(k:Nat)(u:US)(h:Vl u):Vl (Cv row lb k u):=by
 unfold Cv
 split
 . rename_i hk
   split
   . exact h
   . intro x hx
     rcases VZ.1 hx with h1|h1
     . exact h x h1
     . rw[WK.1 h1];exact hk
 . split
   . exact h
   . split
     . exact Ec _ _ _ h
     . split
       . exact MW _ _ _ (Ec _ _ _ h)
       . exact TJ _ _ _ (MW _ _ _ (Ec _ _ _ h))
theorem Xc (row:List Bool)(la lb:List Int):∀(f:Nat) (u:US),Vl u->Vl (Ib row la lb f u)
 |0,u,h=>by
  unfold Ib
  split
  . exact Ea _ _ _ h
  . exact Ea _ _ _ h
 |f+1,u,h=>by
  rw[Jo]
  split
  . exact Ea _ _ _ h
  . split
    . exact Ea _ _ _ h
    . split
      . exact BH _ _ _ _ (Ea _ _ _ h)
      . exact Xc row la lb f _ (BH _ _ _ _ (Ea _ _ _ h))
theorem Xg (k:Nat)(u:US)(h:Vl u):Vl (Lr k u):=by
 unfold Lr
 split
 . exact h
 . exact h
theorem TG (row:List Bool)(k:Nat)(u:US)(hp:u.p<=row.length)(h:Vl u)(he:(Dw row k u).e=0):Vl (Dw row k u):=by
 unfold Dw at he ⊢
 split
 . exact Xg _ _ (EQ _ _ h)
 . rename_i c0
   rw[if_neg c0]at he
   split
   . exact Xg _ _ (Xc _ _ _ _ _ h)
   . rename_i c1
     rw[if_neg c1]at he
     split
     . rename_i c2
       rw[if_pos c2]at he
       split
       . rename_i c3
         rw[if_pos c3]at he;exact absurd he c3
       . rename_i c3
         have e0:(Db row u).2.e=0:=by omega
         obtain⟨A,C,v,hv⟩:∃A C v,Db row u=((A,C),v):=⟨_,_,_,rfl⟩
         rw[hv]at e0 ⊢;obtain⟨m0,n0,c0,u1,u2,u3,us,S,L,hT⟩:=Je hv e0;obtain⟨t1,t2,t3,t4⟩:=Vq hT hp;exact Xg _ _ (Xc _ _ _ _ _ (h.same t3))
     . exact h
theorem E4 (row:List Bool)(u:US)(hp:u.p<=row.length)(h:Vl u)(he:(Bv row u).2.e=0):Vl (Bv row u).2:=by
 unfold Bv at he ⊢
 split
 . exact Ec _ _ _ h
 . rename_i c
   rw[if_neg c]at he
   split
   . exact Ec _ _ _ (Ec _ _ _ h)
   . rename_i c2
     rw[if_neg c2]at he;exact TG _ _ _ (Gp _ _ _ (Gp _ _ _ hp)) (Ec _ _ _ (Ec _ _ _ h)) he
theorem Uq (row:List Bool)(N:Nat)(hN:row.length=8*N):∀(F:Nat) (u:US),u.e=0->u.p<=row.length->u.out.length<=3000->Vl u->(Ce row F u).e=0->Vl (Ce row F u)
 |0,u,he,hp,ho,h,hz=>h
 |F+1,u,he,hp,ho,h,hz=>by
  rw[Ce]at hz ⊢
  by_cases c:(Bv row u).1=0/\(Bv row u).2.e=0
  . rw[if_pos c]at hz ⊢;obtain⟨a1,a2,a3,a4⟩:=Jp row N hN u he hp ho c.2;exact Uq row N hN F _ c.2 a3 a4 (E4 row u hp h c.2) hz
  . rw[if_neg c]at hz ⊢;exact E4 row u hp h hz
theorem MH (row:List Bool)(N:Nat)(hN:row.length=8*N)(h:(Dd row).e=0)(j:Nat):(Dd row).out.getD j 0<256:=
 (Uq row N hN (row.length+1) US0 rfl (VM _) (VM _) (by intro x hx;cases hx) h).at j
end Go.Proofs.YtieianhejdcgdaaGreatDoor
namespace Go.Proofs.YtieianhejdcgdaaGreatDoor
open Go.RowKit
set_option linter.unusedVariables false
set_option maxRecDepth 100000
theorem B3 {w:World}{B n:Nat}{v:Value}{ys:List Nat}(h:w.ownsRow B 5 1 v n (u8s ys)):∃a c,v=.slice a n c/\PkIn w a c ys/\n<=c/\ys.length=n/\∀g o,a=some ⟨g,o,none⟩->B<=g:=by
 have hl:ys.length=n:=by have:=h.1;simpa using this
 obtain⟨_,a,c,hv,hB⟩:=BytesIn.ofOwn h;subst hv
 rcases h.2 with ⟨h1,h2⟩|⟨g,cap,cur,h1,h2,h3,h4,_⟩
 . cases h1
   exact⟨none,0,rfl,⟨hB,fun _=>rfl⟩,by omega,hl,fun g o e=>by cases e⟩
 . cases h1
   exact⟨_,_,rfl,⟨hB,fun e=>by cases e⟩,h4,hl,fun g' o e=>by cases e;exact h2⟩
theorem Hx {w:World}{ops:Array Oper}{rest:List Oper}{o:Oper}{a:Act}{Q:Exit->Act->World->Prop}(hgd:o.guard=none)(s x:Operand)
 (ho:o.op=.call {callee:=.builtin .append,args:= #[s,x],argTypes:= #[23,23]}) (base:Nat) (v:Value) (xs ys:List Nat) (hs:a.eval s=v) (hown:w.ownsRow base 5 1 v xs.length (u8s xs)) (ad:Option Addr) (m c:Nat) (hx:a.eval x=.slice ad m c) (hm:ys.length=m) (hP:PkIn w ad c ys) (hsz:xs.length+m<=140737488355328) (hbase:base<=w.heap.size)
 (h:∀v' w',w'.ownsRow base 5 1 v' (xs.length+ys.length) (u8s xs++u8s ys)->w.grownBy w' v.ownBlock->wpList Tryz.prog ops Q rest (a.put o.dst v') w'):wpList Tryz.prog ops Q (o::rest) a w:=by
 refine wpList_plain hgd fun K hK=> ?_
 obtain⟨v',w',hr,h2,h3⟩:=Kz w o.type base v xs ys hown ad m c hm hP hsz hbase;unfold Oper.wp execOp;simp only[ho,resolve,invoke,builtin,Sem.run_bind,Sem.run_pure,Result.andThen_ok,YD,WG,YB,hs,hx,hr];exact hK _ _ (h v' w' h2 h3)
theorem Y0 (a:Option Addr)(n cap:Nat)(bs:List Nat)(w:World)(hl:bs.length=n)(hn:n<=12000)(hby:BytesIn w a bs)(hv:∀j,bs.getD j 0<256):
 Calls Tryz.prog 61 #[.slice a n cap] w fun e w'=>e=.returned (.int .u32 (crcN 0 bs:Nat))/\Below w.heap.size w w':=by
 have HC:=Ab (Z1c 0 a n cap bs w hl hn (by decide) hby hv);clear hl hby hv;go_enter Tryz.func61,Tryz.ntmps61
 go_wp2_with fail
 refine(Aa HC).mono ?_;rintro e w1 ⟨rfl,hB⟩;have HB:=Ab hB;clear hB;go_wp2;go_ret;exact⟨rfl,Aa HB⟩
def Unp (w:World)(m:Nat)(pk:List Nat)(e:Ending)(w':World):Prop:=
 Below w.heap.size w w'/\((unpF m pk=none/\∃a l c,e=.returned (.tuple #[.slice a l c,.bool false]))\/ (∃ys,unpF m pk=some ys/\ys.length<=12000/\(∀x∈ys,x<256)/\∃a c,e=.returned (.tuple #[.slice a ys.length c,.bool true])/\ys.length<=c/\PkIn w' a c ys/\∀g o,a=some ⟨g,o,none⟩->ys≠ []->w.heap.size<=g))
theorem Yu (m n c:Nat)(a:Option Addr)(pk:List Nat)(w:World)(hl:pk.length=n)(hn:n<=12000)(hP:PkIn w a c pk)(hv:∀x∈pk,x<256):
 Calls Tryz.prog 136 #[.int .u32 (m:Int),.slice a n c] w fun e w'=>Unp w m pk e w':=by
 by_cases h0:m=0
 . subst h0;have hu:unpF 0 pk=some pk:=rfl;have HP:=Ab hP;have HU:=Ab hu;have HV:=Ab hv;have HL:=Ab hl;clear hP hu hv hl;go_enter Tryz.func136,Tryz.ntmps136
   go_wp2_with (at_builtin;refine Hx rfl _ _ rfl w.heap.size (.slice none 0 0) [] pk rfl (World.ownsRow_nil _ _ _ _) a n c rfl (Aa HL) (Aa HP) (by simp;omega) (VC _) ?_)
   intro v' w' hO hg;have hO2:w'.ownsRow w.heap.size 5 1 v' pk.length (u8s pk):=by simpa using hO
   obtain⟨a',c',rfl,q1,q2,q3,q4⟩:=B3 hO2;have HF:Hid (Unp w 0 pk (.returned (.tuple #[.slice a' pk.length c',.bool true])) w'):=Ab ⟨(Below.refl w.heap.size w).grown hg (VC _) (fun g e=>by cases e),.inr ⟨pk,Aa HU,by rw[Aa HL];exact hn,Aa HV,a',c',rfl,q2,q1,fun g o e _=>q4 g o e⟩⟩;clear hO hg hO2 q1 q2 q3 q4;go_wp2;go_ret2;exact Aa HF
 . by_cases h8:m=8
   . subst h8;clear h0;have hv2:=Dj hv;have hu:unpF 8 pk=if pk.length<=6000/\(Dd (rowB pk pk.length)).e=0/\((Dd (rowB pk pk.length)).p+7)/8=pk.length then some (Dd (rowB pk pk.length)).out else none:=rfl
     rw[hl]at hu
     by_cases h6:n<=6000
     . have HC:=Ab (Vt a n c pk w hl h6 hP.1 hv2);have hval:=MH (rowB pk n) n (Ag pk n);have hah:(Dd (rowB pk n)).e=0->(Dd (rowB pk n)).out.length<=12000:=fun e=>by have:=D8 (rowB pk n) n (Ag pk n) e;omega
       obtain⟨U,hU⟩:∃U,Dd (rowB pk n)=U:=⟨_,rfl⟩
       unfold Z7b at HC;rw[hU]at HC hu hval hah;have HAH:=Ab hah;have HU:=Ab hu;have HVA:=Ab hval;clear hl hP hv hv2 hu hU hval hah;go_enter Tryz.func136,Tryz.ntmps136
       go_wp2_with fail
       refine(Aa HC).mono ?_;rintro e w1 ⟨hB,(⟨e0,ov,kv,rfl,ho,hk⟩|⟨e0,rfl⟩)⟩
       . obtain⟨a',c',rfl,q1,q2,q3,q4⟩:=B3 ho;obtain⟨ka,kc,rfl⟩:=Ao hk;have hvv:∀x∈U.out,x<256:=BR (Aa HVA e0);have hLb:=Aa HAH e0;obtain⟨L,hL⟩:∃L,U.out.length=L:=⟨_,rfl⟩
         rw[hL]at hLb;obtain⟨KL,hKL⟩:∃KL,U.ks.length=KL:=⟨_,rfl⟩
         obtain⟨P,hPP⟩:∃P,(U.p+7)/8=P:=⟨_,rfl⟩
         rw[hL,hKL,hPP]
         by_cases hq:P=n
         . have HF:Hid (Unp w 8 pk (.returned (.tuple #[.slice a' L c',.bool true])) w1):=Ab ⟨hB,.inr ⟨U.out,by rw[Aa HU,if_pos ⟨h6,e0,by rw[hPP];exact hq⟩],by rw[hL];exact hLb,hvv,a',c',by rw[hL],q2,q1,fun g o e _=>Nat.le_of_succ_le (q4 g o e)⟩⟩;have hqb:((P:Int)==(n:Int))=true:=by rw[beq_iff_eq];omega
           clear hB ho hk q1 q2 q3 q4 hvv hL hKL hPP hq e0;go_wp2;go_ret2;exact Aa HF
         . have HF:Hid (Unp w 8 pk (.returned (.tuple #[.slice a' L c',.bool false])) w1):=Ab ⟨hB,.inl ⟨by rw[Aa HU,if_neg (by intro hh;exact hq (hPP.symm.trans hh.2.2))],a',L,c',rfl⟩⟩;have hqb:((P:Int)==(n:Int))=false:=by rw[beq_eq_false_iff_ne];omega
           clear hB ho hk q1 q2 q3 q4 hvv hL hKL hPP hq e0;go_wp2;go_ret2;exact Aa HF
       . have HF:Hid (Unp w 8 pk (.returned (.tuple #[.slice none 0 0,.bool false])) w1):=Ab ⟨hB,.inl ⟨by rw[Aa HU,if_neg (by intro hh;exact e0 hh.2.1)],none,0,0,rfl⟩⟩;obtain⟨E,hE⟩:∃E,U.e=E:=⟨_,rfl⟩
         rw[hE]at e0 ⊢;have heb:(E==0)=false:=by rw[beq_eq_false_iff_ne];exact e0
         clear hB hE e0;go_wp2;go_ret2;exact Aa HF
     . have HC:=Ab (Sq a n c w (by omega) (by omega));have HF:Hid (Unp w 8 pk (.returned (.tuple #[.slice none 0 0,.bool false])) w):=Ab ⟨Below.refl _ _,.inl ⟨by rw[hu,if_neg (by intro hh;exact h6 hh.1)],none,0,0,rfl⟩⟩;clear hl hP hv hv2 hu;go_enter Tryz.func136,Tryz.ntmps136
       go_wp2_with fail
       refine(Aa HC).mono ?_;rintro e w1 ⟨rfl,rfl⟩;go_wp2;go_ret2;exact Aa HF
   . have hu:unpF m pk=none:=by unfold unpF;rw[if_neg h0,if_neg h8]
     have HF:Hid (Unp w m pk (.returned (.tuple #[.slice none 0 0,.bool false])) w):=Ab ⟨Below.refl _ _,.inl ⟨hu,none,0,0,rfl⟩⟩;have hb0:((m:Int)==0)=false:=by rw[beq_eq_false_iff_ne];omega
     have hb8:((m:Int)==8)=false:=by rw[beq_eq_false_iff_ne];omega
     clear hl hP hv hu;go_enter Tryz.func136,Tryz.ntmps136
     go_wp2;go_ret2;exact Aa HF
end Go.Proofs.YtieianhejdcgdaaGreatDoor
