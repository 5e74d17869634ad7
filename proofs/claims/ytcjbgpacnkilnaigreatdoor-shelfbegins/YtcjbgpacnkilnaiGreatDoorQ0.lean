import Derived.Laws.BitsAllLaws
import Derived.Test.YtcjbgpacnkilnaiGreatDoorRows
import Derived.WalkKit
import Derived.ProofKit
import Derived.OpenShut
import Derived.ShutString
import Derived.ChangeOld
import Derived.Below
import Derived.BigQuiet
import Derived.BigRegion
import Derived.Deep.QuietTactic
import Derived.WalkSpells
import Derived.WalkLawsBesides
import Derived.Deep.WholeRow
import Derived.Laws.ResultCell
namespace Go.Proofs.YtcjbgpacnkilnaiGreatDoor
set_option linter.unusedVariables false
def lft (n:Nat):Nat:=if n%2=1 then (n/2)^^^3988292384 else n/2
def Ig:Nat->Nat->Nat
 |0,n=>n
 |k+1,n=>Ig k (lft n)
def Zhr (r x:Nat):Nat:=Ig 8 (r^^^x)
def Yz (r:Nat)(l:List Nat):Nat:=l.foldl Zhr r
def crcN (p:Nat)(l:List Nat):Nat:=Yz (p^^^4294967295) l^^^4294967295
theorem Uq (r:Nat):Yz r []=r:=rfl
theorem Kq (r x:Nat)(l:List Nat):Yz r (x::l)=Yz (Zhr r x) l:=rfl
theorem Z8z (k n:Nat):Ig (k+1) n=lft (Ig k n):=by
 induction k generalizing n with
 |zero=>rfl
 |succ k ih=>rw[Ig,ih,Ig]
theorem Zbn (a b:Nat):(a^^^b)%2=(a%2+b%2)%2:=by
 have h:=Nat.xor_mod_two_eq_one (a:=a) (b:=b);have h1:=Nat.mod_two_eq_zero_or_one (a^^^b);have h2:=Nat.mod_two_eq_zero_or_one a;have h3:=Nat.mod_two_eq_zero_or_one b
 rcases h1 with h1|h1<;>rcases h2 with h2|h2<;>rcases h3 with h3|h3<;>simp_all
theorem Zbo (a b:Nat):(a^^^b)/2=a/2^^^b/2:=by
 have:=Nat.shiftRight_xor_distrib (a:=a) (b:=b) (i:=1)
 simpa[Nat.shiftRight_eq_div_pow]using this
theorem Zgk (a b:Nat):lft (a^^^b)=lft a^^^lft b:=by
 unfold lft;have h2:=Nat.mod_two_eq_zero_or_one a;have h3:=Nat.mod_two_eq_zero_or_one b;rw[Zbn,Zbo];generalize a/2=A;generalize b/2=B
 rcases h2 with h2|h2<;>rcases h3 with h3|h3<;>simp only[h2,h3]
 . simp
 . simp[Nat.xor_assoc]
 . rw[if_pos (by decide),if_pos trivial,if_neg (by decide),Nat.xor_assoc,Nat.xor_assoc,Nat.xor_comm B]
 . rw[if_neg (by decide),if_pos trivial,if_pos trivial,Nat.xor_assoc,Nat.xor_comm B,<-Nat.xor_assoc 3988292384,Nat.xor_self,Nat.zero_xor]
theorem Z2z:∀(k a b:Nat),Ig k (a^^^b)=Ig k a^^^Ig k b
 |0,_,_=>rfl
 |k+1,a,b=>by rw[Ig,Zgk,Z2z k];rfl
theorem Zgl (y:Nat):lft (2*y)=y:=by
 unfold lft;rw[if_neg (by omega)];omega
theorem Zdb (k y:Nat):Ig k (2^k*y)=y:=by
 induction k with
 |zero=>simp[Ig]
 |succ k ih=>
  rw[Ig,show 2^(k+1)*y=2*(2^k*y) by rw[Nat.pow_succ,Nat.mul_comm (2^k) 2,Nat.mul_assoc],Zgl,ih]
theorem Ziu {n:Nat}(h:n<4294967296):lft n<4294967296:=by
 unfold lft
 by_cases e:n%2=1
 . rw[if_pos e];exact Nat.xor_lt_two_pow (n:=32) (by omega) (by decide)
 . rw[if_neg e];omega
theorem Tx:∀(k:Nat) {n:Nat},n<4294967296->Ig k n<4294967296
 |0,_,h=>h
 |k+1,_,h=>Tx k (Ziu h)
theorem Zjo (k n:Nat):n=n%2^k^^^2^k*(n/2^k):=by
 apply Nat.eq_of_testBit_eq
 intro i;rw[Nat.testBit_xor,Nat.testBit_mod_two_pow,Nat.testBit_two_pow_mul,Nat.testBit_div_two_pow]
 by_cases h:i<k
 . simp[h,show ¬(k<=i) by omega]
 . simp[h,show k<=i by omega,show i-k+k=i by omega]
theorem Z4u (n:Nat):Ig 8 n=Ig 8 (n%256)^^^n/256:=by
 have h:=Zjo 8 n
 conv=>lhs;rw[h]
 rw[Z2z,Zdb]
theorem Pq:∀(a b:List Nat) (r:Nat),Yz r (a++b)=Yz (Yz r a) b
 | [],_,_=>by rw[Uq,List.nil_append]
 |x::a,b,r=>by rw[List.cons_append,Kq,Pq a,Kq]
theorem Ur:∀(l:List Nat) (r:Nat),(∀x∈l,x<256)->r<4294967296->Yz r l<4294967296
 | [],r,_,h=>by rw[Uq];exact h
 |x::l,r,hl,h=>by
  rw[Kq];have hx:=hl x (by simp);exact Ur l _ (fun y hy=>hl y (by simp[hy])) (Tx 8 (Nat.xor_lt_two_pow (n:=32) h (by omega)))
theorem Z2s {n:Nat}(h:n<4294967296):n^^^4294967295<4294967296:=Nat.xor_lt_two_pow (n:=32) h (by decide)
theorem Z1d {l:List Nat}{p:Nat}(hl:∀x∈l,x<256)(h:p<4294967296):crcN p l<4294967296:=Z2s (Ur l _ hl (Z2s h))
theorem Zae (l:List Nat)(r x:Nat):Yz r (l++ [x])=Zhr (Yz r l) x:=by rw[Pq,Kq,Uq]
end Go.Proofs.YtcjbgpacnkilnaiGreatDoor
namespace Go.Proofs.YtcjbgpacnkilnaiGreatDoor
open Go.RowKit
theorem own:ownKnob Tryz.prog.godebug=none:=by kernel_rfl
theorem Zgm:laidOutB Tryz.prog=true:=by kernel_rfl
def Row (k:IntKind)(w:World)(b o:Nat)(xs:List Int):Prop:=∀j,j<xs.length->w.cell? ⟨b,o+j,none⟩=some (.int k (xs.getD j 0))
theorem Row.alloc {k:IntKind}{w:World}{b o:Nat}{xs:List Int}(h:Row k w b o xs)(hb:b<w.heap.size)(x:Obj):Row k (w.alloc x) b o xs:=by
 intro j hj;rw[World.cell?_alloc_past _ _ _ hb];exact h j hj
theorem Row.below {k:IntKind}{w w':World}{B b o:Nat}{xs:List Int}(h:Row k w b o xs)(hB:Below B w w')(hb:b<B):Row k w' b o xs:=by
 intro j hj;rw[hB.cell (p:=⟨b,o+j,none⟩) hb];exact h j hj
theorem Ae {B:Nat}{a w:World}(h:Below B a w)(n:Nat):Below B a (w.drewN n):=⟨h.os,h.tape,h.output,h.size,h.block⟩
theorem Ab {p:Prop}(h:p):Hid p:=h
theorem Aa {p:Prop}(h:Hid p):p:=h
theorem Id {a b:Bool}(h:a=b):Ending.returned (.bool a)=.returned (.bool b):=by rw[h]
theorem Ed {k:IntKind}{a b:Int}(h:a=b):Ending.returned (.int k a)=.returned (.int k b):=by rw[h]
end Go.Proofs.YtcjbgpacnkilnaiGreatDoor
namespace Go.Proofs.YtcjbgpacnkilnaiGreatDoor
open Go.RowKit
set_option linter.unusedVariables false
def Bytes (w:World)(b o:Nat)(xs:List Nat):Prop:=∀j,j<xs.length->w.cell? ⟨b,o+j,none⟩=some (.int .u8 ((xs.getD j 0:Nat):Int))
abbrev u8s (xs:List Nat):List Value:=xs.map fun x:Nat=>Value.int .u8 (x:Int)
theorem Ao (w:World)(r:Option Nat):w.grownBy w r:=⟨rfl,rfl,rfl,Nat.le_refl _,fun _ _ _=>rfl⟩
theorem Ai {a b c:World}{r:Option Nat}(h:a.grownBy b r)(k:b.grownBy c r):a.grownBy c r:=
 ⟨k.os.trans h.os,k.tape.trans h.tape,k.output.trans h.output,Nat.le_trans h.size k.size,fun i hi hr=>(k.block i (Nat.lt_of_lt_of_le hi h.size) hr).trans (h.block i hi hr)⟩
theorem Ad (w:World)(b j:Nat)(v:Value):w.grownBy (w.setCell ⟨b,j,none⟩ v) (some b):=⟨rfl,rfl,rfl,by simp,fun i hi hr=>Below.heap_setCell w _ v i (fun e=>hr (by rw[e]))⟩
theorem Bi {a b:World}{r:Option Nat}(h:a.grownBy b r):a.grownBy b.drew r:=⟨h.os,h.tape,h.output,h.size,h.block⟩
theorem Gx:(Tryz.prog.info? 5).map (fun i=>(i.zero,i.size,i.bytes))=some (some (.int .u8 0),1,1):=by kernel_rfl
theorem Cg:(Tryz.prog.info? 3).map (fun i=>(i.zero,i.size,i.bytes))=some (some (.int .i64 0),1,8):=by kernel_rfl
theorem Pi (p:Nat->Bool):∀n,(∀j,j<n->p j=true)\/∃j,j<n/\p j=false/\∀i,i<j->p i=true
 |0=>.inl (fun j h=>by omega)
 |n+1=>by
  rcases Pi p n with h|⟨j,h1,h2,h3⟩
  . cases hp:p n with
    |true=>exact .inl (fun j hj=>by
     by_cases e:j=n
     . rw[e];exact hp
     . exact h j (by omega))
    |false=>exact .inr ⟨n,by omega,hp,h⟩
  . exact .inr ⟨j,by omega,h2,h3⟩
def RowIn (k:IntKind)(w:World)(a:Option Addr)(xs:List Int):Prop:=xs= []\/∃b o,a=some ⟨b,o,none⟩/\b<w.heap.size/\Row k w b o xs
def BytesIn (w:World)(a:Option Addr)(xs:List Nat):Prop:=xs= []\/∃b o,a=some ⟨b,o,none⟩/\b<w.heap.size/\Bytes w b o xs
theorem Bytes.below {w w':World}{B b o:Nat}{xs:List Nat}(h:Bytes w b o xs)(hB:Below B w w')(hb:b<B):Bytes w' b o xs:=by
 intro j hj;rw[hB.cell (p:=⟨b,o+j,none⟩) hb];exact h j hj
theorem BytesIn.below {w w':World}{B:Nat}{a:Option Addr}{xs:List Nat}(h:BytesIn w a xs)(hB:Below B w w')(hb:w.heap.size<=B):BytesIn w' a xs:=by
 rcases h with h|⟨b,o,h1,h2,h3⟩
 . exact .inl h
 . exact .inr ⟨b,o,h1,Nat.lt_of_lt_of_le h2 hB.size,h3.below hB (by omega)⟩
theorem BytesIn.own {w:World}{B g n cap:Nat}{xs:List Nat}(h:w.ownsRow B 5 1 (.slice (some ⟨g,0,none⟩) n cap) n (u8s xs)):BytesIn w (some ⟨g,0,none⟩) xs:=by
 refine .inr ⟨g,0,rfl,(h.lt g rfl).2, ?_⟩;intro j hj;have hn:xs.length=n:=by have:=h.1;simpa using this
 rw[Nat.zero_add,h.cellAt j (by omega)];simp[u8s,List.getD,hj]
abbrev i64s (xs:List Nat):List Value:=xs.map fun x:Nat=>Value.int .i64 (x:Int)
theorem Zd8 (n:Nat):(madeCells #[Value.int .i64 0] n).toList=i64s (List.replicate n 0):=by
 rw[toList_madeCells_one];simp[i64s]
theorem BytesIn.alloc {w:World}{a:Option Addr}{xs:List Nat}(h:BytesIn w a xs)(x:Obj):BytesIn (w.alloc x) a xs:=
 h.below ((Below.refl w.heap.size w).alloc (Nat.le_refl _) x) (Nat.le_refl _)
theorem RowIn.below {k:IntKind}{w w':World}{B:Nat}{a:Option Addr}{xs:List Int}(h:RowIn k w a xs)(hB:Below B w w')(hb:w.heap.size<=B):RowIn k w' a xs:=by
 rcases h with h|⟨b,o,h1,h2,h3⟩
 . exact .inl h
 . exact .inr ⟨b,o,h1,Nat.lt_of_lt_of_le h2 hB.size,h3.below hB (by omega)⟩
theorem RowIn.alloc {k:IntKind}{w:World}{a:Option Addr}{xs:List Int}(h:RowIn k w a xs)(x:Obj):RowIn k (w.alloc x) a xs:=
 h.below ((Below.refl w.heap.size w).alloc (Nat.le_refl _) x) (Nat.le_refl _)
abbrev iv (xs:List Int):List Value:=xs.map (Value.int .i64)
theorem ga {a b:World}{r:Option Nat}(h:a.grownBy b r)(o:Obj):a.grownBy (b.alloc o) r:=Ai h (World.grownBy_alloc b o r)
theorem Zcs {w:World}{B e size n:Nat}{v:Value}{xs:List Value}(h:w.ownsRow B e size v n xs):w.drew.ownsRow B e size v n xs:=h
theorem Ju {w w':World}{B e size n:Nat}{v:Value}{xs:List Value}(h:w.ownsRow B e size v n xs)(hg:w.grownBy w' none):w'.ownsRow B e size v n xs:=
 h.kept hg (by cases hv:v.ownBlock with
  |none=>exact .inl rfl
  |some k=>exact .inr (by simp))
theorem Lu {B:Nat}{a w w':World}(h:Below B a w)(hg:w.grownBy w' none)(hB:B<=w.heap.size):Below B a w':=h.grown hg hB (fun k e=>by cases e)
theorem Z2w {W:World}{b:Nat}{x u:Value}{j:Nat}(h:W.cell? ⟨b,0,none⟩=some x)(hj: [x][j]? =some u):W.cell? ((⟨b,0,none⟩:Addr).add j)=some u:=by
 match j,hj with
 |0,hj=>simp at hj;subst hj;simpa[Addr.add]using h
theorem Zg {w:World}{x:Value}{t:TypeId}{b:Nat}(hb:b=w.heap.size):(w.alloc (.cells #[x] t)).cell? ⟨b,0,none⟩=some x:=by
 rw[World.cell?_alloc_at _ _ _ _ hb];rfl
theorem Zav {w:World}{x:Value}{t:TypeId}{o:Obj}{b:Nat}(hb:b=w.heap.size):((w.alloc (.cells #[x] t)).alloc o).cell? ⟨b,0,none⟩=some x:=by
 rw[World.cell?_alloc_past _ _ _ (by rw[hb];simp),World.cell?_alloc_at _ _ _ _ hb];rfl
theorem Zaw {w:World}{b:Nat}{v:Value}(h:w.cell? ⟨b,0,none⟩=some v):w.drew.cell? ⟨b,0,none⟩=some v:=h
theorem Bb {x:Value}(h:x.oneCell'=true):∀u∈ [x],u.oneCell'=true:=by
 intro u hu;simp at hu;subst hu;exact h
end Go.Proofs.YtcjbgpacnkilnaiGreatDoor
namespace Go.Proofs.YtcjbgpacnkilnaiGreatDoor
open Go.RowKit
set_option linter.unusedVariables false
set_option maxRecDepth 100000
def tab (c:Nat->Nat):Array Value:=((List.range 256).map fun n=>Value.int .u32 ((c n:Nat):Int)).toArray
theorem Fj (c:Nat->Nat):(tab c).size=256:=by simp[tab]
theorem Z7k (c:Nat->Nat){j:Nat}(h:j<256):(tab c)[j]? =some (.int .u32 ((c j:Nat):Int)):=by simp[tab,h]
theorem Zfi (c:Nat->Nat):(tab c).all (·.oneCell')=true:=by
 rw[Array.all_eq_true'];intro x hx;obtain⟨n,_,rfl⟩:∃n,n<256/\Value.int .u32 ((c n:Nat):Int)=x:=by simpa[tab]using hx
 rfl
def Rl (c:Nat->Nat)(j x:Nat):Nat->Nat:=fun n=>if n=j then x else c n
theorem Zfh (c:Nat->Nat)(j x:Nat):(tab c).setIfInBounds j (.int .u32 ((x:Nat):Int))=tab (Rl c j x):=by
 apply Array.ext_getElem?
 intro i;rw[Array.getElem?_setIfInBounds]
 by_cases h:i<256
 . rw[Z7k _ h,Fj,Z7k _ h]
   by_cases e:j=i
   . subst e;simp[Rl,h]
   . rw[if_neg e];unfold Rl;rw[if_neg (fun h=>e h.symm)]
 . have h1:∀f,(tab f)[i]? =none:=fun f=>by simp[Fj];omega
   rw[h1,h1,Fj]
   by_cases e:j=i
   . rw[if_pos e,if_neg (by omega)]
   . rw[if_neg e]
theorem Z7j {c d:Nat->Nat}(h:∀n,n<256->c n=d n):tab c=tab d:=by
 unfold tab
 congr 1
 apply List.map_congr_left
 intro n hn;rw[h n (by simpa using hn)]
def Tab (w:World)(b:Nat)(c:Nat->Nat):Prop:=w.heap[b]? =some (.cells (tab c) 115 (0,0))
theorem Tab.cell {w:World}{b:Nat}{c:Nat->Nat}(h:Tab w b c){j:Nat}(hj:j<256):w.cell? ⟨b,j,none⟩=some (.int .u32 ((c j:Nat):Int)):=by
 rw[cell_of_row w b j _ _ _ h];exact Z7k c hj
theorem Tab.frozen {w:World}{b:Nat}{c:Nat->Nat}(h:Tab w b c)(j:Nat):w.frozen? ⟨b,j,none⟩=false:=frozen_of_row w b j _ _ h
theorem Tab.set {w:World}{b:Nat}{c:Nat->Nat}(h:Tab w b c)(j x:Nat):Tab (w.setCell ⟨b,j,none⟩ (.int .u32 ((x:Nat):Int))) b (Rl c j x):=by
 unfold Tab;rw[heap_setCell_same w b j _ _ _ h,Zfh]
theorem Tab.other {w:World}{b:Nat}{c:Nat->Nat}(h:Tab w b c){a:Addr}(hb:b≠a.block)(v:Value):Tab (w.setCell a v) b c:=by
 unfold Tab;rw[heap_setCell_other w a b v hb];exact h
theorem Tab.setRow {w:World}{b:Nat}{c:Nat->Nat}(h:Tab w b c)(d:Nat->Nat):Tab (w.setRow b (tab d)) b d:=setRow_heap w b _ _ _ _ h
theorem Tab.congr {w:World}{b:Nat}{c d:Nat->Nat}(h:Tab w b c)(e:∀n,n<256->c n=d n):Tab w b d:=by
 unfold Tab;rw[<-Z7j e];exact h
theorem Uf:(Tryz.prog.info? 115).map (·.size)=some 256:=by kernel_rfl
theorem Z1t:∀w:World,(zeroValue 115).run Tryz.prog w=.ok (.agg (tab (fun _=>0))) w:=(zero_of_info (n:=256) (by kernel_rfl)).1
theorem Ks {B:Nat}{a w:World}(h:Below B a w){g:Nat}(hg:B<=g)(cs:Array Value):Below B a (w.setRow g cs):=
 ⟨h.os,h.tape,h.output,by simp;exact h.size,fun k hk=>(Go.setRow_other w g k cs (by omega)).trans (h.block k hk)⟩
theorem Zd9 {ops:Array Oper}{rest:List Oper}{o:Oper}{a:Act}{w:World}{Q:Exit->Act->World->Prop}(hgd:o.guard=none)(x:Operand)(ho:o.op=.load 115 x)
 (b:Nat) (c:Nat->Nat) (hx:a.eval x=.pointer (some ⟨b,0,none⟩)) (h:Tab w b c) (k:wpList Tryz.prog ops Q rest (a.put o.dst (.agg (tab c))) w):wpList Tryz.prog ops Q (o::rest) a w:=
 wpList_load_row hgd 115 x ho b hx _ _ _ _ h Tryz.underlying115 rfl (by rw[Fj];exact Uf) k
theorem Wg {ops:Array Oper}{rest:List Oper}{o:Oper}{a:Act}{w:World}{Q:Exit->Act->World->Prop}(hgd:o.guard=none)(x y:Operand)(ho:o.op=.store 115 x y)
 (b:Nat) (c d:Nat->Nat) (hx:a.eval x=.pointer (some ⟨b,0,none⟩)) (hy:a.eval y=.agg (tab d)) (h:Tab w b c) (k:wpList Tryz.prog ops Q rest (a.put o.dst undef) (w.setRow b (tab d))):wpList Tryz.prog ops Q (o::rest) a w:=
 wpList_store_row hgd 115 x y ho b _ hx hy _ _ h (by rw[Fj];exact Uf) (by rw[Fj,Fj]) (Zfi d) k
theorem Zkg {m:Nat}(h:m<4294967296):bits .and .u32 (m:Int) 1=((m%2:Nat):Int):=by
 have:=u32_and_nat m 1 h (by decide)
 rw[Nat.and_one_is_mod]at this;exact this
theorem Zkk {m:Nat}(h:m<4294967296):bits .xor .u32 ((m:Int)/2) 3988292384=((m/2^^^3988292384:Nat):Int):=by
 have:=u32_xor_nat (m/2) 3988292384 (by omega) (by decide)
 rw[<-this];rfl
theorem Qm (n:Nat)(w:World)(hn:n<4294967296):
 Calls Tryz.prog 74 #[.int .u32 (n:Int)] w fun e w'=>e=.returned (.int .u32 (Ig 8 n:Nat))/\w'=w:=by
 go_enter Tryz.func74,Tryz.ntmps74
 go_wp2;go_loop [0,4] (fun t i=>∃k:Nat,k<=8/\i=.int .i64 k/\t=.int .u32 (Ig k n:Nat)) (fun _ i=>8-(intOf i).toNat)
 case atStart=>exact⟨0,Nat.zero_le _,rfl,rfl⟩
 case round=>
  obtain⟨k,hk,rfl,rfl⟩:=hrel
  by_cases hlt:k<8
  . have hb:=Tx k hn;have H:Hid (Ig (k+1) n=lft (Ig k n)):=Z8z k n;generalize Ig k n=m at*
    by_cases e:m%2=1
    . have h1:(bits .and .u32 (m:Int) 1==1)=true:=by rw[Zkg hb,e];rfl
      have HX:=Ab (Zkk hb);have HL:Hid (lft m=m/2^^^3988292384):=Ab (by unfold lft;rw[if_pos e]);go_wp2;go_round
      case rel=>exact⟨k+1,by omega,by go_num,by rw[H.out,Aa HX,Aa HL]⟩
      case measure=>simp[intOf];omega
    . have h1:(bits .and .u32 (m:Int) 1==1)=false:=by rw[Zkg hb,show m%2=0 by omega];rfl
      have HL:Hid (lft m=m/2):=Ab (by unfold lft;rw[if_neg e]);go_wp2;go_round
      case rel=>exact⟨k+1,by omega,by go_num,by rw[H.out,Aa HL];rfl⟩
      case measure=>simp[intOf];omega
  . have e:k=8:=by omega
    subst e;go_wp2;go_ret
    trivial
def Wb (k:Nat):Nat->Nat:=fun n=>if n<k then Ig 8 n else 0
theorem Z4f (k:Nat):Rl (Wb k) k (Ig 8 k)=Wb (k+1):=by
 funext n
 unfold Rl Wb
 by_cases e:n=k
 . subst e;simp
 . rw[if_neg e]
   by_cases h:n<k
   . rw[if_pos h,if_pos (by omega)]
   . rw[if_neg h,if_neg (by omega)]
theorem Z4e:Wb 0=fun _=>0:=by funext n;simp[Wb]
theorem Zq (w:World):
 Calls Tryz.prog 65 #[] w fun e w'=>e=.returned (.agg (tab (Ig 8)))/\Below w.heap.size w w':=by
 have hz:=Z1t;go_enter Tryz.func65,Tryz.ntmps65
 go_wp2;have HR:Hid (Tab ((w.alloc (.cells (tab (fun _=>0)) 115)).alloc (.cells (tab (fun _=>0)) 115)) w.heap.size (fun _=>0)):=Ab ((Below.heap_alloc _ _ _ (by simp)).trans (heap_alloc_new _ _))
 have HM:Hid (Tab ((w.alloc (.cells (tab (fun _=>0)) 115)).alloc (.cells (tab (fun _=>0)) 115)) (w.heap.size+1) (Wb 0)):=Ab (by
  have:=heap_alloc_new (w.alloc (.cells (tab (fun _=>0)) 115)) (.cells (tab (fun _=>0)) 115)
  rw[World.size_alloc]at this;rw[Z4e];exact this)
 have HB:=Ab (((Below.refl w.heap.size w).alloc (Nat.le_refl _) (.cells (tab (fun _=>0)) 115)).alloc (by simp) (.cells (tab (fun _=>0)) 115));go_loopw [3] (fun i wr=>∃k:Nat,k<=256/\i=.int .u32 (k:Int)/\Tab wr w.heap.size (fun _=>0)/\Tab wr (w.heap.size+1) (Wb k)/\Below w.heap.size w wr) (fun i _=>256-(intOf i).toNat)
 case atStart=>exact⟨0,by omega,rfl,Aa HR,Aa HM,Aa HB⟩
 case round=>
  obtain⟨k,hk,rfl,hR,hM,hB⟩:=hrel;have HR1:=Ab hR;have HM1:=Ab hM;have HB1:=Ab hB
  by_cases hlt:k<256
  . have c1:=hM.cell (j:=k) hlt;have f1:=hM.frozen k;clear hR hM hB HR HM HB;go_wp2_with (go_at_call 74;refine(Qm _ _ (by omega)).mono ?_;rintro e w' ⟨rfl,rfl⟩)
    go_roundw
    case rel=>exact⟨k+1,by omega,by go_num,(Aa HR1).other (by simp) _,by rw[<-Z4f];exact(Aa HM1).set _ _,(Aa HB1).setCell (by simp) _⟩
    case measure=>simp[intOf];omega
  . obtain rfl:k=256:=by omega
    have HX:=Ab ((Aa HM1).congr (d:=Ig 8) (fun n hn=>by unfold Wb;rw[if_pos hn]));go_wp2_with (first|(refine Zd9 rfl (.tmp 1) rfl _ (Ig 8) rfl (Aa HX) ?_)|(refine Wg rfl (.tmp 0) (.tmp 11) rfl _ _ (Ig 8) rfl rfl (Aa HR1) ?_))
    have HY:=Ab ((Aa HR1).setRow (Ig 8));refine bodyPost_ret (v:=.agg (tab (Ig 8))) ?_ rfl ⟨rfl,Ks (Aa HB1) (by omega) _⟩;exact results_cell_row rfl _ _ _ _ _ _ _ rfl (Aa HY) Tryz.underlying115 rfl (by rw[Fj];exact Uf)
end Go.Proofs.YtcjbgpacnkilnaiGreatDoor
