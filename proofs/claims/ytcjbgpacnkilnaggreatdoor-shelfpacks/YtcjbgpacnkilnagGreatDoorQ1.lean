import Derived.Test.YtcjbgpacnkilnagGreatDoorQ0
namespace Go.Proofs.YtcjbgpacnkilnagGreatDoor
open Go.RowKit
set_option linter.unusedVariables false
set_option maxRecDepth 100000
theorem Zh0 {w:World}{a:Option Addr}{bs:List Nat}(h:BytesIn w a bs){j:Nat}(hj:j<bs.length):∃b o,a=some ⟨b,o,none⟩/\b<w.heap.size/\w.cell? ⟨b,o+j,none⟩=some (.int .u8 ((bs.getD j 0:Nat):Int)):=by
 rcases h with h|⟨b,o,h1,h2,h3⟩
 . subst h;simp at hj
 . exact⟨b,o,h1,h2,h3 j hj⟩
theorem Znq {n:Nat}(h:n<4294967296):bits .xor .u32 IntKind.u32.max (n:Int)=((n^^^4294967295:Nat):Int):=by
 have:=u32_xor_nat 4294967295 n (by decide) h
 rw[Nat.xor_comm]at this;exact this
theorem Zjv {n x:Nat}(hn:n<4294967296)(hx:x<256):bits .xor .u8 ((n:Int)%256) (x:Int)=(((n^^^x)%256:Nat):Int):=by
 have h:=u8_xor_nat (n%256) x (Nat.mod_lt _ (by decide)) hx;have e:((n%256:Nat):Int)=(n:Int)%256:=rfl;rw[e]at h;rw[h];have h2:(n^^^x)%2^8=n%2^8^^^x%2^8:=Nat.xor_mod_two_pow;rw[show (256:Nat)=2^8 from rfl,h2,Nat.mod_eq_of_lt (a:=x) (by simpa using hx)]
theorem Zgf {n m:Nat}(hn:n<4294967296)(hm:m<4294967296):bits .xor .u32 (m:Int) ((n:Int)/256)=((m^^^n/256:Nat):Int):=u32_xor_nat m (n/256) hm (by omega)
theorem Zkl {n x:Nat}(hx:x<256):Ji 8 ((n^^^x)%256)^^^n/256=Zl7 n x:=by
 unfold Zl7;rw[Z77 (n^^^x)]
 congr 1
 have h2:(n^^^x)/2^8=n/2^8^^^x/2^8:=by simpa[Nat.shiftRight_eq_div_pow]using Nat.shiftRight_xor_distrib (a:=n) (b:=x) (i:=8)
 rw[show (256:Nat)=2^8 from rfl,h2,Nat.div_eq_of_lt (a:=x) (by simpa using hx),Nat.xor_zero]
theorem Z9y {bs:List Nat}{k:Nat}(h:k<bs.length):bs.take (k+1)=bs.take k++ [bs.getD k 0]:=by
 rw[List.take_add_one];simp[List.getD,h]
theorem Zi4 (p:Nat)(a:Option Addr)(n cap:Nat)(bs:List Nat)(w:World)(hl:bs.length=n)(hn:n<=12000)(hp:p<4294967296)(hby:BytesIn w a bs)(hv:∀j,bs.getD j 0<256):
 Calls Tryz.prog 44 #[.int .u32 (p:Int),.slice a n cap] w fun e w'=>e=.returned (.tuple #[.int .u32 (crcN p bs:Nat),.int .i64 0])/\Below w.heap.size w w':=by
 have hz:=Z40;have h:¬(12000:Int)<(n:Int):=by omega
 have HBY:=Ab hby;have HV:=Ab hv;have HL:=Ab hl;clear hby hv hl;go_enter Tryz.func44,Tryz.ntmps44
 go_wp2_with fail
 refine(Z1o w).mono ?_;rintro e w1 ⟨rfl,hB1⟩;have HB1:=Ab hB1;clear hB1;have HN:Hid (Tab (w1.alloc (.cells (tab (fun _=>0)) 104)) w1.heap.size (fun _=>0)):=Ab (heap_alloc_new _ _);go_wp2_with (refine Yr rfl (.tmp 6) (.tmp 13) rfl _ _ (Ji 8) rfl rfl (Aa HN) ?_)
 have HT:=Ab ((Aa HN).setRow (Ji 8));have HB:Hid (Below w.heap.size w ((w1.alloc (.cells (tab (fun _=>0)) 104)).setRow w1.heap.size (tab (Ji 8)))):=Ab (Mg ((Aa HB1).alloc (Aa HB1).size _) (Aa HB1).size _);have HP:=Ab (Znq hp);rw[Aa HP];go_loopw [7,18] (fun r i wr=>∃k:Nat,k<=n/\i=.int .i64 (k:Int)/\r=.int .u32 (Z14 (p^^^4294967295) (bs.take k):Nat)/\Hid (Tab wr w1.heap.size (Ji 8)/\Below w.heap.size w wr)) (fun _ i _=>n-(intOf i).toNat)
 case atStart=>exact⟨0,by omega,rfl,rfl,Ab ⟨Aa HT,Aa HB⟩⟩
 case round=>
  obtain⟨k,hk,rfl,rfl,hW⟩:=hrel
  by_cases hlt:k<n
  . have hkl:k<bs.length:=by rw[Aa HL];exact hlt
    obtain⟨b,o,rfl,hb,hc⟩:=Zh0 (Aa HBY) hkl;have c0:=((Aa hW).2.cell (p:=⟨b,o+k,none⟩) hb).trans hc;have hx:=Aa HV k
    have hr:Z14 (p^^^4294967295) (bs.take k)<4294967296:=Wy _ _ (fun y hy=>by
     obtain⟨i,hi,rfl⟩:=List.getElem_of_mem hy;have:=Aa HV i
     rw[List.length_take]at hi;rw[List.getElem_take];rw[List.getD,List.getElem?_eq_getElem (by omega)]at this;exact this) (Z55 hp)
    have HC:Hid (Z14 (p^^^4294967295) (bs.take (k+1))=Zl7 (Z14 (p^^^4294967295) (bs.take k)) (bs.getD k 0)):=Ab (by rw[Z9y hkl,Zd5]);generalize Z14 (p^^^4294967295) (bs.take k)=r at*;generalize bs.getD k 0=x at*;have hi:=Zjv hr hx;have hlo:(r^^^x)%256<256:=Nat.mod_lt _ (by decide);have c1:=(Aa hW).1.cell hlo;have HS:=Ab (Zkl (n:=r) hx);have ht:=Wc 8 (show (r^^^x)%256<4294967296 by omega);have HH:=Ab (Zgf hr ht);generalize (r^^^x)%256=q at*;clear hc hb hkl HT HB HN HB1;go_wp2;go_roundw
    case rel=>exact⟨k+1,by omega,by go_num,by rw[Aa HH,Aa HS,Aa HC],hW⟩
    case measure=>simp[intOf];omega
  . have e:k=n:=by omega
    subst e;have HE:Hid (Z14 (p^^^4294967295) (bs.take k)^^^4294967295=crcN p bs):=Ab (by rw[List.take_of_length_le (by rw[Aa HL];exact Nat.le_refl _)];rfl)
    have hr:Z14 (p^^^4294967295) (bs.take k)<4294967296:=Wy _ _ (fun y hy=>by
     obtain⟨i,hi,rfl⟩:=List.getElem_of_mem hy;have:=Aa HV i
     rw[List.length_take]at hi;rw[List.getElem_take];rw[List.getD,List.getElem?_eq_getElem (by omega)]at this;exact this) (Z55 hp)
    have HNN:=Ab (Znq hr);clear hr;go_wp2;go_ret2;exact⟨by rw[Aa HNN,Aa HE];rfl,(Aa hW).2⟩
end Go.Proofs.YtcjbgpacnkilnagGreatDoor
namespace Go.Proofs.YtcjbgpacnkilnagGreatDoor
open Go.RowKit
set_option linter.unusedVariables false
theorem Ac {w:World}{b i:Nat}{cs:Array Value}{t:TypeId}(h:w.heap[b]? =some (.cells cs t (0,0))):w.cell? ⟨b,i,none⟩=cs[i]? :=cell_of_row w b i _ _ _ h
def Kp (No:Nat->Prop)(w w':World):Prop:=∀g,g<w.heap.size->No g->w'.heap[g]? =w.heap[g]?
theorem Kp.refl (No:Nat->Prop)(w:World):Kp No w w:=fun _ _ _=>rfl
theorem Kp.trans {No:Nat->Prop}{a b c:World}(h:Kp No a b)(k:Kp No b c)(hs:a.heap.size<=b.heap.size):Kp No a c:=fun g hg hn=>(k g (by omega) hn).trans (h g hg hn)
theorem Kp.grown {No:Nat->Prop}{a w w':World}{r:Option Nat}(h:Kp No a w)(hg:w.grownBy w' r)(hs:a.heap.size<=w.heap.size)(hr:∀j,r=some j->¬No j):Kp No a w':=by
 intro g h1 h2;rw[hg.block g (by omega) (fun e=>hr g e.symm h2)];exact h g h1 h2
theorem Bytes.grown {w w':World}{b o:Nat}{xs:List Nat}{r:Option Nat}(h:Bytes w b o xs)(hg:w.grownBy w' r)(hr:some b≠r):Bytes w' b o xs:=fun j hj=>hg.cell (h j hj) hr
theorem Kp.weaken {No No':Nat->Prop}{w w':World}(h:Kp No' w w')(hn:∀g,No g->No' g):Kp No w w':=fun g h1 h2=>h g h1 (hn g h2)
theorem Ar {w w':World}{B e size n:Nat}{v:Value}{xs:List Value}(h:w.ownsRow B e size v n xs)(hk:∀g,v.ownBlock=some g->w'.heap[g]? =w.heap[g]?):w'.ownsRow B e size v n xs:=by
 refine⟨h.1, ?_⟩
 rcases h.2 with h1|⟨g,cap,cur,h1,h2,h3,h4⟩
 . exact .inl h1
 . exact .inr ⟨g,cap,cur,h1,h2,(hk g (by rw[h1];rfl)).trans h3,h4⟩
theorem Vv {w:World}{B B' e size n:Nat}{v:Value}{xs:List Value}(h:w.ownsRow B e size v n xs)(hB:B'<=B):w.ownsRow B' e size v n xs:=by
 refine⟨h.1, ?_⟩
 rcases h.2 with h1|⟨g,cap,cur,h1,h2,h3⟩
 . exact .inl h1
 . exact .inr ⟨g,cap,cur,h1,Nat.le_trans hB h2,h3⟩
theorem Bt {w:World}{B e size n:Nat}{v:Value}{xs:List Value}(h:w.ownsRow B e size v n xs)(hn:0<n):∃g cap,v=.slice (some ⟨g,0,none⟩) n cap/\B<=g/\g<w.heap.size:=by
 rcases h.2 with ⟨h1,h2⟩|⟨g,cap,cur,h1,h2,h3⟩
 . omega
 . exact⟨g,cap,h1,h2,(h.lt g (by rw[h1];rfl)).2⟩
theorem Z9l (xs:List Nat)(y:Nat):u8s (xs++ [y])=u8s xs++ [.int .u8 (y:Int)]:=by simp[u8s]
theorem Cm {w:World}{a:Option Addr}{bs:List Nat}(h:BytesIn w a bs)(hp:0<bs.length):∃b o,a=some ⟨b,o,none⟩/\b<w.heap.size/\Bytes w b o bs:=by
 rcases h with rfl|h
 . simp at hp
 . exact h
theorem BytesIn.ofOwn {w:World}{B n:Nat}{v:Value}{xs:List Nat}(h:w.ownsRow B 5 1 v n (u8s xs)):xs.length=n/\∃a c,v=.slice a n c/\BytesIn w a xs:=by
 have hn:xs.length=n:=by have:=h.1;simpa using this
 refine⟨hn, ?_⟩
 rcases h.2 with ⟨h1,h2⟩|⟨g,cap,cur,h1,_⟩
 . subst h2;exact⟨none,0,h1,.inl (List.eq_nil_of_length_eq_zero hn)⟩
 . subst h1;exact⟨_,_,rfl,BytesIn.own h⟩
theorem Ao {w:World}{B e size n:Nat}{v:Value}{xs:List Value}(h:w.ownsRow B e size v n xs):∃a c,v=.slice a n c:=by
 rcases h.2 with ⟨h1,h2⟩|⟨g,cap,cur,h1,_⟩
 . subst h2;exact⟨none,0,h1⟩
 . exact⟨_,_,h1⟩
end Go.Proofs.YtcjbgpacnkilnagGreatDoor
namespace Go.Proofs.YtcjbgpacnkilnagGreatDoor
open Go.RowKit
set_option linter.unusedVariables false
set_option linter.unusedSimpArgs false
theorem Ha (a:Nat)(ha:a<4611686018427387904):(BitVec.ofInt 64 (a:Int)).toNat=a:=by
 rw[BitVec.ofInt_natCast,BitVec.toNat_ofNat];exact Nat.mod_eq_of_lt (by omega)
theorem Gh (a:Nat)(ha:a<4611686018427387904):IntKind.i64.wrap (a:Int)=(a:Int):=by
 rw[IntKind.wrap_i64];omega
theorem Qv (a b:Nat)(ha:a<4611686018427387904)(hb:b<4611686018427387904):bits .and .i64 (a:Int) (b:Int)=((a&&&b:Nat):Int):=by
 have hx:a&&&b<2^62:=Nat.and_lt_two_pow _ (by omega);show IntKind.i64.wrap ((BitVec.ofInt 64 (a:Int)&&&BitVec.ofInt 64 (b:Int)).toNat:Int)=_
 rw[BitVec.toNat_and,Ha a ha,Ha b hb];exact Gh _ (by omega)
theorem Mx (a b:Nat)(ha:a<4611686018427387904)(hb:b<4611686018427387904):bits .or .i64 (a:Int) (b:Int)=((a|||b:Nat):Int):=by
 have hx:a|||b<2^62:=Nat.or_lt_two_pow (by omega) (by omega)
 show IntKind.i64.wrap ((BitVec.ofInt 64 (a:Int)|||BitVec.ofInt 64 (b:Int)).toNat:Int)=_
 rw[BitVec.toNat_or,Ha a ha,Ha b hb];exact Gh _ (by omega)
theorem Gn (n k:Nat):(n:Int)/2^k=((n/2^k:Nat):Int):=by
 push_cast;rfl
theorem Z37 (n k:Nat)(hn:n<4611686018427387904):bits .and .i64 ((n:Int)/2^k) 1=((n/2^k%2:Nat):Int):=by
 rw[Gn];have h:n/2^k<=n:=Nat.div_le_self _ _;have:=Qv (n/2^k) 1 (by omega) (by omega)
 rw[Nat.and_one_is_mod]at this;exact this
theorem Z4s {k:Nat}(h:k<=7):2^k<=128:=Nat.pow_le_pow_right (j:=7) (by decide) h
theorem Uo {x p q:Nat}(h:p<=q):x%2*p<=q:=by
 rcases Nat.mod_two_eq_zero_or_one x with e|e<;>rw[e]<;>omega
theorem Z9o (m n k:Nat)(hm:m<65536)(hn:n<65536):
 bits .or .i64 ((m:Int)*2) (bits .and .i64 ((n:Int)/2^k) 1)=((m*2|||n/2^k%2:Nat):Int):=by
 rw[Z37 n k (by omega)];have:=Mx (m*2) (n/2^k%2) (by omega) (by omega)
 rw[<-this];push_cast;rfl
theorem Zfc (x n k r:Nat)(hx:x<256)(hn:n<65536)(hr:r<8):
 bits .or .u8 (x:Int) (bits .and .i64 ((n:Int)/2^k) 1%256*2^r%256)=((x|||n/2^k%2*2^r:Nat):Int):=by
 rw[Z37 n k (by omega)];have h2:=Uo (x:=n/2^k) (Z4s (k:=r) (by omega))
 have e:(((n/2^k%2:Nat):Int)%256*2^r%256)=((n/2^k%2*2^r:Nat):Int):=by
  have e1:((n/2^k%2:Nat):Int)%256=((n/2^k%2:Nat):Int):=by omega
  have e2:(((n/2^k%2:Nat):Int)*2^r)=((n/2^k%2*2^r:Nat):Int):=by push_cast;rfl
  rw[e1,e2];omega
 rw[e];exact u8_or_nat _ _ hx (by omega)
theorem Ps (n k r i:Nat):(n/2^k%2*2^r).testBit i=(decide (i=r)&&n.testBit k):=by
 rw[Nat.testBit_mul_two_pow]
 have h:∀j,(n/2^k%2).testBit j=(decide (j=0)&&n.testBit k):=by
  intro j;have:=Nat.testBit_mod_two_pow (n/2^k) 1 j
  rw[Nat.pow_one]at this;rw[this,Nat.testBit_div_two_pow]
  by_cases hj:j=0
  . subst hj;simp
  . simp[hj]
 rw[h]
 by_cases hi:i=r
 . subst hi;simp
 . by_cases hl:r<=i
   . have:i-r≠0:=by omega
     simp[hi,this]
   . simp[hi,hl]
def Hx (n:Nat):Nat->Nat
 |0=>0
 |k+1=>Hx n k*2|||n/2^k%2
theorem Pp (n:Nat):∀k i,(Hx n k).testBit i=(decide (i<k)&&n.testBit (k-1-i))
 |0,i=>by simp[Hx]
 |k+1,i=>by
  have h1:=Ps n k 0 i;rw[Nat.pow_zero,Nat.mul_one]at h1;have h2:=Nat.testBit_mul_two_pow (Hx n k) i 1;rw[Nat.pow_one]at h2;rw[Hx,Nat.testBit_or,h1,h2,Pp n k (i-1)]
  by_cases hi:i=0
  . subst hi;simp
  . have e:k+1-1-i=k-1-(i-1):=by omega
    have e2:(i-1<k)=(i<k+1):=by apply propext;omega
    have e3:1<=i:=by omega
    rw[e];simp only[e2,hi,e3,decide_true,Bool.true_and,decide_false,Bool.false_and,Bool.or_false]
theorem Zeq (n k:Nat):Hx n k<2^k:=by
 apply Nat.lt_pow_two_of_testBit
 intro i hi;rw[Pp];have:¬i<k:=by omega
 simp[this]
def Jv (xs:List Nat)(k:Nat):Bool:=(xs.getD (k/8) 0).testBit (k%8)
theorem Z5s (xs:List Nat)(i j v:Nat):(xs.set i v).getD j 0=if i=j/\i<xs.length then v else xs.getD j 0:=by
 rw[List.getD_eq_getElem?_getD,List.getElem?_set,List.getD_eq_getElem?_getD]
 by_cases e:i=j
 . subst e
   by_cases h:i<xs.length
   . simp[h]
   . simp[h]
 . simp[e]
end Go.Proofs.YtcjbgpacnkilnagGreatDoor
namespace Go.Proofs.YtcjbgpacnkilnagGreatDoor
open Go.RowKit
set_option linter.unusedVariables false
def arr (c:Nat->Nat):Array Value:=((List.range 16).map fun n=>Value.int .i64 ((c n:Nat):Int)).toArray
theorem Fj (c:Nat->Nat):(arr c).size=16:=by simp[arr]
theorem Zdw (c:Nat->Nat){j:Nat}(h:j<16):(arr c)[j]? =some (.int .i64 ((c j:Nat):Int)):=by simp[arr,h]
theorem Zl3 (c:Nat->Nat):(arr c).all (·.oneCell')=true:=by
 rw[Array.all_eq_true];intro i hi;simp[arr,Value.oneCell']
def upd (c:Nat->Nat)(j x:Nat):Nat->Nat:=fun n=>if n=j then x else c n
theorem Zl2 (c:Nat->Nat)(j x:Nat):(arr c).setIfInBounds j (.int .i64 ((x:Nat):Int))=arr (upd c j x):=by
 apply Array.ext_getElem?
 intro i;rw[Array.getElem?_setIfInBounds]
 by_cases h:i<16
 . rw[Zdw _ h,Fj,Zdw _ h]
   by_cases e:j=i
   . subst e;simp[h,upd]
   . simp[e,upd,Ne.symm e]
 . rw[Fj];have h1:∀f,(arr f)[i]? =none:=fun f=>by simp[Fj];omega
   rw[h1,h1]
   by_cases e:j=i
   . subst e;simp[h]
   . simp[e]
def cnt (l:List Int)(n:Nat):Nat:=l.count (n:Int)
def takenN (c:Nat->Nat):Nat->Nat
 |0=>0
 |k+1=>takenN c k+c (k+1)*2^(14-k)
def Bb (c:Nat->Nat):Nat->Nat
 |0=>0
 |1=>0
 |n+2=>2*(Bb c (n+1)+c (n+1))
theorem Ul (l:List Int)(n:Nat):cnt l n<=l.length:=List.count_le_length
theorem Ym (c:Nat->Nat){m:Nat}(h:∀n,c n<=m):∀k,takenN c k<=k*(m*32768)
 |0=>by simp[takenN]
 |k+1=>by
  have h1:=Ym c h k
  have h2:c (k+1)*2^(14-k)<=m*32768:=Nat.mul_le_mul (h _) (by
   have:=Nat.pow_le_pow_right (n:=2) (by decide) (show 14-k<=15 by omega)
   omega)
  rw[takenN,Nat.succ_mul];omega
theorem Qz (c:Nat->Nat):∀k,k<=14->Bb c (k+1)*2^(14-k)=takenN c k
 |0,_=>by simp[Bb,takenN]
 |k+1,h=>by
  have ih:=Qz c k (by omega);have e:14-k=(14-(k+1))+1:=by omega
  rw[takenN,<-ih,Bb,e,Nat.pow_succ];generalize 2^(14-(k+1))=p;rw[<-Nat.add_mul,Nat.mul_comm p 2,<-Nat.mul_assoc,Nat.mul_comm 2]
theorem Z6o (c:Nat->Nat){j k:Nat}(h:j<=k):takenN c j<=takenN c k:=by
 induction h with
 |refl=>exact Nat.le_refl _
 |step _ ih=>exact Nat.le_trans ih (Nat.le_add_right _ _)
theorem Z7u (c:Nat->Nat)(h:takenN c 15<=32768){n:Nat}(h1:1<=n)(h2:n<=15):Bb c n+c n<=2^n:=by
 obtain⟨k,rfl⟩:∃k,n=k+1:=⟨n-1,by omega⟩
 have e:=Qz c k (by omega);have m:=Z6o c (show k+1<=15 by omega);rw[takenN]at m
 have m2:(Bb c (k+1)+c (k+1))*2^(14-k)<=2^(k+1)*2^(14-k):=by
  rw[Nat.add_mul,e,<-Nat.pow_add];have:k+1+(14-k)=15:=by omega
  rw[this];omega
 exact Nat.le_of_mul_le_mul_right m2 (Nat.pow_pos (by decide))
theorem Z0n (c:Nat->Nat)(m:Nat)(h1:1<=m):∀d,1<=d->(Bb c m+c m)*2^d<=Bb c (m+d)
 |0,h=>by omega
 |d+1,_=>by
  obtain⟨k,rfl⟩:∃k,m=k+1:=⟨m-1,by omega⟩
  have e:Bb c (k+1+(d+1))=2*(Bb c (k+1+d)+c (k+1+d)):=by
   have:k+1+(d+1)=(k+d)+2:=by omega
   have h3:k+1+d=(k+d)+1:=by omega
   rw[this,Bb,h3]
  rw[e,Nat.pow_succ]
  by_cases hd:d=0
  . subst hd;simp;omega
  . have:=Z0n c (k+1) h1 d (by omega)
    rw[<-Nat.mul_assoc];omega
end Go.Proofs.YtcjbgpacnkilnagGreatDoor
namespace Go.Proofs.YtcjbgpacnkilnagGreatDoor
set_option linter.unusedVariables false
def Vy (n:Int):Bool:=decide (0<=n/\n<=15)
theorem Gz {n:Int}(h:Vy n=true):0<=n/\n<=15:=of_decide_eq_true h
theorem Kd {n:Int}(h:Vy n=false):¬(0<=n/\n<=15):=of_decide_eq_false h
theorem Jo (l:List Int){k n:Nat}(hk:k<l.length)(hx:l.getD k 0=(n:Int)):upd (cnt (l.take k)) n (cnt (l.take k) n+1)=cnt (l.take (k+1)):=by
 funext m
 have e:l[k]=(n:Int):=by simpa[List.getD,hk]using hx
 simp only[upd,cnt];rw[List.take_succ_eq_append_getElem hk,List.count_append,e]
 by_cases h:m=n
 . subst h;simp
 . have:((n:Int)==(m:Int))=false:=by rw[beq_eq_false_iff_ne];omega
   simp[h,List.count_cons,this]
def errL (l:List Int):Int:=if 288<l.length then 2 else if ∃j,j<l.length/\Vy (l.getD j 0)=false then 3 else if 32768<takenN (cnt l) 15 then 8 else 0
def Zde (l:List Int):Nat->Nat:=if errL l=0 then cnt l else fun _=>0
structure Good (l:List Int):Prop where
 len:l.length<=288
 ok:∀j,j<l.length->0<=l.getD j 0/\l.getD j 0<=15
 room:takenN (cnt l) 15<=32768
theorem Ci {l:List Int}(h:errL l=0):Good l:=by
 unfold errL at h
 split at h
 . cases h
 . split at h
   . cases h
   . split at h
     . cases h
     . rename_i h1 h2 h3
       refine⟨by omega,fun j hj=> ?_,by omega⟩
       cases e:Vy (l.getD j 0)with
       |true=>exact Gz e
       |false=>exact absurd ⟨j,hj,e⟩ h2
theorem Iu {l:List Int}(h:Good l):errL l=0:=by
 unfold errL;rw[if_neg (by have:=h.len;omega),if_neg,if_neg (by have:=h.room;omega)];rintro ⟨j,hj,e⟩;exact Kd e (h.ok j hj)
def codeN (l:List Int)(i:Nat):Nat:=if (l.getD i 0).toNat=0 then 0 else Bb (cnt l) (l.getD i 0).toNat+cnt (l.take i) (l.getD i 0).toNat
def Rt (l:List Int):Nat->List Nat
 |0=>List.replicate l.length 0
 |k+1=>(Rt l k).set k (codeN l k)
theorem Ds (l:List Int):∀k,(Rt l k).length=l.length
 |0=>by simp[Rt]
 |k+1=>by rw[Rt,List.length_set,Ds l k]
theorem Xb (l:List Int){j:Nat}(hj:j<l.length):∀k,(Rt l k).getD j 0=if j<k then codeN l j else 0
 |0=>by simp[Rt,List.getD,hj]
 |k+1=>by
  have ih:=Xb l hj k;simp only[Rt,List.getD_eq_getElem?_getD,List.getElem?_set,Ds]at ih ⊢
  by_cases e:k=j
  . subst e;simp[hj]
  . rw[if_neg e,ih]
    by_cases h:j<k
    . have:j<k+1:=by omega
      simp[h,this]
    . have:¬j<k+1:=by omega
      simp[h,this]
theorem Zdc (l:List Int)(k:Nat)(h:codeN l k=0):Rt l (k+1)=Rt l k:=by
 rw[Rt,h]
 by_cases hk:k<l.length
 . have e:=Xb l hk k;rw[if_neg (by omega)]at e;have hk2:k<(Rt l k).length:=by rw[Ds];exact hk
   have e2:(Rt l k)[k]=0:=by simpa[List.getD,hk2]using e
   apply List.ext_getElem?
   intro i;rw[List.getElem?_set]
   by_cases hi:k=i
   . subst hi;simp[hk2,e2]
   . simp[hi]
 . rw[List.set_eq_of_length_le (by rw[Ds];omega)]
def nxt (l:List Int)(k:Nat):Nat->Nat:=fun n=>if n=0 then 0 else Bb (cnt l) n+cnt (l.take k) n
theorem Zfr (l:List Int)(n:Nat):nxt l 0 n=Bb (cnt l) n:=by
 unfold nxt
 by_cases e:n=0
 . subst e;rfl
 . simp[e,cnt]
theorem Zfs (l:List Int){k n:Nat}(hk:k<l.length)(hx:l.getD k 0=(n:Int))(hn:0<n):upd (nxt l k) n (nxt l k n+1)=nxt l (k+1):=by
 have h:=Jo l hk hx
 funext m
 have hm:=congrFun h m;simp only[upd,nxt]at hm ⊢
 by_cases e:m=n
 . subst e;have:¬m=0:=by omega
   simp[this]at hm ⊢;omega
 . simp[e]at hm ⊢
   rw[hm]
theorem Zft (l:List Int){k:Nat}(hk:k<l.length)(hx:l.getD k 0=((0:Nat):Int)):nxt l k=nxt l (k+1):=by
 have h:=Jo l hk hx
 funext m
 have hm:=congrFun h m;simp only[upd,nxt]at hm ⊢
 by_cases e:m=0
 . simp[e]
 . simp[e]at hm ⊢
   rw[hm]
theorem Md (l:List Int){k n:Nat}(hx:l.getD k 0=(n:Int)):codeN l k=nxt l k n:=by
 unfold codeN nxt;rw[hx,Int.toNat_natCast]
theorem Zdd {l:List Int}(h:Good l):Zde l=cnt l:=by unfold Zde;rw[Iu h];rfl
theorem Z3l (l:List Int){k n:Nat}(hk:k<l.length)(hx:l.getD k 0=(n:Int)):cnt (l.take k) n<cnt l n:=by
 have h:=congrFun (Jo l hk hx) n;simp only[upd,if_pos]at h
 have h2:cnt (l.take (k+1)) n<=cnt l n:=by
  unfold cnt;exact List.Sublist.count_le _ (List.take_sublist _ _)
 omega
theorem Iy (l:List Int)(h:Good l){k n:Nat}(hk:k<l.length)(hx:l.getD k 0=(n:Int))(hn:0<n):Bb (cnt l) n<=codeN l k/\codeN l k<Bb (cnt l) n+cnt l n/\codeN l k<2^n:=by
 have h1:=Md l hx;have h2:=Z3l l hk hx;have h3:n<=15:=by have:=(h.ok k hk).2;omega
 have h4:=Z7u (cnt l) h.room (n:=n) (by omega) h3;unfold nxt at h1;rw[if_neg (by omega)]at h1;omega
def Zfg (l:List Int)(m:Nat):Nat->List Nat
 |0=> []
 |k+1=>Zfg l m k++(if l.getD k 0=(m:Int)then [k]else [])
theorem Qg (l:List Int)(m:Nat):∀k,k<=l.length->(Zfg l m k).length=cnt (l.take k) m
 |0,_=>by simp[Zfg,cnt]
 |k+1,hk=>by
  have ih:=Qg l m k (by omega);have hk':k<l.length:=by omega
  rw[Zfg,List.length_append,ih,cnt,cnt,List.take_succ_eq_append_getElem hk',List.count_append];have e:l.getD k 0=l[k]:=by simp[List.getD,hk']
  rw[e]
  by_cases h:l[k]=(m:Int)
  . simp[h]
  . simp[h]
theorem Z4u (l:List Int)(m:Nat):∀k d,∃r,Zfg l m (k+d)=Zfg l m k++r
 |k,0=>⟨[],by simp⟩
 |k,d+1=>by
  obtain⟨r,hr⟩:=Z4u l m k d;refine⟨r++(if l.getD (k+d) 0=(m:Int)then [k+d]else []), ?_⟩;rw[<-Nat.add_assoc,Zfg,hr,List.append_assoc]
theorem Zas (l:List Int){m p:Nat}(hp:p<l.length)(hx:l.getD p 0=(m:Int)):(Zfg l m l.length)[cnt (l.take p) m]? =some p:=by
 obtain⟨r,hr⟩:=Z4u l m (p+1) (l.length-(p+1));rw[show p+1+(l.length-(p+1))=l.length by omega]at hr;rw[hr,Zfg,if_pos hx];have h:=Qg l m p (by omega);rw[List.append_assoc,List.getElem?_append_right (by omega),h];simp
theorem Qf (l:List Int)(hG:Good l){i k m n:Nat}(hi:i<l.length)(hk:k<l.length)(hm:l.getD i 0=(m:Int))(hn:l.getD k 0=(n:Int))(hik:i≠k)(h0:0<m)(hmn:m<=n):codeN l k/2^(n-m)≠codeN l i:=by
 obtain⟨a1,a2,a3⟩:=Iy l hG hi hm h0;obtain⟨b1,b2,b3⟩:=Iy l hG hk hn (by omega)
 by_cases e:m=n
 . subst e;rw[Nat.sub_self,Nat.pow_zero,Nat.div_one];intro h;have e1:=Zas l hi hm;have e2:=Zas l hk hn;have d1:=Md l hm;have d2:=Md l hn;unfold nxt at d1 d2;rw[if_neg (by omega)]at d1 d2;have:cnt (l.take i) m=cnt (l.take k) m:=by omega
   rw[this,e2]at e1;exact hik (Option.some.inj e1).symm
 . have hf:=Z0n (cnt l) m (by omega) (n-m) (by omega);rw[show m+(n-m)=n by omega]at hf;have h4:Bb (cnt l) m+cnt l m<=codeN l k/2^(n-m):=(Nat.le_div_iff_mul_le (Nat.pow_pos (by decide))).2 (by omega);omega
end Go.Proofs.YtcjbgpacnkilnagGreatDoor
