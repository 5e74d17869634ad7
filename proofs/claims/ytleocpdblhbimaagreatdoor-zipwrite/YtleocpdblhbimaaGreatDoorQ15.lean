import Derived.Test.YtleocpdblhbimaaGreatDoorQ14
import Derived.Test.YtleocpdblhbimaaGreatDoorQ10
import Derived.Test.YtleocpdblhbimaaGreatDoorQ50
import Derived.Test.YtleocpdblhbimaaGreatDoorQ13
set_option linter.unusedSimpArgs false
set_option maxHeartbeats 2000000
namespace Go.Proofs.YtleocpdblhbimaaGreatDoor
open Go.RowKit
set_option linter.unusedVariables false
set_option maxRecDepth 100000
theorem BB {w:World}{a:Option Addr}{bs:List Nat}(h:BytesIn w a bs){j:Nat}(hj:j<bs.length):∃b o,a=some ⟨b,o,none⟩/\b<w.heap.size/\w.cell? ⟨b,o+j,none⟩=some (.int .u8 ((bs.getD j 0:Nat):Int)):=by
 rcases h with h|⟨b,o,h1,h2,h3⟩
 . subst h;simp at hj
 . exact⟨b,o,h1,h2,h3 j hj⟩
theorem Z4d {n:Nat}(h:n<4294967296):bits .xor .u32 IntKind.u32.max (n:Int)=((n^^^4294967295:Nat):Int):=by
 have:=u32_xor_nat 4294967295 n (by decide) h
 rw[Nat.xor_comm]at this;exact this
theorem Z1p {n x:Nat}(hn:n<4294967296)(hx:x<256):bits .xor .u8 ((n:Int)%256) (x:Int)=(((n^^^x)%256:Nat):Int):=by
 have h:=u8_xor_nat (n%256) x (Nat.mod_lt _ (by decide)) hx;have e:((n%256:Nat):Int)=(n:Int)%256:=rfl;rw[e]at h;rw[h];have h2:(n^^^x)%2^8=n%2^8^^^x%2^8:=Nat.xor_mod_two_pow;rw[show (256:Nat)=2^8 from rfl,h2,ZH (a:=x) (by simpa using hx)]
theorem RH {n m:Nat}(hn:n<4294967296)(hm:m<4294967296):bits .xor .u32 (m:Int) ((n:Int)/256)=((m^^^n/256:Nat):Int):=u32_xor_nat m (n/256) hm (by omega)
theorem Z2c {n x:Nat}(hx:x<256):Hz 8 ((n^^^x)%256)^^^n/256=RX n x:=by
 unfold RX;rw[DA (n^^^x)]
 congr 1
 have h2:(n^^^x)/2^8=n/2^8^^^x/2^8:=by simpa[Nat.shiftRight_eq_div_pow]using Nat.shiftRight_xor_distrib (a:=n) (b:=x) (i:=8)
 rw[show (256:Nat)=2^8 from rfl,h2,Nat.div_eq_of_lt (a:=x) (by simpa using hx),Nat.xor_zero]
theorem Yj {bs:List Nat}{k:Nat}(h:k<bs.length):bs.take (k+1)=bs.take k++ [bs.getD k 0]:=by
 rw[ZA];simp[List.getD,h]
theorem Z46 (p:Nat)(a:Option Addr)(n cap:Nat)(bs:List Nat)(w:World)(hl:bs.length=n)(hn:n<=12000)(hp:p<4294967296)(hby:BytesIn w a bs)(hv:∀j,bs.getD j 0<256):
 Calls Tryz.prog 75 #[.int .u32 (p:Int),.slice a n cap] w fun e w'=>e=.returned (.tuple #[.int .u32 (crcN p bs:Nat),.int .i64 0])/\Below w.heap.size w w':=by
 have hz:=S7;have h:¬(12000:Int)<(n:Int):=by omega
 have HBY:=Ab hby;have HV:=Ab hv;have HL:=Ab hl;clear hby hv hl;go_enter Tryz.func75,Tryz.ntmps75
 go_wp2_with fail
 refine(I1 w).mono ?_;rintro e w1 ⟨rfl,hB1⟩;have HB1:=Ab hB1;clear hB1;have HN:Hid (Tab (w1.alloc (.cells (tab (fun _=>0)) 174)) w1.heap.size (fun _=>0)):=Ab (heap_alloc_new _ _);go_wp2_with (refine Yr rfl (.tmp 6) (.tmp 13) rfl _ _ (Hz 8) rfl rfl (Aa HN) ?_)
 have HT:=Ab ((Aa HN).setRow (Hz 8));have HB:Hid (Below w.heap.size w ((w1.alloc (.cells (tab (fun _=>0)) 174)).setRow w1.heap.size (tab (Hz 8)))):=Ab (Mm ((Aa HB1).alloc (Aa HB1).size _) (Aa HB1).size _);have HP:=Ab (Z4d hp);rw[Aa HP];go_loopw [7,18] (fun r i wr=>∃k:Nat,k<=n/\i=.int .i64 (k:Int)/\r=.int .u32 (Sa (p^^^4294967295) (bs.take k):Nat)/\Hid (Tab wr w1.heap.size (Hz 8)/\Below w.heap.size w wr)) (fun _ i _=>n-(intOf i).toNat)
 case atStart=>exact⟨0,by omega,rfl,rfl,Ab ⟨Aa HT,Aa HB⟩⟩
 case round=>
  obtain⟨k,hk,rfl,rfl,hW⟩:=hrel
  by_cases hlt:k<n
  . have hkl:k<bs.length:=by rw[Aa HL];exact hlt
    obtain⟨b,o,rfl,hb,hc⟩:=BB (Aa HBY) hkl;have c0:=((Aa hW).2.cell (p:=⟨b,o+k,none⟩) hb).trans hc;have hx:=Aa HV k
    have hr:Sa (p^^^4294967295) (bs.take k)<4294967296:=Ry _ _ (fun y hy=>by
     obtain⟨i,hi,rfl⟩:=XF hy;have:=Aa HV i
     rw[VM]at hi;rw[ZB];rw[List.getD,VR (by omega)]at this;exact this) (Zs hp)
    have HC:Hid (Sa (p^^^4294967295) (bs.take (k+1))=RX (Sa (p^^^4294967295) (bs.take k)) (bs.getD k 0)):=Ab (by rw[Yj hkl,E7]);generalize Sa (p^^^4294967295) (bs.take k)=r at*;generalize bs.getD k 0=x at*;have hi:=Z1p hr hx;have hlo:(r^^^x)%256<256:=Nat.mod_lt _ (by decide);have c1:=(Aa hW).1.cell hlo;have HS:=Ab (Z2c (n:=r) hx);have ht:=Qz 8 (show (r^^^x)%256<4294967296 by omega);have HH:=Ab (RH hr ht);generalize (r^^^x)%256=q at*;clear hc hb hkl HT HB HN HB1;go_wp2;go_roundw
    case rel=>exact⟨k+1,by omega,by go_num,by rw[Aa HH,Aa HS,Aa HC],hW⟩
    case measure=>simp[intOf];omega
  . have e:k=n:=by omega
    subst e;have HE:Hid (Sa (p^^^4294967295) (bs.take k)^^^4294967295=crcN p bs):=Ab (by rw[VP (by rw[Aa HL];exact VC _)];rfl)
    have hr:Sa (p^^^4294967295) (bs.take k)<4294967296:=Ry _ _ (fun y hy=>by
     obtain⟨i,hi,rfl⟩:=XF hy;have:=Aa HV i
     rw[VM]at hi;rw[ZB];rw[List.getD,VR (by omega)]at this;exact this) (Zs hp)
    have HNN:=Ab (Z4d hr);clear hr;go_wp2;go_ret2;exact⟨by rw[Aa HNN,Aa HE];rfl,(Aa hW).2⟩
theorem Nz {w:World}{ops:Array Oper}{rest:List Oper}{o:Oper}{a:Act}{Q:Exit->Act->World->Prop}(hgd:o.guard=none)(s x:Operand)
 (ho:o.op=.call {callee:=.builtin .append,args:= #[s,x],argTypes:= #[23,23]}) (base:Nat) (v:Value) (xs ys:List Nat) (hs:a.eval s=v) (hown:w.ownsRow base 5 1 v xs.length (u8s xs)) (ad:Option Addr) (m c:Nat) (hx:a.eval x=.slice ad m c) (hm:ys.length=m) (hP:PkIn w ad c ys) (hsz:xs.length+m<=140737488355328) (hbase:base<=w.heap.size)
 (h:∀v' w',w'.ownsRow base 5 1 v' (xs.length+ys.length) (u8s xs++u8s ys)->w.grownBy w' v.ownBlock->wpList Tryz.prog ops Q rest (a.put o.dst v') w'):wpList Tryz.prog ops Q (o::rest) a w:=by
 refine wpList_plain hgd fun K hK=> ?_
 obtain⟨v',w',hr,h2,h3⟩:=Lc w o.type base v xs ys hown ad m c hm hP hsz hbase;unfold Oper.wp execOp;simp only[ho,resolve,invoke,builtin,Sem.run_bind,Sem.run_pure,Result.andThen_ok,ZI,WP,ZF,hs,hx,hr];exact hK _ _ (h v' w' h2 h3)
theorem S9 (a:Option Addr)(n cap:Nat)(bs:List Nat)(w:World)(hl:bs.length=n)(hn:n<=12000)(hby:BytesIn w a bs)(hv:∀j,bs.getD j 0<256):
 Calls Tryz.prog 53 #[.slice a n cap] w fun e w'=>e=.returned (.int .u32 (crcN 0 bs:Nat))/\Below w.heap.size w w':=by
 have HC:=Ab (Z46 0 a n cap bs w hl hn (by decide) hby hv);clear hl hby hv;go_enter Tryz.func53,Tryz.ntmps53
 go_wp2_with fail
 refine(Aa HC).mono ?_;rintro e w1 ⟨rfl,hB⟩;have HB:=Ab hB;clear hB;go_wp2;go_ret;exact⟨rfl,Aa HB⟩
def Unp (w:World)(m:Nat)(pk:List Nat)(e:Ending)(w':World):Prop:=
 Below w.heap.size w w'/\((unpF m pk=none/\∃a l c,e=.returned (.tuple #[.slice a l c,.bool false]))\/ (∃ys,unpF m pk=some ys/\ys.length<=12000/\(∀x∈ys,x<256)/\∃a c,e=.returned (.tuple #[.slice a ys.length c,.bool true])/\ys.length<=c/\PkIn w' a c ys/\∀g o,a=some ⟨g,o,none⟩->ys≠ []->w.heap.size<=g))
theorem Xx (m n c:Nat)(a:Option Addr)(pk:List Nat)(w:World)(hl:pk.length=n)(hn:n<=12000)(hP:PkIn w a c pk)(hv:∀x∈pk,x<256)(hIC:Z2z\/m≠8):
 Calls Tryz.prog 128 #[.int .u32 (m:Int),.slice a n c] w fun e w'=>Unp w m pk e w':=by
 by_cases h0:m=0
 . subst h0;have hu:unpF 0 pk=some pk:=rfl;have HP:=Ab hP;have HU:=Ab hu;have HV:=Ab hv;have HL:=Ab hl;clear hP hu hv hl;go_enter Tryz.func128,Tryz.ntmps128
   go_wp2_with (at_builtin;refine Nz rfl _ _ rfl w.heap.size (.slice none 0 0) [] pk rfl (World.ownsRow_nil _ _ _ _) a n c rfl (Aa HL) (Aa HP) (by simp;omega) (VC _) ?_)
   intro v' w' hO hg;have hO2:w'.ownsRow w.heap.size 5 1 v' pk.length (u8s pk):=by simpa using hO
   obtain⟨a',c',rfl,q1,q2,q3,q4⟩:=Uh hO2;have HF:Hid (Unp w 0 pk (.returned (.tuple #[.slice a' pk.length c',.bool true])) w'):=Ab ⟨(Below.refl w.heap.size w).grown hg (VC _) (fun g e=>by cases e),.inr ⟨pk,Aa HU,by rw[Aa HL];exact hn,Aa HV,a',c',rfl,q2,q1,fun g o e _=>q4 g o e⟩⟩;clear hO hg hO2 q1 q2 q3 q4;go_wp2;go_ret2;exact Aa HF
 . by_cases h8:m=8
   . subst h8;have hC8:Z2z:=by rcases hIC with h|h;exact h;exact absurd rfl h
     clear h0 hIC;have hv2:=Cv hv;have hu:unpF 8 pk=if pk.length<=6000/\(Db (rowB pk pk.length)).e=0/\((Db (rowB pk pk.length)).p+7)/8=pk.length then some (Db (rowB pk pk.length)).out else none:=rfl
     rw[hl]at hu
     by_cases h6:n<=6000
     . have HC:=Ab (hC8.1 a n c pk w hl h6 hP.1 hv2);have hval:=A8 (rowB pk n) n (Ai pk n);have hah:(Db (rowB pk n)).e=0->(Db (rowB pk n)).out.length<=12000:=fun e=>by have:=Rc (rowB pk n) n (Ai pk n) e;omega
       obtain⟨U,hU⟩:∃U,Db (rowB pk n)=U:=⟨_,rfl⟩
       unfold Z5h at HC;rw[hU]at HC hu hval hah;have HAH:=Ab hah;have HU:=Ab hu;have HVA:=Ab hval;clear hl hP hv hv2 hu hU hval hah;go_enter Tryz.func128,Tryz.ntmps128
       go_wp2_with fail
       refine(Aa HC).mono ?_;rintro e w1 ⟨hB,(⟨e0,ov,kv,rfl,ho,hk⟩|⟨e0,rfl⟩)⟩
       . obtain⟨a',c',rfl,q1,q2,q3,q4⟩:=Uh ho;obtain⟨ka,kc,rfl⟩:=As hk;have hvv:∀x∈U.out,x<256:=Wr (Aa HVA e0);have hLb:=Aa HAH e0;obtain⟨L,hL⟩:∃L,U.out.length=L:=⟨_,rfl⟩
         rw[hL]at hLb;obtain⟨KL,hKL⟩:∃KL,U.ks.length=KL:=⟨_,rfl⟩
         obtain⟨P,hPP⟩:∃P,(U.p+7)/8=P:=⟨_,rfl⟩
         rw[hL,hKL,hPP]
         by_cases hq:P=n
         . have HF:Hid (Unp w 8 pk (.returned (.tuple #[.slice a' L c',.bool true])) w1):=Ab ⟨hB,.inr ⟨U.out,by rw[Aa HU,if_pos ⟨h6,e0,by rw[hPP];exact hq⟩],by rw[hL];exact hLb,hvv,a',c',by rw[hL],q2,q1,fun g o e _=>Nat.le_of_succ_le (q4 g o e)⟩⟩;have hqb:((P:Int)==(n:Int))=true:=by rw[beq_iff_eq];omega
           clear hB ho hk q1 q2 q3 q4 hvv hL hKL hPP hq e0;go_wp2;go_ret2;exact Aa HF
         . have HF:Hid (Unp w 8 pk (.returned (.tuple #[.slice a' L c',.bool false])) w1):=Ab ⟨hB,.inl ⟨by rw[Aa HU,if_neg (by intro hh;exact hq (hPP.symm.trans hh.2.2))],a',L,c',rfl⟩⟩;have hqb:((P:Int)==(n:Int))=false:=by rw[beq_eq_false_iff_ne];omega
           clear hB ho hk q1 q2 q3 q4 hvv hL hKL hPP hq e0;go_wp2;go_ret2;exact Aa HF
       . have HF:Hid (Unp w 8 pk (.returned (.tuple #[.slice none 0 0,.bool false])) w1):=Ab ⟨hB,.inl ⟨by rw[Aa HU,if_neg (by intro hh;exact e0 hh.2.1)],none,0,0,rfl⟩⟩;obtain⟨E,hE⟩:∃E,U.e=E:=⟨_,rfl⟩
         rw[hE]at e0 ⊢;have heb:(E==0)=false:=by rw[beq_eq_false_iff_ne];exact e0
         clear hB hE e0;go_wp2;go_ret2;exact Aa HF
     . have HC:=Ab (hC8.2 a n c w (by omega) (by omega));have HF:Hid (Unp w 8 pk (.returned (.tuple #[.slice none 0 0,.bool false])) w):=Ab ⟨Below.refl _ _,.inl ⟨by rw[hu,if_neg (by intro hh;exact h6 hh.1)],none,0,0,rfl⟩⟩;clear hl hP hv hv2 hu;go_enter Tryz.func128,Tryz.ntmps128
       go_wp2_with fail
       refine(Aa HC).mono ?_;rintro e w1 ⟨rfl,rfl⟩;go_wp2;go_ret2;exact Aa HF
   . have hu:unpF m pk=none:=by unfold unpF;rw[if_neg h0,if_neg h8]
     have HF:Hid (Unp w m pk (.returned (.tuple #[.slice none 0 0,.bool false])) w):=Ab ⟨Below.refl _ _,.inl ⟨hu,none,0,0,rfl⟩⟩;have hb0:((m:Int)==0)=false:=by rw[beq_eq_false_iff_ne];omega
     have hb8:((m:Int)==8)=false:=by rw[beq_eq_false_iff_ne];omega
     clear hl hP hv hu;go_enter Tryz.func128,Tryz.ntmps128
     go_wp2;go_ret2;exact Aa HF
end Go.Proofs.YtleocpdblhbimaaGreatDoor
