import Derived.Test.YtleocpdblhbimaaGreatDoorQ22
import Derived.Test.YtleocpdblhbimaaGreatDoorQ11
set_option linter.unusedSimpArgs false
set_option maxHeartbeats 2000000
namespace Go.Proofs.YtleocpdblhbimaaGreatDoor
open Go.RowKit
set_option linter.unusedVariables false
set_option maxRecDepth 100000
theorem Nz {w:World}{ops:Array Oper}{rest:List Oper}{o:Oper}{a:Act}{Q:Exit->Act->World->Prop}(hgd:o.guard=none)(s x:Operand)
 (ho:o.op=.call {callee:=.builtin .append,args:= #[s,x],argTypes:= #[23,23]}) (base:Nat) (v:Value) (xs ys:List Nat) (hs:a.eval s=v) (hown:w.ownsRow base 5 1 v xs.length (u8s xs)) (ad:Option Addr) (m c:Nat) (hx:a.eval x=.slice ad m c) (hm:ys.length=m) (hP:PkIn w ad c ys) (hsz:xs.length+m<=140737488355328) (hbase:base<=w.heap.size)
 (h:∀v' w',w'.ownsRow base 5 1 v' (xs.length+ys.length) (u8s xs++u8s ys)->w.grownBy w' v.ownBlock->wpList Tryz.prog ops Q rest (a.put o.dst v') w'):wpList Tryz.prog ops Q (o::rest) a w:=by
 refine wpList_plain hgd fun K hK=> ?_
 obtain⟨v',w',hr,h2,h3⟩:=Lc w o.type base v xs ys hown ad m c hm hP hsz hbase;unfold Oper.wp execOp;simp only[ho,resolve,invoke,builtin,Sem.run_bind,Sem.run_pure,Result.andThen_ok,ZI,WP,ZF,hs,hx,hr];exact hK _ _ (h v' w' h2 h3)
theorem S9 (a:Option Addr)(n cap:Nat)(bs:List Nat)(w:World)(hl:bs.length=n)(hn:n<=12000)(hby:BytesIn w a bs)(hv:∀j,bs.getD j 0<256):
 Calls Tryz.prog 53 #[.slice a n cap] w fun e w'=>e=.returned (.int .u32 (crcN 0 bs:Nat))/\Below w.heap.size w w':=by
 have HC:=Ab (Z46 0 a n cap bs w hl hn (by decide) hby hv);clear hl hby hv;go_enter Tryz.func53,Tryz.ntmps53
 go_wp2_with fail
 refine(Aa HC).mono ?_;rintro e w1 ⟨rfl,hB⟩;have HB:=Ab hB;clear hB;go_wp2;go_ret;exact⟨rfl,Aa HB⟩
def Unp (w:World)(m:Nat)(pk:List Nat)(e:Ending)(w':World):Prop:=
 Below w.heap.size w w'/\((unpF m pk=none/\∃a l c,e=.returned (.tuple #[.slice a l c,.bool false]))\/ (∃ys,unpF m pk=some ys/\ys.length<=12000/\(∀x∈ys,x<256)/\∃a c,e=.returned (.tuple #[.slice a ys.length c,.bool true])/\ys.length<=c/\PkIn w' a c ys/\∀g o,a=some ⟨g,o,none⟩->ys≠ []->w.heap.size<=g))
theorem Xx (m n c:Nat)(a:Option Addr)(pk:List Nat)(w:World)(hl:pk.length=n)(hn:n<=12000)(hP:PkIn w a c pk)(hv:∀x∈pk,x<256)(hIC:Z2z\/m≠8):
 Calls Tryz.prog 128 #[.int .u32 (m:Int),.slice a n c] w fun e w'=>Unp w m pk e w':=by
 by_cases h0:m=0
 . subst h0;have hu:unpF 0 pk=some pk:=rfl;have HP:=Ab hP;have HU:=Ab hu;have HV:=Ab hv;have HL:=Ab hl;clear hP hu hv hl;go_enter Tryz.func128,Tryz.ntmps128
   go_wp2_with (at_builtin;refine Nz rfl _ _ rfl w.heap.size (.slice none 0 0) [] pk rfl (World.ownsRow_nil _ _ _ _) a n c rfl (Aa HL) (Aa HP) (by simp;omega) (VC _) ?_)
   intro v' w' hO hg;have hO2:w'.ownsRow w.heap.size 5 1 v' pk.length (u8s pk):=by simpa using hO
   obtain⟨a',c',rfl,q1,q2,q3,q4⟩:=Uh hO2;have HF:Hid (Unp w 0 pk (.returned (.tuple #[.slice a' pk.length c',.bool true])) w'):=Ab ⟨(Below.refl w.heap.size w).grown hg (VC _) (fun g e=>by cases e),.inr ⟨pk,Aa HU,by rw[Aa HL];exact hn,Aa HV,a',c',rfl,q2,q1,fun g o e _=>q4 g o e⟩⟩;clear hO hg hO2 q1 q2 q3 q4;go_wp2;go_ret2;exact Aa HF
 . by_cases h8:m=8
   . subst h8;have hC8:Z2z:=by rcases hIC with h|h;exact h;exact absurd rfl h
     clear h0 hIC;have hv2:=Cv hv;have hu:unpF 8 pk=if pk.length<=6000/\(Db (rowB pk pk.length)).e=0/\((Db (rowB pk pk.length)).p+7)/8=pk.length then some (Db (rowB pk pk.length)).out else none:=rfl
     rw[hl]at hu
     by_cases h6:n<=6000
     . have HC:=Ab (hC8.1 a n c pk w hl h6 hP.1 hv2);have hval:=A8 (rowB pk n) n (Ai pk n);have hah:(Db (rowB pk n)).e=0->(Db (rowB pk n)).out.length<=12000:=fun e=>by have:=Rc (rowB pk n) n (Ai pk n) e;omega
       obtain⟨U,hU⟩:∃U,Db (rowB pk n)=U:=⟨_,rfl⟩
       unfold Z5h at HC;rw[hU]at HC hu hval hah;have HAH:=Ab hah;have HU:=Ab hu;have HVA:=Ab hval;clear hl hP hv hv2 hu hU hval hah;go_enter Tryz.func128,Tryz.ntmps128
       go_wp2_with fail
       refine(Aa HC).mono ?_;rintro e w1 ⟨hB,(⟨e0,ov,kv,rfl,ho,hk⟩|⟨e0,rfl⟩)⟩
       . obtain⟨a',c',rfl,q1,q2,q3,q4⟩:=Uh ho;obtain⟨ka,kc,rfl⟩:=As hk;have hvv:∀x∈U.out,x<256:=Wr (Aa HVA e0);have hLb:=Aa HAH e0;obtain⟨L,hL⟩:∃L,U.out.length=L:=⟨_,rfl⟩
         rw[hL]at hLb;obtain⟨KL,hKL⟩:∃KL,U.ks.length=KL:=⟨_,rfl⟩
         obtain⟨P,hPP⟩:∃P,(U.p+7)/8=P:=⟨_,rfl⟩
         rw[hL,hKL,hPP]
         by_cases hq:P=n
         . have HF:Hid (Unp w 8 pk (.returned (.tuple #[.slice a' L c',.bool true])) w1):=Ab ⟨hB,.inr ⟨U.out,by rw[Aa HU,if_pos ⟨h6,e0,by rw[hPP];exact hq⟩],by rw[hL];exact hLb,hvv,a',c',by rw[hL],q2,q1,fun g o e _=>Nat.le_of_succ_le (q4 g o e)⟩⟩;have hqb:((P:Int)==(n:Int))=true:=by rw[beq_iff_eq];omega
           clear hB ho hk q1 q2 q3 q4 hvv hL hKL hPP hq e0;go_wp2;go_ret2;exact Aa HF
         . have HF:Hid (Unp w 8 pk (.returned (.tuple #[.slice a' L c',.bool false])) w1):=Ab ⟨hB,.inl ⟨by rw[Aa HU,if_neg (by intro hh;exact hq (hPP.symm.trans hh.2.2))],a',L,c',rfl⟩⟩;have hqb:((P:Int)==(n:Int))=false:=by rw[beq_eq_false_iff_ne];omega
           clear hB ho hk q1 q2 q3 q4 hvv hL hKL hPP hq e0;go_wp2;go_ret2;exact Aa HF
       . have HF:Hid (Unp w 8 pk (.returned (.tuple #[.slice none 0 0,.bool false])) w1):=Ab ⟨hB,.inl ⟨by rw[Aa HU,if_neg (by intro hh;exact e0 hh.2.1)],none,0,0,rfl⟩⟩;obtain⟨E,hE⟩:∃E,U.e=E:=⟨_,rfl⟩
         rw[hE]at e0 ⊢;have heb:(E==0)=false:=by rw[beq_eq_false_iff_ne];exact e0
         clear hB hE e0;go_wp2;go_ret2;exact Aa HF
     . have HC:=Ab (hC8.2 a n c w (by omega) (by omega));have HF:Hid (Unp w 8 pk (.returned (.tuple #[.slice none 0 0,.bool false])) w):=Ab ⟨Below.refl _ _,.inl ⟨by rw[hu,if_neg (by intro hh;exact h6 hh.1)],none,0,0,rfl⟩⟩;clear hl hP hv hv2 hu;go_enter Tryz.func128,Tryz.ntmps128
       go_wp2_with fail
       refine(Aa HC).mono ?_;rintro e w1 ⟨rfl,rfl⟩;go_wp2;go_ret2;exact Aa HF
   . have hu:unpF m pk=none:=by unfold unpF;rw[if_neg h0,if_neg h8]
     have HF:Hid (Unp w m pk (.returned (.tuple #[.slice none 0 0,.bool false])) w):=Ab ⟨Below.refl _ _,.inl ⟨hu,none,0,0,rfl⟩⟩;have hb0:((m:Int)==0)=false:=by rw[beq_eq_false_iff_ne];omega
     have hb8:((m:Int)==8)=false:=by rw[beq_eq_false_iff_ne];omega
     clear hl hP hv hu;go_enter Tryz.func128,Tryz.ntmps128
     go_wp2;go_ret2;exact Aa HF
end Go.Proofs.YtleocpdblhbimaaGreatDoor
