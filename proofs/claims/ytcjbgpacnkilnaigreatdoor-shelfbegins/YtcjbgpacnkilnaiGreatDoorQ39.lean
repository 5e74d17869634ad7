import Derived.Test.YtcjbgpacnkilnaiGreatDoorQ38
import Derived.Test.YtcjbgpacnkilnaiGreatDoorQ21
import Derived.Test.YtcjbgpacnkilnaiGreatDoorQ7
import Derived.Test.YtcjbgpacnkilnaiGreatDoorQ10
import Derived.Test.YtcjbgpacnkilnaiGreatDoorQ37
set_option maxHeartbeats 1000000
namespace Go.Proofs.YtcjbgpacnkilnaiGreatDoor
set_option linter.unusedVariables false
set_option maxRecDepth 100000
end Go.Proofs.YtcjbgpacnkilnaiGreatDoor
namespace Go.Proofs.YtcjbgpacnkilnaiGreatDoor
set_option linter.unusedVariables false
end Go.Proofs.YtcjbgpacnkilnaiGreatDoor
namespace Go.Proofs.YtcjbgpacnkilnaiGreatDoor
set_option linter.unusedVariables false
set_option maxRecDepth 100000
end Go.Proofs.YtcjbgpacnkilnaiGreatDoor
namespace Go.Proofs.YtcjbgpacnkilnaiGreatDoor
open Go.RowKit
set_option linter.unusedVariables false
set_option maxRecDepth 100000
theorem Zk4 (W:World):(Instr.index 100 (.agg #[.int .i64 0,.int .i64 1,.int .i64 2]) (.int .i64 0)).run Tryz.prog W=.ok (.int .i64 0) W:=by kernel_rfl
theorem Zkq (W:World):(Instr.index 100 (.agg #[.int .i64 0,.int .i64 1,.int .i64 2]) (.int .i64 1)).run Tryz.prog W=.ok (.int .i64 1) W:=by kernel_rfl
theorem Zkp (W:World):(Instr.index 100 (.agg #[.int .i64 0,.int .i64 1,.int .i64 2]) (.int .i64 2)).run Tryz.prog W=.ok (.int .i64 2) W:=by kernel_rfl
theorem Zko (k:Nat)(hk:k<=2)(W:World):(Instr.index 100 (.agg #[.int .i64 0,.int .i64 1,.int .i64 2]) (.int .i64 (k:Int))).run Tryz.prog W=.ok (.int .i64 (k:Int)) W:=by
 rcases(by omega:k=0\/k=1\/k=2)with rfl|rfl|rfl
 . exact Zk4 W
 . exact Zkq W
 . exact Zkp W
theorem Z6g (bs:List Nat)(k:Nat)(h:0<k):bestP bs (k+1)=if Z4x bs k<Z4x bs (bestP bs k)then k else bestP bs k:=by
 obtain⟨q,rfl⟩:∃q,k=q+1:=⟨k-1,by omega⟩
 rfl
theorem Zjd (a:Option Addr)(n cap:Nat)(bs:List Nat)(w:World)(hl:bs.length=n)(hcap:n<=cap)(hnil:a=none->cap=0)(hB:BytesIn w a bs)(hx:∀j,bs.getD j 0<256)(hm:n<=9223372036854775807)(hn:3000<n):
 Calls Tryz.prog 40 #[.slice a n cap] w fun e w'=>e=.returned (.tuple #[.slice none 0 0,.int .i64 0,.int .i64 2])/\Below w.heap.size w w':=by
 have HC:=Ab (fun T U=>Zcv a n cap 0 bs w T U hl hcap hnil hB hx hm hn);clear hB hx hnil;go_enter Tryz.func40,Tryz.ntmps40
 go_wp2;go_loopw [2,3,10] (fun v2 v3 v10 wr=>v2=.slice none 0 0/\v3=.int .i64 0/\v10=.int .i64 0/\wr=w) (fun _ _ _ _=>0)
 case atStart=>exact⟨rfl,rfl,rfl,rfl⟩
 case round=>
  obtain⟨rfl,rfl,rfl,rfl⟩:=hrel;have hix:=Zk4;go_wp2_with fail
  refine(Aa HC _ _).mono ?_;rintro e w1 ⟨rfl,hB1⟩;have HB1:=Ab hB1;clear hB1;go_wp2;go_ret3;exact⟨rfl,Aa HB1⟩
theorem Zhi (a:Option Addr)(n cap:Nat)(bs:List Nat)(w:World)(hl:bs.length=n)(hcap:n<=cap)(hnil:a=none->cap=0)(hB:BytesIn w a bs)(hx:∀j,bs.getD j 0<256)(hn:n<=3000):
 Calls Tryz.prog 40 #[.slice a n cap] w fun e w'=>∃g c out,e=.returned (.tuple #[.slice (some ⟨g,0,none⟩) (Z4x bs (bestP bs 3)) c,.int .i64 (bestP bs 3:Nat),.int .i64 0])/\g<w'.heap.size/\Bytes w' g 0 out/\IsOne bs (bestP bs 3) out/\Below w.heap.size w w':=by
 have HC:=Ab (fun(W:World) (k:Nat) (hk:k<=2) (hW:Below w.heap.size w W) T U=>Zil a n cap k bs W T U hl hcap hnil (hB.below hW (Nat.le_refl _)) hx hn hk);clear hB hx hnil;have hI0:(#[Value.int .i64 0,Value.int .i64 1,Value.int .i64 2]:Array Value).size=3:=rfl;go_enter Tryz.func40,Tryz.ntmps40
 go_wp2;go_loopw [2,3,10] (fun v2 v3 v10 wr=>∃k:Nat,k<=3/\v10=.int .i64 (k:Int)/\Below w.heap.size w wr/\((k=0/\v2=.slice none 0 0/\v3=.int .i64 0)\/ (0<k/\∃g c out,v2=.slice (some ⟨g,0,none⟩) (Z4x bs (bestP bs k)) c/\v3=.int .i64 (bestP bs k:Nat)/\g<wr.heap.size/\Bytes wr g 0 out/\IsOne bs (bestP bs k) out))) (fun _ _ v10 _=>3-(intOf v10).toNat)
 case atStart=>exact⟨0,by decide,rfl,Below.refl _ _,.inl ⟨rfl,rfl,rfl⟩⟩
 case round=>
  obtain⟨k,hk,rfl,hBw,hs⟩:=hrel;have HBw:=Ab hBw;clear hBw
  by_cases h3:k=3
  . subst h3
    rcases hs with ⟨h,_⟩|⟨_,g,c,out,rfl,rfl,hg,hby,hI⟩
    . omega
    . have HF:=Ab (And.intro hg (And.intro hby hI));clear hg hby hI;go_wp2;go_ret3;exact⟨g,c,out,rfl,(Aa HF).1,(Aa HF).2.1,(Aa HF).2.2,Aa HBw⟩
  . have hk2:k<=2:=by omega
    have hz:=(Aa HBw).size;have HCk:=Ab (fun T U=>Aa HC wr k hk2 (Aa HBw) T U);clear HC
    rcases hs with ⟨rfl,rfl,rfl⟩|⟨h0,g,c,out,rfl,rfl,hg,hby,hI⟩
    . have hix:=Zk4;go_wp2_with fail
      refine(Aa HCk _ _).mono ?_;rintro e w1 ⟨g1,c1,out1,rfl,hg1,hby1,hI1,hB1⟩;have HF:=Ab (And.intro hg1 (And.intro hby1 (And.intro hI1 ((Aa HBw).trans (hB1.mono hz)))));have e1:bestP bs 1=0:=rfl;clear hg1 hby1 hI1 hB1;go_wp2;rename_i hKK
      refine hKK _ _ ?_;simp only[Act.put,List.setIfInBounds_toArray,List.set_cons_zero,List.set_cons_succ,Option.isNone];clear hKK;go_wp2;go_roundw
      case rel=>exact⟨1,by decide,by go_num,(Aa HF).2.2.2,.inr ⟨by decide,g1,c1,out1,by rw[e1],by rw[e1];rfl,(Aa HF).1,(Aa HF).2.1,by rw[e1];exact(Aa HF).2.2.1⟩⟩
      case measure=>simp[intOf]
    . have HS:=Ab (And.intro hg (And.intro hby hI));have hix:=Zko k hk2;have hbp:=Z6g bs k h0;clear hg hby hI;have hqI:(k:Int)<3:=by omega
      obtain⟨B,hBB⟩:∃B,bestP bs k=B:=⟨_,rfl⟩
      rw[hBB]at hbp HS ⊢;obtain⟨l1,hl1⟩:∃l1,Z4x bs k=l1:=⟨_,rfl⟩
      obtain⟨l2,hl2⟩:∃l2,Z4x bs B=l2:=⟨_,rfl⟩
      rw[hl1,hl2]at hbp;rw[hl1]at HCk;rw[hl2];have HBP:=Ab hbp;have HL1:=Ab hl1;have HL2:=Ab hl2;clear hbp hl1 hl2 hBB;go_wp2_with fail
      refine(Aa HCk _ _).mono ?_;rintro e w1 ⟨g1,c1,out1,rfl,hg1,hby1,hI1,hB1⟩;have HF:=Ab (And.intro hg1 (And.intro hby1 (And.intro hI1 ((Aa HBw).trans (hB1.mono hz)))));have HK:=Ab (And.intro (Nat.lt_of_lt_of_le (Aa HS).1 hB1.size) ((Aa HS).2.1.below hB1 (Aa HS).1));clear hg1 hby1 hI1 hB1
      by_cases hlt:l1<l2
      . have hltI:(l1:Int)<(l2:Int):=by omega
        have hb:Hid (bestP bs (k+1)=k):=Ab (by rw[Aa HBP,if_pos hlt]);clear hlt;go_wp2;rename_i hKK
        refine hKK _ _ ?_;simp only[Act.put,List.setIfInBounds_toArray,List.set_cons_zero,List.set_cons_succ];clear hKK;go_wp2;go_roundw
        case rel=>exact⟨k+1,by omega,by go_num,(Aa HF).2.2.2,.inr ⟨by omega,g1,c1,out1,by rw[Aa hb,Aa HL1],by rw[Aa hb],(Aa HF).1,(Aa HF).2.1,by rw[Aa hb];exact(Aa HF).2.2.1⟩⟩
        case measure=>simp[intOf];omega
      . have hltI:¬(l1:Int)<(l2:Int):=by omega
        have hb:Hid (bestP bs (k+1)=B):=Ab (by rw[Aa HBP,if_neg hlt]);clear hlt;go_wp2;rename_i hKK
        refine hKK _ _ ?_;simp only[Act.put,List.setIfInBounds_toArray,List.set_cons_zero,List.set_cons_succ];clear hKK;go_wp2;go_roundw
        case rel=>exact⟨k+1,by omega,by go_num,(Aa HF).2.2.2,.inr ⟨by omega,g,c,out,by rw[Aa hb,Aa HL2],by rw[Aa hb],(Aa HK).1,(Aa HK).2,by rw[Aa hb];exact(Aa HS).2.2⟩⟩
        case measure=>simp[intOf];omega
end Go.Proofs.YtcjbgpacnkilnaiGreatDoor
