import Derived.Test.YtleocpdblhbimaaGreatDoorQ36
set_option linter.unusedSimpArgs false
set_option maxHeartbeats 1000000
namespace Go.Proofs.YtleocpdblhbimaaGreatDoor
set_option linter.unusedVariables false
set_option maxRecDepth 100000
end Go.Proofs.YtleocpdblhbimaaGreatDoor
namespace Go.Proofs.YtleocpdblhbimaaGreatDoor
open Go.RowKit
set_option linter.unusedVariables false
set_option maxRecDepth 100000
theorem Z8b (W:World):(Instr.index 135 (.agg #[.int .i64 0,.int .i64 1,.int .i64 2]) (.int .i64 0)).run Tryz.prog W=.ok (.int .i64 0) W:=by kernel_rfl
theorem Z9h (W:World):(Instr.index 135 (.agg #[.int .i64 0,.int .i64 1,.int .i64 2]) (.int .i64 1)).run Tryz.prog W=.ok (.int .i64 1) W:=by kernel_rfl
theorem Z9g (W:World):(Instr.index 135 (.agg #[.int .i64 0,.int .i64 1,.int .i64 2]) (.int .i64 2)).run Tryz.prog W=.ok (.int .i64 2) W:=by kernel_rfl
theorem Z9f (k:Nat)(E:k<=2)(W:World):(Instr.index 135 (.agg #[.int .i64 0,.int .i64 1,.int .i64 2]) (.int .i64 (k:Int))).run Tryz.prog W=.ok (.int .i64 (k:Int)) W:=by
 rcases(by omega:k=0\/k=1\/k=2)with rfl|rfl|rfl
 . exact Z8b W
 . exact Z9h W
 . exact Z9g W
theorem JO (bs:List Nat)(k:Nat)(E:0<k):bestP bs (k+1)=if GA bs k<GA bs (bestP bs k)then k else bestP bs k:=by
 obtain⟨q,rfl⟩:∃q,k=q+1:=⟨k-1,by omega⟩
 rfl
theorem Z7e (a:Option Addr)(n E:Nat)(bs:List Nat)(w:World)(Y:bs.length=n)(ag:n<=E)(I:a=none->E=0)(G:BytesIn w a bs)(F:∀j,bs.getD j 0<256)(ae:n<=9223372036854775807)(aa:3000<n):
 Calls Tryz.prog 54 #[.slice a n E] w fun e w'=>e=.returned (.tuple #[.slice none 0 0,.int .i64 0,.int .i64 2])/\Below w.heap.size w w':=by
 have Z:=Ab (fun T U=>Z0l a n E 0 bs w T U Y ag I G F ae aa);clear G F I;go_enter Tryz.func54,Tryz.ntmps54
 go_wp2;go_loopw [2,3,10] (fun M ac af wr=>M=.slice none 0 0/\ac=.int .i64 0/\af=.int .i64 0/\wr=w) (fun _ _ _ _=>0)
 case atStart=>exact⟨rfl,rfl,rfl,rfl⟩
 case round=>
  obtain⟨rfl,rfl,rfl,rfl⟩:=hrel;have ai:=Z8b;go_wp2_with fail
  refine(Aa Z _ _).mono ?_;rintro e ah ⟨rfl,H⟩;have O:=Ab H;clear H;go_wp2;go_ret3;exact⟨rfl,Aa O⟩
theorem Z5n (a:Option Addr)(n ag:Nat)(bs:List Nat)(w:World)(bf:bs.length=n)(a9:n<=ag)(aw:a=none->ag=0)(a1:BytesIn w a bs)(a5:∀j,bs.getD j 0<256)(a7:n<=3000):
 Calls Tryz.prog 54 #[.slice a n ag] w fun e w'=>∃g c out,e=.returned (.tuple #[.slice (some ⟨g,0,none⟩) (GA bs (bestP bs 3)) c,.int .i64 (bestP bs 3:Nat),.int .i64 0])/\g<w'.heap.size/\Bytes w' g 0 out/\IsOne bs (bestP bs 3) out/\Below w.heap.size w w':=by
 have ar:=Ab (fun(W:World) (k:Nat) (a3:k<=2) (bc:Below w.heap.size w W) T U=>Z6j a n ag k bs W T U bf a9 aw (a1.below bc (VB _)) a5 a7 a3);clear a1 a5 aw;have bj:(#[Value.int .i64 0,Value.int .i64 1,Value.int .i64 2]:Array Value).size=3:=rfl;go_enter Tryz.func54,Tryz.ntmps54
 go_wp2;go_loopw [2,3,10] (fun a2 ax ak wr=>∃k:Nat,k<=3/\ak=.int .i64 (k:Int)/\Below w.heap.size w wr/\((k=0/\a2=.slice none 0 0/\ax=.int .i64 0)\/ (0<k/\∃g c out,a2=.slice (some ⟨g,0,none⟩) (GA bs (bestP bs k)) c/\ax=.int .i64 (bestP bs k:Nat)/\g<wr.heap.size/\Bytes wr g 0 out/\IsOne bs (bestP bs k) out))) (fun _ _ ak _=>3-(intOf ak).toNat)
 case atStart=>exact⟨0,by decide,rfl,Below.refl _ _,.inl ⟨rfl,rfl,rfl⟩⟩
 case round=>
  obtain⟨k,a3,rfl,a6,a4⟩:=hrel;have O:=Ab a6;clear a6
  by_cases bd:k=3
  . subst bd
    rcases a4 with ⟨h,_⟩|⟨_,g,c,out,rfl,rfl,M,ac,aa⟩
    . omega
    . have E:=Ab (And.intro M (And.intro ac aa));clear M ac aa;go_wp2;go_ret3;exact⟨g,c,out,rfl,(Aa E).1,(Aa E).2.1,(Aa E).2.2,Aa O⟩
  . have az:k<=2:=by omega
    have ay:=(Aa O).size;have al:=Ab (fun T U=>Aa ar wr k az (Aa O) T U);clear ar
    rcases a4 with ⟨rfl,rfl,rfl⟩|⟨ba,g,c,out,rfl,rfl,M,ac,aa⟩
    . have bi:=Z8b;go_wp2_with fail
      refine(Aa al _ _).mono ?_;rintro e a8 ⟨g1,c1,ao,rfl,H,I,Y,G⟩;have E:=Ab (And.intro H (And.intro I (And.intro Y ((Aa O).trans (G.mono ay)))));have aj:bestP bs 1=0:=rfl;clear H I Y G;go_wp2;rename_i F
      refine F _ _ ?_;simp only[Act.put,VA,VC,VD,Option.isNone];clear F;go_wp2;go_roundw
      case rel=>exact⟨1,by decide,by go_num,(Aa E).2.2.2,.inr ⟨by decide,g1,c1,ao,by rw[aj],by rw[aj];rfl,(Aa E).1,(Aa E).2.1,by rw[aj];exact(Aa E).2.2.1⟩⟩
      case measure=>simp[intOf]
    . have Z:=Ab (And.intro M (And.intro ac aa));have bi:=Z9f k az;have ai:=JO bs k ba;clear M ac aa;have bk:(k:Int)<3:=by omega
      obtain⟨B,ap⟩:=exq (bestP bs k);rw[ap]at ai Z ⊢;obtain⟨l1,ah⟩:=exq (GA bs k);obtain⟨l2,af⟩:=exq (GA bs B);rw[ah,af]at ai;rw[ah]at al;rw[af];have av:=Ab ai;have bg:=Ab ah;have bb:=Ab af;clear ai ah af ap;go_wp2_with fail
      refine(Aa al _ _).mono ?_;rintro e a8 ⟨g1,c1,ao,rfl,H,I,Y,G⟩;have E:=Ab (And.intro H (And.intro I (And.intro Y ((Aa O).trans (G.mono ay)))));have au:=Ab (And.intro (bm (Aa Z).1 G.size) ((Aa Z).2.1.below G (Aa Z).1));clear H I Y G
      by_cases ae:l1<l2
      . have bh:(l1:Int)<(l2:Int):=by omega
        have hb:Hid (bestP bs (k+1)=k):=Ab (by rw[Aa av,if_pos ae]);clear ae;go_wp2;rename_i F
        refine F _ _ ?_;simp only[Act.put,VA,VC,VD];clear F;go_wp2;go_roundw
        case rel=>exact⟨k+1,by omega,by go_num,(Aa E).2.2.2,.inr ⟨by omega,g1,c1,ao,by rw[Aa hb,Aa bg],by rw[Aa hb],(Aa E).1,(Aa E).2.1,by rw[Aa hb];exact(Aa E).2.2.1⟩⟩
        case measure=>simp[intOf];omega
      . have bh:¬(l1:Int)<(l2:Int):=by omega
        have hb:Hid (bestP bs (k+1)=B):=Ab (by rw[Aa av,if_neg ae]);clear ae;go_wp2;rename_i F
        refine F _ _ ?_;simp only[Act.put,VA,VC,VD];clear F;go_wp2;go_roundw
        case rel=>exact⟨k+1,by omega,by go_num,(Aa E).2.2.2,.inr ⟨by omega,g,c,out,by rw[Aa hb,Aa bb],by rw[Aa hb],(Aa au).1,(Aa au).2,by rw[Aa hb];exact(Aa Z).2.2⟩⟩
        case measure=>simp[intOf];omega
end Go.Proofs.YtleocpdblhbimaaGreatDoor
