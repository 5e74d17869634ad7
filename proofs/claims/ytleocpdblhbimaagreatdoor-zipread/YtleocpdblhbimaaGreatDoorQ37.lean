import Derived.Test.YtleocpdblhbimaaGreatDoorQ36
set_option linter.unusedSimpArgs false
set_option linter.unusedVariables false
set_option maxRecDepth 100000
set_option maxHeartbeats 1000000
namespace Go.Proofs.YtleocpdblhbimaaGreatDoor
open Go.RowKit
theorem Z8b (W:World):(Instr.index 135 (.agg #[.int .i64 0,.int .i64 1,.int .i64 2]) (.int .i64 0)).run Tryz.prog W=.ok (.int .i64 0) W:=by kernel_rfl
theorem Z9h (W:World):(Instr.index 135 (.agg #[.int .i64 0,.int .i64 1,.int .i64 2]) (.int .i64 1)).run Tryz.prog W=.ok (.int .i64 1) W:=by kernel_rfl
theorem Z9g (W:World):(Instr.index 135 (.agg #[.int .i64 0,.int .i64 1,.int .i64 2]) (.int .i64 2)).run Tryz.prog W=.ok (.int .i64 2) W:=by kernel_rfl
theorem Z9f (k:Nat)(E:k<=2)(W:World):(Instr.index 135 (.agg #[.int .i64 0,.int .i64 1,.int .i64 2]) (.int .i64 (k:Int))).run Tryz.prog W=.ok (.int .i64 (k:Int)) W:=by
 rcases(by omega:k=0\/k=1\/k=2)with rfl|rfl|rfl
 . exact Z8b W
 . exact Z9h W
 . exact Z9g W
theorem JO (bs:List Nat)(k:Nat)(E:0<k):bestP bs (k+1)=if GA bs k<GA bs (bestP bs k)then k else bestP bs k:=by
 obtain⟨q,rfl⟩:∃q,k=q+1:=⟨k-1,by omega⟩
 rfl
theorem Z7e (a:Option Addr)(n E:Nat)(bs:List Nat)(w:World)(aa:bs.length=n)(af:n<=E)(F:a=none->E=0)(H:BytesIn w a bs)(I:∀j,bs.getD j 0<256)(Z:n<=9223372036854775807)(ag:3000<n):
 Calls Tryz.prog 54 #[.slice a n E] w fun e w'=>e=.returned (.tuple #[.slice none 0 0,.int .i64 0,.int .i64 2])/\Below w.heap.size w w':=by
 have ae:=Ab (fun T U=>Z0l a n E 0 bs w T U aa af F H I Z ag);clear H I F;go_enter Tryz.func54,Tryz.ntmps54
 go_wp2;go_loopw [2,3,10] (fun Y ac O wr=>Y=.slice none 0 0/\ac=.int .i64 0/\O=.int .i64 0/\wr=w) (fun _ _ _ _=>0)
 case atStart=>exact⟨rfl,rfl,rfl,rfl⟩
 case round=>
  obtain⟨rfl,rfl,rfl,rfl⟩:=hrel;have ai:=Z8b;go_wp2_with fail
  refine(Aa ae _ _).mono ?_;rintro e ah ⟨rfl,G⟩;have M:=Ab G;clear G;go_wp2;go_ret3;exact⟨rfl,Aa M⟩
theorem Z5n (a:Option Addr)(n ae:Nat)(bs:List Nat)(w:World)(a8:bs.length=n)(bc:n<=ae)(ar:a=none->ae=0)(a3:BytesIn w a bs)(a5:∀j,bs.getD j 0<256)(bb:n<=3000):
 Calls Tryz.prog 54 #[.slice a n ae] w fun e w'=>∃g c out,e=.returned (.tuple #[.slice (some ⟨g,0,none⟩) (GA bs (bestP bs 3)) c,.int .i64 (bestP bs 3:Nat),.int .i64 0])/\g<w'.heap.size/\Bytes w' g 0 out/\IsOne bs (bestP bs 3) out/\Below w.heap.size w w':=by
 have av:=Ab (fun(W:World) (k:Nat) (a2:k<=2) (bh:Below w.heap.size w W) T U=>Z6j a n ae k bs W T U a8 bc ar (a3.below bh (VB _)) a5 bb a2);clear a3 a5 ar;have bj:(#[Value.int .i64 0,Value.int .i64 1,Value.int .i64 2]:Array Value).size=3:=rfl;go_enter Tryz.func54,Tryz.ntmps54
 go_wp2;go_loopw [2,3,10] (fun a6 au ak wr=>∃k:Nat,k<=3/\ak=.int .i64 (k:Int)/\Below w.heap.size w wr/\((k=0/\a6=.slice none 0 0/\au=.int .i64 0)\/ (0<k/\∃g c out,a6=.slice (some ⟨g,0,none⟩) (GA bs (bestP bs k)) c/\au=.int .i64 (bestP bs k:Nat)/\g<wr.heap.size/\Bytes wr g 0 out/\IsOne bs (bestP bs k) out))) (fun _ _ ak _=>3-(intOf ak).toNat)
 case atStart=>exact⟨0,by decide,rfl,Below.refl _ _,.inl ⟨rfl,rfl,rfl⟩⟩
 case round=>
  obtain⟨k,a2,rfl,ap,a4⟩:=hrel;have H:=Ab ap;clear ap
  by_cases bi:k=3
  . subst bi
    rcases a4 with ⟨h,_⟩|⟨_,g,c,out,rfl,rfl,I,Z,aa⟩
    . omega
    . have E:=Ab (And.intro I (And.intro Z aa));clear I Z aa;go_wp2;go_ret3;exact⟨g,c,out,rfl,(Aa E).1,(Aa E).2.1,(Aa E).2.2,Aa H⟩
  . have ay:k<=2:=by omega
    have a1:=(Aa H).size;have ao:=Ab (fun T U=>Aa av wr k ay (Aa H) T U);clear av
    rcases a4 with ⟨rfl,rfl,rfl⟩|⟨bd,g,c,out,rfl,rfl,I,Z,aa⟩
    . have bg:=Z8b;go_wp2_with fail
      refine(Aa ao _ _).mono ?_;rintro e a7 ⟨g1,c1,al,rfl,O,ac,M,G⟩;have E:=Ab (And.intro O (And.intro ac (And.intro M ((Aa H).trans (G.mono a1)))));have aj:bestP bs 1=0:=rfl;clear O ac M G;go_wp2;rename_i F
      refine F _ _ ?_;simp only[Act.put,VA,VC,VD,Option.isNone];clear F;go_wp2;go_roundw
      case rel=>exact⟨1,by decide,by go_num,(Aa E).2.2.2,.inr ⟨by decide,g1,c1,al,by rw[aj],by rw[aj];rfl,(Aa E).1,(Aa E).2.1,by rw[aj];exact(Aa E).2.2.1⟩⟩
      case measure=>simp[intOf]
    . have Y:=Ab (And.intro I (And.intro Z aa));have bg:=Z9f k ay;have ai:=JO bs k bd;clear I Z aa;have bk:(k:Int)<3:=by omega
      obtain⟨B,ax⟩:=exq (bestP bs k);rw[ax]at ai Y ⊢;obtain⟨l1,af⟩:=exq (GA bs k);obtain⟨l2,ah⟩:=exq (GA bs B);rw[af,ah]at ai;rw[af]at ao;rw[ah];have aw:=Ab ai;have ba:=Ab af;have a9:=Ab ah;clear ai af ah ax;go_wp2_with fail
      refine(Aa ao _ _).mono ?_;rintro e a7 ⟨g1,c1,al,rfl,O,ac,M,G⟩;have E:=Ab (And.intro O (And.intro ac (And.intro M ((Aa H).trans (G.mono a1)))));have az:=Ab (And.intro (bm (Aa Y).1 G.size) ((Aa Y).2.1.below G (Aa Y).1));clear O ac M G
      by_cases ag:l1<l2
      . have bf:(l1:Int)<(l2:Int):=by omega
        have hb:Hid (bestP bs (k+1)=k):=Ab (by rw[Aa aw,if_pos ag]);clear ag;go_wp2;rename_i F
        refine F _ _ ?_;simp only[Act.put,VA,VC,VD];clear F;go_wp2;go_roundw
        case rel=>exact⟨k+1,by omega,by go_num,(Aa E).2.2.2,.inr ⟨by omega,g1,c1,al,by rw[Aa hb,Aa ba],by rw[Aa hb],(Aa E).1,(Aa E).2.1,by rw[Aa hb];exact(Aa E).2.2.1⟩⟩
        case measure=>simp[intOf];omega
      . have bf:¬(l1:Int)<(l2:Int):=by omega
        have hb:Hid (bestP bs (k+1)=B):=Ab (by rw[Aa aw,if_neg ag]);clear ag;go_wp2;rename_i F
        refine F _ _ ?_;simp only[Act.put,VA,VC,VD];clear F;go_wp2;go_roundw
        case rel=>exact⟨k+1,by omega,by go_num,(Aa E).2.2.2,.inr ⟨by omega,g,c,out,by rw[Aa hb,Aa a9],by rw[Aa hb],(Aa az).1,(Aa az).2,by rw[Aa hb];exact(Aa Y).2.2⟩⟩
        case measure=>simp[intOf];omega
open Go.RowKit
end Go.Proofs.YtleocpdblhbimaaGreatDoor
