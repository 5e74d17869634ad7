/-
  For any bytes the law ZipRead answers true: from any bytes files are read as the document says, errors too. No condition is asked; the listed tables of Go's library (the law does not read them) are tied to the program's text as given.
-/
import Derived.Test.YtleocpdblhbimaaGreatDoorQ50
import Derived.Test.YtleocpdblhbimaaGreatDoorQ39
import Derived.Test.YtleocpdblhbimaaGreatDoorTie
import Derived.Test.YtleocpdblhbimaaGreatDoorCards
import Derived.ChangeMaps5
import Derived.SizedLaws
import Derived.LaidMore
import Derived.Lay
import Derived.SevenTiedAt
import Derived.Stop.Joined
set_option linter.unusedSimpArgs false
set_option maxHeartbeats 1000000
namespace Go.Proofs.YtleocpdblhbimaaGreatDoor.zipRead
open Go.ChangeShapes Go.WideShapes Go.ChangeAt Go.RowKit Go.ChangeMaps Go.Deep
set_option linter.unusedVariables false
set_option maxRecDepth 100000
theorem Z6t (os:Os)(ar:os.Started)(H:Type)(enc:TypeId×Value->H):
 ReturnsInHanded {} Tryz.checked os 4 .any (fun w args=>(Rows.zipReadSpec.pre enc Tryz.prog Tryz.f4 Rows.zipReadRow.domain false w args/\laidMetH Tryz.prog Rows.zipReadRow.laid w)/\sizedMet enc Tryz.prog Tryz.f4 (OpenSpec.ofChange Rows.zipReadSpec) false w args)
  (Rows.zipReadSpec.post enc Tryz.prog Tryz.f4 false true false false):=by
 refine returnsInHanded_of_change_and (C:=Tryz.checked) (X:=fun w _=>laidMetH Tryz.prog Rows.zipReadRow.laid w) (fun _ _ _ af h=>h.of_heap af) own ar (by kernel_rfl) Tryz.func4
  (ChangeSpec.witness_shaped (enc:=enc) (C:=Tryz.checked) (os:=os) (X:=fun w _=>laidMetH Tryz.prog Rows.zipReadRow.laid w) false (World.laidAll Tryz.prog os Rows.zipReadRow.laid) #[.slice none 0 0] 8 (World.laidAll_os _ _ _)
   (World.shaped_of_ZipB (by kernel_rfl) (by kernel_rfl)) (by kernel_rfl) (by kernel_rfl) (by kernel_rfl)
   (by rw[MakeChecks.laidMetH_plain _ _ _ (by kernel_rfl)];exact laidMet_laidAll _ (by kernel_rfl) (by kernel_rfl))) ?_
 intro W base args ag gs before aa T a7 ac a4 _;have I:∀(j:Nat) t v,Tryz.f4.params[j]? =some t->args[j]? =some v->Value.okWide Tryz.prog W .any base t v:=aa;have al:=T;obtain⟨p,q,E,av,rfl,a5,az⟩:=T;have F:DataW.TrodAll enc Tryz.prog W 0 (fun _=>true) true Tryz.f4.params.toList args.toList ag p:=E;rw[Tryz.params4]at F I;obtain⟨ap,d0,rfl,rfl,M⟩:=trodAll_one F;obtain⟨rfl,rfl⟩:=trodVars_none av;have U:=M;have aj:∀x∈p,x.block<W.heap.size:=by obtain⟨m,hm⟩:=U;exact DataW.trod_lt m _ _ _ hm
 obtain⟨ae,O,ao,rfl⟩:=okWide_slice Tryz.underlying23 (I 0 23 ap rfl rfl);obtain⟨ak,ai⟩:=M;have ah:DataW.trod enc Tryz.prog W 0 (fun _=>true) true ak 23 [.slice ae O ao]=some (d0,p):=by simpa[Value.cells]using ai
 have ay:∀n∈d0.weights Tryz.prog 23,n<=140737488351232:=fun n hn=>by
  have aw:=WX.1 ac _ (DataW.weights_mem_each (j:=0) rfl rfl _ hn);have au:n<=reachBytes:=by simpa using aw
  exact au
 obtain⟨a2,a1,Z,G,Y,a3⟩:=Z4b ah ay;have a6:Z.length=O:=by cases G;rfl
 cases G
 clear E aa;have c:=Q3 _ _ _ (n8 Z) W (Da _) (RE Y) (Z5j Y) (Lv _) (by omega) Z39;refine c.mono fun e W' ⟨ax,bel⟩=> ?_
 subst ax;exact⟨_,rfl,_,_,_,[],_,[],al,trodAll_mk1 (shut_bool Tryz.underlying4 _),(trodAll_cons_mk (Below.trod Z4t (by kernel_rfl) (of_decide_eq_true (by kernel_rfl)) U bel aj) trodAll_mk0),rfl,bel.frame _,fun h=>by cases h⟩
theorem over:Rows.zipReadRow.holds Tryz.pinned (OpenSpec.ofChange Rows.zipReadSpec):=
 OpenClaim.holds_of_wide 4 Tryz.f4 rfl rfl rfl rfl rfl rfl rfl ⟨rfl,rfl,rfl,rfl,rfl⟩ rfl rfl rfl rfl rfl (by kernel_rfl) Tryz.func4 (by kernel_rfl)
  (of_decide_eq_true (by kernel_rfl)) (by unfold Func.isWrapper;first|(rw[if_pos (by decide+kernel)];kernel_rfl)|(rw[if_neg (by decide+kernel)];exact⟨rfl,rfl⟩))
  (fun os started H enc _=>Z6t os started H enc)
theorem card:Rows.ZipReadCardSaid:=
 Claim7.holds_tied_plain_at .later [] [.data,.pinned] true Rows.zipReadCard.stood.harness true over (fun _ h=>by cases h) (by kernel_rfl) (fun _ h=>by cases h) zipRead_row_tie rfl ⟨rfl,rfl⟩ (by kernel_rfl) rfl
  (fun f H I G=>by
   obtain rfl:f=4:=VM ((show Tryz.prog.funcNamed Rows.zipReadRow.func=some 4 by kernel_rfl).symm.trans I)|>.symm
   obtain rfl:H=Tryz.f4:=(VM (Tryz.func4.symm.trans G)).symm
   exact⟨by kernel_rfl,fun j t E=>by
    rw[Tryz.params4]at E;have hm:t∈ [23]:=by simpa using Array.mem_of_getElem? E
    have F:([23].all fun u=> !Tryz.prog.wantsStandIn u)=true:=by kernel_rfl
    exact(show Tryz.prog.wantsStandIn t=false by simpa using WX.1 F t (by simpa using hm))⟩)
  (by kernel_rfl)
end Go.Proofs.YtleocpdblhbimaaGreatDoor.zipRead
namespace Go.Proofs.YtleocpdblhbimaaGreatDoor
theorem zipRead_holds:Rows.ZipReadCardSaid:=zipRead.card
end Go.Proofs.YtleocpdblhbimaaGreatDoor
