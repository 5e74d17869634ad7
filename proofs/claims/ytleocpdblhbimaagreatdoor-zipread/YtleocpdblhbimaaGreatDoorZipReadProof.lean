/-
  For any bytes the law ZipRead answers true: from any bytes files are read as the document says, errors too. No condition is asked; the listed tables of Go's library (the law does not read them) are tied to the program's text as given.
-/
import Derived.Test.YtleocpdblhbimaaGreatDoorQ50
import Derived.Test.YtleocpdblhbimaaGreatDoorQ39
import Derived.Test.YtleocpdblhbimaaGreatDoorTie
import Derived.Test.YtleocpdblhbimaaGreatDoorCards
import Derived.ChangeMaps5
import Derived.SizedLaws
import Derived.LaidMore
import Derived.Lay
import Derived.SevenTiedAt
import Derived.Stop.Joined
set_option linter.unusedSimpArgs false
set_option linter.unusedVariables false
set_option maxRecDepth 100000
set_option maxHeartbeats 1000000
namespace Go.Proofs.YtleocpdblhbimaaGreatDoor.zipRead
open Go.ChangeShapes Go.WideShapes Go.ChangeAt Go.RowKit Go.ChangeMaps Go.Deep
theorem Z6t (os:Os)(ak:os.Started)(H:Type)(enc:TypeId×Value->H):
 ReturnsInHanded {} Tryz.checked os 4 .any (fun w args=>(Rows.zipReadSpec.pre enc Tryz.prog Tryz.f4 Rows.zipReadRow.domain false w args/\laidMetH Tryz.prog Rows.zipReadRow.laid w)/\sizedMet enc Tryz.prog Tryz.f4 (OpenSpec.ofChange Rows.zipReadSpec) false w args)
  (Rows.zipReadSpec.post enc Tryz.prog Tryz.f4 false true false false):=by
 refine returnsInHanded_of_change_and (C:=Tryz.checked) (X:=fun w _=>laidMetH Tryz.prog Rows.zipReadRow.laid w) (fun _ _ _ ap h=>h.of_heap ap) own ak (by kernel_rfl) Tryz.func4
  (ChangeSpec.witness_shaped (enc:=enc) (C:=Tryz.checked) (os:=os) (X:=fun w _=>laidMetH Tryz.prog Rows.zipReadRow.laid w) false (World.laidAll Tryz.prog os Rows.zipReadRow.laid) #[.slice none 0 0] 8 (World.laidAll_os _ _ _)
   (World.shaped_of_ZipB (by kernel_rfl) (by kernel_rfl)) (by kernel_rfl) (by kernel_rfl) (by kernel_rfl)
   (by rw[MakeChecks.laidMetH_plain _ _ _ (by kernel_rfl)];exact laidMet_laidAll _ (by kernel_rfl) (by kernel_rfl))) ?_
 intro W base args ae gs before I Z a1 ac a6 _;have F:∀(j:Nat) t v,Tryz.f4.params[j]? =some t->args[j]? =some v->Value.okWide Tryz.prog W .any base t v:=I;have ai:=Z;obtain⟨p,q,O,au,rfl,a4,a3⟩:=Z;have G:DataW.TrodAll enc Tryz.prog W 0 (fun _=>true) true Tryz.f4.params.toList args.toList ae p:=O;rw[Tryz.params4]at G F;obtain⟨ao,d0,rfl,rfl,U⟩:=trodAll_one G;obtain⟨rfl,rfl⟩:=trodVars_none au;have M:=U;have ah:∀x∈p,x.block<W.heap.size:=by obtain⟨m,hm⟩:=M;exact DataW.trod_lt m _ _ _ hm
 obtain⟨aj,Y,ax,rfl⟩:=okWide_slice Tryz.underlying23 (F 0 23 ao rfl rfl);obtain⟨aw,av⟩:=U;have al:DataW.trod enc Tryz.prog W 0 (fun _=>true) true aw 23 [.slice aj Y ax]=some (d0,p):=by simpa[Value.cells]using av
 have af:∀n∈d0.weights Tryz.prog 23,n<=140737488351232:=fun n hn=>by
  have ay:=WX.1 ac _ (DataW.weights_mem_each (j:=0) rfl rfl _ hn);have ar:n<=reachBytes:=by simpa using ay
  exact ar
 obtain⟨az,a2,T,E,aa,a7⟩:=Z4b al af;have a5:T.length=Y:=by cases E;rfl
 cases E
 clear O I;have c:=Q3 _ _ _ (n8 T) W (Da _) (RE aa) (Z5j aa) (Lv _) (by omega) Z39;refine c.mono fun e W' ⟨ag,bel⟩=> ?_
 subst ag;exact⟨_,rfl,_,_,_,[],_,[],ai,trodAll_mk1 (shut_bool Tryz.underlying4 _),(trodAll_cons_mk (Below.trod Z4t (by kernel_rfl) (of_decide_eq_true (by kernel_rfl)) M bel ah) trodAll_mk0),rfl,bel.frame _,fun h=>by cases h⟩
theorem over:Rows.zipReadRow.holds Tryz.pinned (OpenSpec.ofChange Rows.zipReadSpec):=
 OpenClaim.holds_of_wide 4 Tryz.f4 rfl rfl rfl rfl rfl rfl rfl ⟨rfl,rfl,rfl,rfl,rfl⟩ rfl rfl rfl rfl rfl (by kernel_rfl) Tryz.func4 (by kernel_rfl)
  (of_decide_eq_true (by kernel_rfl)) (by unfold Func.isWrapper;first|(rw[if_pos (by decide+kernel)];kernel_rfl)|(rw[if_neg (by decide+kernel)];exact⟨rfl,rfl⟩))
  (fun os started H enc _=>Z6t os started H enc)
theorem card:Rows.ZipReadCardSaid:=
 Claim7.holds_tied_plain_at .later [] [.data,.pinned] true Rows.zipReadCard.stood.harness true over (fun _ h=>by cases h) (by kernel_rfl) (fun _ h=>by cases h) zipRead_row_tie rfl ⟨rfl,rfl⟩ (by kernel_rfl) rfl
  (fun f G H F=>by
   obtain rfl:f=4:=VM ((show Tryz.prog.funcNamed Rows.zipReadRow.func=some 4 by kernel_rfl).symm.trans H)|>.symm
   obtain rfl:G=Tryz.f4:=(VM (Tryz.func4.symm.trans F)).symm
   exact⟨by kernel_rfl,fun j t E=>by
    rw[Tryz.params4]at E;have hm:t∈ [23]:=by simpa using Array.mem_of_getElem? E
    have I:([23].all fun u=> !Tryz.prog.wantsStandIn u)=true:=by kernel_rfl
    exact(show Tryz.prog.wantsStandIn t=false by simpa using WX.1 I t (by simpa using hm))⟩)
  (by kernel_rfl)
end Go.Proofs.YtleocpdblhbimaaGreatDoor.zipRead
namespace Go.Proofs.YtleocpdblhbimaaGreatDoor
theorem zipRead_holds:Rows.ZipReadCardSaid:=zipRead.card
end Go.Proofs.YtleocpdblhbimaaGreatDoor
