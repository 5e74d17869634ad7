/-
  For any bytes the law ZipRead answers true: from any bytes files are read as the document says, errors too. No condition is asked; the listed tables of Go's library (the law does not read them) are tied to the program's text as given.
-/
import Derived.Test.YtleocpdblhbimaaGreatDoorQ50
import Derived.Test.YtleocpdblhbimaaGreatDoorQ39
import Derived.Test.YtleocpdblhbimaaGreatDoorTie
import Derived.Test.YtleocpdblhbimaaGreatDoorCards
import Derived.ChangeMaps5
import Derived.SizedLaws
import Derived.LaidMore
import Derived.Lay
import Derived.SevenTiedAt
import Derived.Stop.Joined
set_option linter.unusedSimpArgs false
set_option linter.unusedVariables false
set_option maxRecDepth 100000
set_option maxHeartbeats 1000000
namespace Go.Proofs.YtleocpdblhbimaaGreatDoor.zipRead
open Go.ChangeShapes Go.WideShapes Go.ChangeAt Go.RowKit Go.ChangeMaps Go.Deep
theorem Z6t (os:Os)(ah:os.Started)(H:Type)(enc:TypeId×Value->H):ReturnsInHanded {} Tryz.checked os 4 .any (fun w args=>(Rows.zipReadSpec.pre enc Tryz.prog Tryz.f4 Rows.zipReadRow.domain false w args/\laidMetH Tryz.prog Rows.zipReadRow.laid w)/\sizedMet enc Tryz.prog Tryz.f4 (OpenSpec.ofChange Rows.zipReadSpec) false w args) (Rows.zipReadSpec.post enc Tryz.prog Tryz.f4 false true false false):=by
 refine returnsInHanded_of_change_and (C:=Tryz.checked) (X:=fun w _=>laidMetH Tryz.prog Rows.zipReadRow.laid w) (fun _ _ _ ak h=>h.of_heap ak) own ah oR Tryz.func4
  (ChangeSpec.witness_shaped (enc:=enc) (C:=Tryz.checked) (os:=os) (X:=fun w _=>laidMetH Tryz.prog Rows.zipReadRow.laid w) false (World.laidAll Tryz.prog os Rows.zipReadRow.laid) #[.slice none 0 0] 8 (World.laidAll_os _ _ _)
   (World.shaped_of_ZipB oR oR) oR oR oR
   (by rw[MakeChecks.laidMetH_plain _ _ _ oR];exact laidMet_laidAll _ oR oR)) ?_
 intro W base args au gs before aa U a5 aj a7 _;have E:∀(j:Nat) t v,Tryz.f4.params[j]? =some t->args[j]? =some v->Value.okWide Tryz.prog W .any base t v:=aa;have ae:=U;obtain⟨p,q,O,ai,rfl,a1,a6⟩:=U;have G:DataW.TrodAll enc Tryz.prog W 0 (fun _=>true) true Tryz.f4.params.toList args.toList au p:=O;rw[Tryz.params4]at G E;obtain⟨av,d0,rfl,rfl,Y⟩:=trodAll_one G;obtain⟨rfl,rfl⟩:=trodVars_none ai;have F:=Y;(have ax:∀x∈p,x.block<W.heap.size:=by obtain⟨m,hm⟩:=F;exact DataW.trod_lt m _ _ _ hm);obtain⟨ao,Z,ag,rfl⟩:=okWide_slice Tryz.underlying23 (E 0 23 av rfl rfl);obtain⟨ay,al⟩:=Y;(have ap:DataW.trod enc Tryz.prog W 0 (fun _=>true) true ay 23 [.slice ao Z ag]=some (d0,p):=by simpa[Value.cells]using al);(have aw:∀n∈d0.weights Tryz.prog 23,n<=140737488351232:=fun n hn=>by have af:=WX.1 aj _ (DataW.weights_mem_each (j:=0) rfl rfl _ hn);(have ac:n<=reachBytes:=by simpa using af);exact ac);obtain⟨az,a2,T,I,M,a3⟩:=Z4b ap aw;(have a4:T.length=Z:=by cases I;rfl);cases I;clear O aa;have c:=Q3 _ _ _ (n8 T) W (Da _) (RE M) (Z5j M) (Lv _) om Z39;refine c.mono fun e W' ⟨ar,bel⟩=> ?_;subst ar;exact⟨_,rfl,_,_,_,[],_,[],ae,trodAll_mk1 (shut_bool Tryz.underlying4 _),(trodAll_cons_mk (Below.trod Z4t oR (of_decide_eq_true oR) F bel ax) trodAll_mk0),rfl,bel.frame _,fun h=>by cases h⟩
theorem over:Rows.zipReadRow.holds Tryz.pinned (OpenSpec.ofChange Rows.zipReadSpec):=
 OpenClaim.holds_of_wide 4 Tryz.f4 rfl rfl rfl rfl rfl rfl rfl ⟨rfl,rfl,rfl,rfl,rfl⟩ rfl rfl rfl rfl rfl oR Tryz.func4 oR
  (of_decide_eq_true oR) (by unfold Func.isWrapper;first|(rw[if_pos (by decide+kernel)];kernel_rfl)|(rw[if_neg (by decide+kernel)];exact⟨rfl,rfl⟩))
  (fun os started H enc _=>Z6t os started H enc)
theorem card:Rows.ZipReadCardSaid:=
 Claim7.holds_tied_plain_at .later [] [.data,.pinned] true Rows.zipReadCard.stood.harness true over (fun _ h=>by cases h) oR (fun _ h=>by cases h) zipRead_row_tie rfl ⟨rfl,rfl⟩ oR rfl
  (fun f F H I=>by
   obtain rfl:f=4:=VM ((show Tryz.prog.funcNamed Rows.zipReadRow.func=some 4 by kernel_rfl).symm.trans H)|>.symm
   obtain rfl:F=Tryz.f4:=(VM (Tryz.func4.symm.trans I)).symm
   exact⟨oR,fun j t E=>by
    rw[Tryz.params4]at E
    have hm:t∈ [23]:=by simpa using Array.mem_of_getElem? E
    have G:([23].all fun u=> !Tryz.prog.wantsStandIn u)=true:=oR
    exact(show Tryz.prog.wantsStandIn t=false by simpa using WX.1 G t (by simpa using hm))⟩)
  oR
end Go.Proofs.YtleocpdblhbimaaGreatDoor.zipRead
namespace Go.Proofs.YtleocpdblhbimaaGreatDoor
theorem zipRead_holds:Rows.ZipReadCardSaid:=zipRead.card
end Go.Proofs.YtleocpdblhbimaaGreatDoor
