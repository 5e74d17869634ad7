/-
  For any lists of files and any two numbers the law ShelfKeeps answers true: what is recovered of a disk that was cut is what it had behind some Add, and no earlier than what was safe; it can be added to again. No condition is asked; the listed tables of Go's library (the law does not read them) are tied to the program's text as given.
-/
import Derived.Test.YtieianhejdcgdaaGreatDoorQ51
import Derived.Test.YtieianhejdcgdaaGreatDoorTie
import Derived.Test.YtieianhejdcgdaaGreatDoorCards
import Derived.ChangeMaps5
import Derived.SizedLaws
import Derived.LaidMore
import Derived.Lay
import Derived.SevenTiedAt
import Derived.Stop.Joined
set_option maxHeartbeats 1000000
namespace Go.Proofs.YtieianhejdcgdaaGreatDoor.shelfKeeps
open Go.ChangeShapes Go.WideShapes Go.ChangeAt Go.RowKit Go.ChangeMaps Go.Deep
set_option linter.unusedVariables false
set_option maxRecDepth 100000
theorem Z5i (os:Os)(started:os.Started)(H:Type)(enc:TypeId×Value->H):
 ReturnsInHanded {} Tryz.checked os 8 .any (fun w args=>(Rows.shelfKeepsSpec.pre enc Tryz.prog Tryz.f8 Rows.shelfKeepsRow.domain false w args/\laidMetH Tryz.prog Rows.shelfKeepsRow.laid w)/\sizedMet enc Tryz.prog Tryz.f8 (OpenSpec.ofChange Rows.shelfKeepsSpec) false w args)
  (Rows.shelfKeepsSpec.post enc Tryz.prog Tryz.f8 false true false false):=by
 refine returnsInHanded_of_change_and (C:=Tryz.checked) (X:=fun w _=>laidMetH Tryz.prog Rows.shelfKeepsRow.laid w) (fun _ _ _ hh h=>h.of_heap hh) own started (by kernel_rfl) Tryz.func8
  (ChangeSpec.witness_shaped (enc:=enc) (C:=Tryz.checked) (os:=os) (X:=fun w _=>laidMetH Tryz.prog Rows.shelfKeepsRow.laid w) false (World.laidAll Tryz.prog os Rows.shelfKeepsRow.laid) #[.slice none 0 0,.int .i64 0,.int .i64 0] 8 (World.laidAll_os _ _ _)
   (World.shaped_of_ZipB (by kernel_rfl) (by kernel_rfl)) (by kernel_rfl) (by kernel_rfl) (by kernel_rfl)
   (by rw[MakeChecks.laidMetH_plain _ _ _ (by kernel_rfl)];exact laidMet_laidAll _ (by kernel_rfl) (by kernel_rfl))) ?_
 intro W base args ds gs before hval0 hW hcnd hsz hL _;have hval:∀(j:Nat) t v,Tryz.f8.params[j]? =some t->args[j]? =some v->Value.okWide Tryz.prog W .any base t v:=hval0;have hW':=hW;obtain⟨p,q,hA0,hV,rfl,hfz,hnd⟩:=hW;have hA:DataW.TrodAll enc Tryz.prog W 0 (fun _=>true) true Tryz.f8.params.toList args.toList ds p:=hA0;rw[Tryz.params8]at hA hval;obtain⟨v0,v1,v2,d0,d1,d2,p0,p1,p2,rfl,rfl,rfl,h0,h1,h2⟩:=trodAll_three hA;obtain⟨rfl,rfl⟩:=trodVars_none hV;have k0:=h0;have lt0:∀x∈p0,x.block<W.heap.size:=by obtain⟨m,hm⟩:=k0;exact DataW.trod_lt m _ _ _ hm
 obtain⟨a0,len0,cap0,rfl⟩:=okWide_slice Tryz.underlying61 (hval 0 61 v0 rfl rfl);obtain⟨fuel0,hf0⟩:=h0;have hg0:DataW.trod enc Tryz.prog W 0 (fun _=>true) true fuel0 61 [.slice a0 len0 cap0]=some (d0,p0):=by simpa[Value.cells]using hf0
 have hw0:∀n∈d0.weights Tryz.prog 61,n<=140737488351232:=fun n hn=>by
  have h3:=WS.1 hsz _ (DataW.weights_mem_each (j:=0) rfl rfl _ hn);have h4:n<=reachBytes:=by simpa using h3
  exact h4
 obtain⟨ls0,hF0⟩:=DY hg0 hw0;obtain⟨i1,rfl,rfl,rfl,wf1⟩:=open_int Tryz.underlying3 (hval 1 3 v1 rfl rfl) h1;obtain⟨i2,rfl,rfl,rfl,wf2⟩:=open_int Tryz.underlying3 (hval 2 3 v2 rfl rfl) h2;clear hA0 hval0;have c:=MF _ _ _ i1 i2 ls0 W hF0;refine c.mono fun e W' ⟨he,bel⟩=> ?_
 subst he;exact⟨_,rfl,_,_,_,[],_,[],hW',trodAll_mk1 (shut_bool Tryz.underlying4 _),(trodAll_cons_mk (Below.trod Z36 (by kernel_rfl) (of_decide_eq_true (by kernel_rfl)) k0 bel lt0) (trodAll_cons_mk (shut_int Tryz.underlying3 wf1) (trodAll_cons_mk (shut_int Tryz.underlying3 wf2) trodAll_mk0))),rfl,bel.frame _,fun h=>by cases h⟩
theorem over:Rows.shelfKeepsRow.holds Tryz.pinned (OpenSpec.ofChange Rows.shelfKeepsSpec):=
 OpenClaim.holds_of_wide 8 Tryz.f8 rfl rfl rfl rfl rfl rfl rfl ⟨rfl,rfl,rfl,rfl,rfl⟩ rfl rfl rfl rfl rfl Of Tryz.func8 Og Qj Qi
  (fun os started H enc _=>Z5i os started H enc)
theorem card:Rows.ShelfKeepsCardSaid:=
 Claim7.holds_tied_plain_at .later [] [.data,.pinned] true Rows.shelfKeepsCard.stood.harness true over (fun _ h=>by cases h) (by kernel_rfl) (fun _ h=>by cases h) shelfKeeps_row_tie rfl ⟨rfl,rfl⟩ (by kernel_rfl) rfl
  (fun f fn hf hfn=>by
   obtain rfl:f=8:=VN ((show Tryz.prog.funcNamed Rows.shelfKeepsRow.func=some 8 by kernel_rfl).symm.trans hf)|>.symm
   obtain rfl:fn=Tryz.f8:=(VN (Tryz.func8.symm.trans hfn)).symm
   exact⟨by kernel_rfl,fun j t ht=>by
    rw[Tryz.params8]at ht;have hm:t∈ [61,3,3]:=by simpa using Array.mem_of_getElem? ht
    have hall:([61,3,3].all fun u=> !Tryz.prog.wantsStandIn u)=true:=by kernel_rfl
    exact(show Tryz.prog.wantsStandIn t=false by simpa using WS.1 hall t (by simpa using hm))⟩)
  (by kernel_rfl)
end Go.Proofs.YtieianhejdcgdaaGreatDoor.shelfKeeps
namespace Go.Proofs.YtieianhejdcgdaaGreatDoor
theorem shelfKeeps_holds:Rows.ShelfKeepsCardSaid:=shelfKeeps.card
end Go.Proofs.YtieianhejdcgdaaGreatDoor
