/-
  For any list of files the law ZipWrite answers true: of any files the archive is one of these, by the document's own reading, packed if that is shorter, errors too. No condition is asked; the listed tables of Go's library (the law does not read them) are tied to the program's text as given.
-/
import Derived.Test.YtleocpdblhbimaaGreatDoorQ50
import Derived.Test.YtleocpdblhbimaaGreatDoorTie
import Derived.Test.YtleocpdblhbimaaGreatDoorCards
import Derived.ChangeMaps5
import Derived.SizedLaws
import Derived.LaidMore
import Derived.Lay
import Derived.SevenTiedAt
import Derived.Stop.Joined
set_option linter.unusedSimpArgs false
set_option maxHeartbeats 1000000
namespace Go.Proofs.YtleocpdblhbimaaGreatDoor.zipWrite
open Go.ChangeShapes Go.WideShapes Go.ChangeAt Go.RowKit Go.ChangeMaps Go.Deep
set_option linter.unusedVariables false
set_option maxRecDepth 100000
theorem Z3s (os:Os)(started:os.Started)(H:Type)(enc:TypeId×Value->H):
 ReturnsInHanded {} Tryz.checked os 3 .any (fun w args=>(Rows.zipWriteSpec.pre enc Tryz.prog Tryz.f3 Rows.zipWriteRow.domain false w args/\laidMetH Tryz.prog Rows.zipWriteRow.laid w)/\sizedMet enc Tryz.prog Tryz.f3 (OpenSpec.ofChange Rows.zipWriteSpec) false w args)
  (Rows.zipWriteSpec.post enc Tryz.prog Tryz.f3 false true false false):=by
 refine returnsInHanded_of_change_and (C:=Tryz.checked) (X:=fun w _=>laidMetH Tryz.prog Rows.zipWriteRow.laid w) (fun _ _ _ hh h=>h.of_heap hh) own started (by kernel_rfl) Tryz.func3
  (ChangeSpec.witness_shaped (enc:=enc) (C:=Tryz.checked) (os:=os) (X:=fun w _=>laidMetH Tryz.prog Rows.zipWriteRow.laid w) false (World.laidAll Tryz.prog os Rows.zipWriteRow.laid) #[.slice none 0 0] 8 (World.laidAll_os _ _ _)
   (World.shaped_of_ZipB (by kernel_rfl) (by kernel_rfl)) (by kernel_rfl) (by kernel_rfl) (by kernel_rfl)
   (by rw[MakeChecks.laidMetH_plain _ _ _ (by kernel_rfl)];exact laidMet_laidAll _ (by kernel_rfl) (by kernel_rfl))) ?_
 intro W base args ds gs before hval0 hW hcnd hsz hL _;have hval:∀(j:Nat) t v,Tryz.f3.params[j]? =some t->args[j]? =some v->Value.okWide Tryz.prog W .any base t v:=hval0;have hW':=hW;obtain⟨p,q,hA0,hV,rfl,hfz,hnd⟩:=hW;have hA:DataW.TrodAll enc Tryz.prog W 0 (fun _=>true) true Tryz.f3.params.toList args.toList ds p:=hA0;rw[Tryz.params3]at hA hval;obtain⟨v0,d0,rfl,rfl,h0⟩:=trodAll_one hA;obtain⟨rfl,rfl⟩:=trodVars_none hV;have k0:=h0;have lt0:∀x∈p,x.block<W.heap.size:=by obtain⟨m,hm⟩:=k0;exact DataW.trod_lt m _ _ _ hm
 obtain⟨a0,len0,cap0,rfl⟩:=okWide_slice Tryz.underlying22 (hval 0 22 v0 rfl rfl);obtain⟨fuel0,hf0⟩:=h0;have hg0:DataW.trod enc Tryz.prog W 0 (fun _=>true) true fuel0 22 [.slice a0 len0 cap0]=some (d0,p):=by simpa[Value.cells]using hf0
 obtain⟨xs0,hl0,hF0⟩:=CT hg0 hsz (j:=0) rfl rfl;clear hA0 hval0;have c:=Xk _ _ _ xs0 W hF0 hl0;refine c.mono fun e W' ⟨he,bel⟩=> ?_
 subst he;exact⟨_,rfl,_,_,_,[],_,[],hW',trodAll_mk1 (shut_bool Tryz.underlying4 _),(trodAll_cons_mk (Below.trod Z1t (by kernel_rfl) (of_decide_eq_true (by kernel_rfl)) k0 bel lt0) trodAll_mk0),rfl,bel.frame _,fun h=>by cases h⟩
theorem over:Rows.zipWriteRow.holds Tryz.pinned (OpenSpec.ofChange Rows.zipWriteSpec):=
 OpenClaim.holds_of_wide 3 Tryz.f3 rfl rfl rfl rfl rfl rfl rfl ⟨rfl,rfl,rfl,rfl,rfl⟩ rfl rfl rfl rfl rfl (by kernel_rfl) Tryz.func3 (by kernel_rfl)
  (of_decide_eq_true (by kernel_rfl)) (by unfold Func.isWrapper;first|(rw[if_pos (by decide+kernel)];kernel_rfl)|(rw[if_neg (by decide+kernel)];exact⟨rfl,rfl⟩))
  (fun os started H enc _=>Z3s os started H enc)
theorem card:Rows.ZipWriteCardSaid:=
 Claim7.holds_tied_plain_at .later [] Rows.zipWriteCard.laidKinds true Rows.zipWriteCard.stood.harness true over (fun _ h=>by cases h) (by kernel_rfl) (fun _ h=>by cases h) zipWrite_row_tie rfl ⟨rfl,rfl⟩ (by kernel_rfl) rfl
  (fun f fn hf hfn=>by
   obtain rfl:f=3:=VQ ((show Tryz.prog.funcNamed Rows.zipWriteRow.func=some 3 by kernel_rfl).symm.trans hf)|>.symm
   obtain rfl:fn=Tryz.f3:=(VQ (Tryz.func3.symm.trans hfn)).symm
   exact⟨by kernel_rfl,fun j t ht=>by
    rw[Tryz.params3]at ht;have hm:t∈ [22]:=by simpa using Array.mem_of_getElem? ht
    have hall:([22].all fun u=> !Tryz.prog.wantsStandIn u)=true:=by kernel_rfl
    exact(show Tryz.prog.wantsStandIn t=false by simpa using WT.1 hall t (by simpa using hm))⟩)
  (by kernel_rfl)
end Go.Proofs.YtleocpdblhbimaaGreatDoor.zipWrite
namespace Go.Proofs.YtleocpdblhbimaaGreatDoor
theorem zipWrite_holds:Rows.ZipWriteCardSaid:=zipWrite.card
end Go.Proofs.YtleocpdblhbimaaGreatDoor
