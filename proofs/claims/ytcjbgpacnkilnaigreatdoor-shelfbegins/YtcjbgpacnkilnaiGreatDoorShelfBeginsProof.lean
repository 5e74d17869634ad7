/-
  For any bytes and any number the law ShelfBegins answers true: of what is cut earlier no more is recovered, and what is is the beginning; recovered once more it stays as it is. No condition is asked; the listed tables of Go's library (the law does not read them) are tied to the program's text as given.
-/
import Derived.Test.YtcjbgpacnkilnaiGreatDoorQ51
import Derived.Test.YtcjbgpacnkilnaiGreatDoorQ43
import Derived.Test.YtcjbgpacnkilnaiGreatDoorTie
import Derived.Test.YtcjbgpacnkilnaiGreatDoorCards
import Derived.ChangeMaps5
import Derived.SizedLaws
import Derived.LaidMore
import Derived.Lay
import Derived.SevenTiedAt
import Derived.Stop.Joined
set_option maxHeartbeats 1000000
namespace Go.Proofs.YtcjbgpacnkilnaiGreatDoor.shelfBegins
open Go.ChangeShapes Go.WideShapes Go.ChangeAt Go.RowKit Go.ChangeMaps Go.Deep
set_option linter.unusedVariables false
set_option maxRecDepth 100000
theorem Zit (os:Os)(started:os.Started)(H:Type)(enc:TypeId×Value->H):
 ReturnsInHanded {} Tryz.checked os 4 .any (fun w args=>(Rows.shelfBeginsSpec.pre enc Tryz.prog Tryz.f4 Rows.shelfBeginsRow.domain false w args/\laidMetH Tryz.prog Rows.shelfBeginsRow.laid w)/\sizedMet enc Tryz.prog Tryz.f4 (OpenSpec.ofChange Rows.shelfBeginsSpec) false w args)
  (Rows.shelfBeginsSpec.post enc Tryz.prog Tryz.f4 false true false false):=by
 refine returnsInHanded_of_change_and (C:=Tryz.checked) (X:=fun w _=>laidMetH Tryz.prog Rows.shelfBeginsRow.laid w) (fun _ _ _ hh h=>h.of_heap hh) own started (by kernel_rfl) Tryz.func4
  (ChangeSpec.witness_shaped (enc:=enc) (C:=Tryz.checked) (os:=os) (X:=fun w _=>laidMetH Tryz.prog Rows.shelfBeginsRow.laid w) false (World.laidAll Tryz.prog os Rows.shelfBeginsRow.laid) #[.slice none 0 0,.int .i64 0] 8 (World.laidAll_os _ _ _)
   (World.shaped_of_ZipB (by kernel_rfl) (by kernel_rfl)) (by kernel_rfl) (by kernel_rfl) (by kernel_rfl)
   (by rw[MakeChecks.laidMetH_plain _ _ _ (by kernel_rfl)];exact laidMet_laidAll _ (by kernel_rfl) (by kernel_rfl))) ?_
 intro W base args ds gs before hval0 hW hcnd hsz hL _;have hval:∀(j:Nat) t v,Tryz.f4.params[j]? =some t->args[j]? =some v->Value.okWide Tryz.prog W .any base t v:=hval0;have hW':=hW;obtain⟨p,q,hA0,hV,rfl,hfz,hnd⟩:=hW;have hA:DataW.TrodAll enc Tryz.prog W 0 (fun _=>true) true Tryz.f4.params.toList args.toList ds p:=hA0;rw[Tryz.params4]at hA hval;obtain⟨v0,v1,d0,d1,p0,p1,rfl,rfl,rfl,h0,h1⟩:=trodAll_two hA;obtain⟨rfl,rfl⟩:=trodVars_none hV;have k0:=h0;have lt0:∀x∈p0,x.block<W.heap.size:=by obtain⟨m,hm⟩:=k0;exact DataW.trod_lt m _ _ _ hm
 obtain⟨a0,len0,cap0,rfl⟩:=okWide_slice Tryz.underlying22 (hval 0 22 v0 rfl rfl);obtain⟨fuel0,hf0⟩:=h0;have hg0:DataW.trod enc Tryz.prog W 0 (fun _=>true) true fuel0 22 [.slice a0 len0 cap0]=some (d0,p0):=by simpa[Value.cells]using hf0
 have hw0:∀n∈d0.weights Tryz.prog 22,n<=140737488351232:=fun n hn=>by
  have h3:=List.all_eq_true.1 hsz _ (DataW.weights_mem_each (j:=0) rfl rfl _ hn);have h4:n<=reachBytes:=by simpa using h3
  exact h4
 obtain⟨a0',c0',bs0,hv0,hF0,hlim0⟩:=Zg6 hg0 hw0;have hl0:bs0.length=len0:=by cases hv0;rfl
 cases hv0
 obtain⟨i1,rfl,rfl,rfl,wf1⟩:=open_int Tryz.underlying3 (hval 1 3 v1 rfl rfl) h1;clear hA0 hval0;have c:=Z6h _ _ _ i1 (n8 bs0) W (Fm _) (Zax hF0) (Zhe hF0) (Ly _) (by omega);refine c.mono fun e W' ⟨he,bel⟩=> ?_
 subst he;exact⟨_,rfl,_,_,_,[],_,[],hW',trodAll_mk1 (shut_bool Tryz.underlying4 _),(trodAll_cons_mk (Below.trod Zgm (by kernel_rfl) (of_decide_eq_true (by kernel_rfl)) k0 bel lt0) (trodAll_cons_mk (shut_int Tryz.underlying3 wf1) trodAll_mk0)),rfl,bel.frame _,fun h=>by cases h⟩
theorem over:Rows.shelfBeginsRow.holds Tryz.pinned (OpenSpec.ofChange Rows.shelfBeginsSpec):=
 OpenClaim.holds_of_wide 4 Tryz.f4 rfl rfl rfl rfl rfl rfl rfl ⟨rfl,rfl,rfl,rfl,rfl⟩ rfl rfl rfl rfl rfl (by kernel_rfl) Tryz.func4 (by kernel_rfl)
  (of_decide_eq_true (by kernel_rfl)) (by unfold Func.isWrapper;first|(rw[if_pos (by decide+kernel)];kernel_rfl)|(rw[if_neg (by decide+kernel)];exact⟨rfl,rfl⟩))
  (fun os started H enc _=>Zit os started H enc)
theorem card:Rows.ShelfBeginsCardSaid:=
 Claim7.holds_tied_plain_at .later [] [.data,.pinned] true Rows.shelfBeginsCard.stood.harness true over (fun _ h=>by cases h) (by kernel_rfl) (fun _ h=>by cases h) shelfBegins_row_tie rfl ⟨rfl,rfl⟩ (by kernel_rfl) rfl
  (fun f fn hf hfn=>by
   obtain rfl:f=4:=Option.some.inj ((show Tryz.prog.funcNamed Rows.shelfBeginsRow.func=some 4 by kernel_rfl).symm.trans hf)|>.symm
   obtain rfl:fn=Tryz.f4:=(Option.some.inj (Tryz.func4.symm.trans hfn)).symm
   exact⟨by kernel_rfl,fun j t ht=>by
    rw[Tryz.params4]at ht;have hm:t∈ [22,3]:=by simpa using Array.mem_of_getElem? ht
    have hall:([22,3].all fun u=> !Tryz.prog.wantsStandIn u)=true:=by kernel_rfl
    exact(show Tryz.prog.wantsStandIn t=false by simpa using List.all_eq_true.1 hall t (by simpa using hm))⟩)
  (by kernel_rfl)
end Go.Proofs.YtcjbgpacnkilnaiGreatDoor.shelfBegins
namespace Go.Proofs.YtcjbgpacnkilnaiGreatDoor
theorem shelfBegins_holds:Rows.ShelfBeginsCardSaid:=shelfBegins.card
end Go.Proofs.YtcjbgpacnkilnaiGreatDoor
