/-
  For any disk the law ShelfPacks answers true: packed anew a disk has the same files, and packed once more it is the same. No condition is asked; the listed tables of Go's library (the law does not read them) are tied to the program's text as given.
-/
import Derived.Test.YtcjbgpacnkilnagGreatDoorQ51
import Derived.Test.YtcjbgpacnkilnagGreatDoorQ43
import Derived.Test.YtcjbgpacnkilnagGreatDoorTie
import Derived.Test.YtcjbgpacnkilnagGreatDoorCards
import Derived.ChangeMaps5
import Derived.SizedLaws
import Derived.LaidMore
import Derived.Lay
import Derived.SevenTiedAt
import Derived.Stop.Joined
set_option maxHeartbeats 1000000
namespace Go.Proofs.YtcjbgpacnkilnagGreatDoor.shelfPacks
open Go.ChangeShapes Go.WideShapes Go.ChangeAt Go.RowKit Go.ChangeMaps Go.Deep
set_option linter.unusedVariables false
set_option maxRecDepth 100000
theorem Zm7 (os:Os)(started:os.Started)(H:Type)(enc:TypeId×Value->H):
 ReturnsInHanded {} Tryz.checked os 3 .any (fun w args=>(Rows.shelfPacksSpec.pre enc Tryz.prog Tryz.f3 Rows.shelfPacksRow.domain false w args/\laidMetH Tryz.prog Rows.shelfPacksRow.laid w)/\sizedMet enc Tryz.prog Tryz.f3 (OpenSpec.ofChange Rows.shelfPacksSpec) false w args)
  (Rows.shelfPacksSpec.post enc Tryz.prog Tryz.f3 false true false false):=by
 refine returnsInHanded_of_change_and (C:=Tryz.checked) (X:=fun w _=>laidMetH Tryz.prog Rows.shelfPacksRow.laid w) (fun _ _ _ hh h=>h.of_heap hh) own started (by kernel_rfl) Tryz.func3
  (ChangeSpec.witness_shaped (enc:=enc) (C:=Tryz.checked) (os:=os) (X:=fun w _=>laidMetH Tryz.prog Rows.shelfPacksRow.laid w) false (World.laidAll Tryz.prog os Rows.shelfPacksRow.laid) #[.agg #[.slice none 0 0,.slice none 0 0]] 8 (World.laidAll_os _ _ _)
   (World.shaped_of_ZipB (by kernel_rfl) (by kernel_rfl)) (by kernel_rfl) (by kernel_rfl) (by kernel_rfl)
   (by rw[MakeChecks.laidMetH_plain _ _ _ (by kernel_rfl)];exact laidMet_laidAll _ (by kernel_rfl) (by kernel_rfl))) ?_
 intro W base args ds gs before hval0 hW hcnd hsz hL _;have hval:∀(j:Nat) t v,Tryz.f3.params[j]? =some t->args[j]? =some v->Value.okWide Tryz.prog W .any base t v:=hval0;have hW':=hW;obtain⟨p,q,hA0,hV,rfl,hfz,hnd⟩:=hW;have hA:DataW.TrodAll enc Tryz.prog W 0 (fun _=>true) true Tryz.f3.params.toList args.toList ds p:=hA0;rw[Tryz.params3]at hA hval;obtain⟨v0,d0,rfl,rfl,h0⟩:=trodAll_one hA;obtain⟨rfl,rfl⟩:=trodVars_none hV;obtain⟨cs0,rfl,hcs0⟩:=okWide_struct Tryz.underlying24 (hval 0 24 v0 rfl rfl);have k0:=h0;have lt0:∀x∈p,x.block<W.heap.size:=by obtain⟨m,hm⟩:=k0;exact DataW.trod_lt m _ _ _ hm
 obtain⟨fuel0,hf0⟩:=h0
 have hw0:∀n∈d0.weights Tryz.prog 24,n<=140737488351232:=fun n hn=>by
  have h3:=List.all_eq_true.1 hsz _ (DataW.weights_mem_each (j:=0) rfl rfl _ hn);have h4:n<=reachBytes:=by simpa using h3
  exact h4
 obtain⟨x0,y0,S0,T0,hz0,hF0,hS0,hT0⟩:=Zb3 hf0 hw0
 have hzv0:(Value.agg cs0)=.agg #[x0,y0]:=by
  have e:cs0= #[x0,y0]:=by
   have e2:cs0.toList= [x0,y0]:=by rw[<-hz0];simp[Value.cells]
   exact Array.ext' e2
  rw[e]
 clear hA0 hval0;have c:=Zb1 _ (n8 S0) (n8 T0) W hF0 (Jw _) (Jw _) (by omega) (by omega);rw[<-hzv0]at c;refine c.mono fun e W' ⟨he,bel⟩=> ?_
 subst he;exact⟨_,rfl,_,_,_,[],_,[],hW',trodAll_mk1 (shut_bool Tryz.underlying4 _),(trodAll_cons_mk (Below.trod Zjy (by kernel_rfl) (of_decide_eq_true (by kernel_rfl)) k0 bel lt0) trodAll_mk0),rfl,bel.frame _,fun h=>by cases h⟩
theorem over:Rows.shelfPacksRow.holds Tryz.pinned (OpenSpec.ofChange Rows.shelfPacksSpec):=
 OpenClaim.holds_of_wide 3 Tryz.f3 rfl rfl rfl rfl rfl rfl rfl ⟨rfl,rfl,rfl,rfl,rfl⟩ rfl rfl rfl rfl rfl (by kernel_rfl) Tryz.func3 (by kernel_rfl)
  (of_decide_eq_true (by kernel_rfl)) (by unfold Func.isWrapper;first|(rw[if_pos (by decide+kernel)];kernel_rfl)|(rw[if_neg (by decide+kernel)];exact⟨rfl,rfl⟩))
  (fun os started H enc _=>Zm7 os started H enc)
theorem card:Rows.ShelfPacksCardSaid:=
 Claim7.holds_tied_plain_at .later [] [.data,.pinned] true Rows.shelfPacksCard.stood.harness true over (fun _ h=>by cases h) (by kernel_rfl) (fun _ h=>by cases h) shelfPacks_row_tie rfl ⟨rfl,rfl⟩ (by kernel_rfl) rfl
  (fun f fn hf hfn=>by
   obtain rfl:f=3:=Option.some.inj ((show Tryz.prog.funcNamed Rows.shelfPacksRow.func=some 3 by kernel_rfl).symm.trans hf)|>.symm
   obtain rfl:fn=Tryz.f3:=(Option.some.inj (Tryz.func3.symm.trans hfn)).symm
   exact⟨by kernel_rfl,fun j t ht=>by
    rw[Tryz.params3]at ht;have hm:t∈ [24]:=by simpa using Array.mem_of_getElem? ht
    have hall:([24].all fun u=> !Tryz.prog.wantsStandIn u)=true:=by kernel_rfl
    exact(show Tryz.prog.wantsStandIn t=false by simpa using List.all_eq_true.1 hall t (by simpa using hm))⟩)
  (by kernel_rfl)
end Go.Proofs.YtcjbgpacnkilnagGreatDoor.shelfPacks
namespace Go.Proofs.YtcjbgpacnkilnagGreatDoor
theorem shelfPacks_holds:Rows.ShelfPacksCardSaid:=shelfPacks.card
end Go.Proofs.YtcjbgpacnkilnagGreatDoor
