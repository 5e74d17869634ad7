/-
  For any disk, any number and any bytes the law ShelfCut answers true: any disk is checked, made safe, cut, and its files told, as the document says, errors too. No condition is asked; the listed tables of Go's library (the law does not read them) are tied to the program's text as given.
-/
import Derived.Test.YtleocpdblhbimaaGreatDoorQ15
import Derived.Test.YtleocpdblhbimaaGreatDoorTie
import Derived.Test.YtleocpdblhbimaaGreatDoorCards
import Derived.ChangeMaps5
import Derived.SizedLaws
import Derived.LaidMore
import Derived.Lay
import Derived.SevenTiedAt
import Derived.Stop.Joined
set_option linter.unusedVariables false
set_option linter.unusedSimpArgs false
set_option maxRecDepth 100000
set_option maxHeartbeats 1000000
namespace Go.Proofs.YtleocpdblhbimaaGreatDoor.shelfCut
open Go.Proofs.Tryz Go.ChangeShapes Go.WideShapes Go.ChangeAt Go.RowKit Go.ChangeMaps Go.Deep
open Go.Value (int)
open Go.IntKind (i64)
theorem Zbu (os:Os)(av:os.Started)(H:Type)(enc:TypeId×Value->H):ReturnsInHanded {} Tryz.checked os 5 .any (fun w args=>(Rows.shelfCutSpec.pre enc prog Tryz.f5 Rows.shelfCutRow.domain false w args/\laidMetH prog Rows.shelfCutRow.laid w)/\sizedMet enc prog Tryz.f5 (OpenSpec.ofChange Rows.shelfCutSpec) false w args) (Rows.shelfCutSpec.post enc prog Tryz.f5 false true false false):=by
 refine returnsInHanded_of_change_and (C:=Tryz.checked) (X:=fun w _=>laidMetH prog Rows.shelfCutRow.laid w) (fun _ _ _ a9 h=>h.of_heap a9) own av oR func5
  (ChangeSpec.witness_shaped (enc:=enc) (C:=Tryz.checked) (os:=os) (X:=fun w _=>laidMetH prog Rows.shelfCutRow.laid w) false (World.laidAll prog os Rows.shelfCutRow.laid) #[.agg #[.slice none 0 0,.slice none 0 0],int i64 0,.slice none 0 0] 8 (World.laidAll_os _ _ _)
   (World.shaped_of_ZipB oR oR) oR oR oR
   (by rw[MakeChecks.laidMetH_plain _ _ _ oR];exact laidMet_laidAll _ oR oR)) ?_
 intro W base args ds gs before ap ag b8 ao bw _;have E:∀(j:Nat) t v,Tryz.f5.params[j]? =some t->args[j]? =some v->Value.okWide prog W .any base t v:=ap;have ba:=ag;obtain⟨p,q,ai,bj,rfl,ce,b7⟩:=ag;have al:DataW.TrodAll enc prog W 0 (fun _=>true) true Tryz.f5.params.toList args.toList ds p:=ai;rw[Tryz.params5]at al E;obtain⟨bi,a4,v2,d0,d1,U,bd,bz,ac,rfl,rfl,rfl,ae,a5,aa⟩:=trodAll_three al;obtain⟨rfl,rfl⟩:=trodVars_none bj;obtain⟨I,rfl,ci⟩:=okWide_struct underlying50 (E 0 50 bi rfl rfl);have ak:=ae;(have ar:∀x∈bd,x.block<W.heap.size:=by obtain⟨m,hm⟩:=ak;exact DataW.trod_lt m _ _ _ hm);obtain⟨bn,a3⟩:=ae;(have bg:∀n∈d0.weights prog 50,n<=140737488351232:=fun n hn=>by have cg:=XA.1 ao _ (kbr (j:=0) rfl rfl _ hn);exact bG);obtain⟨G,O,bm,cd,aw,az,bu,b9⟩:=TT a3 bg;(have ay:(Value.agg I)=.agg #[G,O]:=by(have e:I= #[G,O]:=by(have e2:I.toList= [G,O]:=by rw[<-aw];simp[Value.cells]);exact Array.ext' e2);rw[e]);obtain⟨bb,rfl,rfl,rfl,bh⟩:=open_int underlying3 (E 1 3 a4 rfl rfl) a5;have k2:=aa;(have a6:∀x∈ac,x.block<W.heap.size:=by obtain⟨m,hm⟩:=k2;exact DataW.trod_lt m _ _ _ hm);obtain⟨a2,aj,a8,rfl⟩:=okWide_slice underlying23 (E 2 23 v2 rfl rfl);obtain⟨bk,bc⟩:=aa;(have a7:DataW.trod enc prog W 0 (fun _=>true) true bk 23 [.slice a2 aj a8]=some (U,ac):=by simpa[Value.cells]using bc);(have ax:∀n∈U.weights prog 23,n<=140737488351232:=fun n hn=>by have cg:=XA.1 ao _ (kbr (j:=2) rfl rfl _ hn);exact bG);obtain⟨b5,bv,au,af,ah,bq⟩:=DZ a7 ax;(have bo:au.length=aj:=by cases af;rfl);cases af;clear ai ap;have c:=R4 bb az (Kb _) (Kb _) om om (Cf _) (J6 ah) (Z2k ah) (Kb _) om Z7y;rw[<-ay]at c;refine c.mono fun e W' ⟨bf,bel⟩=> ?_;subst bf;exact⟨_,rfl,_,_,_,[],_,[],ba,trodAll_mk1 (shut_bool underlying4 _),(trodAll_cons_mk (Below.trod Z0n oR (kax oR) ak bel ar) (trodAll_cons_mk (shut_int underlying3 bh) (trodAll_cons_mk (Below.trod Z0n oR (kax oR) k2 bel a6) trodAll_mk0))),rfl,bel.frame _,fun h=>by cases h⟩
theorem over:Rows.shelfCutRow.holds Tryz.pinned (OpenSpec.ofChange Rows.shelfCutSpec):=
 OpenClaim.holds_of_wide 5 Tryz.f5 rfl rfl rfl rfl rfl rfl rfl ⟨rfl,rfl,rfl,rfl,rfl⟩ rfl rfl rfl rfl rfl Wj func5 Wk B8 B7
  (fun os started H enc _=>Zbu os started H enc)
theorem card:Rows.ShelfCutCardSaid:=
 Claim7.holds_tied_plain_at .later [] [.data,.pinned] true Rows.shelfCutCard.stood.harness true over (fun _ h=>by cases h) oR (fun _ h=>by cases h) shelfCut_row_tie rfl ⟨rfl,rfl⟩ oR rfl
  (fun f O H I=>by
   obtain rfl:f=5:=VK ((show prog.funcNamed Rows.shelfCutRow.func=some 5 by kernel_rfl).symm.trans H)|>.symm
   obtain rfl:O=Tryz.f5:=(VK (func5.symm.trans I)).symm
   exact⟨oR,fun j t E=>by
    rw[Tryz.params5]at E
    have hm:t∈ [50,3,23]:=by simpa using Array.mem_of_getElem? E
    have G:([50,3,23].all fun u=> !prog.wantsStandIn u)=true:=oR
    exact(show prog.wantsStandIn t=false by simpa using XA.1 G t (by simpa using hm))⟩)
  oR
end Go.Proofs.YtleocpdblhbimaaGreatDoor.shelfCut
namespace Go.Proofs.YtleocpdblhbimaaGreatDoor
open Go.Proofs.Tryz
open Go.Value (int)
open Go.IntKind (i64)
theorem shelfCut_holds:Rows.ShelfCutCardSaid:=shelfCut.card
end Go.Proofs.YtleocpdblhbimaaGreatDoor
