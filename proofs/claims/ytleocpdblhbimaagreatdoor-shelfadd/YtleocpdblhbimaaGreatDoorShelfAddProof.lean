/-
  For any disk and any files the law ShelfAdd answers true: any files are added to any disk, and it is packed anew, as the document says, errors too. No condition is asked; the listed tables of Go's library (the law does not read them) are tied to the program's text as given.
-/
import Derived.Test.YtleocpdblhbimaaGreatDoorQ15
import Derived.Test.YtleocpdblhbimaaGreatDoorTie
import Derived.Test.YtleocpdblhbimaaGreatDoorCards
set_option linter.unusedVariables false
set_option linter.unusedSimpArgs false
set_option maxRecDepth 100000
set_option maxHeartbeats 1000000
namespace Go.Proofs.YtleocpdblhbimaaGreatDoor.shelfAdd
open Go.Proofs.Tryz Go.ChangeShapes Go.WideShapes Go.ChangeAt Go.RowKit Go.ChangeMaps Go.Deep
theorem Zbu(os:Os)(ah:os.Started)(H:Type)(enc:TypeId×Value->H):ReturnsInHanded {} Tryz.checked os 6 .any (λw args=>(Rows.shelfAddSpec.pre enc prog Tryz.f6 Rows.shelfAddRow.domain false w args/\laidMetH prog Rows.shelfAddRow.laid w)/\sizedMet enc prog Tryz.f6 (OpenSpec.ofChange Rows.shelfAddSpec) false w args) (Rows.shelfAddSpec.post enc prog Tryz.f6 false true false false):=by
 refine returnsInHanded_of_change_and (C:=Tryz.checked) (X:=λw _=>laidMetH prog Rows.shelfAddRow.laid w) (λ_ _ _ ay h=>h.of_heap ay) own ah oR func6
  (ChangeSpec.witness_shaped (enc:=enc) (C:=Tryz.checked) (os:=os) (X:=λw _=>laidMetH prog Rows.shelfAddRow.laid w) false (World.laidAll prog os Rows.shelfAddRow.laid) #[.agg #[.slice none 0 0,.slice none 0 0],.slice none 0 0] 8 (World.laidAll_os _ _ _)
   (World.shaped_of_ZipB oR oR) oR oR oR
   (by rw[MakeChecks.laidMetH_plain _ _ _ oR];exact laidMet_laidAll _ oR oR)) ?_
 intro W base args ax gs before af O bj ae bh _;have E:∀(j:Nat) t v,Tryz.f6.params[j]? =some t->args[j]? =some v->Value.okWide prog W .any base t v:=af;have a3:=O;obtain⟨p,q,U,ba,rfl,bn,bi⟩:=O;have ac:DataW.TrodAll enc prog W 0 (λ_=>true) true Tryz.f6.params.toList args.toList ax p:=U;rw[Tryz.params6]at ac E;obtain⟨a9,ar,d0,d1,p0,p1,rfl,rfl,rfl,I,aa⟩:=trodAll_two ac;obtain⟨rfl,rfl⟩:=trodVars_none ba;obtain⟨F,rfl,bo⟩:=okWide_struct underlying50 (E 0 50 a9 rfl rfl);have Z:=I;(have ag:∀x∈p0,x.block<W.heap.size:=by obtain⟨m,hm⟩:=Z;exact DataW.trod_lt m _ _ _ hm);obtain⟨bf,ao⟩:=I;(have a8:∀n∈d0.weights prog 50,n<=140737488351232:=λn hn=>by have a4:=XA.1 ae _ (kbr (j:=0) rfl rfl _ hn);(have al:n<=reachBytes:=by simpa using a4);exact al);obtain⟨x0,G,bd,bm,ai,ak,bg,bk⟩:=TT ao a8;(have aj:(Value.agg F)=.agg #[x0,G]:=by(have e:F= #[x0,G]:=by(have e2:F.toList= [x0,G]:=by rw[<-ai];simp[Value.cells]);exact Array.ext' e2);rw[e]);have k1:=aa;(have bb:∀x∈p1,x.block<W.heap.size:=by obtain⟨m,hm⟩:=k1;exact DataW.trod_lt m _ _ _ hm);obtain⟨a1,az,ap,rfl⟩:=okWide_slice underlying22 (E 1 22 ar rfl rfl);obtain⟨au,a7⟩:=aa;(have av:DataW.trod enc prog W 0 (λ_=>true) true au 22 [.slice a1 az ap]=some (d1,p1):=by simpa[Value.cells]using a7);obtain⟨bc,a5,aw⟩:=Zfn av ae (j:=1) rfl rfl;clear U af;have c:=Zev ak (Z7d aw a5) (Kb _) (Kb _) om om Z7y;rw[<-aj]at c;refine c.mono λe W' ⟨a6,bel⟩=> ?_;subst a6;exact⟨_,rfl,_,_,_,[],_,[],a3,trodAll_mk1 (shut_bool underlying4 _),(trodAll_cons_mk (Below.trod Z0n oR (LN oR) Z bel ag) (trodAll_cons_mk (Below.trod Z0n oR (LN oR) k1 bel bb) trodAll_mk0)),rfl,bel.frame _,λh=>by cases h⟩
theorem over:Rows.shelfAddRow.holds Tryz.pinned (OpenSpec.ofChange Rows.shelfAddSpec):=
 OpenClaim.holds_of_wide 6 Tryz.f6 rfl rfl rfl rfl rfl rfl rfl ⟨rfl,rfl,rfl,rfl,rfl⟩ rfl rfl rfl rfl rfl Zba func6 Zdg Zep Zeo
  (λos started H enc _=>Zbu os started H enc)
theorem card:Rows.ShelfAddCardSaid:=
 Claim7.holds_tied_plain_at .later [] [.data,.pinned] true Rows.shelfAddCard.stood.harness true over (λ_ h=>by cases h) oR (λ_ h=>by cases h) shelfAdd_row_tie rfl ⟨rfl,rfl⟩ oR rfl
  (λf I G H=>by
   obtain rfl:f=6:=VK ((show Tryz.prog.funcNamed Rows.shelfAddRow.func=some 6 by kernel_rfl).symm.trans G)|>.symm
   obtain rfl:I=Tryz.f6:=(VK (Tryz.func6.symm.trans H)).symm
   exact⟨oR,λj t E=>by
    rw[Tryz.params6]at E
    have hm:t∈ [50,22]:=by simpa using Array.mem_of_getElem? E
    have F:([50,22].all λu=> !Tryz.prog.wantsStandIn u)=true:=oR
    exact(show Tryz.prog.wantsStandIn t=false by simpa using XA.1 F t (by simpa using hm))⟩)
  oR
end Go.Proofs.YtleocpdblhbimaaGreatDoor.shelfAdd
namespace Go.Proofs.YtleocpdblhbimaaGreatDoor
theorem shelfAdd_holds:Rows.ShelfAddCardSaid:=shelfAdd.card
end Go.Proofs.YtleocpdblhbimaaGreatDoor
