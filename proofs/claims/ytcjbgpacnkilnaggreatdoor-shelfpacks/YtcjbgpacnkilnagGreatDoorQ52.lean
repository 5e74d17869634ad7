import Derived.Test.YtcjbgpacnkilnagGreatDoorQ12
import Derived.Test.YtcjbgpacnkilnagGreatDoorQ51
import Derived.SizedLaws
import Derived.Deep.Slices
import Derived.Deep.Strs
import Derived.Test.YtcjbgpacnkilnagGreatDoorQ29
namespace Go.Proofs.YtcjbgpacnkilnagGreatDoor
open Go.RowKit Go.ChangeShapes Go.WideShapes Go.ChangeAt Go.Deep
set_option linter.unusedVariables false
set_option maxRecDepth 100000
theorem Zko:Tryz.prog.cellsOf 22=1:=by kernel_rfl
theorem Zkr:Tryz.prog.bytesOf 5=1:=by kernel_rfl
theorem Zb4 {H:Type}{enc:TypeId×Value->H}{w:World}{fuel:Nat}{v:Value}{x:DataW H×List MemPlace}
 (h:DataW.trod enc Tryz.prog w 0 (fun _=>true) true fuel 22 [v]=some x) (hw:∀n∈x.1.weights Tryz.prog 22,n<=140737488351232):∃a c bs,v=.slice a bs.length c/\BsIn w a c bs/\bs.length<=140737488351232:=by
 rcases open_ints Tryz.underlying22 Tryz.underlying5 Zmm h with ⟨hcs,_⟩|⟨a,l,c,zs,hcs,_,hl,hm,hz,hx,hcell,hwz⟩
 . simp at hcs
   subst hcs;exact⟨none,0,[],rfl,.inl ⟨rfl,rfl,rfl⟩,by simp⟩
 . simp at hcs
   subst hcs;have hz':zs.length=c:=by simpa using hz
   have hb:∀j,j<zs.length->0<=zs.getD j 0/\zs.getD j 0<=255:=by
    intro j hj;have hmem:zs.getD j 0∈zs:=by simp[List.getD,hj]
    have:=hwz _ hmem
    simpa[Lit.wf,IntKind.min,IntKind.max,IntKind.signed,IntKind.bits]using this
   have hlen:((zs.take l).map fun n=>UInt8.ofNat n.toNat).length=l:=by simp;omega
   have hc:c<=140737488351232:=by
    apply hw
    rw[hx];simp only[DataW.weights,Tryz.underlying22,Zkr];refine List.mem_cons.2 (.inl ?_);simp[lits]
    omega
   refine⟨some a,c,(zs.take l).map fun n=>UInt8.ofNat n.toNat,by rw[hlen], ?_,by rw[hlen];omega⟩
   by_cases h0:l=0
   . subst h0;exact .inr (.inl ⟨by simp,a,rfl⟩)
   . obtain⟨b,o,spot⟩:=a;have hc0:=hcell 0 (by omega);have hspot:spot=none:=by simpa[Addr.add]using World.cell?_spot hc0
     subst hspot;refine .inr (.inr ⟨b,o,rfl, ?_,by rw[hlen];exact hl, ?_⟩)
     . have:=World.block_lt_of_cell? _ _ hc0
       simpa[Addr.add]using this
     . intro j hj;rw[hlen]at hj;have h1:=hcell j (by omega);rw[Zdy]at h1;rw[h1];have hjz:j<zs.length:=by omega
       have hbj:=hb j hjz;have e:((zs.take l).map fun n=>UInt8.ofNat n.toNat).getD j 0=UInt8.ofNat (zs.getD j 0).toNat:=by simp[List.getD,hj,hjz]
       rw[e]
       have e2:(UInt8.ofNat (zs.getD j 0).toNat).toNat=(zs.getD j 0).toNat:=by
        rw[UInt8.toNat_ofNat'];omega
       rw[e2,Int.toNat_of_nonneg hbj.1]
instance:Inhabited Fv:=⟨⟨⟨[],[],0,0,false⟩,none,0⟩⟩
theorem Zdj:Tryz.prog.cellsOf 24=2:=by kernel_rfl
theorem Yf {H:Type}{enc:TypeId×Value->H}{P:Program}{w:World}{base:Nat}{spare:Nat->Bool}{held:Bool}{t:TypeId}{f0 f1:Field}{fuel:Nat}{cs:List Value}{x:DataW H×List MemPlace}(ht:P.underlying t=some (.struct #[f0,f1]))(h:DataW.trod enc P w base spare held fuel t cs=some x):
 ∃y0 y1 n,x=(.agg [y0.1,y1.1],y0.2++y1.2)/\cs.length=P.cellsOf t/\DataW.trod enc P w base spare held n f0.type ((cs.drop f0.offset).take (P.cellsOf f0.type))=some y0/\
  DataW.trod enc P w base spare held n f1.type ((cs.drop f1.offset).take (P.cellsOf f1.type))=some y1:=by
 obtain⟨xs,n,_,rfl,hl,hlen,hf⟩:=DataW.trod_struct ht h
 match xs,hlen with
 | [y0,y1],_=>exact⟨y0,y1,n,by simp,hl,by simpa using hf 0 f0 rfl,by simpa using hf 1 f1 rfl⟩
theorem Zb3 {H:Type}{enc:TypeId×Value->H}{w:World}{fuel:Nat}{cs:List Value}{x:DataW H×List MemPlace}
 (h:DataW.trod enc Tryz.prog w 0 (fun _=>true) true fuel 24 cs=some x) (hw:∀n∈x.1.weights Tryz.prog 24,n<=140737488351232):∃u v S T,cs= [u,v]/\DIn w (.agg #[u,v]) (n8 S) (n8 T)/\(n8 S).length<=140737488351232/\(n8 T).length<=140737488351232:=by
 obtain⟨y0,y1,k,hx,hlen,g0,g1⟩:=Yf Tryz.underlying24 h;rw[Zdj]at hlen
 match cs,hlen with
 | [v0,v1],_=>
  simp only[Zko]at g0 g1;simp at g0 g1
  have hws:∀n,n∈y0.1.weights Tryz.prog 22\/n∈y1.1.weights Tryz.prog 22->n<=140737488351232:=by
   intro n hn;apply hw
   rw[hx];simp only[DataW.weights,Tryz.underlying24]
   rcases hn with hn|hn
   . exact DataW.weights_mem_each (j:=0) rfl rfl n hn
   . exact DataW.weights_mem_each (j:=1) rfl rfl n hn
  obtain⟨a,c,bs,e1,hB,hbl⟩:=Zb4 g0 (fun n hn=>hws n (.inl hn));obtain⟨a2,c2,bs2,e2,hB2,hbl2⟩:=Zb4 g1 (fun n hn=>hws n (.inr hn));subst e1;subst e2;refine⟨_,_,bs,bs2,rfl,⟨_,_,rfl,⟨a,c,by rw[Dv],by rw[Dv];exact Z3q hB,Zh1 hB⟩,⟨a2,c2,by rw[Dv],by rw[Dv];exact Z3q hB2,Zh1 hB2⟩⟩,by rw[Dv];exact hbl,by rw[Dv];exact hbl2⟩
end Go.Proofs.YtcjbgpacnkilnagGreatDoor
