import Derived.Test.YtleocpdblhbimaaGreatDoorQ3
import Derived.Laws.Tables
import Derived.Laws.Rows
import Derived.Laws.ResultCell
import Derived.Laws.CopyRow
import Derived.Deep.RegionHeld3
import Derived.Deep.WholeRow
import Derived.Deep.DeepCutAuto
set_option linter.unusedSimpArgs false
set_option maxHeartbeats 2000000
namespace Go.Proofs.YtleocpdblhbimaaGreatDoor
open Go.RowKit
set_option linter.unusedVariables false
set_option maxRecDepth 100000
def ARow (T:TypeId)(w:World)(g:Nat)(xs:List Int):Prop:=w.heap[g]? =some (.cells (iv xs).toArray T (0,0))
theorem ARow.lt {T:TypeId}{w:World}{g:Nat}{xs:List Int}(h:ARow T w g xs):g<w.heap.size:=(VL.1 h).1
theorem Z4w (xs:List Int)(j:Nat)(hj:j<xs.length):(iv xs).toArray[j]? =some (.int .i64 (xs.getD j 0)):=by simp[iv,List.getD,hj]
theorem ARow.cell {T:TypeId}{w:World}{g:Nat}{xs:List Int}(h:ARow T w g xs)(j:Nat)(hj:j<xs.length):w.cell? ⟨g,j,none⟩=some (.int .i64 (xs.getD j 0)):=(Ac h).trans (Z4w xs j hj)
theorem ARow.frozen {T:TypeId}{w:World}{g:Nat}{xs:List Int}(h:ARow T w g xs)(j:Nat):w.frozen? ⟨g,j,none⟩=false:=frozen_of_row w g j _ _ h
theorem ARow.row {T:TypeId}{w:World}{g:Nat}{xs:List Int}(h:ARow T w g xs):Row .i64 w g 0 xs:=fun j hj=>by rw[WI];exact h.cell j hj
theorem ARow.keep {T:TypeId}{w w':World}{g:Nat}{xs:List Int}(h:ARow T w g xs)(hk:w'.heap[g]? =w.heap[g]?):ARow T w' g xs:=hk.trans h
theorem ARow.set {T:TypeId}{w:World}{g:Nat}{xs:List Int}(h:ARow T w g xs)(i:Nat)(v:Int):ARow T (w.setCell ⟨g,i,none⟩ (.int .i64 v)) g (xs.set i v):=by
 unfold ARow;rw[heap_setCell_same w g i _ _ _ h];simp[iv,List.map_set]
theorem Lf {fn:Func}{p u:Tmp}{ty tz:TypeId}(h:fn.results= #[.cell p ty,.cell u tz])(tmps:Array Value)(w:World)(g1 g2:Nat)(v1 v2:Value)
 (hp:tmps.getD p undef=.pointer (some ⟨g1,0,none⟩)) (hu:tmps.getD u undef=.pointer (some ⟨g2,0,none⟩)) (h1:(loadVar ty ⟨g1,0,none⟩).run Tryz.prog w=.ok v1 w) (h2:(loadVar tz ⟨g2,0,none⟩).run Tryz.prog w=.ok v2 w):
 (results fn tmps).run Tryz.prog w=.ok (.tuple #[v1,v2]) w:=by
 have hp':tmps[p]?.getD undef=.pointer (some ⟨g1,0,none⟩):=by simpa using hp
 have hu':tmps[u]?.getD undef=.pointer (some ⟨g2,0,none⟩):=by simpa using hu
 simp[results,h,hp',hu',asAddr,h1,h2]
theorem ARow.range {T:TypeId}{w:World}{g:Nat}{xs:List Int}(h:ARow T w g xs):w.rangeAt g 0 (iv xs):=fun j v hv=>by
 rw[WI];exact(Ac h).trans (by simpa using hv)
theorem Eb (xs:List Int):(iv xs).toArray.all (·.oneCell')=true:=by
 simp[iv]
 intro x hx;rfl
theorem Dt {ops:Array Oper}{o:Oper}{a:Act}{W:World}{K:Act->World->Prop}{Q:Exit->Act->World->Prop}{E:Prop}(hgd:o.guard=none)(T:TypeId)(x y:Operand)(ho:o.op=.store T x y)
 (g:Nat) (xs:List Int) (hx:a.eval x=.pointer (some ⟨g,0,none⟩)) (hy:a.eval y=.agg (iv xs).toArray) (hA:ARow T W g xs) (hi:(Tryz.prog.info? T).map (·.size)=some (iv xs).toArray.size) (h:K (a.put o.dst undef) W):if Region.wanted o (yielded ops a.tmps)=true then Oper.wp Tryz.prog o a W K Q else E:=by
 have e:Region.wanted o (yielded ops a.tmps)=true:=by unfold Region.wanted;rw[hgd]
 rw[if_pos e];refine wp_store_row T x y ho g _ hx hy T _ hA hi rfl (Eb xs) ?_;rw[setRow_self W g _ T (0,0) hA];exact h
theorem ARow.load {T:TypeId}{w:World}{g:Nat}{xs:List Int}(h:ARow T w g xs){d:TypeDesc}(hu:Tryz.prog.underlying T=some d)(hd:(match d with| .struct _| .array _ _=>true|_=>false)=true)(hi:(Tryz.prog.info? T).map (·.size)=some (iv xs).toArray.size):(loadVar T ⟨g,0,none⟩).run Tryz.prog w=.ok (.agg (iv xs).toArray) w:=
 run_loadVar_row w g T T _ (0,0) d h hu (by cases d<;>first|rfl|exact hd) hi
theorem Wb (l:List Int)(k:Nat)(hk:k<l.length):(l.take k++List.replicate (l.length-k) 0).set k (l.getD k 0)=l.take (k+1)++List.replicate (l.length-(k+1)) 0:=by
 have h1:(l.take k).length=k:=by simp;omega
 rw[List.set_append_right _ _ (by omega),h1,XM];obtain⟨q,hq⟩:∃q,l.length-k=q+1:=⟨l.length-k-1,by omega⟩
 have e:l.take (k+1)=l.take k++ [l.getD k 0]:=by rw[ZA];simp[List.getD,hk]
 rw[hq,List.replicate_succ,VD,e,show l.length-(k+1)=q by omega];simp
theorem Z25:(List.range 288).all (fun k=>Mb.getD k 0==(if k<144 then 8 else if k<256 then 9 else if k<280 then 7 else 8))=true:=by decide+kernel
theorem LQ {k:Nat}(h:k<288):Mb.getD k 0=if k<144 then 8 else if k<256 then 9 else if k<280 then 7 else 8:=by
 have:=WT.1 Z25 k (by simpa using h)
 simpa using this
theorem Z23:(List.range 32).all (fun k=>Ja.getD k 0==5)=true:=by decide+kernel
theorem P7 {k:Nat}(h:k<32):Ja.getD k 0=5:=by
 have:=WT.1 Z23 k (by simpa using h)
 simpa using this
theorem Rl:Good Mb:=Cn (by decide+kernel)
theorem Rk:Good Ja:=Cn (by decide+kernel)
theorem Pj:Mb.length=288:=by decide+kernel
theorem Ge:Ja.length=32:=by decide
theorem O5:(Tryz.prog.info? 247).map (·.size)=some 288:=by kernel_rfl
theorem KO:(Tryz.prog.info? 248).map (·.size)=some 32:=by kernel_rfl
theorem LM (w:World):Calls Tryz.prog 180 #[] w fun e w'=>e=.returned (.tuple #[.agg (iv Mb).toArray,.agg (iv Ja).toArray])/\Below w.heap.size w w':=by
 have hB0:Below w.heap.size w ((w.alloc (.cells (iv (List.replicate 288 0)).toArray 247)).alloc (.cells (iv (List.replicate 32 0)).toArray 248)):=((Below.refl w.heap.size w).alloc (VC _) _).alloc (by simp) _;have HB0:=Ab hB0;obtain⟨FA,hFA⟩:∃FA,Mb=FA:=⟨_,rfl⟩
 have hlA:=Pj;have hA:= @LQ;rw[hFA]at hlA;simp only[hFA]at hA;have HFA:=Ab hFA;clear hB0 hFA;go_enter Tryz.func180,Tryz.ntmps180
 go_wp2;go_loopw [4] (fun i wr=>∃k:Nat,k<=288/\i=.int .i64 (k:Int)/\Hid (ARow 247 wr w.heap.size (FA.take k++List.replicate (FA.length-k) 0)/\ARow 248 wr (w.heap.size+1) (List.replicate 32 0)/\Below w.heap.size w wr)) (fun i _=>288-(intOf i).toNat)
 case atStart=>
  refine⟨0,by decide,rfl,Ab ⟨?_, ?_,Aa HB0⟩⟩
  . rw[hlA];exact(Below.heap_alloc _ _ _ (by simp)).trans ((heap_alloc_new _ _).trans (by kernel_rfl))
  . have e:w.heap.size+1=(w.alloc (.cells (iv (List.replicate 288 0)).toArray 247)).heap.size:=by simp
    rw[e];exact(heap_alloc_new _ _).trans (by kernel_rfl)
 case round=>
  obtain⟨k,hk,rfl,hst⟩:=hrel
  by_cases hlt:k<288
  . obtain⟨s1,s2,s3⟩:=Aa hst;have hl1:(FA.take k++List.replicate (FA.length-k) 0).length=288:=by simp;omega
    have c:=s1.cell k (by omega);have f:=s1.frozen k;have HV:=hA hlt
    have HST:Hid (∀v:Int,v=FA.getD k 0->ARow 247 (wr.setCell ⟨w.heap.size,k,none⟩ (.int .i64 v)) w.heap.size (FA.take (k+1)++List.replicate (FA.length-(k+1)) 0)/\ARow 248 (wr.setCell ⟨w.heap.size,k,none⟩ (.int .i64 v)) (w.heap.size+1) (List.replicate 32 0)/\Below w.heap.size w (wr.setCell ⟨w.heap.size,k,none⟩ (.int .i64 v))):=by
     intro v hv;have hgr:=Ad wr w.heap.size k (.int .i64 v);refine⟨?_,s2.keep (hgr.block _ s2.lt (fun e=>by have:=VQ e;omega)),s3.grown hgr s3.size (fun j e=>by rw[<-VQ e];exact VC _)⟩;have:=s1.set k v
     rw[hv,Wb FA k (by omega)]at this;rw[hv];exact this
    have hkI:(k:Int)<288:=by omega
    clear hst s1 s2 s3 hl1 hA;generalize (FA.take k++List.replicate (FA.length-k) 0).getD k 0=old at c
    by_cases h1:k<144
    . rw[if_pos h1]at HV;have h1I:(k:Int)<144:=by omega
      have HF:=Ab (Aa HST 8 HV.symm);clear HST HV;go_wp2;go_roundw
      case rel=>exact⟨k+1,by omega,by go_num,HF⟩
      case measure=>simp[intOf];omega
    . rw[if_neg h1]at HV;have h1I:¬(k:Int)<144:=by omega
      by_cases h2:k<256
      . rw[if_pos h2]at HV;have h2I:(k:Int)<256:=by omega
        have HF:=Ab (Aa HST 9 HV.symm);clear HST HV;go_wp2;go_roundw
        case rel=>exact⟨k+1,by omega,by go_num,HF⟩
        case measure=>simp[intOf];omega
      . rw[if_neg h2]at HV;have h2I:¬(k:Int)<256:=by omega
        by_cases h3:k<280
        . rw[if_pos h3]at HV;have h3I:(k:Int)<280:=by omega
          have HF:=Ab (Aa HST 7 HV.symm);clear HST HV;go_wp2;go_roundw
          case rel=>exact⟨k+1,by omega,by go_num,HF⟩
          case measure=>simp[intOf];omega
        . rw[if_neg h3]at HV;have h3I:¬(k:Int)<280:=by omega
          have HF:=Ab (Aa HST 8 HV.symm);clear HST HV;go_wp2;go_roundw
          case rel=>exact⟨k+1,by omega,by go_num,HF⟩
          case measure=>simp[intOf];omega
  . obtain rfl:k=288:=by omega
    have HS:Hid (ARow 247 wr w.heap.size FA/\ARow 248 wr (w.heap.size+1) (List.replicate 32 0)/\Below w.heap.size w wr):=by
     have:=Aa hst
     rw[VP (by omega),hlA,XM,List.replicate_zero,WZ]at this;exact Ab this
    clear hst hA;generalize wr=wl at*;go_wp2;go_loopw [25] (fun i wr=>∃k:Nat,k<=32/\i=.int .i64 (k:Int)/\Hid (ARow 247 wr w.heap.size FA/\ARow 248 wr (w.heap.size+1) (Ja.take k++List.replicate (Ja.length-k) 0)/\Below w.heap.size w wr)) (fun i _=>32-(intOf i).toNat)
    case atStart=>exact⟨0,by decide,rfl,HS⟩
    case round=>
     obtain⟨k,hk,rfl,hst⟩:=hrel
     by_cases hlt:k<32
     . obtain⟨s1,s2,s3⟩:=Aa hst;have hl1:(Ja.take k++List.replicate (Ja.length-k) 0).length=32:=by simp[Ge];omega
       have c:=s2.cell k (by omega);have f:=s2.frozen k
       have HF:Hid (ARow 247 (wr.setCell ⟨w.heap.size+1,k,none⟩ (.int .i64 5)) w.heap.size FA/\ARow 248 (wr.setCell ⟨w.heap.size+1,k,none⟩ (.int .i64 5)) (w.heap.size+1) (Ja.take (k+1)++List.replicate (Ja.length-(k+1)) 0)/\Below w.heap.size w (wr.setCell ⟨w.heap.size+1,k,none⟩ (.int .i64 5))):=by
        have hgr:=Ad wr (w.heap.size+1) k (.int .i64 5);refine⟨s1.keep (hgr.block _ s1.lt (fun e=>by have:=VQ e;omega)), ?_,s3.grown hgr s3.size (fun j e=>by rw[<-VQ e];omega)⟩;have:=s2.set k 5
        rw[<-P7 hlt,Wb Ja k (by rw[Ge];exact hlt)]at this;rw[<-P7 hlt];exact this
       have hkI:(k:Int)<32:=by omega
       clear hst s1 s2 s3 hl1;generalize (Ja.take k++List.replicate (Ja.length-k) 0).getD k 0=old at c;go_wp2;go_roundw
       case rel=>exact⟨k+1,by omega,by go_num,HF⟩
       case measure=>simp[intOf];omega
     . obtain rfl:k=32:=by omega
       have hs0:=Aa hst;rw[VP (by rw[Ge];omega),Ge,XM]at hs0;simp only[List.replicate_zero,WZ]at hs0;obtain⟨hs,hf,hBw⟩:=hs0;have HB:=Ab hBw;clear hst HS hBw;have hlB:=Ge;obtain⟨ys,hys⟩:∃ys,Ja=ys:=⟨_,rfl⟩
       rw[hys]at hf hlB;have HYS:=Ab hys;clear hys;have hi1:(Tryz.prog.info? 247).map (·.size)=some (iv FA).length:=by rw[O5];simp[hlA]
       have hi2:(Tryz.prog.info? 248).map (·.size)=some (iv ys).length:=by rw[KO];simp[hlB]
       have hi1':(Tryz.prog.info? 247).map (·.size)=some (iv FA).toArray.size:=by rw[O5];simp[hlA]
       have hi2':(Tryz.prog.info? 248).map (·.size)=some (iv ys).toArray.size:=by rw[KO];simp[hlB]
       have hu1:=Tryz.underlying247;have hu2:=Tryz.underlying248;go_wp2;refine wp_region_held_drew (S:=fun w'=>ARow 247 w' w.heap.size FA/\ARow 248 w' (w.heap.size+1) ys) (by kernel_rfl) ⟨hs,hf⟩ (fun hHeld=> ?_);refine wpAnyH_take (i:=0) (oi:= {dst:=some 31,op:=.load 247 (.tmp 0),type:=247,pos:= "layout.go:54",after:= #[],guard:=none}) (v:=_) rfl (by kernel_rfl) (by kernel_rfl) (by kernel_rfl) (fun _ _ _ h=>h) (yieldsIf_load_mid (by rfl) _ _ rfl _ _ rfl _ _ (fun _ h=>h.1.range) hu1 rfl hi1) hHeld ?_;simp only[Act.put,VA,VD,VE];refine wpAnyH_take (i:=1) (oi:= {dst:=some 32,op:=.load 248 (.tmp 1),type:=248,pos:= "layout.go:54",after:= #[{on:=2,ground:=.gcOnly .lateStores}],guard:=none}) (v:=_) rfl (by kernel_rfl) (by kernel_rfl) (by kernel_rfl) (fun _ _ _ h=>h) (yieldsIf_load_mid (by rfl) _ _ rfl _ _ rfl _ _ (fun _ h=>h.2.range) hu2 rfl hi2) hHeld ?_;simp only[Act.put,VA,VD,VE];refine wpAnyH_ready (rs:= [2]) (by kernel_rfl) (by simp) (AllReadyH.cons rfl (fun K hK=> ?_) AllReadyH.nil);refine Dt rfl 247 (.tmp 0) (.tmp 31) rfl w.heap.size FA rfl rfl hHeld.1 hi1' ?_;simp only[Act.put];refine hK.out _ _ hHeld (fun hHeld1=> ?_);clear hK K hHeld;refine wpAnyH_ready (rs:= [3]) (by kernel_rfl) (by simp) (AllReadyH.cons rfl (fun K hK=> ?_) AllReadyH.nil);refine Dt rfl 248 (.tmp 1) (.tmp 32) rfl (w.heap.size+1) ys rfl rfl hHeld1.2 hi2' ?_;simp only[Act.put];refine hK.out _ _ hHeld1 (fun hHeld2=> ?_);clear hK K hHeld1;refine wpAnyH_done (by kernel_rfl) ?_ _;go_wp2;refine bodyPost_ret (v:=.tuple #[.agg (iv FA).toArray,.agg (iv ys).toArray]) ?_ rfl ⟨by rw[Aa HFA,Aa HYS],(Aa HB).drew⟩;exact Lf rfl _ _ w.heap.size (w.heap.size+1) _ _ rfl rfl (hHeld2.1.load hu1 rfl hi1') (hHeld2.2.load hu2 rfl hi2')
theorem Mt (w w1:World)(x y:Array Value)(T1 T2:TypeId)(FA FB:List Int)(hB:Below w.heap.size w w1)(hw:(w1.alloc (.cells x T1)).heap.size=w1.heap.size+1):
 ARow T1 ((((w1.alloc (.cells x T1)).alloc (.cells y T2)).setRow w1.heap.size (iv FA).toArray).setRow (w1.heap.size+1) (iv FB).toArray) w1.heap.size FA/\ARow T2 ((((w1.alloc (.cells x T1)).alloc (.cells y T2)).setRow w1.heap.size (iv FA).toArray).setRow (w1.heap.size+1) (iv FB).toArray) (w1.heap.size+1) FB/\Below w.heap.size w ((((w1.alloc (.cells x T1)).alloc (.cells y T2)).setRow w1.heap.size (iv FA).toArray).setRow (w1.heap.size+1) (iv FB).toArray):=by
 have h1:((w1.alloc (.cells x T1)).alloc (.cells y T2)).heap[w1.heap.size]? =some (.cells x T1 (0,0)):=(Below.heap_alloc _ _ _ (by simp)).trans (heap_alloc_new _ _);have h2:((w1.alloc (.cells x T1)).alloc (.cells y T2)).heap[w1.heap.size+1]? =some (.cells y T2 (0,0)):=by rw[<-hw];exact heap_alloc_new _ _
 refine⟨?_, ?_, ?_⟩
 . unfold ARow;rw[Go.setRow_other _ _ _ _ (by omega)];exact setRow_heap _ _ _ _ _ _ h1
 . unfold ARow;exact setRow_heap _ _ y _ _ _ ((Go.setRow_other _ _ _ _ (by omega)).trans h2)
 . have hz:=hB.size;exact Bl (Bl ((hB.alloc hz _).alloc (by simp;omega) _) (by omega) _) (by omega) _
def TI:List Int:= [16,17,18,0,8,7,9,6,10,5,11,4,12,3,13,2,14,1,15]
theorem TR:(Tryz.prog.info? 321).map (·.size)=some 19:=by kernel_rfl
theorem JC (w:World):Calls Tryz.prog 242 #[] w fun e w'=>e=.returned (.agg (iv TI).toArray)/\Below w.heap.size w w':=by
 have hsz:(iv TI).toArray.size=19:=by simp[TI]
 have hi1:(Tryz.prog.info? 321).map (·.size)=some (iv TI).toArray.size:=by rw[TR,hsz]
 obtain⟨OZ,hOZ⟩:∃OZ,TI=OZ:=⟨_,rfl⟩
 rw[hOZ]at hi1 hsz ⊢;have HZ:=Ab hOZ;clear hOZ;go_enter Tryz.func242,Tryz.ntmps242
 go_upto_region 1 with (fail)
 refine wp_region_lit ?_;refine wpList_build rfl 321 _ rfl (by kernel_rfl) ?_;generalize hV:(Program.built _ _ _).getD #[]=V;have hV2:V=(iv OZ).toArray:=by rw[<-hV,<-Aa HZ];kernel_rfl
 clear hV;subst hV2;simp only[Act.put];generalize hW:w.alloc _=W;have hA:W.heap[w.heap.size]? =some (.cells (iv (List.replicate 19 0)).toArray 321 (0,0)):=by rw[<-hW];exact(heap_alloc_new _ _).trans (by kernel_rfl)
 have hB:Below w.heap.size w W:=by rw[<-hW];exact(Below.refl w.heap.size w).alloc (VC _) _
 clear hW;refine wpList_store_row rfl 321 (.tmp 0) (.tmp 1) rfl w.heap.size (iv OZ).toArray rfl rfl 321 _ hA hi1 (by rw[hsz];simp) (Eb OZ) ?_;refine wpList_nil ?_;have HF:Hid (Below w.heap.size w (W.setRow w.heap.size (iv OZ).toArray)/\ARow 321 (W.setRow w.heap.size (iv OZ).toArray) w.heap.size OZ):=Ab ⟨Bl hB (VC _) _,setRow_heap _ _ _ _ _ _ hA⟩;clear hA hB;go_wp2;refine bodyPost_ret (v:=.agg (iv OZ).toArray) ?_ rfl ⟨rfl,(Aa HF).1⟩;exact results_cell_row rfl _ _ _ _ _ _ _ rfl (Aa HF).2 Tryz.underlying321 rfl hi1
end Go.Proofs.YtleocpdblhbimaaGreatDoor
