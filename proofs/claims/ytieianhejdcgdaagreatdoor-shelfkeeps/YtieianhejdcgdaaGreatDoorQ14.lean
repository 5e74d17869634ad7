import Derived.Laws.Tables
import Derived.Laws.Rows
import Derived.Laws.ResultCell
import Derived.Laws.CopyRow
import Derived.Deep.RegionHeld3
import Derived.Deep.WholeRow
import Derived.Deep.DeepCutAuto
import Derived.Test.YtieianhejdcgdaaGreatDoorQ13
set_option maxHeartbeats 4000000
namespace Go.Proofs.YtieianhejdcgdaaGreatDoor
open Go.RowKit
set_option linter.unusedVariables false
set_option maxRecDepth 100000
def ARow (T:TypeId)(w:World)(g:Nat)(xs:List Int):Prop:=w.heap[g]? =some (.cells (iv xs).toArray T (0,0))
theorem ARow.lt {T:TypeId}{w:World}{g:Nat}{xs:List Int}(h:ARow T w g xs):g<w.heap.size:=(VG.1 h).1
theorem Z6m (xs:List Int)(j:Nat)(hj:j<xs.length):(iv xs).toArray[j]? =some (.int .i64 (xs.getD j 0)):=by simp[iv,List.getD,hj]
theorem ARow.cell {T:TypeId}{w:World}{g:Nat}{xs:List Int}(h:ARow T w g xs)(j:Nat)(hj:j<xs.length):w.cell? ⟨g,j,none⟩=some (.int .i64 (xs.getD j 0)):=(Ac h).trans (Z6m xs j hj)
theorem ARow.frozen {T:TypeId}{w:World}{g:Nat}{xs:List Int}(h:ARow T w g xs)(j:Nat):w.frozen? ⟨g,j,none⟩=false:=frozen_of_row w g j _ _ h
theorem ARow.row {T:TypeId}{w:World}{g:Nat}{xs:List Int}(h:ARow T w g xs):Row .i64 w g 0 xs:=fun j hj=>by rw[WI];exact h.cell j hj
theorem ARow.keep {T:TypeId}{w w':World}{g:Nat}{xs:List Int}(h:ARow T w g xs)(hk:w'.heap[g]? =w.heap[g]?):ARow T w' g xs:=hk.trans h
theorem ARow.set {T:TypeId}{w:World}{g:Nat}{xs:List Int}(h:ARow T w g xs)(i:Nat)(v:Int):ARow T (w.setCell ⟨g,i,none⟩ (.int .i64 v)) g (xs.set i v):=by
 unfold ARow;rw[heap_setCell_same w g i _ _ _ h];simp[iv,List.map_set]
theorem Lc {fn:Func}{p u:Tmp}{ty tz:TypeId}(h:fn.results= #[.cell p ty,.cell u tz])(tmps:Array Value)(w:World)(g1 g2:Nat)(v1 v2:Value)
 (hp:tmps.getD p undef=.pointer (some ⟨g1,0,none⟩)) (hu:tmps.getD u undef=.pointer (some ⟨g2,0,none⟩)) (h1:(loadVar ty ⟨g1,0,none⟩).run Tryz.prog w=.ok v1 w) (h2:(loadVar tz ⟨g2,0,none⟩).run Tryz.prog w=.ok v2 w):
 (results fn tmps).run Tryz.prog w=.ok (.tuple #[v1,v2]) w:=by
 have hp':tmps[p]?.getD undef=.pointer (some ⟨g1,0,none⟩):=by simpa using hp
 have hu':tmps[u]?.getD undef=.pointer (some ⟨g2,0,none⟩):=by simpa using hu
 simp[results,h,hp',hu',asAddr,h1,h2]
theorem ARow.range {T:TypeId}{w:World}{g:Nat}{xs:List Int}(h:ARow T w g xs):w.rangeAt g 0 (iv xs):=fun j v hv=>by
 rw[WI];exact(Ac h).trans (by simpa using hv)
theorem Cr (xs:List Int):(iv xs).toArray.all (·.oneCell')=true:=by
 simp[iv]
 intro x hx;rfl
theorem Ee {ops:Array Oper}{o:Oper}{a:Act}{W:World}{K:Act->World->Prop}{Q:Exit->Act->World->Prop}{E:Prop}(hgd:o.guard=none)(T:TypeId)(x y:Operand)(ho:o.op=.store T x y)
 (g:Nat) (xs:List Int) (hx:a.eval x=.pointer (some ⟨g,0,none⟩)) (hy:a.eval y=.agg (iv xs).toArray) (hA:ARow T W g xs) (hi:(Tryz.prog.info? T).map (·.size)=some (iv xs).toArray.size) (h:K (a.put o.dst undef) W):if Region.wanted o (yielded ops a.tmps)=true then Oper.wp Tryz.prog o a W K Q else E:=by
 have e:Region.wanted o (yielded ops a.tmps)=true:=by unfold Region.wanted;rw[hgd]
 rw[if_pos e];refine wp_store_row T x y ho g _ hx hy T _ hA hi rfl (Cr xs) ?_;rw[setRow_self W g _ T (0,0) hA];exact h
theorem ARow.load {T:TypeId}{w:World}{g:Nat}{xs:List Int}(h:ARow T w g xs){d:TypeDesc}(hu:Tryz.prog.underlying T=some d)(hd:(match d with| .struct _| .array _ _=>true|_=>false)=true)(hi:(Tryz.prog.info? T).map (·.size)=some (iv xs).toArray.size):(loadVar T ⟨g,0,none⟩).run Tryz.prog w=.ok (.agg (iv xs).toArray) w:=
 run_loadVar_row w g T T _ (0,0) d h hu (by cases d<;>first|rfl|exact hd) hi
theorem Wm (l:List Int)(k:Nat)(hk:k<l.length):(l.take k++List.replicate (l.length-k) 0).set k (l.getD k 0)=l.take (k+1)++List.replicate (l.length-(k+1)) 0:=by
 have h1:(l.take k).length=k:=by simp;omega
 rw[List.set_append_right _ _ (by omega),h1,XK];obtain⟨q,hq⟩:∃q,l.length-k=q+1:=⟨l.length-k-1,by omega⟩
 have e:l.take (k+1)=l.take k++ [l.getD k 0]:=by rw[XH];simp[List.getD,hk]
 rw[hq,YV,VD,e,show l.length-(k+1)=q by omega];simp
theorem Z3l:(List.range 288).all (fun k=>Mn.getD k 0==(if k<144 then 8 else if k<256 then 9 else if k<280 then 7 else 8))=true:=by decide+kernel
theorem NP {k:Nat}(h:k<288):Mn.getD k 0=if k<144 then 8 else if k<256 then 9 else if k<280 then 7 else 8:=by
 have:=WS.1 Z3l k (by simpa using h)
 simpa using this
theorem Z3j:(List.range 32).all (fun k=>Ic.getD k 0==5)=true:=by decide+kernel
theorem U5 {k:Nat}(h:k<32):Ic.getD k 0=5:=by
 have:=WS.1 Z3j k (by simpa using h)
 simpa using this
theorem Ly:Good Mn:=Ci (by decide+kernel)
theorem Lw:Good Ic:=Ci (by decide+kernel)
theorem Lx:Mn.length=288:=by decide+kernel
theorem Fg:Ic.length=32:=by decide
theorem Xf:(Tryz.prog.info? 251).map (·.size)=some 288:=by kernel_rfl
theorem BL:(Tryz.prog.info? 252).map (·.size)=some 32:=by kernel_rfl
theorem F8 (w:World):Calls Tryz.prog 188 #[] w fun e w'=>e=.returned (.tuple #[.agg (iv Mn).toArray,.agg (iv Ic).toArray])/\Below w.heap.size w w':=by
 have hB0:Below w.heap.size w ((w.alloc (.cells (iv (List.replicate 288 0)).toArray 251)).alloc (.cells (iv (List.replicate 32 0)).toArray 252)):=((Below.refl w.heap.size w).alloc (VC _) _).alloc (by simp) _;have HB0:=Ab hB0;obtain⟨FA,hFA⟩:∃FA,Mn=FA:=⟨_,rfl⟩
 have hlA:=Lx;have hA:= @NP;rw[hFA]at hlA;simp only[hFA]at hA;have HFA:=Ab hFA;clear hB0 hFA;go_enter Tryz.func188,Tryz.ntmps188
 go_wp2;go_loopw [4] (fun i wr=>∃k:Nat,k<=288/\i=.int .i64 (k:Int)/\Hid (ARow 251 wr w.heap.size (FA.take k++List.replicate (FA.length-k) 0)/\ARow 252 wr (w.heap.size+1) (List.replicate 32 0)/\Below w.heap.size w wr)) (fun i _=>288-(intOf i).toNat)
 case atStart=>
  refine⟨0,by decide,rfl,Ab ⟨?_, ?_,Aa HB0⟩⟩
  . rw[hlA];exact(Below.heap_alloc _ _ _ (by simp)).trans ((heap_alloc_new _ _).trans (by kernel_rfl))
  . have e:w.heap.size+1=(w.alloc (.cells (iv (List.replicate 288 0)).toArray 251)).heap.size:=by simp
    rw[e];exact(heap_alloc_new _ _).trans (by kernel_rfl)
 case round=>
  obtain⟨k,hk,rfl,hst⟩:=hrel
  by_cases hlt:k<288
  . obtain⟨s1,s2,s3⟩:=Aa hst;have hl1:(FA.take k++List.replicate (FA.length-k) 0).length=288:=by simp;omega
    have c:=s1.cell k (by omega);have f:=s1.frozen k;have HV:=hA hlt
    have HST:Hid (∀v:Int,v=FA.getD k 0->ARow 251 (wr.setCell ⟨w.heap.size,k,none⟩ (.int .i64 v)) w.heap.size (FA.take (k+1)++List.replicate (FA.length-(k+1)) 0)/\ARow 252 (wr.setCell ⟨w.heap.size,k,none⟩ (.int .i64 v)) (w.heap.size+1) (List.replicate 32 0)/\Below w.heap.size w (wr.setCell ⟨w.heap.size,k,none⟩ (.int .i64 v))):=by
     intro v hv;have hgr:=Ad wr w.heap.size k (.int .i64 v);refine⟨?_,s2.keep (hgr.block _ s2.lt (fun e=>by have:=VN e;omega)),s3.grown hgr s3.size (fun j e=>by rw[<-VN e];exact VC _)⟩;have:=s1.set k v
     rw[hv,Wm FA k (by omega)]at this;rw[hv];exact this
    have hkI:(k:Int)<288:=by omega
    clear hst s1 s2 s3 hl1 hA;generalize (FA.take k++List.replicate (FA.length-k) 0).getD k 0=old at c
    by_cases h1:k<144
    . rw[if_pos h1]at HV;have h1I:(k:Int)<144:=by omega
      have HF:=Ab (Aa HST 8 HV.symm);clear HST HV;go_wp2;go_roundw
      case rel=>exact⟨k+1,by omega,by go_num,HF⟩
      case measure=>simp[intOf];omega
    . rw[if_neg h1]at HV;have h1I:¬(k:Int)<144:=by omega
      by_cases h2:k<256
      . rw[if_pos h2]at HV;have h2I:(k:Int)<256:=by omega
        have HF:=Ab (Aa HST 9 HV.symm);clear HST HV;go_wp2;go_roundw
        case rel=>exact⟨k+1,by omega,by go_num,HF⟩
        case measure=>simp[intOf];omega
      . rw[if_neg h2]at HV;have h2I:¬(k:Int)<256:=by omega
        by_cases h3:k<280
        . rw[if_pos h3]at HV;have h3I:(k:Int)<280:=by omega
          have HF:=Ab (Aa HST 7 HV.symm);clear HST HV;go_wp2;go_roundw
          case rel=>exact⟨k+1,by omega,by go_num,HF⟩
          case measure=>simp[intOf];omega
        . rw[if_neg h3]at HV;have h3I:¬(k:Int)<280:=by omega
          have HF:=Ab (Aa HST 8 HV.symm);clear HST HV;go_wp2;go_roundw
          case rel=>exact⟨k+1,by omega,by go_num,HF⟩
          case measure=>simp[intOf];omega
  . obtain rfl:k=288:=by omega
    have HS:Hid (ARow 251 wr w.heap.size FA/\ARow 252 wr (w.heap.size+1) (List.replicate 32 0)/\Below w.heap.size w wr):=by
     have:=Aa hst
     rw[VP (by omega),hlA,XK,YX,WO]at this;exact Ab this
    clear hst hA;generalize wr=wl at*;go_wp2;go_loopw [25] (fun i wr=>∃k:Nat,k<=32/\i=.int .i64 (k:Int)/\Hid (ARow 251 wr w.heap.size FA/\ARow 252 wr (w.heap.size+1) (Ic.take k++List.replicate (Ic.length-k) 0)/\Below w.heap.size w wr)) (fun i _=>32-(intOf i).toNat)
    case atStart=>exact⟨0,by decide,rfl,HS⟩
    case round=>
     obtain⟨k,hk,rfl,hst⟩:=hrel
     by_cases hlt:k<32
     . obtain⟨s1,s2,s3⟩:=Aa hst;have hl1:(Ic.take k++List.replicate (Ic.length-k) 0).length=32:=by simp[Fg];omega
       have c:=s2.cell k (by omega);have f:=s2.frozen k
       have HF:Hid (ARow 251 (wr.setCell ⟨w.heap.size+1,k,none⟩ (.int .i64 5)) w.heap.size FA/\ARow 252 (wr.setCell ⟨w.heap.size+1,k,none⟩ (.int .i64 5)) (w.heap.size+1) (Ic.take (k+1)++List.replicate (Ic.length-(k+1)) 0)/\Below w.heap.size w (wr.setCell ⟨w.heap.size+1,k,none⟩ (.int .i64 5))):=by
        have hgr:=Ad wr (w.heap.size+1) k (.int .i64 5);refine⟨s1.keep (hgr.block _ s1.lt (fun e=>by have:=VN e;omega)), ?_,s3.grown hgr s3.size (fun j e=>by rw[<-VN e];omega)⟩;have:=s2.set k 5
        rw[<-U5 hlt,Wm Ic k (by rw[Fg];exact hlt)]at this;rw[<-U5 hlt];exact this
       have hkI:(k:Int)<32:=by omega
       clear hst s1 s2 s3 hl1;generalize (Ic.take k++List.replicate (Ic.length-k) 0).getD k 0=old at c;go_wp2;go_roundw
       case rel=>exact⟨k+1,by omega,by go_num,HF⟩
       case measure=>simp[intOf];omega
     . obtain rfl:k=32:=by omega
       have hs0:=Aa hst;rw[VP (by rw[Fg];omega),Fg,XK]at hs0;simp only[YX,WO]at hs0;obtain⟨hs,hf,hBw⟩:=hs0;have HB:=Ab hBw;clear hst HS hBw;have hlB:=Fg;obtain⟨ys,hys⟩:∃ys,Ic=ys:=⟨_,rfl⟩
       rw[hys]at hf hlB;have HYS:=Ab hys;clear hys;have hi1:(Tryz.prog.info? 251).map (·.size)=some (iv FA).length:=by rw[Xf];simp[hlA]
       have hi2:(Tryz.prog.info? 252).map (·.size)=some (iv ys).length:=by rw[BL];simp[hlB]
       have hi1':(Tryz.prog.info? 251).map (·.size)=some (iv FA).toArray.size:=by rw[Xf];simp[hlA]
       have hi2':(Tryz.prog.info? 252).map (·.size)=some (iv ys).toArray.size:=by rw[BL];simp[hlB]
       have hu1:=Tryz.underlying251;have hu2:=Tryz.underlying252;go_wp2;refine wp_region_held_drew (S:=fun w'=>ARow 251 w' w.heap.size FA/\ARow 252 w' (w.heap.size+1) ys) (by kernel_rfl) ⟨hs,hf⟩ (fun hHeld=> ?_);refine wpAnyH_take (i:=0) (oi:= {dst:=some 31,op:=.load 251 (.tmp 0),type:=251,pos:= "layout.go:54",after:= #[],guard:=none}) (v:=_) rfl (by kernel_rfl) (by kernel_rfl) (by kernel_rfl) (fun _ _ _ h=>h) (yieldsIf_load_mid (by rfl) _ _ rfl _ _ rfl _ _ (fun _ h=>h.1.range) hu1 rfl hi1) hHeld ?_;simp only[Act.put,VA,VD,VE];refine wpAnyH_take (i:=1) (oi:= {dst:=some 32,op:=.load 252 (.tmp 1),type:=252,pos:= "layout.go:54",after:= #[{on:=2,ground:=.gcOnly .lateStores}],guard:=none}) (v:=_) rfl (by kernel_rfl) (by kernel_rfl) (by kernel_rfl) (fun _ _ _ h=>h) (yieldsIf_load_mid (by rfl) _ _ rfl _ _ rfl _ _ (fun _ h=>h.2.range) hu2 rfl hi2) hHeld ?_;simp only[Act.put,VA,VD,VE];refine wpAnyH_ready (rs:= [2]) (by kernel_rfl) (by simp) (AllReadyH.cons rfl (fun K hK=> ?_) AllReadyH.nil);refine Ee rfl 251 (.tmp 0) (.tmp 31) rfl w.heap.size FA rfl rfl hHeld.1 hi1' ?_;simp only[Act.put];refine hK.out _ _ hHeld (fun hHeld1=> ?_);clear hK K hHeld;refine wpAnyH_ready (rs:= [3]) (by kernel_rfl) (by simp) (AllReadyH.cons rfl (fun K hK=> ?_) AllReadyH.nil);refine Ee rfl 252 (.tmp 1) (.tmp 32) rfl (w.heap.size+1) ys rfl rfl hHeld1.2 hi2' ?_;simp only[Act.put];refine hK.out _ _ hHeld1 (fun hHeld2=> ?_);clear hK K hHeld1;refine wpAnyH_done (by kernel_rfl) ?_ _;go_wp2;refine bodyPost_ret (v:=.tuple #[.agg (iv FA).toArray,.agg (iv ys).toArray]) ?_ rfl ⟨by rw[Aa HFA,Aa HYS],(Aa HB).drew⟩;exact Lc rfl _ _ w.heap.size (w.heap.size+1) _ _ rfl rfl (hHeld2.1.load hu1 rfl hi1') (hHeld2.2.load hu2 rfl hi2')
theorem Jh (w w1:World)(x y:Array Value)(T1 T2:TypeId)(FA FB:List Int)(hB:Below w.heap.size w w1)(hw:(w1.alloc (.cells x T1)).heap.size=w1.heap.size+1):
 ARow T1 ((((w1.alloc (.cells x T1)).alloc (.cells y T2)).setRow w1.heap.size (iv FA).toArray).setRow (w1.heap.size+1) (iv FB).toArray) w1.heap.size FA/\ARow T2 ((((w1.alloc (.cells x T1)).alloc (.cells y T2)).setRow w1.heap.size (iv FA).toArray).setRow (w1.heap.size+1) (iv FB).toArray) (w1.heap.size+1) FB/\Below w.heap.size w ((((w1.alloc (.cells x T1)).alloc (.cells y T2)).setRow w1.heap.size (iv FA).toArray).setRow (w1.heap.size+1) (iv FB).toArray):=by
 have h1:((w1.alloc (.cells x T1)).alloc (.cells y T2)).heap[w1.heap.size]? =some (.cells x T1 (0,0)):=(Below.heap_alloc _ _ _ (by simp)).trans (heap_alloc_new _ _);have h2:((w1.alloc (.cells x T1)).alloc (.cells y T2)).heap[w1.heap.size+1]? =some (.cells y T2 (0,0)):=by rw[<-hw];exact heap_alloc_new _ _
 refine⟨?_, ?_, ?_⟩
 . unfold ARow;rw[Go.setRow_other _ _ _ _ (by omega)];exact setRow_heap _ _ _ _ _ _ h1
 . unfold ARow;exact setRow_heap _ _ y _ _ _ ((Go.setRow_other _ _ _ _ (by omega)).trans h2)
 . have hz:=hB.size;exact Av (Av ((hB.alloc hz _).alloc (by simp;omega) _) (by omega) _) (by omega) _
def PZ:List Int:= [16,17,18,0,8,7,9,6,10,5,11,4,12,3,13,2,14,1,15]
theorem MU:(Tryz.prog.info? 325).map (·.size)=some 19:=by kernel_rfl
theorem B7 (w:World):Calls Tryz.prog 250 #[] w fun e w'=>e=.returned (.agg (iv PZ).toArray)/\Below w.heap.size w w':=by
 have hsz:(iv PZ).toArray.size=19:=by simp[PZ]
 have hi1:(Tryz.prog.info? 325).map (·.size)=some (iv PZ).toArray.size:=by rw[MU,hsz]
 obtain⟨OZ,hOZ⟩:∃OZ,PZ=OZ:=⟨_,rfl⟩
 rw[hOZ]at hi1 hsz ⊢;have HZ:=Ab hOZ;clear hOZ;go_enter Tryz.func250,Tryz.ntmps250
 go_upto_region 1 with (fail)
 refine wp_region_lit ?_;refine wpList_build rfl 325 _ rfl (by kernel_rfl) ?_;generalize hV:(Program.built _ _ _).getD #[]=V;have hV2:V=(iv OZ).toArray:=by rw[<-hV,<-Aa HZ];kernel_rfl
 clear hV;subst hV2;simp only[Act.put];generalize hW:w.alloc _=W;have hA:W.heap[w.heap.size]? =some (.cells (iv (List.replicate 19 0)).toArray 325 (0,0)):=by rw[<-hW];exact(heap_alloc_new _ _).trans (by kernel_rfl)
 have hB:Below w.heap.size w W:=by rw[<-hW];exact(Below.refl w.heap.size w).alloc (VC _) _
 clear hW;refine wpList_store_row rfl 325 (.tmp 0) (.tmp 1) rfl w.heap.size (iv OZ).toArray rfl rfl 325 _ hA hi1 (by rw[hsz];simp) (Cr OZ) ?_;refine wpList_nil ?_;have HF:Hid (Below w.heap.size w (W.setRow w.heap.size (iv OZ).toArray)/\ARow 325 (W.setRow w.heap.size (iv OZ).toArray) w.heap.size OZ):=Ab ⟨Av hB (VC _) _,setRow_heap _ _ _ _ _ _ hA⟩;clear hA hB;go_wp2;refine bodyPost_ret (v:=.agg (iv OZ).toArray) ?_ rfl ⟨rfl,(Aa HF).1⟩;exact results_cell_row rfl _ _ _ _ _ _ _ rfl (Aa HF).2 Tryz.underlying325 rfl hi1
end Go.Proofs.YtieianhejdcgdaaGreatDoor
namespace Go.Proofs.YtieianhejdcgdaaGreatDoor
open Go.RowKit
set_option linter.unusedVariables false
set_option maxRecDepth 100000
set_option linter.unusedSimpArgs false
theorem Z6f:∀q,q<19->PZ.getD q 0=((ord19.getD q 0:Nat):Int)/\ord19.getD q 0<19:=by decide
theorem SC (c i:Nat)(h:i<c)(hc:c<=19):(ord19.take c).drop i=ord19.getD i 0::(ord19.take c).drop (i+1):=by
 have hl:ord19.length=19:=rfl;have hi:i<(ord19.take c).length:=by rw[VL,hl];omega
 rw[XD hi,ZG]
 congr 1
 rw[List.getD,VR (by omega)];rfl
theorem Py (row:List Bool):∀(ks:List Nat) (s:List Int) (u:US),u.e≠0->(usmall row ks s u).2=u
 | [],s,u,h=>rfl
 |k::r,s,u,h=>by
  rw[usmall,Ff row 3 u h];exact Py row r _ u h
def Z6a (No:Nat->Prop)(B:Nat)(w:World)(b:Nat)(R f1 f2:Value)(S:List Int)(us:US)(e:Ending)(w':World):Prop:=
 (us.e≠0/\e=Flt us.e/\Bl No B w w')\/ (us.e=0/\errL S≠0/\e=Flt (errL S)/\Bl No B w w')\/ (us.e=0/\errL S=0/\Rk No B w b R f1 f2 us w'/\∃gr gm mb nn,e=.returned (DV gr gm)/\w.heap.size<=gr/\w.heap.size<=gm/\w.heap.size<=mb/\mb<w'.heap.size/\DIs w' gr gm mb nn b S)
theorem Ng (No:Nat->Prop)(B b:Nat)(a:Option Addr)(n cap:Nat)(bs:List Nat)(f1 f2:Value)(u:US)(w:World)(h:IIs No B w b (.slice a n cap) f1 f2 u)(hR:Rd w No a n bs)(hp:u.p<=8*n)(he:u.e=0)(hNo:∀g,w.heap.size<=g->¬No g)(c:Nat)(hc:c<=19)(S:List Int)(us:US)(hS:Hid (usmall (rowB bs n) (ord19.take c) (List.replicate 19 0) u=(S,us))):
 Calls Tryz.prog 280 #[.pointer (some ⟨b,0,none⟩),.int .i64 (c:Int)] w fun e w'=>Z6a No B w b (.slice a n cap) f1 f2 S us e w':=by
 have hrl:=Ag bs n;have hbl:=h.lt;have hbB:=h.base;obtain⟨N,hN⟩:∃N,w.heap.size=N:=⟨_,rfl⟩
 have HK0:=Ab (Rk.refl h);have HR:=Ab hR;have HPE:=Ab (And.intro hp he);have HNo:=Ab hNo;obtain⟨OZ,hOZ⟩:∃OZ,PZ=OZ:=⟨_,rfl⟩
 have HOZ:=Ab hOZ;have HOR:=Ab (fun W=>by have:=B7 W;rw[hOZ]at this;exact this);have hozl:OZ.length=19:=by rw[<-hOZ];rfl
 have hiO:(Tryz.prog.info? 325).map (·.size)=some (iv OZ).toArray.size:=by rw[MU];simp[hozl]
 clear h hR hp he hOZ hNo;go_enter Tryz.func280,Tryz.ntmps280
 go_wp2_with fail
 refine(Aa HOR _).mono ?_;rintro e wB ⟨rfl,hBB⟩
 have A0:ARow 325 wB N (List.replicate 19 0):=by
  rw[<-hN];exact(hBB.block _ (by simp)).trans ((heap_alloc_new _ _).trans (by kernel_rfl))
 have B0:Below N w wB:=by
  rw[<-hN];exact((Below.refl w.heap.size w).alloc (VC _) _).trans (hBB.mono (by simp))
 have hzB:=hBB.size;simp only[World.size_alloc]at hzB;have A1:(wB.alloc (.cells (iv (List.replicate 19 0)).toArray 325)).heap[wB.heap.size]? =some (.cells (iv (List.replicate 19 0)).toArray 325 (0,0)):=heap_alloc_new _ _;have HA1:=Ab A1;have HA0:=Ab A0;have HB0:=Ab B0;clear A1 hBB A0 B0;go_upto_region 3 with (refine wpList_store_row rfl 325 (.tmp 6) (.tmp 8) rfl wB.heap.size _ rfl rfl 325 (iv (List.replicate 19 0)).toArray (Aa HA1) hiO (by simp[hozl]) (Cr OZ) ?_)
 simp only[Act.put];generalize hWC:World.setRow (World.alloc _ _) _ _=wC;obtain⟨go,hgo⟩:∃go,wB.heap.size=go:=⟨_,rfl⟩
 have tO:ARow 325 wC go OZ:=by rw[<-hWC,<-hgo];exact setRow_heap _ _ _ _ _ _ (Aa HA1)
 have tB:Below N w wC:=by rw[<-hWC];exact Av ((Aa HB0).alloc (by omega) _) (by omega) _
 have tA:ARow 325 wC N (List.replicate 19 0):=(Aa HA0).keep (by rw[<-hWC,Go.setRow_other _ _ _ _ (by omega)];exact Below.heap_alloc _ _ _ (by omega));have hzC:go<wC.heap.size:=by rw[<-hWC,<-hgo];simp
 have tK:Rk No B w b (.slice a n cap) f1 f2 u wC:=(Aa HK0).past (by rw[hN];exact tB)
 try rw[hgo]
 try rw[hN]
 have hNg:N<go:=by omega
 have TO:=Ab tO;have TA:=Ab tA;have TK:=Ab tK;have HRW:Hid (∀wr,Bl No B w wr->Rd wr (NJ No w.heap.size) a n bs):=Ab (fun wr hb=>((Aa HR).keep hb.below.size hb.kp).wide (fun _ h=>.inl h));have HNN:Hid (∀g,N<=g->NJ No w.heap.size g):=Ab (fun g hg=>.inr (by omega));clear hWC hgo tO tB tA tK HA1 HA0 HB0 HR HK0 HOR;go_wp2;go_loopw [10] (fun v10 wr=>∃(i:Nat) (s:List Int) (x:US),i<=c/\v10=.int .i64 (i:Int)/\s.length=19/\Hid (ARow 325 wr N s)/\Hid (ARow 325 wr go OZ)/\Hid (Rk No B w b (.slice a n cap) f1 f2 x wr)/\Hid (x.p<=8*n/\x.e=0)/\Hid (usmall (rowB bs n) ((ord19.take c).drop i) s x=(S,us))) (fun v10 _=>c-(intOf v10).toNat)
 case atStart=>exact⟨0,List.replicate 19 0,u,VM _,rfl,by simp,TA,TO,TK,HPE,hS⟩
 case round=>
  obtain⟨i,s,x,hi,rfl,hsl,hA,hO,hK,hpe,hSm⟩:=hrel
  by_cases hlt:i<c
  . obtain⟨o1,o2⟩:=Z6f i (by omega);obtain⟨k,hk⟩:∃k,ord19.getD i 0=k:=⟨_,rfl⟩
    rw[hk]at o1 o2;have hst:=Aa hSm;rw[SC c i hlt hc,hk,usmall]at hst;obtain⟨r,v,hr⟩:∃r v,uget (rowB bs n) 3 x=(r,v):=⟨_,_,rfl⟩
    rw[hr]at hst;have HST:Hid (usmall (rowB bs n) ((ord19.take c).drop (i+1)) (s.set k (r:Int)) v=(S,us)):=Ab hst;obtain⟨hxp,hxe⟩:=Aa hpe;have hIs:=(Aa hK).is;have hRr:=Aa HRW wr (Aa hK).bl;have hNum:=Ab (fun q=>Dt (NJ No w.heap.size) B b a n cap 3 bs f1 f2 x (wr.drewN q) (hIs.grown ⟨rfl,rfl,rfl,VC _,fun _ _ _=>rfl⟩) (hRr.keep (VC _) (Kp.refl _ _)) hxp hxe (by decide) r v (Ab hr));have hv8:v.p<=8*n:=by have:=Gp (rowB bs n) 3 x (by rw[hrl];exact hxp);rw[hr,hrl]at this;exact this
    have cO:wr.cell? ⟨go,i,none⟩=some (.int .i64 (k:Int)):=by
     have:=(Aa hO).cell i (by omega)
     rw[<-Aa HOZ,o1]at this;exact this
    have hgl:=(Aa hO).lt;have hAl:=(Aa hA).lt;have hiI:(i:Int)<(c:Int):=by omega
    have hi19:(i:Int)<19:=by omega
    have hk19:(k:Int)<19:=by omega
    have HOR2:=Ab o1;have hsz:=(Aa hK).bl.below.size;clear hst hr hIs hRr o1 hk
    by_cases h0:v.e=0
    . have HN:Hid (∀q,Calls Tryz.prog 238 #[.pointer (some ⟨b,0,none⟩),.int .i64 3] (wr.drewN q) fun e w'=>e=.returned (.int .i64 (r:Int))/\w'.cell? ⟨go,i,none⟩=some (.int .i64 (k:Int))/\w'.cell? ⟨N,k,none⟩=some (.int .i64 (s.getD k 0))/\w'.frozen? ⟨N,k,none⟩=false/\Hid (∀y,ARow 325 (w'.setCell ⟨N,k,none⟩ (.int .i64 y)) N (s.set k y)/\ARow 325 (w'.setCell ⟨N,k,none⟩ (.int .i64 y)) go OZ/\Rk No B w b (.slice a n cap) f1 f2 v (w'.setCell ⟨N,k,none⟩ (.int .i64 y)))):=Ab (fun q=>(Aa hNum q).mono (fun e w' hg=>by
       rcases hg with ⟨_,e1,e2⟩|⟨e0,_⟩
       . have kA:ARow 325 w' N s:=(Aa hA).keep (e2.kp N hAl (Aa HNN N (VC _)));have kO:ARow 325 w' go OZ:=(Aa hO).keep (e2.kp go hgl (Aa HNN go (by omega)));refine⟨e1, ?_,kA.cell k (by omega),kA.frozen k,Ab (fun y=>⟨kA.set k y,kO.keep ((Ad w' N k _).block _ kO.lt (fun e=>by have:=VN e;omega)), ?_⟩)⟩
         . have:=kO.cell i (by omega)
           rw[<-Aa HOZ,Aa HOR2]at this;exact this
         . have k2:=((Aa hK).drewN q).num e2;have hgr:=Ad w' N k (.int .i64 y);refine⟨?_,k2.bl.trans ⟨(Below.refl B w').grown hgr (VX k2.is.base (YU k2.is.lt)) (fun g e=>by cases e;omega),fun g hg hn=>hgr.block g hg (fun e=> ?_)⟩⟩
           . obtain⟨ov,kv,d1,d2,d3,d4,d5,d6⟩:=k2.is.ex
             have hx:∀z:Value,(∀g,z.ownBlock=some g->¬NJ No w.heap.size g)->∀g,z.ownBlock=some g->(w'.setCell ⟨N,k,none⟩ (.int .i64 y)).heap[g]? =w'.heap[g]? :=fun z hz g hg=>by
              have hlt2:g<w'.heap.size\/w'.heap.size<=g:=by omega
              rcases hlt2 with h1|h1
              . exact hgr.block g h1 (fun e=>hz g hg (.inr (by have:=VN e;omega)))
              . exact absurd (.inr (by have:=k2.bl.below.size;omega)) (hz g hg)
             exact⟨k2.is.base,k2.is.no,ov,kv,(hgr.block b k2.is.lt (fun e=>by have:=VN e;omega)).trans d1,Ar d2 (hx ov d5),Ar d3 (hx kv d6),d4,d5,d6⟩
           . have:=VN e
             exact Aa HNo g (by omega) hn
       . exact absurd h0 e0))
      clear hNum;go_wp2;go_region_with (go_at_call 238;refine(Aa HN _).mono ?_;rintro e w4 ⟨rfl,c4,cN,fN,HF⟩)
      all_goals
       go_wp2;go_roundw
       case rel=>exact⟨i+1,s.set k (r:Int),v,by omega,by go_num,by rw[YA];exact hsl,Ab (Aa HF _).1,Ab (Aa HF _).2.1,Ab (Aa HF _).2.2,Ab ⟨hv8,h0⟩,HST⟩
       case measure=>simp[intOf];omega
    . have HF:Hid (us=v):=Ab (by
       have:=Aa HST
       have h2:=Py (rowB bs n) ((ord19.take c).drop (i+1)) (s.set k (r:Int)) v h0;rw[this]at h2;exact h2)
      have HP:Hid (∀q,Calls Tryz.prog 238 #[.pointer (some ⟨b,0,none⟩),.int .i64 3] (wr.drewN q) fun e w'=>e=Flt v.e/\Bl No B w w'):=Ab (fun q=>(Aa hNum q).mono (fun e w' hg=>by
       rcases hg with ⟨e0,_⟩|⟨_,e1,e2⟩
       . exact absurd e0 h0
       . exact⟨e1,((Aa hK).bl.drewN q).trans (e2.weaken (fun _ h=>.inl h))⟩))
      clear hNum;go_wp2;refine wp_region_held_drew (S:=fun w'=>w'.cell? ⟨go,i,none⟩=some (.int .i64 (k:Int))) (by kernel_rfl) cO (fun hHeld=> ?_);refine wpAnyH_take (i:=0) (v:=.int .i64 (i:Int)) rfl (by kernel_rfl) (by kernel_rfl) (by kernel_rfl) (fun _ _ _ h=>h) (Or.inl ⟨by rfl,fun W hS=>by go_simp⟩) hHeld ?_;simp only[Act.put,VA,VD,VE];refine wpAnyH_take (i:=1) (v:=.pointer (some ⟨go,i,none⟩)) rfl (by kernel_rfl) (by kernel_rfl) (by kernel_rfl) (fun _ _ _ h=>h) (Or.inl ⟨by rfl,fun W hS=>by go_simp⟩) hHeld ?_;simp only[Act.put,VA,VD,VE];refine wpAnyH_take (i:=2) (v:=.int .i64 (k:Int)) rfl (by kernel_rfl) (by kernel_rfl) (by kernel_rfl) (fun _ _ _ h=>h) (Or.inl ⟨by rfl,fun W hS=>by have hS':W.cell? ⟨go,i,none⟩=some (.int .i64 (k:Int)):=hS;go_simp⟩) hHeld ?_;simp only[Act.put,VA,VD,VE];refine wpAnyH_take (i:=3) (v:=.pointer (some ⟨b,0,none⟩)) rfl (by kernel_rfl) (by kernel_rfl) (by kernel_rfl) (fun _ _ _ h=>h) (Or.inl ⟨by rfl,fun W hS=>by go_simp⟩) hHeld ?_;simp only[Act.put,VA,VD,VE];refine wpAnyH_ready (rs:= [4]) (by kernel_rfl) (by simp) (AllReadyH.cons rfl (fun K hK=> ?_) AllReadyH.nil);go_simp
      refine(Aa HP _).mono ?_;rintro e w4 ⟨rfl,hB⟩;exact And.intro rfl (Or.inl ⟨by rw[Aa HF];exact h0,by rw[Aa HF],hB⟩)
  . obtain rfl:i=c:=by omega
    obtain⟨hxp,hxe⟩:=Aa hpe;have hst:=Aa hSm;rw[XY (by rw[VL];exact ZE _ _),usmall]at hst;obtain⟨rfl,rfl⟩:=VU hst;have HD:=Ab (Kk b (some ⟨N,0,none⟩) 19 19 s wr hsl (by decide) (.inr ⟨N,0,rfl,(Aa hA).lt,(Aa hA).row⟩));have hsz:=(Aa hK).bl.below.size;clear hst hSm hS;go_wp2_with fail
    refine(Aa HD).mono ?_;rintro e w4 ⟨hB4,hD4⟩;have HK4:=Ab ((Aa hK).past hB4)
    rcases hD4 with ⟨d0,gr,gm,mb,nn,rfl,d1,d2,d3,d4,d5⟩|⟨d0,rfl⟩
    . have HF:Hid (Z6a No B w b (.slice a n cap) f1 f2 s x (.returned (DV gr gm)) w4):=Ab (.inr (.inr ⟨hxe,d0,Aa HK4,gr,gm,mb,nn,rfl,by omega,by omega,by omega,d4,d5⟩));clear d1 d2 d3 d4 d5 d0;go_wp2;go_ret;exact Aa HF
    . have HF:Hid (Z6a No B w b (.slice a n cap) f1 f2 s x (Flt (errL s)) w4):=Ab (.inr (.inl ⟨hxe,d0,rfl,(Aa HK4).bl⟩));clear d0;go_wp2;exact⟨rfl,Aa HF⟩
theorem Z2b (No:Nat->Prop)(B b:Nat)(a:Option Addr)(n cap:Nat)(bs:List Nat)(f1 f2:Value)(u:US)(w:World)(h:IIs No B w b (.slice a n cap) f1 f2 u)(hR:Rd w No a n bs)(hp:u.p<=8*n)(he:u.e=0)(al:Option Addr)(M cp:Nat)(l:List Int)(hl:l.length=M)(hM:M<=1000)(hRw:RowIn .i64 w al l)(hNl:∀g o,al=some ⟨g,o,none⟩->l≠ []->No g)(k:Nat)(hk:k<19)(x:Int)(t:Nat)(v:US)(hr:Hid (ukind (rowB bs n) l k u=(x,t,v))):
 Calls Tryz.prog 290 #[.pointer (some ⟨b,0,none⟩),.int .i64 (k:Int),.slice al M cp] w fun e w'=>Got No B w b (.slice a n cap) f1 f2 (.tuple #[.int .i64 x,.int .i64 (t:Int)]) v e w':=by
 have H:=Ab h;have HR:=Ab hR;have HWR:Hid (∀q (size least r:Nat) (y:US),size<=16->least<=40000->uget (rowB bs n) size u=(r,y)->Calls Tryz.prog 274 #[.pointer (some ⟨b,0,none⟩),.int .i64 (least:Int),.int .i64 (size:Int)] (w.drewN q) fun e w'=>Got No B w b (.slice a n cap) f1 f2 (.int .i64 ((least+r:Nat):Int)) y e w'):=Ab (fun q size least r y h1 h2 h3=>(Ie No B b a n cap size least bs f1 f2 u (w.drewN q) (h.grown ⟨rfl,rfl,rfl,VC _,fun _ _ _=>rfl⟩) (hR.keep (VC _) (Kp.refl _ _)) hp he h1 h2 r y (Ab h3)).mono (fun e w' hg=>Got.from hg (Af (Below.refl _ _) q) (fun _ _ _=>rfl)));have HE:=Ab he;clear h hR hp he
 by_cases k16:k=16
 . subst k16
   by_cases hM0:M=0
   . subst hM0
     have HF:Hid (v= {u with e:=8}):=Ab (by
      have:=Aa hr
      unfold ukind at this;rw[if_pos rfl,if_pos hl]at this;have h2:=(VU (VU this).2).2;rw[<-h2];unfold Ay;rw[if_pos (Aa HE)])
     clear HWR hl hRw hNl;go_enter Tryz.func290,Tryz.ntmps290
     go_wp2_with fail
     refine(Bw 8 _).mono ?_;rintro e w2 ⟨rfl,rfl⟩;go_wp2;exact⟨rfl,.inr ⟨by rw[Aa HF];exact(by decide:(8:Int)≠0),by rw[Aa HF],Bl.refl _ _ _⟩⟩
   . obtain⟨r,y,hy⟩:∃r y,uget (rowB bs n) 2 u=(r,y):=⟨_,_,rfl⟩
     obtain⟨q,hq⟩:∃q,M-1=q:=⟨_,rfl⟩
     have HF:Hid (x=l.getD q 0/\t=3+r/\v=y):=Ab (by
      have:=Aa hr
      unfold ukind at this;rw[if_pos rfl,if_neg (by omega),hy,hl,hq]at this;exact⟨(VU this).1.symm,(VU (VU this).2).1.symm,(VU (VU this).2).2.symm⟩)
     have HW:=Ab (fun q=>Aa HWR q 2 3 r y (by decide) (by decide) hy)
     obtain⟨g,o,rfl,hgl,hrow⟩:∃g o,al=some ⟨g,o,none⟩/\g<w.heap.size/\Row .i64 w g o l:=by
      rcases hRw with h0|h0
      . rw[h0]at hl;simp at hl;omega
      . exact h0
     have hNg:No g:=hNl g o rfl (fun e=>by rw[e]at hl;simp at hl;omega);have cL:w.cell? ⟨g,o+q,none⟩=some (.int .i64 (l.getD q 0)):=hrow q (by omega);obtain⟨z,hz⟩:∃z,l.getD q 0=z:=⟨_,rfl⟩
     rw[hz]at cL HF;have hb0:((M:Int)==0)=false:=by rw[beq_eq_false_iff_ne];omega
     have i1:IntKind.i64.wrap ((M:Int)-1)=(M:Int)-1:=by simp[IntKind.wrap,IntKind.signed,IntKind.bits];omega
     have i2:(1:Int)<=(M:Int):=by omega
     have i3:(M:Int)-1<(M:Int):=by omega
     have i4:((M:Int)-1).toNat=q:=by omega
     clear hy HWR hrow hRw hNl hz hl hr hq hM0
     by_cases h0:y.e=0
     . have HN:Hid (∀q2,Calls Tryz.prog 274 #[.pointer (some ⟨b,0,none⟩),.int .i64 3,.int .i64 2] (w.drewN q2) fun e w'=>e=.returned (.int .i64 ((3+r:Nat):Int))/\w'.cell? ⟨g,o+q,none⟩=some (.int .i64 z)/\Hid (IUp No B w b (.slice a n cap) f1 f2 y w')):=Ab (fun q2=>(Aa HW q2).mono (fun e w' hg=>by
        rcases hg with ⟨_,e1,e2⟩|⟨e0,_⟩
        . exact⟨e1,(World.cell?_of_block (w:=w) (a:=⟨g,_,none⟩) (e2.kp g hgl hNg)).trans cL,Ab e2⟩
        . exact absurd h0 e0))
       clear HW;go_enter Tryz.func290,Tryz.ntmps290
       go_wp2;go_region_with (go_at_call 274;refine(Aa HN _).mono ?_;rintro e w4 ⟨rfl,c4,HI4⟩)
       all_goals try go_wp2
       all_goals refine bodyPost_ret (v:=.tuple #[.int .i64 z,.int .i64 ((3+r:Nat):Int)]) ?_ rfl (.inl ⟨by rw[(Aa HF).2.2];exact h0,by rw[(Aa HF).1,(Aa HF).2.1],by rw[(Aa HF).2.2];exact Aa HI4⟩)
       all_goals first|rfl|kernel_rfl
     . have HP:Hid (∀q2,Calls Tryz.prog 274 #[.pointer (some ⟨b,0,none⟩),.int .i64 3,.int .i64 2] (w.drewN q2) fun e w'=>e=Flt y.e/\Bl No B w w'):=Ab (fun q2=>(Aa HW q2).mono (fun e w' hg=>by
        rcases hg with ⟨e0,_⟩|⟨_,e1,e2⟩
        . exact absurd e0 h0
        . exact⟨e1,e2⟩))
       clear HW;go_enter Tryz.func290,Tryz.ntmps290
       go_wp2;refine wp_region_held_drew (S:=fun w'=>w'.cell? ⟨g,o+q,none⟩=some (.int .i64 z)) (by kernel_rfl) cL (fun hHeld=> ?_);refine wpAnyH_take (i:=0) (v:=.slice (some ⟨g,o,none⟩) M cp) rfl (by kernel_rfl) (by kernel_rfl) (by kernel_rfl) (fun _ _ _ h=>h) (Or.inl ⟨by rfl,fun W hS=>by go_simp⟩) hHeld ?_;simp only[Act.put,VA,VD,VE];refine wpAnyH_take (i:=1) (v:=.slice (some ⟨g,o,none⟩) M cp) rfl (by kernel_rfl) (by kernel_rfl) (by kernel_rfl) (fun _ _ _ h=>h) (Or.inl ⟨by rfl,fun W hS=>by go_simp⟩) hHeld ?_;simp only[Act.put,VA,VD,VE];refine wpAnyH_take (i:=2) (v:=.int .i64 (M:Int)) rfl (by kernel_rfl) (by kernel_rfl) (by kernel_rfl) (fun _ _ _ h=>h) (Or.inl ⟨by rfl,fun W hS=>by go_simp⟩) hHeld ?_;simp only[Act.put,VA,VD,VE];refine wpAnyH_take (i:=3) (v:=.int .i64 ((M:Int)-1)) rfl (by kernel_rfl) (by kernel_rfl) (by kernel_rfl) (fun _ _ _ h=>h) (Or.inl ⟨by rfl,fun W hS=>by go_simp⟩) hHeld ?_;simp only[Act.put,VA,VD,VE];refine wpAnyH_take (i:=4) (v:=.pointer (some ⟨g,o+q,none⟩)) rfl (by kernel_rfl) (by kernel_rfl) (by kernel_rfl) (fun _ _ _ h=>h) (Or.inl ⟨by rfl,fun W hS=>by go_simp⟩) hHeld ?_;simp only[Act.put,VA,VD,VE];refine wpAnyH_take (i:=5) (v:=.int .i64 z) rfl (by kernel_rfl) (by kernel_rfl) (by kernel_rfl) (fun _ _ _ h=>h) (Or.inl ⟨by rfl,fun W hS=>by have hS':W.cell? ⟨g,o+q,none⟩=some (.int .i64 z):=hS;go_simp⟩) hHeld ?_;simp only[Act.put,VA,VD,VE];refine wpAnyH_take (i:=6) (v:=.pointer (some ⟨b,0,none⟩)) rfl (by kernel_rfl) (by kernel_rfl) (by kernel_rfl) (fun _ _ _ h=>h) (Or.inl ⟨by rfl,fun W hS=>by go_simp⟩) hHeld ?_;simp only[Act.put,VA,VD,VE];refine wpAnyH_ready (rs:= [7]) (by kernel_rfl) (by simp) (AllReadyH.cons rfl (fun K hK=> ?_) AllReadyH.nil);go_simp
       refine(Aa HP _).mono ?_;rintro e w4 ⟨rfl,hB⟩;exact And.intro rfl (Or.inr ⟨by rw[(Aa HF).2.2];exact h0,by rw[(Aa HF).2.2],hB⟩)
 . have hb16:((k:Int)==16)=false:=by rw[beq_eq_false_iff_ne];omega
   clear hRw hNl
   by_cases k17:k=17
   . subst k17;obtain⟨r,y,hy⟩:∃r y,uget (rowB bs n) 3 u=(r,y):=⟨_,_,rfl⟩
     have HF:Hid (x=0/\t=3+r/\v=y):=Ab (by
      have:=Aa hr
      unfold ukind at this;rw[if_neg (by decide),if_pos rfl,hy]at this;exact⟨(VU this).1.symm,(VU (VU this).2).1.symm,(VU (VU this).2).2.symm⟩)
     have HW:=Ab (Aa HWR 0 3 3 r y (by decide) (by decide) hy);clear hy HWR hr hb16 k16;go_enter Tryz.func290,Tryz.ntmps290
     go_wp2_with fail
     refine(Aa HW).mono ?_;rintro e w4 hg
     rcases hg with ⟨e0,rfl,hU⟩|⟨e0,rfl,hB⟩
     . have HU:=Ab hU;clear hU;go_wp2;refine bodyPost_ret (v:=.tuple #[.int .i64 0,.int .i64 ((3+r:Nat):Int)]) ?_ rfl (.inl ⟨by rw[(Aa HF).2.2];exact e0,by rw[(Aa HF).1,(Aa HF).2.1],by rw[(Aa HF).2.2];exact Aa HU⟩)
       first|rfl|kernel_rfl
     . go_wp2;exact⟨rfl,.inr ⟨by rw[(Aa HF).2.2];exact e0,by rw[(Aa HF).2.2],hB⟩⟩
   . have hb17:((k:Int)==17)=false:=by rw[beq_eq_false_iff_ne];omega
     by_cases k18:k=18
     . subst k18;obtain⟨r,y,hy⟩:∃r y,uget (rowB bs n) 7 u=(r,y):=⟨_,_,rfl⟩
       have HF:Hid (x=0/\t=11+r/\v=y):=Ab (by
        have:=Aa hr
        unfold ukind at this;rw[if_neg (by decide),if_neg (by decide),if_pos rfl,hy]at this;exact⟨(VU this).1.symm,(VU (VU this).2).1.symm,(VU (VU this).2).2.symm⟩)
       have HW:=Ab (Aa HWR 0 7 11 r y (by decide) (by decide) hy);clear hy HWR hr hb16 k16 hb17 k17;go_enter Tryz.func290,Tryz.ntmps290
       go_wp2_with fail
       refine(Aa HW).mono ?_;rintro e w4 hg
       rcases hg with ⟨e0,rfl,hU⟩|⟨e0,rfl,hB⟩
       . have HU:=Ab hU;clear hU;go_wp2;refine bodyPost_ret (v:=.tuple #[.int .i64 0,.int .i64 ((11+r:Nat):Int)]) ?_ rfl (.inl ⟨by rw[(Aa HF).2.2];exact e0,by rw[(Aa HF).1,(Aa HF).2.1],by rw[(Aa HF).2.2];exact Aa HU⟩)
         first|rfl|kernel_rfl
       . go_wp2;exact⟨rfl,.inr ⟨by rw[(Aa HF).2.2];exact e0,by rw[(Aa HF).2.2],hB⟩⟩
     . have hb18:((k:Int)==18)=false:=by rw[beq_eq_false_iff_ne];omega
       have HF:Hid (x=(k:Int)/\t=1/\v=u):=Ab (by
        have:=Aa hr
        unfold ukind at this;rw[if_neg k16,if_neg k17,if_neg k18]at this;exact⟨(VU this).1.symm,(VU (VU this).2).1.symm,(VU (VU this).2).2.symm⟩)
       clear hr k16 k17 k18 HWR;go_enter Tryz.func290,Tryz.ntmps290
       go_wp2;refine bodyPost_ret (v:=.tuple #[.int .i64 (k:Int),.int .i64 1]) ?_ rfl (.inl ⟨by rw[(Aa HF).2.2];exact Aa HE,by rw[(Aa HF).1,(Aa HF).2.1];rfl,by rw[(Aa HF).2.2];exact IUp.refl (Aa H)⟩)
       first|rfl|kernel_rfl
end Go.Proofs.YtieianhejdcgdaaGreatDoor
namespace Go.Proofs.YtieianhejdcgdaaGreatDoor
set_option linter.unusedVariables false
set_option maxRecDepth 100000
end Go.Proofs.YtieianhejdcgdaaGreatDoor
