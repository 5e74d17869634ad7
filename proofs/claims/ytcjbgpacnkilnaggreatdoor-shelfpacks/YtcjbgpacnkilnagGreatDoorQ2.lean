import Derived.Test.YtcjbgpacnkilnagGreatDoorQ0
import Derived.Test.YtcjbgpacnkilnagGreatDoorQ1
import Derived.Deep.WholeRow
import Derived.Laws.ResultCell
import Derived.Laws.Tables
import Derived.Laws.Rows
import Derived.Laws.CopyRow
import Derived.Deep.RegionHeld3
import Derived.Deep.DeepCutAuto
import Derived.Stop.BytesEq
import Derived.Lib.SplitLaws
import Derived.Lib.Strings
import Derived.Lib.Join
import Derived.Lib.SlTrimSet
namespace Go.Proofs.YtcjbgpacnkilnagGreatDoor
open Go.RowKit
set_option linter.unusedVariables false
def Arr (w:World)(b:Nat)(c:Nat->Nat):Prop:=w.heap[b]? =some (.cells (arr c) 206 (0,0))
theorem Zdv {c d:Nat->Nat}(h:∀n,n<16->c n=d n):arr c=arr d:=by
 unfold arr
 congr 1
 apply List.map_congr_left
 intro n hn;rw[h n (by simpa using hn)]
theorem Arr.congr {w:World}{b:Nat}{c d:Nat->Nat}(h:Arr w b c)(e:∀n,n<16->c n=d n):Arr w b d:=by
 unfold Arr;rw[<-Zdv e];exact h
theorem Arr.lt {w:World}{b:Nat}{c:Nat->Nat}(h:Arr w b c):b<w.heap.size:=by
 by_cases e:b<w.heap.size
 . exact e
 . have:w.heap[b]? =none:=by simp;omega
   rw[Arr,this]at h;cases h
theorem Arr.cell {w:World}{b:Nat}{c:Nat->Nat}(h:Arr w b c){j:Nat}(hj:j<16):w.cell? ⟨b,j,none⟩=some (.int .i64 ((c j:Nat):Int)):=by
 rw[cell_of_row w b j _ _ _ h];exact Zdw c hj
theorem Arr.frozen {w:World}{b:Nat}{c:Nat->Nat}(h:Arr w b c)(j:Nat):w.frozen? ⟨b,j,none⟩=false:=frozen_of_row w b j _ _ h
theorem Arr.new (w:World)(c:Nat->Nat){b:Nat}(hb:b=w.heap.size):Arr (w.alloc (.cells (arr c) 206)) b c:=by rw[hb];exact heap_alloc_new w _
theorem Arr.alloc {w:World}{b:Nat}{c:Nat->Nat}(h:Arr w b c)(o:Obj):Arr (w.alloc o) b c:=
 (Below.heap_alloc w o b h.lt).trans h
theorem Arr.below {w w':World}{B b:Nat}{c:Nat->Nat}(h:Arr w b c)(hB:Below B w w')(hb:b<B):Arr w' b c:=by
 unfold Arr;rw[hB.block b hb];exact h
theorem Arr.set {w:World}{b:Nat}{c:Nat->Nat}(h:Arr w b c)(j x:Nat):Arr (w.setCell ⟨b,j,none⟩ (.int .i64 ((x:Nat):Int))) b (upd c j x):=by
 unfold Arr;rw[heap_setCell_same w b j _ _ _ h,Zl2]
theorem Arr.other {w:World}{b:Nat}{c:Nat->Nat}(h:Arr w b c){a:Addr}(hb:b≠a.block)(v:Value):Arr (w.setCell a v) b c:=by
 unfold Arr;rw[heap_setCell_other w a b v hb];exact h
theorem Arr.setRow {w:World}{b:Nat}{c:Nat->Nat}(h:Arr w b c)(d:Nat->Nat):Arr (w.setRow b (arr d)) b d:=setRow_heap w b _ _ _ _ h
theorem Av {B:Nat}{a w:World}(h:Below B a w){g:Nat}(hg:B<=g)(cs:Array Value):Below B a (w.setRow g cs):=
 ⟨h.os,h.tape,h.output,by simp;exact h.size,fun k hk=>(Go.setRow_other w g k cs (by omega)).trans (h.block k hk)⟩
theorem Z8z:(#[.int .i64 0,.int .i64 0,.int .i64 0,.int .i64 0,.int .i64 0,.int .i64 0,.int .i64 0,.int .i64 0,.int .i64 0,.int .i64 0,.int .i64 0,.int .i64 0,.int .i64 0,.int .i64 0,.int .i64 0,.int .i64 0]:Array Value)=arr (fun _=>0):=rfl
theorem Ow:(Tryz.prog.info? 206).map (·.size)=some 16:=by kernel_rfl
theorem Ot {ops:Array Oper}{rest:List Oper}{o:Oper}{a:Act}{w:World}{Q:Exit->Act->World->Prop}(hgd:o.guard=none)(x:Operand)(ho:o.op=.load 206 x)
 (b:Nat) (c:Nat->Nat) (hx:a.eval x=.pointer (some ⟨b,0,none⟩)) (h:Arr w b c) (k:wpList Tryz.prog ops Q rest (a.put o.dst (.agg (arr c))) w):wpList Tryz.prog ops Q (o::rest) a w:=
 wpList_load_row hgd 206 x ho b hx _ _ _ _ h Tryz.underlying206 rfl (by rw[Fj];exact Ow) k
theorem Fu {ops:Array Oper}{rest:List Oper}{o:Oper}{a:Act}{w:World}{Q:Exit->Act->World->Prop}(hgd:o.guard=none)(x y:Operand)(ho:o.op=.store 206 x y)
 (b:Nat) (c d:Nat->Nat) (hx:a.eval x=.pointer (some ⟨b,0,none⟩)) (hy:a.eval y=.agg (arr d)) (h:Arr w b c) (k:wpList Tryz.prog ops Q rest (a.put o.dst undef) (w.setRow b (arr d))):wpList Tryz.prog ops Q (o::rest) a w:=
 wpList_store_row hgd 206 x y ho b _ hx hy _ _ h (by rw[Fj];exact Ow) (by rw[Fj,Fj]) (Zl3 d) k
theorem Pw {ops:Array Oper}{rest:List Oper}{o:Oper}{a:Act}{W:World}{Q:Exit->Act->World->Prop}(hgd:o.guard=none)(x y:Operand)(ho:o.op=.store 206 x y)
 (w:World) (c d:Nat->Nat) (hW:W=w.alloc (.cells (arr c) 206)) (hx:a.eval x=.pointer (some ⟨w.heap.size,0,none⟩)) (hy:a.eval y=.agg (arr d)) (k:wpList Tryz.prog ops Q rest (a.put o.dst undef) (w.alloc (.cells (arr d) 206))):wpList Tryz.prog ops Q (o::rest) a W:=by
 subst hW;exact Fu hgd x y ho _ c d hx hy (Arr.new w c rfl) (by rw[World.setRow_alloc_new];exact k)
theorem Z2x {w:World}{b:Nat}{c:Nat->Nat}(h:Arr w b c):(loadVar 206 ⟨b,0,none⟩).run Tryz.prog w=.ok (.agg (arr c)) w:=
 run_loadVar_row w b _ _ _ _ _ h Tryz.underlying206 rfl (by rw[Fj];exact Ow)
theorem Fz {fn:Func}{p u:Tmp}(h:fn.results= #[.cell p 206,.tmp u])(tmps:Array Value)(w:World)(b:Nat)(c:Nat->Nat)(hp:tmps.getD p undef=.pointer (some ⟨b,0,none⟩))(hA:Arr w b c):
 (results fn tmps).run Tryz.prog w=.ok (.tuple #[.agg (arr c),tmps.getD u undef]) w:=by
 rw[results_cell_tmp h,hp];simp[asAddr,Result.andThen,Z2x hA]
theorem Z9w (c:Nat->Nat)(w:World)(hc:∀n,c n<=288):
 Calls Tryz.prog 153 #[.agg (arr c)] w fun e w'=>e=.returned (.int .i64 (takenN c 15:Nat))/\Below w.heap.size w w':=by
 go_enter Tryz.func153,Tryz.ntmps153
 go_wp2;have hA:=Ab (Arr.new w c rfl);have hB:=Ab ((Below.refl w.heap.size w).alloc (Nat.le_refl _) (.cells (arr c) 206));go_loop [3,4] (fun s i=>∃k:Nat,k<=15/\i=.int .i64 ((k:Int)+1)/\s=.int .i64 (takenN c k:Nat)) (fun _ i=>16-(intOf i).toNat)
 case atStart=>exact⟨0,by omega,rfl,rfl⟩
 case round=>
  obtain⟨k,hk,rfl,rfl⟩:=hrel
  by_cases hlt:k<15
  . have c1:=(Aa hA).cell (j:=k+1) (by omega);have ht:=Ym c hc (k+1);have H:Hid (takenN c (k+1)=takenN c k+c (k+1)*2^(14-k)):=rfl
    have hw:wrap64 ((takenN c k:Int)+wrap64 ((c (k+1):Int)*2^(14-k)))=((takenN c (k+1):Nat):Int):=by
     rw[takenN]at ht ⊢;have e:((c (k+1):Int)*2^(14-k))=((c (k+1)*2^(14-k):Nat):Int):=by push_cast;rfl
     rw[e];generalize c (k+1)*2^(14-k)=x at*;have h3:(k+1)*(288*32768)<=15*(288*32768):=Nat.mul_le_mul_right _ (by omega);unfold wrap64;omega
    have HW:=Ab hw;clear ht hw;go_wp2;go_round
    case rel=>exact⟨k+1,by omega,by go_num,by rw[Aa HW]⟩
    case measure=>simp[intOf];omega
  . obtain rfl:k=15:=by omega
    go_wp2;go_ret;exact⟨rfl,Aa hB⟩
def Z0k (c:Nat->Nat)(k:Nat):Nat->Nat:=fun n=>if 1<=n/\n<=k then Bb c n else 0
theorem Z7r (c:Nat->Nat):Z0k c 0=fun _=>0:=by funext n;simp[Z0k];omega
theorem Z7s (c:Nat->Nat)(k:Nat):upd (Z0k c k) (k+1) (Bb c (k+1))=Z0k c (k+1):=by
 funext n
 simp only[upd,Z0k]
 by_cases e:n=k+1
 . subst e;simp
 . by_cases h:1<=n/\n<=k
   . have:1<=n/\n<=k+1:=by omega
     simp[e,h,this]
   . have:¬(1<=n/\n<=k+1):=by omega
     simp[e,h,this]
theorem Zcj (c:Nat->Nat)(n:Nat)(h:n<16):Z0k c 15 n=Bb c n:=by
 simp only[Z0k]
 by_cases e:n=0
 . subst e;simp[Bb]
 . have:1<=n/\n<=15:=by omega
   simp[this]
theorem Z5t (c:Nat->Nat)(hc:∀n,c n<=288):∀n,Bb c (n+1)+576<=288*2^(n+1)
 |0=>by simp[Bb]
 |n+1=>by
  have h1:=Z5t c hc n;have h2:=hc (n+1);rw[Bb,Nat.pow_succ];generalize 2^(n+1)=p at*;omega
def Zbb (c:Nat->Nat):Nat->Nat
 |0=>0
 |k+1=>Bb c (k+1)+c (k+1)
theorem Z7v (c:Nat->Nat)(k:Nat):Bb c (k+1)=2*Zbb c k:=by cases k<;>rfl
theorem Ra (c:Nat->Nat)(hc:∀n,c n<=288){k:Nat}(hk:k<=14):Bb c (k+1)<=9437184:=by
 have h1:=Z5t c hc k;have h2:=Nat.pow_le_pow_right (n:=2) (by decide) (show k+1<=15 by omega);have h3:288*2^(k+1)<=288*2^15:=Nat.mul_le_mul_left _ h2;omega
set_option maxRecDepth 100000 in
theorem Sp (c:Nat->Nat)(w:World)(hc:∀n,c n<=288):
 Calls Tryz.prog 135 #[.agg (arr c)] w fun e w'=>e=.returned (.agg (arr (Bb c)))/\Below w.heap.size w w':=by
 go_enter Tryz.func135,Tryz.ntmps135
 go_wp2;simp only[Z8z];have HA:=Ab (((Arr.new w c rfl).alloc (.cells (arr (fun _=>0)) 206)).alloc (.cells (arr (fun _=>0)) 206));have HR:=Ab ((Arr.new (w.alloc (.cells (arr c) 206)) (fun _=>0) (b:=w.heap.size+1) (by simp)).alloc (.cells (arr (fun _=>0)) 206));have HF:=Ab (Arr.new ((w.alloc (.cells (arr c) 206)).alloc (.cells (arr (fun _=>0)) 206)) (fun _=>0) (b:=w.heap.size+1+1) (by simp));have HB:=Ab ((((Below.refl w.heap.size w).alloc (Nat.le_refl _) (.cells (arr c) 206)).alloc (by simp) (.cells (arr (fun _=>0)) 206)).alloc (by simp;omega) (.cells (arr (fun _=>0)) 206));go_loopw [4,5] (fun s i wr=>∃k:Nat,k<=15/\i=.int .i64 ((k:Int)+1)/\s=.int .i64 (Zbb c k:Nat)/\Arr wr w.heap.size c/\Arr wr (w.heap.size+1) (fun _=>0)/\Arr wr (w.heap.size+1+1) (Z0k c k)/\Below w.heap.size w wr) (fun _ i _=>16-(intOf i).toNat)
 case atStart=>exact⟨0,by omega,rfl,rfl,Aa HA,Aa HR,by rw[Z7r];exact Aa HF,Aa HB⟩
 case round=>
  obtain⟨k,hk,rfl,rfl,hA,hR,hF,hB⟩:=hrel;have HA1:=Ab hA;have HR1:=Ab hR;have HF1:=Ab hF;have HB1:=Ab hB
  by_cases hlt:k<15
  . have c1:=hA.cell (j:=k+1) (by omega);have c2:=hF.cell (j:=k+1) (by omega);have f2:=hF.frozen (k+1);have c3:(wr.setCell ⟨w.heap.size+1+1,k+1,none⟩ (.int .i64 (Bb c (k+1):Nat))).cell? ⟨w.heap.size,k+1,none⟩=some (.int .i64 ((c (k+1):Nat):Int)):=(hA.other (by simp;omega) _).cell (by omega);have hs:=Ra c hc (k:=k) (by omega);have hcc:=hc (k+1);have hfn:=Z7v c k;have HN:Hid (Zbb c (k+1)=Bb c (k+1)+c (k+1)):=rfl;have HP:=Ab (Z7s c k);have hw:wrap64 ((Zbb c k:Int)*2)=((Bb c (k+1):Nat):Int):=by unfold wrap64;omega
    clear hA hR hF hB hc HA HR HF HB hfn;generalize Zbb c k=m at*;go_wp2;go_roundw
    case rel=>exact⟨k+1,by omega,by go_num,by rw[Aa HN];go_num,(Aa HA1).other (by simp;omega) _,(Aa HR1).other (by simp) _,by rw[<-Aa HP];exact(Aa HF1).set _ _,(Aa HB1).setCell (by simp;omega) _⟩
    case measure=>simp[intOf];omega
  . obtain rfl:k=15:=by omega
    have HX:=Ab ((Aa HF1).congr (Zcj c));go_wp2_with (first|(refine Ot rfl (.tmp 3) rfl _ (Bb c) rfl (Aa HX) ?_)|(refine Fu rfl (.tmp 2) (.tmp 20) rfl _ _ (Bb c) rfl rfl (Aa HR1) ?_))
    have HY:=Ab ((Aa HR1).setRow (Bb c));refine bodyPost_ret (v:=.agg (arr (Bb c))) ?_ rfl ⟨rfl,Av (Aa HB1) (by omega) _⟩;exact results_cell_row rfl _ _ _ _ _ _ _ rfl (Aa HY) Tryz.underlying206 rfl (by rw[Fj];exact Ow)
end Go.Proofs.YtcjbgpacnkilnagGreatDoor
namespace Go.Proofs.YtcjbgpacnkilnagGreatDoor
open Go.RowKit
set_option linter.unusedVariables false
set_option maxRecDepth 100000
def ARow (T:TypeId)(w:World)(g:Nat)(xs:List Int):Prop:=w.heap[g]? =some (.cells (iv xs).toArray T (0,0))
theorem ARow.lt {T:TypeId}{w:World}{g:Nat}{xs:List Int}(h:ARow T w g xs):g<w.heap.size:=(Array.getElem?_eq_some_iff.1 h).1
theorem Zn7 (xs:List Int)(j:Nat)(hj:j<xs.length):(iv xs).toArray[j]? =some (.int .i64 (xs.getD j 0)):=by simp[iv,List.getD,hj]
theorem ARow.cell {T:TypeId}{w:World}{g:Nat}{xs:List Int}(h:ARow T w g xs)(j:Nat)(hj:j<xs.length):w.cell? ⟨g,j,none⟩=some (.int .i64 (xs.getD j 0)):=(Ac h).trans (Zn7 xs j hj)
theorem ARow.frozen {T:TypeId}{w:World}{g:Nat}{xs:List Int}(h:ARow T w g xs)(j:Nat):w.frozen? ⟨g,j,none⟩=false:=frozen_of_row w g j _ _ h
theorem ARow.row {T:TypeId}{w:World}{g:Nat}{xs:List Int}(h:ARow T w g xs):Row .i64 w g 0 xs:=fun j hj=>by rw[Nat.zero_add];exact h.cell j hj
theorem ARow.keep {T:TypeId}{w w':World}{g:Nat}{xs:List Int}(h:ARow T w g xs)(hk:w'.heap[g]? =w.heap[g]?):ARow T w' g xs:=hk.trans h
theorem ARow.set {T:TypeId}{w:World}{g:Nat}{xs:List Int}(h:ARow T w g xs)(i:Nat)(v:Int):ARow T (w.setCell ⟨g,i,none⟩ (.int .i64 v)) g (xs.set i v):=by
 unfold ARow;rw[heap_setCell_same w g i _ _ _ h];simp[iv,List.map_set]
theorem Kz {fn:Func}{p u:Tmp}{ty tz:TypeId}(h:fn.results= #[.cell p ty,.cell u tz])(tmps:Array Value)(w:World)(g1 g2:Nat)(v1 v2:Value)
 (hp:tmps.getD p undef=.pointer (some ⟨g1,0,none⟩)) (hu:tmps.getD u undef=.pointer (some ⟨g2,0,none⟩)) (h1:(loadVar ty ⟨g1,0,none⟩).run Tryz.prog w=.ok v1 w) (h2:(loadVar tz ⟨g2,0,none⟩).run Tryz.prog w=.ok v2 w):
 (results fn tmps).run Tryz.prog w=.ok (.tuple #[v1,v2]) w:=by
 have hp':tmps[p]?.getD undef=.pointer (some ⟨g1,0,none⟩):=by simpa using hp
 have hu':tmps[u]?.getD undef=.pointer (some ⟨g2,0,none⟩):=by simpa using hu
 simp[results,h,hp',hu',asAddr,h1,h2]
theorem ARow.range {T:TypeId}{w:World}{g:Nat}{xs:List Int}(h:ARow T w g xs):w.rangeAt g 0 (iv xs):=fun j v hv=>by
 rw[Nat.zero_add];exact(Ac h).trans (by simpa using hv)
theorem Cs (xs:List Int):(iv xs).toArray.all (·.oneCell')=true:=by
 simp[iv]
 intro x hx;rfl
theorem Eg {ops:Array Oper}{o:Oper}{a:Act}{W:World}{K:Act->World->Prop}{Q:Exit->Act->World->Prop}{E:Prop}(hgd:o.guard=none)(T:TypeId)(x y:Operand)(ho:o.op=.store T x y)
 (g:Nat) (xs:List Int) (hx:a.eval x=.pointer (some ⟨g,0,none⟩)) (hy:a.eval y=.agg (iv xs).toArray) (hA:ARow T W g xs) (hi:(Tryz.prog.info? T).map (·.size)=some (iv xs).toArray.size) (h:K (a.put o.dst undef) W):if Region.wanted o (yielded ops a.tmps)=true then Oper.wp Tryz.prog o a W K Q else E:=by
 have e:Region.wanted o (yielded ops a.tmps)=true:=by unfold Region.wanted;rw[hgd]
 rw[if_pos e];refine wp_store_row T x y ho g _ hx hy T _ hA hi rfl (Cs xs) ?_;rw[setRow_self W g _ T (0,0) hA];exact h
theorem ARow.load {T:TypeId}{w:World}{g:Nat}{xs:List Int}(h:ARow T w g xs){d:TypeDesc}(hu:Tryz.prog.underlying T=some d)(hd:(match d with| .struct _| .array _ _=>true|_=>false)=true)(hi:(Tryz.prog.info? T).map (·.size)=some (iv xs).toArray.size):(loadVar T ⟨g,0,none⟩).run Tryz.prog w=.ok (.agg (iv xs).toArray) w:=
 run_loadVar_row w g T T _ (0,0) d h hu (by cases d<;>first|rfl|exact hd) hi
end Go.Proofs.YtcjbgpacnkilnagGreatDoor
namespace Go.Proofs.YtcjbgpacnkilnagGreatDoor
open Go.RowKit
set_option linter.unusedVariables false
set_option linter.unusedSimpArgs false
set_option maxRecDepth 100000
def URow (T:TypeId)(w:World)(g:Nat)(xs:List Nat):Prop:=w.heap[g]? =some (.cells (u8s xs).toArray T (0,0))
theorem URow.lt {T:TypeId}{w:World}{g:Nat}{xs:List Nat}(h:URow T w g xs):g<w.heap.size:=(Array.getElem?_eq_some_iff.1 h).1
theorem URow.cell {T:TypeId}{w:World}{g:Nat}{xs:List Nat}(h:URow T w g xs)(j:Nat)(hj:j<xs.length):w.cell? ⟨g,j,none⟩=some (.int .u8 ((xs.getD j 0:Nat):Int)):=(Ac h).trans (by simp[u8s,List.getD,hj])
theorem URow.frozen {T:TypeId}{w:World}{g:Nat}{xs:List Nat}(h:URow T w g xs)(j:Nat):w.frozen? ⟨g,j,none⟩=false:=frozen_of_row w g j _ _ h
theorem URow.bytes {T:TypeId}{w:World}{g:Nat}{xs:List Nat}(h:URow T w g xs):Bytes w g 0 xs:=fun j hj=>by rw[Nat.zero_add];exact h.cell j hj
theorem URow.keep {T:TypeId}{w w':World}{g:Nat}{xs:List Nat}(h:URow T w g xs)(hk:w'.heap[g]? =w.heap[g]?):URow T w' g xs:=hk.trans h
theorem URow.set {T:TypeId}{w:World}{g:Nat}{xs:List Nat}(h:URow T w g xs)(i y:Nat):URow T (w.setCell ⟨g,i,none⟩ (.int .u8 (y:Int))) g (xs.set i y):=by
 have:=heap_setCell_same w g i _ _ (.int .u8 (y:Int)) h
 unfold URow;rw[this];simp[u8s,List.map_set]
theorem Z9k (xs:List Nat):(u8s xs).toArray.all (·.oneCell')=true:=by
 simp[u8s]
 intro x hx;rfl
theorem Zk3:(Tryz.prog.info? 67).map (·.size)=some 8:=by kernel_rfl
theorem Zay (l:List Nat)(k:Nat)(hk:k<l.length):(l.take k++List.replicate (l.length-k) 0).set k (l.getD k 0)=l.take (k+1)++List.replicate (l.length-(k+1)) 0:=by
 have h1:(l.take k).length=k:=by simp;omega
 rw[List.set_append_right _ _ (by omega),h1,Nat.sub_self];obtain⟨q,hq⟩:∃q,l.length-k=q+1:=⟨l.length-k-1,by omega⟩
 have e:l.take (k+1)=l.take k++ [l.getD k 0]:=by rw[List.take_add_one];simp[List.getD,hk]
 rw[hq,List.replicate_succ,List.set_cons_zero,e,show l.length-(k+1)=q by omega];simp
end Go.Proofs.YtcjbgpacnkilnagGreatDoor
namespace Go.Proofs.YtcjbgpacnkilnagGreatDoor
open Go
set_option linter.unusedVariables false
def Bd:Nat->Nat->List Nat
 |_,0=> []
 |n,k+1=>n%256::Bd (n/256) k
def Ai:List Nat->Nat
 | []=>0
 |x::r=>x+256*Ai r
theorem Ak:∀(k n:Nat),(Bd n k).length=k
 |0,n=>rfl
 |k+1,n=>by rw[Bd,List.length_cons,Ak k]
theorem Eh:∀(k n:Nat),∀x∈Bd n k,x<256
 |0,n,x,h=>by cases h
 |k+1,n,x,h=>by
  rw[Bd]at h
  rcases List.mem_cons.1 h with rfl|h
  . omega
  . exact Eh k _ x h
theorem Ch:∀(k n:Nat),n<256^k->Ai (Bd n k)=n
 |0,n,h=>by simp at h;subst h;rfl
 |k+1,n,h=>by
  rw[Bd,Ai,Ch k (n/256) (by rw[Nat.pow_succ]at h;omega)];omega
theorem Zbj:∀(l:List Nat),(∀x∈l,x<256)->Bd (Ai l) l.length=l
 | [],_=>rfl
 |x::r,h=>by
  have hx:=h x (by simp);have ih:=Zbj r (fun y hy=>h y (List.mem_cons_of_mem _ hy));rw[Ai,List.length_cons,Bd];have e1:(x+256*Ai r)%256=x:=by omega
  have e2:(x+256*Ai r)/256=Ai r:=by omega
  rw[e1,e2,ih]
theorem Lf:∀(l:List Nat),(∀x∈l,x<256)->Ai l<256^l.length
 | [],_=>by simp[Ai]
 |x::r,h=>by
  have hx:=h x (by simp);have ih:=Lf r (fun y hy=>h y (List.mem_cons_of_mem _ hy));rw[Ai,List.length_cons,Nat.pow_succ];omega
theorem Z00:∀(k n:Nat),Bd n (k+1)=Bd n k++ [n/256^k%256]
 |0,n=>by simp[Bd]
 |k+1,n=>by
  rw[Bd,Z00 k (n/256),Bd,Nat.div_div_eq_div_mul,Nat.pow_succ,Nat.mul_comm (256^k) 256];rfl
def B (l:List UInt8):ByteArray:=⟨l.toArray⟩
theorem Z6b (s:ByteArray):B s.data.toList=s:=by cases s;rfl
theorem Zi3 (l:List UInt8):(B l).data.toList=l:=rfl
theorem Ut (l:List UInt8):(B l).size=l.length:=by simp[B,ByteArray.size]
theorem Zf5 (s:ByteArray):s.size=s.data.toList.length:=(Array.length_toList).symm
def spl:List UInt8->List (List UInt8)
 | []=> [[]]
 |c::r=>if c=47 then []::spl r else
  match spl r with
  | []=> [[c]]
  |p::ps=>(c::p)::ps
theorem Zhe (l:List UInt8):spl l≠ []:=by
 cases l with
 |nil=>simp[spl]
 |cons c r=>
  simp only[spl]
  split
  . simp
  . split<;>simp
theorem Hh {c:UInt8}{r:List UInt8}(h:c≠47):∃p ps,spl r=p::ps/\spl (c::r)=(c::p)::ps:=by
 cases hs:spl r with
 |nil=>exact absurd hs (Zhe r)
 |cons p ps=>exact⟨p,ps,rfl,by simp[spl,h,hs]⟩
def jn (ps:List (List UInt8)):List UInt8:=Lib.join ps [47]
theorem Zhx (p:List UInt8):jn [p]=p:=Lib.join_one _ _
theorem Zhw (p q:List UInt8)(r:List (List UInt8)):jn (p::q::r)=p++47::jn (q::r):=by
 unfold jn;rw[Lib.join_cons,Lib.join_cons];simp[Lib.joinTail]
theorem Zmb:∀l:List UInt8,jn (spl l)=l
 | []=>by simp[spl,Zhx]
 |c::r=>by
  have ih:=Zmb r
  by_cases h:c=47
  . subst h
    cases hs:spl r with
    |nil=>exact absurd hs (Zhe r)
    |cons p ps=>
     rw[show spl (47::r)= []::spl r from by simp[spl],hs,Zhw,<-hs,ih];rfl
  . obtain⟨p,ps,h1,h2⟩:=Hh (r:=r) h;rw[h2];rw[h1]at ih
    cases ps with
    |nil=>rw[Zhx]at ih ⊢;rw[ih]
    |cons q ps=>rw[Zhw]at ih ⊢;rw[<-ih];simp
theorem Zac (l:List UInt8):(spl l).length=l.count 47+1:=by
 induction l with
 |nil=>simp[spl]
 |cons c r ih=>
  by_cases h:c=47
  . subst h;simp[spl,ih]
  . obtain⟨p,ps,h1,h2⟩:=Hh (r:=r) h;rw[h2,List.count_cons_of_ne (by simpa using h),<-ih,h1];simp
theorem Zlj (l:List UInt8):∀p∈spl l,p.length<=l.length:=by
 induction l with
 |nil=>intro p hp;simp[spl]at hp;subst hp;simp
 |cons c r ih=>
  by_cases h:c=47
  . subst h;intro p hp;rw[show spl (47::r)= []::spl r from by simp[spl]]at hp
    rcases List.mem_cons.1 hp with h1|h1
    . subst h1;simp
    . have:=ih p h1;simp;omega
  . obtain⟨q,qs,h1,h2⟩:=Hh (r:=r) h;intro p hp;rw[h2]at hp
    rcases List.mem_cons.1 hp with h3|h3
    . subst h3;have:=ih q (by rw[h1];simp)
      simp;omega
    . have:=ih p (by rw[h1];simp[h3]);simp;omega
theorem Tl:∀(l:List UInt8),Lib.splitK [47] 0 (Lib.count l [47]) l=spl l
 | []=>by
  rw[Lib.count_one];simp[spl,Lib.splitK]
 |c::r=>by
  have ih:=Tl r
  by_cases h:c=47
  . subst h;rw[Lib.count_cons_eq,Nat.add_comm];have hix:Lib.index (47::r) [47]=0:=by rw[Lib.index];simp[List.isPrefixOf]
    rw[Lib.splitK,hix];simp[spl,ih]
  . rw[Lib.count_cons_ne _ _ _ h];obtain⟨p,ps,h1,h2⟩:=Hh (r:=r) h;rw[h2]
    have hix:Lib.index (c::r) [47]=if Lib.index r [47]== -1 then-1 else Lib.index r [47]+1:=by
     rw[Lib.index];have hp:([47]:List UInt8).isPrefixOf (c::r)=false:=by simp[List.isPrefixOf,Ne.symm h]
     rw[hp];simp
    rw[h1]at ih
    cases hk:Lib.count r [47]with
    |zero=>
     rw[hk]at ih;simp only[Lib.splitK]at ih ⊢
     injection ih with i1 i2
     rw[i1,<-i2]
    |succ k=>
     rw[hk]at ih;simp only[Lib.splitK]at ih ⊢
     by_cases hm:Lib.index r [47]= -1
     . rw[if_pos (by rw[hix,if_pos (by simp[hm])];rfl)];rw[if_pos (by simp[hm])]at ih
       injection ih with i1 i2
       rw[i1,<-i2]
     . have hge:=Lib.index_ge r [47];obtain⟨j,hj⟩:∃j:Nat,Lib.index r [47]=j:=⟨(Lib.index r [47]).toNat,by omega⟩
       have hix':Lib.index (c::r) [47]=((j+1:Nat):Int):=by rw[hix,if_neg (by simp[hm]),hj];omega
       rw[hj]at ih;rw[hix'];rw[if_neg (by simp)]at ih;rw[if_neg (by simp;omega)]
       injection ih with i1 i2
       simp only[Int.toNat_natCast,Nat.add_zero,List.take_succ_cons]at i1 ⊢;rw[i1]
       congr 1
theorem Z6v (s:ByteArray):Lib.splitB ⟨#[47]⟩ 0 (Lib.countB s ⟨#[47]⟩) s=(spl s.data.toList).map B:=by
 have h:=Lib.splitB_data ⟨#[47]⟩ 0 (Lib.countB s ⟨#[47]⟩) s;have h2:Lib.countB s ⟨#[47]⟩=Lib.count s.data.toList [47]:=rfl;have h3:(⟨#[47]⟩:ByteArray).data.toList= [47]:=rfl;rw[h2,h3,Tl]at h;rw[h2,<-h,List.map_map];have:(B ∘ fun x:ByteArray=>x.data.toList)=id:=by funext x;exact Z6b x
 rw[this,List.map_id]
theorem Z8a (s:ByteArray):Lib.countB s ⟨#[47]⟩+1=(spl s.data.toList).length:=by
 rw[Zac];have h2:Lib.countB s ⟨#[47]⟩=Lib.count s.data.toList [47]:=rfl;rw[h2,Lib.count_one]
def okB (c:UInt8):Bool:=(97<=c&&c<=122)||(65<=c&&c<=90)||(48<=c&&c<=57)||c==46||c==95||c==45
def okP (p:List UInt8):Bool:=p != []&&p != [46]&&p != [46,46]&&p.all okB
def Nr (l:List UInt8):Nat:=if 40<l.length then 2 else if (spl l).all okP then 0 else 1
theorem Zkg {l:List UInt8}(h:Nr l=0):l.length<=40/\(spl l).all okP=true:=by
 unfold Nr at h
 split at h
 . omega
 . split at h
   . exact⟨by omega,by assumption⟩
   . omega
theorem Zkh {l:List UInt8}(h:l.length<=40)(h2:(spl l).all okP=true):Nr l=0:=by
 unfold Nr;rw[if_neg (by omega),if_pos h2]
end Go.Proofs.YtcjbgpacnkilnagGreatDoor
