import Derived.Test.YtleocpdblhbimaaGreatDoorQM
import Derived.Test.YtleocpdblhbimaaGreatDoorRows
import Derived.WalkKit
import Derived.ProofKit
import Derived.OpenShut
import Derived.ShutString
import Derived.ChangeOld
import Derived.Below
import Derived.BigQuiet
import Derived.BigRegion
import Derived.Deep.QuietTactic
import Derived.WalkSpells
import Derived.WalkLawsBesides
import Derived.Maps.AppendAt
import Derived.Lib.SplitLaws
import Derived.Lib.Strings
import Derived.Lib.Join
import Derived.Lib.SlTrimSet
import Derived.Lib.Bytealg
import GoSem.Op.String
import Derived.Deep.RegionHeld3
set_option linter.unusedVariables false
set_option linter.unusedSimpArgs false
set_option maxRecDepth 100000
set_option maxHeartbeats 2000000
namespace Go.Proofs.YtleocpdblhbimaaGreatDoor
open Go.RowKit Go.Proofs.Tryz
open Go.Value (int)
open Go.IntKind (i64)
variable{xs:List Int}{b:Nat}{w w':World}
theorem own:ownKnob prog.godebug=none:=by kernel_rfl
theorem Z0n:laidOutB prog=true:=by kernel_rfl
def Row (k:IntKind)(w:World)(b o:Nat)(xs:List Int):Prop:=∀j,j<xs.length->w.cell? ⟨b,o+j,none⟩=some (.int k (xs.getD j 0))
theorem Row.new (k:IntKind)(w:World)(xs:List Int)(t:TypeId)(A:Array Value)(b:Nat)(H:b=w.heap.size)(G:A=(xs.map (Value.int k)).toArray):Row k (w.alloc (.cells A t)) b 0 xs:=by intro j E;rw[World.cell?_alloc_at _ _ _ _ H,G];simp[List.getD,E]
theorem Row.alloc {k:IntKind}{o:Nat}(h:Row k w b o xs)(G:b<w.heap.size)(x:Obj):Row k (w.alloc x) b o xs:=by intro j E;rw[World.cell?_alloc_past _ _ _ G];exact h j E
theorem Row.below {k:IntKind}{B o:Nat}(h:Row k w b o xs)(I:Below B w w')(hb:b<B):Row k w' b o xs:=by exact yT
theorem Ae {B:Nat}{a:World}(h:Below B a w)(n:Nat):Below B a (w.drewN n):=⟨h.os,h.tape,h.output,h.size,h.block⟩
theorem Ab {p:Prop}(h:p):Hid p:=h
theorem Aa {p:Prop}(h:Hid p):p:=h
theorem Hc {a b:Bool}(h:a=b):Ending.returned (.bool a)=.returned (.bool b):=by rw[h]
theorem Bm {k:IntKind}{a b:Int}(h:a=b):Ending.returned (.int k a)=.returned (.int k b):=by rw[h]
theorem kau:type_of% @AllReady.cons:= @AllReady.cons
theorem kbi:type_of% @AllReady.nil:= @AllReady.nil
theorem kai:type_of% @Below.heap_alloc:= @Below.heap_alloc
theorem kbn:type_of% @Below.heap_setCell:= @Below.heap_setCell
theorem kaa:type_of% @Below.refl:= @Below.refl
theorem kbz:type_of% @Calls.quiet_of:= @Calls.quiet_of
theorem kbr:type_of% @DataW.weights_mem_each:= @DataW.weights_mem_each
theorem kbb:type_of% @Go.setRow_other:= @Go.setRow_other
theorem ka3:type_of% @IntKind.wrap_i64:= @IntKind.wrap_i64
theorem kbw:type_of% @Lib.cell_of_heap:= @Lib.cell_of_heap
theorem kbv:type_of% @MapKept.run_checkKey:= @MapKept.run_checkKey
theorem kbf:type_of% @MapKept.run_findKey:= @MapKept.run_findKey
theorem ka6:type_of% @MapKept.run_getObj_map:= @MapKept.run_getObj_map
theorem kbt:type_of% @Oper.upon_value:= @Oper.upon_value
theorem kbe:type_of% @Result.andThen_ok:= @Result.andThen_ok
theorem kbc:type_of% @Sem.run_bind:= @Sem.run_bind
theorem kbp:type_of% @Sem.run_pure:= @Sem.run_pure
theorem kar:type_of% @World.cell?_alloc_at:= @World.cell?_alloc_at
theorem ka1:type_of% @World.cell?_alloc_lt:= @World.cell?_alloc_lt
theorem kam:type_of% @World.cell?_alloc_past:= @World.cell?_alloc_past
theorem kbo:type_of% @World.cell?_drewN:= @World.cell?_drewN
theorem kaj:type_of% @World.cell?_of_block:= @World.cell?_of_block
theorem kan:type_of% @World.cell?_setCell_other:= @World.cell?_setCell_other
theorem kat:type_of% @World.cell?_setCell_same:= @World.cell?_setCell_same
theorem kba:type_of% @World.drewN_drewN:= @World.drewN_drewN
theorem ka7:type_of% @World.frozen?_of_block:= @World.frozen?_of_block
theorem kaw:type_of% @World.frozen?_setCell:= @World.frozen?_setCell
theorem ka8:type_of% @World.grownBy_alloc:= @World.grownBy_alloc
theorem kaq:type_of% @World.ownsRow_nil:= @World.ownsRow_nil
theorem kaf:type_of% @World.size_alloc:= @World.size_alloc
theorem kad:type_of% @beq_eq_false_iff_ne:= @beq_eq_false_iff_ne
theorem ka2:type_of% @beq_iff_eq:= @beq_iff_eq
theorem kbq:type_of% @bne_eq_false_iff_eq:= @bne_eq_false_iff_eq
theorem kaz:type_of% @bne_iff_ne:= @bne_iff_ne
theorem kal:type_of% @bodyPost_ret:= @bodyPost_ret
theorem kbx:type_of% @cell_of_row:= @cell_of_row
theorem kbd:type_of% @cell_one_new:= @cell_one_new
theorem kbk:type_of% @decide_eq_decide:= @decide_eq_decide
theorem kak:type_of% @decide_eq_false:= @decide_eq_false
theorem kap:type_of% @decide_eq_true:= @decide_eq_true
theorem ka4:type_of% @decide_eq_true_eq:= @decide_eq_true_eq
theorem ka5:type_of% @decide_eq_true_iff:= @decide_eq_true_iff
theorem kb0:type_of% @decide_false:= @decide_false
theorem kag:type_of% @frozen_of_row:= @frozen_of_row
theorem kae:type_of% @heap_alloc_new:= @heap_alloc_new
theorem kbs:type_of% @heap_setCell_other:= @heap_setCell_other
theorem kah:type_of% @heap_setCell_same:= @heap_setCell_same
theorem kab:type_of% @if_neg:= @if_neg
theorem kac:type_of% @if_pos:= @if_pos
theorem kb2:type_of% @if_true:= @if_true
theorem kas:type_of% @info_parts:= @info_parts
theorem kbj:type_of% @of_decide_eq_false:= @of_decide_eq_false
theorem kax:type_of% @of_decide_eq_true:= @of_decide_eq_true
theorem kav:type_of% @results_cell_row:= @results_cell_row
theorem kbh:type_of% @run_callFunc_extern:= @run_callFunc_extern
theorem ka0:type_of% @run_underlying:= @run_underlying
theorem ka9:type_of% @setRow_heap:= @setRow_heap
theorem kbu:type_of% @toList_madeCells_one:= @toList_madeCells_one
theorem kbm:type_of% @wpAny_ready:= @wpAny_ready
theorem kao:type_of% @wpList_append_own_at:= @wpList_append_own_at
theorem kbl:type_of% @wpList_make_full:= @wpList_make_full
theorem kb1:type_of% @wpList_plain:= @wpList_plain
theorem kay:type_of% @wpList_store_row:= @wpList_store_row
theorem kbg:type_of% @wpS_region:= @wpS_region
theorem kby:type_of% @wpS_seq:= @wpS_seq
theorem oR {p:Prop}(h:p:=by kernel_rfl):p:=h
theorem ou {p:Prop}(h:p:=by unfold maxLen;omega):p:=h
theorem oh {q p:Prop}(F:Hid q)(h:q->p:=by omega):p:=h (Aa F)
theorem oI {q p:Prop}(F:q)(h:q->p:=by omega):p:=h F
theorem ydB {G E:Prop}(I:G)(H:E):Hid G/\Hid E:=⟨I,H⟩
theorem ydC {G E H:Prop}(U:G)(O:E)(I:H):Hid G/\Hid E/\Hid H:=⟨U,O,I⟩
theorem ydD {H G I E:Prop}(aa:H)(U:G)(O:I)(ac:E):Hid H/\Hid G/\Hid I/\Hid E:=⟨aa,U,O,ac⟩
theorem ydE {I H O E G:Prop}(ae:I)(ac:H)(U:O)(af:E)(aa:G):Hid I/\Hid H/\Hid O/\Hid E/\Hid G:=⟨ae,ac,U,af,aa⟩
theorem ydF {O I U E H G:Prop}(ag:O)(ae:I)(aa:U)(ah:E)(ac:H)(af:G):Hid O/\Hid I/\Hid U/\Hid E/\Hid H/\Hid G:=⟨ag,ae,aa,ah,ac,af⟩
theorem ydG {O I U E H G aa:Prop}(ai:O)(ag:I)(ae:U)(aj:E)(af:H)(ah:G)(ac:aa):Hid O/\Hid I/\Hid U/\Hid E/\Hid H/\Hid G/\Hid aa:=⟨ai,ag,ae,aj,af,ah,ac⟩
theorem ydH {O I U E H G aa ac:Prop}(ak:O)(ah:I)(af:U)(al:E)(ag:H)(aj:G)(ae:aa)(ai:ac):Hid O/\Hid I/\Hid U/\Hid E/\Hid H/\Hid G/\Hid aa/\Hid ac:=⟨ak,ah,af,al,ag,aj,ae,ai⟩
theorem ydI {O I U E H G aa ae ac:Prop}(ao:O)(aj:I)(ah:U)(ap:E)(ai:H)(al:G)(af:aa)(ak:ae)(ag:ac):Hid O/\Hid I/\Hid U/\Hid E/\Hid H/\Hid G/\Hid aa/\Hid ae/\Hid ac:=⟨ao,aj,ah,ap,ai,al,af,ak,ag⟩
theorem ydJ {af ac I E H G O U aa ae:Prop}(ah:af)(aj:ac)(ag:I)(ap:E)(ai:H)(al:G)(ar:O)(ak:U)(ao:aa)(au:ae):Hid af/\Hid ac/\Hid I/\Hid E/\Hid H/\Hid G/\Hid O/\Hid U/\Hid aa/\Hid ae:=⟨ah,aj,ag,ap,ai,al,ar,ak,ao,au⟩
theorem ydK {ag ae I E H G O U aa af ac:Prop}(ai:ag)(al:ae)(ah:I)(au:E)(ak:H)(ap:G)(av:O)(ao:U)(ar:aa)(aw:af)(aj:ac):Hid ag/\Hid ae/\Hid I/\Hid E/\Hid H/\Hid G/\Hid O/\Hid U/\Hid aa/\Hid af/\Hid ac:=⟨ai,al,ah,au,ak,ap,av,ao,ar,aw,aj⟩
theorem ydL {ah af I E H G O U ac ag ae aa:Prop}(aj:ah)(ao:af)(ai:I)(aw:E)(al:H)(ar:G)(ax:O)(ap:U)(av:ac)(ay:ag)(ak:ae)(au:aa):Hid ah/\Hid af/\Hid I/\Hid E/\Hid H/\Hid G/\Hid O/\Hid U/\Hid ac/\Hid ag/\Hid ae/\Hid aa:=⟨aj,ao,ai,aw,al,ar,ax,ap,av,ay,ak,au⟩
theorem ydM {ai ag O E H G U aa ae ah af ac I:Prop}(ak:ai)(ar:ag)(aj:O)(ay:E)(ap:H)(av:G)(az:U)(au:aa)(ax:ae)(a3:ah)(al:af)(aw:ac)(ao:I):Hid ai/\Hid ag/\Hid O/\Hid E/\Hid H/\Hid G/\Hid U/\Hid aa/\Hid ae/\Hid ah/\Hid af/\Hid ac/\Hid I:=⟨ak,ar,aj,ay,ap,av,az,au,ax,a3,al,aw,ao⟩
theorem ydN {aj ah U E H G aa ac af ai ag ae O I:Prop}(ao:aj)(av:ah)(al:U)(a3:E)(au:H)(ax:G)(a4:aa)(aw:ac)(az:af)(a5:ai)(ap:ag)(ay:ae)(ar:O)(ak:I):Hid aj/\Hid ah/\Hid U/\Hid E/\Hid H/\Hid G/\Hid aa/\Hid ac/\Hid af/\Hid ai/\Hid ag/\Hid ae/\Hid O/\Hid I:=⟨ao,av,al,a3,au,ax,a4,aw,az,a5,ap,ay,ar,ak⟩
end Go.Proofs.YtleocpdblhbimaaGreatDoor
namespace Go.Proofs.YtleocpdblhbimaaGreatDoor
open Go
open Go.Value (int)
open Go.IntKind (i64)
variable{k:Nat}
def Ah:Nat->Nat->List Nat
 |_,0=> []
 |n,k+1=>n%256::Ah (n/256) k
def Ak:List Nat->Nat
 | []=>0
 |x::r=>x+256*Ak r
theorem Ag:∀(k n:Nat),(Ah n k).length=k
 |0,n=>rfl
 |k+1,n=>by rw[Ah,VG,Ag k]
theorem Et:∀(k n:Nat),∀x∈Ah n k,x<256
 |0,n,x,h=>by cases h
 |k+1,n,x,h=>by rw[Ah]at h;rcases VV.1 h with rfl|h;omega;exact Et k _ x h
theorem Ck:∀(k n:Nat),n<256^k->Ak (Ah n k)=n
 |0,n,h=>by simp at h;subst h;rfl
 |k+1,n,h=>by rw[Ah,Ak,Ck k (n/256) (by rw[XI]at h;omega)];omega
theorem Z0c:∀(l:List Nat),(∀x∈l,x<256)->Ah (Ak l) l.length=l
 | [],_=>rfl
 |x::r,h=>by have G:=h x oS;have ih:=Z0c r (fun y E=>h y (WL _ E));rw[Ak,VG,Ah];have e1:(x+256*Ak r)%256=x:=om;have e2:(x+256*Ak r)/256=Ak r:=om;rw[e1,e2,ih]
theorem Ip:∀(l:List Nat),(∀x∈l,x<256)->Ak l<256^l.length
 | [],_=>by simp[Ak]
 |x::r,h=>by have G:=h x oS;have ih:=Ip r (fun y E=>h y (WL _ E));rw[Ak,VG,XI];omega
theorem Ub:∀(k n:Nat),Ah n (k+1)=Ah n k++ [n/256^k%256]
 |0,n=>by simp[Ah]
 |k+1,n=>by rw[Ah,Ub k (n/256),Ah,ZX,XI,YM (256^k) 256];rfl
theorem MQ {l:List Nat}(h:k<l.length):Ak (l.drop k)=256*Ak (l.drop (k+1))+l.getD k 0:=by rw[WX h,Ak];simp[List.getD,h];omega
end Go.Proofs.YtleocpdblhbimaaGreatDoor
namespace Go.Proofs.YtleocpdblhbimaaGreatDoor
open Go.RowKit Go.Proofs.Tryz
open Go.Value (int)
open Go.IntKind (i64)
variable{xs:List Int}{bs:List Nat}{ac b e g i j n:Nat}{No No':Nat->Prop}{a:Option Addr}{r:Option Nat}{v:Value}{W w w':World}
def Bytes (w:World)(b o:Nat)(xs:List Nat):Prop:=∀j,j<xs.length->w.cell? ⟨b,o+j,none⟩=some (int .u8 ((xs.getD j 0:Nat):Int))
abbrev u8s (xs:List Nat):List Value:=xs.map fun x:Nat=>Value.int .u8 x
theorem Av (w:World)(r:Option Nat):w.grownBy w r:=⟨rfl,rfl,rfl,VA _,fun _ _ _=>rfl⟩
theorem Aj {a b c:World}(h:a.grownBy b r)(k:b.grownBy c r):a.grownBy c r:=
 ⟨k.os.trans h.os,k.tape.trans h.tape,k.output.trans h.output,WJ h.size k.size,fun i hi hr=>(k.block i (VC hi h.size) hr).trans (h.block i hi hr)⟩
theorem Ad (w:World)(b j:Nat)(v:Value):w.grownBy (w.setCell ⟨b,j,none⟩ v) (some b):=⟨rfl,rfl,rfl,oS,fun i hi hr=>kbn w _ v i (fun e=>hr (by rw[e]))⟩
theorem Cw {a b:World}(h:a.grownBy b r):a.grownBy b.drew r:=⟨h.os,h.tape,h.output,h.size,h.block⟩
theorem Gq:(prog.info? 5).map (fun i=>(i.zero,i.size,i.bytes))=some (some (int .u8 0),1,1):=oR
theorem Ce:(prog.info? 3).map (fun i=>(i.zero,i.size,i.bytes))=some (some (int i64 0),1,8):=oR
theorem Oc (p:Nat->Bool):∀n,(∀j,j<n->p j=true)\/∃j,j<n/\p j=false/\∀i,i<j->p i=true
 |0=>.inl (fun j h=>om)
 |n+1=>by
  rcases Oc p n with h|⟨j,O,G,H⟩
  . cases E:p n with
    |true=>exact .inl (fun j I=>by
     by_cases e:j=n
     . rw[e];exact E
     . exact h j om)
    |false=>exact .inr ⟨n,om,E,h⟩
  exact .inr ⟨j,om,G,H⟩
def RowIn (k:IntKind)(w:World)(a:Option Addr)(xs:List Int):Prop:=xs= []\/∃b o,a=some ⟨b,o,none⟩/\b<w.heap.size/\Row k w b o xs
def BytesIn (w:World)(a:Option Addr)(xs:List Nat):Prop:=xs= []\/∃b o,a=some ⟨b,o,none⟩/\b<w.heap.size/\Bytes w b o xs
theorem Bytes.below {B o:Nat}{xs:List Nat}(h:Bytes w b o xs)(I:Below B w w')(hb:b<B):Bytes w' b o xs:=by exact yT
theorem BytesIn.below {B:Nat}{xs:List Nat}(h:BytesIn w a xs)(I:Below B w w')(E:w.heap.size<=B):BytesIn w' a xs:=by exact xT
theorem BytesIn.own {B:Nat}{xs:List Nat}(h:w.ownsRow B 5 1 (.slice (some ⟨g,0,none⟩) n ac) n (u8s xs)):BytesIn w (some ⟨g,0,none⟩) xs:=by refine .inr ⟨g,0,rfl,(h.lt g rfl).2, ?_⟩;intro j E;have hn:=dH;rw[VY,h.cellAt j om];simp[u8s,List.getD,E]
abbrev i64s (xs:List Nat):List Value:=xs.map fun x:Nat=>Value.int .i64 x
theorem JA (n:Nat):(madeCells #[Value.int .i64 0] n).toList=i64s (List.replicate n 0):=by rw[kbu];simp[i64s]
theorem BytesIn.alloc {xs:List Nat}(h:BytesIn w a xs)(x:Obj):BytesIn (w.alloc x) a xs:=
 h.below ((kaa w.heap.size w).alloc (VA _) x) (VA _)
theorem RowIn.new (k:IntKind)(w:World)(xs:List Int)(t:TypeId)(A:Array Value)(b:Nat)(E:b=w.heap.size)(G:A=(xs.map (Value.int k)).toArray):RowIn k (w.alloc (.cells A t)) (some ⟨b,0,none⟩) xs:=
 .inr ⟨b,0,rfl,by rw[E];simp,Row.new k w xs t A b E G⟩
theorem RowIn.below {k:IntKind}{B:Nat}(h:RowIn k w a xs)(I:Below B w w')(E:w.heap.size<=B):RowIn k w' a xs:=by exact xT
theorem RowIn.alloc {k:IntKind}(h:RowIn k w a xs)(x:Obj):RowIn k (w.alloc x) a xs:=
 h.below ((kaa w.heap.size w).alloc (VA _) x) (VA _)
abbrev iv (xs:List Int):List Value:=xs.map (Value.int .i64)
theorem ga {a b:World}(h:a.grownBy b r)(o:Obj):a.grownBy (b.alloc o) r:=Aj h (ka8 b o r)
theorem Z4q {B:Nat}{xs:List Value}(h:w.ownsRow B e ac v n xs):w.drew.ownsRow B e ac v n xs:=h
theorem Lb {B:Nat}{xs:List Value}(h:w.ownsRow B e ac v n xs)(E:w.grownBy w' none):w'.ownsRow B e ac v n xs:=
 h.kept E (by cases G:v.ownBlock with
  |none=>exact .inl rfl
  |some k=>exact .inr oS)
theorem Li {B:Nat}{a:World}(h:Below B a w)(E:w.grownBy w' none)(G:B<=w.heap.size):Below B a w':=h.grown E G (fun k e=>by cases e)
theorem Rm {x u:Value}(h:W.cell? ⟨b,0,none⟩=some x)(E: [x][j]? =some u):W.cell? ((⟨b,0,none⟩:Addr).add j)=some u:=by
 match j,E with
 |0,E=>simp at E;subst E;simpa[Addr.add]using h
theorem Vr {x:Value}{t:TypeId}(E:b=w.heap.size):(w.alloc (.cells #[x] t)).cell? ⟨b,0,none⟩=some x:=by rw[kar _ _ _ _ E];rfl
theorem Z2f {x:Value}{t:TypeId}{o:Obj}(E:b=w.heap.size):((w.alloc (.cells #[x] t)).alloc o).cell? ⟨b,0,none⟩=some x:=by rw[kam _ _ _ (by rw[E];simp),kar _ _ _ _ E];rfl
theorem Z2g (h:w.cell? ⟨b,0,none⟩=some v):w.drew.cell? ⟨b,0,none⟩=some v:=h
theorem Df {x:Value}(h:x.oneCell'=true):∀u∈ [x],u.oneCell'=true:=by intro u E;simp at E;subst E;exact h
theorem RowIn.iv {B:Nat}(h:w.ownsRow B 3 1 (.slice (some ⟨g,0,none⟩) n ac) n (iv xs)):RowIn .i64 w (some ⟨g,0,none⟩) xs:=by refine .inr ⟨g,0,rfl,(h.lt g rfl).2, ?_⟩;intro j E;have hn:=dH;rw[VY,h.cellAt j om];simp[List.getD,E]
theorem Ac {E:Array Value}{t:TypeId}(h:w.heap[b]? =some (.cells E t (0,0))):w.cell? ⟨b,i,none⟩=E[i]? :=kbx w b i _ _ _ h
def Kp (No:Nat->Prop)(w w':World):Prop:=∀g,g<w.heap.size->No g->w'.heap[g]? =w.heap[g]?
theorem Kp.refl (No:Nat->Prop)(w:World):Kp No w w:=fun _ _ _=>rfl
theorem Kp.trans {a b c:World}(h:Kp No a b)(k:Kp No b c)(G:a.heap.size<=b.heap.size):Kp No a c:=fun g E hn=>(k g om hn).trans (h g E hn)
theorem Kp.grown {a:World}(h:Kp No a w)(I:w.grownBy w' r)(O:a.heap.size<=w.heap.size)(G:∀j,r=some j->¬No j):Kp No a w':=by intro g H E;rw[I.block g om (fun e=>G g e.symm E)];exact h g H E
theorem Bytes.grown {o:Nat}{xs:List Nat}(h:Bytes w b o xs)(G:w.grownBy w' r)(H:some b≠r):Bytes w' b o xs:=fun j E=>G.cell (h j E) H
theorem Kp.weaken (h:Kp No' w w')(H:∀g,No g->No' g):Kp No w w':=fun g E G=>h g E (H g G)
theorem Bv {B:Nat}{xs:List Value}(h:w.ownsRow B e ac v n xs)(E:∀g,v.ownBlock=some g->w'.heap[g]? =w.heap[g]?):w'.ownsRow B e ac v n xs:=by refine⟨h.1, ?_⟩;rcases h.2 with ai|⟨g,cap,cur,ai,G,I,H⟩;exact .inl ai;exact .inr ⟨g,cap,cur,ai,G,(E g qAC).trans I,H⟩
theorem D0 {B B':Nat}{xs:List Value}(h:w.ownsRow B e ac v n xs)(H:B'<=B):w.ownsRow B' e ac v n xs:=by refine⟨h.1, ?_⟩;rcases h.2 with E|⟨g,cap,cur,E,G,I⟩;exact .inl E;exact .inr ⟨g,cap,cur,E,WJ H G,I⟩
theorem Ax {B:Nat}{xs:List Value}(h:w.ownsRow B e ac v n xs)(H:0<n):∃g cap,v=.slice (some ⟨g,0,none⟩) n cap/\B<=g/\g<w.heap.size:=by(rcases h.2 with ⟨ai,E⟩|⟨g,cap,cur,ai,E,G⟩);omega;exact⟨g,cap,ai,E,(h.lt g qAC).2⟩
theorem A5 (xs:List Nat)(y:Nat):u8s (xs++ [y])=u8s xs++ [int .u8 (y:Int)]:=by simp[u8s]
theorem Cb (h:BytesIn w a bs)(E:0<bs.length):∃b o,a=some ⟨b,o,none⟩/\b<w.heap.size/\Bytes w b o bs:=by rcases h with rfl|h;simp at E;exact h
theorem BytesIn.ofOwn {B:Nat}{xs:List Nat}(h:w.ownsRow B 5 1 v n (u8s xs)):xs.length=n/\∃a c,v=.slice a n c/\BytesIn w a xs:=by have hn:=dH;refine⟨hn, ?_⟩;(rcases h.2 with ⟨E,G⟩|⟨g,cap,cur,E,_⟩);subst G;exact⟨none,0,E,.inl (WK hn)⟩;subst E;exact⟨_,_,rfl,BytesIn.own h⟩
theorem Am {B:Nat}{xs:List Value}(h:w.ownsRow B e ac v n xs):∃a c,v=.slice a n c:=by(rcases h.2 with ⟨E,G⟩|⟨g,cap,cur,E,_⟩);subst G;exact⟨none,0,E⟩;exact⟨_,_,E⟩
theorem Z9i (w:World)(a7:n<=9223372036854775807)(a6:ac<=100):Calls prog 62 #[int i64 (n:Int),int i64 (ac:Int)] w fun e w'=>∃v,e=.returned v/\w'.ownsRow w.heap.size 5 1 v ac (u8s (Ah n ac))/\Below w.heap.size w w':=by obtain⟨ar,hi,af,aj,ap⟩:=kas Gq;go_enter func62,ntmps62;go_wp2;go_loopw [0,5,7] (fun aw ax i wr=>∃k:Nat,k<=ac/\i=int i64 (k:Int)/\aw=int i64 ((n/256^k:Nat):Int)/\Hid (wr.ownsRow w.heap.size 5 1 ax k (u8s (Ah n k))/\Below w.heap.size w wr)) (fun _ _ i _=>ac-(intOf i).toNat);exact⟨0,VF _,rfl,oS,kaq _ _ _ _,kaa _ _⟩;obtain⟨k,a4,rfl,rfl,E⟩:=hrel;by_cases a3:k<ac;(. obtain⟨q,G⟩:=exq (n/256^k);(have az:q<=n:=by rw[<-G];exact YW _ _);(have U:n/256^(k+1)=q/256:=by rw[XI,<-ZX,G]);have H:=Ub k n;rw[G]at H ⊢;have ae:=Ab U;have ai:=Ab H;have ao:=E.2.size;(have hr:((q:Int)).tmod 256=((q%256:Nat):Int):=by rw[Int.tmod_eq_emod_of_nonneg om];omega);(have ay:((q:Int)).tdiv 256=((q/256:Nat):Int):=by rw[Int.tdiv_eq_ediv_of_nonneg om];omega);(have a5:IntKind.u8.wrap ((q%256:Nat):Int)=((q%256:Nat):Int):=by simp[IntKind.wrap,IntKind.bits,IntKind.signed];try omega);obtain⟨au,ah,al⟩:=ydC (E.1.alloc (.cells #[int .u8 ((q%256:Nat):Int)] 5)) (E.2.alloc ao (.cells #[int .u8 ((q%256:Nat):Int)] 5)) (Vr (w:=wr) (x:=int .u8 ((q%256:Nat):Int)) (t:=5) rfl);clear G U H;go_wp2_with (at_builtin;refine kao _ rfl _ _ 23 rfl w.heap.size 5 ar (int .u8 0) 1 1 underlying23 hi af aj ap rfl od _ k (u8s (Ah n k)) rfl au ⟨wr.heap.size,0,none⟩ 1 1 [int .u8 ((q%256:Nat):Int)] rfl rfl (fun j u av=>Rm al av) (Df rfl) ou om oO ?_);intro v' aa O I _ _;have ag:=Ab (ah.grown I oO (fun g e=>(E.1.lt g e).1));(have ak:Hid (aa.ownsRow w.heap.size 5 1 v' (k+1) (u8s (Ah n (k+1)))):=by rw[Aa ai,A5];exact O);clear O I;go_wp2;go_roundw;exact⟨k+1,om,by go_num,by rw[Aa ae,Int.natCast_ediv];rfl,ak,ag⟩;simp[intOf];omega);. obtain rfl:ac=k:=om;go_wp2;go_ret;exact⟨_,rfl,E.1,E.2⟩
theorem TZ (n c:Nat)(ae:bs.length=n)(a4:n<=7)(h:BytesIn w a bs)(I:∀x∈bs,x<256):Calls prog 38 #[.slice a n c] w fun e w'=>e=.returned (int i64 ((Ak bs:Nat):Int))/\w'=w:=by
 have ao:=Ab h;have ay:=Ab ae;(have ai:∀k,1<=k->k<=n->Ak (bs.drop k)<256^6:=by intro k az E;have ap:=Ip (bs.drop k) (fun x av=>I x (WM av));refine VC ap (VN od ?_);rw[VR];omega);have al:=Ab ai;have O:∀k,k<n->Ak (bs.drop k)=256*Ak (bs.drop (k+1))+bs.getD k 0:=fun k E=>MQ om;have ax:=Ab O;(have U:∀k,bs.getD k 0<256:=by intro k;by_cases E:k<bs.length;(have e:bs.getD k 0=bs[k]:=by simp[List.getD,E]);rw[e];exact I _ (WO E);simp[List.getD,E]);have ar:=Ab U;clear h ae ai O I U;go_enter func38,ntmps38;go_wp2;go_loopw [3,4] (fun ak v4 wr=>∃k:Nat,k<=n/\v4=int i64 ((k:Int)-1)/\ak=int i64 ((Ak (bs.drop k):Nat):Int)/\Hid (wr=w)) (fun _ v4 _=>(intOf v4+1).toNat);exact⟨n,VA _,rfl,by rw[XE uG];rfl,rfl⟩;obtain⟨k,E,rfl,rfl,ah⟩:=hrel;have au:wr=w:=Aa ah;subst au;clear ah
 cases k with
 |zero=>go_wp2;go_ret;exact⟨rfl,rfl⟩
 |succ j=>obtain⟨b,o,rfl,hb,ag⟩:=Cb ao uF;have hc:=ag j uF;have af:=Aa ax j om;have aa:=Aa al (j+1) om E;have aw:=Aa ar j;have ac:=Ab af;obtain⟨q,G⟩:=exq (Ak (bs.drop (j+1)));obtain⟨y,H⟩:=exq (bs.getD j 0);rw[G,H]at ac;rw[G]at aa ⊢;rw[H]at hc aw;clear G H af ag;have aj:((j+1:Nat):Int)-1=(j:Int):=om;rw[aj];have a3:(j:Int)<n:=om;simp only[Nat.reducePow]at aa;go_wp2;go_roundw;exact⟨j,om,by go_num,by rw[Aa ac];go_num,by first|exact Ab rfl|exact Ab trivial⟩;simp[intOf]
end Go.Proofs.YtleocpdblhbimaaGreatDoor
namespace Go.Proofs.YtleocpdblhbimaaGreatDoor
open Go
open Go.Value (int)
open Go.IntKind (i64)
def B (l:List UInt8):ByteArray:=⟨l.toArray⟩
theorem KT (s:ByteArray):B s.data.toList=s:=by cases s;rfl
theorem BG (l:List UInt8):(B l).data.toList=l:=rfl
theorem Jp (l:List UInt8):(B l).size=l.length:=by simp[B,ByteArray.size]
theorem Z4b (s:ByteArray):s.size=s.data.toList.length:=(Array.length_toList).symm
def spl:List UInt8->List (List UInt8)
 | []=> [[]]
 |c::r=>if c=47 then []::spl r else
  match spl r with
  | []=> [[c]]
  |p::ps=>(c::p)::ps
theorem Z6y (l:List UInt8):spl l≠ []:=by
 cases l with
 |nil=>simp[spl]
 |cons c r=>simp only[spl];split;simp;. split<;>simp
theorem Ii {c:UInt8}{r:List UInt8}(h:c≠47):∃p ps,spl r=p::ps/\spl (c::r)=(c::p)::ps:=by
 cases E:spl r with
 |nil=>exact absurd E (Z6y r)
 |cons p ps=>exact⟨p,ps,rfl,by simp[spl,h,E]⟩
def jn (ps:List (List UInt8)):List UInt8:=Lib.join ps [47]
theorem Z7j (p:List UInt8):jn [p]=p:=Lib.join_one _ _
theorem Z7i (p q:List UInt8)(r:List (List UInt8)):jn (p::q::r)=p++47::jn (q::r):=by unfold jn;rw[Lib.join_cons,Lib.join_cons];simp[Lib.joinTail]
theorem Zbx:∀l:List UInt8,jn (spl l)=l
 | []=>by simp[spl,Z7j]
 |c::r=>by
  have ih:=Zbx r;by_cases h:c=47
  . subst h
    cases E:spl r with
    |nil=>exact absurd E (Z6y r)
    |cons p ps=>rw[show spl (47::r)= []::spl r from by simp[spl],E,Z7i,<-E,ih];rfl
  . obtain⟨p,ps,H,G⟩:=pT;rw[G];rw[H]at ih
    cases ps with
    |nil=>rw[Z7j]at ih ⊢;rw[ih]
    |cons q ps=>rw[Z7i]at ih ⊢;rw[<-ih];simp
theorem SC (l:List UInt8):(spl l).length=l.count 47+1:=by
 induction l with
 |nil=>simp[spl]
 |cons c r ih=>by_cases h:c=47;subst h;simp[spl,ih];obtain⟨p,ps,E,G⟩:=pT;rw[G,List.count_cons_of_ne uJ,<-ih,E];simp
theorem Z6z (l:List UInt8):∀p∈spl l,p.length<=l.length:=by
 induction l with
 |nil=>intro p E;simp[spl]at E;subst E;simp
 |cons c r ih=>by_cases h:c=47;subst h;intro p E;rw[show spl (47::r)= []::spl r from by simp[spl]]at E;rcases VV.1 E with G|G;subst G;simp;have:=ih p G;simp;omega;obtain⟨q,O,G,I⟩:=pT;intro p E;rw[I]at E;rcases VV.1 E with H|H;subst H;have:=ih q (by rw[G];simp);simp;omega;have:=ih p (by rw[G];simp[H]);simp;omega
theorem Ya:∀(l:List UInt8),Lib.splitK [47] 0 (Lib.count l [47]) l=spl l
 | []=>by rw[Lib.count_one];simp[spl,Lib.splitK]
 |c::r=>by
  have ih:=Ya r;by_cases h:c=47;subst h;rw[Lib.count_cons_eq,Nat.add_comm];(have E:Lib.index (47::r) [47]=0:=by rw[Lib.index];simp[List.isPrefixOf]);rw[Lib.splitK,E];simp[spl,ih]
  . rw[Lib.count_cons_ne _ _ _ h];obtain⟨p,ps,aa,U⟩:=pT;rw[U];(have E:Lib.index (c::r) [47]=if Lib.index r [47]== -1 then-1 else Lib.index r [47]+1:=by rw[Lib.index];(have O:([47]:List UInt8).isPrefixOf (c::r)=false:=by simp[List.isPrefixOf,Ne.symm h]);rw[O];simp);rw[aa]at ih
    cases G:Lib.count r [47]with
    |zero=>rw[G]at ih;simp only[Lib.splitK]at ih ⊢;injection ih with i1 i2;rw[i1,<-i2]
    |succ k=>rw[G]at ih;simp only[Lib.splitK]at ih ⊢;by_cases hm:Lib.index r [47]= -1;rw[if_pos (by rw[E,if_pos (by simp[hm])];rfl)];rw[if_pos (by simp[hm])]at ih;injection ih with i1 i2;rw[i1,<-i2];have ac:=Lib.index_ge r [47];obtain⟨j,H⟩:∃j:Nat,Lib.index r [47]=j:=⟨(Lib.index r [47]).toNat,om⟩;(have I:Lib.index (c::r) [47]=((j+1:Nat):Int):=by rw[E,if_neg (by simp[hm]),H];omega);rw[H]at ih;rw[I];rw[if_neg oS]at ih;rw[if_neg oO];injection ih with i1 i2;simp only[WQ,XS,YC]at i1 ⊢;rw[i1];congr 1
theorem MA (s:ByteArray):Lib.splitB ⟨#[47]⟩ 0 (Lib.countB s ⟨#[47]⟩) s=(spl s.data.toList).map B:=by have h:=Lib.splitB_data ⟨#[47]⟩ 0 (Lib.countB s ⟨#[47]⟩) s;have E:=sO;have G:(⟨#[47]⟩:ByteArray).data.toList= [47]:=rfl;rw[E,G,Ya]at h;rw[E,<-h,List.map_map];(have:(B ∘ fun x:ByteArray=>x.data.toList)=id:=by funext x;exact KT x);rw[this,List.map_id]
theorem OW (s:ByteArray):Lib.countB s ⟨#[47]⟩+1=(spl s.data.toList).length:=by rw[SC];have E:=sO;rw[E,Lib.count_one]
def okB (c:UInt8):Bool:=(97<=c&&c<=122)||(65<=c&&c<=90)||(48<=c&&c<=57)||c==46||c==95||c==45
def okP (p:List UInt8):Bool:=p != []&&p != [46]&&p != [46,46]&&p.all okB
def Ln (l:List UInt8):Nat:=if 40<l.length then 2 else if (spl l).all okP then 0 else 1
theorem Za0 {l:List UInt8}(h:Ln l=0):l.length<=40/\(spl l).all okP=true:=by unfold Ln at h;split at h;omega;. split at h;exact⟨om,by assumption⟩;omega
theorem Z1p {l:List UInt8}(h:l.length<=40)(E:(spl l).all okP=true):Ln l=0:=by unfold Ln;rw[if_neg om,if_pos E]
def Ic:List UInt8:= [97,98,99,100,101,102,103,104,105,106,107,108,109,110,111,112,113,114,115,116,117,118,119,120,121,122,65,66,67,68,69,70,71,72,73,74,75,76,77,78,79,80,81,82,83,84,85,86,87,88,89,90,48,49,50,51,52,53,54,55,56,57,46,95,45]
theorem Z97:∀c:UInt8,Ic.contains c=okB c:=by have h:∀n:Fin 256,Ic.contains (UInt8.ofNat n.val)=okB (UInt8.ofNat n.val):=tD;intro c;have:=h ⟨c.toNat,c.toNat_lt⟩;simpa using this
theorem Z1t {f:UInt8->Bool}{l:List UInt8}:l.dropWhile f= []↔∀x∈l,f x=true:=by
 induction l with
 |nil=>simp
 |cons c r ih=>rw[List.dropWhile_cons];split;(. rename_i h;rw[ih];simp[h]);. rename_i h;simp[h]
theorem Z3w {l:List UInt8}:Lib.trimS l Ic= []↔l.all okB=true:=by
 (have e:(fun b=>Ic.contains b)=okB:=by funext c;exact Z97 c);unfold Lib.trimS Lib.trimLeftS Lib.trimRightS;rw[e];constructor
 . intro h;rw[Z1t]at h
   have E:l.reverse.dropWhile okB= []:=by
    cases G:l.reverse.dropWhile okB with
    |nil=>rfl
    |cons x xs=>(have U:¬okB x=true:=by have:=List.head_dropWhile_not okB (l:=l.reverse) (by rw[G];simp);simpa[G]using this);exact absurd (h x (by rw[G];simp)) U
   rw[Z1t]at E;rw[XA];intro x U;exact E x uT
 intro h;(have E:l.reverse.dropWhile okB= []:=by rw[Z1t];intro x U;exact XA.1 h x uT);rw[E];rfl
structure Fl where
 name:List UInt8
 bytes:List UInt8
 stamp:Int
 node:Int
 gone:Bool
deriving DecidableEq
abbrev Dy (a b:List UInt8):Int:=Lib.compareBytes a b
theorem Fm (a b:UInt8)(x y:List UInt8):Dy (a::x) (b::y)=if a<b then-1 else if b<a then 1 else Dy x y:=rfl
theorem RE (a b:UInt8):(a<b)=(a.toNat<b.toNat):=by rw[UInt8.lt_iff_toNat_lt]
theorem RD {a b:UInt8}(E:¬a<b)(G:¬b<a):a=b:=by rw[RE]at E G;exact UInt8.toNat_inj.1 om
theorem Om:∀a:List UInt8,Dy a a=0
 | []=>rfl
 |a::x=>by rw[Fm,if_neg (by rw[RE];omega),if_neg (by rw[RE];omega)];exact Om x
theorem Je:∀ {a b:List UInt8},Dy a b=0->a=b
 | [],[],_=>rfl
 | [],_::_,h=>by cases h
 |_::_,[],h=>by cases h
 |a::x,b::y,h=>by rw[Fm]at h;split at h;(. cases h);. split at h;(. cases h);. rename_i E G;rw[RD E G,Je h]
theorem BL {a b:List UInt8}:Dy a b=0↔a=b:=⟨Je,fun h=>by rw[h,Om]⟩
theorem Bu:∀a b:List UInt8,Dy a b= -1\/Dy a b=0\/Dy a b=1
 | [],[]=>.inr (.inl rfl)
 | [],_::_=>.inl rfl
 |_::_,[]=>.inr (.inr rfl)
 |a::x,b::y=>by rw[Fm];split;exact .inl rfl;. split;exact .inr (.inr rfl);exact Bu x y
theorem Ew:∀a b:List UInt8,Dy b a= -Dy a b
 | [],[]=>rfl
 | [],_::_=>rfl
 |_::_,[]=>rfl
 |a::x,b::y=>by rw[Fm,Fm];by_cases E:a<b;(have G:¬b<a:=by rw[RE]at E ⊢;omega);rw[if_neg G,if_pos E,if_pos E];rfl;by_cases G:b<a;rw[if_pos G,if_neg E,if_pos G];rw[if_neg G,if_neg E,if_neg E,if_neg G];exact Ew x y
theorem Dw:∀ {a b c:List UInt8},Dy a b<0->Dy b c<0->Dy a c<0
 | [],[],_,h,_=>by cases h
 | [],_::_,[],_,h=>by cases h
 | [],_::_,_::_,_,_=>by show (-1:Int)<0;decide
 |_::_,[],_,h,_=>by cases h
 |_::_,_::_,[],_,h=>by cases h
 |a::x,b::y,c::z,h,k=>by rw[Fm]at h k ⊢;by_cases E:a<b;(. by_cases k1:b<c;(have:a<c:=by rw[RE]at E k1 ⊢;omega);rw[if_pos this];decide;. rw[if_neg k1]at k;by_cases k2:c<b;(. rw[if_pos k2]at k;cases k);have:=RD k1 k2;subst this;rw[if_pos E];decide);. rw[if_neg E]at h;by_cases G:b<a;(. rw[if_pos G]at h;cases h);. rw[if_neg G]at h;have:=RD E G;subst this;by_cases k1:a<c;rw[if_pos k1];decide;. rw[if_neg k1]at k ⊢;by_cases k2:c<a;(. rw[if_pos k2]at k;cases k);rw[if_neg k2]at k ⊢;exact Dw h k
theorem D8:∀a b:List UInt8,Op.bytesLess a b=decide (Dy a b<0)
 | [],[]=>rfl
 | [],_::_=>rfl
 |_::_,[]=>rfl
 |a::x,b::y=>by show (decide (a<b)||(a==b&&Op.bytesLess x y))=_;rw[Fm,D8 x y];by_cases E:a<b;simp[E];rw[if_neg E];by_cases G:b<a;(have:(a==b)=false:=by rw[beq_eq_false_iff_ne];rintro rfl;exact E G);rw[if_pos G,this];simp[E];have:=RD E G;subst this;rw[if_neg G];simp[E]
def Kq (a b:Int):Int:=if a<b then-1 else if b<a then 1 else 0
def Zau (a b:Bool):Int:=if a=b then 0 else if a then 1 else-1
def nz (a b:Int):Int:=if a≠0 then a else b
def nwr (a b:Fl):Int:=nz (Kq a.stamp b.stamp) (nz (Kq a.node b.node) (nz (Zau a.gone b.gone) (Dy a.bytes b.bytes)))
structure Ord3 {α:Type}(P:α->α->Int):Prop where
 three:∀a b,P a b= -1\/P a b=0\/P a b=1
 anti:∀a b,P b a= -P a b
 trans:∀ {a b c},P a b<=0->P b c<=0->P a c<=0
 zero:∀ {a b c},P a b=0->P a c=P b c
theorem Z6h:Ord3 Dy where
 three:=Bu
 anti:=Ew
 trans {a b c} h k:=by
  rcases Bu a b with E|E|E
  . rcases Bu b c with k1|k1|k1
    . have:= @Dw a b c om om;omega
    . rw[<-Je k1];omega
    . omega
  . rw[Je E];exact k
  . omega
 zero {a b c} h:=by rw[Je h]
def Lg (f:Fl):Nat:=
 if Ln f.name≠0 then Ln f.name else if 3000<f.bytes.length then 2 else if f.stamp<0\/1000000<f.stamp\/f.node<0\/3<f.node then 3
 else if f.gone=true/\0<f.bytes.length then 4 else 0
def behind:Option Fl->Fl->Bool
 |none,_=>true
 |some x,f=>decide (Dy x.name f.name<0)
def K7:Option Fl->List Fl->Nat
 |_,[]=>0
 |p,f::r=>if Lg f≠0 then Lg f else if behind p f=false then 4 else K7 (some f) r
def errM (l:List Fl):Nat:=if 12<l.length then 2 else K7 none l
def Nj (x y:Fl):Fl:=if 0<nwr y x then y else x
def tog:List Fl->List Fl->List Fl
 | [],b=>b
 |x::a,[]=>x::a
 |x::a,y::b=>if Dy x.name y.name<0 then x::tog a (y::b)else if 0<Dy x.name y.name then y::tog (x::a) b else Nj x y::tog a b
termination_by a b=>a.length+b.length
theorem Jv (b:List Fl):tog [] b=b:=by unfold tog;rfl
theorem Ky (a:List Fl):tog a []=a:=by
 cases a with
 |nil=>exact Jv []
 |cons x a=>unfold tog;rfl
theorem O2 {x y:Fl}{a b:List Fl}(h:Dy x.name y.name<0):tog (x::a) (y::b)=x::tog a (y::b):=by rw[tog,if_pos h]
theorem GS {x y:Fl}{a b:List Fl}(h:0<Dy x.name y.name):tog (x::a) (y::b)=y::tog (x::a) b:=by rw[tog,if_neg om,if_pos h]
theorem GT {x y:Fl}{a b:List Fl}(h:Dy x.name y.name=0):tog (x::a) (y::b)=Nj x y::tog a b:=by rw[tog,if_neg om,if_neg om]
end Go.Proofs.YtleocpdblhbimaaGreatDoor
namespace Go.Proofs.YtleocpdblhbimaaGreatDoor.Stab
open Go.RowKit Go.Proofs.Tryz
open Go.Value (int)
open Go.IntKind (i64)
variable{G aa ac b k m:Nat}
variable {α:Type}
def swp (d:Nat->α)(i j:Nat):Nat->α:=fun k=>if k=i then d j else if k=j then d i else d k
def swr (d:Nat->α)(a b:Nat):Nat->Nat->α
 |0=>d
 |i+1=>swp (swr d a b i) (a+i) (b+i)
def rot (d:Nat->α)(a m b:Nat):Nat->α:=fun k=>if a<=k/\k<a+(b-m)then d (k+(m-a))else if a+(b-m)<=k/\k<b then d (k-(b-m))else d k
theorem GW (d:Nat->α)(a b:Nat):∀n,(a+n<=b\/b+n<=a)->∀k,swr d a b n k=if a<=k/\k<a+n then d (b+(k-a))else if b<=k/\k<b+n then d (a+(k-b))else d k
 |0,_,k=>by rw[swr,kab om,kab om]
 |n+1,h,k=>by have ih:=GW d a b n om;rw[swr,swp];by_cases E:k=a+n;rw[kac E,kac om,ih,kab om,kab om];congr 1;omega;rw[kab E];by_cases G:k=b+n;rw[kac G,kab om,kac om,ih,kab om,kab om];congr 1;omega;rw[kab G,ih];by_cases I:a<=k/\k<a+n;rw[kac I,kac om];rw[kab I];by_cases H:b<=k/\k<b+n;rw[kac H,kab om,kac om];rw[kab H,kab om,kab om]
theorem rot_gt (d:Nat->α)(m i j:Nat)(h:j<i)(O:i<=m):rot (swr d (m-i) m j) (m-(i-j)) m (m+j)=rot d (m-i) m (m+j):=by funext k;have E:=GW d (m-i) m j om;unfold rot;by_cases H:m-i<=k/\k<m-i+(m+j-m);rw[kac H,kab om,kab om,E,kac om];congr 1;omega;rw[kab H];by_cases G:m-(i-j)<=k/\k<m-(i-j)+(m+j-m);rw[kac G,E,kab om,kac om,kac om];congr 1;omega;rw[kab G];by_cases I:m-(i-j)+(m+j-m)<=k/\k<m+j;rw[kac I,E,kab om,kab om,kac om];rw[kab I,E,kab om,kab om,kab om]
theorem rot_lt (d:Nat->α)(m i j:Nat)(h:i<j)(U:i<=m):rot (swr d (m-i) (m+j-i) i) (m-i) m (m+(j-i))=rot d (m-i) m (m+j):=by funext k;have E:=GW d (m-i) (m+j-i) i om;unfold rot;by_cases H:m-i<=k/\k<m-i+(m+(j-i)-m);rw[kac H,kac om,E,kab om];by_cases O:m+j-i<=k+(m-(m-i))/\k+(m-(m-i))<m+j-i+i;omega;rw[kab O];rw[kab H];by_cases I:m-i+(m+(j-i)-m)<=k/\k<m+(j-i);rw[kac I,kac om,E,kac om];congr 1;omega;rw[kab I,E];by_cases G:m+j-i<=k/\k<m+j-i+i;rw[kab om,kac G,kab om,kac om];congr 1;omega;rw[kab om,kab G,kab om,kab om]
theorem rot_eq (d:Nat->α)(m i:Nat)(H:i<=m):swr d (m-i) m i=rot d (m-i) m (m+i):=by funext k;rw[GW d (m-i) m i om,rot];by_cases E:m-i<=k/\k<m-i+i;rw[kac E,kac om];congr 1;omega;rw[kab E];by_cases G:m<=k/\k<m+i;rw[kac G,kab om,kac om];congr 1;omega;rw[kab G,kab om,kab om]
def seg (d:Nat->α)(a b:Nat):List α:=(List.range (b-a)).map fun i=>d (a+i)
structure Moved (a b:Nat)(d d':Nat->α):Prop where
 out:∀k,¬(a<=k/\k<b)->d' k=d k
 perm:(seg d' a b).Perm (seg d a b)
theorem Moved.refl (a b:Nat)(d:Nat->α):Moved a b d d:=⟨fun _ _=>rfl,List.Perm.refl _⟩
theorem Moved.trans {a:Nat}{d d' E:Nat->α}(h:Moved a b d d')(k:Moved a b d' E):Moved a b d E:=
 ⟨fun i hi=>(k.out i hi).trans (h.out i hi),k.perm.trans h.perm⟩
theorem seg_split (d:Nat->α)(a m b:Nat)(E:a<=m)(G:m<=b):seg d a b=seg d a m++seg d m b:=by apply XM;simp[seg];omega;. intro i I H;rw[List.getElem_append];simp only[seg,List.getElem_map,List.getElem_range,WP,List.length_range];split;rfl;congr 1;omega
theorem R9 {d d':Nat->α}{a:Nat}(h:∀k,a<=k->k<b->d' k=d k):seg d' a b=seg d a b:=by apply XM (by simp[seg]);intro i E G;(have:i<b-a:=by simpa[seg]using E);simp only[seg,List.getElem_map,List.getElem_range];exact h _ om om
theorem mem_seg {d:Nat->α}{a:Nat}{x:α}:x∈seg d a b↔∃k,a<=k/\k<b/\d k=x:=by simp only[seg,WU,List.mem_range];constructor;rintro ⟨i,hi,rfl⟩;exact⟨a+i,om,om,rfl⟩;rintro ⟨k,E,G,rfl⟩;exact⟨k-a,om,by congr 1;omega⟩
theorem Moved.mem {a:Nat}{d d':Nat->α}(h:Moved a b d d')(E:a<=k)(G:k<b):∃j,a<=j/\j<b/\d j=d' k:=by have:d' k∈seg d' a b:=mem_seg.2 ⟨k,E,G,rfl⟩;exact mem_seg.1 (h.perm.mem_iff.1 this)
theorem Moved.wider {a:Nat}{d d':Nat->α}(h:Moved a b d d')(I:G<=a)(H:a<=b)(O:b<=ac):Moved G ac d d':=by refine⟨fun k E=>h.out k om, ?_⟩;rw[seg_split d' G a ac I om,seg_split d G a ac I om,seg_split d' a b ac H O,seg_split d a b ac H O];rw[R9 (d:=d) (d':=d') (a:=G) (b:=a) (fun k _ E=>h.out k om),R9 (d:=d) (d':=d') (a:=b) (b:=ac) (fun k E _=>h.out k om)];exact(h.perm.append_right _).append_left _
theorem Z8l (d:Nat->α)(a m b:Nat)(G:a<=m)(H:m<=b):seg (rot d a m b) a b=seg d m b++seg d a m:=by apply XM;simp[seg];omega;intro i E I;(have hi:i<b-a:=by simpa[seg]using E);rw[List.getElem_append];simp only[seg,List.getElem_map,List.getElem_range,WP,List.length_range,rot];by_cases h:i<b-m;rw[dif_pos h,kac om];congr 1;omega;rw[dif_neg h,kab om,kac om];congr 1;omega
theorem moved_rot (d:Nat->α)(a m b:Nat)(E:a<=m)(G:m<=b):Moved a b d (rot d a m b):=by refine⟨fun k H=> ?_, ?_⟩;rw[rot,kab om,kab om];rw[Z8l d a m b E G,seg_split d a m b E G];exact List.perm_append_comm
variable (lt:α->α->Prop)
def Srt (d:Nat->α)(a b:Nat):Prop:=∀i j,a<=i->i<j->j<b->lt (d i) (d j)
theorem Srt.sub {E:α->α->Prop}{d:Nat->α}{a:Nat}(h:Srt E d a b)(U:a<=ac)(O:G<=b):Srt E d ac G:=fun i j hi H I=>h i j om H om
theorem Srt.congr {H:α->α->Prop}{d d':Nat->α}{a:Nat}(h:Srt H d a b)(G:∀k,a<=k->k<b->d' k=d k):Srt H d' a b:=fun i j hi I E=>by
 rw[G i hi om,G j om E];exact h i j hi I E
theorem Srt.join {E:α->α->Prop}{d:Nat->α}{a:Nat}(O:Srt E d a m)(I:Srt E d m b)(h:∀i j,a<=i->i<m->m<=j->j<b->E (d i) (d j)):Srt E d a b:=by intro i j hi H G;by_cases c1:j<m;exact O i j hi H c1;by_cases c2:i<m;exact h i j hi c2 om G;exact I i j om H G
theorem merge_step {E:α->α->Prop}(nu:∀x y z,E x y->E y z->E x z){d ae H:Nat->α}{a:Nat}(ah:a<=G)(aj:G<=m)(ay:m<=ac)(ar:ac<=b)(a8:aa+m=G+ac) (O:Srt E d a m) (U:Srt E d m b) (ai:a<G->ac<b->E (d (G-1)) (d ac)) (aw:G<m->m<ac->E (d (ac-1)) (d G)) (af:Moved a aa (rot d G m ac) ae) (ax:Srt E ae a aa) (I:Moved aa b ae H) (ap:Srt E H aa b):Srt E H a b/\Moved a b d H:=by have a5:G<=aa/\aa<=ac:=om;constructor;refine Srt.join (m:=aa) (ax.congr fun k _ a6=>I.out k om) ap ?_;intro i j hi al az a3;rw[I.out i om];obtain⟨p,ag,a7,av⟩:=af.mem hi al;obtain⟨q,a4,a9,ao⟩:=I.mem az a3;rw[<-av,<-ao,af.out q om];(have au:rot d G m ac p=if p<G then d p else d (p+(m-G)):=by unfold rot;by_cases c:p<G;rw[kab om,kab om,kac c];rw[kac om,kab c]);(have ak:rot d G m ac q=if q<ac then d (q-(ac-m))else d q:=by unfold rot;by_cases c:q<ac;rw[kab om,kac om,kac c];rw[kab om,kab om,kab c]);rw[au,ak];by_cases c1:p<G;rw[kac c1];by_cases c2:q<ac;rw[kac c2];exact O _ _ ag om om;rw[kab c2];have e1:E (d (G-1)) (d ac):=ai om om;(have e2:d p=d (G-1)\/E (d p) (d (G-1)):=by by_cases c:p=G-1;left;rw[c];right;exact O _ _ ag om om);(have e3:d ac=d q\/E (d ac) (d q):=by by_cases c:ac=q;left;rw[c];right;exact U _ _ om om om);exact zB;rw[kab c1];by_cases c2:q<ac;rw[kac c2];have e1:E (d (ac-1)) (d G):=aw om om;(have e2:d (p+(m-G))=d (ac-1)\/E (d (p+(m-G))) (d (ac-1)):=by by_cases c:p+(m-G)=ac-1;left;rw[c];right;exact U _ _ om om om);(have e3:d G=d (q-(ac-m))\/E (d G) (d (q-(ac-m))):=by by_cases c:G=q-(ac-m);left;rw[<-c];right;exact O _ _ ah om om);exact zB;rw[kab c2];exact U _ _ om om om;exact(((moved_rot d G m ac aj ay).wider ah om ar).trans (af.wider (VA _) om om)).trans (I.wider om om (VA _))
end Go.Proofs.YtleocpdblhbimaaGreatDoor.Stab
namespace Go.Proofs.YtleocpdblhbimaaGreatDoor.Stab
open Go.RowKit Go.Proofs.Tryz
open Go.Value (int)
open Go.IntKind (i64)
variable{G aa ac b i m:Nat}
def lx (x y:Int×Int):Prop:=x.1<y.1\/ (x.1=y.1/\x.2<y.2)
theorem lx_trans (x y z:Int×Int)(h:lx x y)(k:lx y z):lx x z:=by unfold lx at*;omega
def Cross (d:Nat->Int×Int)(a m b:Nat):Prop:=∀i j,a<=i->i<m->m<=j->j<b->(d i).2<(d j).2
theorem cross_less {x y:Int×Int}(h:x.2<y.2):(decide (y.1<x.1)=true->lx y x)/\(decide (y.1<x.1)=false->lx x y):=by unfold lx;constructor;intro e;have:=kax e;omega;intro e;have:=kbj e;omega
theorem rot_left (d:Nat->Int×Int)(m b:Nat):rot d m m b=d:=by funext k;unfold rot;by_cases h:m<=k/\k<m+(b-m);rw[kac h];congr 1;omega;rw[kab h,kab om]
theorem rot_right (d:Nat->Int×Int)(a m:Nat):rot d a m m=d:=by funext k;unfold rot;rw[kab om];by_cases h:a+(m-m)<=k/\k<m;rw[kac h];congr 1;omega;rw[kab h]
theorem merge_parts {d:Nat->Int×Int}{a:Nat}(al:a<=ac)(aj:ac<=m)(ap:m<=G)(ak:G<=b)(ao:aa+m=ac+G)(af:Srt lx d a m)(ag:Srt lx d m b)(ah:Cross d a m b):(Srt lx (rot d ac m G) a ac/\Srt lx (rot d ac m G) ac aa/\Cross (rot d ac m G) a ac aa)/\(Srt lx (rot d ac m G) aa G/\Srt lx (rot d ac m G) G b/\Cross (rot d ac m G) aa G b):=by(have e1:∀k,k<ac->rot d ac m G k=d k:=fun k I=>by unfold rot;rw[kab om,kab om]);(have e2:∀k,ac<=k->k<aa->rot d ac m G k=d (k+(m-ac)):=fun k I ai=>by unfold rot;rw[kac om]);(have e3:∀k,aa<=k->k<G->rot d ac m G k=d (k-(G-m)):=fun k I ai=>by unfold rot;rw[kab om,kac om]);(have U:∀k,G<=k->rot d ac m G k=d k:=fun k I=>by unfold rot;rw[kab om,kab om]);refine⟨⟨?_, ?_, ?_⟩, ?_, ?_, ?_⟩;intro i j hi H E;rw[e1 i om,e1 j E];exact af i j hi H om;intro i j hi H E;rw[e2 i hi om,e2 j om E];exact ag _ _ om om om;intro i j hi O E ae;rw[e1 i O,e2 j E ae];exact ah _ _ hi om om om;intro i j hi H E;rw[e3 i hi om,e3 j om E];exact af _ _ om om om;intro i j hi H E;rw[U i hi,U j om];exact ag i j om H E;intro i j hi O E ae;rw[e3 i hi O,U j E];exact ah _ _ om om om ae
theorem Cross.congr {d d':Nat->Int×Int}{a:Nat}(h:Cross d a m b)(G:∀k,a<=k->k<b->d' k=d k):Cross d' a m b:=fun i j hi I H E=>by
 rw[G i hi om,G j om E];exact h i j hi I H E
theorem ins_first {d:Nat->Int×Int}{a:Nat}(ah:a<i)(ag:i<=b)(E:Srt lx d (a+1) b)(O:a+1<i->lx (d (i-1)) (d a))(U:i<b->lx (d a) (d i)):Srt lx (rot d a (a+1) i) a b:=by(have e1:∀k,a<=k->k<i-1->rot d a (a+1) i k=d (k+1):=fun k G I=>by unfold rot;rw[kac om];congr 1;omega);(have e2:rot d a (a+1) i (i-1)=d a:=by unfold rot;rw[kab om,kac om];congr 1;omega);(have e3:∀k,i<=k->rot d a (a+1) i k=d k:=fun k G=>by unfold rot;rw[kab om,kab om]);(have below:∀k,a+1<=k->k<i->lx (d k) (d a):=by intro k G I;by_cases c:k=i-1;rw[c];exact O om;exact lx_trans _ _ _ (E k (i-1) G om om) (O om));(have af:∀k,i<=k->k<b->lx (d a) (d k):=by intro k G I;by_cases c:k=i;rw[c];exact U om;exact lx_trans _ _ _ (U om) (E i k om om I));intro p q aa ac H;by_cases c1:p<i-1;rw[e1 p aa c1];by_cases c2:q<i-1;rw[e1 q om c2];exact E _ _ om om om;by_cases ae:q=i-1;rw[ae,e2];exact below _ om om;rw[e3 q om];exact E _ _ om om H;by_cases c2:p=i-1;rw[c2,e2,e3 q om];exact af q om H;rw[e3 p om,e3 q om];exact E _ _ om ac H
theorem ins_last {d:Nat->Int×Int}{a:Nat}(ae:a<=i)(ah:i<=m)(E:Srt lx d a m)(O:a<i->lx (d (i-1)) (d m))(U:i<m->lx (d m) (d i)):Srt lx (rot d i m (m+1)) a (m+1):=by(have e1:∀k,k<i->rot d i m (m+1) k=d k:=fun k G=>by unfold rot;rw[kab om,kab om]);(have e2:rot d i m (m+1) i=d m:=by unfold rot;rw[kac om];congr 1;omega);(have e3:∀k,i<k->k<=m->rot d i m (m+1) k=d (k-1):=fun k G I=>by unfold rot;rw[kab om,kac om];congr 1;omega);(have below:∀k,a<=k->k<i->lx (d k) (d m):=by intro k G I;by_cases c:k=i-1;rw[c];exact O om;exact lx_trans _ _ _ (E k (i-1) G om om) (O om));(have af:∀k,i<=k->k<m->lx (d m) (d k):=by intro k G I;by_cases c:k=i;rw[c];exact U om;exact lx_trans _ _ _ (U om) (E i k ae om I));intro p q H aa ag;by_cases c1:p<i;rw[e1 p c1];by_cases c2:q<i;rw[e1 q c2];exact E _ _ H aa om;by_cases ac:q=i;rw[ac,e2];exact below p H c1;rw[e3 q om om];exact E _ _ H om om;by_cases c2:p=i;rw[c2,e2,e3 q om om];exact af _ om om;rw[e3 p om om,e3 q om om];exact E _ _ om om om
theorem rot_up (d:Nat->Int×Int)(a k:Nat)(h:a<=k):swp (rot d a (a+1) (k+1)) k (k+1)=rot d a (a+1) (k+1+1):=by funext q;unfold swp rot;by_cases c1:q=k;rw[kac c1,kab om,kab om,kac om];congr 1;omega;rw[kab c1];by_cases c2:q=k+1;rw[kac c2,kab om,kac om,kab om,kac om];congr 1;omega;rw[kab c2];by_cases E:a<=q/\q<k;rw[kac om,kac om];rw[kab om,kab om,kab om,kab om]
theorem rot_down (d:Nat->Int×Int)(k m:Nat)(E:0<k)(h:k<=m):swp (rot d k m (m+1)) k (k-1)=rot d (k-1) m (m+1):=by funext q;unfold swp rot;by_cases c1:q=k;rw[kac c1,kab om,kab om,kab om,kac om];congr 1;omega;rw[kab c1];by_cases c2:q=k-1;rw[kac c2,kac om,kac om];congr 1;omega;rw[kab c2];by_cases G:k<q/\q<=m;rw[kab om,kac om,kab om,kac om];rw[kab om,kab om,kab om,kab om]
end Go.Proofs.YtleocpdblhbimaaGreatDoor.Stab
namespace Go.Proofs.YtleocpdblhbimaaGreatDoor
open Go.RowKit Go.Proofs.Tryz
open Go.Value (int)
open Go.IntKind (i64)
variable{aw ax:Act}{ag:Array Oper}{Q:Exit->Act->World->Prop}{row:List Bool}{U l small:List Int}{F G N aa ac c d i j k m n p q tot:Nat}{o:Oper}{w w':World}
theorem Hw {a:Nat}(E:a<4611686018427387904):(BitVec.ofInt 64 (a:Int)).toNat=a:=by rw[BitVec.ofInt_natCast,BitVec.toNat_ofNat];exact ZU om
theorem Gw (a:Nat)(E:a<4611686018427387904):IntKind.i64.wrap (a:Int)=a:=by rw[ka3];omega
theorem Um (a b:Nat)(E:a<4611686018427387904)(G:b<4611686018427387904):bits .and .i64 (a:Int) (b:Int)=((a&&&b:Nat):Int):=by have H:a&&&b<2^62:=Nat.and_lt_two_pow _ om;show IntKind.i64.wrap ((BitVec.ofInt 64 (a:Int)&&&BitVec.ofInt 64 (b:Int)).toNat:Int)=_;rw[BitVec.toNat_and,Hw E,Hw G];exact Gw _ om
theorem Pt (a b:Nat)(E:a<4611686018427387904)(G:b<4611686018427387904):bits .or .i64 (a:Int) (b:Int)=((a|||b:Nat):Int):=by have H:a|||b<2^62:=Nat.or_lt_two_pow om om;show IntKind.i64.wrap ((BitVec.ofInt 64 (a:Int)|||BitVec.ofInt 64 (b:Int)).toNat:Int)=_;rw[BitVec.toNat_or,Hw E,Hw G];exact Gw _ om
theorem Fj (n k:Nat):(n:Int)/2^k=((n/2^k:Nat):Int):=by push_cast;rfl
theorem EP (n k:Nat)(E:n<4611686018427387904):bits .and .i64 ((n:Int)/2^k) 1=((n/2^k%2:Nat):Int):=by rw[Fj];have h:n/2^k<=n:=YW _ _;have:=Um (n/2^k) 1 om om;exact jZ
theorem Zb0 (k:Nat)(E:n<256):bits .and .u8 ((n:Int)/2^k) 1=((n/2^k%2:Nat):Int):=by rw[Fj];have h:n/2^k<=n:=YW _ _;have:=u8_and_nat (n/2^k) 1 om om;exact jZ
theorem TC (h:k<=16):2^k<=65536:=VN (j:=16) od h
theorem IH (h:k<=7):2^k<=128:=VN (j:=7) od h
theorem Zi {x:Nat}(h:p<=q):x%2*p<=q:=by rcases XF x with e|e<;>rw[e]<;>omega
theorem RH (m n k:Nat)(E:m<65536)(G:n<65536):bits .or .i64 ((m:Int)*2) (bits .and .i64 ((n:Int)/2^k) 1)=((m*2|||n/2^k%2:Nat):Int):=by rw[EP n k om];have:=Pt (m*2) (n/2^k%2) om om;rw[<-this];push_cast;rfl
theorem Z4k {x:Nat}(k r:Nat)(E:x<256)(H:n<65536)(I:r<8):bits .or .u8 (x:Int) (bits .and .i64 ((n:Int)/2^k) 1%256*2^r%256)=((x|||n/2^k%2*2^r:Nat):Int):=by rw[EP n k om];have G:=Zi (x:=n/2^k) (IH (k:=r) om);(have e:(((n/2^k%2:Nat):Int)%256*2^r%256)=((n/2^k%2*2^r:Nat):Int):=by have e1:((n/2^k%2:Nat):Int)%256=((n/2^k%2:Nat):Int):=om;have e2:(((n/2^k%2:Nat):Int)*2^r)=((n/2^k%2*2^r:Nat):Int):=sW;rw[e1,e2];omega);rw[e];exact u8_or_nat _ _ E om
theorem Su (n k r i:Nat):(n/2^k%2*2^r).testBit i=(decide (i=r)&&n.testBit k):=by rw[Nat.testBit_mul_two_pow];(have h:∀j,(n/2^k%2).testBit j=(decide (j=0)&&n.testBit k):=by intro j;have:=Nat.testBit_mod_two_pow (n/2^k) 1 j;rw[Nat.pow_one]at this;rw[this,Nat.testBit_div_two_pow];by_cases E:j=0;subst E;simp;simp[E]);rw[h];by_cases hi:i=r;subst hi;simp;by_cases hl:r<=i;have:i-r≠0:=om;simp[hi,this];simp[hi,hl]
def Jq (n:Nat):Nat->Nat
 |0=>0
 |k+1=>Jq n k*2|||n/2^k%2
theorem Sr (n:Nat):∀k i,(Jq n k).testBit i=(decide (i<k)&&n.testBit (k-1-i))
 |0,i=>by simp[Jq]
 |k+1,i=>by have E:=Su n k 0 i;rw[Nat.pow_zero,Nat.mul_one]at E;have G:=Nat.testBit_mul_two_pow (Jq n k) i 1;rw[Nat.pow_one]at G;rw[Jq,Nat.testBit_or,E,G,Sr n k (i-1)];by_cases hi:i=0;subst hi;simp;have e:k+1-1-i=k-1-(i-1):=om;(have e2:(i-1<k)=(i<k+1):=by apply propext;omega);have e3:1<=i:=om;rw[e];simp only[e2,hi,e3,decide_true,ZP,kb0,Bool.false_and,Bool.or_false]
theorem Z3v (n k:Nat):Jq n k<2^k:=by apply Nat.lt_pow_two_of_testBit;intro i hi;rw[Sr];have:¬i<k:=om;simp[this]
def Jh (xs:List Nat)(k:Nat):Bool:=(xs.getD (k/8) 0).testBit (k%8)
theorem JP (xs:List Nat)(i j v:Nat):(xs.set i v).getD j 0=if i=j/\i<xs.length then v else xs.getD j 0:=by rw[XG,YD,XG];exact zF
def arr (c:Nat->Nat):Array Value:=((List.range 16).map fun n=>Value.int .i64 (c n:Nat)).toArray
theorem Gb (c:Nat->Nat):(arr c).size=16:=by simp[arr]
theorem Z30 (c:Nat->Nat)(h:j<16):(arr c)[j]? =some (int i64 ((c j:Nat):Int)):=by simp[arr,h]
theorem Zan (c:Nat->Nat):(arr c).all (·.oneCell')=true:=by rw[Array.all_eq_true];intro i hi;simp[arr,Value.oneCell']
def upd (c:Nat->Nat)(j x:Nat):Nat->Nat:=fun n=>if n=j then x else c n
theorem Zam (c:Nat->Nat)(j x:Nat):(arr c).setIfInBounds j (int i64 ((x:Nat):Int))=arr (upd c j x):=by apply Array.ext_getElem?;intro i;rw[Array.getElem?_setIfInBounds];by_cases h:i<16;rw[Z30 _ h,Gb,Z30 _ h];by_cases e:j=i;subst e;simp[h,upd];simp[e,upd,Ne.symm e];rw[Gb];(have E:∀f,(arr f)[i]? =none:=fun f=>by simp[Gb];omega);rw[E,E];by_cases e:j=i;subst e;simp[h];simp[e]
def cnt (l:List Int)(n:Nat):Nat:=l.count (n:Int)
def takenN (c:Nat->Nat):Nat->Nat
 |0=>0
 |k+1=>takenN c k+c (k+1)*2^(14-k)
def Ay (c:Nat->Nat):Nat->Nat
 |0=>0
 |1=>0
 |n+2=>2*(Ay c (n+1)+c (n+1))
theorem Zd (l:List Int)(n:Nat):cnt l n<=l.length:=YQ
theorem P4 (c:Nat->Nat)(h:∀n,c n<=m):∀k,takenN c k<=k*(m*32768)
 |0=>by simp[takenN]
 |k+1=>by have E:=P4 c h k;have G:c (k+1)*2^(14-k)<=m*32768:=Nat.mul_le_mul (h _) (by have:=VN (n:=2) od (show 14-k<=15 by omega);omega);rw[takenN,ZO];omega
theorem Md (c:Nat->Nat):∀k,k<=14->Ay c (k+1)*2^(14-k)=takenN c k
 |0,_=>by simp[Ay,takenN]
 |k+1,h=>by have ih:=Md c k om;have e:14-k=(14-(k+1))+1:=om;rw[takenN,<-ih,Ay,e,XI];generalize 2^(14-(k+1))=p;rw[<-UF,YM p 2,<-YG,YM 2]
theorem LR (c:Nat->Nat)(h:j<=k):takenN c j<=takenN c k:=by
 induction h with
 |refl=>exact VA _
 |step _ ih=>exact WJ ih (UE _ _)
theorem OH (c:Nat->Nat)(h:takenN c 15<=32768)(E:1<=n)(G:n<=15):Ay c n+c n<=2^n:=by obtain⟨k,rfl⟩:∃k,n=k+1:=⟨n-1,om⟩;have e:=Md c k om;have m:=LR c (show k+1<=15 by omega);rw[takenN]at m;(have m2:(Ay c (k+1)+c (k+1))*2^(14-k)<=2^(k+1)*2^(14-k):=by rw[UF,e,<-Nat.pow_add];have:k+1+(14-k)=15:=om;rw[this];omega);exact Nat.le_of_mul_le_mul_right m2 (Nat.pow_pos od)
theorem AN (c:Nat->Nat)(m:Nat)(H:1<=m):∀d,1<=d->(Ay c m+c m)*2^d<=Ay c (m+d)
 |0,h=>om
 |d+1,_=>by obtain⟨k,rfl⟩:∃k,m=k+1:=⟨m-1,om⟩;(have e:Ay c (k+1+(d+1))=2*(Ay c (k+1+d)+c (k+1+d)):=by have:k+1+(d+1)=(k+d)+2:=om;have G:k+1+d=(k+d)+1:=om;rw[this,Ay,G]);rw[e,XI];by_cases E:d=0;subst E;simp;omega;have:=AN c (k+1) H d om;rw[<-YG];omega
def Tw (n:Int):Bool:=decide (0<=n/\n<=15)
theorem Ef {n:Int}(h:Tw n=true):0<=n/\n<=15:=kax h
theorem Im {n:Int}(h:Tw n=false):¬(0<=n/\n<=15):=kbj h
theorem Jd (E:k<l.length)(G:l.getD k 0=(n:Int)):upd (cnt (l.take k)) n (cnt (l.take k) n+1)=cnt (l.take (k+1)):=by funext m;(have e:l[k]=(n:Int):=by simpa[List.getD,E]using G);simp only[upd,cnt];rw[XH E,List.count_append,e];by_cases h:m=n;subst h;simp;have:((n:Int)==m)=false:=sV;simp[h,List.count_cons,this]
def errL (l:List Int):Int:=if 288<l.length then 2 else if ∃j,j<l.length/\Tw (l.getD j 0)=false then 3 else if 32768<takenN (cnt l) 15 then 8 else 0
def Z29 (l:List Int):Nat->Nat:=if errL l=0 then cnt l else fun _=>0
structure Good (l:List Int):Prop where
 len:l.length<=288
 ok:∀j,j<l.length->0<=l.getD j 0/\l.getD j 0<=15
 room:takenN (cnt l) 15<=32768
theorem Cl (h:errL l=0):Good l:=by
 unfold errL at h;split at h;. cases h
 . split at h;. cases h
   . split at h;. cases h
     . rename_i H G I;refine⟨om,fun j E=> ?_,om⟩
       cases e:Tw (l.getD j 0)with
       |true=>exact Ef e
       |false=>exact absurd ⟨j,E,e⟩ G
theorem AD (h:Good l):errL l=0:=by unfold errL;rw[kab (oI h.len),kab,kab (oI h.room)];rintro ⟨j,E,e⟩;exact Im e (h.ok j E)
def codeN (l:List Int)(i:Nat):Nat:=if (l.getD i 0).toNat=0 then 0 else Ay (cnt l) (l.getD i 0).toNat+cnt (l.take i) (l.getD i 0).toNat
def Vp (l:List Int):Nat->List Nat
 |0=>List.replicate l.length 0
 |k+1=>(Vp l k).set k (codeN l k)
theorem Ee (l:List Int):∀k,(Vp l k).length=l.length
 |0=>by simp[Vp]
 |k+1=>by rw[Vp,YA,Ee l k]
theorem I7 (l:List Int)(E:j<l.length):∀k,(Vp l k).getD j 0=if j<k then codeN l j else 0
 |0=>by simp[Vp,List.getD,E]
 |k+1=>by have ih:=I7 l E k;simp only[Vp,XG,YD,Ee]at ih ⊢;by_cases e:k=j;subst e;simp[E];rw[kab e,ih];by_cases h:j<k;have:j<k+1:=om;simp[h,this];have:¬j<k+1:=om;simp[h,this]
theorem Z27 (l:List Int)(k:Nat)(h:codeN l k=0):Vp l (k+1)=Vp l k:=by rw[Vp,h];by_cases G:k<l.length;have e:=I7 l G k;rw[kab om]at e;(have E:k<(Vp l k).length:=by rw[Ee];exact G);(have e2:(Vp l k)[k]=0:=by simpa[List.getD,E]using e);apply ZL;intro i;rw[YD];by_cases hi:k=i;subst hi;simp[E,e2];simp[hi];rw[List.set_eq_of_length_le (by rw[Ee];omega)]
def nxt (l:List Int)(k:Nat):Nat->Nat:=fun n=>if n=0 then 0 else Ay (cnt l) n+cnt (l.take k) n
theorem Z4z (l:List Int)(n:Nat):nxt l 0 n=Ay (cnt l) n:=by unfold nxt;by_cases e:n=0;subst e;rfl;simp[e,cnt]
theorem Z50 (E:k<l.length)(G:l.getD k 0=(n:Int))(H:0<n):upd (nxt l k) n (nxt l k n+1)=nxt l (k+1):=by have h:=Jd E G;funext m;have hm:=congrFun h m;simp only[upd,nxt]at hm ⊢;by_cases e:m=n;subst e;have:¬m=0:=om;simp[this]at hm ⊢;omega;simp[e]at hm ⊢;rw[hm]
theorem Z51 (E:k<l.length)(G:l.getD k 0=((0:Nat):Int)):nxt l k=nxt l (k+1):=by have h:=Jd E G;funext m;have hm:=congrFun h m;simp only[upd,nxt]at hm ⊢;by_cases e:m=0;simp[e];simp[e]at hm ⊢;rw[hm]
theorem Gu (l:List Int)(E:l.getD k 0=(n:Int)):codeN l k=nxt l k n:=by unfold codeN nxt;rw[E,WQ]
theorem Z28 (h:Good l):Z29 l=cnt l:=by unfold Z29;rw[AD h];rfl
theorem FM (G:k<l.length)(E:l.getD k 0=(n:Int)):cnt (l.take k) n<cnt l n:=by have h:=congrFun (Jd G E) n;simp only[upd,kac]at h;(have H:cnt (l.take (k+1)) n<=cnt l n:=by unfold cnt;exact List.Sublist.count_le _ (List.take_sublist _ _));omega
theorem Jc (h:Good l)(E:k<l.length)(H:l.getD k 0=(n:Int))(aa:0<n):Ay (cnt l) n<=codeN l k/\codeN l k<Ay (cnt l) n+cnt l n/\codeN l k<2^n:=by have G:=Gu l H;have O:=FM E H;(have I:n<=15:=by have:=(h.ok k E).2;omega);have U:=OH (cnt l) h.room (n:=n) om I;unfold nxt at G;rw[kab om]at G;omega
def Tr (l:List Int)(m:Nat):Nat->List Nat
 |0=> []
 |k+1=>Tr l m k++(if l.getD k 0=(m:Int)then [k]else [])
theorem Il (l:List Int)(m:Nat):∀k,k<=l.length->(Tr l m k).length=cnt (l.take k) m
 |0,_=>by simp[Tr,cnt]
 |k+1,hk=>by have ih:=Il l m k om;have E:k<l.length:=om;rw[Tr,VB,ih,cnt,cnt,XH E,List.count_append];(have e:l.getD k 0=l[k]:=by simp[List.getD,E]);rw[e];by_cases h:l[k]=(m:Int);simp[h];simp[h]
theorem IJ (l:List Int)(m:Nat):∀k d,∃r,Tr l m (k+d)=Tr l m k++r
 |k,0=>⟨[],oS⟩
 |k,d+1=>by obtain⟨r,hr⟩:=IJ l m k d;refine⟨r++(if l.getD (k+d) 0=(m:Int)then [k+d]else []), ?_⟩;rw[<-WV,Tr,hr,VO]
theorem DT (G:p<l.length)(E:l.getD p 0=(m:Int)):(Tr l m l.length)[cnt (l.take p) m]? =some p:=by obtain⟨r,hr⟩:=IJ l m (p+1) (l.length-(p+1));rw[show p+1+(l.length-(p+1))=l.length by omega]at hr;rw[hr,Tr,kac E];have h:=Il l m p om;rw[VO,VX om,h];simp
def Zcm (bs:List Nat)(p:Nat):Nat:=bs.getD (p/8) 0/2^(p%8)%2
def Cg (bs:List Nat)(p:Nat):Nat->Nat
 |0=>0
 |k+1=>2*Cg bs p k+Zcm bs (p+k)
theorem Z2s (bs:List Nat)(p:Nat):Zcm bs p<2:=UH _ od
theorem Vo (bs:List Nat)(p:Nat):∀k,Cg bs p k<2^k
 |0=>by simp[Cg]
 |k+1=>by have E:=Vo bs p k;have G:=Z2s bs (p+k);rw[Cg,XI];omega
def Hit (l:List Int)(bs:List Nat)(p k:Nat):Prop:=Ay (cnt l) k<=Cg bs p k/\Cg bs p k<Ay (cnt l) k+cnt l k
def Vv (l:List Int)(bs:List Nat)(p x:Nat)(err:Int)(p':Nat):Prop:=
 (∃k,1<=k/\k<=15/\(∀j,1<=j->j<k->¬Hit l bs p j)/\p+k<=8*bs.length/\Hit l bs p k/\p'=p+k/\err=0/\(Tr l k l.length)[Cg bs p k-Ay (cnt l) k]? =some x)\/
 (∃k,k<15/\(∀j,1<=j->j<=k->¬Hit l bs p j)/\p+k=8*bs.length/\p'=p+k/\err=7/\x=0)\/
 ((∀j,1<=j->j<=15->¬Hit l bs p j)/\p+15<=8*bs.length/\p'=p+15/\err=8/\x=0)
theorem Z4m (l:List Int)(E:i<cnt l k):∃x,(Tr l k l.length)[i]? =some x:=by have hl:=Il l k l.length (VA _);rw[ZV]at hl;exact⟨(Tr l k l.length)[i],oS⟩
theorem CY (c i:Nat):(c.testBit i).toNat=c/2^i%2:=by rw[Nat.testBit_eq_decide_div_mod_eq];have:=UH (c/2^i) (show 0<2 by decide);by_cases h:c/2^i%2=1;simp[h];have E:c/2^i%2=0:=om;simp[E]
theorem Zah (bs:List Nat)(q:Nat):Zcm bs q=(Jh bs q).toNat:=by unfold Zcm Jh;rw[CY]
theorem DR (U:Good l)(O:i<l.length)(I:k<l.length)(E:l.getD i 0=(m:Int))(G:l.getD k 0=(n:Int))(ae:i≠k)(ac:0<m)(ag:m<=n):codeN l k/2^(n-m)≠codeN l i:=by obtain⟨a1,a2,ah⟩:=Jc U O E ac;obtain⟨b1,b2,b3⟩:=Jc U I G om;by_cases e:m=n;subst e;rw[XT,Nat.pow_zero,Nat.div_one];intro h;have e1:=DT O E;have e2:=DT I G;have d1:=Gu l E;have H:=Gu l G;unfold nxt at d1 H;rw[kab om]at d1 H;have:cnt (l.take i) m=cnt (l.take k) m:=om;rw[this,e2]at e1;exact ae (VK e1).symm;have aa:=AN (cnt l) m om (n-m) om;rw[show m+(n-m)=n by omega]at aa;have af:Ay (cnt l) m+cnt l m<=codeN l k/2^(n-m):=(Nat.le_div_iff_mul_le (Nat.pow_pos od)).2 om;omega
def hb (c:Nat):Nat->List Bool
 |0=> []
 |n+1=>hb (c/2) n++ [decide (c%2=1)]
theorem Bc:∀n c,(hb c n).length=n
 |0,_=>rfl
 |n+1,c=>by simp[hb,Bc n]
theorem Z18:∀n,hb 0 n=List.replicate n false
 |0=>rfl
 |n+1=>by rw[hb,Nat.zero_div,Z18 n,ZK];rfl
theorem Z7l (c n:Nat):∀d,hb (c*2^d) (n+d)=hb c n++List.replicate d false
 |0=>oS
 |d+1=>by(have e:c*2^(d+1)=2*(c*2^d):=by rw[XI];rw[<-YG,YM]);rw[show n+(d+1)=(n+d)+1 by omega,hb,e];have e1:2*(c*2^d)/2=c*2^d:=om;have e2:2*(c*2^d)%2=0:=om;rw[e1,e2,Z7l c n d,ZK,VO];rfl
theorem Z7m:∀n c,c+1<2^n->∃a t,hb c n=a++false::List.replicate t true/\hb (c+1) n=a++true::List.replicate t false
 |0,c,h=>by simp at h
 |n+1,c,h=>by rw[XI]at h;by_cases hc:c%2=0;refine⟨hb (c/2) n,0, ?_, ?_⟩;rw[hb,hc];rfl;rw[hb,show (c+1)/2=c/2 by omega,show (c+1)%2=1 by omega];rfl;obtain⟨a,t,E,G⟩:=Z7m n (c/2) om;refine⟨a,t+1, ?_, ?_⟩;rw[hb,E,show c%2=1 by omega,ZK,VO];rfl;rw[hb,show (c+1)/2=c/2+1 by omega,G,show (c+1)%2=0 by omega,ZK,VO];rfl
def Bw (l:List Int):Nat->List (Int×Int)
 |0=> []
 |k+1=>Bw l k++(if 0<l.getD k 0 then [(l.getD k 0,(k:Int))]else [])
def wt (x:Int×Int):Nat:=2^(15-x.1.toNat)
instance (x y:Int×Int):Decidable (Stab.lx x y):=by unfold Stab.lx;infer_instance
def Qw (p:Int×Int):List (Int×Int)->Nat
 | []=>0
 |x::r=>(if Stab.lx x p then wt x else 0)+Qw p r
theorem Fd (p:Int×Int):∀xs ys,Qw p (xs++ys)=Qw p xs+Qw p ys
 | [],ys=>by simp[Qw]
 |x::r,ys=>by simp only[XV,Qw,Fd p r ys];omega
theorem Z2i (p:Int×Int){xs ys:List (Int×Int)}(h:xs.Perm ys):Qw p xs=Qw p ys:=by
 induction h with
 |nil=>rfl
 |cons x _ ih=>simp only[Qw,ih]
 |swap x y l=>simp only[Qw];omega
 |trans _ _ h1 h2=>exact h1.trans h2
theorem Sv (c:Nat->Nat)(m:Nat)(H:1<=m)(I:m<=15):∀j,j<=15->takenN (upd c m (c m+1)) j=takenN c j+(if m<=j then 2^(15-m)else 0)
 |0,_=>by simp[takenN];omega
 |j+1,h=>by have ih:=Sv c m H I j om;rw[takenN,takenN,ih];by_cases e:j+1=m;subst e;have G:¬(j+1<=j):=om;have E:15-(j+1)=14-j:=om;simp only[upd,kac,G,if_false,VA,E,UF,Nat.one_mul];omega;simp only[upd,kab e];by_cases G:m<=j;have E:m<=j+1:=om;simp[G,E];omega;have E:¬m<=j+1:=om;simp[G,E]
theorem Pg (c:Nat->Nat)(x:Nat):∀j,takenN (upd c 0 x) j=takenN c j
 |0=>rfl
 |j+1=>by rw[takenN,takenN,Pg c x j];simp[upd]
theorem BP (aa:Good l)(q:Nat)(aj:1<=n)(ai:n<=15):∀k,k<=l.length->Qw ((n:Int),(q:Int)) (Bw l k)=takenN (cnt (l.take k)) (n-1)+cnt (l.take (min k q)) n*2^(15-n)
 |0,_=>by
  have e:∀j,takenN (cnt []) j=0:=fun j=>by
   induction j with
   |zero=>rfl
   |succ j ih=>rw[takenN,ih];simp[cnt]
  simp[Bw,Qw,e,cnt]
 |k+1,hk=>by have ih:=BP aa q aj ai k om;have U:k<l.length:=om;have I:=aa.ok k U;obtain⟨m,hm⟩:=WH I.1;have hc:=Jd U hm;(have ae:cnt (l.take (k+1)) n=cnt (l.take k) n+(if n=m then 1 else 0):=by rw[<-hc];simp only[upd];by_cases e:n=m;subst e;simp;simp[e]);(have ac:cnt (l.take (min (k+1) q)) n=cnt (l.take (min k q)) n+(if k<q/\n=m then 1 else 0):=by by_cases O:k<q;rw[YX om,YX om,ae];simp[O];rw[YO om,YO om];simp[O]);rw[Bw,Fd,ih,ac,<-hc,hm];(have af:m<=15:=by rw[hm]at I;omega);by_cases ah:m=0;subst ah;rw[Pg];have:¬n=0:=om;simp[Qw,this];rw[Sv _ m om af (n-1) om];have ag:(0:Int)<m:=om;rw[kac ag];simp only[Qw,wt,WQ,XS];(have H:Stab.lx ((m:Int),(k:Int)) ((n:Int),(q:Int))↔(m<=n-1\/ (n=m/\k<q)):=by unfold Stab.lx;constructor<;>intro h<;>omega);by_cases G:m<=n-1;have E:¬(k<q/\n=m):=om;rw[kac (H.2 (.inl G)),kac G,kab E,XS];omega;by_cases E:k<q/\n=m;rw[kac (H.2 (.inr ⟨E.2,E.1⟩)),kab G,kac E,UF,Nat.one_mul,E.2];omega;rw[kab (fun h=>by have:=H.1 h;omega),kab G,kab E,XS,XS,XS]
theorem Z2j (E:Good l)(G:q<l.length)(I:l.getD q 0=(n:Int))(O:0<n):Qw ((n:Int),(q:Int)) (Bw l l.length)=codeN l q*2^(15-n):=by(have H:n<=15:=by have:=(E.ok q G).2;omega);rw[BP E q om H l.length (VA _),ZV,YO om];have h:=Md (cnt l) (n-1) om;have e:=Gu l I;unfold nxt at e;rw[kab om]at e;rw[e,UF,<-h,show n-1+1=n by omega,show 14-(n-1)=15-n by omega]
def vsum (d:Nat->Int×Int):Nat->Nat
 |0=>0
 |i+1=>vsum d i+wt (d i)
theorem Zf (d:Nat->Int×Int)(p:Int×Int):∀i,(∀j,j<i->Stab.lx (d j) p)->Qw p (Stab.seg d 0 i)=vsum d i
 |0,_=>by simp[Stab.seg,Qw,vsum]
 |i+1,h=>by rw[Stab.seg_split d 0 i (i+1) om om,Fd,Zf d p i (fun j E=>h j om),vsum];(have:Stab.seg d i (i+1)= [d i]:=by unfold Stab.seg;rw[show i+1-i=1 by omega];simp);rw[this];simp[Qw,h i om]
theorem Zg (d:Nat->Int×Int)(p:Int×Int)(a:Nat):∀b,(∀j,a<=j->j<a+b->¬Stab.lx (d j) p)->Qw p (Stab.seg d a (a+b))=0
 |0,_=>by simp[Stab.seg,Qw]
 |b+1,h=>by rw[Stab.seg_split d a (a+b) (a+(b+1)) om om,Fd,Zg d p a b (fun j E G=>h j E om)];(have:Stab.seg d (a+b) (a+(b+1))= [d (a+b)]:=by unfold Stab.seg;rw[show a+(b+1)-(a+b)=1 by omega];simp);rw[this];simp[Qw,h (a+b) om om]
theorem Zbs (x:Int×Int):¬Stab.lx x x:=by unfold Stab.lx;omega
theorem Z5d {x y:Int×Int}(h:Stab.lx x y):¬Stab.lx y x:=by unfold Stab.lx at*;omega
theorem FQ (d:Nat->Int×Int)(E:Stab.Srt Stab.lx d 0 N)(H:i<N):Qw (d i) (Stab.seg d 0 N)=vsum d i:=by
 rw[Stab.seg_split d 0 i N om om,Fd,Zf d (d i) i (fun j G=>E j i (VF _) G H)]
 have:=Zg d (d i) i (N-i) (fun j O I=>by
  by_cases e:j=i
  . subst e;exact Zbs _
  . exact Z5d (E i j (VF _) om om))
 rw[show i+(N-i)=N by omega]at this;rw[this,XS]
def codeT (l:List Int)(q:Nat):List Bool:=hb (codeN l q) (l.getD q 0).toNat
def Al (n:Nat):Nat->List Bool
 |0=> []
 |k+1=>Al n k++ [n.testBit k]
theorem Ai (n:Nat):∀k,(Al n k).length=k
 |0=>rfl
 |k+1=>by rw[Al,VB,Ai n k];rfl
theorem Z2r (n k:Nat):n/2^k%2=if n.testBit k then 1 else 0:=by have h:=Nat.testBit_eq_decide_div_mod_eq (x:=n) (i:=k);rw[h];rcases XF (n/2^k)with e|e<;>simp[e]
theorem Hd (n:Nat):∀s i,(Al n s).getD i false=(decide (i<s)&&n.testBit i)
 |0,i=>by simp[Al]
 |s+1,i=>by rw[Al,XG];by_cases h:i<s;rw[WT (by rw[Ai];exact h),<-XG,Hd n s i];simp[h,Nat.lt_succ_of_lt h];rw[VX (by rw[Ai];omega),Ai];by_cases e:i=s;subst e;simp;have E:¬i<s+1:=om;have G: [n.testBit s][i-s]? =none:=VZ oO;rw[G];simp[E]
def Cp:List Bool->Nat
 | []=>0
 |b::r=>(if b then 1 else 0)+2*Cp r
theorem Iq:∀l,Cp l<2^l.length
 | []=>by simp[Cp]
 |b::r=>by have:=Iq r;rw[Cp,VG,XI];split<;>omega
theorem MV {l:List Bool}(h:l.length<=16):Cp l<65536:=VC (Iq l) (TC h)
def rowB (xs:List Nat):Nat->List Bool
 |0=> []
 |q+1=>rowB xs q++Al (xs.getD q 0) 8
theorem Af (xs:List Nat):∀q,(rowB xs q).length=8*q
 |0=>rfl
 |q+1=>by rw[rowB,VB,Af xs q,Ai];omega
theorem Fe (xs:List Nat):∀q i,i<8*q->(rowB xs q).getD i false=Jh xs i
 |0,i,h=>om
 |q+1,i,h=>by rw[rowB,XG];by_cases e:i<8*q;rw[WT (by rw[Af];exact e),<-XG,Fe xs q i e];rw[VX qAW,Af,<-XG,Hd,Jh];have e1:i/8=q:=om;have e2:i%8=i-8*q:=om;rw[e1,e2,kap om,ZP]
structure US where
 p:Nat
 out:List Nat
 ks:List Nat
 e:Int
variable{u:US}
def uget (row:List Bool)(n:Nat)(u:US):Nat×US:=
 if u.e=0 then (if row.length<u.p+n then (0,{u with e:=7})else (Cp ((row.drop u.p).take n),{u with p:=u.p+n}))else (0,u)
def An (x:Int)(u:US):US:=if u.e=0 then {u with e:=x}else u
def Fo (c:Nat)(u:US):US:=if u.e=0 then (if u.out.length=3000 then {u with e:=2}else {u with out:=u.out++ [c]})else u
def Qv (l:List Int)(s:List Bool):Option Nat:=(List.range l.length).find? (fun q=>decide (codeT l q=s))
def Er (l:List Int)(row:List Bool)(p:Nat):Nat->Nat->Nat×Nat×Int
 |0,_=>(0,0,8)
 |f+1,n=>if row.length<p+n then (0,0,7)else match Qv l ((row.drop p).take n)with
  |some q=>(q,n,0)
  |none=>Er l row p f (n+1)
def Nl (l:List Int)(row:List Bool)(p:Nat):Nat×Nat×Int:=Er l row p 15 1
def uplace (l:List Int)(row:List Bool)(u:US):Nat×US:=
 if u.e=0 then ((Nl l row u.p).1,{u with e:=(Nl l row u.p).2.2,p:=u.p+(Nl l row u.p).2.1})else (0,u)
def ord19:List Nat:= [16,17,18,0,8,7,9,6,10,5,11,4,12,3,13,2,14,1,15]
def usmall (row:List Bool):List Nat->List Int->US->List Int×US
 | [],s,u=>(s,u)
 |k::r,s,u=>usmall row r (s.set k ((uget row 3 u).1:Int)) (uget row 3 u).2
def ukind (row:List Bool)(l:List Int)(k:Nat)(u:US):Int×Nat×US:=
 if k=16 then (if l.length=0 then (16,1,An 8 u)else (l.getD (l.length-1) 0,3+(uget row 2 u).1,(uget row 2 u).2))
 else if k=17 then (0,3+(uget row 3 u).1,(uget row 3 u).2)
 else if k=18 then (0,11+(uget row 7 u).1,(uget row 7 u).2)
 else ((k:Int),1,u)
def Wb (tot:Nat)(l:List Int)(r:Int×Nat×US):List Int×US:=
 (l++List.replicate r.2.1 r.1,if r.2.2.e=0/\tot<l.length+r.2.1 then An 8 r.2.2 else r.2.2)
def ustep (row:List Bool)(small:List Int)(tot:Nat)(l:List Int)(u:US):List Int×US:=Wb tot l (ukind row l (uplace small row u).1 (uplace small row u).2)
def ulens (row:List Bool)(small:List Int)(tot:Nat):Nat->List Int->US->List Int×US
 |0,l,u=>(l,u)
 |f+1,l,u=>if l.length<tot/\u.e=0 then ulens row small tot f (ustep row small tot l u).1 (ustep row small tot l u).2 else (l,u)
def Gx (row:List Bool)(m n c:Nat)(u:US):List Int×US:=
 usmall row (ord19.take c) (List.replicate 19 0) (if 286<m\/30<n then An 8 u else u)
def Sp (s:List Int×US):US:=if s.2.e=0/\errL s.1≠0 then An 8 s.2 else s.2
def Gy (m:Nat)(r:List Int×US):(List Int×List Int)×US:=
 if r.2.e≠0 then (([],[]),r.2)
 else if r.1.getD 256 0=0\/errL (r.1.take m)≠0\/errL (r.1.drop m)≠0 then (([],[]),An 8 r.2)
 else ((r.1.take m,r.1.drop m),r.2)
def Lk (row:List Bool)(m n:Nat)(s:List Int×US):(List Int×List Int)×US:=
 if (Sp s).e≠0 then (([],[]),Sp s)else Gy m (ulens row s.1 (m+n) (m+n) [] (Sp s))
def Dm (row:List Bool)(u:US):(List Int×List Int)×US:=
 let r1:=uget row 5 u
 let r2:=uget row 5 r1.2
 let r3:=uget row 4 r2.2
 Lk row (r1.1+257) (r2.1+1) (Gx row (r1.1+257) (r2.1+1) (r3.1+4) r3.2)
def ustore (row:List Bool):Nat->US->US
 |0,u=>u
 |k+1,u=>if u.e=0 then ustore row k (Fo (uget row 8 u).1 (uget row 8 u).2)else u
def ucopy (d:Nat):Nat->US->US
 |0,u=>u
 |j+1,u=>if u.e=0 then ucopy d j (Fo (u.out.getD (u.out.length-d) 0) u)else u
def samesL:List (Nat×Nat):= [(3,0),(4,0),(5,0),(6,0),(7,0),(8,0),(9,0),(10,0),(11,1),(13,1),(15,1),(17,1),(19,2),(23,2),(27,2),(31,2),(35,3),(43,3),(51,3),(59,3),(67,4),(83,4),(99,4),(115,4),(131,5),(163,5),(195,5),(227,5),(258,0)]
def farsL:List (Nat×Nat):= [(1,0),(2,0),(3,0),(4,0),(5,1),(7,1),(9,2),(13,2),(17,3),(25,3),(33,4),(49,4),(65,5),(97,5),(129,6),(193,6),(257,7),(385,7),(513,8),(769,8),(1025,9),(1537,9),(2049,10),(3073,10),(4097,11),(6145,11),(8193,12),(12289,12),(16385,13),(24577,13)]
def Pu:List Int:=List.replicate 144 8++List.replicate 112 9++List.replicate 24 7++List.replicate 8 8
def Lj:List Int:=List.replicate 32 5
def Z6s (row:List Bool)(n f:Nat)(u:US):US:=
 let q:=uget row (farsL.getD f (0,0)).2 u
 let d:=(farsL.getD f (0,0)).1+q.1
 ucopy d n (if q.2.e=0/\q.2.out.length<d then An 9 q.2 else q.2)
def LH (row:List Bool)(b:List Int)(k:Nat)(u:US):Bool×US:=
 let g:=uget row (samesL.getD (k-257) (0,0)).2 u
 let h:=uplace b row g.2
 let u3:=if h.2.e=0/\29<h.1 then An 8 h.2 else h.2
 if u3.e≠0 then (false,u3)else (true,Z6s row ((samesL.getD (k-257) (0,0)).1+g.1) h.1 u3)
def Mp (row:List Bool)(a b:List Int)(u:US):Bool×US:=
 let r:=uplace a row u
 if r.2.e≠0\/r.1=256 then (false,r.2)
 else if r.1<256 then (true,Fo r.1 r.2)
 else if 285<r.1 then (false,An 8 r.2)
 else LH row b r.1 r.2
def utok (row:List Bool)(a b:List Int):Nat->US->US
 |0,u=>u
 |f+1,u=>if u.e=0 then (if (Mp row a b u).1 then utok row a b f (Mp row a b u).2 else (Mp row a b u).2)else u
def ukept (k:Nat)(u:US):US:= {u with ks:=u.ks++ [k]}
def uopen (row:List Bool)(kind:Nat)(u:US):(List Int×List Int)×US:=
 if kind=1 then ((Pu,Lj),u)else if kind=2 then Dm row u else (([],[]),An 4 u)
def ustored (row:List Bool)(u:US):US:=
 let n:=uget row 16 {u with p:=(u.p+7)/8*8}
 let t:=uget row 16 n.2
 ustore row n.1 (if t.2.e=0/\n.1+t.1≠65535 then An 4 t.2 else t.2)
def Em (row:List Bool)(u:US):Bool×US:=
 let l:=uget row 1 u
 let k:=uget row 2 l.2
 if k.2.e≠0 then (true,k.2)
 else if k.1=0 then (decide (l.1=1),ukept 0 (ustored row k.2))
 else
  let o:=uopen row k.1 k.2
  if o.2.e≠0 then (true,o.2)else (decide (l.1=1),ukept k.1 (utok row o.1.1 o.1.2 row.length o.2))
def Dn (row:List Bool):Nat->US->US
 |0,u=>u
 |f+1,u=>if (Em row u).1=false/\(Em row u).2.e=0 then Dn row f (Em row u).2 else (Em row u).2
def Qr (row:List Bool):US:=Dn row (row.length+1) ⟨0,[],[],0⟩
theorem Xo (h:(uget row n u).2.e=0):u.e=0:=by unfold uget at h;exact xV
theorem Bi {x:Int}(E:x≠0):(An x u).e≠0:=by unfold An;by_cases e:u.e=0;rw[kac e];exact E;rw[kab e];exact e
theorem GM (h:(uplace l row u).2.e=0):u.e=0:=by unfold uplace at h;exact xV
theorem Mr:∀ {ks:List Nat} {s:List Int} {u:US},(usmall row ks s u).2.e=0->u.e=0
 | [],s,u,h=>h
 |k::r,s,u,h=>by rw[usmall]at h;exact Xo (Mr h)
theorem Xk:∀ {ks:List Nat} {s:List Int} {u:US},(usmall row ks s u).1.length=s.length
 | [],s,u=>rfl
 |k::r,s,u=>by rw[usmall,Xk,YA]
structure Round (row:List Bool)(small:List Int)(tot:Nat)(l:List Int)(u:US):Prop where
 pe:(uplace small row u).2.e=0
 ke:(ukind row l (uplace small row u).1 (uplace small row u).2).2.2.e=0
 le:l.length+(ukind row l (uplace small row u).1 (uplace small row u).2).2.1<=tot
 st:ustep row small tot l u=(l++List.replicate (ukind row l (uplace small row u).1 (uplace small row u).2).2.1 (ukind row l (uplace small row u).1 (uplace small row u).2).1,(ukind row l (uplace small row u).1 (uplace small row u).2).2.2)
theorem Z7z (h:(ukind row l k u).2.2.e=0):u.e=0:=by unfold ukind at h;split at h;(. split at h;exact jJ;exact Xo h);. split at h;exact Xo h;. split at h;exact Xo h;exact h
theorem Kv (h:u.e≠0):ulens row small tot F l u=(l,u):=by
 cases F with
 |zero=>rfl
 |succ F=>rw[ulens,kab (fun E=>h E.2)]
theorem Lr (H:l.length<tot)(G:u.e=0)(E:(ulens row small tot (F+1) l u).2.e=0):Round row small tot l u/\ulens row small tot (F+1) l u=ulens row small tot F (ustep row small tot l u).1 (ustep row small tot l u).2:=by(have e1:ulens row small tot (F+1) l u=ulens row small tot F (ustep row small tot l u).1 (ustep row small tot l u).2:=by rw[ulens,kac ⟨H,G⟩]);(have e2:(ustep row small tot l u).2.e=0:=by by_cases e:(ustep row small tot l u).2.e=0;exact e;rw[e1,Kv e]at E;exact absurd E e);refine⟨?_,e1⟩;unfold ustep Wb at e2;simp only at e2;by_cases hc:(ukind row l (uplace small row u).1 (uplace small row u).2).2.2.e=0/\tot<l.length+(ukind row l (uplace small row u).1 (uplace small row u).2).2.1;rw[kac hc]at e2;exact absurd e2 (Bi od);rw[kab hc]at e2;refine⟨Z7z e2,e2,om, ?_⟩;unfold ustep Wb;rw[kab hc]
theorem N4:∀(F:Nat) (l:List Int) (u:US),tot<=l.length+F->l.length<=tot->u.e=0->(ulens row small tot F l u).2.e=0->(∀l u,Round row small tot l u->1<=(ukind row l (uplace small row u).1 (uplace small row u).2).2.1)->(ulens row small tot F l u).1.length=tot
 |0,l,u,h1,h2,he,hF,hp=>by rw[ulens];simp only;omega
 |F+1,l,u,h1,h2,he,hF,hp=>by by_cases hl:l.length<tot;obtain⟨r,e⟩:=Lr hl he hF;have G:=hp l u r;have E:=r.le;rw[e]at hF ⊢;rw[r.st]at hF ⊢;exact N4 F _ _ oO oO r.ke hF hp;rw[ulens,kab (fun h=>hl h.1)];simp only;omega
theorem Z39 (row:List Bool)(n:Nat)(u:US):(uget row n u).1<2^n:=by unfold uget;split;(. split;exact YY n;refine VC (Iq _) (VN od ?_);rw[VL];exact UA _ _);exact YY n
theorem N5 (row:List Bool)(l:List Int)(k:Nat)(u:US):1<=(ukind row l k u).2.1/\(ukind row l k u).2.1<=138:=by have G:(uget row 2 u).1<2^2:=Z39 row 2 u;have H:(uget row 3 u).1<2^3:=Z39 row 3 u;have E:(uget row 7 u).1<2^7:=Z39 row 7 u;unfold ukind;split;(. split;exact⟨VA _,oS⟩;simp only;omega);. split;simp only;omega;. split;simp only;omega;exact⟨VA _,oS⟩
theorem Xl (h:(Fo c u).e=0):u.e=0/\u.out.length≠3000/\Fo c u= {u with out:=u.out++ [c]}:=by unfold Fo at h ⊢;by_cases e:u.e=0;rw[kac e]at h ⊢;by_cases e2:u.out.length=3000;rw[kac e2]at h;exact zC;rw[kab e2];exact⟨e,e2,rfl⟩;rw[kab e]at h;exact absurd h e
theorem Bj {r:Nat}{v:US}(h:uget row n u=(r,v))(E:v.e=0):v.p=u.p+n/\v.p<=row.length/\v.out=u.out/\v.ks=u.ks/\u.e=0:=by have G:u.e=0:=Xo (by rw[h];exact E);unfold uget at h;rw[kac G]at h;by_cases e:row.length<u.p+n;rw[kac e]at h;have:=(VM h).2;rw[<-this]at E;exact absurd (show (7:Int)=0 from E) od;rw[kab e]at h;have:=(VM h).2;subst this;exact⟨rfl,by show u.p+n<=row.length;omega,rfl,rfl,G⟩
theorem Y0:∀(f n:Nat),1<=n->(Er l row p f n).2.2=0->1<=(Er l row p f n).2.1/\p+(Er l row p f n).2.1<=row.length/\(Er l row p f n).1<l.length
 |0,n,_,h=>by rw[Er]at h;exact absurd h od
 |f+1,n,hn,h=>by
  rw[Er]at h ⊢;by_cases e:row.length<p+n;rw[kac e]at h;exact absurd h od
  . rw[kab e]at h ⊢
    cases E:Qv l ((row.drop p).take n)with
    |some q=>simp only;refine⟨hn,om, ?_⟩;have:=ZJ E;simpa using this
    |none=>rw[E]at h;simp only at h ⊢;exact Y0 f (n+1) om h
theorem Ct {v:US}(h:uplace l row u=(k,v))(E:v.e=0):u.p+1<=v.p/\v.p<=row.length/\v.out=u.out/\v.ks=u.ks/\u.e=0/\k<l.length:=by have G:u.e=0:=GM (by rw[h];exact E);unfold uplace at h;rw[kac G]at h;have I:=(VM h).2;have H:=(VM h).1;subst I;have:=Y0 (l:=l) (row:=row) (p:=u.p) 15 1 (VA _) E;refine⟨?_, ?_,rfl,rfl,G, ?_⟩;show u.p+1<=u.p+(Nl l row u.p).2.1;have O:=this.1;unfold Nl;omega;show u.p+(Nl l row u.p).2.1<=row.length;exact this.2.1;rw[<-H];exact this.2.2
theorem So:∀ {n:Nat} {u:US},(ucopy d n u).e=0->u.e=0
 |0,u,h=>h
 |n+1,u,h=>by rw[ucopy]at h;exact xV
theorem CT:∀ {n:Nat} {u:US},(ucopy d n u).e=0->(ucopy d n u).p=u.p/\(ucopy d n u).ks=u.ks/\(u.out.length<=3000->(ucopy d n u).out.length<=3000)
 |0,u,h=>⟨rfl,rfl,fun h=>h⟩
 |n+1,u,h=>by have e:=So h;rw[ucopy,kac e]at h ⊢;obtain⟨G,H,E⟩:=Xl (So h);have ih:=CT h;rw[E]at ih ⊢;refine⟨ih.1,ih.2.1,fun I=>ih.2.2 ?_⟩;simp only[VB,VG,WE];omega
inductive Tok1 (row:List Bool)(a b:List Int)(u:US):Bool->US->Prop
 |stop (v:US):uplace a row u=(256,v)->v.e=0->Tok1 row a b u false v
 |byte (c:Nat) (x:US):uplace a row u=(c,x)->x.e=0->c<256->x.out.length≠3000->Tok1 row a b u true {x with out:=x.out++ [c]}
 |same (k n0 f d0:Nat) (x1 x2 x3 x4 v:US):uplace a row u=(k,x1)->x1.e=0->257<=k->k<=285->uget row (samesL.getD (k-257) (0,0)).2 x1=(n0,x2)->x2.e=0->uplace b row x2=(f,x3)->x3.e=0->f<=29->
  uget row (farsL.getD f (0,0)).2 x3=(d0,x4)->x4.e=0->(farsL.getD f (0,0)).1+d0<=x4.out.length->ucopy ((farsL.getD f (0,0)).1+d0) ((samesL.getD (k-257) (0,0)).1+n0) x4=v->v.e=0->Tok1 row a b u true v
theorem LC {a b:List Int}(h:(Mp row a b u).2.e=0):Tok1 row a b u (Mp row a b u).1 (Mp row a b u).2:=by obtain⟨k,x1,e1⟩:∃k x1,uplace a row u=(k,x1):=⟨_,_,rfl⟩;unfold Mp at h ⊢;simp only[e1]at h ⊢;by_cases c1:x1.e≠0\/k=256;rw[kac c1]at h ⊢;simp only at h ⊢;rcases c1 with c1|c1;exact absurd h c1;subst c1;exact .stop x1 e1 h;rw[kab c1]at h ⊢;(have ac:x1.e=0:=by by_cases e:x1.e=0;exact e;exact absurd (.inl e) c1);have ah:k≠256:=fun e=>c1 (.inr e);by_cases c2:k<256;rw[kac c2]at h ⊢;simp only at h ⊢;obtain⟨_,af,ag⟩:=Xl h;rw[ag];exact .byte k x1 e1 ac c2 af;rw[kab c2]at h ⊢;by_cases O:285<k;rw[kac O]at h;exact jJ;rw[kab O]at h ⊢;unfold LH at h ⊢;obtain⟨n0,x2,e2⟩:∃n0 x2,uget row (samesL.getD (k-257) (0,0)).2 x1=(n0,x2):=⟨_,_,rfl⟩;obtain⟨f,x3,e3⟩:∃f x3,uplace b row x2=(f,x3):=⟨_,_,rfl⟩;simp only[e2,e3]at h ⊢;by_cases aa:x3.e=0/\29<f;rw[kac aa]at h;rw[kac (Bi od)]at h;exact jJ;rw[kab aa]at h ⊢;by_cases G:x3.e≠0;rw[kac G]at h;exact absurd h G;rw[kab G]at h ⊢;have H:x3.e=0:=om;simp only at h ⊢;unfold Z6s at h ⊢;obtain⟨d0,x4,I⟩:∃d0 x4,uget row (farsL.getD f (0,0)).2 x3=(d0,x4):=⟨_,_,rfl⟩;simp only[I]at h ⊢;have E:=So h;by_cases U:x4.e=0/\x4.out.length<(farsL.getD f (0,0)).1+d0;rw[kac U]at E;exact absurd E (Bi od);rw[kab U]at h E ⊢;have ae:x2.e=0:=GM (by rw[e3];exact H);exact .same k n0 f d0 x1 x2 x3 x4 _ e1 ac om om e2 ae e3 H om I E om rfl h
theorem Tok1.ahead {a b:List Int}{v:US}{t:Bool}(h:Tok1 row a b u t v):u.p+1<=v.p/\v.p<=row.length/\v.e=0/\v.ks=u.ks/\(u.out.length<=3000->v.out.length<=3000):=by
 cases h with
 |stop _ h1 h2=>have:=Ct h1 h2;exact⟨this.1,this.2.1,h2,this.2.2.2.1,fun h=>by rw[this.2.2.1];exact h⟩
 |byte c x h1 h2 h3 h4=>have:=Ct h1 h2;refine⟨this.1,this.2.1,h2,this.2.2.2.1,fun h=> ?_⟩;rw[this.2.2.1]at h4 ⊢;simp only[VB,VG,WE];omega
 |same k n0 f d0 x1 x2 x3 x4 _ h1 h2 h3 h4 h5 h6 h7 h8 h9 h10 h11 h12 h13 h14=>have I:=Ct h1 h2;have O:=Bj h5 h6;have G:=Ct h7 h8;have H:=Bj h10 h11;have E:=CT (by rw[h13];exact h14:(ucopy ((farsL.getD f (0,0)).1+d0) ((samesL.getD (k-257) (0,0)).1+n0) x4).e=0);rw[h13]at E;refine⟨om,om,h14, ?_,fun h=>E.2.2 ?_⟩;rw[E.2.1,H.2.2.2.1,G.2.2.2.1,O.2.2.2.1,I.2.2.2.1];rw[H.2.2.1,G.2.2.1,O.2.2.1,I.2.2.1];exact h
theorem Z6q {a b:List Int}:∀ {F:Nat} {u:US},(utok row a b F u).e=0->u.e=0
 |0,u,h=>h
 |F+1,u,h=>by rw[utok]at h;exact xV
theorem Xj {a b:List Int}(h:(utok row a b (F+1) u).e=0):∃t x,Tok1 row a b u t x/\utok row a b (F+1) u=if t=true then utok row a b F x else x:=by have H:=Z6q h;rw[utok,kac H]at h ⊢;obtain⟨t,x,e⟩:∃t x,Mp row a b u=(t,x):=⟨_,_,rfl⟩;have E:=LC (row:=row) (a:=a) (b:=b) (u:=u);rw[e]at h E ⊢;simp only at h E ⊢;refine⟨t,x,E ?_,rfl⟩;by_cases G:t=true;rw[kac G]at h;exact Z6q h;rw[kab G]at h;exact h
inductive Blk1R (row:List Bool)(u:US):Bool->US->Prop
 |stored (l:Nat) (x1 x2:US):uget row 1 u=(l,x1)->uget row 2 x1=(0,x2)->x2.e=0->(ustored row x2).e=0->Blk1R row u (decide (l=1)) (ukept 0 (ustored row x2))
 |coded (l k:Nat) (x1 x2 x3:US) (a b:List Int):uget row 1 u=(l,x1)->uget row 2 x1=(k,x2)->x2.e=0->(k=1\/k=2)->uopen row k x2=((a,b),x3)->x3.e=0->(utok row a b row.length x3).e=0->Blk1R row u (decide (l=1)) (ukept k (utok row a b row.length x3))
theorem Sq (h:(Em row u).2.e=0):Blk1R row u (Em row u).1 (Em row u).2:=by obtain⟨l,x1,e1⟩:∃l x1,uget row 1 u=(l,x1):=⟨_,_,rfl⟩;obtain⟨k,x2,e2⟩:∃k x2,uget row 2 x1=(k,x2):=⟨_,_,rfl⟩;unfold Em at h ⊢;simp only[e1,e2]at h ⊢;by_cases c1:x2.e≠0;exact bA;rw[kab c1]at h ⊢;have H:x2.e=0:=om;by_cases c2:k=0;subst c2;rw[kac rfl]at h ⊢;exact .stored l x1 x2 e1 e2 H h;rw[kab c2]at h ⊢;obtain⟨a,b,x3,e3⟩:∃a b x3,uopen row k x2=((a,b),x3):=⟨_,_,_,rfl⟩;rw[e3]at h ⊢;simp only at h ⊢;by_cases dt:x3.e≠0;exact zQ;rw[kab dt]at h ⊢;have E:x3.e=0:=om;(have I:k=1\/k=2:=by by_cases d1:k=1;exact .inl d1;by_cases G:k=2;exact .inr G;unfold uopen at e3;rw[kab d1,kab G]at e3;have:=(VM e3).2;rw[<-this]at E;exact absurd E (Bi od));exact .coded l k x1 x2 x3 a b e1 e2 H I e3 E h
structure Told (row:List Bool)(u:US)(m0 n0 c0:Nat)(u1 u2 u3 us:US)(S L A C:List Int)(v:US):Prop where
 g1:uget row 5 u=(m0,u1)
 g2:uget row 5 u1=(n0,u2)
 g3:uget row 4 u2=(c0,u3)
 e3:u3.e=0
 hm:m0+257<=286
 hn:n0+1<=30
 sm:usmall row (ord19.take (c0+4)) (List.replicate 19 0) u3=(S,us)
 es:us.e=0
 cs:errL S=0
 ln:ulens row S (m0+257+(n0+1)) (m0+257+(n0+1)) [] us=(L,v)
 ev:v.e=0
 l256:L.getD 256 0≠0
 ca:errL (L.take (m0+257))=0
 cc:errL (L.drop (m0+257))=0
 ea:A=L.take (m0+257)
 ec:C=L.drop (m0+257)
 len:L.length=m0+257+(n0+1)
theorem Hs {v:US}{A C:List Int}(h:Dm row u=((A,C),v))(ae:v.e=0):∃m0 n0 c0 u1 u2 u3 us S L,Told row u m0 n0 c0 u1 u2 u3 us S L A C v:=by obtain⟨m0,u1,e1⟩:∃m0 u1,uget row 5 u=(m0,u1):=⟨_,_,rfl⟩;obtain⟨n0,u2,e2⟩:∃n0 u2,uget row 5 u1=(n0,u2):=⟨_,_,rfl⟩;obtain⟨c0,u3,e3⟩:∃c0 u3,uget row 4 u2=(c0,u3):=⟨_,_,rfl⟩;(have E:Lk row (m0+257) (n0+1) (Gx row (m0+257) (n0+1) (c0+4) u3)=((A,C),v):=by unfold Dm at h;simp only[e1,e2,e3]at h;exact h);obtain⟨S,us,U⟩:∃S us,Gx row (m0+257) (n0+1) (c0+4) u3=(S,us):=⟨_,_,rfl⟩;rw[U]at E;unfold Lk at E;by_cases hc:(Sp (S,us)).e≠0;rw[kac hc]at E;have:Sp (S,us)=v:=(VM E).2;rw[this]at hc;exact absurd ae hc;rw[kab hc]at E;have G:(Sp (S,us)).e=0:=om;(have O:us.e=0/\errL S=0:=by unfold Sp at G;simp only at G;by_cases aa:us.e=0/\errL S≠0;rw[kac aa]at G;exact absurd G (Bi od);rw[kab aa]at G;refine⟨G, ?_⟩;by_cases ag:errL S=0;exact ag;exact absurd ⟨G,ag⟩ aa);(have au:Sp (S,us)=us:=by unfold Sp;rw[kab];rintro ⟨_,ar⟩;exact ar O.2);rw[au]at E;simp only at E;obtain⟨L,H,hl⟩:∃L H,ulens row S (m0+257+(n0+1)) (m0+257+(n0+1)) [] us=(L,H):=⟨_,_,rfl⟩;rw[hl]at E;unfold Gy at E;simp only at E;by_cases ac:H.e≠0;rw[kac ac]at E;have:H=v:=(VM E).2;rw[this]at ac;exact absurd ae ac;rw[kab ac]at E;have ai:H.e=0:=om;by_cases hb:L.getD 256 0=0\/errL (L.take (m0+257))≠0\/errL (L.drop (m0+257))≠0;rw[kac hb]at E;have:An 8 H=v:=(VM E).2;rw[<-this]at ae;exact absurd ae (Bi od);rw[kab hb]at E;have aj:=(VM E).1;have ak:H=v:=(VM E).2;subst ak;(have ap:¬(286<m0+257\/30<n0+1):=by intro aa;have af:=U;unfold Gx at af;rw[kac aa]at af;have:=congrArg (fun z=>z.2.e) af;simp only at this;rw[O.1]at this;exact Bi od (Mr this));(have ah:usmall row (ord19.take (c0+4)) (List.replicate 19 0) u3=(S,us):=by unfold Gx at U;rw[kab ap]at U;exact U);(have ao:u3.e=0:=by have:=congrArg (fun z=>z.2.e) ah;simp only at this;rw[O.1]at this;exact Mr this);(have al:L.length=m0+257+(n0+1):=by have:=N4 (row:=row) (small:=S) (tot:=m0+257+(n0+1)) (m0+257+(n0+1)) [] us oS oS O.1 (by rw[hl];exact ai) (fun l u _=>(N5 row l _ _).1);rw[hl]at this;exact this);refine⟨m0,n0,c0,u1,u2,u3,us,S,L,⟨e1,e2,e3,ao,om,om,ah,O.1,O.2,hl,ai, ?_, ?_, ?_,(VM aj).1.symm,(VM aj).2.symm,al⟩⟩;intro I;exact hb (.inl I);by_cases I:errL (L.take (m0+257))=0;exact I;exact absurd (.inr (.inl I)) hb;by_cases I:errL (L.drop (m0+257))=0;exact I;exact absurd (.inr (.inr I)) hb
theorem Z1j:Good Pu:=Cl (by decide+kernel)
theorem Z1i:Good Lj:=Cl (by decide+kernel)
theorem Zt:∀ {ks:List Nat} {s:List Int} {u:US},(usmall row ks s u).2.e=0->u.p<=row.length->u.p<=(usmall row ks s u).2.p/\(usmall row ks s u).2.p<=row.length/\(usmall row ks s u).2.out=u.out/\(usmall row ks s u).2.ks=u.ks
 | [],s,u,h,hp=>⟨VA _,hp,rfl,rfl⟩
 |k::r,s,u,h,hp=>by rw[usmall]at h ⊢;have I:=Mr h;obtain⟨ae,aa,U,E,_⟩:=Bj (r:=(uget row 3 u).1) (v:=(uget row 3 u).2) rfl I;obtain⟨ac,O,G,H⟩:=Zt h aa;exact⟨om,O,G.trans U,H.trans E⟩
theorem QV (h:(ukind row l k u).2.2.e=0)(I:u.p<=row.length):u.p<=(ukind row l k u).2.2.p/\(ukind row l k u).2.2.p<=row.length/\(ukind row l k u).2.2.out=u.out/\(ukind row l k u).2.2.ks=u.ks:=by(have key:∀n,(uget row n u).2.e=0->u.p<=(uget row n u).2.p/\(uget row n u).2.p<=row.length/\(uget row n u).2.out=u.out/\(uget row n u).2.ks=u.ks:=fun n hn=>by obtain⟨ae,ac,aa,O,_⟩:=Bj (r:=(uget row n u).1) (v:=(uget row n u).2) rfl hn;exact⟨om,ac,aa,O⟩);unfold ukind at h ⊢;split;(. rename_i G;rw[kac G]at h;split;(. rename_i E;rw[kac E]at h;exact jJ);. rename_i E;rw[kab E]at h;exact key 2 h);. rename_i G;rw[kab G]at h;split;(. rename_i H;rw[kac H]at h;exact key 3 h);. rename_i H;rw[kab H]at h;split;(. rename_i U;rw[kac U]at h;exact key 7 h);exact⟨VA _,I,rfl,rfl⟩
theorem QT:∀ {F:Nat} {l:List Int} {u:US},(ulens row small tot F l u).2.e=0->u.p<=row.length->u.p<=(ulens row small tot F l u).2.p/\(ulens row small tot F l u).2.p<=row.length/\(ulens row small tot F l u).2.out=u.out/\(ulens row small tot F l u).2.ks=u.ks
 |0,l,u,h,hp=>⟨VA _,hp,rfl,rfl⟩
 |F+1,l,u,h,hp=>by by_cases hc:l.length<tot/\u.e=0;obtain⟨r,e⟩:=Lr hc.1 hc.2 h;rw[e,r.st]at h ⊢;simp only at h ⊢;obtain⟨a1,a2,O,E,_,_⟩:=Ct (k:=(uplace small row u).1) (v:=(uplace small row u).2) rfl r.pe;obtain⟨b1,b2,b3,b4⟩:=QV r.ke a2;obtain⟨U,I,G,H⟩:=QT h b2;exact⟨om,I,G.trans (b3.trans O),H.trans (b4.trans E)⟩;rw[ulens,kab hc];exact⟨VA _,hp,rfl,rfl⟩
theorem Sj {v u1 u2 u3 ag:US}{S A C:List Int}(h:Told row u ac G aa u1 u2 u3 ag S U A C v)(ar:u.p<=row.length):u.p+1<=v.p/\v.p<=row.length/\v.out=u.out/\v.ks=u.ks:=by obtain⟨a1,a2,ai,ak,ah⟩:=Bj h.g3 h.e3;obtain⟨b1,b2,b3,b4,aj⟩:=Bj h.g2 ah;obtain⟨c1,c2,ao,ap,_⟩:=Bj h.g1 aj;have s:=Zt (row:=row) (ks:=ord19.take (aa+4)) (s:=List.replicate 19 0) (u:=u3) (by rw[h.sm];exact h.es) a2;rw[h.sm]at s;obtain⟨s1,ae,af,I⟩:=s;have t:=QT (row:=row) (small:=S) (tot:=ac+257+(G+1)) (F:=ac+257+(G+1)) (l:= []) (u:=ag) (by rw[h.ln];exact h.ev) ae;rw[h.ln]at t;obtain⟨al,E,H,O⟩:=t;simp only at s1 ae af I al E H O;exact⟨om,E,by rw[H,af,ai,b3,ao],by rw[O,I,ak,b4,ap]⟩
theorem DI:∀q,q<29->(samesL.getD q (0,0)).2<=5/\(samesL.getD q (0,0)).1<=258:=od
theorem OJ:∀f,f<30->(farsL.getD f (0,0)).2<=13/\(farsL.getD f (0,0)).1<=24577/\1<=(farsL.getD f (0,0)).1:=od
theorem Mq:∀ {k:Nat} {u:US},(ustore row k u).e=0->u.e=0
 |0,u,h=>h
 |k+1,u,h=>by rw[ustore]at h;exact xV
theorem Sl:∀ {k:Nat} {u:US},(ustore row k u).e=0->(ustore row k u).ks=u.ks
 |0,u,h=>rfl
 |k+1,u,h=>by have H:=Mq h;rw[ustore,kac H]at h ⊢;obtain⟨r,y,E⟩:∃r y,uget row 8 u=(r,y):=⟨_,_,rfl⟩;rw[E]at h ⊢;obtain⟨G,_,I⟩:=Xl (Mq h);rw[Sl h,I];exact(Bj E G).2.2.2.1
structure Sto (row:List Bool)(u:US)(r1 r2:Nat)(y1 y2 V:US):Prop where
 g1:uget row 16 {u with p:=(u.p+7)/8*8}=(r1,y1)
 g2:uget row 16 y1=(r2,y2)
 e2:y2.e=0
 sum:r1+r2=65535
 st:ustore row r1 y2=V
 ev:V.e=0
theorem M0 (h:(ustored row u).e=0):∃r1 r2 y1 y2,Sto row u r1 r2 y1 y2 (ustored row u):=by obtain⟨r1,y1,e1⟩:∃r1 y1,uget row 16 {u with p:=(u.p+7)/8*8}=(r1,y1):=⟨_,_,rfl⟩;obtain⟨r2,y2,e2⟩:∃r2 y2,uget row 16 y1=(r2,y2):=⟨_,_,rfl⟩;refine⟨r1,r2,y1,y2, ?_⟩;unfold ustored at h ⊢;simp only[e1,e2]at h ⊢;have E:=Mq h;by_cases c:y2.e=0/\r1+r2≠65535;rw[kac c]at E;exact absurd E (Bi od);rw[kab c]at h E ⊢;exact⟨e1,e2,E,om,rfl,h⟩
theorem Zs:∀ {k:Nat} {u:US},(ustore row k u).e=0->u.p<=row.length->u.p<=(ustore row k u).p/\(ustore row k u).p<=row.length/\(u.out.length<=3000->(ustore row k u).out.length<=3000)
 |0,u,h,hp=>⟨VA _,hp,fun h=>h⟩
 |k+1,u,h,hp=>by have H:=Mq h;rw[ustore,kac H]at h ⊢;obtain⟨r,y,G⟩:∃r y,uget row 8 u=(r,y):=⟨_,_,rfl⟩;rw[G]at h ⊢;obtain⟨O,I,E⟩:=Xl (Mq h);obtain⟨ae,aa,U,_,_⟩:=Bj G O;have ih:=Zs h (by rw[E];exact aa);rw[E]at ih ⊢;refine⟨?_,ih.2.1,fun ac=>ih.2.2 ?_⟩;have:=ih.1;simp only at this ⊢;omega;simp only[VB,VG,WE];rw[U]at I ⊢;omega
theorem Z6p {a b:List Int}:∀ {F:Nat} {u:US},(utok row a b F u).e=0->u.p<=row.length->u.p<=(utok row a b F u).p/\(utok row a b F u).p<=row.length/\(utok row a b F u).ks=u.ks/\(u.out.length<=3000->(utok row a b F u).out.length<=3000)
 |0,u,h,hp=>⟨VA _,hp,rfl,fun h=>h⟩
 |F+1,u,h,hp=>by obtain⟨t,x,U,e⟩:=Xj h;obtain⟨a1,a2,af,E,H⟩:=U.ahead;rw[e]at h ⊢;by_cases G:t=true;rw[kac G]at h ⊢;obtain⟨ae,ac,O,aa⟩:=Z6p h a2;exact⟨om,ac,O.trans E,fun I=>aa (H I)⟩;rw[kab G];exact⟨om,a2,E,H⟩
theorem Blk1R.ahead {v:US}{t:Bool}(h:Blk1R row u t v):u.p+1<=v.p/\v.p<=row.length/\v.e=0/\v.ks.length=u.ks.length+1/\(u.out.length<=3000->v.out.length<=3000):=by
 cases h with
 |stored l x1 x2 h1 h2 h3 E=>obtain⟨a6,U,ah,ag,O⟩:=Bj h2 h3;obtain⟨au,aw,af,ac,_⟩:=Bj h1 O;obtain⟨r1,r2,y1,y2,G⟩:=M0 E;have ap:y1.e=0:=Xo (by rw[G.g2];exact G.e2);obtain⟨ax,bc,ai,ak,_⟩:=Bj G.g1 ap;obtain⟨a7,ay,ao,av,_⟩:=Bj G.g2 G.e2;have s:=Zs (row:=row) (k:=r1) (u:=y2) (by rw[G.st];exact E) ay;have aj:=Sl (row:=row) (k:=r1) (u:=y2) (by rw[G.st];exact E);rw[G.st]at s aj;simp only at ax ai ak;refine⟨?_,s.2.1,E, ?_,fun ae=>s.2.2 ?_⟩;show u.p+1<=(ustored row x2).p;have:=s.1;omega;show ((ustored row x2).ks++ [0]).length=_;rw[VB,aj,av,ak,ag,ac];rfl;rw[ao,ai,ah,af];exact ae
 |coded l k x1 x2 x3 a b h1 h2 h3 E h5 h6 h7=>obtain⟨a6,U,ah,ag,O⟩:=Bj h2 h3;obtain⟨au,aw,af,ac,_⟩:=Bj h1 O;(have a4:x2.p<=x3.p/\x3.p<=row.length/\x3.out=x2.out/\x3.ks=x2.ks:=by rcases E with E|E;subst E;unfold uopen at h5;rw[kac rfl]at h5;have:=(VM h5).2;subst this;exact⟨VA _,U,rfl,rfl⟩;subst E;unfold uopen at h5;rw[kab od,kac rfl]at h5;obtain⟨m0,n0,c0,ba,v2,a8,us,a9,bb,a3⟩:=Hs h5 h6;obtain⟨az,H,I,aa⟩:=Sj a3 U;exact⟨om,H,I,aa⟩);obtain⟨s1,ar,a5,al⟩:=a4;obtain⟨az,H,I,aa⟩:=Z6p h7 ar;refine⟨?_,H,h7, ?_,fun ae=>aa ?_⟩;show u.p+1<=(utok row a b row.length x3).p;omega;show ((utok row a b row.length x3).ks++ [k]).length=_;rw[VB,I,al,ag,ac];rfl;rw[a5,ah,af];exact ae
theorem QZ:∀ {F:Nat} {u:US},(Dn row (F+1) u).e=0->(Em row u).2.e=0:=by intro F u h;rw[Dn]at h;by_cases c:(Em row u).1=false/\(Em row u).2.e=0;exact c.2;rw[kab c]at h;exact h
theorem A4 (h:(Dn row (F+1) u).e=0):∃t x,Blk1R row u t x/\Dn row (F+1) u=if t=false then Dn row F x else x:=by have E:=QZ h;refine⟨(Em row u).1,(Em row u).2,Sq E, ?_⟩;rw[Dn];by_cases c:(Em row u).1=false;rw[kac ⟨c,E⟩,kac c];rw[kab (fun h=>c h.1),kab c]
def Dr (s:Nat):Nat×Nat:=if s=285 then (258,0)else (3+((s-257)-4*((s-257)/4-1))*2^((s-257)/4-1),(s-257)/4-1)
def Ds (s:Nat):Nat×Nat:=(1+(s-2*(s/2-1))*2^(s/2-1),s/2-1)
theorem Y9 (s:Nat)(E:257<=s)(G:s<=285):Dr s=samesL.getD (s-257) (0,0):=by have:∀k∈List.range 29,Dr (k+257)=samesL.getD k (0,0):=tD;have:=this (s-257) oO;rwa [Nat.sub_add_cancel E]at this
theorem Z1 (s:Nat)(E:s<=29):Ds s=farsL.getD s (0,0):=by have:∀k∈List.range 30,Ds k=farsL.getD k (0,0):=tD;exact this s oO
def Cr (row:List Bool)(u:US):Nat×US:=
 let n:=uget row 16 {u with p:=(u.p+7)/8*8}
 let t:=uget row 16 n.2
 (n.1,if t.2.e=0/\n.1+t.1≠65535 then An 4 t.2 else t.2)
def Cn (row:List Bool)(u:US):US:=
 let x:=Cr row u
 if x.2.e=0/\3000<x.2.out.length+x.1 then An 2 x.2 else ustore row x.1 x.2
theorem Gc (row:List Bool)(k:Nat)(u:US)(h:u.e≠0):ustore row k u=u:=by
 cases k with
 |zero=>rfl
 |succ k=>unfold ustore;rw[kab h]
theorem He (row:List Bool)(n:Nat)(u:US)(h:u.p<=row.length):(uget row n u).2.p<=row.length:=by unfold uget;split;(. split;exact h;show u.p+n<=row.length;omega);exact h
theorem Cs (row:List Bool)(n:Nat)(u:US):(uget row n u).2.out=u.out:=by unfold uget;split;(. split<;>rfl);rfl
theorem Fw (row:List Bool)(n:Nat)(u:US)(h:u.e≠0):(uget row n u).2=u:=by unfold uget;rw[kab h]
theorem Yn (row:List Bool)(u O E:US)(I G H:Nat)(U:(u.p+7)/8*8=I)(ac:uget row 16 {u with p:=I}=(G,O))(aa:uget row 16 O=(H,E)):Cn row u=if E.e≠0 then E else if G+H≠65535 then {E with e:=4}else if 3000<E.out.length+G then {E with e:=2}else ustore row G E:=by(have ae:Cr row u=(G,if E.e=0/\G+H≠65535 then An 4 E else E):=by simp only[Cr,U,ac,aa]);unfold Cn;simp only[ae];by_cases e:E.e=0;by_cases e2:G+H=65535;by_cases e3:3000<E.out.length+G;simp[e,e2,e3,An];simp[e,e2,e3];simp[e,e2,An,Gc];simp[e,Gc]
theorem Ix (row:List Bool)(n:Nat)(u:US):(uget row n u).2.ks=u.ks:=by unfold uget;split;(. split<;>rfl);rfl
def Kh (d k:Nat)(u:US):US:=if u.out.length<d then {u with e:=9}else if 3000<u.out.length+k then {u with e:=2}else ucopy d k u
theorem Uf (row:List Bool):∀(k:Nat) (x:US),x.out.length<=3000->3000<x.out.length+k->(ustore row k x).e≠0
 |0,x,h1,h2=>om
 |k+1,x,h1,h2=>by by_cases e:x.e=0;unfold ustore;rw[kac e];obtain⟨c,y,G⟩:∃c y,uget row 8 x=(c,y):=⟨_,_,rfl⟩;(have E:y.out=x.out:=by have:=Cs row 8 x;rw[G]at this;exact this);rw[G];show (ustore row k (Fo c y)).e≠0;by_cases e2:y.e=0;by_cases e3:y.out.length=3000;(have:Fo c y= {y with e:=2}:=by unfold Fo;rw[kac e2,kac e3]);rw[this,Gc _ _ _ (show (2:Int)≠0 by decide)];exact(by decide:(2:Int)≠0);(have:Fo c y= {y with out:=y.out++ [c]}:=by unfold Fo;rw[kac e2,kab e3]);rw[this];refine Uf row k _ ?_ ?_;show (y.out++ [c]).length<=3000;rw[VB,E];rw[E]at e3;exact bI;show 3000<(y.out++ [c]).length+k;rw[VB,E];exact bI;(have:Fo c y=y:=by unfold Fo;rw[kab e2]);rw[this,Gc _ _ _ e2];exact e2;rw[Gc _ _ _ e];exact e
theorem NO (row:List Bool)(u:US)(I:u.out.length<=3000)(h:(ustored row u).e=0):Cn row u=ustored row u:=by have E:ustored row u=ustore row (Cr row u).1 (Cr row u).2:=rfl;(have G:(Cr row u).2.out=u.out:=by unfold Cr;dsimp only;split;(. unfold An;split;show (uget row 16 _).2.out=_;rw[Cs,Cs];rw[Cs,Cs]);rw[Cs,Cs]);unfold Cn;dsimp only;rw[kab,E];rintro ⟨_,H⟩;rw[E]at h;exact Uf row _ _ (by rw[G];exact I) H h
def US0:US:= {p:=0,out:= [],ks:= [],e:=0}
def Nt (row:List Bool)(lb:List Int)(u:US):Nat×US:=
 if (uplace lb row u).2.e≠0 then (0,(uplace lb row u).2)
 else if 29<(uplace lb row u).1 then (0,{(uplace lb row u).2 with e:=8})
 else ((Ds (uplace lb row u).1).1+(uget row (Ds (uplace lb row u).1).2 (uplace lb row u).2).1,(uget row (Ds (uplace lb row u).1).2 (uplace lb row u).2).2)
theorem IW (l:List Int)(p:Nat)(E:p<=row.length):∀f n,p+(Er l row p f n).2.1<=row.length
 |0,n=>by simpa[Er]using E
 |f+1,n=>by unfold Er;split;simpa using E;. split;show p+n<=row.length;omega;exact IW l p E f (n+1)
theorem Ju (l:List Int)(row:List Bool)(u:US)(E:u.p<=row.length):(uplace l row u).2.p<=row.length:=by unfold uplace;split;exact IW l u.p E 15 1;exact E
def Cu (row:List Bool)(lb:List Int)(k:Nat)(u:US):US:=
 if k<256 then (if 3000<u.out.length+1 then {u with e:=2}else {u with out:=u.out++ [k]})
 else if 285<k then {u with e:=8}
 else if (uget row (Dr k).2 u).2.e≠0 then (uget row (Dr k).2 u).2
 else if (Nt row lb (uget row (Dr k).2 u).2).2.e≠0 then (Nt row lb (uget row (Dr k).2 u).2).2
 else Kh (Nt row lb (uget row (Dr k).2 u).2).1 ((Dr k).1+(uget row (Dr k).2 u).1) (Nt row lb (uget row (Dr k).2 u).2).2
def NL (row:List Bool)(la lb:List Int):Nat->Nat->US->US
 |0,_,u=>u
 |f+1,k,u=>if k=256 then u
  else if (Cu row lb k u).e≠0 then Cu row lb k u
  else if (uplace la row (Cu row lb k u)).2.e≠0 then (uplace la row (Cu row lb k u)).2
  else NL row la lb f (uplace la row (Cu row lb k u)).1 (uplace la row (Cu row lb k u)).2
def Hz (row:List Bool)(la lb:List Int)(f:Nat)(u:US):US:=
 if (uplace la row u).2.e≠0 then (uplace la row u).2 else NL row la lb f (uplace la row u).1 (uplace la row u).2
theorem Gz (l:List Int)(row:List Bool)(u:US):(uplace l row u).2.out=u.out/\(uplace l row u).2.ks=u.ks/\u.p<=(uplace l row u).2.p:=by unfold uplace;split;exact⟨rfl,rfl,UE _ _⟩;exact⟨rfl,rfl,VA _⟩
theorem CS (row:List Bool)(n:Nat)(u:US):u.p<=(uget row n u).2.p:=by unfold uget;split;(. split;exact VA _;exact UE _ _);exact VA _
theorem Yp (row:List Bool)(l:List Int)(u:US)(O:u.p<=row.length):(Nt row l u).2.out=u.out/\(Nt row l u).2.ks=u.ks/\u.p<=(Nt row l u).2.p/\(Nt row l u).2.p<=row.length:=by obtain⟨H,E,I⟩:=Gz l row u;have G:=Ju l row u O;unfold Nt;split;exact⟨H,E,I,G⟩;. split;exact⟨H,E,I,G⟩;exact⟨(Cs row _ _).trans H,(Ix row _ _).trans E,WJ I (CS _ _ _),He row _ _ G⟩
theorem Ul (d k:Nat)(u:US)(h:(Kh d k u).e=0):(Kh d k u).p=u.p/\(Kh d k u).ks=u.ks/\(u.out.length<=3000->(Kh d k u).out.length<=3000):=by unfold Kh at h ⊢;split;(. rename_i hc;rw[kac hc]at h;exact absurd (show (9:Int)=0 from h) od);. rename_i hc;rw[kab hc]at h;split;(. rename_i E;rw[kac E]at h;exact zC);. rename_i E;rw[kab E]at h;exact CT h
theorem Yk (l:List Int)(row:List Bool)(p:Nat):∀f n,1<=n->(Er l row p f n).2.2=0->1<=(Er l row p f n).2.1
 |0,n,_,h=>absurd (show (8:Int)=0 from h) od
 |f+1,n,hn,h=>by unfold Er at h ⊢;split;(. rename_i hc;rw[kac hc]at h;exact absurd (show (7:Int)=0 from h) od);. rename_i hc;rw[kab hc]at h;split;exact hn;. rename_i E;rw[E]at h;exact Yk l row p f (n+1) om h
theorem QS (l:List Int)(row:List Bool)(u:US)(E:u.e=0)(h:(uplace l row u).2.e=0):u.p<(uplace l row u).2.p:=by unfold uplace at h ⊢;rw[kac E]at h ⊢;have:=Yk l row u.p 15 1 (VA _) h;show u.p<u.p+(Nl l row u.p).2.1;unfold Nl;omega
theorem tvA {P:Program}{G:Region.Mode}{E:Array Bool}{a:Act}{o:Oper}{v:Value}(i:Nat)(h:wpAny P G ag Q ac (E.setIfInBounds i true) ax w)(aa:aw=a:=by first|(simp only[Act.put,VE,VH,VJ];rfl)|rfl)(ah:ag[i]? =some o:=by exact rfl)(ae:Region.noSelect ag=true:=by kernel_rfl)(H:Region.free G ag E i=true:=by kernel_rfl)(U:(Region.ready G ag E).contains i=true:=by kernel_rfl)(O:Yields P ag o v a:=by exact Or.inl ⟨by rfl,fun W=>by first|(go_simp;done)|(go_simp;with_reducible rfl)⟩)(I:a.put o.dst v=ax:=by simp only[Act.put,VE,VH,VJ];rfl)(af:∀c a w,Q (.panic c) (a.put o.dst v) w->Q (.panic c) a w:=by exact fun _ _ _ h=>h):wpAny P G ag Q (ac+1) E aw w:=by rw[aa];exact wpAny_take ah ae H U af O (by rw[I];exact h)
theorem tvH {P:Program}{G:Region.Mode}{E:Array Bool}{a:Act}{o:Oper}{S:World->Prop}{v:Value}(i:Nat)(c8:S w)(h:wpAnyH P G ag Q S ac (E.setIfInBounds i true) ax w)(H:aw=a:=by first|(simp only[Act.put,VE,VH,VJ];rfl)|rfl)(hi:ag[i]? =some o:=by exact rfl)(a8:Region.noSelect ag=true:=by kernel_rfl)(d9:Region.free G ag E i=true:=by kernel_rfl)(hr:(Region.ready G ag E).contains i=true:=by kernel_rfl)(gq:YieldsIf P ag S o v a:=by exact Or.inl ⟨by rfl,fun W c8=>by first|(go_simp;done)|(go_simp;with_reducible rfl)⟩)(bo:a.put o.dst v=ax:=by simp only[Act.put,VE,VH,VJ];rfl)(qm:∀c a w,Q (.panic c) (a.put o.dst v) w->Q (.panic c) a w:=by exact fun _ _ _ h=>h):wpAnyH P G ag Q S (ac+1) E aw w:=by rw[H];exact wZ
theorem tgH {P:Program}{G:Region.Mode}{E:Array Bool}{a:Act}{o:Oper}{S:World->Prop}{v:Value}(i:Nat)(c8:S w)(h:wpAnyH P G ag Q S ac (E.setIfInBounds i true) ax w)(H:aw=a:=by first|(simp only[Act.put,VE,VH,VJ];rfl)|rfl)(hi:ag[i]? =some o:=by exact rfl)(a8:Region.noSelect ag=true:=by kernel_rfl)(d9:Region.free G ag E i=true:=by kernel_rfl)(hr:(Region.ready G ag E).contains i=true:=by kernel_rfl)(gq:YieldsIf P ag S o v a:=by exact Or.inl ⟨by kernel_rfl,fun W c8=>by first|(go_simp;done)|(go_simp;with_reducible rfl)⟩)(bo:a.put o.dst v=ax:=by simp only[Act.put,VE,VH,VJ];rfl)(qm:∀c a w,Q (.panic c) (a.put o.dst v) w->Q (.panic c) a w:=by exact fun _ _ _ h=>h):wpAnyH P G ag Q S (ac+1) E aw w:=by rw[H];exact wZ
theorem rjA {P:Program}{H:Region.Mode}{G:Array Bool}{a:Act}{w:World}{o:Oper}(i:Nat)(h:wpAny P H ag Q ac (G.setIfInBounds i true) ax w')(O:aw=a:=by first|(simp only[Act.put,VE,VH,VJ];rfl)|rfl)(aa:ag[i]? =some o:=by exact rfl)(I:Region.ready H ag G= [i]:=by kernel_rfl)(ae:∀E:Act->World->Prop,E ax w'->if Region.wanted o (yielded ag a.tmps)=true then Oper.wp P o a w E Q else E (a.put o.dst undef) w:=by intro E U;go_simp;(try simp only[Act.put,VE,VH,VJ]);exact U):wpAny P H ag Q (ac+1) G aw w:=by rw[O];exact kbm I (by simp) (kau aa (fun K hK=>ae K (hK _ _ h)) kbi)
theorem rjH {P:Program}{H:Region.Mode}{G:Array Bool}{a:Act}{w:World}{o:Oper}{S:World->Prop}(i:Nat)(I:S w')(h:wpAnyH P H ag Q S ac (G.setIfInBounds i true) ax w')(U:aw=a:=by first|(simp only[Act.put,VE,VH,VJ];rfl)|rfl)(ae:ag[i]? =some o:=by exact rfl)(O:Region.ready H ag G= [i]:=by kernel_rfl)(af:∀E:Act->World->Prop,E ax w'->if Region.wanted o (yielded ag a.tmps)=true then Oper.wp P o a w E Q else E (a.put o.dst undef) w:=by intro E aa;go_simp;(try simp only[Act.put,VE,VH,VJ]);exact aa):wpAnyH P H ag Q S (ac+1) G aw w:=by rw[U];exact wpAnyH_ready O (by simp) (AllReadyH.cons ae (fun K hK=>af K (hK.out _ _ I (fun _=>h))) AllReadyH.nil)
theorem rdH {P:Program}{G:Region.Mode}{E:Array Bool}{a:Act}{S:World->Prop}(i:Nat)(h:∀H:Act->World->Prop,Shut (∀a w,S w->(S w->wpAnyH P G ag Q S ac (E.setIfInBounds i true) a w)->H a w)->if Region.wanted o (yielded ag a.tmps)=true then Oper.wp P o a w H Q else H (a.put o.dst undef) w)(I:ag[i]? =some o:=by exact rfl)(O:Region.ready G ag E= [i]:=by kernel_rfl):wpAnyH P G ag Q S (ac+1) E a w:=
 wpAnyH_ready O (by simp) (AllReadyH.cons I h AllReadyH.nil)
theorem rdA {P:Program}{G:Region.Mode}{E:Array Bool}{a:Act}(i:Nat)(h:∀H:Act->World->Prop,(∀a w,wpAny P G ag Q ac (E.setIfInBounds i true) a w->H a w)->if Region.wanted o (yielded ag a.tmps)=true then Oper.wp P o a w H Q else H (a.put o.dst undef) w)(I:ag[i]? =some o:=by exact rfl)(O:Region.ready G ag E= [i]:=by kernel_rfl):wpAny P G ag Q (ac+1) E a w:=
 kbm O (by simp) (kau I h kbi)
end Go.Proofs.YtleocpdblhbimaaGreatDoor
