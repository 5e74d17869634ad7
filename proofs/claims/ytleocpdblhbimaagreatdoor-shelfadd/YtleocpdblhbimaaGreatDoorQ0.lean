import Derived.Test.YtleocpdblhbimaaGreatDoorQM
import Derived.Test.YtleocpdblhbimaaGreatDoorRows
import Derived.Lib.SplitLaws
import Derived.Lib.Join
import Derived.Lib.SlTrimSet
set_option linter.unusedVariables false
set_option linter.unusedSimpArgs false
set_option maxRecDepth 100000
set_option maxHeartbeats 2000000
namespace Go.Proofs.YtleocpdblhbimaaGreatDoor
open Go.RowKit Go.Proofs.Tryz
open Go.Value renaming int->so,slice->va,bool->ve
open Go.IntKind renaming i64->vh,u8->vi
open Go.Obj renaming cells->vl
open Go.Ending renaming returned->vm
open Option renaming none->vn,some->vp
open Bool renaming false->vq,true->vr
open Go renaming World->wd,Value->vt,Calls->vu,IntKind->vv,Addr->vw
open Go.RowKit renaming Below->vx,intOf->vy,Hid->vz
open Go.Proofs.Tryz renaming prog->v8
variable{xs:List Int}{b o:Nat}{w w':World}
theorem own:ownKnob Tryz.prog.godebug=none:=by kernel_rfl
theorem Z0n:laidOutB v8=true:=by kernel_rfl
def Row(k:vv)(w:wd)(b o:Nat)(xs:List Int):Prop:=∀j,j<xs.length->w.cell? ⟨b,o+j,vn⟩=vp (so k (xs.getD j 0))
theorem Row.new(k:vv)(w:wd)(xs:List Int)(t:TypeId)(A:Array vt)(b:Nat)(G:b=w.heap.size)(F:A=(xs.map (Value.int k)).toArray):Row k (w.alloc (vl A t)) b 0 xs:=by intro j E;rw[World.cell?_alloc_at _ _ _ _ G,F];simp[List.getD,E]
theorem Row.alloc{k:vv}(h:Row k w b o xs)(F:b<w.heap.size)(x:Obj):Row k (w.alloc x) b o xs:=by intro j E;rw[World.cell?_alloc_past _ _ _ F];exact h j E
theorem Row.below{k:vv}{B:Nat}(h:Row k w b o xs)(I:vx B w w')(hb:b<B):Row k w' b o xs:=by exact yT
theorem Ae{B:Nat}{a:wd}(h:vx B a w)(n:Nat):vx B a (w.drewN n):=⟨h.os,h.tape,h.output,h.size,h.block⟩
theorem Ab{p:Prop}(h:p):vz p:=h
theorem Aa{p:Prop}(h:vz p):p:=h
theorem Hc{a b:Bool}(h:a=b):vm (ve a)=vm (ve b):=by rw[h]
theorem Bm{k:vv}{a b:Int}(h:a=b):vm (so k a)=vm (so k b):=by rw[h]
theorem HW:type_of% @AllReady.cons:= @AllReady.cons
theorem R7:type_of% @AllReady.nil:= @AllReady.nil
theorem EN:type_of% @Below.heap_alloc:= @Below.heap_alloc
theorem kbn:type_of% @Below.heap_setCell:= @Below.heap_setCell
theorem A2:type_of% @Below.refl:= @Below.refl
theorem kbz:type_of% @Calls.quiet_of:= @Calls.quiet_of
theorem kbr:type_of% @DataW.weights_mem_each:= @DataW.weights_mem_each
theorem TX:type_of% @Go.setRow_other:= @Go.setRow_other
theorem ka3:type_of% @IntKind.wrap_i64:= @IntKind.wrap_i64
theorem kbw:type_of% @Lib.cell_of_heap:= @Lib.cell_of_heap
theorem kbv:type_of% @MapKept.run_checkKey:= @MapKept.run_checkKey
theorem aC:type_of% @MapKept.run_findKey:= @MapKept.run_findKey
theorem aF:type_of% @MapKept.run_getObj_map:= @MapKept.run_getObj_map
theorem kbt:type_of% @Oper.upon_value:= @Oper.upon_value
theorem V6:type_of% @Result.andThen_ok:= @Result.andThen_ok
theorem P0:type_of% @Sem.run_bind:= @Sem.run_bind
theorem TO:type_of% @Sem.run_pure:= @Sem.run_pure
theorem N0:type_of% @World.cell?_alloc_at:= @World.cell?_alloc_at
theorem U0:type_of% @World.cell?_alloc_lt:= @World.cell?_alloc_lt
theorem I5:type_of% @World.cell?_alloc_past:= @World.cell?_alloc_past
theorem kbo:type_of% @World.cell?_drewN:= @World.cell?_drewN
theorem FA:type_of% @World.cell?_of_block:= @World.cell?_of_block
theorem K4:type_of% @World.cell?_setCell_other:= @World.cell?_setCell_other
theorem P1:type_of% @World.cell?_setCell_same:= @World.cell?_setCell_same
theorem aD:type_of% @World.drewN_drewN:= @World.drewN_drewN
theorem ka7:type_of% @World.frozen?_of_block:= @World.frozen?_of_block
theorem aE:type_of% @World.frozen?_setCell:= @World.frozen?_setCell
theorem K1:type_of% @World.grownBy_alloc:= @World.grownBy_alloc
theorem HM:type_of% @World.ownsRow_nil:= @World.ownsRow_nil
theorem CL:type_of% @World.size_alloc:= @World.size_alloc
theorem HH:type_of% @beq_eq_false_iff_ne:= @beq_eq_false_iff_ne
theorem Lq:type_of% @beq_iff_eq:= @beq_iff_eq
theorem kbq:type_of% @bne_eq_false_iff_eq:= @bne_eq_false_iff_eq
theorem HV:type_of% @bne_iff_ne:= @bne_iff_ne
theorem E1:type_of% @bodyPost_ret:= @bodyPost_ret
theorem V3:type_of% @cell_of_row:= @cell_of_row
theorem RR:type_of% @cell_one_new:= @cell_one_new
theorem kbk:type_of% @decide_eq_decide:= @decide_eq_decide
theorem H2:type_of% @decide_eq_false:= @decide_eq_false
theorem H6:type_of% @decide_eq_true:= @decide_eq_true
theorem P2:type_of% @decide_eq_true_eq:= @decide_eq_true_eq
theorem V7:type_of% @decide_eq_true_iff:= @decide_eq_true_iff
theorem kb0:type_of% @decide_false:= @decide_false
theorem B1:type_of% @frozen_of_row:= @frozen_of_row
theorem B2:type_of% @heap_alloc_new:= @heap_alloc_new
theorem kbs:type_of% @heap_setCell_other:= @heap_setCell_other
theorem CR:type_of% @heap_setCell_same:= @heap_setCell_same
theorem A0:type_of% @if_neg:= @if_neg
theorem A1:type_of% @if_pos:= @if_pos
theorem RZ:type_of% @if_true:= @if_true
theorem EM:type_of% @info_parts:= @info_parts
theorem kbj:type_of% @of_decide_eq_false:= @of_decide_eq_false
theorem LN:type_of% @of_decide_eq_true:= @of_decide_eq_true
theorem MS:type_of% @results_cell_row:= @results_cell_row
theorem aB:type_of% @run_callFunc_extern:= @run_callFunc_extern
theorem Mz:type_of% @run_underlying:= @run_underlying
theorem ND:type_of% @setRow_heap:= @setRow_heap
theorem kbu:type_of% @toList_madeCells_one:= @toList_madeCells_one
theorem R6:type_of% @wpAny_ready:= @wpAny_ready
theorem HG:type_of% @wpList_append_own_at:= @wpList_append_own_at
theorem V5:type_of% @wpList_make_full:= @wpList_make_full
theorem kb1:type_of% @wpList_plain:= @wpList_plain
theorem Ma:type_of% @wpList_store_row:= @wpList_store_row
theorem LG:type_of% @wpS_region:= @wpS_region
theorem MR:type_of% @wpS_seq:= @wpS_seq
theorem oR{p:Prop}(h:p:=by kernel_rfl):p:=h
theorem ou{p:Prop}(h:p:=by unfold maxLen;omega):p:=h
theorem oh{q p:Prop}(F:vz q)(h:q->p:=by omega):p:=h (Aa F)
theorem oI{q p:Prop}(F:q)(h:q->p:=by omega):p:=h F
theorem ydB{F E:Prop}(H:F)(G:E):vz F/\vz E:=⟨H,G⟩
theorem Bq{F E G:Prop}(O:F)(I:E)(H:G):vz F/\vz E/\vz G:=⟨O,I,H⟩
theorem Do{G F H E:Prop}(U:G)(O:F)(I:H)(Z:E):vz G/\vz F/\vz H/\vz E:=⟨U,O,I,Z⟩
theorem HF{H G I E F:Prop}(aa:H)(Z:G)(O:I)(ac:E)(U:F):vz H/\vz G/\vz I/\vz E/\vz F:=⟨aa,Z,O,ac,U⟩
theorem WW{I H O E G F:Prop}(ae:I)(aa:H)(U:O)(af:E)(Z:G)(ac:F):vz I/\vz H/\vz O/\vz E/\vz G/\vz F:=⟨ae,aa,U,af,Z,ac⟩
theorem T7{I H O E G F U:Prop}(ag:I)(ae:H)(aa:O)(ah:E)(ac:G)(af:F)(Z:U):vz I/\vz H/\vz O/\vz E/\vz G/\vz F/\vz U:=⟨ag,ae,aa,ah,ac,af,Z⟩
theorem T6{I H O E G F U Z:Prop}(ai:I)(af:H)(ac:O)(aj:E)(ae:G)(ah:F)(aa:U)(ag:Z):vz I/\vz H/\vz O/\vz E/\vz G/\vz F/\vz U/\vz Z:=⟨ai,af,ac,aj,ae,ah,aa,ag⟩
theorem ydI{I H O E G F U aa Z:Prop}(ak:I)(ah:H)(af:O)(al:E)(ag:G)(aj:F)(ac:U)(ai:aa)(ae:Z):vz I/\vz H/\vz O/\vz E/\vz G/\vz F/\vz U/\vz aa/\vz Z:=⟨ak,ah,af,al,ag,aj,ac,ai,ae⟩
theorem ydJ{ac Z H E G F I O U aa:Prop}(af:ac)(ah:Z)(ae:H)(al:E)(ag:G)(aj:F)(ao:I)(ai:O)(ak:U)(ap:aa):vz ac/\vz Z/\vz H/\vz E/\vz G/\vz F/\vz I/\vz O/\vz U/\vz aa:=⟨af,ah,ae,al,ag,aj,ao,ai,ak,ap⟩
theorem ydK{ae aa H E G F I O U ac Z:Prop}(ag:ae)(aj:aa)(af:H)(ap:E)(ai:G)(al:F)(ar:I)(ak:O)(ao:U)(au:ac)(ah:Z):vz ae/\vz aa/\vz H/\vz E/\vz G/\vz F/\vz I/\vz O/\vz U/\vz ac/\vz Z:=⟨ag,aj,af,ap,ai,al,ar,ak,ao,au,ah⟩
theorem ydL{af ac H E G F I O Z ae aa U:Prop}(ah:af)(ak:ac)(ag:H)(au:E)(aj:G)(ao:F)(av:I)(al:O)(ar:Z)(aw:ae)(ai:aa)(ap:U):vz af/\vz ac/\vz H/\vz E/\vz G/\vz F/\vz I/\vz O/\vz Z/\vz ae/\vz aa/\vz U:=⟨ah,ak,ag,au,aj,ao,av,al,ar,aw,ai,ap⟩
theorem ydM{ag ae I E G F O U aa af ac Z H:Prop}(ai:ag)(ao:ae)(ah:I)(aw:E)(al:G)(ar:F)(ax:O)(ap:U)(av:aa)(ay:af)(aj:ac)(au:Z)(ak:H):vz ag/\vz ae/\vz I/\vz E/\vz G/\vz F/\vz O/\vz U/\vz aa/\vz af/\vz ac/\vz Z/\vz H:=⟨ai,ao,ah,aw,al,ar,ax,ap,av,ay,aj,au,ak⟩
theorem ydN{ah af O E G F U Z ac ag ae aa I H:Prop}(ak:ah)(ar:af)(aj:O)(ay:E)(ap:G)(av:F)(az:U)(au:Z)(ax:ac)(a3:ag)(al:ae)(aw:aa)(ao:I)(ai:H):vz ah/\vz af/\vz O/\vz E/\vz G/\vz F/\vz U/\vz Z/\vz ac/\vz ag/\vz ae/\vz aa/\vz I/\vz H:=⟨ak,ar,aj,ay,ap,av,az,au,ax,a3,al,aw,ao,ai⟩
end Go.Proofs.YtleocpdblhbimaaGreatDoor
namespace Go.Proofs.YtleocpdblhbimaaGreatDoor.Aq
open Go.RowKit Go.Proofs.Tryz
open Go.Value renaming int->so,slice->va,bool->ve
open Go.IntKind renaming i64->vh,u8->vi
open Go.Obj renaming cells->vl
open Go.Ending renaming returned->vm
open Option renaming none->vn,some->vp
open Bool renaming false->vq,true->vr
open Go renaming World->wd,Value->vt,Calls->vu,IntKind->vv,Addr->vw
open Go.RowKit renaming Below->vx,intOf->vy,Hid->vz
open Go.Proofs.Tryz renaming prog->v8
variable{G aa ac b k m:Nat}
variable {α:Type}
def swp(d:Nat->α)(i j:Nat):Nat->α:=λk=>if k=i then d j else if k=j then d i else d k
def X1(d:Nat->α)(a b:Nat):Nat->Nat->α
 |0=>d
 |i+1=>swp (X1 d a b i) (a+i) (b+i)
def E0(d:Nat->α)(a m b:Nat):Nat->α:=λk=>if a<=k/\k<a+(b-m)then d (k+(m-a))else if a+(b-m)<=k/\k<b then d (k-(b-m))else d k
theorem GW(d:Nat->α)(a b:Nat):∀n,(a+n<=b\/b+n<=a)->∀k,X1 d a b n k=if a<=k/\k<a+n then d (b+(k-a))else if b<=k/\k<b+n then d (a+(k-b))else d k
 |0,_,k=>by rw[X1,A0 om,A0 om]
 |n+1,h,k=>by have ih:=GW d a b n om;rw[X1,swp];by_cases E:k=a+n;rw[A1 E,A1 om,ih,A0 om,A0 om];congr 1;omega;rw[A0 E];by_cases F:k=b+n;rw[A1 F,A0 om,A1 om,ih,A0 om,A0 om];congr 1;omega;rw[A0 F,ih];by_cases H:a<=k/\k<a+n;rw[A1 H,A1 om];rw[A0 H];by_cases G:b<=k/\k<b+n;rw[A1 G,A0 om,A1 om];rw[A0 G,A0 om,A0 om]
theorem rot_gt(d:Nat->α)(m i j:Nat)(h:j<i)(I:i<=m):E0 (X1 d (m-i) m j) (m-(i-j)) m (m+j)=E0 d (m-i) m (m+j):=by funext k;have E:=GW d (m-i) m j om;unfold E0;by_cases G:m-i<=k/\k<m-i+(m+j-m);rw[A1 G,A0 om,A0 om,E,A1 om];congr 1;omega;rw[A0 G];by_cases F:m-(i-j)<=k/\k<m-(i-j)+(m+j-m);rw[A1 F,E,A0 om,A1 om,A1 om];congr 1;omega;rw[A0 F];by_cases H:m-(i-j)+(m+j-m)<=k/\k<m+j;rw[A1 H,E,A0 om,A0 om,A1 om];rw[A0 H,E,A0 om,A0 om,A0 om]
theorem rot_lt(d:Nat->α)(m i j:Nat)(h:i<j)(O:i<=m):E0 (X1 d (m-i) (m+j-i) i) (m-i) m (m+(j-i))=E0 d (m-i) m (m+j):=by funext k;have E:=GW d (m-i) (m+j-i) i om;unfold E0;by_cases G:m-i<=k/\k<m-i+(m+(j-i)-m);rw[A1 G,A1 om,E,A0 om];by_cases I:m+j-i<=k+(m-(m-i))/\k+(m-(m-i))<m+j-i+i;omega;rw[A0 I];rw[A0 G];by_cases H:m-i+(m+(j-i)-m)<=k/\k<m+(j-i);rw[A1 H,A1 om,E,A1 om];congr 1;omega;rw[A0 H,E];by_cases F:m+j-i<=k/\k<m+j-i+i;rw[A0 om,A1 F,A0 om,A1 om];congr 1;omega;rw[A0 om,A0 F,A0 om,A0 om]
theorem rot_eq(d:Nat->α)(m i:Nat)(G:i<=m):X1 d (m-i) m i=E0 d (m-i) m (m+i):=by funext k;rw[GW d (m-i) m i om,E0];by_cases E:m-i<=k/\k<m-i+i;rw[A1 E,A1 om];congr 1;omega;rw[A0 E];by_cases F:m<=k/\k<m+i;rw[A1 F,A0 om,A1 om];congr 1;omega;rw[A0 F,A0 om,A0 om]
def seg(d:Nat->α)(a b:Nat):List α:=(List.range (b-a)).map λi=>d (a+i)
structure EA(a b:Nat)(d d':Nat->α):Prop where
 out:∀k,¬(a<=k/\k<b)->d' k=d k
 perm:(seg d' a b).Perm (seg d a b)
theorem EA.refl(a b:Nat)(d:Nat->α):EA a b d d:=⟨λ_ _=>rfl,List.Perm.refl _⟩
theorem EA.trans{a:Nat}{d d' E:Nat->α}(h:EA a b d d')(k:EA a b d' E):EA a b d E:=
 ⟨λi hi=>(k.out i hi).trans (h.out i hi),k.perm.trans h.perm⟩
theorem F2(d:Nat->α)(a m b:Nat)(E:a<=m)(F:m<=b):seg d a b=seg d a m++seg d m b:=by apply XM;simp[seg];omega;. intro i H G;rw[List.getElem_append];simp only[seg,List.getElem_map,List.getElem_range,WP,List.length_range];split;rfl;congr 1;omega
theorem R9{d d':Nat->α}{a:Nat}(h:∀k,a<=k->k<b->d' k=d k):seg d' a b=seg d a b:=by apply XM (by simp[seg]);intro i E F;(have:i<b-a:=by simpa[seg]using E);simp only[seg,List.getElem_map,List.getElem_range];exact h _ om om
theorem MP{d:Nat->α}{a:Nat}{x:α}:x∈seg d a b↔∃k,a<=k/\k<b/\d k=x:=by simp only[seg,WU,List.mem_range];constructor;rintro ⟨i,hi,rfl⟩;exact⟨a+i,om,om,rfl⟩;rintro ⟨k,E,F,rfl⟩;exact⟨k-a,om,by congr 1;omega⟩
theorem EA.mem{a:Nat}{d d':Nat->α}(h:EA a b d d')(E:a<=k)(F:k<b):∃j,a<=j/\j<b/\d j=d' k:=by have:d' k∈seg d' a b:=MP.2 ⟨k,E,F,rfl⟩;exact MP.1 (h.perm.mem_iff.1 this)
theorem EA.wider{a:Nat}{d d':Nat->α}(h:EA a b d d')(H:G<=a)(F:a<=b)(I:b<=ac):EA G ac d d':=by refine⟨λk E=>h.out k om,?_⟩;rw[F2 d' G a ac H om,F2 d G a ac H om,F2 d' a b ac F I,F2 d a b ac F I];rw[R9 (d:=d) (d':=d') (a:=G) (b:=a) (λk _ E=>h.out k om),R9 (d:=d) (d':=d') (a:=b) (b:=ac) (λk E _=>h.out k om)];exact(h.perm.append_right _).append_left _
theorem Z8l(d:Nat->α)(a m b:Nat)(F:a<=m)(G:m<=b):seg (E0 d a m b) a b=seg d m b++seg d a m:=by apply XM;simp[seg];omega;intro i E H;(have hi:i<b-a:=by simpa[seg]using E);rw[List.getElem_append];simp only[seg,List.getElem_map,List.getElem_range,WP,List.length_range,E0];by_cases h:i<b-m;rw[dif_pos h,A1 om];congr 1;omega;rw[dif_neg h,A0 om,A1 om];congr 1;omega
theorem Pl(d:Nat->α)(a m b:Nat)(E:a<=m)(F:m<=b):EA a b d (E0 d a m b):=by refine⟨λk G=> ?_,?_⟩;rw[E0,A0 om,A0 om];rw[Z8l d a m b E F,F2 d a m b E F];exact List.perm_append_comm
variable (lt:α->α->Prop)
def Srt(d:Nat->α)(a b:Nat):Prop:=∀i j,a<=i->i<j->j<b->lt (d i) (d j)
theorem Srt.sub{E:α->α->Prop}{d:Nat->α}{a:Nat}(h:Srt E d a b)(O:a<=ac)(I:G<=b):Srt E d ac G:=λi j hi F H=>h i j om F om
theorem Srt.congr{G:α->α->Prop}{d d':Nat->α}{a:Nat}(h:Srt G d a b)(F:∀k,a<=k->k<b->d' k=d k):Srt G d' a b:=λi j hi H E=>by
 rw[F i hi om,F j om E];exact h i j hi H E
theorem Srt.join{E:α->α->Prop}{d:Nat->α}{a:Nat}(I:Srt E d a m)(H:Srt E d m b)(h:∀i j,a<=i->i<m->m<=j->j<b->E (d i) (d j)):Srt E d a b:=by intro i j hi G F;by_cases c1:j<m;exact I i j hi G c1;by_cases c2:i<m;exact h i j hi c2 om F;exact H i j om G F
theorem YL{E:α->α->Prop}(nu:∀x y z,E x y->E y z->E x z){d U F:Nat->α}{a:Nat}(ag:a<=G)(ai:G<=m)(ax:m<=ac)(ap:ac<=b)(a7:aa+m=G+ac) (I:Srt E d a m) (O:Srt E d m b) (ah:a<G->ac<b->E (d (G-1)) (d ac)) (av:G<m->m<ac->E (d (ac-1)) (d G)) (ae:EA a aa (E0 d G m ac) U) (aw:Srt E U a aa) (H:EA aa b U F) (ao:Srt E F aa b):Srt E F a b/\EA a b d F:=by have a4:G<=aa/\aa<=ac:=om;constructor;refine Srt.join (m:=aa) (aw.congr λk _ a5=>H.out k om) ao ?_;intro i j hi ak ay az;rw[H.out i om];obtain⟨p,af,a6,au⟩:=ae.mem hi ak;obtain⟨q,a3,a8,al⟩:=H.mem ay az;rw[<-au,<-al,ae.out q om];(have ar:E0 d G m ac p=if p<G then d p else d (p+(m-G)):=by unfold E0;by_cases c:p<G;rw[A0 om,A0 om,A1 c];rw[A1 om,A0 c]);(have aj:E0 d G m ac q=if q<ac then d (q-(ac-m))else d q:=by unfold E0;by_cases c:q<ac;rw[A0 om,A1 om,A1 c];rw[A0 om,A0 om,A0 c]);rw[ar,aj];by_cases c1:p<G;rw[A1 c1];by_cases c2:q<ac;rw[A1 c2];exact I _ _ af om om;rw[A0 c2];have Z:E (d (G-1)) (d ac):=ah om om;(have e2:d p=d (G-1)\/E (d p) (d (G-1)):=by by_cases c:p=G-1;left;rw[c];right;exact I _ _ af om om);(have e3:d ac=d q\/E (d ac) (d q):=by by_cases c:ac=q;left;rw[c];right;exact O _ _ om om om);exact zB;rw[A0 c1];by_cases c2:q<ac;rw[A1 c2];have Z:E (d (ac-1)) (d G):=av om om;(have e2:d (p+(m-G))=d (ac-1)\/E (d (p+(m-G))) (d (ac-1)):=by by_cases c:p+(m-G)=ac-1;left;rw[c];right;exact O _ _ om om om);(have e3:d G=d (q-(ac-m))\/E (d G) (d (q-(ac-m))):=by by_cases c:G=q-(ac-m);left;rw[<-c];right;exact I _ _ ag om om);exact zB;rw[A0 c2];exact O _ _ om om om;exact(((Pl d G m ac ai ax).wider ag om ap).trans (ae.wider (VA _) om om)).trans (H.wider om om (VA _))
end Go.Proofs.YtleocpdblhbimaaGreatDoor.Aq
namespace Go.Proofs.YtleocpdblhbimaaGreatDoor.Aq
open Go.RowKit Go.Proofs.Tryz
open Go.Value renaming int->so,slice->va,bool->ve
open Go.IntKind renaming i64->vh,u8->vi
open Go.Obj renaming cells->vl
open Go.Ending renaming returned->vm
open Option renaming none->vn,some->vp
open Bool renaming false->vq,true->vr
open Go renaming World->wd,Value->vt,Calls->vu,IntKind->vv,Addr->vw
open Go.RowKit renaming Below->vx,intOf->vy,Hid->vz
open Go.Proofs.Tryz renaming prog->v8
variable{G aa ac b i m:Nat}
def lx(x y:Int×Int):Prop:=x.1<y.1\/ (x.1=y.1/\x.2<y.2)
theorem HD(x y z:Int×Int)(h:lx x y)(k:lx y z):lx x z:=by unfold lx at*;omega
def K3(d:Nat->Int×Int)(a m b:Nat):Prop:=∀i j,a<=i->i<m->m<=j->j<b->(d i).2<(d j).2
theorem aH{x y:Int×Int}(h:x.2<y.2):(decide (y.1<x.1)=vr->lx y x)/\(decide (y.1<x.1)=vq->lx x y):=by unfold lx;constructor;intro e;have:=LN e;omega;intro e;have:=kbj e;omega
theorem rot_left(d:Nat->Int×Int)(m b:Nat):E0 d m m b=d:=by funext k;unfold E0;by_cases h:m<=k/\k<m+(b-m);rw[A1 h];congr 1;omega;rw[A0 h,A0 om]
theorem rot_right(d:Nat->Int×Int)(a m:Nat):E0 d a m m=d:=by funext k;unfold E0;rw[A0 om];by_cases h:a+(m-m)<=k/\k<m;rw[A1 h];congr 1;omega;rw[A0 h]
theorem Vz{d:Nat->Int×Int}{a:Nat}(ak:a<=ac)(ai:ac<=m)(al:m<=G)(aj:G<=b)(ao:aa+m=ac+G)(ae:Srt lx d a m)(af:Srt lx d m b)(ag:K3 d a m b):(Srt lx (E0 d ac m G) a ac/\Srt lx (E0 d ac m G) ac aa/\K3 (E0 d ac m G) a ac aa)/\(Srt lx (E0 d ac m G) aa G/\Srt lx (E0 d ac m G) G b/\K3 (E0 d ac m G) aa G b):=by(have O:∀k,k<ac->E0 d ac m G k=d k:=λk H=>by unfold E0;rw[A0 om,A0 om]);(have e2:∀k,ac<=k->k<aa->E0 d ac m G k=d (k+(m-ac)):=λk H ah=>by unfold E0;rw[A1 om]);(have e3:∀k,aa<=k->k<G->E0 d ac m G k=d (k-(G-m)):=λk H ah=>by unfold E0;rw[A0 om,A1 om]);(have U:∀k,G<=k->E0 d ac m G k=d k:=λk H=>by unfold E0;rw[A0 om,A0 om]);refine⟨⟨?_,?_,?_⟩,?_,?_,?_⟩;intro i j hi F E;rw[O i om,O j E];exact ae i j hi F om;intro i j hi F E;rw[e2 i hi om,e2 j om E];exact af _ _ om om om;intro i j hi I E Z;rw[O i I,e2 j E Z];exact ag _ _ hi om om om;intro i j hi F E;rw[e3 i hi om,e3 j om E];exact ae _ _ om om om;intro i j hi F E;rw[U i hi,U j om];exact af i j om F E;intro i j hi I E Z;rw[e3 i hi I,U j E];exact ag _ _ om om om Z
theorem K3.congr{d d':Nat->Int×Int}{a:Nat}(h:K3 d a m b)(F:∀k,a<=k->k<b->d' k=d k):K3 d' a m b:=λi j hi H G E=>by
 rw[F i hi om,F j om E];exact h i j hi H G E
theorem ins_first{d:Nat->Int×Int}{a:Nat}(ag:a<i)(af:i<=b)(E:Srt lx d (a+1) b)(O:a+1<i->lx (d (i-1)) (d a))(U:i<b->lx (d a) (d i)):Srt lx (E0 d a (a+1) i) a b:=by(have I:∀k,a<=k->k<i-1->E0 d a (a+1) i k=d (k+1):=λk F G=>by unfold E0;rw[A1 om];congr 1;omega);(have e2:E0 d a (a+1) i (i-1)=d a:=by unfold E0;rw[A0 om,A1 om];congr 1;omega);(have e3:∀k,i<=k->E0 d a (a+1) i k=d k:=λk F=>by unfold E0;rw[A0 om,A0 om]);(have below:∀k,a+1<=k->k<i->lx (d k) (d a):=by intro k F G;by_cases c:k=i-1;rw[c];exact O om;exact HD _ _ _ (E k (i-1) F om om) (O om));(have ae:∀k,i<=k->k<b->lx (d a) (d k):=by intro k F G;by_cases c:k=i;rw[c];exact U om;exact HD _ _ _ (U om) (E i k om om G));intro p q Z aa H;by_cases c1:p<i-1;rw[I p Z c1];by_cases c2:q<i-1;rw[I q om c2];exact E _ _ om om om;by_cases ac:q=i-1;rw[ac,e2];exact below _ om om;rw[e3 q om];exact E _ _ om om H;by_cases c2:p=i-1;rw[c2,e2,e3 q om];exact ae q om H;rw[e3 p om,e3 q om];exact E _ _ om aa H
theorem ins_last{d:Nat->Int×Int}{a:Nat}(ac:a<=i)(ag:i<=m)(E:Srt lx d a m)(O:a<i->lx (d (i-1)) (d m))(U:i<m->lx (d m) (d i)):Srt lx (E0 d i m (m+1)) a (m+1):=by(have I:∀k,k<i->E0 d i m (m+1) k=d k:=λk F=>by unfold E0;rw[A0 om,A0 om]);(have e2:E0 d i m (m+1) i=d m:=by unfold E0;rw[A1 om];congr 1;omega);(have e3:∀k,i<k->k<=m->E0 d i m (m+1) k=d (k-1):=λk F H=>by unfold E0;rw[A0 om,A1 om];congr 1;omega);(have below:∀k,a<=k->k<i->lx (d k) (d m):=by intro k F H;by_cases c:k=i-1;rw[c];exact O om;exact HD _ _ _ (E k (i-1) F om om) (O om));(have ae:∀k,i<=k->k<m->lx (d m) (d k):=by intro k F H;by_cases c:k=i;rw[c];exact U om;exact HD _ _ _ (U om) (E i k ac om H));intro p q G Z af;by_cases c1:p<i;rw[I p c1];by_cases c2:q<i;rw[I q c2];exact E _ _ G Z om;by_cases aa:q=i;rw[aa,e2];exact below p G c1;rw[e3 q om om];exact E _ _ G om om;by_cases c2:p=i;rw[c2,e2,e3 q om om];exact ae _ om om;rw[e3 p om om,e3 q om om];exact E _ _ om om om
theorem rot_up(d:Nat->Int×Int)(a k:Nat)(h:a<=k):swp (E0 d a (a+1) (k+1)) k (k+1)=E0 d a (a+1) (k+1+1):=by funext q;unfold swp E0;by_cases c1:q=k;rw[A1 c1,A0 om,A0 om,A1 om];congr 1;omega;rw[A0 c1];by_cases c2:q=k+1;rw[A1 c2,A0 om,A1 om,A0 om,A1 om];congr 1;omega;rw[A0 c2];by_cases E:a<=q/\q<k;rw[A1 om,A1 om];rw[A0 om,A0 om,A0 om,A0 om]
theorem rot_down(d:Nat->Int×Int)(k m:Nat)(E:0<k)(h:k<=m):swp (E0 d k m (m+1)) k (k-1)=E0 d (k-1) m (m+1):=by funext q;unfold swp E0;by_cases c1:q=k;rw[A1 c1,A0 om,A0 om,A0 om,A1 om];congr 1;omega;rw[A0 c1];by_cases c2:q=k-1;rw[A1 c2,A1 om,A1 om];congr 1;omega;rw[A0 c2];by_cases F:k<q/\q<=m;rw[A0 om,A1 om,A0 om,A1 om];rw[A0 om,A0 om,A0 om,A0 om]
end Go.Proofs.YtleocpdblhbimaaGreatDoor.Aq
namespace Go.Proofs.YtleocpdblhbimaaGreatDoor
open Go.Value renaming int->so,slice->va,bool->ve
open Go.IntKind renaming i64->vh,u8->vi
open Go.Obj renaming cells->vl
open Go.Ending renaming returned->vm
open Option renaming none->vn,some->vp
open Bool renaming false->vq,true->vr
open Go renaming World->wd,Value->vt,Calls->vu,IntKind->vv,Addr->vw
open Go.RowKit renaming Below->vx,intOf->vy,Hid->vz
open Go.Proofs.Tryz renaming prog->v8
section
open Go.RowKit Go.Proofs.Tryz
variable{l xs:List Int}{bs:List Nat}{N ac b e g i j k m n o p q:Nat}{No No':Nat->Prop}{a:Option Addr}{r:Option Nat}{v:Value}{W w w':World}
theorem Hw{a:Nat}(E:a<4611686018427387904):(BitVec.ofInt 64 (a:Int)).toNat=a:=by rw[BitVec.ofInt_natCast,BitVec.toNat_ofNat];exact ZU om
theorem Gw(a:Nat)(E:a<4611686018427387904):vh.wrap (a:Int)=a:=by rw[ka3];omega
theorem Um(a b:Nat)(E:a<4611686018427387904)(F:b<4611686018427387904):bits .and vh (a:Int) (b:Int)=((a&&&b:Nat):Int):=by have G:a&&&b<2^62:=Nat.and_lt_two_pow _ om;show vh.wrap ((BitVec.ofInt 64 (a:Int)&&&BitVec.ofInt 64 (b:Int)).toNat:Int)=_;rw[BitVec.toNat_and,Hw E,Hw F];exact Gw _ om
theorem Pt(a b:Nat)(E:a<4611686018427387904)(F:b<4611686018427387904):bits .or vh (a:Int) (b:Int)=((a|||b:Nat):Int):=by have G:a|||b<2^62:=Nat.or_lt_two_pow om om;show vh.wrap ((BitVec.ofInt 64 (a:Int)|||BitVec.ofInt 64 (b:Int)).toNat:Int)=_;rw[BitVec.toNat_or,Hw E,Hw F];exact Gw _ om
theorem Fj(n k:Nat):(n:Int)/2^k=((n/2^k:Nat):Int):=by push_cast;rfl
theorem EP(n k:Nat)(E:n<4611686018427387904):bits .and vh ((n:Int)/2^k) 1=((n/2^k%2:Nat):Int):=by rw[Fj];have h:n/2^k<=n:=YW _ _;have:=Um (n/2^k) 1 om om;exact jZ
theorem Zb0(k:Nat)(E:n<256):bits .and vi ((n:Int)/2^k) 1=((n/2^k%2:Nat):Int):=by rw[Fj];have h:n/2^k<=n:=YW _ _;have:=u8_and_nat (n/2^k) 1 om om;exact jZ
theorem TC(h:k<=16):2^k<=65536:=VN (j:=16) od h
theorem IH(h:k<=7):2^k<=128:=VN (j:=7) od h
theorem Zi{x:Nat}(h:p<=q):x%2*p<=q:=by rcases XF x with e|e<;>rw[e]<;>omega
theorem RH(m n k:Nat)(E:m<65536)(F:n<65536):bits .or vh ((m:Int)*2) (bits .and vh ((n:Int)/2^k) 1)=((m*2|||n/2^k%2:Nat):Int):=by rw[EP n k om];have:=Pt (m*2) (n/2^k%2) om om;rw[<-this];push_cast;rfl
theorem Z4k{x:Nat}(k r:Nat)(F:x<256)(I:n<65536)(H:r<8):bits .or vi (x:Int) (bits .and vh ((n:Int)/2^k) 1%256*2^r%256)=((x|||n/2^k%2*2^r:Nat):Int):=by rw[EP n k om];have G:=Zi (x:=n/2^k) (IH (k:=r) om);(have e:(((n/2^k%2:Nat):Int)%256*2^r%256)=((n/2^k%2*2^r:Nat):Int):=by have E:((n/2^k%2:Nat):Int)%256=((n/2^k%2:Nat):Int):=om;have e2:(((n/2^k%2:Nat):Int)*2^r)=((n/2^k%2*2^r:Nat):Int):=sW;rw[E,e2];omega);rw[e];exact u8_or_nat _ _ F om
theorem Su(n k r i:Nat):(n/2^k%2*2^r).testBit i=(decide (i=r)&&n.testBit k):=by rw[Nat.testBit_mul_two_pow];(have h:∀j,(n/2^k%2).testBit j=(decide (j=0)&&n.testBit k):=by intro j;have:=Nat.testBit_mod_two_pow (n/2^k) 1 j;rw[Nat.pow_one]at this;rw[this,Nat.testBit_div_two_pow];by_cases E:j=0;subst E;simp;simp[E]);rw[h];by_cases hi:i=r;subst hi;simp;by_cases hl:r<=i;have:i-r≠0:=om;simp[hi,this];simp[hi,hl]
def Jq(n:Nat):Nat->Nat
 |0=>0
 |k+1=>Jq n k*2|||n/2^k%2
theorem Sr(n:Nat):∀k i,(Jq n k).testBit i=(decide (i<k)&&n.testBit (k-1-i))
 |0,i=>by simp[Jq]
 |k+1,i=>by have E:=Su n k 0 i;rw[Nat.pow_zero,Nat.mul_one]at E;have F:=Nat.testBit_mul_two_pow (Jq n k) i 1;rw[Nat.pow_one]at F;rw[Jq,Nat.testBit_or,E,F,Sr n k (i-1)];by_cases hi:i=0;subst hi;simp;have e:k+1-1-i=k-1-(i-1):=om;(have e2:(i-1<k)=(i<k+1):=by apply propext;omega);have e3:1<=i:=om;rw[e];simp only[e2,hi,e3,decide_true,ZP,kb0,Bool.false_and,Bool.or_false]
theorem Z3v(n k:Nat):Jq n k<2^k:=by apply Nat.lt_pow_two_of_testBit;intro i hi;rw[Sr];have:¬i<k:=om;simp[this]
def Jh(xs:List Nat)(k:Nat):Bool:=(xs.getD (k/8) 0).testBit (k%8)
theorem JP(xs:List Nat)(i j v:Nat):(xs.set i v).getD j 0=if i=j/\i<xs.length then v else xs.getD j 0:=by rw[XG,YD,XG];exact zF
def arr(c:Nat->Nat):Array Value:=((List.range 16).map λn=>so vh (c n:Nat)).toArray
theorem Gb(c:Nat->Nat):(arr c).size=16:=by simp[arr]
theorem Z30(c:Nat->Nat)(h:j<16):(arr c)[j]? =vp (so vh (c j:Nat)):=by simp[arr,h]
theorem Zan(c:Nat->Nat):(arr c).all (·.oneCell')=true:=by rw[Array.all_eq_true];intro i hi;simp[arr,Value.oneCell']
def upd(c:Nat->Nat)(j x:Nat):Nat->Nat:=λn=>if n=j then x else c n
theorem Zam(c:Nat->Nat)(j x:Nat):(arr c).setIfInBounds j (so vh (x:Nat))=arr (upd c j x):=by apply Array.ext_getElem?;intro i;rw[Array.getElem?_setIfInBounds];by_cases h:i<16;rw[Z30 _ h,Gb,Z30 _ h];by_cases e:j=i;subst e;simp[h,upd];simp[e,upd,Ne.symm e];rw[Gb];(have E:∀f,(arr f)[i]? =none:=λf=>by simp[Gb];omega);rw[E,E];by_cases e:j=i;subst e;simp[h];simp[e]
def cnt(l:List Int)(n:Nat):Nat:=l.count (n:Int)
def takenN(c:Nat->Nat):Nat->Nat
 |0=>0
 |k+1=>takenN c k+c (k+1)*2^(14-k)
def Ay(c:Nat->Nat):Nat->Nat
 |0=>0
 |1=>0
 |n+2=>2*(Ay c (n+1)+c (n+1))
theorem Zd(l:List Int)(n:Nat):cnt l n<=l.length:=YQ
theorem P4(c:Nat->Nat)(h:∀n,c n<=m):∀k,takenN c k<=k*(m*32768)
 |0=>by simp[takenN]
 |k+1=>by have E:=P4 c h k;have F:c (k+1)*2^(14-k)<=m*32768:=Nat.mul_le_mul (h _) (by have:=VN (n:=2) od (show 14-k<=15 by omega);omega);rw[takenN,ZO];omega
theorem Md(c:Nat->Nat):∀k,k<=14->Ay c (k+1)*2^(14-k)=takenN c k
 |0,_=>by simp[Ay,takenN]
 |k+1,h=>by have ih:=Md c k om;have e:14-k=(14-(k+1))+1:=om;rw[takenN,<-ih,Ay,e,XI];generalize 2^(14-(k+1))=p;rw[<-UF,YM p 2,<-YG,YM 2]
theorem LR(c:Nat->Nat)(h:j<=k):takenN c j<=takenN c k:=by
 induction h with
 |refl=>exact VA _
 |step _ ih=>exact WJ ih (UE _ _)
theorem OH(c:Nat->Nat)(h:takenN c 15<=32768)(E:1<=n)(F:n<=15):Ay c n+c n<=2^n:=by obtain⟨k,rfl⟩:∃k,n=k+1:=⟨n-1,om⟩;have e:=Md c k om;have m:=LR c (show k+1<=15 by omega);rw[takenN]at m;(have m2:(Ay c (k+1)+c (k+1))*2^(14-k)<=2^(k+1)*2^(14-k):=by rw[UF,e,<-Nat.pow_add];have:k+1+(14-k)=15:=om;rw[this];omega);exact Nat.le_of_mul_le_mul_right m2 (Nat.pow_pos od)
theorem AN(c:Nat->Nat)(m:Nat)(G:1<=m):∀d,1<=d->(Ay c m+c m)*2^d<=Ay c (m+d)
 |0,h=>om
 |d+1,_=>by obtain⟨k,rfl⟩:∃k,m=k+1:=⟨m-1,om⟩;(have e:Ay c (k+1+(d+1))=2*(Ay c (k+1+d)+c (k+1+d)):=by have:k+1+(d+1)=(k+d)+2:=om;have F:k+1+d=(k+d)+1:=om;rw[this,Ay,F]);rw[e,XI];by_cases E:d=0;subst E;simp;omega;have:=AN c (k+1) G d om;rw[<-YG];omega
def Tw(n:Int):Bool:=decide (0<=n/\n<=15)
theorem Ef{n:Int}(h:Tw n=vr):0<=n/\n<=15:=LN h
theorem Im{n:Int}(h:Tw n=vq):¬(0<=n/\n<=15):=kbj h
theorem Jd(E:k<l.length)(F:l.getD k 0=(n:Int)):upd (cnt (l.take k)) n (cnt (l.take k) n+1)=cnt (l.take (k+1)):=by funext m;(have e:l[k]=(n:Int):=by simpa[List.getD,E]using F);simp only[upd,cnt];rw[XH E,List.count_append,e];by_cases h:m=n;subst h;simp;have:((n:Int)==m)=false:=sV;simp[h,List.count_cons,this]
def errL(l:List Int):Int:=if 288<l.length then 2 else if ∃j,j<l.length/\Tw (l.getD j 0)=vq then 3 else if 32768<takenN (cnt l) 15 then 8 else 0
def SB(l:List Int):Nat->Nat:=if errL l=0 then cnt l else λ_=>0
structure Good(l:List Int):Prop where
 len:l.length<=288
 ok:∀j,j<l.length->0<=l.getD j 0/\l.getD j 0<=15
 room:takenN (cnt l) 15<=32768
theorem Cl(h:errL l=0):Good l:=by
 unfold errL at h;split at h;. cases h
 . split at h;. cases h
   . split at h;. cases h
     . rename_i G F H;refine⟨om,λj E=> ?_,om⟩
       cases e:Tw (l.getD j 0)with
       |true=>exact Ef e
       |false=>exact absurd ⟨j,E,e⟩ F
theorem AD(h:Good l):errL l=0:=by unfold errL;rw[A0 (oI h.len),A0,A0 (oI h.room)];rintro ⟨j,E,e⟩;exact Im e (h.ok j E)
def codeN(l:List Int)(i:Nat):Nat:=if (l.getD i 0).toNat=0 then 0 else Ay (cnt l) (l.getD i 0).toNat+cnt (l.take i) (l.getD i 0).toNat
def Vp(l:List Int):Nat->List Nat
 |0=>List.replicate l.length 0
 |k+1=>(Vp l k).set k (codeN l k)
theorem Ee(l:List Int):∀k,(Vp l k).length=l.length
 |0=>by simp[Vp]
 |k+1=>by rw[Vp,YA,Ee l k]
theorem I7(l:List Int)(E:j<l.length):∀k,(Vp l k).getD j 0=if j<k then codeN l j else 0
 |0=>by simp[Vp,List.getD,E]
 |k+1=>by have ih:=I7 l E k;simp only[Vp,XG,YD,Ee]at ih ⊢;by_cases e:k=j;subst e;simp[E];rw[A0 e,ih];by_cases h:j<k;have:j<k+1:=om;simp[h,this];have:¬j<k+1:=om;simp[h,this]
theorem Z27(l:List Int)(k:Nat)(h:codeN l k=0):Vp l (k+1)=Vp l k:=by rw[Vp,h];by_cases F:k<l.length;have e:=I7 l F k;rw[A0 om]at e;(have E:k<(Vp l k).length:=by rw[Ee];exact F);(have e2:(Vp l k)[k]=0:=by simpa[List.getD,E]using e);apply ZL;intro i;rw[YD];by_cases hi:k=i;subst hi;simp[E,e2];simp[hi];rw[List.set_eq_of_length_le (by rw[Ee];omega)]
def HT(l:List Int)(k:Nat):Nat->Nat:=λn=>if n=0 then 0 else Ay (cnt l) n+cnt (l.take k) n
theorem Z4z(l:List Int)(n:Nat):HT l 0 n=Ay (cnt l) n:=by unfold HT;by_cases e:n=0;subst e;rfl;simp[e,cnt]
theorem Z50(E:k<l.length)(F:l.getD k 0=(n:Int))(G:0<n):upd (HT l k) n (HT l k n+1)=HT l (k+1):=by have h:=Jd E F;funext m;have hm:=congrFun h m;simp only[upd,HT]at hm ⊢;by_cases e:m=n;subst e;have:¬m=0:=om;simp[this]at hm ⊢;omega;simp[e]at hm ⊢;rw[hm]
theorem Z51(E:k<l.length)(F:l.getD k 0=((0:Nat):Int)):HT l k=HT l (k+1):=by have h:=Jd E F;funext m;have hm:=congrFun h m;simp only[upd,HT]at hm ⊢;by_cases e:m=0;simp[e];simp[e]at hm ⊢;rw[hm]
theorem Gu(l:List Int)(E:l.getD k 0=(n:Int)):codeN l k=HT l k n:=by unfold codeN HT;rw[E,WQ]
theorem Z28(h:Good l):SB l=cnt l:=by unfold SB;rw[AD h];rfl
theorem FM(F:k<l.length)(E:l.getD k 0=(n:Int)):cnt (l.take k) n<cnt l n:=by have h:=congrFun (Jd F E) n;simp only[upd,A1]at h;(have G:cnt (l.take (k+1)) n<=cnt l n:=by unfold cnt;exact List.Sublist.count_le _ (List.take_sublist _ _));omega
theorem Jc(h:Good l)(E:k<l.length)(G:l.getD k 0=(n:Int))(U:0<n):Ay (cnt l) n<=codeN l k/\codeN l k<Ay (cnt l) n+cnt l n/\codeN l k<2^n:=by have F:=Gu l G;have I:=FM E G;(have H:n<=15:=by have:=(h.ok k E).2;omega);have O:=OH (cnt l) h.room (n:=n) om H;unfold HT at F;rw[A0 om]at F;omega
def Tr(l:List Int)(m:Nat):Nat->List Nat
 |0=> []
 |k+1=>Tr l m k++(if l.getD k 0=(m:Int)then [k]else [])
theorem Il(l:List Int)(m:Nat):∀k,k<=l.length->(Tr l m k).length=cnt (l.take k) m
 |0,_=>by simp[Tr,cnt]
 |k+1,hk=>by have ih:=Il l m k om;have E:k<l.length:=om;rw[Tr,VB,ih,cnt,cnt,XH E,List.count_append];(have e:l.getD k 0=l[k]:=by simp[List.getD,E]);rw[e];by_cases h:l[k]=(m:Int);simp[h];simp[h]
theorem IJ(l:List Int)(m:Nat):∀k d,∃r,Tr l m (k+d)=Tr l m k++r
 |k,0=>⟨[],oS⟩
 |k,d+1=>by obtain⟨r,hr⟩:=IJ l m k d;refine⟨r++(if l.getD (k+d) 0=(m:Int)then [k+d]else []),?_⟩;rw[<-WV,Tr,hr,VO]
theorem DT(F:p<l.length)(E:l.getD p 0=(m:Int)):(Tr l m l.length)[cnt (l.take p) m]? =vp p:=by obtain⟨r,hr⟩:=IJ l m (p+1) (l.length-(p+1));rw[show p+1+(l.length-(p+1))=l.length by omega]at hr;rw[hr,Tr,A1 E];have h:=Il l m p om;rw[VO,VX om,h];simp
def Zcm(bs:List Nat)(p:Nat):Nat:=bs.getD (p/8) 0/2^(p%8)%2
def Cg(bs:List Nat)(p:Nat):Nat->Nat
 |0=>0
 |k+1=>2*Cg bs p k+Zcm bs (p+k)
theorem Z2s(bs:List Nat)(p:Nat):Zcm bs p<2:=UH _ od
theorem Vo(bs:List Nat)(p:Nat):∀k,Cg bs p k<2^k
 |0=>by simp[Cg]
 |k+1=>by have E:=Vo bs p k;have F:=Z2s bs (p+k);rw[Cg,XI];omega
def L2(l:List Int)(bs:List Nat)(p k:Nat):Prop:=Ay (cnt l) k<=Cg bs p k/\Cg bs p k<Ay (cnt l) k+cnt l k
def Vv(l:List Int)(bs:List Nat)(p x:Nat)(err:Int)(p':Nat):Prop:=
 (∃k,1<=k/\k<=15/\(∀j,1<=j->j<k->¬L2 l bs p j)/\p+k<=8*bs.length/\L2 l bs p k/\p'=p+k/\err=0/\(Tr l k l.length)[Cg bs p k-Ay (cnt l) k]? =vp x)\/
 (∃k,k<15/\(∀j,1<=j->j<=k->¬L2 l bs p j)/\p+k=8*bs.length/\p'=p+k/\err=7/\x=0)\/
 ((∀j,1<=j->j<=15->¬L2 l bs p j)/\p+15<=8*bs.length/\p'=p+15/\err=8/\x=0)
theorem Z4m(l:List Int)(E:i<cnt l k):∃x,(Tr l k l.length)[i]? =vp x:=by have hl:=Il l k l.length (VA _);rw[ZV]at hl;exact⟨(Tr l k l.length)[i],oS⟩
theorem CY(c i:Nat):(c.testBit i).toNat=c/2^i%2:=by rw[Nat.testBit_eq_decide_div_mod_eq];have:=UH (c/2^i) (show 0<2 by decide);by_cases h:c/2^i%2=1;simp[h];have E:c/2^i%2=0:=om;simp[E]
theorem Zah(bs:List Nat)(q:Nat):Zcm bs q=(Jh bs q).toNat:=by unfold Zcm Jh;rw[CY]
theorem Zf8(U:Good l)(O:i<l.length)(H:k<l.length)(E:l.getD i 0=(m:Int))(F:l.getD k 0=(n:Int))(ac:i≠k)(aa:0<m)(af:m<=n):codeN l k/2^(n-m)≠codeN l i:=by obtain⟨a1,a2,ag⟩:=Jc U O E aa;obtain⟨b1,b2,b3⟩:=Jc U H F om;by_cases e:m=n;subst e;rw[XT,Nat.pow_zero,Nat.div_one];intro h;have I:=DT O E;have e2:=DT H F;have d1:=Gu l E;have G:=Gu l F;unfold HT at d1 G;rw[A0 om]at d1 G;have:cnt (l.take i) m=cnt (l.take k) m:=om;rw[this,e2]at I;exact ac (VK I).symm;have Z:=AN (cnt l) m om (n-m) om;rw[show m+(n-m)=n by omega]at Z;have ae:Ay (cnt l) m+cnt l m<=codeN l k/2^(n-m):=(Nat.le_div_iff_mul_le (Nat.pow_pos od)).2 om;omega
def hb(c:Nat):Nat->List Bool
 |0=> []
 |n+1=>hb (c/2) n++ [decide (c%2=1)]
theorem Bc:∀n c,(hb c n).length=n
 |0,_=>rfl
 |n+1,c=>by simp[hb,Bc n]
theorem Z18:∀n,hb 0 n=List.replicate n vq
 |0=>rfl
 |n+1=>by rw[hb,Nat.zero_div,Z18 n,ZK];rfl
theorem Z7l(c n:Nat):∀d,hb (c*2^d) (n+d)=hb c n++List.replicate d vq
 |0=>oS
 |d+1=>by(have e:c*2^(d+1)=2*(c*2^d):=by rw[XI];rw[<-YG,YM]);rw[show n+(d+1)=(n+d)+1 by omega,hb,e];have E:2*(c*2^d)/2=c*2^d:=om;have e2:2*(c*2^d)%2=0:=om;rw[E,e2,Z7l c n d,ZK,VO];rfl
theorem Z7m:∀n c,c+1<2^n->∃a t,hb c n=a++vq::List.replicate t vr/\hb (c+1) n=a++vr::List.replicate t vq
 |0,c,h=>by simp at h
 |n+1,c,h=>by rw[XI]at h;by_cases hc:c%2=0;refine⟨hb (c/2) n,0,?_,?_⟩;rw[hb,hc];rfl;rw[hb,show (c+1)/2=c/2 by omega,show (c+1)%2=1 by omega];rfl;obtain⟨a,t,E,F⟩:=Z7m n (c/2) om;refine⟨a,t+1,?_,?_⟩;rw[hb,E,show c%2=1 by omega,ZK,VO];rfl;rw[hb,show (c+1)/2=c/2+1 by omega,F,show (c+1)%2=0 by omega,ZK,VO];rfl
def Bw(l:List Int):Nat->List (Int×Int)
 |0=> []
 |k+1=>Bw l k++(if 0<l.getD k 0 then [(l.getD k 0,(k:Int))]else [])
def wt(x:Int×Int):Nat:=2^(15-x.1.toNat)
instance (x y:Int×Int):Decidable (Aq.lx x y):=by unfold Aq.lx;infer_instance
def Qw(p:Int×Int):List (Int×Int)->Nat
 | []=>0
 |x::r=>(if Aq.lx x p then wt x else 0)+Qw p r
theorem Fd(p:Int×Int):∀xs ys,Qw p (xs++ys)=Qw p xs+Qw p ys
 | [],ys=>by simp[Qw]
 |x::r,ys=>by simp only[XV,Qw,Fd p r ys];omega
theorem Z2i(p:Int×Int){xs ys:List (Int×Int)}(h:xs.Perm ys):Qw p xs=Qw p ys:=by
 induction h with
 |nil=>rfl
 |cons x _ ih=>simp only[Qw,ih]
 |swap x y l=>simp only[Qw];omega
 |trans _ _ h1 h2=>exact h1.trans h2
theorem Sv(c:Nat->Nat)(m:Nat)(G:1<=m)(H:m<=15):∀j,j<=15->takenN (upd c m (c m+1)) j=takenN c j+(if m<=j then 2^(15-m)else 0)
 |0,_=>by simp[takenN];omega
 |j+1,h=>by have ih:=Sv c m G H j om;rw[takenN,takenN,ih];by_cases e:j+1=m;subst e;have F:¬(j+1<=j):=om;have E:15-(j+1)=14-j:=om;simp only[upd,A1,F,if_false,VA,E,UF,Nat.one_mul];omega;simp only[upd,A0 e];by_cases F:m<=j;have E:m<=j+1:=om;simp[F,E];omega;have E:¬m<=j+1:=om;simp[F,E]
theorem Pg(c:Nat->Nat)(x:Nat):∀j,takenN (upd c 0 x) j=takenN c j
 |0=>rfl
 |j+1=>by rw[takenN,takenN,Pg c x j];simp[upd]
theorem BP(U:Good l)(q:Nat)(ah:1<=n)(ag:n<=15):∀k,k<=l.length->Qw ((n:Int),(q:Int)) (Bw l k)=takenN (cnt (l.take k)) (n-1)+cnt (l.take (min k q)) n*2^(15-n)
 |0,_=>by
  have e:∀j,takenN (cnt []) j=0:=λj=>by
   induction j with
   |zero=>rfl
   |succ j ih=>rw[takenN,ih];simp[cnt]
  simp[Bw,Qw,e,cnt]
 |k+1,hk=>by have ih:=BP U q ah ag k om;have O:k<l.length:=om;have H:=U.ok k O;obtain⟨m,hm⟩:=WH H.1;have hc:=Jd O hm;(have aa:cnt (l.take (k+1)) n=cnt (l.take k) n+(if n=m then 1 else 0):=by rw[<-hc];simp only[upd];by_cases e:n=m;subst e;simp;simp[e]);(have Z:cnt (l.take (min (k+1) q)) n=cnt (l.take (min k q)) n+(if k<q/\n=m then 1 else 0):=by by_cases I:k<q;rw[YX om,YX om,aa];simp[I];rw[YO om,YO om];simp[I]);rw[Bw,Fd,ih,Z,<-hc,hm];(have ac:m<=15:=by rw[hm]at H;omega);by_cases af:m=0;subst af;rw[Pg];have:¬n=0:=om;simp[Qw,this];rw[Sv _ m om ac (n-1) om];have ae:(0:Int)<m:=om;rw[A1 ae];simp only[Qw,wt,WQ,XS];(have G:Aq.lx ((m:Int),(k:Int)) ((n:Int),(q:Int))↔(m<=n-1\/ (n=m/\k<q)):=by unfold Aq.lx;constructor<;>intro h<;>omega);by_cases F:m<=n-1;have E:¬(k<q/\n=m):=om;rw[A1 (G.2 (.inl F)),A1 F,A0 E,XS];omega;by_cases E:k<q/\n=m;rw[A1 (G.2 (.inr ⟨E.2,E.1⟩)),A0 F,A1 E,UF,Nat.one_mul,E.2];omega;rw[A0 (λh=>by have:=G.1 h;omega),A0 F,A0 E,XS,XS,XS]
theorem Z2j(E:Good l)(F:q<l.length)(H:l.getD q 0=(n:Int))(I:0<n):Qw ((n:Int),(q:Int)) (Bw l l.length)=codeN l q*2^(15-n):=by(have G:n<=15:=by have:=(E.ok q F).2;omega);rw[BP E q om G l.length (VA _),ZV,YO om];have h:=Md (cnt l) (n-1) om;have e:=Gu l H;unfold HT at e;rw[A0 om]at e;rw[e,UF,<-h,show n-1+1=n by omega,show 14-(n-1)=15-n by omega]
def vsum(d:Nat->Int×Int):Nat->Nat
 |0=>0
 |i+1=>vsum d i+wt (d i)
theorem Zf(d:Nat->Int×Int)(p:Int×Int):∀i,(∀j,j<i->Aq.lx (d j) p)->Qw p (Aq.seg d 0 i)=vsum d i
 |0,_=>by simp[Aq.seg,Qw,vsum]
 |i+1,h=>by rw[Aq.F2 d 0 i (i+1) om om,Fd,Zf d p i (λj E=>h j om),vsum];(have:Aq.seg d i (i+1)= [d i]:=by unfold Aq.seg;rw[show i+1-i=1 by omega];simp);rw[this];simp[Qw,h i om]
theorem Zg(d:Nat->Int×Int)(p:Int×Int)(a:Nat):∀b,(∀j,a<=j->j<a+b->¬Aq.lx (d j) p)->Qw p (Aq.seg d a (a+b))=0
 |0,_=>by simp[Aq.seg,Qw]
 |b+1,h=>by rw[Aq.F2 d a (a+b) (a+(b+1)) om om,Fd,Zg d p a b (λj E F=>h j E om)];(have:Aq.seg d (a+b) (a+(b+1))= [d (a+b)]:=by unfold Aq.seg;rw[show a+(b+1)-(a+b)=1 by omega];simp);rw[this];simp[Qw,h (a+b) om om]
theorem Zbs(x:Int×Int):¬Aq.lx x x:=by unfold Aq.lx;omega
theorem Z5d{x y:Int×Int}(h:Aq.lx x y):¬Aq.lx y x:=by unfold Aq.lx at*;omega
theorem FQ(d:Nat->Int×Int)(E:Aq.Srt Aq.lx d 0 N)(G:i<N):Qw (d i) (Aq.seg d 0 N)=vsum d i:=by
 rw[Aq.F2 d 0 i N om om,Fd,Zf d (d i) i (λj F=>E j i (VF _) F G)]
 have:=Zg d (d i) i (N-i) (λj I H=>by
  by_cases e:j=i
  . subst e;exact Zbs _
  . exact Z5d (E i j (VF _) om om))
 rw[show i+(N-i)=N by omega]at this;rw[this,XS]
def codeT(l:List Int)(q:Nat):List Bool:=hb (codeN l q) (l.getD q 0).toNat
def Al(n:Nat):Nat->List Bool
 |0=> []
 |k+1=>Al n k++ [n.testBit k]
theorem Ai(n:Nat):∀k,(Al n k).length=k
 |0=>rfl
 |k+1=>by rw[Al,VB,Ai n k];rfl
theorem Z2r(n k:Nat):n/2^k%2=if n.testBit k then 1 else 0:=by have h:=Nat.testBit_eq_decide_div_mod_eq (x:=n) (i:=k);rw[h];rcases XF (n/2^k)with e|e<;>simp[e]
theorem Hd(n:Nat):∀s i,(Al n s).getD i vq=(decide (i<s)&&n.testBit i)
 |0,i=>by simp[Al]
 |s+1,i=>by rw[Al,XG];by_cases h:i<s;rw[WT (by rw[Ai];exact h),<-XG,Hd n s i];simp[h,Nat.lt_succ_of_lt h];rw[VX (by rw[Ai];omega),Ai];by_cases e:i=s;subst e;simp;have E:¬i<s+1:=om;have F: [n.testBit s][i-s]? =none:=VZ oO;rw[F];simp[E]
def Cp:List Bool->Nat
 | []=>0
 |b::r=>(if b then 1 else 0)+2*Cp r
theorem Iq:∀l,Cp l<2^l.length
 | []=>by simp[Cp]
 |b::r=>by have:=Iq r;rw[Cp,VG,XI];split<;>omega
theorem MV{l:List Bool}(h:l.length<=16):Cp l<65536:=VC (Iq l) (TC h)
def rowB(xs:List Nat):Nat->List Bool
 |0=> []
 |q+1=>rowB xs q++Al (xs.getD q 0) 8
theorem Af(xs:List Nat):∀q,(rowB xs q).length=8*q
 |0=>rfl
 |q+1=>by rw[rowB,VB,Af xs q,Ai];omega
theorem Fe(xs:List Nat):∀q i,i<8*q->(rowB xs q).getD i vq=Jh xs i
 |0,i,h=>om
 |q+1,i,h=>by rw[rowB,XG];by_cases e:i<8*q;rw[WT (by rw[Af];exact e),<-XG,Fe xs q i e];rw[VX qAW,Af,<-XG,Hd,Jh];have E:i/8=q:=om;have e2:i%8=i-8*q:=om;rw[E,e2,H6 om,ZP]
structure US where
 p:Nat
 out:List Nat
 ks:List Nat
 e:Int
def uget(row:List Bool)(n:Nat)(u:US):Nat×US:=
 if u.e=0 then (if row.length<u.p+n then (0,{u with e:=7})else (Cp ((row.drop u.p).take n),{u with p:=u.p+n}))else (0,u)
def An(x:Int)(u:US):US:=if u.e=0 then {u with e:=x}else u
def Fo(c:Nat)(u:US):US:=if u.e=0 then (if u.out.length=3000 then {u with e:=2}else {u with out:=u.out++ [c]})else u
def Qv(l:List Int)(s:List Bool):Option Nat:=(List.range l.length).find? (λq=>decide (codeT l q=s))
def Er(l:List Int)(row:List Bool)(p:Nat):Nat->Nat->Nat×Nat×Int
 |0,_=>(0,0,8)
 |f+1,n=>if row.length<p+n then (0,0,7)else match Qv l ((row.drop p).take n)with
  |some q=>(q,n,0)
  |none=>Er l row p f (n+1)
def Nl(l:List Int)(row:List Bool)(p:Nat):Nat×Nat×Int:=Er l row p 15 1
def uplace(l:List Int)(row:List Bool)(u:US):Nat×US:=
 if u.e=0 then ((Nl l row u.p).1,{u with e:=(Nl l row u.p).2.2,p:=u.p+(Nl l row u.p).2.1})else (0,u)
def ord19:List Nat:= [16,17,18,0,8,7,9,6,10,5,11,4,12,3,13,2,14,1,15]
def usmall(row:List Bool):List Nat->List Int->US->List Int×US
 | [],s,u=>(s,u)
 |k::r,s,u=>usmall row r (s.set k ((uget row 3 u).1:Int)) (uget row 3 u).2
def ukind(row:List Bool)(l:List Int)(k:Nat)(u:US):Int×Nat×US:=
 if k=16 then (if l.length=0 then (16,1,An 8 u)else (l.getD (l.length-1) 0,3+(uget row 2 u).1,(uget row 2 u).2))
 else if k=17 then (0,3+(uget row 3 u).1,(uget row 3 u).2)
 else if k=18 then (0,11+(uget row 7 u).1,(uget row 7 u).2)
 else ((k:Int),1,u)
def Wb(tot:Nat)(l:List Int)(r:Int×Nat×US):List Int×US:=
 (l++List.replicate r.2.1 r.1,if r.2.2.e=0/\tot<l.length+r.2.1 then An 8 r.2.2 else r.2.2)
def ustep(row:List Bool)(small:List Int)(tot:Nat)(l:List Int)(u:US):List Int×US:=Wb tot l (ukind row l (uplace small row u).1 (uplace small row u).2)
def ulens(row:List Bool)(small:List Int)(tot:Nat):Nat->List Int->US->List Int×US
 |0,l,u=>(l,u)
 |f+1,l,u=>if l.length<tot/\u.e=0 then ulens row small tot f (ustep row small tot l u).1 (ustep row small tot l u).2 else (l,u)
def Gx(row:List Bool)(m n c:Nat)(u:US):List Int×US:=
 usmall row (ord19.take c) (List.replicate 19 0) (if 286<m\/30<n then An 8 u else u)
def Sp(s:List Int×US):US:=if s.2.e=0/\errL s.1≠0 then An 8 s.2 else s.2
def Gy(m:Nat)(r:List Int×US):(List Int×List Int)×US:=
 if r.2.e≠0 then (([],[]),r.2)
 else if r.1.getD 256 0=0\/errL (r.1.take m)≠0\/errL (r.1.drop m)≠0 then (([],[]),An 8 r.2)
 else ((r.1.take m,r.1.drop m),r.2)
def Lk(row:List Bool)(m n:Nat)(s:List Int×US):(List Int×List Int)×US:=
 if (Sp s).e≠0 then (([],[]),Sp s)else Gy m (ulens row s.1 (m+n) (m+n) [] (Sp s))
def Dm(row:List Bool)(u:US):(List Int×List Int)×US:=
 let r1:=uget row 5 u
 let r2:=uget row 5 r1.2
 let r3:=uget row 4 r2.2
 Lk row (r1.1+257) (r2.1+1) (Gx row (r1.1+257) (r2.1+1) (r3.1+4) r3.2)
def ustore(row:List Bool):Nat->US->US
 |0,u=>u
 |k+1,u=>if u.e=0 then ustore row k (Fo (uget row 8 u).1 (uget row 8 u).2)else u
def ucopy(d:Nat):Nat->US->US
 |0,u=>u
 |j+1,u=>if u.e=0 then ucopy d j (Fo (u.out.getD (u.out.length-d) 0) u)else u
def samesL:List (Nat×Nat):= [(3,0),(4,0),(5,0),(6,0),(7,0),(8,0),(9,0),(10,0),(11,1),(13,1),(15,1),(17,1),(19,2),(23,2),(27,2),(31,2),(35,3),(43,3),(51,3),(59,3),(67,4),(83,4),(99,4),(115,4),(131,5),(163,5),(195,5),(227,5),(258,0)]
def farsL:List (Nat×Nat):= [(1,0),(2,0),(3,0),(4,0),(5,1),(7,1),(9,2),(13,2),(17,3),(25,3),(33,4),(49,4),(65,5),(97,5),(129,6),(193,6),(257,7),(385,7),(513,8),(769,8),(1025,9),(1537,9),(2049,10),(3073,10),(4097,11),(6145,11),(8193,12),(12289,12),(16385,13),(24577,13)]
def Pu:List Int:=List.replicate 144 8++List.replicate 112 9++List.replicate 24 7++List.replicate 8 8
def Lj:List Int:=List.replicate 32 5
def U7(row:List Bool)(n f:Nat)(u:US):US:=
 let q:=uget row (farsL.getD f (0,0)).2 u
 let d:=(farsL.getD f (0,0)).1+q.1
 ucopy d n (if q.2.e=0/\q.2.out.length<d then An 9 q.2 else q.2)
def LH(row:List Bool)(b:List Int)(k:Nat)(u:US):Bool×US:=
 let g:=uget row (samesL.getD (k-257) (0,0)).2 u
 let h:=uplace b row g.2
 let u3:=if h.2.e=0/\29<h.1 then An 8 h.2 else h.2
 if u3.e≠0 then (vq,u3)else (vr,U7 row ((samesL.getD (k-257) (0,0)).1+g.1) h.1 u3)
def Mp(row:List Bool)(a b:List Int)(u:US):Bool×US:=
 let r:=uplace a row u
 if r.2.e≠0\/r.1=256 then (vq,r.2)
 else if r.1<256 then (vr,Fo r.1 r.2)
 else if 285<r.1 then (vq,An 8 r.2)
 else LH row b r.1 r.2
def utok(row:List Bool)(a b:List Int):Nat->US->US
 |0,u=>u
 |f+1,u=>if u.e=0 then (if (Mp row a b u).1 then utok row a b f (Mp row a b u).2 else (Mp row a b u).2)else u
def ukept(k:Nat)(u:US):US:= {u with ks:=u.ks++ [k]}
def uopen(row:List Bool)(kind:Nat)(u:US):(List Int×List Int)×US:=
 if kind=1 then ((Pu,Lj),u)else if kind=2 then Dm row u else (([],[]),An 4 u)
def ustored(row:List Bool)(u:US):US:=
 let n:=uget row 16 {u with p:=(u.p+7)/8*8}
 let t:=uget row 16 n.2
 ustore row n.1 (if t.2.e=0/\n.1+t.1≠65535 then An 4 t.2 else t.2)
def Em(row:List Bool)(u:US):Bool×US:=
 let l:=uget row 1 u
 let k:=uget row 2 l.2
 if k.2.e≠0 then (vr,k.2)
 else if k.1=0 then (decide (l.1=1),ukept 0 (ustored row k.2))
 else
  let o:=uopen row k.1 k.2
  if o.2.e≠0 then (vr,o.2)else (decide (l.1=1),ukept k.1 (utok row o.1.1 o.1.2 row.length o.2))
def Dn(row:List Bool):Nat->US->US
 |0,u=>u
 |f+1,u=>if (Em row u).1=vq/\(Em row u).2.e=0 then Dn row f (Em row u).2 else (Em row u).2
def Qr(row:List Bool):US:=Dn row (row.length+1) ⟨0,[],[],0⟩
def Bytes(w:wd)(b o:Nat)(xs:List Nat):Prop:=∀j,j<xs.length->w.cell? ⟨b,o+j,vn⟩=vp (so vi (xs.getD j 0:Nat))
abbrev u8s(xs:List Nat):List Value:=xs.map λx:Nat=>so vi x
theorem Av(w:wd)(r:Option Nat):w.grownBy w r:=⟨rfl,rfl,rfl,VA _,λ_ _ _=>rfl⟩
theorem Aj{a b c:wd}(h:a.grownBy b r)(k:b.grownBy c r):a.grownBy c r:=
 ⟨k.os.trans h.os,k.tape.trans h.tape,k.output.trans h.output,WJ h.size k.size,λi hi hr=>(k.block i (VC hi h.size) hr).trans (h.block i hi hr)⟩
theorem Ad(w:wd)(b j:Nat)(v:vt):w.grownBy (w.setCell ⟨b,j,vn⟩ v) (vp b):=⟨rfl,rfl,rfl,oS,λi hi hr=>kbn w _ v i (λe=>hr (by rw[e]))⟩
theorem Cw{a b:wd}(h:a.grownBy b r):a.grownBy b.drew r:=⟨h.os,h.tape,h.output,h.size,h.block⟩
theorem Gq:(Tryz.prog.info? 5).map (λi=>(i.zero,i.size,i.bytes))=vp (vp (so vi 0),1,1):=oR
theorem Ce:(Tryz.prog.info? 3).map (λi=>(i.zero,i.size,i.bytes))=vp (vp (so vh 0),1,8):=oR
theorem Oc(p:Nat->Bool):∀n,(∀j,j<n->p j=vr)\/∃j,j<n/\p j=vq/\∀i,i<j->p i=vr
 |0=>.inl (λj h=>om)
 |n+1=>by
  rcases Oc p n with h|⟨j,I,F,G⟩
  . cases E:p n with
    |true=>exact .inl (λj H=>by
     by_cases e:j=n
     . rw[e];exact E
     . exact h j om)
    |false=>exact .inr ⟨n,om,E,h⟩
  exact .inr ⟨j,om,F,G⟩
def AL(k:vv)(w:wd)(a:Option vw)(xs:List Int):Prop:=xs= []\/∃b o,a=vp ⟨b,o,vn⟩/\b<w.heap.size/\Row k w b o xs
def BytesIn(w:wd)(a:Option vw)(xs:List Nat):Prop:=xs= []\/∃b o,a=vp ⟨b,o,vn⟩/\b<w.heap.size/\Bytes w b o xs
theorem Bytes.below{B:Nat}{xs:List Nat}(h:Bytes w b o xs)(I:vx B w w')(hb:b<B):Bytes w' b o xs:=by exact yT
theorem BytesIn.below{B:Nat}{xs:List Nat}(h:BytesIn w a xs)(I:vx B w w')(E:w.heap.size<=B):BytesIn w' a xs:=by exact xT
theorem BytesIn.own{B:Nat}{xs:List Nat}(h:w.ownsRow B 5 1 (va (vp ⟨g,0,vn⟩) n ac) n (u8s xs)):BytesIn w (vp ⟨g,0,vn⟩) xs:=by refine .inr ⟨g,0,rfl,(h.lt g rfl).2,?_⟩;intro j E;have hn:=dH;rw[VY,h.cellAt j om];simp[u8s,List.getD,E]
abbrev i64s(xs:List Nat):List Value:=xs.map λx:Nat=>so vh x
theorem JA(n:Nat):(madeCells #[so vh 0] n).toList=i64s (List.replicate n 0):=by rw[kbu];simp[i64s]
theorem BytesIn.alloc{xs:List Nat}(h:BytesIn w a xs)(x:Obj):BytesIn (w.alloc x) a xs:=
 h.below ((A2 w.heap.size w).alloc (VA _) x) (VA _)
theorem AL.new(k:vv)(w:wd)(xs:List Int)(t:TypeId)(A:Array vt)(b:Nat)(E:b=w.heap.size)(F:A=(xs.map (Value.int k)).toArray):AL k (w.alloc (vl A t)) (vp ⟨b,0,vn⟩) xs:=
 .inr ⟨b,0,rfl,by rw[E];simp,Row.new k w xs t A b E F⟩
theorem AL.below{k:vv}{B:Nat}(h:AL k w a xs)(I:vx B w w')(E:w.heap.size<=B):AL k w' a xs:=by exact xT
theorem AL.alloc{k:vv}(h:AL k w a xs)(x:Obj):AL k (w.alloc x) a xs:=
 h.below ((A2 w.heap.size w).alloc (VA _) x) (VA _)
abbrev iv(xs:List Int):List Value:=xs.map (Value.int vh)
theorem ga{a b:wd}(h:a.grownBy b r)(o:Obj):a.grownBy (b.alloc o) r:=Aj h (K1 b o r)
theorem Z4q{B:Nat}{xs:List vt}(h:w.ownsRow B e ac v n xs):w.drew.ownsRow B e ac v n xs:=h
theorem Lb{B:Nat}{xs:List vt}(h:w.ownsRow B e ac v n xs)(E:w.grownBy w' vn):w'.ownsRow B e ac v n xs:=
 h.kept E (by cases F:v.ownBlock with
  |none=>exact .inl rfl
  |some k=>exact .inr oS)
theorem Li{B:Nat}{a:wd}(h:vx B a w)(E:w.grownBy w' vn)(F:B<=w.heap.size):vx B a w':=h.grown E F (λk e=>by cases e)
theorem Rm{x u:vt}(h:W.cell? ⟨b,0,vn⟩=vp x)(E: [x][j]? =vp u):W.cell? ((⟨b,0,vn⟩:vw).add j)=vp u:=by
 match j,E with
 |0,E=>simp at E;subst E;simpa[Addr.add]using h
theorem Vr{x:vt}{t:TypeId}(E:b=w.heap.size):(w.alloc (vl #[x] t)).cell? ⟨b,0,vn⟩=vp x:=by rw[N0 _ _ _ _ E];rfl
theorem Z2f{x:vt}{t:TypeId}{o:Obj}(E:b=w.heap.size):((w.alloc (vl #[x] t)).alloc o).cell? ⟨b,0,vn⟩=vp x:=by rw[I5 _ _ _ (by rw[E];simp),N0 _ _ _ _ E];rfl
theorem Z2g(h:w.cell? ⟨b,0,vn⟩=vp v):w.drew.cell? ⟨b,0,vn⟩=vp v:=h
theorem Df{x:vt}(h:x.oneCell'=vr):∀u∈ [x],u.oneCell'=true:=by intro u E;simp at E;subst E;exact h
theorem AL.iv{B:Nat}(h:w.ownsRow B 3 1 (va (vp ⟨g,0,vn⟩) n ac) n (iv xs)):AL vh w (vp ⟨g,0,vn⟩) xs:=by refine .inr ⟨g,0,rfl,(h.lt g rfl).2,?_⟩;intro j E;have hn:=dH;rw[VY,h.cellAt j om];simp[List.getD,E]
theorem Ac{E:Array vt}{t:TypeId}(h:w.heap[b]? =vp (vl E t (0,0))):w.cell? ⟨b,i,vn⟩=E[i]? :=V3 w b i _ _ _ h
def Kp(No:Nat->Prop)(w w':wd):Prop:=∀g,g<w.heap.size->No g->w'.heap[g]? =w.heap[g]?
theorem Kp.refl(No:Nat->Prop)(w:wd):Kp No w w:=λ_ _ _=>rfl
theorem Kp.trans{a b c:wd}(h:Kp No a b)(k:Kp No b c)(F:a.heap.size<=b.heap.size):Kp No a c:=λg E hn=>(k g om hn).trans (h g E hn)
theorem Kp.grown{a:wd}(h:Kp No a w)(H:w.grownBy w' r)(I:a.heap.size<=w.heap.size)(F:∀j,r=vp j->¬No j):Kp No a w':=by intro g G E;rw[H.block g om (λe=>F g e.symm E)];exact h g G E
theorem Bytes.grown{xs:List Nat}(h:Bytes w b o xs)(F:w.grownBy w' r)(G:vp b≠r):Bytes w' b o xs:=λj E=>F.cell (h j E) G
theorem Kp.weaken(h:Kp No' w w')(G:∀g,No g->No' g):Kp No w w':=λg E F=>h g E (G g F)
theorem Bv{B:Nat}{xs:List vt}(h:w.ownsRow B e ac v n xs)(E:∀g,v.ownBlock=vp g->w'.heap[g]? =w.heap[g]?):w'.ownsRow B e ac v n xs:=by refine⟨h.1,?_⟩;rcases h.2 with ai|⟨g,cap,cur,ai,F,H,G⟩;exact .inl ai;exact .inr ⟨g,cap,cur,ai,F,(E g qAC).trans H,G⟩
theorem D0{B B':Nat}{xs:List vt}(h:w.ownsRow B e ac v n xs)(G:B'<=B):w.ownsRow B' e ac v n xs:=by refine⟨h.1,?_⟩;rcases h.2 with E|⟨g,cap,cur,E,F,H⟩;exact .inl E;exact .inr ⟨g,cap,cur,E,WJ G F,H⟩
theorem Ax{B:Nat}{xs:List vt}(h:w.ownsRow B e ac v n xs)(G:0<n):∃g cap,v=va (vp ⟨g,0,vn⟩) n cap/\B<=g/\g<w.heap.size:=by(rcases h.2 with ⟨ai,E⟩|⟨g,cap,cur,ai,E,F⟩);omega;exact⟨g,cap,ai,E,(h.lt g qAC).2⟩
theorem A5(xs:List Nat)(y:Nat):u8s (xs++ [y])=u8s xs++ [so vi y]:=by simp[u8s]
theorem Cb(h:BytesIn w a bs)(E:0<bs.length):∃b o,a=vp ⟨b,o,vn⟩/\b<w.heap.size/\Bytes w b o bs:=by rcases h with rfl|h;simp at E;exact h
theorem BytesIn.ofOwn{B:Nat}{xs:List Nat}(h:w.ownsRow B 5 1 v n (u8s xs)):xs.length=n/\∃a c,v=va a n c/\BytesIn w a xs:=by have hn:=dH;refine⟨hn,?_⟩;(rcases h.2 with ⟨E,F⟩|⟨g,cap,cur,E,_⟩);subst F;exact⟨vn,0,E,.inl (WK hn)⟩;subst E;exact⟨_,_,rfl,BytesIn.own h⟩
theorem Am{B:Nat}{xs:List vt}(h:w.ownsRow B e ac v n xs):∃a c,v=va a n c:=by(rcases h.2 with ⟨E,F⟩|⟨g,cap,cur,E,_⟩);subst F;exact⟨vn,0,E⟩;exact⟨_,_,E⟩
end
section
open Go
variable{row:List Bool}{Z l small:List Int}{F G aa ac c d k n p tot:Nat}{u:US}
def Ah:Nat->Nat->List Nat
 |_,0=> []
 |n,k+1=>n%256::Ah (n/256) k
def Ak:List Nat->Nat
 | []=>0
 |x::r=>x+256*Ak r
theorem Ag:∀(k n:Nat),(Ah n k).length=k
 |0,n=>rfl
 |k+1,n=>by rw[Ah,VG,Ag k]
theorem Et:∀(k n:Nat),∀x∈Ah n k,x<256
 |0,n,x,h=>by cases h
 |k+1,n,x,h=>by rw[Ah]at h;rcases VV.1 h with rfl|h;omega;exact Et k _ x h
theorem Ck:∀(k n:Nat),n<256^k->Ak (Ah n k)=n
 |0,n,h=>by simp at h;subst h;rfl
 |k+1,n,h=>by rw[Ah,Ak,Ck k (n/256) (by rw[XI]at h;omega)];omega
theorem Z0c:∀(l:List Nat),(∀x∈l,x<256)->Ah (Ak l) l.length=l
 | [],_=>rfl
 |x::r,h=>by have G:=h x oS;have ih:=Z0c r (λy E=>h y (WL _ E));rw[Ak,VG,Ah];have F:(x+256*Ak r)%256=x:=om;have e2:(x+256*Ak r)/256=Ak r:=om;rw[F,e2,ih]
theorem Ip:∀(l:List Nat),(∀x∈l,x<256)->Ak l<256^l.length
 | [],_=>by simp[Ak]
 |x::r,h=>by have F:=h x oS;have ih:=Ip r (λy E=>h y (WL _ E));rw[Ak,VG,XI];omega
theorem Ub:∀(k n:Nat),Ah n (k+1)=Ah n k++ [n/256^k%256]
 |0,n=>by simp[Ah]
 |k+1,n=>by rw[Ah,Ub k (n/256),Ah,ZX,XI,YM (256^k) 256];rfl
theorem MQ{l:List Nat}(h:k<l.length):Ak (l.drop k)=256*Ak (l.drop (k+1))+l.getD k 0:=by rw[WX h,Ak];simp[List.getD,h];omega
def B(l:List UInt8):ByteArray:=⟨l.toArray⟩
theorem KT(s:ByteArray):B s.data.toList=s:=by cases s;rfl
theorem BG(l:List UInt8):(B l).data.toList=l:=rfl
theorem Jp(l:List UInt8):(B l).size=l.length:=by simp[B,ByteArray.size]
theorem Z4b(s:ByteArray):s.size=s.data.toList.length:=(Array.length_toList).symm
def CM:List UInt8->List (List UInt8)
 | []=> [[]]
 |c::r=>if c=47 then []::CM r else
  match CM r with
  | []=> [[c]]
  |p::ps=>(c::p)::ps
theorem Z6y(l:List UInt8):CM l≠ []:=by
 cases l with
 |nil=>simp[CM]
 |cons c r=>simp only[CM];split;simp;. split<;>simp
theorem Ii{c:UInt8}{r:List UInt8}(h:c≠47):∃p ps,CM r=p::ps/\CM (c::r)=(c::p)::ps:=by
 cases E:CM r with
 |nil=>exact absurd E (Z6y r)
 |cons p ps=>exact⟨p,ps,rfl,by simp[CM,h,E]⟩
def jn(ps:List (List UInt8)):List UInt8:=Lib.join ps [47]
theorem Z7j(p:List UInt8):jn [p]=p:=Lib.join_one _ _
theorem Z7i(p q:List UInt8)(r:List (List UInt8)):jn (p::q::r)=p++47::jn (q::r):=by unfold jn;rw[Lib.join_cons,Lib.join_cons];simp[Lib.joinTail]
theorem Zbx:∀l:List UInt8,jn (CM l)=l
 | []=>by simp[CM,Z7j]
 |c::r=>by
  have ih:=Zbx r;by_cases h:c=47
  . subst h
    cases E:CM r with
    |nil=>exact absurd E (Z6y r)
    |cons p ps=>rw[show CM (47::r)= []::CM r from by simp[CM],E,Z7i,<-E,ih];rfl
  . obtain⟨p,ps,G,F⟩:=pT;rw[F];rw[G]at ih
    cases ps with
    |nil=>rw[Z7j]at ih ⊢;rw[ih]
    |cons q ps=>rw[Z7i]at ih ⊢;rw[<-ih];simp
theorem SC(l:List UInt8):(CM l).length=l.count 47+1:=by
 induction l with
 |nil=>simp[CM]
 |cons c r ih=>by_cases h:c=47;subst h;simp[CM,ih];obtain⟨p,ps,E,F⟩:=pT;rw[F,List.count_cons_of_ne uJ,<-ih,E];simp
theorem Z6z(l:List UInt8):∀p∈CM l,p.length<=l.length:=by
 induction l with
 |nil=>intro p E;simp[CM]at E;subst E;simp
 |cons c r ih=>by_cases h:c=47;subst h;intro p E;rw[show CM (47::r)= []::CM r from by simp[CM]]at E;rcases VV.1 E with F|F;subst F;simp;have:=ih p F;simp;omega;obtain⟨q,I,F,H⟩:=pT;intro p E;rw[H]at E;rcases VV.1 E with G|G;subst G;have:=ih q (by rw[F];simp);simp;omega;have:=ih p (by rw[F];simp[G]);simp;omega
theorem Ya:∀(l:List UInt8),Lib.splitK [47] 0 (Lib.count l [47]) l=CM l
 | []=>by rw[Lib.count_one];simp[CM,Lib.splitK]
 |c::r=>by
  have ih:=Ya r;by_cases h:c=47;subst h;rw[Lib.count_cons_eq,Nat.add_comm];(have E:Lib.index (47::r) [47]=0:=by rw[Lib.index];simp[List.isPrefixOf]);rw[Lib.splitK,E];simp[CM,ih]
  . rw[Lib.count_cons_ne _ _ _ h];obtain⟨p,ps,U,O⟩:=pT;rw[O];(have E:Lib.index (c::r) [47]=if Lib.index r [47]== -1 then-1 else Lib.index r [47]+1:=by rw[Lib.index];(have I:([47]:List UInt8).isPrefixOf (c::r)=false:=by simp[List.isPrefixOf,Ne.symm h]);rw[I];simp);rw[U]at ih
    cases F:Lib.count r [47]with
    |zero=>rw[F]at ih;simp only[Lib.splitK]at ih ⊢;injection ih with i1 i2;rw[i1,<-i2]
    |succ k=>rw[F]at ih;simp only[Lib.splitK]at ih ⊢;by_cases hm:Lib.index r [47]= -1;rw[if_pos (by rw[E,if_pos (by simp[hm])];rfl)];rw[if_pos (by simp[hm])]at ih;injection ih with i1 i2;rw[i1,<-i2];have Z:=Lib.index_ge r [47];obtain⟨j,G⟩:∃j:Nat,Lib.index r [47]=j:=⟨(Lib.index r [47]).toNat,om⟩;(have H:Lib.index (c::r) [47]=((j+1:Nat):Int):=by rw[E,if_neg (by simp[hm]),G];omega);rw[G]at ih;rw[H];rw[if_neg oS]at ih;rw[if_neg oO];injection ih with i1 i2;simp only[WQ,XS,YC]at i1 ⊢;rw[i1];congr 1
theorem Zfl(s:ByteArray):Lib.splitB ⟨#[47]⟩ 0 (Lib.countB s ⟨#[47]⟩) s=(CM s.data.toList).map B:=by have h:=Lib.splitB_data ⟨#[47]⟩ 0 (Lib.countB s ⟨#[47]⟩) s;have E:=sO;have F:(⟨#[47]⟩:ByteArray).data.toList= [47]:=rfl;rw[E,F,Ya]at h;rw[E,<-h,List.map_map];(have:(B ∘ λx:ByteArray=>x.data.toList)=id:=by funext x;exact KT x);rw[this,List.map_id]
theorem OW(s:ByteArray):Lib.countB s ⟨#[47]⟩+1=(CM s.data.toList).length:=by rw[SC];have E:=sO;rw[E,Lib.count_one]
def okB(c:UInt8):Bool:=(97<=c&&c<=122)||(65<=c&&c<=90)||(48<=c&&c<=57)||c==46||c==95||c==45
def I2(p:List UInt8):Bool:=p != []&&p != [46]&&p != [46,46]&&p.all okB
def Ln(l:List UInt8):Nat:=if 40<l.length then 2 else if (CM l).all I2 then 0 else 1
theorem Za0{l:List UInt8}(h:Ln l=0):l.length<=40/\(CM l).all I2=true:=by unfold Ln at h;split at h;omega;. split at h;exact⟨om,by assumption⟩;omega
theorem Z1p{l:List UInt8}(h:l.length<=40)(E:(CM l).all I2=vr):Ln l=0:=by unfold Ln;rw[if_neg om,if_pos E]
def Ic:List UInt8:= [97,98,99,100,101,102,103,104,105,106,107,108,109,110,111,112,113,114,115,116,117,118,119,120,121,122,65,66,67,68,69,70,71,72,73,74,75,76,77,78,79,80,81,82,83,84,85,86,87,88,89,90,48,49,50,51,52,53,54,55,56,57,46,95,45]
theorem Z97:∀c:UInt8,Ic.contains c=okB c:=by have h:∀n:Fin 256,Ic.contains (UInt8.ofNat n.val)=okB (UInt8.ofNat n.val):=tD;intro c;have:=h ⟨c.toNat,c.toNat_lt⟩;simpa using this
theorem Z1t{f:UInt8->Bool}{l:List UInt8}:l.dropWhile f= []↔∀x∈l,f x=true:=by
 induction l with
 |nil=>simp
 |cons c r ih=>rw[List.dropWhile_cons];split;(. rename_i h;rw[ih];simp[h]);. rename_i h;simp[h]
theorem Z3w{l:List UInt8}:Lib.trimS l Ic= []↔l.all okB=true:=by
 (have e:(λb=>Ic.contains b)=okB:=by funext c;exact Z97 c);unfold Lib.trimS Lib.trimLeftS Lib.trimRightS;rw[e];constructor
 . intro h;rw[Z1t]at h
   have E:l.reverse.dropWhile okB= []:=by
    cases F:l.reverse.dropWhile okB with
    |nil=>rfl
    |cons x xs=>(have U:¬okB x=true:=by have:=List.head_dropWhile_not okB (l:=l.reverse) (by rw[F];simp);simpa[F]using this);exact absurd (h x (by rw[F];simp)) U
   rw[Z1t]at E;rw[XA];intro x U;exact E x uT
 intro h;(have E:l.reverse.dropWhile okB= []:=by rw[Z1t];intro x U;exact XA.1 h x uT);rw[E];rfl
structure Fl where
 name:List UInt8
 bytes:List UInt8
 stamp:Int
 node:Int
 gone:Bool
deriving DecidableEq
abbrev Dy(a b:List UInt8):Int:=Lib.compareBytes a b
theorem Fm(a b:UInt8)(x y:List UInt8):Dy (a::x) (b::y)=if a<b then-1 else if b<a then 1 else Dy x y:=rfl
theorem RE(a b:UInt8):(a<b)=(a.toNat<b.toNat):=by rw[UInt8.lt_iff_toNat_lt]
theorem RD{a b:UInt8}(E:¬a<b)(F:¬b<a):a=b:=by rw[RE]at E F;exact UInt8.toNat_inj.1 om
theorem Om:∀a:List UInt8,Dy a a=0
 | []=>rfl
 |a::x=>by rw[Fm,if_neg (by rw[RE];omega),if_neg (by rw[RE];omega)];exact Om x
theorem Je:∀ {a b:List UInt8},Dy a b=0->a=b
 | [],[],_=>rfl
 | [],_::_,h=>by cases h
 |_::_,[],h=>by cases h
 |a::x,b::y,h=>by rw[Fm]at h;split at h;(. cases h);. split at h;(. cases h);. rename_i E F;rw[RD E F,Je h]
theorem BL{a b:List UInt8}:Dy a b=0↔a=b:=⟨Je,λh=>by rw[h,Om]⟩
theorem Bu:∀a b:List UInt8,Dy a b= -1\/Dy a b=0\/Dy a b=1
 | [],[]=>.inr (.inl rfl)
 | [],_::_=>.inl rfl
 |_::_,[]=>.inr (.inr rfl)
 |a::x,b::y=>by rw[Fm];split;exact .inl rfl;. split;exact .inr (.inr rfl);exact Bu x y
theorem Ew:∀a b:List UInt8,Dy b a= -Dy a b
 | [],[]=>rfl
 | [],_::_=>rfl
 |_::_,[]=>rfl
 |a::x,b::y=>by rw[Fm,Fm];by_cases E:a<b;(have F:¬b<a:=by rw[RE]at E ⊢;omega);rw[if_neg F,if_pos E,if_pos E];rfl;by_cases F:b<a;rw[if_pos F,if_neg E,if_pos F];rw[if_neg F,if_neg E,if_neg E,if_neg F];exact Ew x y
theorem Dw:∀ {a b c:List UInt8},Dy a b<0->Dy b c<0->Dy a c<0
 | [],[],_,h,_=>by cases h
 | [],_::_,[],_,h=>by cases h
 | [],_::_,_::_,_,_=>by show (-1:Int)<0;decide
 |_::_,[],_,h,_=>by cases h
 |_::_,_::_,[],_,h=>by cases h
 |a::x,b::y,c::z,h,k=>by rw[Fm]at h k ⊢;by_cases E:a<b;(. by_cases k1:b<c;(have:a<c:=by rw[RE]at E k1 ⊢;omega);rw[if_pos this];decide;. rw[if_neg k1]at k;by_cases k2:c<b;(. rw[if_pos k2]at k;cases k);have:=RD k1 k2;subst this;rw[if_pos E];decide);. rw[if_neg E]at h;by_cases F:b<a;(. rw[if_pos F]at h;cases h);. rw[if_neg F]at h;have:=RD E F;subst this;by_cases k1:a<c;rw[if_pos k1];decide;. rw[if_neg k1]at k ⊢;by_cases k2:c<a;(. rw[if_pos k2]at k;cases k);rw[if_neg k2]at k ⊢;exact Dw h k
theorem D8:∀a b:List UInt8,Op.bytesLess a b=decide (Dy a b<0)
 | [],[]=>rfl
 | [],_::_=>rfl
 |_::_,[]=>rfl
 |a::x,b::y=>by show (decide (a<b)||(a==b&&Op.bytesLess x y))=_;rw[Fm,D8 x y];by_cases E:a<b;simp[E];rw[if_neg E];by_cases F:b<a;(have:(a==b)=false:=by rw[beq_eq_false_iff_ne];rintro rfl;exact E F);rw[if_pos F,this];simp[E];have:=RD E F;subst this;rw[if_neg F];simp[E]
def Kq(a b:Int):Int:=if a<b then-1 else if b<a then 1 else 0
def Zau(a b:Bool):Int:=if a=b then 0 else if a then 1 else-1
def nz(a b:Int):Int:=if a≠0 then a else b
def RB(a b:Fl):Int:=nz (Kq a.stamp b.stamp) (nz (Kq a.node b.node) (nz (Zau a.gone b.gone) (Dy a.bytes b.bytes)))
structure Ord3{α:Type}(P:α->α->Int):Prop where
 three:∀a b,P a b= -1\/P a b=0\/P a b=1
 anti:∀a b,P b a= -P a b
 trans:∀ {a b c},P a b<=0->P b c<=0->P a c<=0
 zero:∀ {a b c},P a b=0->P a c=P b c
theorem Z6h:Ord3 Dy where
 three:=Bu
 anti:=Ew
 trans {a b c} h k:=by
  rcases Bu a b with E|E|E
  . rcases Bu b c with k1|k1|k1
    . have:= @Dw a b c om om;omega
    . rw[<-Je k1];omega
    . omega
  . rw[Je E];exact k
  . omega
 zero {a b c} h:=by rw[Je h]
def Lg(f:Fl):Nat:=
 if Ln f.name≠0 then Ln f.name else if 3000<f.bytes.length then 2 else if f.stamp<0\/1000000<f.stamp\/f.node<0\/3<f.node then 3
 else if f.gone=vr/\0<f.bytes.length then 4 else 0
def behind:Option Fl->Fl->Bool
 |none,_=>vr
 |some x,f=>decide (Dy x.name f.name<0)
def K7:Option Fl->List Fl->Nat
 |_,[]=>0
 |p,f::r=>if Lg f≠0 then Lg f else if behind p f=vq then 4 else K7 (vp f) r
def errM(l:List Fl):Nat:=if 12<l.length then 2 else K7 vn l
def Nj(x y:Fl):Fl:=if 0<RB y x then y else x
def tog:List Fl->List Fl->List Fl
 | [],b=>b
 |x::a,[]=>x::a
 |x::a,y::b=>if Dy x.name y.name<0 then x::tog a (y::b)else if 0<Dy x.name y.name then y::tog (x::a) b else Nj x y::tog a b
termination_by a b=>a.length+b.length
theorem Jv(b:List Fl):tog [] b=b:=by unfold tog;rfl
theorem Ky(a:List Fl):tog a []=a:=by
 cases a with
 |nil=>exact Jv []
 |cons x a=>unfold tog;rfl
theorem O2{x y:Fl}{a b:List Fl}(h:Dy x.name y.name<0):tog (x::a) (y::b)=x::tog a (y::b):=by rw[tog,if_pos h]
theorem GS{x y:Fl}{a b:List Fl}(h:0<Dy x.name y.name):tog (x::a) (y::b)=y::tog (x::a) b:=by rw[tog,if_neg om,if_pos h]
theorem GT{x y:Fl}{a b:List Fl}(h:Dy x.name y.name=0):tog (x::a) (y::b)=Nj x y::tog a b:=by rw[tog,if_neg om,if_neg om]
theorem Xo(h:(uget row n u).2.e=0):u.e=0:=by unfold uget at h;exact xV
theorem Bi{x:Int}(E:x≠0):(An x u).e≠0:=by unfold An;by_cases e:u.e=0;rw[A1 e];exact E;rw[A0 e];exact e
theorem GM(h:(uplace l row u).2.e=0):u.e=0:=by unfold uplace at h;exact xV
theorem Mr:∀ {ks:List Nat} {s:List Int} {u:US},(usmall row ks s u).2.e=0->u.e=0
 | [],s,u,h=>h
 |k::r,s,u,h=>by rw[usmall]at h;exact Xo (Mr h)
theorem Xk:∀ {ks:List Nat} {s:List Int} {u:US},(usmall row ks s u).1.length=s.length
 | [],s,u=>rfl
 |k::r,s,u=>by rw[usmall,Xk,YA]
structure WA(row:List Bool)(small:List Int)(tot:Nat)(l:List Int)(u:US):Prop where
 pe:(uplace small row u).2.e=0
 ke:(ukind row l (uplace small row u).1 (uplace small row u).2).2.2.e=0
 le:l.length+(ukind row l (uplace small row u).1 (uplace small row u).2).2.1<=tot
 st:ustep row small tot l u=(l++List.replicate (ukind row l (uplace small row u).1 (uplace small row u).2).2.1 (ukind row l (uplace small row u).1 (uplace small row u).2).1,(ukind row l (uplace small row u).1 (uplace small row u).2).2.2)
theorem Z7z(h:(ukind row l k u).2.2.e=0):u.e=0:=by unfold ukind at h;split at h;(. split at h;exact jJ;exact Xo h);. split at h;exact Xo h;. split at h;exact Xo h;exact h
theorem Kv(h:u.e≠0):ulens row small tot F l u=(l,u):=by
 cases F with
 |zero=>rfl
 |succ F=>rw[ulens,A0 (λE=>h E.2)]
theorem Lr(I:l.length<tot)(H:u.e=0)(E:(ulens row small tot (F+1) l u).2.e=0):WA row small tot l u/\ulens row small tot (F+1) l u=ulens row small tot F (ustep row small tot l u).1 (ustep row small tot l u).2:=by(have G:ulens row small tot (F+1) l u=ulens row small tot F (ustep row small tot l u).1 (ustep row small tot l u).2:=by rw[ulens,A1 ⟨I,H⟩]);(have e2:(ustep row small tot l u).2.e=0:=by by_cases e:(ustep row small tot l u).2.e=0;exact e;rw[G,Kv e]at E;exact absurd E e);refine⟨?_,G⟩;unfold ustep Wb at e2;simp only at e2;by_cases hc:(ukind row l (uplace small row u).1 (uplace small row u).2).2.2.e=0/\tot<l.length+(ukind row l (uplace small row u).1 (uplace small row u).2).2.1;rw[A1 hc]at e2;exact absurd e2 (Bi od);rw[A0 hc]at e2;refine⟨Z7z e2,e2,om,?_⟩;unfold ustep Wb;rw[A0 hc]
theorem N4:∀(F:Nat) (l:List Int) (u:US),tot<=l.length+F->l.length<=tot->u.e=0->(ulens row small tot F l u).2.e=0->(∀l u,WA row small tot l u->1<=(ukind row l (uplace small row u).1 (uplace small row u).2).2.1)->(ulens row small tot F l u).1.length=tot
 |0,l,u,h1,h2,he,hF,hp=>by rw[ulens];simp only;omega
 |F+1,l,u,h1,h2,he,hF,hp=>by by_cases hl:l.length<tot;obtain⟨r,e⟩:=Lr hl he hF;have G:=hp l u r;have E:=r.le;rw[e]at hF ⊢;rw[r.st]at hF ⊢;exact N4 F _ _ oO oO r.ke hF hp;rw[ulens,A0 (λh=>hl h.1)];simp only;omega
theorem T4(row:List Bool)(n:Nat)(u:US):(uget row n u).1<2^n:=by unfold uget;split;(. split;exact YY n;refine VC (Iq _) (VN od ?_);rw[VL];exact UA _ _);exact YY n
theorem N5(row:List Bool)(l:List Int)(k:Nat)(u:US):1<=(ukind row l k u).2.1/\(ukind row l k u).2.1<=138:=by have F:(uget row 2 u).1<2^2:=T4 row 2 u;have G:(uget row 3 u).1<2^3:=T4 row 3 u;have E:(uget row 7 u).1<2^7:=T4 row 7 u;unfold ukind;split;(. split;exact⟨VA _,oS⟩;simp only;omega);. split;simp only;omega;. split;simp only;omega;exact⟨VA _,oS⟩
theorem Xl(h:(Fo c u).e=0):u.e=0/\u.out.length≠3000/\Fo c u= {u with out:=u.out++ [c]}:=by unfold Fo at h ⊢;by_cases e:u.e=0;rw[A1 e]at h ⊢;by_cases e2:u.out.length=3000;rw[A1 e2]at h;exact zC;rw[A0 e2];exact⟨e,e2,rfl⟩;rw[A0 e]at h;exact absurd h e
theorem Bj{r:Nat}{v:US}(h:uget row n u=(r,v))(E:v.e=0):v.p=u.p+n/\v.p<=row.length/\v.out=u.out/\v.ks=u.ks/\u.e=0:=by have F:u.e=0:=Xo (by rw[h];exact E);unfold uget at h;rw[A1 F]at h;by_cases e:row.length<u.p+n;rw[A1 e]at h;have:=(VM h).2;rw[<-this]at E;exact absurd (show (7:Int)=0 from E) od;rw[A0 e]at h;have:=(VM h).2;subst this;exact⟨rfl,by show u.p+n<=row.length;omega,rfl,rfl,F⟩
theorem Y0:∀(f n:Nat),1<=n->(Er l row p f n).2.2=0->1<=(Er l row p f n).2.1/\p+(Er l row p f n).2.1<=row.length/\(Er l row p f n).1<l.length
 |0,n,_,h=>by rw[Er]at h;exact absurd h od
 |f+1,n,hn,h=>by
  rw[Er]at h ⊢;by_cases e:row.length<p+n;rw[A1 e]at h;exact absurd h od
  . rw[A0 e]at h ⊢
    cases E:Qv l ((row.drop p).take n)with
    |some q=>simp only;refine⟨hn,om,?_⟩;have:=ZJ E;simpa using this
    |none=>rw[E]at h;simp only at h ⊢;exact Y0 f (n+1) om h
theorem Ct{v:US}(h:uplace l row u=(k,v))(E:v.e=0):u.p+1<=v.p/\v.p<=row.length/\v.out=u.out/\v.ks=u.ks/\u.e=0/\k<l.length:=by have F:u.e=0:=GM (by rw[h];exact E);unfold uplace at h;rw[A1 F]at h;have H:=(VM h).2;have G:=(VM h).1;subst H;have:=Y0 (l:=l) (row:=row) (p:=u.p) 15 1 (VA _) E;refine⟨?_,?_,rfl,rfl,F,?_⟩;show u.p+1<=u.p+(Nl l row u.p).2.1;have I:=this.1;unfold Nl;omega;show u.p+(Nl l row u.p).2.1<=row.length;exact this.2.1;rw[<-G];exact this.2.2
theorem So:∀ {n:Nat} {u:US},(ucopy d n u).e=0->u.e=0
 |0,u,h=>h
 |n+1,u,h=>by rw[ucopy]at h;exact xV
theorem CT:∀ {n:Nat} {u:US},(ucopy d n u).e=0->(ucopy d n u).p=u.p/\(ucopy d n u).ks=u.ks/\(u.out.length<=3000->(ucopy d n u).out.length<=3000)
 |0,u,h=>⟨rfl,rfl,λh=>h⟩
 |n+1,u,h=>by have e:=So h;rw[ucopy,A1 e]at h ⊢;obtain⟨F,G,E⟩:=Xl (So h);have ih:=CT h;rw[E]at ih ⊢;refine⟨ih.1,ih.2.1,λH=>ih.2.2 ?_⟩;simp only[VB,VG,WE];omega
inductive Tok1 (row:List Bool)(a b:List Int)(u:US):Bool->US->Prop
 |stop (v:US):uplace a row u=(256,v)->v.e=0->Tok1 row a b u vq v
 |byte (c:Nat) (x:US):uplace a row u=(c,x)->x.e=0->c<256->x.out.length≠3000->Tok1 row a b u vr {x with out:=x.out++ [c]}
 |same (k n0 f d0:Nat) (x1 x2 x3 x4 v:US):uplace a row u=(k,x1)->x1.e=0->257<=k->k<=285->uget row (samesL.getD (k-257) (0,0)).2 x1=(n0,x2)->x2.e=0->uplace b row x2=(f,x3)->x3.e=0->f<=29->
  uget row (farsL.getD f (0,0)).2 x3=(d0,x4)->x4.e=0->(farsL.getD f (0,0)).1+d0<=x4.out.length->ucopy ((farsL.getD f (0,0)).1+d0) ((samesL.getD (k-257) (0,0)).1+n0) x4=v->v.e=0->Tok1 row a b u vr v
theorem LC{a b:List Int}(h:(Mp row a b u).2.e=0):Tok1 row a b u (Mp row a b u).1 (Mp row a b u).2:=by obtain⟨k,x1,E⟩:∃k x1,uplace a row u=(k,x1):=⟨_,_,rfl⟩;unfold Mp at h ⊢;simp only[E]at h ⊢;by_cases c1:x1.e≠0\/k=256;rw[A1 c1]at h ⊢;simp only at h ⊢;rcases c1 with c1|c1;exact absurd h c1;subst c1;exact .stop x1 E h;rw[A0 c1]at h ⊢;(have aa:x1.e=0:=by by_cases e:x1.e=0;exact e;exact absurd (.inl e) c1);have ag:k≠256:=λe=>c1 (.inr e);by_cases c2:k<256;rw[A1 c2]at h ⊢;simp only at h ⊢;obtain⟨_,ae,af⟩:=Xl h;rw[af];exact .byte k x1 E aa c2 ae;rw[A0 c2]at h ⊢;by_cases O:285<k;rw[A1 O]at h;exact jJ;rw[A0 O]at h ⊢;unfold LH at h ⊢;obtain⟨n0,x2,e2⟩:∃n0 x2,uget row (samesL.getD (k-257) (0,0)).2 x1=(n0,x2):=⟨_,_,rfl⟩;obtain⟨f,x3,e3⟩:∃f x3,uplace b row x2=(f,x3):=⟨_,_,rfl⟩;simp only[e2,e3]at h ⊢;by_cases Z:x3.e=0/\29<f;rw[A1 Z]at h;rw[A1 (Bi od)]at h;exact jJ;rw[A0 Z]at h ⊢;by_cases G:x3.e≠0;rw[A1 G]at h;exact absurd h G;rw[A0 G]at h ⊢;have H:x3.e=0:=om;simp only at h ⊢;unfold U7 at h ⊢;obtain⟨d0,x4,I⟩:∃d0 x4,uget row (farsL.getD f (0,0)).2 x3=(d0,x4):=⟨_,_,rfl⟩;simp only[I]at h ⊢;have F:=So h;by_cases U:x4.e=0/\x4.out.length<(farsL.getD f (0,0)).1+d0;rw[A1 U]at F;exact absurd F (Bi od);rw[A0 U]at h F ⊢;have ac:x2.e=0:=GM (by rw[e3];exact H);exact .same k n0 f d0 x1 x2 x3 x4 _ E aa om om e2 ac e3 H om I F om rfl h
theorem Tok1.ahead{a b:List Int}{v:US}{t:Bool}(h:Tok1 row a b u t v):u.p+1<=v.p/\v.p<=row.length/\v.e=0/\v.ks=u.ks/\(u.out.length<=3000->v.out.length<=3000):=by
 cases h with
 |stop _ h1 h2=>have:=Ct h1 h2;exact⟨this.1,this.2.1,h2,this.2.2.2.1,λh=>by rw[this.2.2.1];exact h⟩
 |byte c x h1 h2 h3 h4=>have:=Ct h1 h2;refine⟨this.1,this.2.1,h2,this.2.2.2.1,λh=> ?_⟩;rw[this.2.2.1]at h4 ⊢;simp only[VB,VG,WE];omega
 |same k n0 f d0 x1 x2 x3 x4 _ h1 h2 h3 h4 h5 h6 h7 h8 h9 h10 h11 h12 h13 h14=>have p1:=Ct h1 h2;have H:=Bj h5 h6;have F:=Ct h7 h8;have G:=Bj h10 h11;have E:=CT (by rw[h13];exact h14:(ucopy ((farsL.getD f (0,0)).1+d0) ((samesL.getD (k-257) (0,0)).1+n0) x4).e=0);rw[h13]at E;refine⟨om,om,h14,?_,λh=>E.2.2 ?_⟩;rw[E.2.1,G.2.2.2.1,F.2.2.2.1,H.2.2.2.1,p1.2.2.2.1];rw[G.2.2.1,F.2.2.1,H.2.2.1,p1.2.2.1];exact h
theorem Z6q{a b:List Int}:∀ {F:Nat} {u:US},(utok row a b F u).e=0->u.e=0
 |0,u,h=>h
 |F+1,u,h=>by rw[utok]at h;exact xV
theorem Xj{a b:List Int}(h:(utok row a b (F+1) u).e=0):∃t x,Tok1 row a b u t x/\utok row a b (F+1) u=if t=vr then utok row a b F x else x:=by have H:=Z6q h;rw[utok,A1 H]at h ⊢;obtain⟨t,x,e⟩:∃t x,Mp row a b u=(t,x):=⟨_,_,rfl⟩;have E:=LC (row:=row) (a:=a) (b:=b) (u:=u);rw[e]at h E ⊢;simp only at h E ⊢;refine⟨t,x,E ?_,rfl⟩;by_cases G:t=vr;rw[A1 G]at h;exact Z6q h;rw[A0 G]at h;exact h
inductive Blk1R (row:List Bool)(u:US):Bool->US->Prop
 |stored (l:Nat) (x1 x2:US):uget row 1 u=(l,x1)->uget row 2 x1=(0,x2)->x2.e=0->(ustored row x2).e=0->Blk1R row u (decide (l=1)) (ukept 0 (ustored row x2))
 |coded (l k:Nat) (x1 x2 x3:US) (a b:List Int):uget row 1 u=(l,x1)->uget row 2 x1=(k,x2)->x2.e=0->(k=1\/k=2)->uopen row k x2=((a,b),x3)->x3.e=0->(utok row a b row.length x3).e=0->Blk1R row u (decide (l=1)) (ukept k (utok row a b row.length x3))
theorem Sq(h:(Em row u).2.e=0):Blk1R row u (Em row u).1 (Em row u).2:=by obtain⟨l,x1,F⟩:∃l x1,uget row 1 u=(l,x1):=⟨_,_,rfl⟩;obtain⟨k,x2,e2⟩:∃k x2,uget row 2 x1=(k,x2):=⟨_,_,rfl⟩;unfold Em at h ⊢;simp only[F,e2]at h ⊢;by_cases c1:x2.e≠0;exact bA;rw[A0 c1]at h ⊢;have H:x2.e=0:=om;by_cases c2:k=0;subst c2;rw[A1 rfl]at h ⊢;exact .stored l x1 x2 F e2 H h;rw[A0 c2]at h ⊢;obtain⟨a,b,x3,e3⟩:∃a b x3,uopen row k x2=((a,b),x3):=⟨_,_,_,rfl⟩;rw[e3]at h ⊢;simp only at h ⊢;by_cases dt:x3.e≠0;exact zQ;rw[A0 dt]at h ⊢;have E:x3.e=0:=om;(have I:k=1\/k=2:=by by_cases d1:k=1;exact .inl d1;by_cases G:k=2;exact .inr G;unfold uopen at e3;rw[A0 d1,A0 G]at e3;have:=(VM e3).2;rw[<-this]at E;exact absurd E (Bi od));exact .coded l k x1 x2 x3 a b F e2 H I e3 E h
structure Told(row:List Bool)(u:US)(m0 n0 c0:Nat)(u1 u2 u3 us:US)(S L A C:List Int)(v:US):Prop where
 g1:uget row 5 u=(m0,u1)
 g2:uget row 5 u1=(n0,u2)
 g3:uget row 4 u2=(c0,u3)
 e3:u3.e=0
 hm:m0+257<=286
 hn:n0+1<=30
 sm:usmall row (ord19.take (c0+4)) (List.replicate 19 0) u3=(S,us)
 es:us.e=0
 cs:errL S=0
 ln:ulens row S (m0+257+(n0+1)) (m0+257+(n0+1)) [] us=(L,v)
 ev:v.e=0
 l256:L.getD 256 0≠0
 ca:errL (L.take (m0+257))=0
 cc:errL (L.drop (m0+257))=0
 ea:A=L.take (m0+257)
 ec:C=L.drop (m0+257)
 len:L.length=m0+257+(n0+1)
theorem Hs{v:US}{A C:List Int}(h:Dm row u=((A,C),v))(aa:v.e=0):∃m0 n0 c0 u1 u2 u3 us S L,Told row u m0 n0 c0 u1 u2 u3 us S L A C v:=by obtain⟨m0,u1,ah⟩:∃m0 u1,uget row 5 u=(m0,u1):=⟨_,_,rfl⟩;obtain⟨n0,u2,e2⟩:∃n0 u2,uget row 5 u1=(n0,u2):=⟨_,_,rfl⟩;obtain⟨c0,u3,e3⟩:∃c0 u3,uget row 4 u2=(c0,u3):=⟨_,_,rfl⟩;(have E:Lk row (m0+257) (n0+1) (Gx row (m0+257) (n0+1) (c0+4) u3)=((A,C),v):=by unfold Dm at h;simp only[ah,e2,e3]at h;exact h);obtain⟨S,us,O⟩:∃S us,Gx row (m0+257) (n0+1) (c0+4) u3=(S,us):=⟨_,_,rfl⟩;rw[O]at E;unfold Lk at E;by_cases hc:(Sp (S,us)).e≠0;rw[A1 hc]at E;have:Sp (S,us)=v:=(VM E).2;rw[this]at hc;exact absurd aa hc;rw[A0 hc]at E;have F:(Sp (S,us)).e=0:=om;(have I:us.e=0/\errL S=0:=by unfold Sp at F;simp only at F;by_cases U:us.e=0/\errL S≠0;rw[A1 U]at F;exact absurd F (Bi od);rw[A0 U]at F;refine⟨F,?_⟩;by_cases ae:errL S=0;exact ae;exact absurd ⟨F,ae⟩ U);(have ar:Sp (S,us)=us:=by unfold Sp;rw[A0];rintro ⟨_,ap⟩;exact ap I.2);rw[ar]at E;simp only at E;obtain⟨L,G,hl⟩:∃L G,ulens row S (m0+257+(n0+1)) (m0+257+(n0+1)) [] us=(L,G):=⟨_,_,rfl⟩;rw[hl]at E;unfold Gy at E;simp only at E;by_cases Z:G.e≠0;rw[A1 Z]at E;have:G=v:=(VM E).2;rw[this]at Z;exact absurd aa Z;rw[A0 Z]at E;have ag:G.e=0:=om;by_cases hb:L.getD 256 0=0\/errL (L.take (m0+257))≠0\/errL (L.drop (m0+257))≠0;rw[A1 hb]at E;have:An 8 G=v:=(VM E).2;rw[<-this]at aa;exact absurd aa (Bi od);rw[A0 hb]at E;have ai:=(VM E).1;have aj:G=v:=(VM E).2;subst aj;(have ao:¬(286<m0+257\/30<n0+1):=by intro U;have ac:=O;unfold Gx at ac;rw[A1 U]at ac;have:=congrArg (λz=>z.2.e) ac;simp only at this;rw[I.1]at this;exact Bi od (Mr this));(have af:usmall row (ord19.take (c0+4)) (List.replicate 19 0) u3=(S,us):=by unfold Gx at O;rw[A0 ao]at O;exact O);(have al:u3.e=0:=by have:=congrArg (λz=>z.2.e) af;simp only at this;rw[I.1]at this;exact Mr this);(have ak:L.length=m0+257+(n0+1):=by have:=N4 (row:=row) (small:=S) (tot:=m0+257+(n0+1)) (m0+257+(n0+1)) [] us oS oS I.1 (by rw[hl];exact ag) (λl u _=>(N5 row l _ _).1);rw[hl]at this;exact this);refine⟨m0,n0,c0,u1,u2,u3,us,S,L,⟨ah,e2,e3,al,om,om,af,I.1,I.2,hl,ag,?_,?_,?_,(VM ai).1.symm,(VM ai).2.symm,ak⟩⟩;intro H;exact hb (.inl H);by_cases H:errL (L.take (m0+257))=0;exact H;exact absurd (.inr (.inl H)) hb;by_cases H:errL (L.drop (m0+257))=0;exact H;exact absurd (.inr (.inr H)) hb
theorem Z1j:Good Pu:=Cl (by decide+kernel)
theorem Z1i:Good Lj:=Cl (by decide+kernel)
theorem Zt:∀ {ks:List Nat} {s:List Int} {u:US},(usmall row ks s u).2.e=0->u.p<=row.length->u.p<=(usmall row ks s u).2.p/\(usmall row ks s u).2.p<=row.length/\(usmall row ks s u).2.out=u.out/\(usmall row ks s u).2.ks=u.ks
 | [],s,u,h,hp=>⟨VA _,hp,rfl,rfl⟩
 |k::r,s,u,h,hp=>by rw[usmall]at h ⊢;have H:=Mr h;obtain⟨aa,U,O,E,_⟩:=Bj (r:=(uget row 3 u).1) (v:=(uget row 3 u).2) rfl H;obtain⟨Z,I,F,G⟩:=Zt h U;exact⟨om,I,F.trans O,G.trans E⟩
theorem QV(h:(ukind row l k u).2.2.e=0)(H:u.p<=row.length):u.p<=(ukind row l k u).2.2.p/\(ukind row l k u).2.2.p<=row.length/\(ukind row l k u).2.2.out=u.out/\(ukind row l k u).2.2.ks=u.ks:=by(have key:∀n,(uget row n u).2.e=0->u.p<=(uget row n u).2.p/\(uget row n u).2.p<=row.length/\(uget row n u).2.out=u.out/\(uget row n u).2.ks=u.ks:=λn hn=>by obtain⟨aa,Z,U,I,_⟩:=Bj (r:=(uget row n u).1) (v:=(uget row n u).2) rfl hn;exact⟨om,Z,U,I⟩);unfold ukind at h ⊢;split;(. rename_i F;rw[A1 F]at h;split;(. rename_i E;rw[A1 E]at h;exact jJ);. rename_i E;rw[A0 E]at h;exact key 2 h);. rename_i F;rw[A0 F]at h;split;(. rename_i G;rw[A1 G]at h;exact key 3 h);. rename_i G;rw[A0 G]at h;split;(. rename_i O;rw[A1 O]at h;exact key 7 h);exact⟨VA _,H,rfl,rfl⟩
theorem QT:∀ {F:Nat} {l:List Int} {u:US},(ulens row small tot F l u).2.e=0->u.p<=row.length->u.p<=(ulens row small tot F l u).2.p/\(ulens row small tot F l u).2.p<=row.length/\(ulens row small tot F l u).2.out=u.out/\(ulens row small tot F l u).2.ks=u.ks
 |0,l,u,h,hp=>⟨VA _,hp,rfl,rfl⟩
 |F+1,l,u,h,hp=>by by_cases hc:l.length<tot/\u.e=0;obtain⟨r,e⟩:=Lr hc.1 hc.2 h;rw[e,r.st]at h ⊢;simp only at h ⊢;obtain⟨a1,a2,U,E,_,_⟩:=Ct (k:=(uplace small row u).1) (v:=(uplace small row u).2) rfl r.pe;obtain⟨b1,b2,b3,O⟩:=QV r.ke a2;obtain⟨Z,I,G,H⟩:=QT h b2;exact⟨om,I,G.trans (b3.trans U),H.trans (O.trans E)⟩;rw[ulens,A0 hc];exact⟨VA _,hp,rfl,rfl⟩
theorem Sj{v u1 u2 u3 af:US}{S A C:List Int}(h:Told row u ac G aa u1 u2 u3 af S Z A C v)(au:u.p<=row.length):u.p+1<=v.p/\v.p<=row.length/\v.out=u.out/\v.ks=u.ks:=by obtain⟨a1,a2,ah,aj,ag⟩:=Bj h.g3 h.e3;obtain⟨b1,b2,b3,ao,ai⟩:=Bj h.g2 ag;obtain⟨c1,c2,al,ar,_⟩:=Bj h.g1 ai;have s:=Zt (row:=row) (ks:=ord19.take (aa+4)) (s:=List.replicate 19 0) (u:=u3) (by rw[h.sm];exact h.es) a2;rw[h.sm]at s;obtain⟨ap,U,ae,I⟩:=s;have t:=QT (row:=row) (small:=S) (tot:=ac+257+(G+1)) (F:=ac+257+(G+1)) (l:= []) (u:=af) (by rw[h.ln];exact h.ev) U;rw[h.ln]at t;obtain⟨ak,E,H,O⟩:=t;simp only at ap U ae I ak E H O;exact⟨om,E,by rw[H,ae,ah,b3,al],by rw[O,I,aj,ao,ar]⟩
theorem DI:∀q,q<29->(samesL.getD q (0,0)).2<=5/\(samesL.getD q (0,0)).1<=258:=od
theorem OJ:∀f,f<30->(farsL.getD f (0,0)).2<=13/\(farsL.getD f (0,0)).1<=24577/\1<=(farsL.getD f (0,0)).1:=od
theorem Mq:∀ {k:Nat} {u:US},(ustore row k u).e=0->u.e=0
 |0,u,h=>h
 |k+1,u,h=>by rw[ustore]at h;exact xV
theorem Sl:∀ {k:Nat} {u:US},(ustore row k u).e=0->(ustore row k u).ks=u.ks
 |0,u,h=>rfl
 |k+1,u,h=>by have G:=Mq h;rw[ustore,A1 G]at h ⊢;obtain⟨r,y,E⟩:∃r y,uget row 8 u=(r,y):=⟨_,_,rfl⟩;rw[E]at h ⊢;obtain⟨F,_,H⟩:=Xl (Mq h);rw[Sl h,H];exact(Bj E F).2.2.2.1
structure Sto(row:List Bool)(u:US)(r1 r2:Nat)(y1 y2 V:US):Prop where
 g1:uget row 16 {u with p:=(u.p+7)/8*8}=(r1,y1)
 g2:uget row 16 y1=(r2,y2)
 e2:y2.e=0
 sum:r1+r2=65535
 st:ustore row r1 y2=V
 ev:V.e=0
theorem M0(h:(ustored row u).e=0):∃r1 r2 y1 y2,Sto row u r1 r2 y1 y2 (ustored row u):=by obtain⟨r1,y1,F⟩:∃r1 y1,uget row 16 {u with p:=(u.p+7)/8*8}=(r1,y1):=⟨_,_,rfl⟩;obtain⟨r2,y2,e2⟩:∃r2 y2,uget row 16 y1=(r2,y2):=⟨_,_,rfl⟩;refine⟨r1,r2,y1,y2,?_⟩;unfold ustored at h ⊢;simp only[F,e2]at h ⊢;have E:=Mq h;by_cases c:y2.e=0/\r1+r2≠65535;rw[A1 c]at E;exact absurd E (Bi od);rw[A0 c]at h E ⊢;exact⟨F,e2,E,om,rfl,h⟩
theorem Zs:∀ {k:Nat} {u:US},(ustore row k u).e=0->u.p<=row.length->u.p<=(ustore row k u).p/\(ustore row k u).p<=row.length/\(u.out.length<=3000->(ustore row k u).out.length<=3000)
 |0,u,h,hp=>⟨VA _,hp,λh=>h⟩
 |k+1,u,h,hp=>by have G:=Mq h;rw[ustore,A1 G]at h ⊢;obtain⟨r,y,F⟩:∃r y,uget row 8 u=(r,y):=⟨_,_,rfl⟩;rw[F]at h ⊢;obtain⟨I,H,E⟩:=Xl (Mq h);obtain⟨aa,U,O,_,_⟩:=Bj F I;have ih:=Zs h (by rw[E];exact U);rw[E]at ih ⊢;refine⟨?_,ih.2.1,λZ=>ih.2.2 ?_⟩;have:=ih.1;simp only at this ⊢;omega;simp only[VB,VG,WE];rw[O]at H ⊢;omega
theorem Z6p{a b:List Int}:∀ {F:Nat} {u:US},(utok row a b F u).e=0->u.p<=row.length->u.p<=(utok row a b F u).p/\(utok row a b F u).p<=row.length/\(utok row a b F u).ks=u.ks/\(u.out.length<=3000->(utok row a b F u).out.length<=3000)
 |0,u,h,hp=>⟨VA _,hp,rfl,λh=>h⟩
 |F+1,u,h,hp=>by obtain⟨t,x,U,e⟩:=Xj h;obtain⟨a1,a2,ae,E,H⟩:=U.ahead;rw[e]at h ⊢;by_cases G:t=vr;rw[A1 G]at h ⊢;obtain⟨ac,aa,O,Z⟩:=Z6p h a2;exact⟨om,aa,O.trans E,λI=>Z (H I)⟩;rw[A0 G];exact⟨om,a2,E,H⟩
theorem Blk1R.ahead{v:US}{t:Bool}(h:Blk1R row u t v):u.p+1<=v.p/\v.p<=row.length/\v.e=0/\v.ks.length=u.ks.length+1/\(u.out.length<=3000->v.out.length<=3000):=by
 cases h with
 |stored l x1 x2 h1 h2 h3 E=>obtain⟨a3,O,af,ae,I⟩:=Bj h2 h3;obtain⟨ap,au,ac,Z,_⟩:=Bj h1 I;obtain⟨r1,r2,y1,y2,F⟩:=M0 E;have al:y1.e=0:=Xo (by rw[F.g2];exact F.e2);obtain⟨p1,ba,ag,ai,_⟩:=Bj F.g1 al;obtain⟨a4,av,ak,ar,_⟩:=Bj F.g2 F.e2;have s:=Zs (row:=row) (k:=r1) (u:=y2) (by rw[F.st];exact E) av;have ah:=Sl (row:=row) (k:=r1) (u:=y2) (by rw[F.st];exact E);rw[F.st]at s ah;simp only at p1 ag ai;refine⟨?_,s.2.1,E,?_,λaa=>s.2.2 ?_⟩;show u.p+1<=(ustored row x2).p;have:=s.1;omega;show ((ustored row x2).ks++ [0]).length=_;rw[VB,ah,ar,ai,ae,Z];rfl;rw[ak,ag,af,ac];exact aa
 |coded l k x1 x2 x3 a b h1 h2 h3 E h5 h6 h7=>obtain⟨a3,O,af,ae,I⟩:=Bj h2 h3;obtain⟨ap,au,ac,Z,_⟩:=Bj h1 I;(have ay:x2.p<=x3.p/\x3.p<=row.length/\x3.out=x2.out/\x3.ks=x2.ks:=by rcases E with E|E;subst E;unfold uopen at h5;rw[A1 rfl]at h5;have:=(VM h5).2;subst this;exact⟨VA _,O,rfl,rfl⟩;subst E;unfold uopen at h5;rw[A0 od,A1 rfl]at h5;obtain⟨m0,n0,c0,a7,v2,a5,us,a6,a9,ax⟩:=Hs h5 h6;obtain⟨aw,G,H,U⟩:=Sj ax O;exact⟨om,G,H,U⟩);obtain⟨a8,ao,az,aj⟩:=ay;obtain⟨aw,G,H,U⟩:=Z6p h7 ao;refine⟨?_,G,h7,?_,λaa=>U ?_⟩;show u.p+1<=(utok row a b row.length x3).p;omega;show ((utok row a b row.length x3).ks++ [k]).length=_;rw[VB,H,aj,ae,Z];rfl;rw[az,af,ac];exact aa
theorem QZ:∀ {F:Nat} {u:US},(Dn row (F+1) u).e=0->(Em row u).2.e=0:=by intro F u h;rw[Dn]at h;by_cases c:(Em row u).1=vq/\(Em row u).2.e=0;exact c.2;rw[A0 c]at h;exact h
theorem A4(h:(Dn row (F+1) u).e=0):∃t x,Blk1R row u t x/\Dn row (F+1) u=if t=vq then Dn row F x else x:=by have E:=QZ h;refine⟨(Em row u).1,(Em row u).2,Sq E,?_⟩;rw[Dn];by_cases c:(Em row u).1=vq;rw[A1 ⟨c,E⟩,A1 c];rw[A0 (λh=>c h.1),A0 c]
def Dr(s:Nat):Nat×Nat:=if s=285 then (258,0)else (3+((s-257)-4*((s-257)/4-1))*2^((s-257)/4-1),(s-257)/4-1)
def Ds(s:Nat):Nat×Nat:=(1+(s-2*(s/2-1))*2^(s/2-1),s/2-1)
theorem Y9(s:Nat)(E:257<=s)(F:s<=285):Dr s=samesL.getD (s-257) (0,0):=by have:∀k∈List.range 29,Dr (k+257)=samesL.getD k (0,0):=tD;have:=this (s-257) oO;rwa [Nat.sub_add_cancel E]at this
theorem Z1(s:Nat)(E:s<=29):Ds s=farsL.getD s (0,0):=by have:∀k∈List.range 30,Ds k=farsL.getD k (0,0):=tD;exact this s oO
def Cr(row:List Bool)(u:US):Nat×US:=
 let n:=uget row 16 {u with p:=(u.p+7)/8*8}
 let t:=uget row 16 n.2
 (n.1,if t.2.e=0/\n.1+t.1≠65535 then An 4 t.2 else t.2)
def Cn(row:List Bool)(u:US):US:=
 let x:=Cr row u
 if x.2.e=0/\3000<x.2.out.length+x.1 then An 2 x.2 else ustore row x.1 x.2
theorem Gc(row:List Bool)(k:Nat)(u:US)(h:u.e≠0):ustore row k u=u:=by
 cases k with
 |zero=>rfl
 |succ k=>unfold ustore;rw[A0 h]
theorem He(row:List Bool)(n:Nat)(u:US)(h:u.p<=row.length):(uget row n u).2.p<=row.length:=by unfold uget;split;(. split;exact h;show u.p+n<=row.length;omega);exact h
theorem Cs(row:List Bool)(n:Nat)(u:US):(uget row n u).2.out=u.out:=by unfold uget;split;(. split<;>rfl);rfl
theorem Fw(row:List Bool)(n:Nat)(u:US)(h:u.e≠0):(uget row n u).2=u:=by unfold uget;rw[A0 h]
theorem Yn(row:List Bool)(u I E:US)(H F G:Nat)(O:(u.p+7)/8*8=H)(Z:uget row 16 {u with p:=H}=(F,I))(U:uget row 16 I=(G,E)):Cn row u=if E.e≠0 then E else if F+G≠65535 then {E with e:=4}else if 3000<E.out.length+F then {E with e:=2}else ustore row F E:=by(have aa:Cr row u=(F,if E.e=0/\F+G≠65535 then An 4 E else E):=by simp only[Cr,O,Z,U]);unfold Cn;simp only[aa];by_cases e:E.e=0;by_cases e2:F+G=65535;by_cases e3:3000<E.out.length+F;simp[e,e2,e3,An];simp[e,e2,e3];simp[e,e2,An,Gc];simp[e,Gc]
theorem Ix(row:List Bool)(n:Nat)(u:US):(uget row n u).2.ks=u.ks:=by unfold uget;split;(. split<;>rfl);rfl
def Kh(d k:Nat)(u:US):US:=if u.out.length<d then {u with e:=9}else if 3000<u.out.length+k then {u with e:=2}else ucopy d k u
theorem Uf(row:List Bool):∀(k:Nat) (x:US),x.out.length<=3000->3000<x.out.length+k->(ustore row k x).e≠0
 |0,x,h1,h2=>om
 |k+1,x,h1,h2=>by by_cases e:x.e=0;unfold ustore;rw[A1 e];obtain⟨c,y,F⟩:∃c y,uget row 8 x=(c,y):=⟨_,_,rfl⟩;(have E:y.out=x.out:=by have:=Cs row 8 x;rw[F]at this;exact this);rw[F];show (ustore row k (Fo c y)).e≠0;by_cases e2:y.e=0;by_cases e3:y.out.length=3000;(have:Fo c y= {y with e:=2}:=by unfold Fo;rw[A1 e2,A1 e3]);rw[this,Gc _ _ _ (show (2:Int)≠0 by decide)];exact(by decide:(2:Int)≠0);(have:Fo c y= {y with out:=y.out++ [c]}:=by unfold Fo;rw[A1 e2,A0 e3]);rw[this];refine Uf row k _ ?_ ?_;show (y.out++ [c]).length<=3000;rw[VB,E];rw[E]at e3;exact bI;show 3000<(y.out++ [c]).length+k;rw[VB,E];exact bI;(have:Fo c y=y:=by unfold Fo;rw[A0 e2]);rw[this,Gc _ _ _ e2];exact e2;rw[Gc _ _ _ e];exact e
theorem NO(row:List Bool)(u:US)(H:u.out.length<=3000)(h:(ustored row u).e=0):Cn row u=ustored row u:=by have E:ustored row u=ustore row (Cr row u).1 (Cr row u).2:=rfl;(have F:(Cr row u).2.out=u.out:=by unfold Cr;dsimp only;split;(. unfold An;split;show (uget row 16 _).2.out=_;rw[Cs,Cs];rw[Cs,Cs]);rw[Cs,Cs]);unfold Cn;dsimp only;rw[A0,E];rintro ⟨_,G⟩;rw[E]at h;exact Uf row _ _ (by rw[F];exact H) G h
def O9:US:= {p:=0,out:= [],ks:= [],e:=0}
def Nt(row:List Bool)(lb:List Int)(u:US):Nat×US:=
 if (uplace lb row u).2.e≠0 then (0,(uplace lb row u).2)
 else if 29<(uplace lb row u).1 then (0,{(uplace lb row u).2 with e:=8})
 else ((Ds (uplace lb row u).1).1+(uget row (Ds (uplace lb row u).1).2 (uplace lb row u).2).1,(uget row (Ds (uplace lb row u).1).2 (uplace lb row u).2).2)
theorem IW(l:List Int)(p:Nat)(E:p<=row.length):∀f n,p+(Er l row p f n).2.1<=row.length
 |0,n=>by simpa[Er]using E
 |f+1,n=>by unfold Er;split;simpa using E;. split;show p+n<=row.length;omega;exact IW l p E f (n+1)
theorem Ju(l:List Int)(row:List Bool)(u:US)(E:u.p<=row.length):(uplace l row u).2.p<=row.length:=by unfold uplace;split;exact IW l u.p E 15 1;exact E
def Cu(row:List Bool)(lb:List Int)(k:Nat)(u:US):US:=
 if k<256 then (if 3000<u.out.length+1 then {u with e:=2}else {u with out:=u.out++ [k]})
 else if 285<k then {u with e:=8}
 else if (uget row (Dr k).2 u).2.e≠0 then (uget row (Dr k).2 u).2
 else if (Nt row lb (uget row (Dr k).2 u).2).2.e≠0 then (Nt row lb (uget row (Dr k).2 u).2).2
 else Kh (Nt row lb (uget row (Dr k).2 u).2).1 ((Dr k).1+(uget row (Dr k).2 u).1) (Nt row lb (uget row (Dr k).2 u).2).2
def NL(row:List Bool)(la lb:List Int):Nat->Nat->US->US
 |0,_,u=>u
 |f+1,k,u=>if k=256 then u
  else if (Cu row lb k u).e≠0 then Cu row lb k u
  else if (uplace la row (Cu row lb k u)).2.e≠0 then (uplace la row (Cu row lb k u)).2
  else NL row la lb f (uplace la row (Cu row lb k u)).1 (uplace la row (Cu row lb k u)).2
def Hz(row:List Bool)(la lb:List Int)(f:Nat)(u:US):US:=
 if (uplace la row u).2.e≠0 then (uplace la row u).2 else NL row la lb f (uplace la row u).1 (uplace la row u).2
theorem Gz(l:List Int)(row:List Bool)(u:US):(uplace l row u).2.out=u.out/\(uplace l row u).2.ks=u.ks/\u.p<=(uplace l row u).2.p:=by unfold uplace;split;exact⟨rfl,rfl,UE _ _⟩;exact⟨rfl,rfl,VA _⟩
theorem CS(row:List Bool)(n:Nat)(u:US):u.p<=(uget row n u).2.p:=by unfold uget;split;(. split;exact VA _;exact UE _ _);exact VA _
theorem Yp(row:List Bool)(l:List Int)(u:US)(I:u.p<=row.length):(Nt row l u).2.out=u.out/\(Nt row l u).2.ks=u.ks/\u.p<=(Nt row l u).2.p/\(Nt row l u).2.p<=row.length:=by obtain⟨G,E,H⟩:=Gz l row u;have F:=Ju l row u I;unfold Nt;split;exact⟨G,E,H,F⟩;. split;exact⟨G,E,H,F⟩;exact⟨(Cs row _ _).trans G,(Ix row _ _).trans E,WJ H (CS _ _ _),He row _ _ F⟩
theorem Ul(d k:Nat)(u:US)(h:(Kh d k u).e=0):(Kh d k u).p=u.p/\(Kh d k u).ks=u.ks/\(u.out.length<=3000->(Kh d k u).out.length<=3000):=by unfold Kh at h ⊢;split;(. rename_i hc;rw[A1 hc]at h;exact absurd (show (9:Int)=0 from h) od);. rename_i hc;rw[A0 hc]at h;split;(. rename_i E;rw[A1 E]at h;exact zC);. rename_i E;rw[A0 E]at h;exact CT h
theorem Yk(l:List Int)(row:List Bool)(p:Nat):∀f n,1<=n->(Er l row p f n).2.2=0->1<=(Er l row p f n).2.1
 |0,n,_,h=>absurd (show (8:Int)=0 from h) od
 |f+1,n,hn,h=>by unfold Er at h ⊢;split;(. rename_i hc;rw[A1 hc]at h;exact absurd (show (7:Int)=0 from h) od);. rename_i hc;rw[A0 hc]at h;split;exact hn;. rename_i E;rw[E]at h;exact Yk l row p f (n+1) om h
theorem QS(l:List Int)(row:List Bool)(u:US)(E:u.e=0)(h:(uplace l row u).2.e=0):u.p<(uplace l row u).2.p:=by unfold uplace at h ⊢;rw[A1 E]at h ⊢;have:=Yk l row u.p 15 1 (VA _) h;show u.p<u.p+(Nl l row u.p).2.1;unfold Nl;omega
end
section
open Go.RowKit Go.Proofs.Tryz
variable{aw ax:Act}{ag:Array Oper}{Q:Exit->Act->World->Prop}{bs:List Nat}{ac n:Nat}{a:Option Addr}{w w':World}
theorem E3{P:Program}{F:Region.Mode}{E:Array Bool}{a:Act}{o:Oper}{v:vt}(i:Nat)(h:wpAny P F ag Q ac (E.setIfInBounds i vr) ax w)(U:aw=a:=by first|(simp only[Act.put,VE,VH,VJ];rfl)|rfl)(ae:ag[i]? =vp o:=by exact rfl)(Z:Region.noSelect ag=true:=by kernel_rfl)(G:Region.free F ag E i=true:=by kernel_rfl)(O:(Region.ready F ag E).contains i=true:=by kernel_rfl)(I:Yields P ag o v a:=by exact Or.inl ⟨by rfl,λW=>by first|(go_simp;done)|(go_simp;with_reducible rfl)⟩)(H:a.put o.dst v=ax:=by simp only[Act.put,VE,VH,VJ];rfl)(aa:∀c a w,Q (.panic c) (a.put o.dst v) w->Q (.panic c) a w:=by exact λ_ _ _ h=>h):wpAny P F ag Q (ac+1) E aw w:=by rw[U];exact wpAny_take ae Z G O aa I (by rw[H];exact h)
theorem B0{P:Program}{F:Region.Mode}{E:Array Bool}{a:Act}{o:Oper}{S:wd->Prop}{v:vt}(i:Nat)(c8:S w)(h:wpAnyH P F ag Q S ac (E.setIfInBounds i vr) ax w)(G:aw=a:=by first|(simp only[Act.put,VE,VH,VJ];rfl)|rfl)(hi:ag[i]? =vp o:=by exact rfl)(a8:Region.noSelect ag=true:=by kernel_rfl)(d9:Region.free F ag E i=true:=by kernel_rfl)(hr:(Region.ready F ag E).contains i=true:=by kernel_rfl)(gq:YieldsIf P ag S o v a:=by exact Or.inl ⟨by rfl,λW c8=>by first|(go_simp;done)|(go_simp;with_reducible rfl)⟩)(bo:a.put o.dst v=ax:=by simp only[Act.put,VE,VH,VJ];rfl)(qm:∀c a w,Q (.panic c) (a.put o.dst v) w->Q (.panic c) a w:=by exact λ_ _ _ h=>h):wpAnyH P F ag Q S (ac+1) E aw w:=by rw[G];exact wZ
theorem LZ{P:Program}{F:Region.Mode}{E:Array Bool}{a:Act}{o:Oper}{S:wd->Prop}{v:vt}(i:Nat)(c8:S w)(h:wpAnyH P F ag Q S ac (E.setIfInBounds i vr) ax w)(G:aw=a:=by first|(simp only[Act.put,VE,VH,VJ];rfl)|rfl)(hi:ag[i]? =vp o:=by exact rfl)(a8:Region.noSelect ag=true:=by kernel_rfl)(d9:Region.free F ag E i=true:=by kernel_rfl)(hr:(Region.ready F ag E).contains i=true:=by kernel_rfl)(gq:YieldsIf P ag S o v a:=by exact Or.inl ⟨by kernel_rfl,λW c8=>by first|(go_simp;done)|(go_simp;with_reducible rfl)⟩)(bo:a.put o.dst v=ax:=by simp only[Act.put,VE,VH,VJ];rfl)(qm:∀c a w,Q (.panic c) (a.put o.dst v) w->Q (.panic c) a w:=by exact λ_ _ _ h=>h):wpAnyH P F ag Q S (ac+1) E aw w:=by rw[G];exact wZ
theorem HA{P:Program}{G:Region.Mode}{F:Array Bool}{a:Act}{w:wd}{o:Oper}(i:Nat)(h:wpAny P G ag Q ac (F.setIfInBounds i vr) ax w')(I:aw=a:=by first|(simp only[Act.put,VE,VH,VJ];rfl)|rfl)(U:ag[i]? =vp o:=by exact rfl)(H:Region.ready G ag F= [i]:=by kernel_rfl)(Z:∀E:Act->wd->Prop,E ax w'->if Region.wanted o (yielded ag a.tmps)=vr then Oper.wp P o a w E Q else E (a.put o.dst undef) w:=by intro E O;go_simp;(try simp only[Act.put,VE,VH,VJ]);exact O):wpAny P G ag Q (ac+1) F aw w:=by rw[I];exact R6 H (by simp) (HW U (λK hK=>Z K (hK _ _ h)) R7)
theorem I1{P:Program}{G:Region.Mode}{F:Array Bool}{a:Act}{w:wd}{o:Oper}{S:wd->Prop}(i:Nat)(H:S w')(h:wpAnyH P G ag Q S ac (F.setIfInBounds i vr) ax w')(O:aw=a:=by first|(simp only[Act.put,VE,VH,VJ];rfl)|rfl)(Z:ag[i]? =vp o:=by exact rfl)(I:Region.ready G ag F= [i]:=by kernel_rfl)(aa:∀E:Act->wd->Prop,E ax w'->if Region.wanted o (yielded ag a.tmps)=vr then Oper.wp P o a w E Q else E (a.put o.dst undef) w:=by intro E U;go_simp;(try simp only[Act.put,VE,VH,VJ]);exact U):wpAnyH P G ag Q S (ac+1) F aw w:=by rw[O];exact wpAnyH_ready I (by simp) (AllReadyH.cons Z (λK hK=>aa K (hK.out _ _ H (λ_=>h))) AllReadyH.nil)
theorem C1{P:Program}{F:Region.Mode}{E:Array Bool}{a:Act}{o:Oper}{S:wd->Prop}(i:Nat)(h:∀G:Act->wd->Prop,Shut (∀a w,S w->(S w->wpAnyH P F ag Q S ac (E.setIfInBounds i vr) a w)->G a w)->if Region.wanted o (yielded ag a.tmps)=vr then Oper.wp P o a w G Q else G (a.put o.dst undef) w)(H:ag[i]? =vp o:=by exact rfl)(I:Region.ready F ag E= [i]:=by kernel_rfl):wpAnyH P F ag Q S (ac+1) E a w:=
 wpAnyH_ready I (by simp) (AllReadyH.cons H h AllReadyH.nil)
theorem Va{P:Program}{F:Region.Mode}{E:Array Bool}{a:Act}{o:Oper}(i:Nat)(h:∀G:Act->wd->Prop,(∀a w,wpAny P F ag Q ac (E.setIfInBounds i vr) a w->G a w)->if Region.wanted o (yielded ag a.tmps)=vr then Oper.wp P o a w G Q else G (a.put o.dst undef) w)(H:ag[i]? =vp o:=by exact rfl)(I:Region.ready F ag E= [i]:=by kernel_rfl):wpAny P F ag Q (ac+1) E a w:=
 R6 I (by simp) (HW H h R7)
theorem Z9i(w:wd)(a4:n<=9223372036854775807)(a3:ac<=100):vu v8 62 #[so vh n,so vh ac] w λe w'=>∃v,e=vm v/\w'.ownsRow w.heap.size 5 1 v ac (u8s (Ah n ac))/\vx w.heap.size w w':=by obtain⟨al,hi,Z,ag,ak⟩:=EM Gq;go_enter func62,ntmps62;go_wp2;go_loopw [0,5,7] (λar au i wr=>∃k:Nat,k<=ac/\i=so vh k/\ar=so vh (n/256^k:Nat)/\vz (wr.ownsRow w.heap.size 5 1 au k (u8s (Ah n k))/\vx w.heap.size w wr)) (λ_ _ i _=>ac-(vy i).toNat);exact⟨0,VF _,rfl,oS,HM _ _ _ _,A2 _ _⟩;obtain⟨k,ay,rfl,rfl,E⟩:=hrel;by_cases ax:k<ac;(. obtain⟨q,F⟩:=exq (n/256^k);(have aw:q<=n:=by rw[<-F];exact YW _ _);(have O:n/256^(k+1)=q/256:=by rw[XI,<-ZX,F]);have G:=Ub k n;rw[F]at G ⊢;have U:=Ab O;have af:=Ab G;have aj:=E.2.size;(have hr:((q:Int)).tmod 256=((q%256:Nat):Int):=by rw[Int.tmod_eq_emod_of_nonneg om];omega);(have av:((q:Int)).tdiv 256=((q/256:Nat):Int):=by rw[Int.tdiv_eq_ediv_of_nonneg om];omega);(have az:vi.wrap ((q%256:Nat):Int)=((q%256:Nat):Int):=by simp[IntKind.wrap,IntKind.bits,IntKind.signed];try omega);obtain⟨ao,ae,ai⟩:=Bq (E.1.alloc (vl #[so vi (q%256:Nat)] 5)) (E.2.alloc aj (vl #[so vi (q%256:Nat)] 5)) (Vr (w:=wr) (x:=so vi (q%256:Nat)) (t:=5) rfl);clear F O G;go_wp2_with (at_builtin;refine HG _ rfl _ _ 23 rfl w.heap.size 5 al (so vi 0) 1 1 underlying23 hi Z ag ak rfl od _ k (u8s (Ah n k)) rfl ao ⟨wr.heap.size,0,vn⟩ 1 1 [so vi (q%256:Nat)] rfl rfl (λj u ap=>Rm ai ap) (Df rfl) ou om oO ?_);intro v' w3 I H _ _;have aa:=Ab (ae.grown H oO (λg e=>(E.1.lt g e).1));(have ah:vz (w3.ownsRow w.heap.size 5 1 v' (k+1) (u8s (Ah n (k+1)))):=by rw[Aa af,A5];exact I);clear I H;go_wp2;go_roundw;exact⟨k+1,om,by go_num,by rw[Aa U,Int.natCast_ediv];rfl,ah,aa⟩;simp[vy];omega);. obtain rfl:ac=k:=om;go_wp2;go_ret;exact⟨_,rfl,E.1,E.2⟩
theorem TZ(n c:Nat)(aa:bs.length=n)(az:n<=7)(h:BytesIn w a bs)(H:∀x∈bs,x<256):vu v8 38 #[va a n c] w λe w'=>e=vm (so vh (Ak bs:Nat))/\w'=w:=by
 have ak:=Ab h;have ay:=Ab aa;(have ag:∀k,1<=k->k<=n->Ak (bs.drop k)<256^6:=by intro k aw E;have al:=Ip (bs.drop k) (λx ar=>H x (WM ar));refine VC al (VN od ?_);rw[VR];omega);have aj:=Ab ag;have I:∀k,k<n->Ak (bs.drop k)=256*Ak (bs.drop (k+1))+bs.getD k 0:=λk E=>MQ om;have av:=Ab I;(have O:∀k,bs.getD k 0<256:=by intro k;by_cases E:k<bs.length;(have e:bs.getD k 0=bs[k]:=by simp[List.getD,E]);rw[e];exact H _ (WO E);simp[List.getD,E]);have ao:=Ab O;clear h aa ag I H O;go_enter func38,ntmps38;go_wp2;go_loopw [3,4] (λai v4 wr=>∃k:Nat,k<=n/\v4=so vh ((k:Int)-1)/\ai=so vh (Ak (bs.drop k):Nat)/\vz (wr=w)) (λ_ v4 _=>(vy v4+1).toNat);exact⟨n,VA _,rfl,by rw[XE uG];rfl,rfl⟩;obtain⟨k,E,rfl,rfl,af⟩:=hrel;have ap:wr=w:=Aa af;subst ap;clear af
 cases k with
 |zero=>go_wp2;go_ret;exact⟨rfl,rfl⟩
 |succ j=>obtain⟨b,o,rfl,hb,ae⟩:=Cb ak uF;have hc:=ae j uF;have ac:=Aa av j om;have U:=Aa aj (j+1) om E;have au:=Aa ao j;have Z:=Ab ac;obtain⟨q,F⟩:=exq (Ak (bs.drop (j+1)));obtain⟨y,G⟩:=exq (bs.getD j 0);rw[F,G]at Z;rw[F]at U ⊢;rw[G]at hc au;clear F G ac ae;have ah:((j+1:Nat):Int)-1=(j:Int):=om;rw[ah];have ax:(j:Int)<n:=om;simp only[Nat.reducePow]at U;go_wp2;go_roundw;exact⟨j,om,by go_num,by rw[Aa Z];go_num,by first|exact Ab rfl|exact Ab trivial⟩;simp[vy]
end
end Go.Proofs.YtleocpdblhbimaaGreatDoor
