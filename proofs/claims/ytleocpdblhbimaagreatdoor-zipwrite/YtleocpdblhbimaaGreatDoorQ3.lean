import Derived.Test.YtleocpdblhbimaaGreatDoorQ2
import Derived.Deep.WholeRow
import Derived.Laws.ResultCell
set_option linter.unusedSimpArgs false
namespace Go.Proofs.YtleocpdblhbimaaGreatDoor
open Go.RowKit
set_option linter.unusedVariables false
def Arr (w:World)(b:Nat)(c:Nat->Nat):Prop:=w.heap[b]? =some (.cells (arr c) 328 (0,0))
theorem NO {c d:Nat->Nat}(h:∀n,n<16->c n=d n):arr c=arr d:=by
 unfold arr
 congr 1
 apply YO
 intro n hn;rw[h n (by simpa using hn)]
theorem Arr.congr {w:World}{b:Nat}{c d:Nat->Nat}(h:Arr w b c)(e:∀n,n<16->c n=d n):Arr w b d:=by
 unfold Arr;rw[<-NO e];exact h
theorem Arr.lt {w:World}{b:Nat}{c:Nat->Nat}(h:Arr w b c):b<w.heap.size:=by
 by_cases e:b<w.heap.size
 . exact e
 . have:w.heap[b]? =none:=by simp;omega
   rw[Arr,this]at h;cases h
theorem Arr.cell {w:World}{b:Nat}{c:Nat->Nat}(h:Arr w b c){j:Nat}(hj:j<16):w.cell? ⟨b,j,none⟩=some (.int .i64 ((c j:Nat):Int)):=by
 rw[cell_of_row w b j _ _ _ h];exact NP c hj
theorem Arr.frozen {w:World}{b:Nat}{c:Nat->Nat}(h:Arr w b c)(j:Nat):w.frozen? ⟨b,j,none⟩=false:=frozen_of_row w b j _ _ h
theorem Arr.new (w:World)(c:Nat->Nat){b:Nat}(hb:b=w.heap.size):Arr (w.alloc (.cells (arr c) 328)) b c:=by rw[hb];exact heap_alloc_new w _
theorem Arr.alloc {w:World}{b:Nat}{c:Nat->Nat}(h:Arr w b c)(o:Obj):Arr (w.alloc o) b c:=
 (Below.heap_alloc w o b h.lt).trans h
theorem Arr.below {w w':World}{B b:Nat}{c:Nat->Nat}(h:Arr w b c)(hB:Below B w w')(hb:b<B):Arr w' b c:=by
 unfold Arr;rw[hB.block b hb];exact h
theorem Arr.set {w:World}{b:Nat}{c:Nat->Nat}(h:Arr w b c)(j x:Nat):Arr (w.setCell ⟨b,j,none⟩ (.int .i64 ((x:Nat):Int))) b (upd c j x):=by
 unfold Arr;rw[heap_setCell_same w b j _ _ _ h,Z2s]
theorem Arr.other {w:World}{b:Nat}{c:Nat->Nat}(h:Arr w b c){a:Addr}(hb:b≠a.block)(v:Value):Arr (w.setCell a v) b c:=by
 unfold Arr;rw[heap_setCell_other w a b v hb];exact h
theorem Arr.setRow {w:World}{b:Nat}{c:Nat->Nat}(h:Arr w b c)(d:Nat->Nat):Arr (w.setRow b (arr d)) b d:=setRow_heap w b _ _ _ _ h
theorem Bl {B:Nat}{a w:World}(h:Below B a w){g:Nat}(hg:B<=g)(cs:Array Value):Below B a (w.setRow g cs):=
 ⟨h.os,h.tape,h.output,by simp;exact h.size,fun k hk=>(Go.setRow_other w g k cs (by omega)).trans (h.block k hk)⟩
theorem FK:(#[.int .i64 0,.int .i64 0,.int .i64 0,.int .i64 0,.int .i64 0,.int .i64 0,.int .i64 0,.int .i64 0,.int .i64 0,.int .i64 0,.int .i64 0,.int .i64 0,.int .i64 0,.int .i64 0,.int .i64 0,.int .i64 0]:Array Value)=arr (fun _=>0):=rfl
theorem Pe:(Tryz.prog.info? 328).map (·.size)=some 16:=by kernel_rfl
theorem Pb {ops:Array Oper}{rest:List Oper}{o:Oper}{a:Act}{w:World}{Q:Exit->Act->World->Prop}(hgd:o.guard=none)(x:Operand)(ho:o.op=.load 328 x)
 (b:Nat) (c:Nat->Nat) (hx:a.eval x=.pointer (some ⟨b,0,none⟩)) (h:Arr w b c) (k:wpList Tryz.prog ops Q rest (a.put o.dst (.agg (arr c))) w):wpList Tryz.prog ops Q (o::rest) a w:=
 wpList_load_row hgd 328 x ho b hx _ _ _ _ h Tryz.underlying328 rfl (by rw[Fg];exact Pe) k
theorem Fk {ops:Array Oper}{rest:List Oper}{o:Oper}{a:Act}{w:World}{Q:Exit->Act->World->Prop}(hgd:o.guard=none)(x y:Operand)(ho:o.op=.store 328 x y)
 (b:Nat) (c d:Nat->Nat) (hx:a.eval x=.pointer (some ⟨b,0,none⟩)) (hy:a.eval y=.agg (arr d)) (h:Arr w b c) (k:wpList Tryz.prog ops Q rest (a.put o.dst undef) (w.setRow b (arr d))):wpList Tryz.prog ops Q (o::rest) a w:=
 wpList_store_row hgd 328 x y ho b _ hx hy _ _ h (by rw[Fg];exact Pe) (by rw[Fg,Fg]) (Z2t d) k
theorem Ys {ops:Array Oper}{rest:List Oper}{o:Oper}{a:Act}{W:World}{Q:Exit->Act->World->Prop}(hgd:o.guard=none)(x y:Operand)(ho:o.op=.store 328 x y)
 (w:World) (c d:Nat->Nat) (hW:W=w.alloc (.cells (arr c) 328)) (hx:a.eval x=.pointer (some ⟨w.heap.size,0,none⟩)) (hy:a.eval y=.agg (arr d)) (k:wpList Tryz.prog ops Q rest (a.put o.dst undef) (w.alloc (.cells (arr d) 328))):wpList Tryz.prog ops Q (o::rest) a W:=by
 subst hW;exact Fk hgd x y ho _ c d hx hy (Arr.new w c rfl) (by rw[World.setRow_alloc_new];exact k)
theorem O0 {w:World}{b:Nat}{c:Nat->Nat}(h:Arr w b c):(loadVar 328 ⟨b,0,none⟩).run Tryz.prog w=.ok (.agg (arr c)) w:=
 run_loadVar_row w b _ _ _ _ _ h Tryz.underlying328 rfl (by rw[Fg];exact Pe)
theorem Fo {fn:Func}{p u:Tmp}(h:fn.results= #[.cell p 328,.tmp u])(tmps:Array Value)(w:World)(b:Nat)(c:Nat->Nat)(hp:tmps.getD p undef=.pointer (some ⟨b,0,none⟩))(hA:Arr w b c):
 (results fn tmps).run Tryz.prog w=.ok (.tuple #[.agg (arr c),tmps.getD u undef]) w:=by
 rw[results_cell_tmp h,hp];simp[asAddr,Result.andThen,O0 hA]
theorem GN (c:Nat->Nat)(w:World)(hc:∀n,c n<=288):
 Calls Tryz.prog 273 #[.agg (arr c)] w fun e w'=>e=.returned (.int .i64 (takenN c 15:Nat))/\Below w.heap.size w w':=by
 go_enter Tryz.func273,Tryz.ntmps273
 go_wp2;have hA:=Ab (Arr.new w c rfl);have hB:=Ab ((Below.refl w.heap.size w).alloc (VC _) (.cells (arr c) 328));go_loop [3,4] (fun s i=>∃k:Nat,k<=15/\i=.int .i64 ((k:Int)+1)/\s=.int .i64 (takenN c k:Nat)) (fun _ i=>16-(intOf i).toNat)
 case atStart=>exact⟨0,by omega,rfl,rfl⟩
 case round=>
  obtain⟨k,hk,rfl,rfl⟩:=hrel
  by_cases hlt:k<15
  . have c1:=(Aa hA).cell (j:=k+1) (by omega);have ht:=Yi c hc (k+1);have H:Hid (takenN c (k+1)=takenN c k+c (k+1)*2^(14-k)):=rfl
    have hw:wrap64 ((takenN c k:Int)+wrap64 ((c (k+1):Int)*2^(14-k)))=((takenN c (k+1):Nat):Int):=by
     rw[takenN]at ht ⊢;have e:((c (k+1):Int)*2^(14-k))=((c (k+1)*2^(14-k):Nat):Int):=by push_cast;rfl
     rw[e];generalize c (k+1)*2^(14-k)=x at*;have h3:(k+1)*(288*32768)<=15*(288*32768):=Nat.mul_le_mul_right _ (by omega);unfold wrap64;omega
    have HW:=Ab hw;clear ht hw;go_wp2;go_round
    case rel=>exact⟨k+1,by omega,by go_num,by rw[Aa HW]⟩
    case measure=>simp[intOf];omega
  . obtain rfl:k=15:=by omega
    go_wp2;go_ret;exact⟨rfl,Aa hB⟩
def C4 (c:Nat->Nat)(k:Nat):Nat->Nat:=fun n=>if 1<=n/\n<=k then Ay c n else 0
theorem DU (c:Nat->Nat):C4 c 0=fun _=>0:=by funext n;simp[C4];omega
theorem DV (c:Nat->Nat)(k:Nat):upd (C4 c k) (k+1) (Ay c (k+1))=C4 c (k+1):=by
 funext n
 simp only[upd,C4]
 by_cases e:n=k+1
 . subst e;simp
 . by_cases h:1<=n/\n<=k
   . have:1<=n/\n<=k+1:=by omega
     simp[e,h,this]
   . have:¬(1<=n/\n<=k+1):=by omega
     simp[e,h,this]
theorem LI (c:Nat->Nat)(n:Nat)(h:n<16):C4 c 15 n=Ay c n:=by
 simp only[C4]
 by_cases e:n=0
 . subst e;simp[Ay]
 . have:1<=n/\n<=15:=by omega
   simp[this]
theorem AM (c:Nat->Nat)(hc:∀n,c n<=288):∀n,Ay c (n+1)+576<=288*2^(n+1)
 |0=>by simp[Ay]
 |n+1=>by
  have h1:=AM c hc n;have h2:=hc (n+1);rw[Ay,XE];generalize 2^(n+1)=p at*;omega
def JO (c:Nat->Nat):Nat->Nat
 |0=>0
 |k+1=>Ay c (k+1)+c (k+1)
theorem DY (c:Nat->Nat)(k:Nat):Ay c (k+1)=2*JO c k:=by cases k<;>rfl
theorem Rm (c:Nat->Nat)(hc:∀n,c n<=288){k:Nat}(hk:k<=14):Ay c (k+1)<=9437184:=by
 have h1:=AM c hc k;have h2:=VU (n:=2) (by decide) (show k+1<=15 by omega);have h3:288*2^(k+1)<=288*2^15:=Nat.mul_le_mul_left _ h2;omega
set_option maxRecDepth 100000 in
theorem Sz (c:Nat->Nat)(w:World)(hc:∀n,c n<=288):
 Calls Tryz.prog 255 #[.agg (arr c)] w fun e w'=>e=.returned (.agg (arr (Ay c)))/\Below w.heap.size w w':=by
 go_enter Tryz.func255,Tryz.ntmps255
 go_wp2;simp only[FK];have HA:=Ab (((Arr.new w c rfl).alloc (.cells (arr (fun _=>0)) 328)).alloc (.cells (arr (fun _=>0)) 328));have HR:=Ab ((Arr.new (w.alloc (.cells (arr c) 328)) (fun _=>0) (b:=w.heap.size+1) (by simp)).alloc (.cells (arr (fun _=>0)) 328));have HF:=Ab (Arr.new ((w.alloc (.cells (arr c) 328)).alloc (.cells (arr (fun _=>0)) 328)) (fun _=>0) (b:=w.heap.size+1+1) (by simp));have HB:=Ab ((((Below.refl w.heap.size w).alloc (VC _) (.cells (arr c) 328)).alloc (by simp) (.cells (arr (fun _=>0)) 328)).alloc (by simp;omega) (.cells (arr (fun _=>0)) 328));go_loopw [4,5] (fun s i wr=>∃k:Nat,k<=15/\i=.int .i64 ((k:Int)+1)/\s=.int .i64 (JO c k:Nat)/\Arr wr w.heap.size c/\Arr wr (w.heap.size+1) (fun _=>0)/\Arr wr (w.heap.size+1+1) (C4 c k)/\Below w.heap.size w wr) (fun _ i _=>16-(intOf i).toNat)
 case atStart=>exact⟨0,by omega,rfl,rfl,Aa HA,Aa HR,by rw[DU];exact Aa HF,Aa HB⟩
 case round=>
  obtain⟨k,hk,rfl,rfl,hA,hR,hF,hB⟩:=hrel;have HA1:=Ab hA;have HR1:=Ab hR;have HF1:=Ab hF;have HB1:=Ab hB
  by_cases hlt:k<15
  . have c1:=hA.cell (j:=k+1) (by omega);have c2:=hF.cell (j:=k+1) (by omega);have f2:=hF.frozen (k+1);have c3:(wr.setCell ⟨w.heap.size+1+1,k+1,none⟩ (.int .i64 (Ay c (k+1):Nat))).cell? ⟨w.heap.size,k+1,none⟩=some (.int .i64 ((c (k+1):Nat):Int)):=(hA.other (by simp;omega) _).cell (by omega);have hs:=Rm c hc (k:=k) (by omega);have hcc:=hc (k+1);have hfn:=DY c k;have HN:Hid (JO c (k+1)=Ay c (k+1)+c (k+1)):=rfl;have HP:=Ab (DV c k);have hw:wrap64 ((JO c k:Int)*2)=((Ay c (k+1):Nat):Int):=by unfold wrap64;omega
    clear hA hR hF hB hc HA HR HF HB hfn;generalize JO c k=m at*;go_wp2;go_roundw
    case rel=>exact⟨k+1,by omega,by go_num,by rw[Aa HN];go_num,(Aa HA1).other (by simp;omega) _,(Aa HR1).other (by simp) _,by rw[<-Aa HP];exact(Aa HF1).set _ _,(Aa HB1).setCell (by simp;omega) _⟩
    case measure=>simp[intOf];omega
  . obtain rfl:k=15:=by omega
    have HX:=Ab ((Aa HF1).congr (LI c));go_wp2_with (first|(refine Pb rfl (.tmp 3) rfl _ (Ay c) rfl (Aa HX) ?_)|(refine Fk rfl (.tmp 2) (.tmp 20) rfl _ _ (Ay c) rfl rfl (Aa HR1) ?_))
    have HY:=Ab ((Aa HR1).setRow (Ay c));refine bodyPost_ret (v:=.agg (arr (Ay c))) ?_ rfl ⟨rfl,Bl (Aa HB1) (by omega) _⟩;exact results_cell_row rfl _ _ _ _ _ _ _ rfl (Aa HY) Tryz.underlying328 rfl (by rw[Fg];exact Pe)
end Go.Proofs.YtleocpdblhbimaaGreatDoor
