import Derived.Deep.WholeRow
import Derived.Laws.ResultCell
import Derived.OwnWalk
import Derived.Test.YtleocpdblhbimaaGreatDoorQ25
set_option linter.unusedSimpArgs false
set_option maxHeartbeats 2000000
namespace Go.Proofs.YtleocpdblhbimaaGreatDoor
open Go.RowKit
set_option linter.unusedVariables false
def Arr (w:World)(b:Nat)(c:Nat->Nat):Prop:=w.heap[b]? =some (.cells (arr c) 328 (0,0))
theorem NO {c d:Nat->Nat}(h:∀n,n<16->c n=d n):arr c=arr d:=by
 unfold arr
 congr 1
 apply YO
 intro n hn;rw[h n (by simpa using hn)]
theorem Arr.congr {w:World}{b:Nat}{c d:Nat->Nat}(h:Arr w b c)(e:∀n,n<16->c n=d n):Arr w b d:=by
 unfold Arr;rw[<-NO e];exact h
theorem Arr.lt {w:World}{b:Nat}{c:Nat->Nat}(h:Arr w b c):b<w.heap.size:=by
 by_cases e:b<w.heap.size
 . exact e
 . have:w.heap[b]? =none:=by simp;omega
   rw[Arr,this]at h;cases h
theorem Arr.cell {w:World}{b:Nat}{c:Nat->Nat}(h:Arr w b c){j:Nat}(hj:j<16):w.cell? ⟨b,j,none⟩=some (.int .i64 ((c j:Nat):Int)):=by
 rw[cell_of_row w b j _ _ _ h];exact NP c hj
theorem Arr.frozen {w:World}{b:Nat}{c:Nat->Nat}(h:Arr w b c)(j:Nat):w.frozen? ⟨b,j,none⟩=false:=frozen_of_row w b j _ _ h
theorem Arr.new (w:World)(c:Nat->Nat){b:Nat}(hb:b=w.heap.size):Arr (w.alloc (.cells (arr c) 328)) b c:=by rw[hb];exact heap_alloc_new w _
theorem Arr.alloc {w:World}{b:Nat}{c:Nat->Nat}(h:Arr w b c)(o:Obj):Arr (w.alloc o) b c:=
 (Below.heap_alloc w o b h.lt).trans h
theorem Arr.below {w w':World}{B b:Nat}{c:Nat->Nat}(h:Arr w b c)(hB:Below B w w')(hb:b<B):Arr w' b c:=by
 unfold Arr;rw[hB.block b hb];exact h
theorem Arr.set {w:World}{b:Nat}{c:Nat->Nat}(h:Arr w b c)(j x:Nat):Arr (w.setCell ⟨b,j,none⟩ (.int .i64 ((x:Nat):Int))) b (upd c j x):=by
 unfold Arr;rw[heap_setCell_same w b j _ _ _ h,Z2s]
theorem Arr.other {w:World}{b:Nat}{c:Nat->Nat}(h:Arr w b c){a:Addr}(hb:b≠a.block)(v:Value):Arr (w.setCell a v) b c:=by
 unfold Arr;rw[heap_setCell_other w a b v hb];exact h
theorem Arr.setRow {w:World}{b:Nat}{c:Nat->Nat}(h:Arr w b c)(d:Nat->Nat):Arr (w.setRow b (arr d)) b d:=setRow_heap w b _ _ _ _ h
theorem Bl {B:Nat}{a w:World}(h:Below B a w){g:Nat}(hg:B<=g)(cs:Array Value):Below B a (w.setRow g cs):=
 ⟨h.os,h.tape,h.output,by simp;exact h.size,fun k hk=>(Go.setRow_other w g k cs (by omega)).trans (h.block k hk)⟩
theorem FK:(#[.int .i64 0,.int .i64 0,.int .i64 0,.int .i64 0,.int .i64 0,.int .i64 0,.int .i64 0,.int .i64 0,.int .i64 0,.int .i64 0,.int .i64 0,.int .i64 0,.int .i64 0,.int .i64 0,.int .i64 0,.int .i64 0]:Array Value)=arr (fun _=>0):=rfl
theorem Pe:(Tryz.prog.info? 328).map (·.size)=some 16:=by kernel_rfl
theorem Pb {ops:Array Oper}{rest:List Oper}{o:Oper}{a:Act}{w:World}{Q:Exit->Act->World->Prop}(hgd:o.guard=none)(x:Operand)(ho:o.op=.load 328 x)
 (b:Nat) (c:Nat->Nat) (hx:a.eval x=.pointer (some ⟨b,0,none⟩)) (h:Arr w b c) (k:wpList Tryz.prog ops Q rest (a.put o.dst (.agg (arr c))) w):wpList Tryz.prog ops Q (o::rest) a w:=
 wpList_load_row hgd 328 x ho b hx _ _ _ _ h Tryz.underlying328 rfl (by rw[Fg];exact Pe) k
theorem Fk {ops:Array Oper}{rest:List Oper}{o:Oper}{a:Act}{w:World}{Q:Exit->Act->World->Prop}(hgd:o.guard=none)(x y:Operand)(ho:o.op=.store 328 x y)
 (b:Nat) (c d:Nat->Nat) (hx:a.eval x=.pointer (some ⟨b,0,none⟩)) (hy:a.eval y=.agg (arr d)) (h:Arr w b c) (k:wpList Tryz.prog ops Q rest (a.put o.dst undef) (w.setRow b (arr d))):wpList Tryz.prog ops Q (o::rest) a w:=
 wpList_store_row hgd 328 x y ho b _ hx hy _ _ h (by rw[Fg];exact Pe) (by rw[Fg,Fg]) (Z2t d) k
theorem Ys {ops:Array Oper}{rest:List Oper}{o:Oper}{a:Act}{W:World}{Q:Exit->Act->World->Prop}(hgd:o.guard=none)(x y:Operand)(ho:o.op=.store 328 x y)
 (w:World) (c d:Nat->Nat) (hW:W=w.alloc (.cells (arr c) 328)) (hx:a.eval x=.pointer (some ⟨w.heap.size,0,none⟩)) (hy:a.eval y=.agg (arr d)) (k:wpList Tryz.prog ops Q rest (a.put o.dst undef) (w.alloc (.cells (arr d) 328))):wpList Tryz.prog ops Q (o::rest) a W:=by
 subst hW;exact Fk hgd x y ho _ c d hx hy (Arr.new w c rfl) (by rw[World.setRow_alloc_new];exact k)
theorem O0 {w:World}{b:Nat}{c:Nat->Nat}(h:Arr w b c):(loadVar 328 ⟨b,0,none⟩).run Tryz.prog w=.ok (.agg (arr c)) w:=
 run_loadVar_row w b _ _ _ _ _ h Tryz.underlying328 rfl (by rw[Fg];exact Pe)
theorem Fo {fn:Func}{p u:Tmp}(h:fn.results= #[.cell p 328,.tmp u])(tmps:Array Value)(w:World)(b:Nat)(c:Nat->Nat)(hp:tmps.getD p undef=.pointer (some ⟨b,0,none⟩))(hA:Arr w b c):
 (results fn tmps).run Tryz.prog w=.ok (.tuple #[.agg (arr c),tmps.getD u undef]) w:=by
 rw[results_cell_tmp h,hp];simp[asAddr,Result.andThen,O0 hA]
theorem GN (c:Nat->Nat)(w:World)(hc:∀n,c n<=288):
 Calls Tryz.prog 273 #[.agg (arr c)] w fun e w'=>e=.returned (.int .i64 (takenN c 15:Nat))/\Below w.heap.size w w':=by
 go_enter Tryz.func273,Tryz.ntmps273
 go_wp2;have hA:=Ab (Arr.new w c rfl);have hB:=Ab ((Below.refl w.heap.size w).alloc (VC _) (.cells (arr c) 328));go_loop [3,4] (fun s i=>∃k:Nat,k<=15/\i=.int .i64 ((k:Int)+1)/\s=.int .i64 (takenN c k:Nat)) (fun _ i=>16-(intOf i).toNat)
 case atStart=>exact⟨0,by omega,rfl,rfl⟩
 case round=>
  obtain⟨k,hk,rfl,rfl⟩:=hrel
  by_cases hlt:k<15
  . have c1:=(Aa hA).cell (j:=k+1) (by omega);have ht:=Yi c hc (k+1);have H:Hid (takenN c (k+1)=takenN c k+c (k+1)*2^(14-k)):=rfl
    have hw:wrap64 ((takenN c k:Int)+wrap64 ((c (k+1):Int)*2^(14-k)))=((takenN c (k+1):Nat):Int):=by
     rw[takenN]at ht ⊢;have e:((c (k+1):Int)*2^(14-k))=((c (k+1)*2^(14-k):Nat):Int):=by push_cast;rfl
     rw[e];generalize c (k+1)*2^(14-k)=x at*;have h3:(k+1)*(288*32768)<=15*(288*32768):=Nat.mul_le_mul_right _ (by omega);unfold wrap64;omega
    have HW:=Ab hw;clear ht hw;go_wp2;go_round
    case rel=>exact⟨k+1,by omega,by go_num,by rw[Aa HW]⟩
    case measure=>simp[intOf];omega
  . obtain rfl:k=15:=by omega
    go_wp2;go_ret;exact⟨rfl,Aa hB⟩
def C4 (c:Nat->Nat)(k:Nat):Nat->Nat:=fun n=>if 1<=n/\n<=k then Ay c n else 0
theorem DU (c:Nat->Nat):C4 c 0=fun _=>0:=by funext n;simp[C4];omega
theorem DV (c:Nat->Nat)(k:Nat):upd (C4 c k) (k+1) (Ay c (k+1))=C4 c (k+1):=by
 funext n
 simp only[upd,C4]
 by_cases e:n=k+1
 . subst e;simp
 . by_cases h:1<=n/\n<=k
   . have:1<=n/\n<=k+1:=by omega
     simp[e,h,this]
   . have:¬(1<=n/\n<=k+1):=by omega
     simp[e,h,this]
theorem LI (c:Nat->Nat)(n:Nat)(h:n<16):C4 c 15 n=Ay c n:=by
 simp only[C4]
 by_cases e:n=0
 . subst e;simp[Ay]
 . have:1<=n/\n<=15:=by omega
   simp[this]
theorem AM (c:Nat->Nat)(hc:∀n,c n<=288):∀n,Ay c (n+1)+576<=288*2^(n+1)
 |0=>by simp[Ay]
 |n+1=>by
  have h1:=AM c hc n;have h2:=hc (n+1);rw[Ay,XE];generalize 2^(n+1)=p at*;omega
def JO (c:Nat->Nat):Nat->Nat
 |0=>0
 |k+1=>Ay c (k+1)+c (k+1)
theorem DY (c:Nat->Nat)(k:Nat):Ay c (k+1)=2*JO c k:=by cases k<;>rfl
theorem Rm (c:Nat->Nat)(hc:∀n,c n<=288){k:Nat}(hk:k<=14):Ay c (k+1)<=9437184:=by
 have h1:=AM c hc k;have h2:=VU (n:=2) (by decide) (show k+1<=15 by omega);have h3:288*2^(k+1)<=288*2^15:=Nat.mul_le_mul_left _ h2;omega
set_option maxRecDepth 100000 in
theorem Sz (c:Nat->Nat)(w:World)(hc:∀n,c n<=288):
 Calls Tryz.prog 255 #[.agg (arr c)] w fun e w'=>e=.returned (.agg (arr (Ay c)))/\Below w.heap.size w w':=by
 go_enter Tryz.func255,Tryz.ntmps255
 go_wp2;simp only[FK];have HA:=Ab (((Arr.new w c rfl).alloc (.cells (arr (fun _=>0)) 328)).alloc (.cells (arr (fun _=>0)) 328));have HR:=Ab ((Arr.new (w.alloc (.cells (arr c) 328)) (fun _=>0) (b:=w.heap.size+1) (by simp)).alloc (.cells (arr (fun _=>0)) 328));have HF:=Ab (Arr.new ((w.alloc (.cells (arr c) 328)).alloc (.cells (arr (fun _=>0)) 328)) (fun _=>0) (b:=w.heap.size+1+1) (by simp));have HB:=Ab ((((Below.refl w.heap.size w).alloc (VC _) (.cells (arr c) 328)).alloc (by simp) (.cells (arr (fun _=>0)) 328)).alloc (by simp;omega) (.cells (arr (fun _=>0)) 328));go_loopw [4,5] (fun s i wr=>∃k:Nat,k<=15/\i=.int .i64 ((k:Int)+1)/\s=.int .i64 (JO c k:Nat)/\Arr wr w.heap.size c/\Arr wr (w.heap.size+1) (fun _=>0)/\Arr wr (w.heap.size+1+1) (C4 c k)/\Below w.heap.size w wr) (fun _ i _=>16-(intOf i).toNat)
 case atStart=>exact⟨0,by omega,rfl,rfl,Aa HA,Aa HR,by rw[DU];exact Aa HF,Aa HB⟩
 case round=>
  obtain⟨k,hk,rfl,rfl,hA,hR,hF,hB⟩:=hrel;have HA1:=Ab hA;have HR1:=Ab hR;have HF1:=Ab hF;have HB1:=Ab hB
  by_cases hlt:k<15
  . have c1:=hA.cell (j:=k+1) (by omega);have c2:=hF.cell (j:=k+1) (by omega);have f2:=hF.frozen (k+1);have c3:(wr.setCell ⟨w.heap.size+1+1,k+1,none⟩ (.int .i64 (Ay c (k+1):Nat))).cell? ⟨w.heap.size,k+1,none⟩=some (.int .i64 ((c (k+1):Nat):Int)):=(hA.other (by simp;omega) _).cell (by omega);have hs:=Rm c hc (k:=k) (by omega);have hcc:=hc (k+1);have hfn:=DY c k;have HN:Hid (JO c (k+1)=Ay c (k+1)+c (k+1)):=rfl;have HP:=Ab (DV c k);have hw:wrap64 ((JO c k:Int)*2)=((Ay c (k+1):Nat):Int):=by unfold wrap64;omega
    clear hA hR hF hB hc HA HR HF HB hfn;generalize JO c k=m at*;go_wp2;go_roundw
    case rel=>exact⟨k+1,by omega,by go_num,by rw[Aa HN];go_num,(Aa HA1).other (by simp;omega) _,(Aa HR1).other (by simp) _,by rw[<-Aa HP];exact(Aa HF1).set _ _,(Aa HB1).setCell (by simp;omega) _⟩
    case measure=>simp[intOf];omega
  . obtain rfl:k=15:=by omega
    have HX:=Ab ((Aa HF1).congr (LI c));go_wp2_with (first|(refine Pb rfl (.tmp 3) rfl _ (Ay c) rfl (Aa HX) ?_)|(refine Fk rfl (.tmp 2) (.tmp 20) rfl _ _ (Ay c) rfl rfl (Aa HR1) ?_))
    have HY:=Ab ((Aa HR1).setRow (Ay c));refine bodyPost_ret (v:=.agg (arr (Ay c))) ?_ rfl ⟨rfl,Bl (Aa HB1) (by omega) _⟩;exact results_cell_row rfl _ _ _ _ _ _ _ rfl (Aa HY) Tryz.underlying328 rfl (by rw[Fg];exact Pe)
theorem EL (a:Option Addr)(len cap:Nat)(w:World)(hm:288<len)(hM:len<=9223372036854775807):
 Calls Tryz.prog 254 #[.slice a len cap] w fun e w'=>e=.returned (.tuple #[.agg (arr fun _=>0),.int .i64 2])/\Below w.heap.size w w':=by
 go_enter Tryz.func254,Tryz.ntmps254
 have HR:=Ab (Arr.new w (fun _=>0) rfl);go_wp2_with (refine Fk rfl (.tmp 2) (.tmp 10) rfl _ _ (fun _=>0) rfl rfl (Aa HR) ?_)
 have HY:=Ab ((Aa HR).setRow (fun _=>0));exact bodyPost_ret (Fo rfl _ _ _ _ rfl (Aa HY)) rfl ⟨rfl,Bl ((Below.refl _ _).alloc (VC _) _) (VC _) _⟩
theorem MM (a:Option Addr)(len cap:Nat)(l:List Int)(w:World)(hl:l.length=len)(hm:len<=288)(hR:RowIn .i64 w a l)(j0:Nat)(hj0:j0<len)(hbad:Qt (l.getD j0 0)=false)(hf:∀j,j<j0->Qt (l.getD j 0)=true):
 Calls Tryz.prog 254 #[.slice a len cap] w fun e w'=>e=.returned (.tuple #[.agg (arr fun _=>0),.int .i64 3])/\Below w.heap.size w w':=by
 obtain⟨b,o,rfl,hb,hR⟩:∃b o,a=some ⟨b,o,none⟩/\b<w.heap.size/\Row .i64 w b o l:=by
  rcases hR with rfl|h
  . simp at hl;omega
  . exact h
 go_enter Tryz.func254,Tryz.ntmps254
 go_wp2;simp only[FK];have HR0:=Ab ((Arr.new w (fun _=>0) rfl).alloc (.cells (arr (fun _=>0)) 328));have HC0:=Ab (Arr.new (w.alloc (.cells (arr (fun _=>0)) 328)) (fun _=>0) (b:=w.heap.size+1) (by simp));have HB0:=Ab (((Below.refl w.heap.size w).alloc (VC _) (.cells (arr (fun _=>0)) 328)).alloc (by simp) (.cells (arr (fun _=>0)) 328));have HRow:=Ab hR;have HL:=Ab hl;clear hR;go_loopw [13] (fun i wr=>∃k:Nat,k<=j0/\i=.int .i64 k/\Arr wr w.heap.size (fun _=>0)/\Arr wr (w.heap.size+1) (cnt (l.take k))/\Below w.heap.size w wr) (fun i _=>len-(intOf i).toNat)
 case atStart=>exact⟨0,by omega,rfl,Aa HR0,Aa HC0,Aa HB0⟩
 case round=>
  obtain⟨k,hk,rfl,hA,hC,hB⟩:=hrel;have HA:=Ab hA;have HC:=Ab hC;have HB:=Ab hB;have hlk:k<l.length:=by omega
  have c1:=(hB.cell (p:=⟨b,o+k,none⟩) hb).trans (Aa HRow k hlk)
  by_cases hlt:k<j0
  . have hok:=hf k hlt;obtain⟨n,hn⟩:=VW (Dk hok).1;have hn15:=(Dk hok).2;have HX:=Ab hn;rw[hn]at c1 hn15;have hn16:n<16:=by omega
    have c2:=hC.cell hn16;have f2:=hC.frozen n;have hle:=Uy (l.take k) n;have hle2:(l.take k).length<=288:=by simp;omega
    clear hA hC hB hf hbad hok hn HR0 HC0 HB0;go_wp2;go_roundw
    case rel=>exact⟨k+1,by omega,by go_num,(Aa HA).other (by simp) _,by rw[<-Hv l hlk (Aa HX)];exact(Aa HC).set _ _,(Aa HB).setCell (by simp) _⟩
    case measure=>simp[intOf];omega
  . obtain rfl:k=j0:=by omega
    clear hA hC hB hf HR0 HC0 HB0;generalize l.getD k 0=x at*;have hno:=Kg hbad;have hg:x<0\/15<x:=by omega
    clear hno hbad
    rcases hg with hg|hg
    . go_wp2_with (refine Fk rfl (.tmp 2) (.tmp 23) rfl _ _ (fun _=>0) rfl rfl (Aa HA) ?_)
      have HY:=Ab ((Aa HA).setRow (fun _=>0));exact bodyPost_ret (Fo rfl _ _ _ _ rfl (Aa HY)) rfl ⟨rfl,Bl (Aa HB) (VC _) _⟩
    . have hg0:¬(x<0):=by omega
      go_wp2_with (refine Fk rfl (.tmp 2) (.tmp 23) rfl _ _ (fun _=>0) rfl rfl (Aa HA) ?_)
      have HY:=Ab ((Aa HA).setRow (fun _=>0));exact bodyPost_ret (Fo rfl _ _ _ _ rfl (Aa HY)) rfl ⟨rfl,Bl (Aa HB) (VC _) _⟩
theorem EO (a:Option Addr)(len cap:Nat)(l:List Int)(w:World)(hl:l.length=len)(hm:len<=288)(hR:RowIn .i64 w a l)(hf:∀j,j<len->Qt (l.getD j 0)=true):
 Calls Tryz.prog 254 #[.slice a len cap] w fun e w'=>e=.returned (.tuple #[.agg (arr (if 32768<takenN (cnt l) 15 then fun _=>0 else cnt l)),.int .i64 (if 32768<takenN (cnt l) 15 then 8 else 0)])/\Below w.heap.size w w':=by
 go_enter Tryz.func254,Tryz.ntmps254
 go_wp2;simp only[FK];have HR0:=Ab ((Arr.new w (fun _=>0) rfl).alloc (.cells (arr (fun _=>0)) 328));have HC0:=Ab (Arr.new (w.alloc (.cells (arr (fun _=>0)) 328)) (fun _=>0) (b:=w.heap.size+1) (by simp));have HB0:=Ab (((Below.refl w.heap.size w).alloc (VC _) (.cells (arr (fun _=>0)) 328)).alloc (by simp) (.cells (arr (fun _=>0)) 328));have HRow:=Ab hR;have HL:=Ab hl;clear hR;go_loopw [13] (fun i wr=>∃k:Nat,k<=len/\i=.int .i64 k/\Arr wr w.heap.size (fun _=>0)/\Arr wr (w.heap.size+1) (cnt (l.take k))/\Below w.heap.size w wr) (fun i _=>len-(intOf i).toNat)
 case atStart=>exact⟨0,by omega,rfl,Aa HR0,Aa HC0,Aa HB0⟩
 case round=>
  obtain⟨k,hk,rfl,hA,hC,hB⟩:=hrel;have HA:=Ab hA;have HC:=Ab hC;have HB:=Ab hB
  by_cases hlt:k<len
  . have hlk:k<l.length:=by omega
    obtain⟨b,o,rfl,hb,hR⟩:∃b o,a=some ⟨b,o,none⟩/\b<w.heap.size/\Row .i64 w b o l:=by
     rcases Aa HRow with rfl|h
     . simp at hlk
     . exact h
    have c1:=(hB.cell (p:=⟨b,o+k,none⟩) hb).trans (hR k hlk);have hok:=hf k hlt;obtain⟨n,hn⟩:=VW (Dk hok).1;have hn15:=(Dk hok).2;have HX:=Ab hn;rw[hn]at c1 hn15;have hn16:n<16:=by omega
    have c2:=hC.cell hn16;have f2:=hC.frozen n;have hle:=Uy (l.take k) n;have hle2:(l.take k).length<=288:=by simp;omega
    clear hA hC hB hf hok hn HR0 HC0 HB0 hR;go_wp2;go_roundw
    case rel=>exact⟨k+1,by omega,by go_num,(Aa HA).other (by simp) _,by rw[<-Hv l hlk (Aa HX)];exact(Aa HC).set _ _,(Aa HB).setCell (by simp) _⟩
    case measure=>simp[intOf];omega
  . obtain rfl:k=len:=by omega
    have hz:=hC.lt;have hall:l.take k=l:=VP (by omega);have HC1:=HC;rw[hall]at HC1;have hcl:∀n,cnt l n<=288:=fun n=>WC (Uy l n) (by omega)
    have HCL:=Ab hcl;clear hA hC hB hf HR0 HC0 HB0 HC hall hcl;go_wp2_with (refine Pb rfl (.tmp 4) rfl _ (cnt l) rfl (Aa HC1) ?_)
    refine(GN (cnt l) wr (Aa HCL)).mono ?_;rintro e w1 ⟨rfl,hB1⟩;have HA1:=Ab ((Aa HA).below hB1 (by omega));have HC2:=Ab ((Aa HC1).below hB1 (by omega));have HB1:=Ab ((Aa HB).trans (hB1.mono (Aa HB).size));clear hB1 HA HC1 HB
    by_cases ht:32768<takenN (cnt l) 15
    . go_wp2_with (refine Fk rfl (.tmp 2) (.tmp 33) rfl _ _ (fun _=>0) rfl rfl (Aa HA1) ?_)
      have HY:=Ab ((Aa HA1).setRow (fun _=>0));exact bodyPost_ret (Fo rfl _ _ _ _ rfl (Aa HY)) rfl ⟨by first|rfl|(rw[if_pos ht,if_pos ht];rfl),Bl (Aa HB1) (VC _) _⟩
    . go_wp2_with (first|(refine Pb rfl (.tmp 4) rfl _ (cnt l) rfl (Aa HC2) ?_)|(refine Fk rfl (.tmp 2) (.tmp 34) rfl _ _ (cnt l) rfl rfl (Aa HA1) ?_))
      have HY:=Ab ((Aa HA1).setRow (cnt l));exact bodyPost_ret (Fo rfl _ _ _ _ rfl (Aa HY)) rfl ⟨by first|rfl|(rw[if_neg ht,if_neg ht];rfl),Bl (Aa HB1) (VC _) _⟩
theorem MN (a:Option Addr)(len cap:Nat)(l:List Int)(w:World)(hl:l.length=len)(hM:len<=9223372036854775807)(hR:RowIn .i64 w a l):
 Calls Tryz.prog 254 #[.slice a len cap] w fun e w'=>e=.returned (.tuple #[.agg (arr (SE l)),.int .i64 (errL l)])/\Below w.heap.size w w':=by
 by_cases hm:288<len
 . have e:errL l=2:=by unfold errL;rw[if_pos (by omega)]
   have e2:SE l=fun _=>0:=by unfold SE;rw[e];rfl
   rw[e,e2];exact EL a len cap w hm hM
 . rcases Mc (fun j=>Qt (l.getD j 0)) len with hf|⟨j0,hj0,hbad,hf⟩
   . have hn:¬ ∃j,j<l.length/\Qt (l.getD j 0)=false:=by
      rintro ⟨j,hj,e⟩;have:=hf j (by omega)
      simp only[e]at this
      cases this
     have h:=EO a len cap l w hl (by omega) hR hf;have e:errL l=if 32768<takenN (cnt l) 15 then 8 else 0:=by unfold errL;rw[if_neg (by omega),if_neg hn]
     have e2:SE l=if 32768<takenN (cnt l) 15 then fun _=>0 else cnt l:=by
      unfold SE;rw[e]
      by_cases ht:32768<takenN (cnt l) 15
      . simp[ht]
      . simp[ht]
     rw[e,e2];exact h
   . have e:errL l=3:=by unfold errL;rw[if_neg (by omega),if_pos ⟨j0,by omega,hbad⟩]
     have e2:SE l=fun _=>0:=by unfold SE;rw[e];rfl
     rw[e,e2];exact MM a len cap l w hl (by omega) hR j0 hj0 hbad hf
theorem Z3k (l:List Int)(h:Good l)(k:Nat){n:Nat}(hn:n<=15):nxt l k n<=9437472:=by
 unfold nxt
 by_cases e:n=0
 . simp[e]
 . have h1:=Rm (cnt l) (fun n=>WC (Uy l n) h.len) (k:=n-1) (by omega);have h2:n-1+1=n:=by omega
   rw[h2]at h1;have h3:=Uy (l.take k) n;have h4:(l.take k).length<=288:=by have:=h.len;simp;omega
   simp[e];omega
set_option maxRecDepth 100000 in
theorem SC (a:Option Addr)(len cap:Nat)(l:List Int)(w:World)(hl:l.length=len)(hR:RowIn .i64 w a l)(hG:Good l):
 Calls Tryz.prog 235 #[.slice a len cap] w fun e w'=>∃g,e=.returned (.tuple #[.slice (some ⟨g,0,none⟩) len len,.int .i64 0])/\
  w'.ownsRow w.heap.size 3 1 (.slice (some ⟨g,0,none⟩) len len) len (i64s (Td l len))/\Below w.heap.size w w'/\w.heap.size<=g:=by
 obtain⟨i0,hi,hz0,hz1,hz2⟩:=info_parts Cc;have hlen:=hG.len;have HG:=Ab hG;have HE:=Ab (Iz hG);have HC:=Ab (MQ hG);have HCL:Hid (∀n,cnt l n<=288):=fun n=>WC (Uy l n) hG.len
 have HR:=Ab hR;have HL:=Ab hl;go_enter Tryz.func235,Tryz.ntmps235
 go_wp2_with fail
 refine(MN a len cap l w hl (by omega) hR).mono ?_;rintro e w1 ⟨rfl,hB1⟩;rw[Aa HC,Aa HE];have hz:=hB1.size;have HB:=Ab (hB1.alloc hz (.cells (arr (cnt l)) 328));have HA:=Ab (Arr.new w1 (cnt l) rfl);clear hB1 hR hG;go_wp2_with (first|(refine Ys rfl (.tmp 4) (.tmp 13) rfl w1 (fun _=>0) (cnt l) rfl rfl rfl ?_)|(refine Pb rfl (.tmp 4) rfl _ (cnt l) rfl (Aa HA) ?_))
 refine(Sz (cnt l) _ (Aa HCL)).mono ?_;rintro e w2 ⟨rfl,hB2⟩;have hz2':=hB2.size;simp only[World.size_alloc]at hz2';have HB2:=Ab (((Aa HB).trans (hB2.mono (by simp;omega))).alloc (by omega) (.cells (arr (Ay (cnt l))) 328));have HA2:=Ab (Arr.new w2 (Ay (cnt l)) rfl);clear hB2 HA HB;go_wp2_with (first|(refine Ys rfl (.tmp 6) (.tmp 19) rfl w2 (fun _=>0) (Ay (cnt l)) rfl rfl rfl ?_)|(at_make;refine wpList_make_full _ rfl _ _ 76 rfl w.heap.size 3 i0 (.int .i64 0) 1 Tryz.underlying76 hi hz0 hz1 _ _ _ _ len rfl rfl rfl rfl (by rw[hz2];omega) (by unfold maxLen;omega) (by simp;omega) ?_))
 intro w3 hown3 hgrow3
 have e0:(madeCells #[Value.int .i64 0] len).toList=i64s (Td l 0):=by
  rw[Td,Aa HL];exact Z2 len
 have e1:(w2.alloc (.cells (arr (Ay (cnt l))) 328)).heap.size=w2.heap.size+1:=by simp
 rw[e0]at hown3;have HO:=Ab hown3;have HB3:=Ab ((Aa HB2).grown hgrow3 (by omega) (fun j h=>by cases h));have HA3:Hid (Arr w3 w2.heap.size (Ay (cnt l))):=(hgrow3.block w2.heap.size (by omega) (by simp)).trans (Aa HA2);have hne:w2.heap.size+1≠w2.heap.size:=by omega
 have hgl:=(hown3.lt _ rfl).2;have hb6:w.heap.size<=w2.heap.size:=by omega
 have hgw:w.heap.size<=w2.heap.size+1:=by omega
 clear hown3 hgrow3 e0 e1 HA2 HB2;generalize w2.heap.size+1=g at*;generalize w2.heap.size=b6 at*;go_wp2;go_loopw [25] (fun i wr=>∃k:Nat,k<=len/\i=.int .i64 k/\wr.ownsRow w.heap.size 3 1 (.slice (some ⟨g,0,none⟩) len len) len (i64s (Td l k))/\Arr wr b6 (nxt l k)/\Below w.heap.size w wr) (fun i _=>len-(intOf i).toNat)
 case atStart=>exact⟨0,VK _,rfl,Aa HO,(Aa HA3).congr (fun n _=>(QI l n).symm),Aa HB3⟩
 case round=>
  obtain⟨k,hk,rfl,hO,hA,hB⟩:=hrel;have HO1:=Ab hO;have HA1:=Ab hA;have HB1:=Ab hB
  by_cases hlt:k<len
  . have hlk:k<l.length:=by omega
    obtain⟨b,o,rfl,hb,hR⟩:∃b o,a=some ⟨b,o,none⟩/\b<w.heap.size/\Row .i64 w b o l:=by
     rcases Aa HR with rfl|h
     . simp at hlk
     . exact h
    have c1:=(hB.cell (p:=⟨b,o+k,none⟩) hb).trans (hR k hlk);have hok:=(Aa HG).ok k hlk;obtain⟨n,hn⟩:=VW hok.1;have hn15:=hok.2;have HX:=Ab hn;rw[hn]at c1 hn15;have hn16:n<16:=by omega
    have c2:=hA.cell hn16;obtain⟨y,hy⟩:∃y,(Td l k).getD k 0=y:=⟨_,rfl⟩
    have cg:wr.cell? ⟨g,k,none⟩=some (.int .i64 ((y:Nat):Int)):=by
     rw[hO.cellAt k (by simp;omega),<-hy];simp[List.getD,Ed,hlk]
    clear hy;have fg:=hO.frozenAt k;have hxl:=Z3k l (Aa HG) k (n:=n) (by omega);have hcode:=Fy l hn
    by_cases hn0:0<n
    . have hst:=hO.stored k (.int .i64 ((nxt l k n:Nat):Int));have hAo:=hA.other (a:=⟨g,k,none⟩) (by simp;omega) (.int .i64 ((nxt l k n:Nat):Int));have c3:=hAo.cell hn16;have f3:=hAo.frozen n;have HST:=Ab hst;have HAO:=Ab hAo;have HB4:=Ab (hB.setCell (p:=⟨g,k,none⟩) (by simp;omega) (.int .i64 ((nxt l k n:Nat):Int)));have HCO:=Ab hcode;clear hO hA hB hR hok hn hst hAo HA3 HB3 HO hcode;generalize hxx:nxt l k n=x at*;have HXX:=Ab hxx;clear hxx;go_wp2;go_roundw
      case rel=>
       refine⟨k+1,by omega,by go_num, ?_, ?_, ?_⟩
       . have e:i64s (Td l (k+1))=(i64s (Td l k)).set k (.int .i64 ((x:Nat):Int)):=by
          rw[Td,Aa HCO,i64s,List.map_set]
         rw[e];exact(Aa HST).1.kept (Ad _ b6 n _) (.inr (by simp[Value.ownBlock];omega))
       . have e:=QJ l hlk (Aa HX) hn0;rw[Aa HXX]at e;rw[<-e];exact(Aa HAO).set n (x+1)
       . exact(Aa HB4).setCell (by simp;omega) _
      case measure=>simp[intOf];omega
    . obtain rfl:n=0:=by omega
      have hc0:codeN l k=0:=by rw[hcode];rfl
      have HK:=Ab (MO l k hc0);have HK2:=Ab (QK l hlk hn);clear hO hA hB hR hok hn HA3 HB3 HO hcode hc0;go_wp2;go_roundw
      case rel=>exact⟨k+1,by omega,by go_num,by rw[Aa HK];exact Aa HO1,by rw[<-Aa HK2];exact Aa HA1,Aa HB1⟩
      case measure=>simp[intOf];omega
  . obtain rfl:k=len:=by omega
    go_wp2;go_ret2;exact⟨g,rfl,Aa HO1,Aa HB1,by omega⟩
end Go.Proofs.YtleocpdblhbimaaGreatDoor
namespace Go.Proofs.YtleocpdblhbimaaGreatDoor
open Go.RowKit
set_option linter.unusedVariables false
set_option maxRecDepth 100000
structure CIs (Bx:Nat->Prop)(W:World)(gc gl gr rb:Nat)(a:Option Addr)(len cap:Nat)(l:List Int):Prop where
 ex:∃gk b o,a=some ⟨b,o,none⟩/\(b<W.heap.size/\Bx b)/\(gk<W.heap.size/\Bx gk)/\W.cell? ⟨gc,0,none⟩=some (.slice (some ⟨gk,0,none⟩) len len)/\Row .i64 W b o l/\∀j,j<len->W.cell? ⟨gk,j,none⟩=some (.int .i64 (codeN l j:Nat))
 bl:W.cell? ⟨gl,0,none⟩=some (.slice a len cap)
 br:W.cell? ⟨gr,0,none⟩=some (.pointer (some ⟨rb,0,none⟩))
 bx:(gc<W.heap.size/\Bx gc)/\(gl<W.heap.size/\Bx gl)/\(gr<W.heap.size/\Bx gr)
theorem CIs.keep {Bx:Nat->Prop}{W W':World}{gc gl gr rb:Nat}{a:Option Addr}{len cap:Nat}{l:List Int}(h:CIs Bx W gc gl gr rb a len cap l)(hs:W.heap.size<=W'.heap.size)(hk:∀g,g<W.heap.size->Bx g->W'.heap[g]? =W.heap[g]?):CIs Bx W' gc gl gr rb a len cap l:=by
 have hc:∀ {g j:Nat} {v:Value},g<W.heap.size/\Bx g->W.cell? ⟨g,j,none⟩=some v->W'.cell? ⟨g,j,none⟩=some v:=fun {g j v} hg hv=>by
  rw[World.cell?_of_block (w:=W) (a:=⟨g,j,none⟩) (hk g hg.1 hg.2)];exact hv
 have up:∀ {g:Nat},g<W.heap.size/\Bx g->g<W'.heap.size/\Bx g:=fun hg=>⟨VG hg.1 hs,hg.2⟩
 obtain⟨gk,b,o,h1,h2,h3,h4,h5,h6⟩:=h.ex;exact⟨⟨gk,b,o,h1,up h2,up h3,hc h.bx.1 h4,fun j hj=>hc h2 (h5 j hj),fun j hj=>hc h3 (h6 j hj)⟩,hc h.bx.2.1 h.bl,hc h.bx.2.2 h.br,up h.bx.1,up h.bx.2.1,up h.bx.2.2⟩
theorem CIs.more {Bx Bx':Nat->Prop}{W:World}{gc gl gr rb:Nat}{a:Option Addr}{len cap:Nat}{l:List Int}(h:CIs Bx W gc gl gr rb a len cap l)(hk:∀g,Bx g->Bx' g):CIs Bx' W gc gl gr rb a len cap l:=by
 obtain⟨gk,b,o,h1,h2,h3,h4,h5,h6⟩:=h.ex;exact⟨⟨gk,b,o,h1,⟨h2.1,hk _ h2.2⟩,⟨h3.1,hk _ h3.2⟩,h4,h5,h6⟩,h.bl,h.br,⟨h.bx.1.1,hk _ h.bx.1.2⟩,⟨h.bx.2.1.1,hk _ h.bx.2.1.2⟩,⟨h.bx.2.2.1,hk _ h.bx.2.2.2⟩⟩
abbrev CV (gc gl gr:Nat):Value:=.func (.func 236) #[] #[.pointer (some ⟨gc,0,none⟩),.pointer (some ⟨gl,0,none⟩),.pointer (some ⟨gr,0,none⟩)]
theorem Wz (Bx No:Nat->Prop)(B gc gl gr rb:Nat)(a:Option Addr)(len cap:Nat)(l:List Int)(q:Nat)(S:List Bool)(W:World)(hC:CIs Bx W gc gl gr rb a len cap l)(hl:l.length=len)(hG:Good l)(hq:q<len)(hpos:0<l.getD q 0)(h:RIs No B W rb S)(hS:S.length<=300000)(hNo:∀g,W.heap.size<=g->¬No g):
 Calls Tryz.prog 236 #[.int .i64 (q:Int),.pointer (some ⟨gc,0,none⟩),.pointer (some ⟨gl,0,none⟩),.pointer (some ⟨gr,0,none⟩)] W fun e w'=>e=.returned (.tuple #[])/\Rp No B W rb (S++codeT l q) w':=by
 obtain⟨gk,b,o,rfl,hb,hgk,c1,hrow,hcod⟩:=hC.ex;have c2:=hC.bl;have c3:=hC.br;have hlen:=hG.len;obtain⟨m,hm⟩:=VW (hG.ok q (by omega)).1;have hm15:=(hG.ok q (by omega)).2;have c4:=hrow q (by omega);have c5:=hcod q hq;rw[hm]at c4 hm15 hpos;have hlt:=(Gr l hG (by omega) hm (by omega)).2.2;have HT:Hid (S++codeT l q=S++Ah (Ic (codeN l q) m) m):=Ab (by unfold codeT;rw[hm,WD,Zr]);have hp15:2^m<=2^15:=VU (by decide) (by omega);have hp15':(2:Nat)^15=32768:=by decide
 have hcl:codeN l q<32768:=by omega
 have hfit:DW (codeN l q:Nat) (m:Nat)=true:=decide_eq_true ⟨by omega,by omega,by omega,by rw[WD];exact_mod_cast hlt⟩;have HTN:=Ab (fun W=>OQ (codeN l q) m W hfit (by omega) (by omega));have htl:=Tr (codeN l q) (k:=m) (by omega);have HPT:=Ab (fun(k x:Nat) (hx:x<65536)=>Dd No B rb x m S (W.drewN k) (h.drewN k) hx (by omega) hS hNo);have HRD:=Ab (fun k=>h.drew k);rw[Aa HT];have hqI:(q:Int)<(len:Int):=by omega
 clear hC hrow hcod hlt hfit HT h hNo hG hm hp15 hp15';generalize codeN l q=cq at*;generalize Ic cq m=tq at*;go_enter Tryz.func236,Tryz.ntmps236
 go_wp2;go_quiet ((go_at_call 237;refine Calls.quiet_of_same (Aa HTN _)))
 go_wp2;go_region_with (go_at_call 147;refine(Aa HPT _ _ (by omega)).mono ?_;rintro e w2 ⟨rfl,hR⟩)
 all_goals try go_wp2
 all_goals go_end0
 all_goals trace_state
 all_goals exact⟨rfl,(Aa HRD _).trans hR⟩
end Go.Proofs.YtleocpdblhbimaaGreatDoor
