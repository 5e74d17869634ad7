import Derived.Test.YtieianhejdcgdaaGreatDoorQ2
import Derived.Deep.WholeRow
import Derived.Laws.ResultCell
import Derived.Maps.Own
import Derived.Maps.OwnSet
import Derived.WideKeyPair
import Derived.Deep.DeepCutAuto
set_option maxHeartbeats 1000000
namespace Go.Proofs.YtieianhejdcgdaaGreatDoor
open Go.RowKit
set_option linter.unusedVariables false
def Arr (w:World)(b:Nat)(c:Nat->Nat):Prop:=w.heap[b]? =some (.cells (arr c) 332 (0,0))
theorem PR {c d:Nat->Nat}(h:∀n,n<16->c n=d n):arr c=arr d:=by
 unfold arr
 congr 1
 apply YI
 intro n hn;rw[h n (by simpa using hn)]
theorem Arr.congr {w:World}{b:Nat}{c d:Nat->Nat}(h:Arr w b c)(e:∀n,n<16->c n=d n):Arr w b d:=by
 unfold Arr;rw[<-PR e];exact h
theorem Arr.lt {w:World}{b:Nat}{c:Nat->Nat}(h:Arr w b c):b<w.heap.size:=by
 by_cases e:b<w.heap.size
 . exact e
 . have:w.heap[b]? =none:=by simp;omega
   rw[Arr,this]at h;cases h
theorem Arr.cell {w:World}{b:Nat}{c:Nat->Nat}(h:Arr w b c){j:Nat}(hj:j<16):w.cell? ⟨b,j,none⟩=some (.int .i64 ((c j:Nat):Int)):=by
 rw[cell_of_row w b j _ _ _ h];exact PS c hj
theorem Arr.frozen {w:World}{b:Nat}{c:Nat->Nat}(h:Arr w b c)(j:Nat):w.frozen? ⟨b,j,none⟩=false:=frozen_of_row w b j _ _ h
theorem Arr.new (w:World)(c:Nat->Nat){b:Nat}(hb:b=w.heap.size):Arr (w.alloc (.cells (arr c) 332)) b c:=by rw[hb];exact heap_alloc_new w _
theorem Arr.alloc {w:World}{b:Nat}{c:Nat->Nat}(h:Arr w b c)(o:Obj):Arr (w.alloc o) b c:=
 (Below.heap_alloc w o b h.lt).trans h
theorem Arr.below {w w':World}{B b:Nat}{c:Nat->Nat}(h:Arr w b c)(hB:Below B w w')(hb:b<B):Arr w' b c:=by
 unfold Arr;rw[hB.block b hb];exact h
theorem Arr.set {w:World}{b:Nat}{c:Nat->Nat}(h:Arr w b c)(j x:Nat):Arr (w.setCell ⟨b,j,none⟩ (.int .i64 ((x:Nat):Int))) b (upd c j x):=by
 unfold Arr;rw[heap_setCell_same w b j _ _ _ h,Z4f]
theorem Arr.other {w:World}{b:Nat}{c:Nat->Nat}(h:Arr w b c){a:Addr}(hb:b≠a.block)(v:Value):Arr (w.setCell a v) b c:=by
 unfold Arr;rw[heap_setCell_other w a b v hb];exact h
theorem Arr.setRow {w:World}{b:Nat}{c:Nat->Nat}(h:Arr w b c)(d:Nat->Nat):Arr (w.setRow b (arr d)) b d:=setRow_heap w b _ _ _ _ h
theorem Av {B:Nat}{a w:World}(h:Below B a w){g:Nat}(hg:B<=g)(cs:Array Value):Below B a (w.setRow g cs):=
 ⟨h.os,h.tape,h.output,by simp;exact h.size,fun k hk=>(Go.setRow_other w g k cs (by omega)).trans (h.block k hk)⟩
theorem GZ:(#[.int .i64 0,.int .i64 0,.int .i64 0,.int .i64 0,.int .i64 0,.int .i64 0,.int .i64 0,.int .i64 0,.int .i64 0,.int .i64 0,.int .i64 0,.int .i64 0,.int .i64 0,.int .i64 0,.int .i64 0,.int .i64 0]:Array Value)=arr (fun _=>0):=rfl
theorem Pe:(Tryz.prog.info? 332).map (·.size)=some 16:=by kernel_rfl
theorem Pb {ops:Array Oper}{rest:List Oper}{o:Oper}{a:Act}{w:World}{Q:Exit->Act->World->Prop}(hgd:o.guard=none)(x:Operand)(ho:o.op=.load 332 x)
 (b:Nat) (c:Nat->Nat) (hx:a.eval x=.pointer (some ⟨b,0,none⟩)) (h:Arr w b c) (k:wpList Tryz.prog ops Q rest (a.put o.dst (.agg (arr c))) w):wpList Tryz.prog ops Q (o::rest) a w:=
 wpList_load_row hgd 332 x ho b hx _ _ _ _ h Tryz.underlying332 rfl (by rw[Fi];exact Pe) k
theorem Ft {ops:Array Oper}{rest:List Oper}{o:Oper}{a:Act}{w:World}{Q:Exit->Act->World->Prop}(hgd:o.guard=none)(x y:Operand)(ho:o.op=.store 332 x y)
 (b:Nat) (c d:Nat->Nat) (hx:a.eval x=.pointer (some ⟨b,0,none⟩)) (hy:a.eval y=.agg (arr d)) (h:Arr w b c) (k:wpList Tryz.prog ops Q rest (a.put o.dst undef) (w.setRow b (arr d))):wpList Tryz.prog ops Q (o::rest) a w:=
 wpList_store_row hgd 332 x y ho b _ hx hy _ _ h (by rw[Fi];exact Pe) (by rw[Fi,Fi]) (Z4g d) k
theorem Qg {ops:Array Oper}{rest:List Oper}{o:Oper}{a:Act}{W:World}{Q:Exit->Act->World->Prop}(hgd:o.guard=none)(x y:Operand)(ho:o.op=.store 332 x y)
 (w:World) (c d:Nat->Nat) (hW:W=w.alloc (.cells (arr c) 332)) (hx:a.eval x=.pointer (some ⟨w.heap.size,0,none⟩)) (hy:a.eval y=.agg (arr d)) (k:wpList Tryz.prog ops Q rest (a.put o.dst undef) (w.alloc (.cells (arr d) 332))):wpList Tryz.prog ops Q (o::rest) a W:=by
 subst hW;exact Ft hgd x y ho _ c d hx hy (Arr.new w c rfl) (by rw[World.setRow_alloc_new];exact k)
theorem S9 {w:World}{b:Nat}{c:Nat->Nat}(h:Arr w b c):(loadVar 332 ⟨b,0,none⟩).run Tryz.prog w=.ok (.agg (arr c)) w:=
 run_loadVar_row w b _ _ _ _ _ h Tryz.underlying332 rfl (by rw[Fi];exact Pe)
theorem Fz {fn:Func}{p u:Tmp}(h:fn.results= #[.cell p 332,.tmp u])(tmps:Array Value)(w:World)(b:Nat)(c:Nat->Nat)(hp:tmps.getD p undef=.pointer (some ⟨b,0,none⟩))(hA:Arr w b c):
 (results fn tmps).run Tryz.prog w=.ok (.tuple #[.agg (arr c),tmps.getD u undef]) w:=by
 rw[results_cell_tmp h,hp];simp[asAddr,Result.andThen,S9 hA]
theorem JJ (c:Nat->Nat)(w:World)(hc:∀n,c n<=288):
 Calls Tryz.prog 281 #[.agg (arr c)] w fun e w'=>e=.returned (.int .i64 (takenN c 15:Nat))/\Below w.heap.size w w':=by
 go_enter Tryz.func281,Tryz.ntmps281
 go_wp2;have hA:=Ab (Arr.new w c rfl);have hB:=Ab ((Below.refl w.heap.size w).alloc (VC _) (.cells (arr c) 332));go_loop [3,4] (fun s i=>∃k:Nat,k<=15/\i=.int .i64 ((k:Int)+1)/\s=.int .i64 (takenN c k:Nat)) (fun _ i=>16-(intOf i).toNat)
 case atStart=>exact⟨0,by omega,rfl,rfl⟩
 case round=>
  obtain⟨k,hk,rfl,rfl⟩:=hrel
  by_cases hlt:k<15
  . have c1:=(Aa hA).cell (j:=k+1) (by omega);have ht:=Zg c hc (k+1);have H:Hid (takenN c (k+1)=takenN c k+c (k+1)*2^(14-k)):=rfl
    have hw:wrap64 ((takenN c k:Int)+wrap64 ((c (k+1):Int)*2^(14-k)))=((takenN c (k+1):Nat):Int):=by
     rw[takenN]at ht ⊢;have e:((c (k+1):Int)*2^(14-k))=((c (k+1)*2^(14-k):Nat):Int):=by push_cast;rfl
     rw[e];generalize c (k+1)*2^(14-k)=x at*;have h3:(k+1)*(288*32768)<=15*(288*32768):=YQ _ (by omega);unfold wrap64;omega
    have HW:=Ab hw;clear ht hw;go_wp2;go_round
    case rel=>exact⟨k+1,by omega,by go_num,by rw[Aa HW]⟩
    case measure=>simp[intOf];omega
  . obtain rfl:k=15:=by omega
    go_wp2;go_ret;exact⟨rfl,Aa hB⟩
def F6 (c:Nat->Nat)(k:Nat):Nat->Nat:=fun n=>if 1<=n/\n<=k then Bb c n else 0
theorem FF (c:Nat->Nat):F6 c 0=fun _=>0:=by funext n;simp[F6];omega
theorem FG (c:Nat->Nat)(k:Nat):upd (F6 c k) (k+1) (Bb c (k+1))=F6 c (k+1):=by
 funext n
 simp only[upd,F6]
 by_cases e:n=k+1
 . subst e;simp
 . by_cases h:1<=n/\n<=k
   . have:1<=n/\n<=k+1:=by omega
     simp[e,h,this]
   . have:¬(1<=n/\n<=k+1):=by omega
     simp[e,h,this]
theorem NN (c:Nat->Nat)(n:Nat)(h:n<16):F6 c 15 n=Bb c n:=by
 simp only[F6]
 by_cases e:n=0
 . subst e;simp[Bb]
 . have:1<=n/\n<=15:=by omega
   simp[this]
theorem BT (c:Nat->Nat)(hc:∀n,c n<=288):∀n,Bb c (n+1)+576<=288*2^(n+1)
 |0=>by simp[Bb]
 |n+1=>by
  have h1:=BT c hc n;have h2:=hc (n+1);rw[Bb,XE];generalize 2^(n+1)=p at*;omega
def LL (c:Nat->Nat):Nat->Nat
 |0=>0
 |k+1=>Bb c (k+1)+c (k+1)
theorem FJ (c:Nat->Nat)(k:Nat):Bb c (k+1)=2*LL c k:=by cases k<;>rfl
theorem Ro (c:Nat->Nat)(hc:∀n,c n<=288){k:Nat}(hk:k<=14):Bb c (k+1)<=9437184:=by
 have h1:=BT c hc k;have h2:=VV (n:=2) (by decide) (show k+1<=15 by omega);have h3:288*2^(k+1)<=288*2^15:=Nat.mul_le_mul_left _ h2;omega
set_option maxRecDepth 100000 in
theorem Tf (c:Nat->Nat)(w:World)(hc:∀n,c n<=288):
 Calls Tryz.prog 263 #[.agg (arr c)] w fun e w'=>e=.returned (.agg (arr (Bb c)))/\Below w.heap.size w w':=by
 go_enter Tryz.func263,Tryz.ntmps263
 go_wp2;simp only[GZ];have HA:=Ab (((Arr.new w c rfl).alloc (.cells (arr (fun _=>0)) 332)).alloc (.cells (arr (fun _=>0)) 332));have HR:=Ab ((Arr.new (w.alloc (.cells (arr c) 332)) (fun _=>0) (b:=w.heap.size+1) (by simp)).alloc (.cells (arr (fun _=>0)) 332));have HF:=Ab (Arr.new ((w.alloc (.cells (arr c) 332)).alloc (.cells (arr (fun _=>0)) 332)) (fun _=>0) (b:=w.heap.size+1+1) (by simp));have HB:=Ab ((((Below.refl w.heap.size w).alloc (VC _) (.cells (arr c) 332)).alloc (by simp) (.cells (arr (fun _=>0)) 332)).alloc (by simp;omega) (.cells (arr (fun _=>0)) 332));go_loopw [4,5] (fun s i wr=>∃k:Nat,k<=15/\i=.int .i64 ((k:Int)+1)/\s=.int .i64 (LL c k:Nat)/\Arr wr w.heap.size c/\Arr wr (w.heap.size+1) (fun _=>0)/\Arr wr (w.heap.size+1+1) (F6 c k)/\Below w.heap.size w wr) (fun _ i _=>16-(intOf i).toNat)
 case atStart=>exact⟨0,by omega,rfl,rfl,Aa HA,Aa HR,by rw[FF];exact Aa HF,Aa HB⟩
 case round=>
  obtain⟨k,hk,rfl,rfl,hA,hR,hF,hB⟩:=hrel;have HA1:=Ab hA;have HR1:=Ab hR;have HF1:=Ab hF;have HB1:=Ab hB
  by_cases hlt:k<15
  . have c1:=hA.cell (j:=k+1) (by omega);have c2:=hF.cell (j:=k+1) (by omega);have f2:=hF.frozen (k+1);have c3:(wr.setCell ⟨w.heap.size+1+1,k+1,none⟩ (.int .i64 (Bb c (k+1):Nat))).cell? ⟨w.heap.size,k+1,none⟩=some (.int .i64 ((c (k+1):Nat):Int)):=(hA.other (by simp;omega) _).cell (by omega);have hs:=Ro c hc (k:=k) (by omega);have hcc:=hc (k+1);have hfn:=FJ c k;have HN:Hid (LL c (k+1)=Bb c (k+1)+c (k+1)):=rfl;have HP:=Ab (FG c k);have hw:wrap64 ((LL c k:Int)*2)=((Bb c (k+1):Nat):Int):=by unfold wrap64;omega
    clear hA hR hF hB hc HA HR HF HB hfn;generalize LL c k=m at*;go_wp2;go_roundw
    case rel=>exact⟨k+1,by omega,by go_num,by rw[Aa HN];go_num,(Aa HA1).other (by simp;omega) _,(Aa HR1).other (by simp) _,by rw[<-Aa HP];exact(Aa HF1).set _ _,(Aa HB1).setCell (by simp;omega) _⟩
    case measure=>simp[intOf];omega
  . obtain rfl:k=15:=by omega
    have HX:=Ab ((Aa HF1).congr (NN c));go_wp2_with (first|(refine Pb rfl (.tmp 3) rfl _ (Bb c) rfl (Aa HX) ?_)|(refine Ft rfl (.tmp 2) (.tmp 20) rfl _ _ (Bb c) rfl rfl (Aa HR1) ?_))
    have HY:=Ab ((Aa HR1).setRow (Bb c));refine bodyPost_ret (v:=.agg (arr (Bb c))) ?_ rfl ⟨rfl,Av (Aa HB1) (by omega) _⟩;exact results_cell_row rfl _ _ _ _ _ _ _ rfl (Aa HY) Tryz.underlying332 rfl (by rw[Fi];exact Pe)
end Go.Proofs.YtieianhejdcgdaaGreatDoor
namespace Go.Proofs.YtieianhejdcgdaaGreatDoor
open Go.RowKit Go.Maps Go.WideMaps Go.ChangeShapes
set_option linter.unusedVariables false
set_option maxRecDepth 100000
theorem Z78:ArrKey Tryz.prog 355 3 2:=⟨Tryz.underlying355,by kernel_rfl,by kernel_rfl,by kernel_rfl⟩
theorem Z6j:Keyed Tryz.prog 355:=Keyed.of_law Z78.law
theorem Z0k:∃m,Tryz.prog.types.size=m+1:=⟨Tryz.prog.types.size-1,by have:0<Tryz.prog.types.size:=of_decide_eq_true (by kernel_rfl);omega⟩
def kw (c:Nat×Nat):Value:=.agg #[.int .i64 (c.1:Int),.int .i64 (c.2:Int)]
def kwl (c:Nat×Nat):Lit:=.string (keyBytes [.int .i64 (c.1:Int),.int .i64 (c.2:Int)])
def OkW (c:Nat×Nat):Prop:=c.1<65536/\c.2<65536
theorem Vo {x:Nat}(h:x<65536):(Lit.int .i64 (x:Int)).wf=true:=by
 simp[Lit.wf,IntKind.min,IntKind.max,IntKind.signed,IntKind.bits];omega
theorem Pc {c:Nat×Nat}(h:OkW c):keyOf Tryz.prog 355 (kw c)=some (kwl c):=by
 have A:=Z78;have hkt:=A.keyType Z0k;obtain⟨m,hm⟩:=Z0k;have he:Tryz.prog.underlying 3=some (.int .i64):=Tryz.underlying3;have w1:=Vo h.1;have w2:=Vo h.2;unfold keyOf kw kwl;simp only[A.hu];rw[if_pos (by simp[hkt,Value.formed,A.hu,A.size]),hm];unfold Program.keyLits;simp only[A.hu,Value.cells];rw[if_pos (by rw[A.size];rfl),show List.range 2= [0,1] from rfl,List.mapM_cons,List.mapM_cons,List.mapM_nil];simp[A.one,Program.keyLits,he,w1,w2]
theorem Z37 {c d:Nat×Nat}(hc:OkW c)(hd:OkW d)(h:kwl c=kwl d):c=d:=by
 have:=Z6j.inj (Pc hc) (by rw[h];exact Pc hd)
 obtain⟨c1,c2⟩:=c;obtain⟨d1,d2⟩:=d;simp[kw]at this
 simp only[YW];omega
def vH:List Bool->Nat
 | []=>0
 |b::r=>(if b then 2^r.length else 0)+vH r
theorem IF:∀s,vH s<2^s.length
 | []=>by simp[vH]
 |b::r=>by
  have:=IF r
  rw[vH,VH,XE]
  split<;>omega
theorem O2:∀(s:List Bool) (b:Bool),vH (s++ [b])=2*vH s+(if b then 1 else 0)
 | [],b=>by cases b<;>rfl
 |x::r,b=>by
  rw[XJ,vH,O2 r b,vH,VB];simp only[VH,VQ,WI,XE]
  cases x<;>simp<;>omega
theorem IG:∀ {s t:List Bool},s.length=t.length->vH s=vH t->s=t
 | [],[],_,_=>rfl
 | [],_::_,h,_=>by simp at h
 |_::_,[],h,_=>by simp at h
 |a::s,b::t,h,e=>by
  have hl:s.length=t.length:=by simpa using h
  have h1:=IF s;have h2:=IF t;rw[vH,vH,hl]at e;rw[hl]at h1
  cases a<;>cases b<;>simp at e
  . rw[IG hl e]
  . omega
  . omega
  . rw[IG hl e]
theorem Z4o:∀n c,c<2^n->vH (hb c n)=c
 |0,c,h=>by simp at h;subst h;rfl
 |n+1,c,h=>by
  rw[hb,O2,Z4o n (c/2) (by rw[XE]at h;omega)];have:=WZ c
  rcases this with e|e<;>simp[e]<;>omega
def kb (s:List Bool):Lit:=kwl (s.length,vH s)
theorem okb {s:List Bool}(h:s.length<=15):OkW (s.length,vH s):=by
 have h1:=IF s;have h2:2^s.length<=2^15:=VV (by decide) h;exact⟨by simp only;omega,by simp only;omega⟩
theorem Z13 {s t:List Bool}(hs:s.length<=15)(ht:t.length<=15)(h:kb s=kb t):s=t:=by
 have:=Z37 (okb hs) (okb ht) h
 exact IG (VU this).1 (VU this).2
theorem Z12 (s:List Bool):WideAt.IsKeyLit (kb s):=by
 first|trivial|exact⟨⟩|(unfold kb kwl WideAt.IsKeyLit;simp)
def decD (l:List Int):Nat->DataW Unit
 |0=>.map []
 |k+1=>if An l k= []then decD l k else (decD l k).put (kb (An l k)) (.lit (.int .i64 (k:Int)))
theorem Po (l:List Int):∀k,IsMap (decD l k)
 |0=>isMap_empty
 |k+1=>by
  rw[decD]
  split
  . exact Po l k
  . exact(Po l k).put _ _
theorem OH (l:List Int)(hc:∀k,(An l k).length<=15)(s:List Bool)(hs:s≠ [])(hl:s.length<=15):∀k,Maps.has (decD l k) (kb s)=decide (∃q,q<k/\An l q=s)
 |0=>by
  rw[decide_eq_false (by rintro ⟨q,h,_⟩;omega)];rfl
 |k+1=>by
  have ih:=OH l hc s hs hl k
  have e:(∃q,q<k+1/\An l q=s)↔((∃q,q<k/\An l q=s)\/An l k=s):=by
   constructor
   . rintro ⟨q,h1,h2⟩
     by_cases hq:q=k
     . subst hq;exact .inr h2
     . exact .inl ⟨q,by omega,h2⟩
   . rintro (⟨q,h1,h2⟩|h)
     . exact⟨q,by omega,h2⟩
     . exact⟨k,by omega,h⟩
  rw[decD]
  by_cases h0:An l k= []
  . rw[if_pos h0,ih,YK];simp only[decide_eq_true_eq,e]
    constructor
    . exact .inl
    . rintro (h|h)
      . exact h
      . rw[h0]at h;exact absurd h.symm hs
  . rw[if_neg h0]
    by_cases hk:An l k=s
    . rw[hk,has_put_same (Po l k) (Z12 s),decide_eq_true (e.2 (.inr hk))]
    . rw[has_put_other (fun h=>hk (Z13 (hc k) hl (by first|exact h|exact h.symm))),ih,YK];simp only[decide_eq_true_eq,e]
      constructor
      . exact .inl
      . rintro (h|h)
        . exact h
        . exact absurd h hk
theorem OI (l:List Int)(hc:∀k,(An l k).length<=15)(s:List Bool)(hs:s≠ [])(hl:s.length<=15)(hinj:∀q q',q<l.length->q'<l.length->An l q=s->An l q'=s->q=q')(z:DataW Unit):∀k,k<=l.length->∀q,q<k->An l q=s->(decD l k).atKey (kb s) z=.lit (.int .i64 (q:Int))
 |0,_,q,h,_=>by omega
 |k+1,hk,q,h,hq=>by
  rw[decD]
  by_cases h0:An l k= []
  . rw[if_pos h0];have:q≠k:=fun e=>by subst e;rw[h0]at hq;exact hs hq.symm
    exact OI l hc s hs hl hinj z k (by omega) q (by omega) hq
  . rw[if_neg h0]
    by_cases e:An l k=s
    . have:=hinj q k (by omega) (by omega) hq e
      subst this;rw[e,atKey_put_same (Po l _) (Z12 s)]
    . rw[atKey_put_other (fun h=>e (Z13 (hc k) hl (by first|exact h|exact h.symm)))];have:q≠k:=fun e2=>by subst e2;exact e hq
      exact OI l hc s hs hl hinj z k (by omega) q (by omega) hq
theorem Sd {l:List Int}(hG:Good l)(k:Nat):(An l k).length<=15:=by
 unfold An;rw[Bi]
 by_cases hk:k<l.length
 . have:=(hG.ok k hk).2;omega
 . rw[List.getD,WA (by omega)];exact(by decide:(0:Int).toNat<=15)
theorem OR {l:List Int}(hG:Good l){k n:Nat}(hk:k<l.length)(hn:l.getD k 0=(n:Int))(h0:0<n):kb (An l k)=kwl (n,codeN l k)/\An l k≠ []/\OkW (n,codeN l k):=by
 have hlt:=(Jc l hG hk hn h0).2.2;have h15:=(hG.ok k hk).2;rw[hn]at h15;have e:An l k=hb (codeN l k) n:=by unfold An;rw[hn];rfl
 have hp:2^n<=2^15:=VV (by decide) (by omega);have hp15:(2:Nat)^15=32768:=by decide
 refine⟨?_, ?_,⟨by simp only;omega,by simp only;omega⟩⟩
 . rw[e];unfold kb;rw[Bi,Z4o n _ hlt]
 . intro h;have:=congrArg List.length h
   rw[e,Bi]at this;simp at this
   omega
end Go.Proofs.YtieianhejdcgdaaGreatDoor
namespace Go.Proofs.YtieianhejdcgdaaGreatDoor
open Go.RowKit
set_option linter.unusedVariables false
set_option maxRecDepth 100000
abbrev Flt (x:Int):Ending:=.panicked [{v:=.iface 314 (.agg #[.int .i64 x]),recovered:=false}]
theorem Bw (x:Int)(w:World):Calls Tryz.prog 261 #[.int .i64 x] w fun e w'=>e=Flt x/\w'=w:=by
 go_enter Tryz.func261,Tryz.ntmps261
 go_wp2;exact⟨rfl,rfl,rfl⟩
def icells (R:Value)(f1 f2:Value)(u:US)(ov kv:Value):Array Value:= #[R,.int .i64 (u.p:Int),ov,kv,f1,f2]
structure IIs (No:Nat->Prop)(B:Nat)(w:World)(b:Nat)(R f1 f2:Value)(u:US):Prop where
 base:B<=b
 no:¬No b
 ex:∃ov kv,w.heap[b]? =some (.cells (icells R f1 f2 u ov kv) 288 (0,0))/\w.ownsRow (b+1) 5 1 ov u.out.length (u8s u.out)/\w.ownsRow (b+1) 3 1 kv u.ks.length (i64s u.ks)/\(ov.ownBlock=none\/ov.ownBlock≠kv.ownBlock)/\(∀g,ov.ownBlock=some g->¬No g)/\(∀g,kv.ownBlock=some g->¬No g)
structure IUp (No:Nat->Prop)(B:Nat)(w:World)(b:Nat)(R f1 f2:Value)(u:US)(w':World):Prop where
 is:IIs No B w' b R f1 f2 u
 below:Below B w w'
 kp:Kp No w w'
theorem IIs.lt {No:Nat->Prop}{B b:Nat}{w:World}{R f1 f2:Value}{u:US}(h:IIs No B w b R f1 f2 u):b<w.heap.size:=by
 obtain⟨ov,kv,h1,_⟩:=h.ex;exact(VG.1 h1).1
theorem IIs.cell {No:Nat->Prop}{B b:Nat}{w:World}{R f1 f2:Value}{u:US}(h:IIs No B w b R f1 f2 u):w.cell? ⟨b,0,none⟩=some R/\w.cell? ⟨b,1,none⟩=some (.int .i64 (u.p:Int))/\∀j,w.frozen? ⟨b,j,none⟩=false:=by
 obtain⟨ov,kv,h1,_⟩:=h.ex;exact⟨Ac h1,Ac h1,fun j=>frozen_of_row w b j _ _ h1⟩
theorem IUp.refl {No:Nat->Prop}{B b:Nat}{w:World}{R f1 f2:Value}{u:US}(h:IIs No B w b R f1 f2 u):IUp No B w b R f1 f2 u w:=⟨h,Below.refl _ _,Kp.refl _ _⟩
theorem IUp.trans {No:Nat->Prop}{B b:Nat}{w w1 w2:World}{R f1 f2 g1 g2:Value}{u v:US}(h:IUp No B w b R f1 f2 u w1)(k:IUp No B w1 b R g1 g2 v w2):IUp No B w b R g1 g2 v w2:=⟨k.is,h.below.trans k.below,h.kp.trans k.kp h.below.size⟩
theorem IIs.grown {No:Nat->Prop}{B b:Nat}{w w':World}{R f1 f2:Value}{u:US}(h:IIs No B w b R f1 f2 u)(hg:w.grownBy w' none):IIs No B w' b R f1 f2 u:=by
 obtain⟨ov,kv,h1,h2,h3,h4⟩:=h.ex;exact⟨h.base,h.no,ov,kv,(hg.block b h.lt (by simp)).trans h1,Lg h2 hg,Lg h3 hg,h4⟩
theorem IUp.drewN {No:Nat->Prop}{B b:Nat}{w w':World}{R f1 f2:Value}{u:US}(h:IUp No B w b R f1 f2 u w')(q:Nat):IUp No B w b R f1 f2 u (w'.drewN q):=
 ⟨h.is.grown ⟨rfl,rfl,rfl,VC _,fun _ _ _=>rfl⟩,Af h.below q,h.kp⟩
theorem IIs.set {No:Nat->Prop}{B b:Nat}{w:World}{R f1 f2 g1 g2:Value}{u:US}(h:IIs No B w b R f1 f2 u)(i:Nat)(v:Value)(u':US)(ho:u'.out=u.out)(hk:u'.ks=u.ks)(hc:∀ov kv,(icells R f1 f2 u ov kv).setIfInBounds i v=icells R g1 g2 u' ov kv):IUp No B w b R g1 g2 u' (w.setCell ⟨b,i,none⟩ v):=by
 obtain⟨ov,kv,h1,h2,h3,h4,h5,h6⟩:=h.ex;have hg:=Ad w b i v
 have hne:∀ {e size n:Nat} {x:Value} {xs:List Value},w.ownsRow (b+1) e size x n xs->x.ownBlock=none\/x.ownBlock≠some b:=fun {e size n x xs} ho=>by
  cases hx:x.ownBlock with
  |none=>exact .inl rfl
  |some g=>
   refine .inr (fun e=> ?_);have:=(ho.lt g hx).1
   cases e
   omega
 refine⟨⟨h.base,h.no,ov,kv, ?_,by rw[ho];exact h2.kept hg (hne h2),by rw[hk];exact h3.kept hg (hne h3),h4,h5,h6⟩, ?_, ?_⟩
 . rw[heap_setCell_same w b i _ _ _ h1,hc]
 . exact(Below.refl B w).grown hg (VX h.base (YU h.lt)) (fun g e=>by cases e;exact h.base)
 . exact(Kp.refl No w).grown hg (VC _) (fun g e=>by cases e;exact h.no)
theorem IIs.setP {No:Nat->Prop}{B b:Nat}{w:World}{R f1 f2:Value}{u:US}(h:IIs No B w b R f1 f2 u)(q:Nat):IUp No B w b R f1 f2 {u with p:=q} (w.setCell ⟨b,1,none⟩ (.int .i64 (q:Int))):=h.set 1 _ _ rfl rfl (fun _ _=>rfl)
structure Bl (No:Nat->Prop)(B:Nat)(w w':World):Prop where
 below:Below B w w'
 kp:Kp No w w'
theorem Bl.refl (No:Nat->Prop)(B:Nat)(w:World):Bl No B w w:=⟨Below.refl _ _,Kp.refl _ _⟩
theorem Bl.trans {No:Nat->Prop}{B:Nat}{w w1 w2:World}(h:Bl No B w w1)(k:Bl No B w1 w2):Bl No B w w2:=⟨h.below.trans k.below,h.kp.trans k.kp h.below.size⟩
theorem Bl.drewN {No:Nat->Prop}{B:Nat}{w w1:World}(h:Bl No B w w1)(q:Nat):Bl No B w (w1.drewN q):=⟨Af h.below q,h.kp⟩
theorem Bl.weaken {No No':Nat->Prop}{B:Nat}{w w1:World}(h:Bl No' B w w1)(hn:∀g,No g->No' g):Bl No B w w1:=⟨h.below,h.kp.weaken hn⟩
theorem IUp.bl {No:Nat->Prop}{B b:Nat}{w w':World}{R f1 f2:Value}{u:US}(h:IUp No B w b R f1 f2 u w'):Bl No B w w':=⟨h.below,h.kp⟩
def Got (No:Nat->Prop)(B:Nat)(w:World)(b:Nat)(R f1 f2:Value)(v:Value)(u:US)(e:Ending)(w':World):Prop:=
 (u.e=0/\e=.returned v/\IUp No B w b R f1 f2 u w')\/ (u.e≠0/\e=Flt u.e/\Bl No B w w')
def Ml (b:Nat)(w w':World):Prop:=∀j,j≠1->w'.cell? ⟨b,j,none⟩=w.cell? ⟨b,j,none⟩
def GotK (No:Nat->Prop)(B:Nat)(w:World)(b:Nat)(R f1 f2:Value)(v:Value)(u:US)(e:Ending)(w':World):Prop:=
 (u.e=0/\e=.returned v/\IUp No B w b R f1 f2 u w'/\Ml b w w')\/ (u.e≠0/\e=Flt u.e/\Bl No B w w')
theorem GotK.got {No:Nat->Prop}{B b:Nat}{w w':World}{R f1 f2 v:Value}{u:US}{e:Ending}(h:GotK No B w b R f1 f2 v u e w'):Got No B w b R f1 f2 v u e w':=by
 rcases h with ⟨h1,h2,h3,_⟩|h
 . exact .inl ⟨h1,h2,h3⟩
 . exact .inr h
theorem MZ (x r:Nat)(hx:x<256):bits .and .i64 (wrap64 ((x:Int)/2^r)) 1=((x/2^r%2:Nat):Int):=by
 have e:((x:Int)/2^r)=((x/2^r:Nat):Int):=by push_cast;rfl
 have h:x/2^r<=x:=Nat.div_le_self _ _
 have h1:wrap64 ((x:Int)/2^r)=((x/2^r:Nat):Int):=by
  rw[e];generalize x/2^r=y at*;unfold wrap64;omega
 rw[h1];have h2:=U2 (x/2^r) 0 (by omega);simpa using h2
theorem Z47 (bs:List Nat)(p:Nat):bs.getD (p/8) 0/2^(p%8)%2=if Jy bs p then 1 else 0:=by
 unfold Jy;exact PM _ _
structure Rd (w:World)(No:Nat->Prop)(a:Option Addr)(n:Nat)(bs:List Nat):Prop where
 len:bs.length=n
 few:n<=6000
 byt:BytesIn w a bs
 val:∀j,bs.getD j 0<256
 no:∀b o,a=some ⟨b,o,none⟩->bs≠ []->No b
theorem Rd.keep {w w':World}{No:Nat->Prop}{a:Option Addr}{n:Nat}{bs:List Nat}(h:Rd w No a n bs)(hs:w.heap.size<=w'.heap.size)(hk:Kp No w w'):Rd w' No a n bs:=by
 refine⟨h.len,h.few, ?_,h.val,h.no⟩
 by_cases e:bs= []
 . exact .inl e
 . rcases h.byt with h1|⟨b,o,e1,hb,hB⟩
   . exact absurd h1 e
   . exact .inr ⟨b,o,e1,by omega,fun j hj=>(World.cell?_of_block (w:=w) (a:=⟨b,_,none⟩) (hk b hb (h.no b o e1 e))).trans (hB j hj)⟩
theorem AB (No:Nat->Prop)(B b:Nat)(a:Option Addr)(n cap:Nat)(bs:List Nat)(f1 f2:Value)(u:US)(w:World)(h:IIs No B w b (.slice a n cap) f1 f2 u)(hR:Rd w No a n bs)(hp:u.p<=8*n)(he:u.e=0):
 Calls Tryz.prog 256 #[.pointer (some ⟨b,0,none⟩)] w fun e w'=>GotK No B w b (.slice a n cap) f1 f2 (.int .i64 (if Jy bs u.p then 1 else 0)) (if u.p=8*n then {u with e:=7}else {u with p:=u.p+1}) e w':=by
 obtain⟨c0,c1,fr⟩:=h.cell;have fr1:=fr 1;have hfew:=hR.few;have H:=Ab h;have HR:=Ab hR;clear h hR fr;obtain⟨p,hpp⟩:∃p,u.p=p:=⟨_,rfl⟩
 rw[hpp]at c1 hp ⊢;have HPP:=Ab hpp;have HE:=Ab he;clear hpp he;obtain⟨vb,hvb⟩:∃vb:Int,(if Jy bs p then (1:Int)else 0)=vb:=⟨_,rfl⟩
 rw[hvb];have HVB:=Ab hvb;clear hvb
 by_cases h0:p=8*n
 . have hb:((p:Int)==8*(n:Int))=true:=by rw[beq_iff_eq];omega
   rw[if_pos h0];obtain⟨u7,hu7⟩:∃u7:US,({p:=p,out:=u.out,ks:=u.ks,e:=7}:US)=u7:=⟨_,rfl⟩
   rw[hu7];have HU:=Ab hu7;clear h0 hu7;go_enter Tryz.func256,Tryz.ntmps256
   go_wp2;go_quiet (fail)
   go_wp2_with fail
   refine(Bw 7 _).mono ?_;rintro e w2 ⟨rfl,rfl⟩;go_wp2;refine⟨rfl,.inr ⟨by rw[<-Aa HU];exact(by decide:(7:Int)≠0),by rw[<-Aa HU],(Bl.refl _ _ _).drewN _⟩⟩
 . have hb:((p:Int)==8*(n:Int))=false:=by rw[beq_eq_false_iff_ne];omega
   rw[if_neg h0];obtain⟨u7,hu7⟩:∃u7:US,({p:=p+1,out:=u.out,ks:=u.ks,e:=u.e}:US)=u7:=⟨_,rfl⟩
   rw[hu7];have HU:=Ab hu7;clear hu7;obtain⟨b2,o2,rfl,hb2,hBy⟩:=Ca (Aa HR).byt (by rw[(Aa HR).len];omega);have hj:p/8<bs.length:=by rw[(Aa HR).len];omega
   have c3:=hBy _ hj;have hx1:=(Aa HR).val (p/8);have hj2:(p:Int)/8<(n:Int):=by omega
   have HBN:=Ab (Z47 bs p);clear hBy hj;generalize bs.getD (p/8) 0=x at*;go_enter Tryz.func256,Tryz.ntmps256
   go_wp2;go_quiet (fail)
   go_wp2;go_quiet (fail)
   go_wp2;go_ret;refine .inl ⟨by rw[<-Aa HU];exact Aa HE,Fb ?_, ?_, ?_⟩
   . rw[<-Aa HVB];refine(MZ x (p%8) hx1).trans ?_;rw[Aa HBN]
     split<;>rfl
   . rw[<-Aa HU]
     have key:∀q:Nat,IUp No B w b (.slice (some ⟨b2,o2,none⟩) n cap) f1 f2 {p:=p+1,out:=u.out,ks:=u.ks,e:=u.e} ((w.drewN q).setCell ⟨b,1,none⟩ (.int .i64 ((p:Int)+1))):=fun q=>by
      have hs:=((Aa H).grown (w':=w.drewN q) ⟨rfl,rfl,rfl,VC _,fun _ _ _=>rfl⟩).setP (p+1);rw[show ((p+1:Nat):Int)=(p:Int)+1 by omega]at hs;exact((IUp.refl (Aa H)).drewN q).trans hs
     exact key _
   . intro j hj;exact World.cell?_setCell_other _ _ _ _ (by intro e;exact hj (by cases e;rfl))
theorem EC (row:List Bool)(p i:Nat)(h:p+i<row.length):Dh ((row.drop p).take (i+1))=Dh ((row.drop p).take i)+2^i*(if row.getD (p+i) false then 1 else 0):=by
 have hl:((row.drop p).take i).length=i:=by rw[VL,VO];omega
 have e:(row.drop p).take (i+1)=(row.drop p).take i++ [row.getD (p+i) false]:=by
  rw[XH,XP];simp[List.getD,h]
 rw[e,Nr,hl]
 cases row.getD (p+i) false<;>simp[Dh]
theorem Z2q (m i x:Nat)(hm:m<2^i)(hi:i<=16)(hx:x<2):bits .or .i64 (m:Int) ((x:Int)*2^i)=((m+2^i*x:Nat):Int):=by
 have hp:2^i<=2^16:=VV (by decide) hi;have e:((x:Int)*2^i)=((2^i*x:Nat):Int):=by push_cast;rw[Int.mul_comm]
 have h2:2^i*x<=2^i*1:=Nat.mul_le_mul_left _ (by omega);have h3:(2:Nat)^16=65536:=by decide
 rw[e,Mz _ _ (by omega) (by omega)];have:=YL (i:=i) (b:=m) hm x
 rw[Nat.or_comm,<-this,Nat.add_comm]
theorem Qv (No:Nat->Prop)(B b:Nat)(a:Option Addr)(n cap size:Nat)(bs:List Nat)(f1 f2:Value)(u:US)(w:World)(h:IIs No B w b (.slice a n cap) f1 f2 u)(hR:Rd w No a n bs)(hp:u.p<=8*n)(he:u.e=0)(hs:size<=16)(r:Nat)(v:US)(hr:Hid (uget (rowB bs n) size u=(r,v))):
 Calls Tryz.prog 238 #[.pointer (some ⟨b,0,none⟩),.int .i64 (size:Int)] w fun e w'=>GotK No B w b (.slice a n cap) f1 f2 (.int .i64 (r:Int)) v e w':=by
 have hrl:=Ag bs n;have H:=Ab h;have HR:=Ab hR;have HE:=Ab he;have hfew:=hR.few;clear h hR he;obtain⟨p,hpp⟩:∃p,u.p=p:=⟨_,rfl⟩
 rw[hpp]at hp;have HPP:=Ab hpp
 have hUV:Hid ((8*n<p+size->v= {p:=p,out:=u.out,ks:=u.ks,e:=7})/\(p+size<=8*n->r=Dh (((rowB bs n).drop p).take size)/\v= {u with p:=p+size})):=by
  have:=Aa hr
  unfold uget at this;rw[if_pos (Aa HE),hrl,hpp]at this
  constructor
  . intro h1;rw[if_pos h1]at this;exact(VU this).2.symm
  . intro h1;rw[if_neg (by omega)]at this;exact⟨(VU this).1.symm,(VU this).2.symm⟩
 clear hpp hrl;go_enter Tryz.func238,Tryz.ntmps238
 go_wp2;go_loopw [5,8] (fun v5 v8 wr=>∃i m:Nat,i<=size/\p+i<=8*n/\v8=.int .i64 (i:Int)/\v5=.int .i64 (m:Int)/\Hid (m=Dh (((rowB bs n).drop p).take i))/\Hid (IUp No B w b (.slice a n cap) f1 f2 {u with p:=p+i} wr/\Ml b w wr)) (fun _ v8 _=>size-(intOf v8).toNat)
 case atStart=>exact⟨0,0,VM _,by omega,rfl,rfl,Ab (by simp[Dh]),Ab (by
  have:=IUp.refl (Aa H)
  rw[<-Aa HPP];exact⟨this,fun _ _=>rfl⟩)⟩
 case round=>
  obtain⟨i,m,hi,hpi,rfl,rfl,hm,hI⟩:=hrel
  by_cases hlt:i<size
  . have hiI:(i:Int)<(size:Int):=by omega
    have hIs:=(Aa hI).1.is;have HB:=Ab (AB No B b a n cap bs f1 f2 {u with p:=p+i} wr hIs ((Aa HR).keep (Aa hI).1.below.size (Aa hI).1.kp) hpi (Aa HE))
    have hxx:∃x:Nat,(if Jy bs (p+i)then (1:Int)else 0)=(x:Int)/\x<2/\x=(if (rowB bs n).getD (p+i) false then 1 else 0):=by
     by_cases hq:p+i<8*n
     . rw[Fy bs n (p+i) hq]
       cases Jy bs (p+i)
       . exact⟨0,rfl,by decide,rfl⟩
       . exact⟨1,rfl,by decide,rfl⟩
     . have e1:(rowB bs n).getD (p+i) false=false:=by
        simp only[List.getD];rw[WA (by rw[Ag];omega)];rfl
       by_cases hb:Jy bs (p+i)=true
       . exfalso
         unfold Jy at hb
         have:bs.getD ((p+i)/8) 0=0:=by
          simp only[List.getD];rw[WA (by rw[(Aa HR).len];omega)];rfl
         rw[this]at hb;simp at hb
       . rw[if_neg hb,e1];exact⟨0,rfl,by decide,rfl⟩
    obtain⟨x,hx1,hx2,hx3⟩:=hxx;rw[hx1]at HB
    have hml:m<2^i:=by
     rw[Aa hm];refine VK (Lk _) (VV (by decide) ?_);rw[VL];exact ZE _ _
    have hor:=Z2q m i x hml (by omega) hx2
    have hw:wrap64 ((x:Int)*2^i)=(x:Int)*2^i:=by
     have hp16:2^i<=2^16:=VV (by decide) (by omega);have h16:(2:Nat)^16=65536:=by decide
     have e:((x:Int)*2^i)=((x*2^i:Nat):Int):=by push_cast;rfl
     have h2:x*2^i<=1*2^i:=YQ _ (by omega);rw[e];generalize x*2^i=y at*;unfold wrap64;omega
    have HOR:Hid (bits .or .i64 (m:Int) (wrap64 ((x:Int)*2^i))=((m+2^i*x:Nat):Int)):=Ab (by rw[hw];exact hor);clear hw hor;have HX3:=Ab hx3;have HML:=Ab hml;clear hIs hx1 hx3 hml;go_wp2_with fail
    refine(Aa HB).mono ?_;rintro e w2 hg
    rcases hg with ⟨e0,rfl,hU,hK⟩|⟨e0,rfl,hBl⟩
    . have hne:¬p+i=8*n:=fun hh=>by
       rw[if_pos hh]at e0;exact absurd e0 (show ¬(7:Int)=0 by decide)
      rw[if_neg hne]at hU;have HU:=Ab (And.intro ((Aa hI).1.trans hU) (fun j hj=>(hK j hj).trans ((Aa hI).2 j hj):Ml b w w2));have HM:Hid (m+2^i*x=Dh (((rowB bs n).drop p).take (i+1))):=Ab (by rw[EC _ _ _ (by rw[Ag];omega),<-Aa hm,<-Aa HX3]);have hp8:p+i<8*n:=by omega
      clear e0 hU hne hm hK;go_wp2;go_roundw
      case rel=>exact⟨i+1,m+2^i*x,by omega,by omega,by go_num,by rw[Aa HOR],HM,by rw[<-WJ];exact HU⟩
      case measure=>simp[intOf];omega
    . have hne:p+i=8*n:=by
       by_cases hh:p+i=8*n
       . exact hh
       . rw[if_neg hh]at e0;exact absurd (Aa HE) e0
      rw[if_pos hne];have HF:Hid (v= {p:=p,out:=u.out,ks:=u.ks,e:=7}):=Ab ((Aa hUV).1 (by omega));have HBl:=Ab ((Aa hI).1.bl.trans hBl);clear e0 hBl hne hm hI HB;go_wp2;refine⟨rfl,.inr ⟨by rw[Aa HF];exact(by decide:(7:Int)≠0),by rw[Aa HF],Aa HBl⟩⟩
  . obtain rfl:i=size:=by omega
    have HF:Hid (GotK No B w b (.slice a n cap) f1 f2 (.int .i64 (r:Int)) v (.returned (.int .i64 (m:Int))) wr):=by
     obtain⟨_,h2⟩:=Aa hUV;obtain⟨h3,h4⟩:=h2 hpi;refine .inl ⟨by rw[h4];exact Aa HE,by rw[h3,Aa hm],by rw[h4];exact(Aa hI).1,(Aa hI).2⟩
    clear hm hI;go_wp2;go_ret;exact Aa HF
theorem Dt (No:Nat->Prop)(B b:Nat)(a:Option Addr)(n cap size:Nat)(bs:List Nat)(f1 f2:Value)(u:US)(w:World)(h:IIs No B w b (.slice a n cap) f1 f2 u)(hR:Rd w No a n bs)(hp:u.p<=8*n)(he:u.e=0)(hs:size<=16)(r:Nat)(v:US)(hr:Hid (uget (rowB bs n) size u=(r,v))):
 Calls Tryz.prog 238 #[.pointer (some ⟨b,0,none⟩),.int .i64 (size:Int)] w fun e w'=>Got No B w b (.slice a n cap) f1 f2 (.int .i64 (r:Int)) v e w':=(Qv No B b a n cap size bs f1 f2 u w h hR hp he hs r v hr).mono (fun _ _ h=>h.got)
end Go.Proofs.YtieianhejdcgdaaGreatDoor
