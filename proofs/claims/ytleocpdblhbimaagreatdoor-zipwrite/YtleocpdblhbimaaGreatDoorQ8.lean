import Derived.Test.YtleocpdblhbimaaGreatDoorQ7
set_option linter.unusedSimpArgs false
namespace Go.Proofs.YtleocpdblhbimaaGreatDoor
open Go.RowKit
set_option linter.unusedVariables false
set_option maxRecDepth 100000
def rcellsL (xs:List Ev):List Value:=xs.flatMap Ev.rcells
theorem M0 (xs:List Ev):(rcellsL xs).length=xs.length*8:=by
 induction xs with
 |nil=>rfl
 |cons x r ih=>
  have:rcellsL (x::r)=x.rcells++rcellsL r:=rfl
  rw[this,VB,ih,VJ];show 8+_=_
  omega
theorem M1 (xs ys:List Ev):rcellsL (xs++ys)=rcellsL xs++rcellsL ys:=by simp[rcellsL]
theorem L9 (y:Ev):rcellsL [y]=y.rcells:=by simp[rcellsL]
theorem Uf:∀(xs:List Ev) (j:Nat) (x:Ev) (i:Nat),xs[j]? =some x->i<8->(rcellsL xs)[j*8+i]? =x.rcells[i]?
 | [],j,x,i,h,_=>by simp at h
 |y::r,0,x,i,h,hi=>by
  have:rcellsL (y::r)=y.rcells++rcellsL r:=rfl
  simp at h
  subst h;rw[this,YI,WI,WL (show i<8 from hi)]
 |y::r,j+1,x,i,h,hi=>by
  have e:rcellsL (y::r)=y.rcells++rcellsL r:=rfl;have hl:y.rcells.length=8:=rfl;have ih:=Uf r j x i (by simpa using h) hi;rw[e,VS (by rw[hl];omega),hl,show (j+1)*8+i-8=j*8+i by omega,ih]
theorem L8 (y:Ev):∀u∈y.rcells,u.oneCell'=true:=by
 intro u hu;simp only[Ev.rcells,WE,XB,or_false]at hu
 rcases hu with rfl|rfl|rfl|rfl|rfl|rfl|rfl|rfl<;>rfl
def EvR (w:World)(x:Ev):Prop:=EvIn w x/\x.e.pk.length<=x.pc
theorem EvR.below {w w':World}{x:Ev}(h:EvR w x)(hB:Below w.heap.size w w'):EvR w' x:=⟨h.1.below hB,h.2⟩
structure RRow (w:World)(B:Nat)(v:Value)(xs:List Ev):Prop where
 own:w.ownsRow B 37 8 v xs.length (rcellsL xs)
 all:∀x∈xs,EvR w x
 apart:∀x∈xs,x.lies (fun g=>some g≠v.ownBlock)
theorem RRow.nil (w:World)(B:Nat):RRow w B (.slice none 0 0) []:=⟨World.ownsRow_nil _ _ _ _,(fun x hx=>absurd hx XB),(fun x hx=>absurd hx XB)⟩
theorem RRow.below {w w':World}{B:Nat}{v:Value}{xs:List Ev}(h:RRow w B v xs)(hB:Below w.heap.size w w'):RRow w' B v xs:=
 ⟨Dj h.own (fun g hg=>hB.block g (h.own.lt g hg).2),fun x hx=>(h.all x hx).below hB,h.apart⟩
theorem KG:(Tryz.prog.info? 37).map (fun i=>(i.zero,i.size,i.bytes))=some (some (.agg #[.string ⟨#[]⟩,.slice none 0 0,.int .i64 0,.int .i64 0,.bool false,.int .i64 0,.slice none 0 0,.int .u32 0]),8,104):=by kernel_rfl
theorem Kt (w:World){ops:Array Oper}{rest:List Oper}{o:Oper}{a:Act}{Q:Exit->Act->World->Prop}(hgd:o.guard=none)(s x:Operand)
 (ho:o.op=.call {callee:=.builtin .append,args:= #[s,x],argTypes:= #[31,31]}) (base:Nat) (v:Value) (xs:List Ev) (hs:a.eval s=v) (hown:RRow w base v xs)
 (g:Nat) (y:Ev) (hx:a.eval x=.slice (some ⟨g,0,none⟩) 1 1) (hc:∀j u,y.rcells[j]? =some u->w.cell? ⟨g,j,none⟩=some u) (hy:EvR w y) (hyb:y.lies (fun g=>some g≠v.ownBlock)) (hsz:xs.length+1<=100000) (hbase:base<=w.heap.size)
 (h:∀v' w',Hid (RRow w' base v' (xs++ [y]))->Hid (w.grownBy w' v.ownBlock)->wpList Tryz.prog ops Q rest (a.put o.dst v') w'):wpList Tryz.prog ops Q (o::rest) a w:=by
 obtain⟨i0,hi,hz0,hz1,hz2⟩:=info_parts KG;refine wpList_append_own_at w hgd s x 31 ho base 37 i0 _ 8 104 Tryz.underlying31 hi hz0 hz1 hz2 rfl (by decide) v xs.length (rcellsL xs) hs hown.own ⟨g,0,none⟩ 1 1 y.rcells hx rfl ?_ (L8 y) (by unfold maxLen;omega) (by omega) hbase ?_
 . intro j u hj;have e2:(⟨g,0,none⟩:Addr).add j=⟨g,j,none⟩:=by unfold Addr.add;split<;>simp_all
   rw[e2];exact hc j u hj
 . intro v' w' h1 h2 _ h4
   have hne:∀z∈xs++ [y],z.lies (fun g=>some g≠v.ownBlock):=by
    intro z hz
    rcases WJ.1 hz with hz|hz
    . exact hown.apart z hz
    . rw[WQ.1 hz];exact hyb
   have hin:∀z∈xs++ [y],EvR w z:=by
    intro z hz
    rcases WJ.1 hz with hz|hz
    . exact hown.all z hz
    . rw[WQ.1 hz];exact hy
   refine h v' w' (Ab ⟨?_,fun z hz=>⟨(hin z hz).1.grown h2 (hne z hz),(hin z hz).2⟩,fun z hz=> ?_⟩) (Ab h2)
   . rw[M1,L9,VB];exact h1
   . have hl:=(hin z hz).1.lt;have hn:=hne z hz
     rcases h4 with h4|h4
     . rw[h4];exact hn
     . rw[h4];exact hl.mono (fun g hg e=>by have:=VQ e;omega)
theorem RRow.entries {w:World}{B:Nat}{v:Value}{xs:List Ev}(h:RRow w B v xs):∃ad c,v=.slice ad xs.length c/\RsIn w ad xs:=by
 rcases h.own.2 with ⟨h1,h2⟩|⟨g,cap,cur,h1,h2,h3,h4,h5⟩
 . exact⟨none,0,by rw[h1,h2],.inl (WX h2),h.all⟩
 . refine⟨some ⟨g,0,none⟩,cap,h1,.inr ⟨g,0,rfl,(h.own.lt g (by rw[h1];rfl)).2,fun j x hj i hi=> ?_⟩,h.all⟩;have hown:=h.own;rw[h1]at hown;have hl:=M0 xs;have hj2:=(XO.1 hj).1;rw[WI,hown.cellAt _ (by omega)];exact Uf xs j x i hj hi
theorem Z3a (g o n cap i j:Nat)(hi:i<=j)(hj:j<=n)(hn:n<=cap)(hic:i<cap)(W:World):(Instr.slice 23 (.slice (some ⟨g,o,none⟩) n cap) (some (.int .i64 (i:Int))) (some (.int .i64 (j:Int))) none).run Tryz.prog W=.ok (.slice (some ⟨g,o+i,none⟩) (j-i) (cap-i)) W:=by
 have hs:=Tryz.sizeOf5;have ht:=Tryz.underlying23;have h1:(i:Int)<=(j:Int):=by omega
 have h2:(j:Int)<=(cap:Int):=by omega
 have h3:¬cap=i:=by omega
 simp[go_sem,ht,hs,h1,h2,h3]
theorem Gb (g o n cap i j:Nat)(I J:Int)(L:Nat)(hI:I=(i:Int))(hJ:J=(j:Int))(hi:i<=j)(hj:j<=n)(hn:n<=cap)(hic:i<cap)(hL:j-i=L)(W:World):(Instr.slice 23 (.slice (some ⟨g,o,none⟩) n cap) (some (.int .i64 I)) (some (.int .i64 J)) none).run Tryz.prog W=.ok (.slice (some ⟨g,o+i,none⟩) L (cap-i)) W:=by
 subst hI hJ hL;exact Z3a g o n cap i j hi hj hn hic W
theorem Rx {w:World}{g o:Nat}{bs:List Nat}(hg:g<w.heap.size)(hB:∀j,j<bs.length->w.cell? ⟨g,o+j,none⟩=some (.int .u8 ((bs.getD j 0:Nat):Int)))(i k:Nat):BytesIn w (some ⟨g,o+i,none⟩) ((bs.drop i).take k):=by
 refine .inr ⟨g,o+i,rfl,hg,fun j hj=> ?_⟩
 have hj2:j<k/\i+j<bs.length:=by
  rw[VM,VN]at hj;omega
 have e2:((bs.drop i).take k).getD j 0=bs.getD (i+j) 0:=by
  simp only[List.getD];rw[YE hj2.1,YF]
 rw[e2,WH];exact hB (i+j) hj2.2
theorem TB (g o n cap i:Nat)(I:Int)(L:Nat)(hI:I=(i:Int))(hi:i<=n)(hn:n<=cap)(hic:i<cap)(hL:n-i=L)(W:World):(Instr.slice 23 (.slice (some ⟨g,o,none⟩) n cap) (some (.int .i64 I)) none none).run Tryz.prog W=.ok (.slice (some ⟨g,o+i,none⟩) L (cap-i)) W:=by
 subst hI hL;have hs:=Tryz.sizeOf5;have ht:=Tryz.underlying23;have h1:(i:Int)<=(n:Int):=by omega
 have h3:¬cap=i:=by omega
 simp[go_sem,ht,hs,h1,h3]
theorem Cp {w:World}{g o:Nat}{bs:List Nat}(hg:g<w.heap.size)(hB:∀j,j<bs.length->w.cell? ⟨g,o+j,none⟩=some (.int .u8 ((bs.getD j 0:Nat):Int)))(hv:∀x∈bs,x<256)(i j L c:Nat)(hL:j-i=L)(hj:j<=bs.length)(h7:L<=7)(hij:i<=j):
 ∀W:World,Below w.heap.size w W->Calls Tryz.prog 38 #[.slice (some ⟨g,o+i,none⟩) L c] W fun e w'=>e=.returned (.int .i64 ((Ec bs i j:Nat):Int))/\w'=W:=by
 intro W hW;subst hL;have hb:=Rx hg hB i (j-i)
 have hb2:BytesIn W (some ⟨g,o+i,none⟩) ((bs.drop i).take (j-i)):=by
  rcases hb with h0|⟨b,o',e,h1,h2⟩
  . exact .inl h0
  . exact .inr ⟨b,o',e,VG h1 hW.size,fun k hk=>(hW.cell (p:=⟨b,_,none⟩) h1).trans (h2 k hk)⟩
 exact JK _ (j-i) c _ W (by rw[VM,VN];omega) h7 hb2 (fun x hx=>hv x (VY (VO hx)))
theorem Z5i (W:World)(X:Nat)(T:TypeId)(o0 o1 o2 o3 o4 o5 o6 o7 v0 v1 v2 v3 v4:Value)(h:W.heap[X]? =some (.cells #[o0,o1,o2,o3,o4,o5,o6,o7] T (0,0))):
 (W.setCells X 0 [v0,v1,v2,v3,v4]).heap[X]? =some (.cells #[v0,v1,v2,v3,v4,o5,o6,o7] T (0,0))/\W.grownBy (W.setCells X 0 [v0,v1,v2,v3,v4]) (some X):=by
 have h0:=heap_setCell_same W X 0 _ _ v0 h;have h1:=heap_setCell_same _ X 1 _ _ v1 h0;have h2:=heap_setCell_same _ X 2 _ _ v2 h1;have h3:=heap_setCell_same _ X 3 _ _ v3 h2;have h4:=heap_setCell_same _ X 4 _ _ v4 h3;exact⟨h4,Ak (Ak (Ak (Ak (Ad _ _ _ _) (Ad _ _ _ _)) (Ad _ _ _ _)) (Ad _ _ _ _)) (Ad _ _ _ _)⟩
theorem NH {W:World}{X:Nat}{T:TypeId}{o0 o1 o2 o3 o4 o5 o6 o7:Value}(h:W.heap[X]? =some (.cells #[o0,o1,o2,o3,o4,o5,o6,o7] T (0,0))):W.there X 0 5:=by
 intro j hj;refine⟨?_,frozen_of_row W X _ _ _ h⟩;rw[WI,Ac h]
 rcases(by omega:j=0\/j=1\/j=2\/j=3\/j=4)with rfl|rfl|rfl|rfl|rfl<;>rfl
theorem Xg {B:Nat}{a w:World}(h:Below B a w){g:Nat}(hg:B<=g)(cs:Array Value):Below B a (w.setRow g cs):=
 ⟨h.os,h.tape,h.output,by simp;exact h.size,fun k hk=>(Go.setRow_other w g k cs (by omega)).trans (h.block k hk)⟩
theorem Tb (bs:List Nat)(p m k:Nat)(h:k<=m):((bs.drop p).take m).drop k=(bs.drop (p+k)).take (m-k):=by
 rw[List.drop_take,YA]
end Go.Proofs.YtleocpdblhbimaaGreatDoor
