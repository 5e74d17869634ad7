import Derived.Maps.AppendAt
import Derived.Laws.AppendOwnNone
import Derived.Test.YtieianhejdcgdaaGreatDoorQ39
set_option linter.unusedSimpArgs false
set_option maxHeartbeats 4000000
namespace Go.Proofs.YtieianhejdcgdaaGreatDoor
open Go.RowKit
set_option linter.unusedVariables false
set_option maxRecDepth 100000
theorem TD:(Tryz.prog.info? 5).map (fun i=>(i.zero,i.size,i.bytes))=some (some (.int .u8 0),1,1):=by kernel_rfl
abbrev u8v (bs:List UInt8):List Value:=bs.map fun x:UInt8=>Value.int .u8 ((x.toNat:Nat):Int)
theorem BsIn.own {w:World}{base n:Nat}{v:Value}{bs:List UInt8}(h:w.ownsRow base 5 1 v n (u8v bs)):∃a c,v=.slice a bs.length c/\BsIn w a c bs/\∀b o,a=some ⟨b,o,none⟩->base<=b/\b<w.heap.size:=by
 have hn:bs.length=n:=by have:=h.1;simpa using this
 subst hn
 rcases h.2 with ⟨h1,h2⟩|⟨g,cap,cur,h1,h2,h3,h4,h5⟩
 . exact⟨none,0,by rw[h1,h2],.inl ⟨rfl,WP h2,rfl⟩,fun b o e=>by cases e⟩
 . subst h1;have hlt:=h.lt g rfl;refine⟨_,_,rfl,.inr (.inr ⟨g,0,rfl,hlt.2,h4, ?_⟩), ?_⟩
   . intro j hj;rw[WI,h.cellAt j (by omega)];simp[u8v,List.getD,hj]
   . intro b o e
     cases e
     exact hlt
theorem Oc (w:World){ops:Array Oper}{rest:List Oper}{o:Oper}{a:Act}{Q:Exit->Act->World->Prop}(hgd:o.guard=none)(s x:Operand)
 (ho:o.op=.call {callee:=.builtin .append,args:= #[s,x],argTypes:= #[23,23]}) (base:Nat) (v:Value) (n:Nat) (xs:List UInt8) (hs:a.eval s=v) (hown:w.ownsRow base 5 1 v n (u8v xs))
 (ad:Option Addr) (m c:Nat) (ys:List UInt8) (hx:a.eval x=.slice ad m c) (hm:ys.length=m) (hB:BsIn w ad c ys) (hsz:n+m<=140737488355328) (hbase:base<=w.heap.size)
 (h:∀v' w',Hid (w'.ownsRow base 5 1 v' (n+m) (u8v (xs++ys)))->Hid (w.grownBy w' v.ownBlock)->wpList Tryz.prog ops Q rest (a.put o.dst v') w'):wpList Tryz.prog ops Q (o::rest) a w:=by
 obtain⟨i0,hi,hz0,hz1,hz2⟩:=info_parts TD;have e:u8v (xs++ys)=u8v xs++u8v ys:=by rw[u8v,u8v,u8v,XO]
 rcases hB with ⟨rfl,rfl,rfl⟩|⟨rfl,ad,rfl⟩|⟨b,oo,rfl,h2,h3,h4⟩
 . have h0:m=0:=by simpa using hm.symm
   subst h0;refine wpList_append_own_none hgd s x 23 ho base 5 i0 1 Tryz.underlying23 hi v n (u8v xs) hs hown hx ?_;exact h v w (Ab (by simpa using hown)) (Ab ⟨rfl,rfl,rfl,VC _,fun _ _ _=>rfl⟩)
 . refine wpList_append_own_at w hgd s x 23 ho base 5 i0 (.int .u8 0) 1 1 Tryz.underlying23 hi hz0 hz1 hz2 rfl (by decide) v n (u8v xs) hs hown ad m c [] hx (by simpa using hm) (fun j u hj=>by simp at hj) (fun u hu=>by cases hu) (by unfold maxLen;omega) (by omega) hbase ?_;intro v' w' h1 h2 _ _;exact h v' w' (Ab (by simpa using h1)) (Ab h2)
 . refine wpList_append_own_at w hgd s x 23 ho base 5 i0 (.int .u8 0) 1 1 Tryz.underlying23 hi hz0 hz1 hz2 rfl (by decide) v n (u8v xs) hs hown ⟨b,oo,none⟩ m c (u8v ys) hx (by simp[u8v,hm]) ?_ (by intro u hu;obtain⟨x,_,rfl⟩:=WY.1 hu;rfl) (by unfold maxLen;omega) (by omega) hbase ?_
   . intro j u hj
     have hj2:j<ys.length:=by
      by_cases c:j<ys.length
      . exact c
      . rw[WA (by simp[u8v];omega)]at hj;cases hj
     have e2:(⟨b,oo,none⟩:Addr).add j=⟨b,oo+j,none⟩:=by unfold Addr.add;split<;>simp_all
     rw[e2,h4 j hj2];simp[u8v,hj2]at hj
     subst hj;simp[List.getD,hj2]
   . intro v' w' h1 h2 _ _;exact h v' w' (Ab (by rw[e];exact h1)) (Ab h2)
theorem Z76 (W:World)(g:Nat)(t:TypeId)(o0 o1 o2 o3 o4 v0 v1 v2 v3 v4:Value)(h:W.heap[g]? =some (.cells #[o0,o1,o2,o3,o4] t (0,0))):
 (((((W.setCell ⟨g,0,none⟩ v0).setCell ⟨g,1,none⟩ v1).setCell ⟨g,2,none⟩ v2).setCell ⟨g,3,none⟩ v3).setCell ⟨g,4,none⟩ v4).heap[g]? =some (.cells #[v0,v1,v2,v3,v4] t (0,0))/\W.grownBy (((((W.setCell ⟨g,0,none⟩ v0).setCell ⟨g,1,none⟩ v1).setCell ⟨g,2,none⟩ v2).setCell ⟨g,3,none⟩ v3).setCell ⟨g,4,none⟩ v4) (some g):=by
 have h0:=heap_setCell_same W g 0 _ _ v0 h;have h1:=heap_setCell_same _ g 1 _ _ v1 h0;have h2:=heap_setCell_same _ g 2 _ _ v2 h1;have h3:=heap_setCell_same _ g 3 _ _ v3 h2;have h4:=heap_setCell_same _ g 4 _ _ v4 h3;exact⟨h4,Aj (Aj (Aj (Aj (Ad _ _ _ _) (Ad _ _ _ _)) (Ad _ _ _ _)) (Ad _ _ _ _)) (Ad _ _ _ _)⟩
def fcells (xs:List Fv):List Value:=xs.flatMap Fv.cells
theorem Ux (xs ys:List Fv):fcells (xs++ys)=fcells xs++fcells ys:=by simp[fcells]
theorem Uw (y:Fv):fcells [y]=y.cells:=by simp[fcells]
theorem Lz:∀(xs:List Fv) (j:Nat) (x:Fv) (i:Nat),xs[j]? =some x->i<5->(fcells xs)[j*5+i]? =x.cells[i]?
 | [],j,x,i,h,_=>by simp at h
 |y::r,0,x,i,h,hi=>by
  have:fcells (y::r)=y.cells++fcells r:=rfl
  simp at h
  subst h;rw[this,ZI,WI,WE (show i<5 from hi)]
 |y::r,j+1,x,i,h,hi=>by
  have e:fcells (y::r)=y.cells++fcells r:=rfl;have hl:y.cells.length=5:=rfl;have ih:=Lz r j x i (by simpa using h) hi;rw[e,VY (by rw[hl];omega),hl,show (j+1)*5+i-5=j*5+i by omega,ih]
theorem L6 (y:Fv):∀u∈y.cells,u.oneCell'=true:=by
 intro u hu;simp only[Fv.cells,Fv.sl,VW,WV,or_false]at hu
 rcases hu with rfl|rfl|rfl|rfl|rfl<;>rfl
structure FRow (w:World)(B:Nat)(v:Value)(xs:List Fv):Prop where
 own:w.ownsRow B 30 5 v xs.length (fcells xs)
 all:∀x∈xs,FvIn w x
 apart:∀x∈xs,∀b o,x.a=some ⟨b,o,none⟩->some b≠v.ownBlock/\b<w.heap.size
theorem FRow.nil (w:World)(B:Nat):FRow w B (.slice none 0 0) []:=⟨World.ownsRow_nil _ _ _ _,(fun x hx=>absurd hx WV),(fun x hx=>absurd hx WV)⟩
theorem FRow.below {w w':World}{B:Nat}{v:Value}{xs:List Fv}(h:FRow w B v xs)(hB:Below w.heap.size w w'):FRow w' B v xs:=
 ⟨B4 h.own hB,fun x hx=>(h.all x hx).below hB (VC _),fun x hx b o e=>⟨(h.apart x hx b o e).1,VK (h.apart x hx b o e).2 hB.size⟩⟩
theorem FRow.lt {w:World}{B:Nat}{v:Value}{xs:List Fv}(h:FRow w B v xs){g:Nat}(e:v.ownBlock=some g):B<=g/\g<w.heap.size:=h.own.lt g e
theorem FRow.files {w:World}{B:Nat}{v:Value}{xs:List Fv}(h:FRow w B v xs)(hl:xs.length<=2199023255552):∃ad c,v=.slice ad xs.length c/\FsIn w ad c xs:=by
 rcases h.own.2 with ⟨h1,h2⟩|⟨g,cap,cur,h1,h2,h3,h4,h5,h6,h7⟩
 . have hx:xs= []:=WP h2;subst hx;exact⟨none,0,h1,FsIn.nil w⟩
 . refine⟨_,_,h1,⟨.inr ⟨g,0,rfl,(h.lt (g:=g) (by rw[h1];rfl)).2, ?_⟩,h4,by unfold maxLen at h5;omega,hl,h.all⟩⟩;intro j x hj
   have hlt:j<xs.length:=by
    rcases YO j xs.length with h'|h'
    . exact h'
    . rw[WA h']at hj;cases hj
   have hc:∀i u,i<5->x.cells[i]? =some u->w.cell? ⟨g,0+j*5+i,none⟩=some u:=by
    intro i u hi hu;have e:=Lz xs j x i hj hi;have hown:=h.own;rw[h1]at hown;rw[WI,hown.cellAt _ (by omega)];rw[e,hu]
   exact⟨hc 0 _ (by decide) rfl,hc 1 _ (by decide) rfl,hc 2 _ (by decide) rfl,hc 3 _ (by decide) rfl,hc 4 _ (by decide) rfl⟩
theorem E3:(Tryz.prog.info? 30).map (fun i=>(i.zero,i.size,i.bytes))=some (some (.agg #[.string ⟨#[]⟩,.slice none 0 0,.int .i64 0,.int .i64 0,.bool false]),5,64):=by kernel_rfl
theorem Dy (w:World){ops:Array Oper}{rest:List Oper}{o:Oper}{a:Act}{Q:Exit->Act->World->Prop}(hgd:o.guard=none)(s x:Operand)
 (ho:o.op=.call {callee:=.builtin .append,args:= #[s,x],argTypes:= #[22,22]}) (base:Nat) (v:Value) (xs:List Fv) (hs:a.eval s=v) (hown:FRow w base v xs)
 (g:Nat) (y:Fv) (hx:a.eval x=.slice (some ⟨g,0,none⟩) 1 1) (hc:∀j u,y.cells[j]? =some u->w.cell? ⟨g,j,none⟩=some u) (hy:FvIn w y) (hyb:∀b o,y.a=some ⟨b,o,none⟩->some b≠v.ownBlock/\b<w.heap.size) (hsz:xs.length+1<=2199023255552) (hbase:base<=w.heap.size)
 (h:∀v' w',Hid (FRow w' base v' (xs++ [y]))->Hid (Below base w w')->wpList Tryz.prog ops Q rest (a.put o.dst v') w'):wpList Tryz.prog ops Q (o::rest) a w:=by
 obtain⟨i0,hi,hz0,hz1,hz2⟩:=info_parts E3;refine wpList_append_own_at w hgd s x 22 ho base 30 i0 _ 5 64 Tryz.underlying22 hi hz0 hz1 hz2 rfl (by decide) v xs.length (fcells xs) hs hown.own ⟨g,0,none⟩ 1 1 y.cells hx rfl ?_ (L6 y) (by unfold maxLen;omega) (by omega) hbase ?_
 . intro j u hj;have e2:(⟨g,0,none⟩:Addr).add j=⟨g,j,none⟩:=by unfold Addr.add;split<;>simp_all
   rw[e2];exact hc j u hj
 . intro v' w' h1 h2 _ h4
   have hne:∀z,(z∈xs\/z=y)->∀b o,z.a=some ⟨b,o,none⟩->some b≠v.ownBlock/\b<w.heap.size:=by
    intro z hz b o e
    rcases hz with hz|rfl
    . exact hown.apart z hz b o e
    . exact hyb b o e
   have hin:∀z,(z∈xs\/z=y)->FvIn w z:=by
    intro z hz
    rcases hz with hz|rfl
    . exact hown.all z hz
    . exact hy
   have hm:∀z,z∈xs++ [y]->z∈xs\/z=y:=by intro z hz;simpa using hz
   refine h v' w' (Ab ⟨?_, ?_, ?_⟩) (Ab ?_)
   . rw[Ux,Uw,VB];exact h1
   . intro z hz;exact(hin z (hm z hz)).grown h2 (fun b o e=>(hne z (hm z hz) b o e).1)
   . intro z hz b o e;have hb:=hne z (hm z hz) b o e;refine⟨?_,VK hb.2 h2.size⟩
     rcases h4 with h4|h4
     . rw[h4];exact hb.1
     . rw[h4];intro e2;have:=VN e2
       omega
   . exact(Below.refl base w).grown h2 hbase (fun k e=>(hown.own.lt k e).1)
def tlA (b o c:Nat):Addr:=if c=1 then ⟨b,o,none⟩else ⟨b,o+5,none⟩
theorem FsIn.tail {w:World}{b o c:Nat}{x:Fv}{xs:List Fv}(h:FsIn w (some ⟨b,o,none⟩) c (x::xs)):FsIn w (some (tlA b o c)) (c-1) xs:=by
 have hc:=h.cap;have hm:=h.capm;have hl:=h.lim;simp only[VH]at hc hl;refine⟨.inr ?_,by omega,by omega,by omega,fun y hy=>h.all y (WF _ hy)⟩
 rcases h.at_ with h1|⟨b',o',h1,h2,h3⟩
 . cases h1
 . cases h1
   unfold tlA
   by_cases e:c=1
   . rw[if_pos e];have:xs= []:=WP (by omega)
     subst this;exact⟨b,o,rfl,h2,fun j x hj=>by simp at hj⟩
   . rw[if_neg e];refine⟨b,o+5,rfl,h2, ?_⟩;intro j y hj;have:=h3 (j+1) y (by simpa using hj)
     rw[show o+(j+1)*5=o+5+j*5 by omega]at this;exact this
theorem KB (b o k c:Nat)(W:World)(h:k+1<=c):(Instr.slice 22 (.slice (some ⟨b,o,none⟩) (k+1) c) (some (.int .i64 1)) none none).run Tryz.prog W=.ok (.slice (some (tlA b o c)) k (c-1)) W:=by
 have hs:=Tryz.sizeOf30;have ht:=Tryz.underlying22;have h1:(1:Int)<=((k+1:Nat):Int):=by omega
 have h2:k+1<=c:=h;unfold tlA
 by_cases e:c=1
 . subst e;have:k=0:=by omega
   subst this;simp[go_sem,ht]
 . rw[if_neg e];have h3:(1:Int)<=(k:Int)+1:=by omega
   simp[go_sem,ht,h3,e]
theorem PkIn.keepX {w w':World}{X c:Nat}{a:Option Addr}{ys:List Nat}(h:PkIn w a c ys)(hs:w.heap.size<=w'.heap.size)(hk:∀g,g<w.heap.size->g≠X->w'.heap[g]? =w.heap[g]?)(hX:∀g o,a=some ⟨g,o,none⟩->ys≠ []->g≠X):PkIn w' a c ys:=by
 refine⟨?_,h.2⟩
 by_cases h0:ys= []
 . exact .inl h0
 . rcases h.1 with h1|⟨b,o,e,hb,hc⟩
   . exact absurd h1 h0
   . exact .inr ⟨b,o,e,by omega,fun j hj=>(World.cell?_of_block (w:=w) (a:=⟨b,_,none⟩) (hk b hb (hX b o e h0))).trans (hc j hj)⟩
theorem ERow.keepX {w w':World}{B X:Nat}{v:Value}{xs:List Ev}(h:ERow w B v xs)(hs:w.heap.size<=w'.heap.size)(hk:∀g,g<w.heap.size->g≠X->w'.heap[g]? =w.heap[g]?)(hX:some X≠v.ownBlock)(hl:∀x∈xs,x.lies (fun g=>g≠X)):ERow w' B v xs:=by
 refine⟨Ar h.own (fun g hg=>hk g (h.own.lt g hg).2 (fun e=>hX (by rw[<-e,hg]))),fun x hx=> ?_,h.apart⟩;have h1:=h.all x hx;exact⟨h1.fb.keepX hs hk (fun g o e1 e2=>(hl x hx).1 g o e1 (LO e2)),h1.fl,h1.big,h1.txt,h1.pk.keepX hs hk (hl x hx).2⟩
theorem ERow.mono {w:World}{B B':Nat}{v:Value}{xs:List Ev}(h:ERow w B v xs)(hB:B'<=B):ERow w B' v xs:=⟨Wo h.own hB,h.all,h.apart⟩
def ClA (w:World)(bs:List Nat)(n:Nat)(t:Bool)(w':World):Prop:=
 Below w.heap.size w w'/\w.heap.size+3<=w'.heap.size/\((t=true/\∃v es,Cf (n+1) bs=some (es.map Ev.e)/\w'.heap[w.heap.size+1]? =some (.cells #[v] 74 (0,0))/\ERow w' (w.heap.size+3) v es/\∀x∈es,x.lies (fun g=>g<w.heap.size\/w.heap.size+3<=g))\/ (t=false/\Cf (n+1) bs=none/\w'.heap[w.heap.size+1]? =some (.cells #[.slice none 0 0] 74 (0,0))))
theorem Yi (n cap:Nat)(a:Option Addr)(bs:List Nat)(w W:World)(hR:ZRow w w.heap.size a n cap bs)(hB:Below w.heap.size w W)(hs:W.heap.size=w.heap.size+3)(h1:W.heap[w.heap.size]? =some (.cells #[.slice a n cap] 23 (0,0)))(h2:W.heap[w.heap.size+1]? =some (.cells #[.slice none 0 0] 74 (0,0)))(h3:W.heap[w.heap.size+2]? =some (.cells #[.int .i64 0] 24 (0,0))):
 Calls Tryz.prog 72 #[.pointer (some ⟨w.heap.size,0,none⟩),.pointer (some ⟨w.heap.size+1,0,none⟩)] W fun e w'=>((ClA w bs n true w'/\e=.returned (.tuple #[]))\/ (ClA w bs n false w'/\e=Z1f))/\w'.heap[w.heap.size+2]? =some (.cells #[.int .i64 0] 24 (0,0)):=by
 have hne:∀g o,a=some ⟨g,o,none⟩->bs≠ []->g<w.heap.size:=fun g o e h0=>by
  rcases hR.byt with h|⟨b,o',e',hb,_⟩
  . exact absurd h h0
  . rw[e]at e';cases e';exact hb
 obtain⟨W1,hW1⟩:∃W1,W.alloc (.cells #[.slice a n cap,.int .i64 0] 121)=W1:=⟨_,rfl⟩
 have hz1:W1.heap.size=w.heap.size+4:=by rw[<-hW1];simp[hs]
 have hal:∀g,g<W.heap.size->W1.heap[g]? =W.heap[g]? :=fun g hg=>by rw[<-hW1];exact Below.heap_alloc _ _ g hg
 have hI:W1.heap[w.heap.size+3]? =some (.cells #[.slice a n cap,.int .i64 0] 121 (0,0)):=by
  have:=heap_alloc_new W (.cells #[.slice a n cap,.int .i64 0] 121)
  rw[hs]at this;rw[<-hW1];exact this
 have hB1:Below w.heap.size w W1:=by rw[<-hW1];exact hB.alloc (by omega) _
 have hR1:ZRow W1 (w.heap.size+3) a n cap bs:=⟨hR.len,hR.few,hR.room,hR.nil,(PkIn.below ⟨hR.byt,hR.nil⟩ hB1).1,hR.val,fun g o e h0=>by have:=hne g o e h0;omega⟩
 have HC:=Ab (Yh (w.heap.size+3) n cap a bs W1 hI hR1);have c1:=Ac (i:=0) h1;simp only[WM,WH]at c1;have H2:=Ab ((hal _ (by omega)).trans h2);have H3:=Ab ((hal _ (by omega)).trans h3);have HB1:=Ab hB1;have HNE:=Ab hne;have HRw:Hid (ZRow w (w.heap.size+3) a n cap bs):=Ab ⟨hR.len,hR.few,hR.room,hR.nil,hR.byt,hR.val,fun g o e h0=>by have:=hne g o e h0;omega⟩;have HS:=Ab hs;have HW1:=Ab hW1;clear hR hB h1 h2 h3 hne hal hI hB1 hR1 hs hW1;go_enter Tryz.func72,Tryz.ntmps72
 go_wp2_with fail
 rw[Aa HS,Aa HW1];refine(Aa HC).mono ?_;rintro e w2 (⟨he,rfl,q,hT⟩|⟨v,es,q,he,rfl,hD⟩)
 . have HF:Hid (ClA w bs n false w2/\w2.heap[w.heap.size+2]? =some (.cells #[.int .i64 0] 24 (0,0))):=Ab (by
    have hsz:=hT.below.size;refine⟨⟨(Aa HB1).trans (hT.below.mono (by omega)),by omega,.inr ⟨rfl,he,(hT.keep _ (by omega) (by omega)).trans (Aa H2)⟩⟩,(hT.keep _ (by omega) (by omega)).trans (Aa H3)⟩)
   clear hT he;go_wp2;exact⟨rfl,.inr ⟨(Aa HF).1,rfl⟩,(Aa HF).2⟩
 . have hsz:=hD.z.below.size;have hk2:=(hD.z.keep _ (by omega) (by omega)).trans (Aa H2);have hg:=Ad w2 (w.heap.size+1) 0 v
   have hpl:∀x∈es,x.lies (fun g=>g<w.heap.size\/w.heap.size+3<=g):=fun x hx=>by
    constructor
    . intro g o e1 e2;have:=hD.fas x hx g o e1 e2
      omega
    . intro g o e1 e2;exact .inl (Wk (hD.pks x hx w (Aa HRw)) g o e1 e2)
   have HF:Hid (ClA w bs n true (w2.setCell ⟨w.heap.size+1,0,none⟩ v)/\(w2.setCell ⟨w.heap.size+1,0,none⟩ v).heap[w.heap.size+2]? =some (.cells #[.int .i64 0] 24 (0,0))):=Ab (by
    refine⟨⟨((Aa HB1).trans (hD.z.below.mono (by omega))).grown hg (by omega) (fun g e=>by cases e;omega),by simp;omega,.inl ⟨rfl,v,es,he,by rw[heap_setCell_same w2 _ 0 _ _ _ hk2];rfl, ?_,hpl⟩⟩, ?_⟩
    . refine(hD.row.keepX (X:=w.heap.size+1) (by simp) (fun g h1 h2=>hg.block g h1 (by simp;omega)) ?_ (fun x hx=>(hpl x hx).mono (fun g h=>by omega))).mono (by omega);intro e;have:=(hD.row.own.lt _ e.symm).1
      omega
    . exact(hg.block _ (by omega) (by simp)).trans ((hD.z.keep _ (by omega) (by omega)).trans (Aa H3)))
   have c2:=Ac (i:=0) hk2;simp only[WM,WH]at c2;have f2:=frozen_of_row w2 (w.heap.size+1) 0 _ _ hk2;obtain⟨va,vc,rfl⟩:=Ao hD.row.own;obtain⟨vl,hvl⟩:∃vl,es.length=vl:=⟨_,rfl⟩
   rw[hvl]at HF ⊢;clear hD he hg hpl hk2 hvl;go_wp2;go_end0
   exact⟨.inl ⟨(Aa HF).1,rfl⟩,(Aa HF).2⟩
def EnA (w:World)(bs:List Nat)(n:Nat)(e:Ending)(w':World):Prop:=
 Below w.heap.size w w'/\((Cf (n+1) bs=none/\e=.returned (.tuple #[.slice none 0 0,.int .i64 7]))\/∃v es,Cf (n+1) bs=some (es.map Ev.e)/\e=.returned (.tuple #[v,.int .i64 0])/\ERow w' w.heap.size v es/\∀x∈es,x.lies (fun g=>g<w.heap.size\/w.heap.size+3<=g))
theorem Xn (n cap:Nat)(a:Option Addr)(bs:List Nat)(w:World)(hl:bs.length=n)(hn:n<=12000)(hc:n<=cap)(hP:PkIn w a cap bs)(hv:∀x∈bs,x<256):
 Calls Tryz.prog 48 #[.slice a n cap] w fun e w'=>EnA w bs n e w':=by
 have hmf:∀(fn:Fn) (first cap:Array Value) (w:World),(Instr.makeFunc fn first cap).run Tryz.prog w=.ok (.func fn first cap) w:=fun _ _ _ _=>rfl
 have hR:ZRow w w.heap.size a n cap bs:=⟨hl,hn,hc,hP.2,hP.1,hv,fun g o e h0=>by have:=Wk hP g o e h0;omega⟩
 obtain⟨wA,hwA⟩:∃wA,(w.alloc (.cells #[.slice a n cap] 23)).alloc (.cells #[.slice none 0 0] 74)=wA:=⟨_,rfl⟩
 have hz:wA.heap.size=w.heap.size+2:=by rw[<-hwA];simp
 have hB:Below w.heap.size w wA:=by rw[<-hwA];exact((Below.refl _ _).alloc (VC _) _).alloc (by simp) _
 have hb1:wA.heap[w.heap.size]? =some (.cells #[.slice a n cap] 23 (0,0)):=by rw[<-hwA];exact(Below.heap_alloc _ _ _ (by simp)).trans (heap_alloc_new w _)
 have hb2:wA.heap[w.heap.size+1]? =some (.cells #[.slice none 0 0] 74 (0,0)):=by
  have:=heap_alloc_new (w.alloc (.cells #[.slice a n cap] 23)) (.cells #[.slice none 0 0] 74)
  rw[<-hwA];simpa using this
 have hal:∀o,∀g,g<wA.heap.size->(wA.alloc o).heap[g]? =wA.heap[g]? :=fun o g hg=>Below.heap_alloc _ _ g hg
 have hCl:=Yi n cap a bs w (wA.alloc (.cells #[.int .i64 0] 24)) hR (hB.alloc (by omega) _) (by simp[hz]) ((hal _ _ (by omega)).trans hb1) ((hal _ _ (by omega)).trans hb2) (by
  have:=heap_alloc_new wA (.cells #[.int .i64 0] 24)
  rw[hz]at this;exact this)
 have HC:=Ab (N8 72 #[.pointer (some ⟨w.heap.size,0,none⟩),.pointer (some ⟨w.heap.size+1,0,none⟩)] (ClA w bs n) wA (fun _ _=>rfl) (by
  refine hCl.mono ?_;rintro e w' ⟨h1,h2⟩;rw[hz];exact⟨h1,h2⟩))
 have HWA:=Ab hwA;have HZ:=Ab hz;clear hR hP hv hl hCl hal hb1 hb2 hB hwA hz;go_enter Tryz.func48,Tryz.ntmps48
 go_wp2_with fail
 rw[Aa HWA];refine(Aa HC).mono ?_;rintro e w2 ⟨t,w1,⟨hB1,hs1,hA⟩,rfl,hs2,hsame,hBl⟩;have hB2:=hB1.trans (hBl w.heap.size (by rw[Aa HZ];omega));have hz:=Aa HZ
 rcases hA with ⟨rfl,v,es,he,hv,hrow,hlies⟩|⟨rfl,he,hv⟩
 . have hv2:=(hsame (w.heap.size+1) (by omega) (by omega)).trans hv;have c2:=Ac (i:=0) hv2;simp only[WM,WH]at c2;have f2:=frozen_of_row w2 (w.heap.size+1) 0 _ _ hv2;have hrow2:ERow w2 (w.heap.size+3) v es:=hrow.keepX (X:=wA.heap.size) hs2 hsame (fun e=>by have:=(hrow.own.lt _ e.symm).1;omega) (fun x hx=>(hlies x hx).mono (fun g h=>by omega));have hg:=Ad w2 (w.heap.size+1) 0 v;have hrow3:ERow (w2.setCell ⟨w.heap.size+1,0,none⟩ v) (w.heap.size+3) v es:=hrow2.keepX (X:=w.heap.size+1) (by simp) (fun g h1 h2=>hg.block g h1 (by simp;omega)) (fun e=>by have:=(hrow2.own.lt _ e.symm).1;omega) (fun x hx=>(hlies x hx).mono (fun g h=>by omega));have HF:Hid (EnA w bs n (.returned (.tuple #[v,.int .i64 0])) (w2.setCell ⟨w.heap.size+1,0,none⟩ v)):=Ab ⟨hB2.grown hg (by omega) (fun g e=>by cases e;omega),.inr ⟨v,es,he,rfl,hrow3.mono (by omega),hlies⟩⟩;have c3:(w2.setCell ⟨w.heap.size+1,0,none⟩ v).cell? ⟨w.heap.size+1,0,none⟩=some v:=World.cell?_setCell_same _ _ _ c2;obtain⟨va,vc,rfl⟩:=Ao hrow.own;obtain⟨vl,hvl⟩:∃vl,es.length=vl:=⟨_,rfl⟩
   rw[hvl]at HF c2 c3;clear hrow hrow2 hrow3 hv hv2 he hlies hsame hBl hB1 hB2 hg hvl;go_wp2;refine bodyPost_ret (v:=.tuple #[.slice va vl vc,.int .i64 0]) ?_ rfl (Aa HF);simp[results,Tryz.results48,go_sem,c3]
 . have hv2:=(hsame (w.heap.size+1) (by omega) (by omega)).trans hv;have c2:=Ac (i:=0) hv2;simp only[WM,WH]at c2;have f2:=frozen_of_row w2 (w.heap.size+1) 0 _ _ hv2;have hg:=Ad w2 (w.heap.size+1) 0 (.slice none 0 0);have HF:Hid (EnA w bs n (.returned (.tuple #[.slice none 0 0,.int .i64 7])) (w2.setCell ⟨w.heap.size+1,0,none⟩ (.slice none 0 0))):=Ab ⟨hB2.grown hg (by omega) (fun g e=>by cases e;omega),.inl ⟨he,rfl⟩⟩;have c3:(w2.setCell ⟨w.heap.size+1,0,none⟩ (.slice none 0 0)).cell? ⟨w.heap.size+1,0,none⟩=some (.slice none 0 0):=World.cell?_setCell_same _ _ _ c2;clear hv hv2 he hsame hBl hB1 hB2 hg;go_wp2;refine bodyPost_ret (v:=.tuple #[.slice none 0 0,.int .i64 7]) ?_ rfl (Aa HF);simp[results,Tryz.results48,go_sem,c3]
def Ev.fv (x:Ev):Fv:=⟨x.e.f,x.fa,x.fc⟩
structure GR (w:World)(B:Nat)(v:Value)(xs:List Ev):Prop where
 own:w.ownsRow B 30 5 v xs.length (fcells (xs.map Ev.fv))
 all:∀x∈xs,EvIn w x
 apart:∀x∈xs,x.lies (fun g=>some g≠v.ownBlock)
theorem GR.nil (w:World)(B:Nat):GR w B (.slice none 0 0) []:=⟨World.ownsRow_nil _ _ _ _,(fun x hx=>absurd hx WV),(fun x hx=>absurd hx WV)⟩
theorem GR.below {w w':World}{B:Nat}{v:Value}{xs:List Ev}(h:GR w B v xs)(hB:Below w.heap.size w w'):GR w' B v xs:=
 ⟨Ar h.own (fun g hg=>hB.block g (h.own.lt g hg).2),fun x hx=>(h.all x hx).below hB,h.apart⟩
theorem Ob (w:World){ops:Array Oper}{rest:List Oper}{o:Oper}{a:Act}{Q:Exit->Act->World->Prop}(hgd:o.guard=none)(s x:Operand)
 (ho:o.op=.call {callee:=.builtin .append,args:= #[s,x],argTypes:= #[22,22]}) (base:Nat) (v:Value) (xs:List Ev) (hs:a.eval s=v) (hown:GR w base v xs)
 (g:Nat) (y:Ev) (hx:a.eval x=.slice (some ⟨g,0,none⟩) 1 1) (hc:∀j u,y.fv.cells[j]? =some u->w.cell? ⟨g,j,none⟩=some u) (hy:EvIn w y) (hyb:y.lies (fun g=>some g≠v.ownBlock)) (hsz:xs.length+1<=100000) (hbase:base<=w.heap.size)
 (h:∀v' w',Hid (GR w' base v' (xs++ [y]))->Hid (w.grownBy w' v.ownBlock)->Hid (Below base w w')->wpList Tryz.prog ops Q rest (a.put o.dst v') w'):wpList Tryz.prog ops Q (o::rest) a w:=by
 obtain⟨i0,hi,hz0,hz1,hz2⟩:=info_parts E3;refine wpList_append_own_at w hgd s x 22 ho base 30 i0 _ 5 64 Tryz.underlying22 hi hz0 hz1 hz2 rfl (by decide) v xs.length (fcells (xs.map Ev.fv)) hs hown.own ⟨g,0,none⟩ 1 1 y.fv.cells hx rfl ?_ (L6 y.fv) (by unfold maxLen;omega) (by omega) hbase ?_
 . intro j u hj;have e2:(⟨g,0,none⟩:Addr).add j=⟨g,j,none⟩:=by unfold Addr.add;split<;>simp_all
   rw[e2];exact hc j u hj
 . intro v' w' h1 h2 _ h4
   have hne:∀z∈xs++ [y],z.lies (fun g=>some g≠v.ownBlock):=by
    intro z hz
    rcases VZ.1 hz with hz|hz
    . exact hown.apart z hz
    . rw[WK.1 hz];exact hyb
   have hin:∀z∈xs++ [y],EvIn w z:=by
    intro z hz
    rcases VZ.1 hz with hz|hz
    . exact hown.all z hz
    . rw[WK.1 hz];exact hy
   refine h v' w' (Ab ⟨?_,fun z hz=>(hin z hz).grown h2 (hne z hz),fun z hz=> ?_⟩) (Ab h2) (Ab ((Below.refl base w).grown h2 hbase (fun k e=>(hown.own.lt k e).1)))
   . rw[XO,Ux,List.map_singleton,Uw,VB];exact h1
   . have hl:=(hin z hz).lt;have hn:=hne z hz
     rcases h4 with h4|h4
     . rw[h4];exact hn
     . rw[h4];exact hl.mono (fun g hg e=>by have:=VN e;omega)
theorem GR.files {w:World}{B:Nat}{v:Value}{xs:List Ev}(h:GR w B v xs)(hl:xs.length<=100000):∃ad c,v=.slice ad xs.length c/\FsIn w ad c (xs.map Ev.fv):=by
 have hall:∀x∈xs.map Ev.fv,FvIn w x:=by
  intro x hx;obtain⟨y,hy,rfl⟩:=WY.1 hx;exact(h.all y hy).fv
 have hlen:(xs.map Ev.fv).length=xs.length:=by simp
 rcases h.own.2 with ⟨h1,h2⟩|⟨g,cap,cur,h1,h2,h3,h4,h5,h6⟩
 . have:xs= []:=WP h2
   subst this;exact⟨none,0,h1,FsIn.nil w⟩
 . refine⟨some ⟨g,0,none⟩,cap,h1,.inr ⟨g,0,rfl,(h.own.lt g (by rw[h1];rfl)).2, ?_⟩,by rw[hlen];exact h4,by unfold maxLen at h5;exact h5,by rw[hlen];omega,hall⟩;intro j x hj;have hjl:=(WQ.1 hj).1;rw[hlen]at hjl
   have hc:∀i u,i<5->x.cells[i]? =some u->w.cell? ⟨g,0+j*5+i,none⟩=some u:=by
    intro i u hi hu;have e:=Lz (xs.map Ev.fv) j x i hj hi;have hown:=h.own;rw[h1]at hown;rw[WI,hown.cellAt _ (by omega)];rw[e,hu]
   exact⟨hc 0 _ (by decide) rfl,hc 1 _ (by decide) rfl,hc 2 _ (by decide) rfl,hc 3 _ (by decide) rfl,hc 4 _ (by decide) rfl⟩
theorem U6 (ad:Option Addr)(c n:Nat)(es:List Ev)(w:World)(h:EsIn w ad c es)(hl:es.length=n)(hn:n<=20000):
 Calls Tryz.prog 49 #[.slice ad n c] w fun e w'=>∃v,e=.returned v/\GR w' w.heap.size v es/\Below w.heap.size w w':=by
 have HI:=Ab h;have HL:=Ab hl;clear h hl;go_enter Tryz.func49,Tryz.ntmps49
 go_wp2;go_loopw [3,5,8] (fun v3 _ i wr=>∃k:Nat,k<=n/\i=.int .i64 (k:Int)/\Hid (GR wr w.heap.size v3 (es.take k))/\Hid (Below w.heap.size w wr)) (fun _ _ i _=>n-(intOf i).toNat)
 case atStart=>exact⟨0,VM _,rfl,Ab (GR.nil _ _),Ab (Below.refl _ _)⟩
 case round=>
  obtain⟨k,hk,rfl,HG,HB⟩:=hrel
  by_cases hlt:k<n
  . obtain⟨x,hx,hxm⟩:∃x,es[k]? =some x/\x∈es:=⟨es[k]'(by rw[Aa HL];exact hlt),VR _,WR _⟩
    obtain⟨b,o,rfl,hb,c0,c1,c2,c3,c4,c5,c6,c7⟩:=(Aa HI).get (Aa HB) hx;have hz:=(Aa HB).size;have hxi:=(Aa HI).all x hxm;have HTK:=Ab (Kv hx);have HXI:=Ab (fun o1 o2:Obj=>(hxi.below ((Aa HB).trans ((Below.refl w.heap.size wr).alloc hz o1))).below ((Below.refl _ _).alloc (VC _) o2));have hlies:x.lies (fun g=>some g≠u3.ownBlock):=hxi.lt.mono (fun g hg e=>by have:=((Aa HG).own.lt g e.symm).1;omega);have HXL:=Ab hlies;have HG1:=Ab (fun o1 o2:Obj=>((Aa HG).below ((Below.refl _ _).alloc (VC _) o1)).below ((Below.refl _ _).alloc (VC _) o2));have HB1:=Ab (fun o1 o2:Obj=>((Aa HB).alloc hz o1).alloc (by simp;omega) o2);have htl:(es.take k).length+1<=100000:=by rw[VL];omega
    have HTL:=Ab htl
    have HCE:Hid (∀o1 o2,o2=Obj.cells x.fv.cells.toArray 30->∀j u,x.fv.cells[j]? =some u->((wr.alloc o1).alloc o2).cell? ⟨wr.heap.size+1,j,none⟩=some u):=Ab (fun o1 o2 e j u hj=>by
     subst e;have h9:=heap_alloc_new (wr.alloc o1) (.cells x.fv.cells.toArray 30);simp only[World.size_alloc]at h9;rw[Ac h9];simpa using hj)
    clear hx hxm hxi hlies htl;go_wp2_with (at_builtin;refine Ob _ rfl _ _ rfl w.heap.size _ (es.take k) rfl (Aa HG1 _ _) (wr.heap.size+1) x rfl (Aa HCE _ _ rfl) (Aa HXI _ _) (Aa HXL) (Aa HTL) (by simp;omega) ?_)
    intro v' w3 hG3 _ hB3;have HG3:Hid (GR w3 w.heap.size v' (es.take (k+1))):=Ab (by rw[Aa HTK];exact Aa hG3);have HB3:=Ab ((Aa HB1 _ _).trans (Aa hB3));clear hG3 hB3 c0 c1 c2 c3 c4 c5 c6 c7;go_wp2;go_roundw
    case rel=>exact⟨k+1,by omega,by go_num,HG3,HB3⟩
    case measure=>simp[intOf];omega
  . obtain rfl:n=k:=by omega
    have hta:es.take n=es:=VP (by rw[Aa HL];exact VC _);have HTA:=Ab hta;clear hta;go_wp2;go_ret;exact⟨_,rfl,by have:=Aa HG;rw[Aa HTA]at this;exact this,Aa HB⟩
theorem JQ {l:List En}{k:Nat}{x:En}(h:l[k]? =some x):Ms (l.drop k)=(decide (x.crc=crcN 0 (n8 x.f.bytes))&&Ms (l.drop (k+1))):=by
 obtain⟨hk,e⟩:=WQ.1 h;rw[XD hk,e];rfl
theorem Zl (ad:Option Addr)(c n:Nat)(es:List Ev)(w:World)(h:EsIn w ad c es)(hl:es.length=n)(hn:n<=20000)(hb:∀x∈es,x.e.f.bytes.length<=12000)(S:Bool)(hS:Ms (es.map Ev.e)=S):
 Calls Tryz.prog 50 #[.slice ad n c] w fun e w'=>e=.returned (.bool S)/\Below w.heap.size w w':=by
 have HI:=Ab h;have HL:=Ab hl;have HBY:=Ab hb;have HS:=Ab hS;clear h hl hb hS;go_enter Tryz.func50,Tryz.ntmps50
 go_wp2;go_loopw [4,7] (fun _ i wr=>∃k:Nat,k<=n/\i=.int .i64 (k:Int)/\Hid (Ms ((es.map Ev.e).drop k)=S)/\Hid (Below w.heap.size w wr)) (fun _ i _=>n-(intOf i).toNat)
 case atStart=>exact⟨0,VM _,rfl,Ab (Aa HS),Ab (Below.refl _ _)⟩
 case round=>
  obtain⟨k,hk,rfl,HT,HB⟩:=hrel
  by_cases hlt:k<n
  . obtain⟨x,hx,hxm⟩:∃x,es[k]? =some x/\x∈es:=⟨es[k]'(by rw[Aa HL];exact hlt),VR _,WR _⟩
    obtain⟨b,o,rfl,hb,c0,c1,c2,c3,c4,c5,c6,c7⟩:=(Aa HI).get (Aa HB) hx;have hz:=(Aa HB).size;have hxi:=(Aa HI).all x hxm;have hst:=JQ (l:=es.map Ev.e) (k:=k) (x:=x.e) (by simp[hx]);rw[Aa HT]at hst;have hcr:=fun(W:World) (hW:Below w.heap.size w W)=>Y0 x.fa x.e.f.bytes.length x.fc (n8 x.e.f.bytes) W (Gn _) (Aa HBY x hxm) (hxi.below hW).fb.1 (Dj (Ns _))
    obtain⟨x,fa,fc,pa,pc⟩:=x;obtain⟨⟨nml,bys,st,nd,gn⟩,mt,pk,cr⟩:=x;dsimp only at c0 c1 c2 c3 c4 c5 c6 c7 hst hcr;obtain⟨m,hm⟩:∃m,crcN 0 (n8 bys)=m:=⟨_,rfl⟩
    rw[hm]at hst hcr;generalize B nml=nm at c0;generalize bys.length=bl at c1 hcr;generalize pk.length=pl at c6;obtain⟨w1,hw1⟩:∃w1,wr.alloc (.cells #[.string nm,.slice fa bl fc,.int .i64 st,.int .i64 nd,.bool gn,.int .u32 (mt:Int),.slice pa pl pc,.int .u32 (cr:Int)] 76)=w1:=⟨_,rfl⟩
    have hX:w1.heap[wr.heap.size]? =some (.cells #[.string nm,.slice fa bl fc,.int .i64 st,.int .i64 nd,.bool gn,.int .u32 (mt:Int),.slice pa pl pc,.int .u32 (cr:Int)] 76 (0,0)):=by rw[<-hw1];exact heap_alloc_new _ _
    have hB1:Below w.heap.size w w1:=by rw[<-hw1];exact(Aa HB).alloc hz _
    have hlt1:wr.heap.size<w1.heap.size:=(VG.1 hX).1;have e1:=Ac (i:=1) hX;have e7:=Ac (i:=7) hX;simp only[WM,WH,WT]at e1 e7;have k1:∀W:World,Below w1.heap.size w1 W->W.cell? ⟨wr.heap.size,1,none⟩=some (.slice fa bl fc):=fun W hW=>(hW.cell (p:=⟨wr.heap.size,1,none⟩) hlt1).trans e1
    have k7:∀W:World,Below w1.heap.size w1 W->W.cell? ⟨wr.heap.size,7,none⟩=some (.int .u32 (cr:Int)):=fun W hW=>(hW.cell (p:=⟨wr.heap.size,7,none⟩) hlt1).trans e7
    have HCR:=Ab (fun(W:World) (hW:Below w1.heap.size w1 W)=>hcr W (hB1.trans (hW.mono (by omega))));have HW1:=Ab hw1;have HB1:=Ab hB1;have hz1:=hB1.size;clear hx hxm hxi hcr hm hw1 hX hB1 e1 e7
    by_cases hc:cr=m
    . subst hc;rw[decide_eq_true rfl,ZK]at hst;have HST:=Ab hst;clear hst;go_wp2;rw[Aa HW1];go_region_held3 (fun W=>Below w1.heap.size w1 W) (first|exact Co (Below.refl _ _)|exact hb6) ((go_at_call 61;refine(Aa HCR _ (Co (Below.refl _ _))).mono ?_;rintro e w5 ⟨rfl,hb5⟩;have hb6:Below w1.heap.size w1 w5:=(Co (Below.refl _ _)).trans hb5;clear hb5))
      clear k1 k7 c0 c1 c2 c3 c4 c5 c6 c7;have HB6:=Ab hb6;clear hb6;go_wp2;go_roundw
      case rel=>exact⟨k+1,by omega,by go_num,Ab (Aa HST).symm,Ab ((Aa HB1).trans ((Aa HB6).mono hz1))⟩
      case measure=>simp[intOf];omega
    . rw[decide_eq_false hc,Bool.false_and]at hst;subst hst;have hcb:((cr:Int)==(m:Int))=false:=by rw[beq_eq_false_iff_ne];omega
      have hci:¬(cr:Int)=(m:Int):=by omega
      go_wp2;rw[Aa HW1];go_region_held3 (fun W=>Below w1.heap.size w1 W) (first|exact Co (Below.refl _ _)|exact hb6) ((go_at_call 61;refine(Aa HCR _ (Co (Below.refl _ _))).mono ?_;rintro e w5 ⟨rfl,hb5⟩;have hb6:Below w1.heap.size w1 w5:=(Co (Below.refl _ _)).trans hb5;clear hb5))
      clear k1 k7 c0 c1 c2 c3 c4 c5 c6 c7;have HB6:=Ab hb6;clear hb6;go_wp2;go_ret;exact⟨rfl,(Aa HB1).trans ((Aa HB6).mono hz1)⟩
  . obtain rfl:n=k:=by omega
    have hta:(es.map Ev.e).drop n= []:=XL (by simp[Aa HL]);have hst:=Aa HT;rw[hta]at hst;have hSt:S=true:=hst.symm;subst hSt;clear hta hst;go_wp2;go_ret;exact⟨rfl,Aa HB⟩
end Go.Proofs.YtieianhejdcgdaaGreatDoor
