import Derived.Test.YtleocpdblhbimaaGreatDoorQ34
import Derived.Maps.AppendAt
import Derived.Laws.AppendOwnNone
set_option linter.unusedSimpArgs false
set_option maxHeartbeats 4000000
namespace Go.Proofs.YtleocpdblhbimaaGreatDoor
open Go.RowKit
set_option linter.unusedVariables false
set_option maxRecDepth 100000
theorem PkIn.keepX {w w':World}{X c:Nat}{a:Option Addr}{ys:List Nat}(h:PkIn w a c ys)(hs:w.heap.size<=w'.heap.size)(hk:∀g,g<w.heap.size->g≠X->w'.heap[g]? =w.heap[g]?)(hX:∀g o,a=some ⟨g,o,none⟩->ys≠ []->g≠X):PkIn w' a c ys:=by
 refine⟨?_,h.2⟩
 by_cases h0:ys= []
 . exact .inl h0
 . rcases h.1 with h1|⟨b,o,e,hb,hc⟩
   . exact absurd h1 h0
   . exact .inr ⟨b,o,e,by omega,fun j hj=>(World.cell?_of_block (w:=w) (a:=⟨b,_,none⟩) (hk b hb (hX b o e h0))).trans (hc j hj)⟩
theorem ERow.keepX {w w':World}{B X:Nat}{v:Value}{xs:List Ev}(h:ERow w B v xs)(hs:w.heap.size<=w'.heap.size)(hk:∀g,g<w.heap.size->g≠X->w'.heap[g]? =w.heap[g]?)(hX:some X≠v.ownBlock)(hl:∀x∈xs,x.lies (fun g=>g≠X)):ERow w' B v xs:=by
 refine⟨Dj h.own (fun g hg=>hk g (h.own.lt g hg).2 (fun e=>hX (by rw[<-e,hg]))),fun x hx=> ?_,h.apart⟩;have h1:=h.all x hx;exact⟨h1.fb.keepX hs hk (fun g o e1 e2=>(hl x hx).1 g o e1 (JP e2)),h1.fl,h1.big,h1.txt,h1.pk.keepX hs hk (hl x hx).2⟩
theorem ERow.mono {w:World}{B B':Nat}{v:Value}{xs:List Ev}(h:ERow w B v xs)(hB:B'<=B):ERow w B' v xs:=⟨Lj h.own hB,h.all,h.apart⟩
def ClA (w:World)(bs:List Nat)(n:Nat)(t:Bool)(w':World):Prop:=
 Below w.heap.size w w'/\w.heap.size+3<=w'.heap.size/\((t=true/\∃v es,Ca (n+1) bs=some (es.map Ev.e)/\w'.heap[w.heap.size+1]? =some (.cells #[v] 69 (0,0))/\ERow w' (w.heap.size+3) v es/\∀x∈es,x.lies (fun g=>g<w.heap.size\/w.heap.size+3<=g))\/ (t=false/\Ca (n+1) bs=none/\w'.heap[w.heap.size+1]? =some (.cells #[.slice none 0 0] 69 (0,0))))
theorem Xn (n cap:Nat)(a:Option Addr)(bs:List Nat)(w W:World)(hS:Z2y bs)(hR:ZRow w w.heap.size a n cap bs)(hB:Below w.heap.size w W)(hs:W.heap.size=w.heap.size+3)(h1:W.heap[w.heap.size]? =some (.cells #[.slice a n cap] 23 (0,0)))(h2:W.heap[w.heap.size+1]? =some (.cells #[.slice none 0 0] 69 (0,0)))(h3:W.heap[w.heap.size+2]? =some (.cells #[.int .i64 0] 24 (0,0))):
 Calls Tryz.prog 64 #[.pointer (some ⟨w.heap.size,0,none⟩),.pointer (some ⟨w.heap.size+1,0,none⟩)] W fun e w'=>((ClA w bs n true w'/\e=.returned (.tuple #[]))\/ (ClA w bs n false w'/\e=Z02))/\w'.heap[w.heap.size+2]? =some (.cells #[.int .i64 0] 24 (0,0)):=by
 have hne:∀g o,a=some ⟨g,o,none⟩->bs≠ []->g<w.heap.size:=fun g o e h0=>by
  rcases hR.byt with h|⟨b,o',e',hb,_⟩
  . exact absurd h h0
  . rw[e]at e';cases e';exact hb
 obtain⟨W1,hW1⟩:∃W1,W.alloc (.cells #[.slice a n cap,.int .i64 0] 116)=W1:=⟨_,rfl⟩
 have hz1:W1.heap.size=w.heap.size+4:=by rw[<-hW1];simp[hs]
 have hal:∀g,g<W.heap.size->W1.heap[g]? =W.heap[g]? :=fun g hg=>by rw[<-hW1];exact Below.heap_alloc _ _ g hg
 have hI:W1.heap[w.heap.size+3]? =some (.cells #[.slice a n cap,.int .i64 0] 116 (0,0)):=by
  have:=heap_alloc_new W (.cells #[.slice a n cap,.int .i64 0] 116)
  rw[hs]at this;rw[<-hW1];exact this
 have hB1:Below w.heap.size w W1:=by rw[<-hW1];exact hB.alloc (by omega) _
 have hR1:ZRow W1 (w.heap.size+3) a n cap bs:=⟨hR.len,hR.few,hR.room,hR.nil,(PkIn.below ⟨hR.byt,hR.nil⟩ hB1).1,hR.val,fun g o e h0=>by have:=hne g o e h0;omega⟩
 have HC:=Ab (Xm (w.heap.size+3) n cap a bs W1 hI hR1 hS);have c1:=Ac (i:=0) h1;simp only[VZ,VX]at c1;have H2:=Ab ((hal _ (by omega)).trans h2);have H3:=Ab ((hal _ (by omega)).trans h3);have HB1:=Ab hB1;have HNE:=Ab hne;have HRw:Hid (ZRow w (w.heap.size+3) a n cap bs):=Ab ⟨hR.len,hR.few,hR.room,hR.nil,hR.byt,hR.val,fun g o e h0=>by have:=hne g o e h0;omega⟩;have HS:=Ab hs;have HW1:=Ab hW1;clear hR hB h1 h2 h3 hne hal hI hB1 hR1 hs hW1 hS;go_enter Tryz.func64,Tryz.ntmps64
 go_wp2_with fail
 rw[Aa HS,Aa HW1];refine(Aa HC).mono ?_;rintro e w2 (⟨he,rfl,q,hT⟩|⟨v,es,q,he,rfl,hD⟩)
 . have HF:Hid (ClA w bs n false w2/\w2.heap[w.heap.size+2]? =some (.cells #[.int .i64 0] 24 (0,0))):=Ab (by
    have hsz:=hT.below.size;refine⟨⟨(Aa HB1).trans (hT.below.mono (by omega)),by omega,.inr ⟨rfl,he,(hT.keep _ (by omega) (by omega)).trans (Aa H2)⟩⟩,(hT.keep _ (by omega) (by omega)).trans (Aa H3)⟩)
   clear hT he;go_wp2;exact⟨rfl,.inr ⟨(Aa HF).1,rfl⟩,(Aa HF).2⟩
 . have hsz:=hD.z.below.size;have hk2:=(hD.z.keep _ (by omega) (by omega)).trans (Aa H2);have hg:=Ad w2 (w.heap.size+1) 0 v
   have hpl:∀x∈es,x.lies (fun g=>g<w.heap.size\/w.heap.size+3<=g):=fun x hx=>by
    constructor
    . intro g o e1 e2;have:=hD.fas x hx g o e1 e2
      omega
    . intro g o e1 e2;exact .inl (Wa (hD.pks x hx w (Aa HRw)) g o e1 e2)
   have HF:Hid (ClA w bs n true (w2.setCell ⟨w.heap.size+1,0,none⟩ v)/\(w2.setCell ⟨w.heap.size+1,0,none⟩ v).heap[w.heap.size+2]? =some (.cells #[.int .i64 0] 24 (0,0))):=Ab (by
    refine⟨⟨((Aa HB1).trans (hD.z.below.mono (by omega))).grown hg (by omega) (fun g e=>by cases e;omega),by simp;omega,.inl ⟨rfl,v,es,he,by rw[heap_setCell_same w2 _ 0 _ _ _ hk2];rfl, ?_,hpl⟩⟩, ?_⟩
    . refine(hD.row.keepX (X:=w.heap.size+1) (by simp) (fun g h1 h2=>hg.block g h1 (by simp;omega)) ?_ (fun x hx=>(hpl x hx).mono (fun g h=>by omega))).mono (by omega);intro e;have:=(hD.row.own.lt _ e.symm).1
      omega
    . exact(hg.block _ (by omega) (by simp)).trans ((hD.z.keep _ (by omega) (by omega)).trans (Aa H3)))
   have c2:=Ac (i:=0) hk2;simp only[VZ,VX]at c2;have f2:=frozen_of_row w2 (w.heap.size+1) 0 _ _ hk2;obtain⟨va,vc,rfl⟩:=As hD.row.own;obtain⟨vl,hvl⟩:∃vl,es.length=vl:=⟨_,rfl⟩
   rw[hvl]at HF ⊢;clear hD he hg hpl hk2 hvl;go_wp2;go_end0
   exact⟨.inl ⟨(Aa HF).1,rfl⟩,(Aa HF).2⟩
def EnA (w:World)(bs:List Nat)(n:Nat)(e:Ending)(w':World):Prop:=
 Below w.heap.size w w'/\((Ca (n+1) bs=none/\e=.returned (.tuple #[.slice none 0 0,.int .i64 7]))\/∃v es,Ca (n+1) bs=some (es.map Ev.e)/\e=.returned (.tuple #[v,.int .i64 0])/\ERow w' w.heap.size v es/\∀x∈es,x.lies (fun g=>g<w.heap.size\/w.heap.size+3<=g))
theorem Wv (n cap:Nat)(a:Option Addr)(bs:List Nat)(w:World)(hl:bs.length=n)(hn:n<=12000)(hc:n<=cap)(hP:PkIn w a cap bs)(hv:∀x∈bs,x<256)(hS:Z2y bs):
 Calls Tryz.prog 41 #[.slice a n cap] w fun e w'=>EnA w bs n e w':=by
 have hmf:∀(fn:Fn) (first cap:Array Value) (w:World),(Instr.makeFunc fn first cap).run Tryz.prog w=.ok (.func fn first cap) w:=fun _ _ _ _=>rfl
 have hR:ZRow w w.heap.size a n cap bs:=⟨hl,hn,hc,hP.2,hP.1,hv,fun g o e h0=>by have:=Wa hP g o e h0;omega⟩
 obtain⟨wA,hwA⟩:∃wA,(w.alloc (.cells #[.slice a n cap] 23)).alloc (.cells #[.slice none 0 0] 69)=wA:=⟨_,rfl⟩
 have hz:wA.heap.size=w.heap.size+2:=by rw[<-hwA];simp
 have hB:Below w.heap.size w wA:=by rw[<-hwA];exact((Below.refl _ _).alloc (VC _) _).alloc (by simp) _
 have hb1:wA.heap[w.heap.size]? =some (.cells #[.slice a n cap] 23 (0,0)):=by rw[<-hwA];exact(Below.heap_alloc _ _ _ (by simp)).trans (heap_alloc_new w _)
 have hb2:wA.heap[w.heap.size+1]? =some (.cells #[.slice none 0 0] 69 (0,0)):=by
  have:=heap_alloc_new (w.alloc (.cells #[.slice a n cap] 23)) (.cells #[.slice none 0 0] 69)
  rw[<-hwA];simpa using this
 have hal:∀o,∀g,g<wA.heap.size->(wA.alloc o).heap[g]? =wA.heap[g]? :=fun o g hg=>Below.heap_alloc _ _ g hg
 have HST:=Ab hS;clear hS
 have hCl:=Xn n cap a bs w (wA.alloc (.cells #[.int .i64 0] 24)) (Aa HST) hR (hB.alloc (by omega) _) (by simp[hz]) ((hal _ _ (by omega)).trans hb1) ((hal _ _ (by omega)).trans hb2) (by
  have:=heap_alloc_new wA (.cells #[.int .i64 0] 24)
  rw[hz]at this;exact this)
 have HC:=Ab (J1 64 #[.pointer (some ⟨w.heap.size,0,none⟩),.pointer (some ⟨w.heap.size+1,0,none⟩)] (ClA w bs n) wA (fun _ _=>rfl) (by
  refine hCl.mono ?_;rintro e w' ⟨h1,h2⟩;rw[hz];exact⟨h1,h2⟩))
 have HWA:=Ab hwA;have HZ:=Ab hz;clear hR hP hv hl hCl hal hb1 hb2 hB hwA hz;go_enter Tryz.func41,Tryz.ntmps41
 go_wp2_with fail
 rw[Aa HWA];refine(Aa HC).mono ?_;rintro e w2 ⟨t,w1,⟨hB1,hs1,hA⟩,rfl,hs2,hsame,hBl⟩;have hB2:=hB1.trans (hBl w.heap.size (by rw[Aa HZ];omega));have hz:=Aa HZ
 rcases hA with ⟨rfl,v,es,he,hv,hrow,hlies⟩|⟨rfl,he,hv⟩
 . have hv2:=(hsame (w.heap.size+1) (by omega) (by omega)).trans hv;have c2:=Ac (i:=0) hv2;simp only[VZ,VX]at c2;have f2:=frozen_of_row w2 (w.heap.size+1) 0 _ _ hv2;have hrow2:ERow w2 (w.heap.size+3) v es:=hrow.keepX (X:=wA.heap.size) hs2 hsame (fun e=>by have:=(hrow.own.lt _ e.symm).1;omega) (fun x hx=>(hlies x hx).mono (fun g h=>by omega));have hg:=Ad w2 (w.heap.size+1) 0 v;have hrow3:ERow (w2.setCell ⟨w.heap.size+1,0,none⟩ v) (w.heap.size+3) v es:=hrow2.keepX (X:=w.heap.size+1) (by simp) (fun g h1 h2=>hg.block g h1 (by simp;omega)) (fun e=>by have:=(hrow2.own.lt _ e.symm).1;omega) (fun x hx=>(hlies x hx).mono (fun g h=>by omega));have HF:Hid (EnA w bs n (.returned (.tuple #[v,.int .i64 0])) (w2.setCell ⟨w.heap.size+1,0,none⟩ v)):=Ab ⟨hB2.grown hg (by omega) (fun g e=>by cases e;omega),.inr ⟨v,es,he,rfl,hrow3.mono (by omega),hlies⟩⟩;have c3:(w2.setCell ⟨w.heap.size+1,0,none⟩ v).cell? ⟨w.heap.size+1,0,none⟩=some v:=World.cell?_setCell_same _ _ _ c2;obtain⟨va,vc,rfl⟩:=As hrow.own;obtain⟨vl,hvl⟩:∃vl,es.length=vl:=⟨_,rfl⟩
   rw[hvl]at HF c2 c3;clear hrow hrow2 hrow3 hv hv2 he hlies hsame hBl hB1 hB2 hg hvl;go_wp2;refine bodyPost_ret (v:=.tuple #[.slice va vl vc,.int .i64 0]) ?_ rfl (Aa HF);simp[results,Tryz.results41,go_sem,c3]
 . have hv2:=(hsame (w.heap.size+1) (by omega) (by omega)).trans hv;have c2:=Ac (i:=0) hv2;simp only[VZ,VX]at c2;have f2:=frozen_of_row w2 (w.heap.size+1) 0 _ _ hv2;have hg:=Ad w2 (w.heap.size+1) 0 (.slice none 0 0);have HF:Hid (EnA w bs n (.returned (.tuple #[.slice none 0 0,.int .i64 7])) (w2.setCell ⟨w.heap.size+1,0,none⟩ (.slice none 0 0))):=Ab ⟨hB2.grown hg (by omega) (fun g e=>by cases e;omega),.inl ⟨he,rfl⟩⟩;have c3:(w2.setCell ⟨w.heap.size+1,0,none⟩ (.slice none 0 0)).cell? ⟨w.heap.size+1,0,none⟩=some (.slice none 0 0):=World.cell?_setCell_same _ _ _ c2;clear hv hv2 he hsame hBl hB1 hB2 hg;go_wp2;refine bodyPost_ret (v:=.tuple #[.slice none 0 0,.int .i64 7]) ?_ rfl (Aa HF);simp[results,Tryz.results41,go_sem,c3]
def fcells (xs:List Fv):List Value:=xs.flatMap Fv.cells
theorem EB (xs ys:List Fv):fcells (xs++ys)=fcells xs++fcells ys:=by simp[fcells]
theorem DZ (y:Fv):fcells [y]=y.cells:=by simp[fcells]
theorem Rn:∀(xs:List Fv) (j:Nat) (x:Fv) (i:Nat),xs[j]? =some x->i<5->(fcells xs)[j*5+i]? =x.cells[i]?
 | [],j,x,i,h,_=>by simp at h
 |y::r,0,x,i,h,hi=>by
  have:fcells (y::r)=y.cells++fcells r:=rfl
  simp at h
  subst h;rw[this,YI,WI,WL (show i<5 from hi)]
 |y::r,j+1,x,i,h,hi=>by
  have e:fcells (y::r)=y.cells++fcells r:=rfl;have hl:y.cells.length=5:=rfl;have ih:=Rn r j x i (by simpa using h) hi;rw[e,VS (by rw[hl];omega),hl,show (j+1)*5+i-5=j*5+i by omega,ih]
theorem MY (y:Fv):∀u∈y.cells,u.oneCell'=true:=by
 intro u hu;simp only[Fv.cells,Fv.sl,WE,XB,or_false]at hu
 rcases hu with rfl|rfl|rfl|rfl|rfl<;>rfl
theorem KI:(Tryz.prog.info? 30).map (fun i=>(i.zero,i.size,i.bytes))=some (some (.agg #[.string ⟨#[]⟩,.slice none 0 0,.int .i64 0,.int .i64 0,.bool false]),5,64):=by kernel_rfl
def Ev.fv (x:Ev):Fv:=⟨x.e.f,x.fa,x.fc⟩
structure GR (w:World)(B:Nat)(v:Value)(xs:List Ev):Prop where
 own:w.ownsRow B 30 5 v xs.length (fcells (xs.map Ev.fv))
 all:∀x∈xs,EvIn w x
 apart:∀x∈xs,x.lies (fun g=>some g≠v.ownBlock)
theorem GR.nil (w:World)(B:Nat):GR w B (.slice none 0 0) []:=⟨World.ownsRow_nil _ _ _ _,(fun x hx=>absurd hx XB),(fun x hx=>absurd hx XB)⟩
theorem GR.below {w w':World}{B:Nat}{v:Value}{xs:List Ev}(h:GR w B v xs)(hB:Below w.heap.size w w'):GR w' B v xs:=
 ⟨Dj h.own (fun g hg=>hB.block g (h.own.lt g hg).2),fun x hx=>(h.all x hx).below hB,h.apart⟩
theorem Ny (w:World){ops:Array Oper}{rest:List Oper}{o:Oper}{a:Act}{Q:Exit->Act->World->Prop}(hgd:o.guard=none)(s x:Operand)
 (ho:o.op=.call {callee:=.builtin .append,args:= #[s,x],argTypes:= #[22,22]}) (base:Nat) (v:Value) (xs:List Ev) (hs:a.eval s=v) (hown:GR w base v xs)
 (g:Nat) (y:Ev) (hx:a.eval x=.slice (some ⟨g,0,none⟩) 1 1) (hc:∀j u,y.fv.cells[j]? =some u->w.cell? ⟨g,j,none⟩=some u) (hy:EvIn w y) (hyb:y.lies (fun g=>some g≠v.ownBlock)) (hsz:xs.length+1<=100000) (hbase:base<=w.heap.size)
 (h:∀v' w',Hid (GR w' base v' (xs++ [y]))->Hid (w.grownBy w' v.ownBlock)->Hid (Below base w w')->wpList Tryz.prog ops Q rest (a.put o.dst v') w'):wpList Tryz.prog ops Q (o::rest) a w:=by
 obtain⟨i0,hi,hz0,hz1,hz2⟩:=info_parts KI;refine wpList_append_own_at w hgd s x 22 ho base 30 i0 _ 5 64 Tryz.underlying22 hi hz0 hz1 hz2 rfl (by decide) v xs.length (fcells (xs.map Ev.fv)) hs hown.own ⟨g,0,none⟩ 1 1 y.fv.cells hx rfl ?_ (MY y.fv) (by unfold maxLen;omega) (by omega) hbase ?_
 . intro j u hj;have e2:(⟨g,0,none⟩:Addr).add j=⟨g,j,none⟩:=by unfold Addr.add;split<;>simp_all
   rw[e2];exact hc j u hj
 . intro v' w' h1 h2 _ h4
   have hne:∀z∈xs++ [y],z.lies (fun g=>some g≠v.ownBlock):=by
    intro z hz
    rcases WJ.1 hz with hz|hz
    . exact hown.apart z hz
    . rw[WQ.1 hz];exact hyb
   have hin:∀z∈xs++ [y],EvIn w z:=by
    intro z hz
    rcases WJ.1 hz with hz|hz
    . exact hown.all z hz
    . rw[WQ.1 hz];exact hy
   refine h v' w' (Ab ⟨?_,fun z hz=>(hin z hz).grown h2 (hne z hz),fun z hz=> ?_⟩) (Ab h2) (Ab ((Below.refl base w).grown h2 hbase (fun k e=>(hown.own.lt k e).1)))
   . rw[WS,EB,List.map_singleton,DZ,VB];exact h1
   . have hl:=(hin z hz).lt;have hn:=hne z hz
     rcases h4 with h4|h4
     . rw[h4];exact hn
     . rw[h4];exact hl.mono (fun g hg e=>by have:=VQ e;omega)
theorem GR.files {w:World}{B:Nat}{v:Value}{xs:List Ev}(h:GR w B v xs)(hl:xs.length<=100000):∃ad c,v=.slice ad xs.length c/\FsIn w ad c (xs.map Ev.fv):=by
 have hall:∀x∈xs.map Ev.fv,FvIn w x:=by
  intro x hx;obtain⟨y,hy,rfl⟩:=XC.1 hx;exact(h.all y hy).fv
 have hlen:(xs.map Ev.fv).length=xs.length:=by simp
 rcases h.own.2 with ⟨h1,h2⟩|⟨g,cap,cur,h1,h2,h3,h4,h5,h6⟩
 . have:xs= []:=WX h2
   subst this;exact⟨none,0,h1,FsIn.nil w⟩
 . refine⟨some ⟨g,0,none⟩,cap,h1,.inr ⟨g,0,rfl,(h.own.lt g (by rw[h1];rfl)).2, ?_⟩,by rw[hlen];exact h4,by unfold maxLen at h5;exact h5,by rw[hlen];omega,hall⟩;intro j x hj;have hjl:=(XO.1 hj).1;rw[hlen]at hjl
   have hc:∀i u,i<5->x.cells[i]? =some u->w.cell? ⟨g,0+j*5+i,none⟩=some u:=by
    intro i u hi hu;have e:=Rn (xs.map Ev.fv) j x i hj hi;have hown:=h.own;rw[h1]at hown;rw[WI,hown.cellAt _ (by omega)];rw[e,hu]
   exact⟨hc 0 _ (by decide) rfl,hc 1 _ (by decide) rfl,hc 2 _ (by decide) rfl,hc 3 _ (by decide) rfl,hc 4 _ (by decide) rfl⟩
theorem P8 (ad:Option Addr)(c n:Nat)(es:List Ev)(w:World)(h:EsIn w ad c es)(hl:es.length=n)(hn:n<=20000):
 Calls Tryz.prog 42 #[.slice ad n c] w fun e w'=>∃v,e=.returned v/\GR w' w.heap.size v es/\Below w.heap.size w w':=by
 have HI:=Ab h;have HL:=Ab hl;clear h hl;go_enter Tryz.func42,Tryz.ntmps42
 go_wp2;go_loopw [3,5,8] (fun v3 _ i wr=>∃k:Nat,k<=n/\i=.int .i64 (k:Int)/\Hid (GR wr w.heap.size v3 (es.take k))/\Hid (Below w.heap.size w wr)) (fun _ _ i _=>n-(intOf i).toNat)
 case atStart=>exact⟨0,VK _,rfl,Ab (GR.nil _ _),Ab (Below.refl _ _)⟩
 case round=>
  obtain⟨k,hk,rfl,HG,HB⟩:=hrel
  by_cases hlt:k<n
  . obtain⟨x,hx,hxm⟩:∃x,es[k]? =some x/\x∈es:=⟨es[k]'(by rw[Aa HL];exact hlt),VR _,WK _⟩
    obtain⟨b,o,rfl,hb,c0,c1,c2,c3,c4,c5,c6,c7⟩:=(Aa HI).get (Aa HB) hx;have hz:=(Aa HB).size;have hxi:=(Aa HI).all x hxm;have HTK:=Ab (Fj hx);have HXI:=Ab (fun o1 o2:Obj=>(hxi.below ((Aa HB).trans ((Below.refl w.heap.size wr).alloc hz o1))).below ((Below.refl _ _).alloc (VC _) o2));have hlies:x.lies (fun g=>some g≠u3.ownBlock):=hxi.lt.mono (fun g hg e=>by have:=((Aa HG).own.lt g e.symm).1;omega);have HXL:=Ab hlies;have HG1:=Ab (fun o1 o2:Obj=>((Aa HG).below ((Below.refl _ _).alloc (VC _) o1)).below ((Below.refl _ _).alloc (VC _) o2));have HB1:=Ab (fun o1 o2:Obj=>((Aa HB).alloc hz o1).alloc (by simp;omega) o2);have htl:(es.take k).length+1<=100000:=by rw[VM];omega
    have HTL:=Ab htl
    have HCE:Hid (∀o1 o2,o2=Obj.cells x.fv.cells.toArray 30->∀j u,x.fv.cells[j]? =some u->((wr.alloc o1).alloc o2).cell? ⟨wr.heap.size+1,j,none⟩=some u):=Ab (fun o1 o2 e j u hj=>by
     subst e;have h9:=heap_alloc_new (wr.alloc o1) (.cells x.fv.cells.toArray 30);simp only[World.size_alloc]at h9;rw[Ac h9];simpa using hj)
    clear hx hxm hxi hlies htl;go_wp2_with (at_builtin;refine Ny _ rfl _ _ rfl w.heap.size _ (es.take k) rfl (Aa HG1 _ _) (wr.heap.size+1) x rfl (Aa HCE _ _ rfl) (Aa HXI _ _) (Aa HXL) (Aa HTL) (by simp;omega) ?_)
    intro v' w3 hG3 _ hB3;have HG3:Hid (GR w3 w.heap.size v' (es.take (k+1))):=Ab (by rw[Aa HTK];exact Aa hG3);have HB3:=Ab ((Aa HB1 _ _).trans (Aa hB3));clear hG3 hB3 c0 c1 c2 c3 c4 c5 c6 c7;go_wp2;go_roundw
    case rel=>exact⟨k+1,by omega,by go_num,HG3,HB3⟩
    case measure=>simp[intOf];omega
  . obtain rfl:n=k:=by omega
    have hta:es.take n=es:=VP (by rw[Aa HL];exact VC _);have HTA:=Ab hta;clear hta;go_wp2;go_ret;exact⟨_,rfl,by have:=Aa HG;rw[Aa HTA]at this;exact this,Aa HB⟩
theorem GT {l:List En}{k:Nat}{x:En}(h:l[k]? =some x):Qb (l.drop k)=(decide (x.crc=crcN 0 (n8 x.f.bytes))&&Qb (l.drop (k+1))):=by
 obtain⟨hk,e⟩:=XO.1 h;rw[WU hk,e];rfl
theorem Yo (ad:Option Addr)(c n:Nat)(es:List Ev)(w:World)(h:EsIn w ad c es)(hl:es.length=n)(hn:n<=20000)(hb:∀x∈es,x.e.f.bytes.length<=12000)(S:Bool)(hS:Qb (es.map Ev.e)=S):
 Calls Tryz.prog 43 #[.slice ad n c] w fun e w'=>e=.returned (.bool S)/\Below w.heap.size w w':=by
 have HI:=Ab h;have HL:=Ab hl;have HBY:=Ab hb;have HS:=Ab hS;clear h hl hb hS;go_enter Tryz.func43,Tryz.ntmps43
 go_wp2;go_loopw [4,7] (fun _ i wr=>∃k:Nat,k<=n/\i=.int .i64 (k:Int)/\Hid (Qb ((es.map Ev.e).drop k)=S)/\Hid (Below w.heap.size w wr)) (fun _ i _=>n-(intOf i).toNat)
 case atStart=>exact⟨0,VK _,rfl,Ab (Aa HS),Ab (Below.refl _ _)⟩
 case round=>
  obtain⟨k,hk,rfl,HT,HB⟩:=hrel
  by_cases hlt:k<n
  . obtain⟨x,hx,hxm⟩:∃x,es[k]? =some x/\x∈es:=⟨es[k]'(by rw[Aa HL];exact hlt),VR _,WK _⟩
    obtain⟨b,o,rfl,hb,c0,c1,c2,c3,c4,c5,c6,c7⟩:=(Aa HI).get (Aa HB) hx;have hz:=(Aa HB).size;have hxi:=(Aa HI).all x hxm;have hst:=GT (l:=es.map Ev.e) (k:=k) (x:=x.e) (by simp[hx]);rw[Aa HT]at hst;have hcr:=fun(W:World) (hW:Below w.heap.size w W)=>S9 x.fa x.e.f.bytes.length x.fc (n8 x.e.f.bytes) W (Cd _) (Aa HBY x hxm) (hxi.below hW).fb.1 (Cv (Ir _))
    obtain⟨x,fa,fc,pa,pc⟩:=x;obtain⟨⟨nml,bys,st,nd,gn⟩,mt,pk,cr⟩:=x;dsimp only at c0 c1 c2 c3 c4 c5 c6 c7 hst hcr;obtain⟨m,hm⟩:∃m,crcN 0 (n8 bys)=m:=⟨_,rfl⟩
    rw[hm]at hst hcr;generalize B nml=nm at c0;generalize bys.length=bl at c1 hcr;generalize pk.length=pl at c6;obtain⟨w1,hw1⟩:∃w1,wr.alloc (.cells #[.string nm,.slice fa bl fc,.int .i64 st,.int .i64 nd,.bool gn,.int .u32 (mt:Int),.slice pa pl pc,.int .u32 (cr:Int)] 71)=w1:=⟨_,rfl⟩
    have hX:w1.heap[wr.heap.size]? =some (.cells #[.string nm,.slice fa bl fc,.int .i64 st,.int .i64 nd,.bool gn,.int .u32 (mt:Int),.slice pa pl pc,.int .u32 (cr:Int)] 71 (0,0)):=by rw[<-hw1];exact heap_alloc_new _ _
    have hB1:Below w.heap.size w w1:=by rw[<-hw1];exact(Aa HB).alloc hz _
    have hlt1:wr.heap.size<w1.heap.size:=(VL.1 hX).1;have e1:=Ac (i:=1) hX;have e7:=Ac (i:=7) hX;simp only[VZ,VX,WF]at e1 e7;have k1:∀W:World,Below w1.heap.size w1 W->W.cell? ⟨wr.heap.size,1,none⟩=some (.slice fa bl fc):=fun W hW=>(hW.cell (p:=⟨wr.heap.size,1,none⟩) hlt1).trans e1
    have k7:∀W:World,Below w1.heap.size w1 W->W.cell? ⟨wr.heap.size,7,none⟩=some (.int .u32 (cr:Int)):=fun W hW=>(hW.cell (p:=⟨wr.heap.size,7,none⟩) hlt1).trans e7
    have HCR:=Ab (fun(W:World) (hW:Below w1.heap.size w1 W)=>hcr W (hB1.trans (hW.mono (by omega))));have HW1:=Ab hw1;have HB1:=Ab hB1;have hz1:=hB1.size;clear hx hxm hxi hcr hm hw1 hX hB1 e1 e7
    by_cases hc:cr=m
    . subst hc;rw[decide_eq_true rfl,ZN]at hst;have HST:=Ab hst;clear hst;go_wp2;rw[Aa HW1];go_region_held3 (fun W=>Below w1.heap.size w1 W) (first|exact Fz (Below.refl _ _)|exact hb6) ((go_at_call 53;refine(Aa HCR _ (Fz (Below.refl _ _))).mono ?_;rintro e w5 ⟨rfl,hb5⟩;have hb6:Below w1.heap.size w1 w5:=(Fz (Below.refl _ _)).trans hb5;clear hb5))
      clear k1 k7 c0 c1 c2 c3 c4 c5 c6 c7;have HB6:=Ab hb6;clear hb6;go_wp2;go_roundw
      case rel=>exact⟨k+1,by omega,by go_num,Ab (Aa HST).symm,Ab ((Aa HB1).trans ((Aa HB6).mono hz1))⟩
      case measure=>simp[intOf];omega
    . rw[decide_eq_false hc,Bool.false_and]at hst;subst hst;have hcb:((cr:Int)==(m:Int))=false:=by rw[beq_eq_false_iff_ne];omega
      have hci:¬(cr:Int)=(m:Int):=by omega
      go_wp2;rw[Aa HW1];go_region_held3 (fun W=>Below w1.heap.size w1 W) (first|exact Fz (Below.refl _ _)|exact hb6) ((go_at_call 53;refine(Aa HCR _ (Fz (Below.refl _ _))).mono ?_;rintro e w5 ⟨rfl,hb5⟩;have hb6:Below w1.heap.size w1 w5:=(Fz (Below.refl _ _)).trans hb5;clear hb5))
      clear k1 k7 c0 c1 c2 c3 c4 c5 c6 c7;have HB6:=Ab hb6;clear hb6;go_wp2;go_ret;exact⟨rfl,(Aa HB1).trans ((Aa HB6).mono hz1)⟩
  . obtain rfl:n=k:=by omega
    have hta:(es.map Ev.e).drop n= []:=XV (by simp[Aa HL]);have hst:=Aa HT;rw[hta]at hst;have hSt:S=true:=hst.symm;subst hSt;clear hta hst;go_wp2;go_ret;exact⟨rfl,Aa HB⟩
end Go.Proofs.YtleocpdblhbimaaGreatDoor
