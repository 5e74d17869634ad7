import Derived.Test.YtleocpdblhbimaaGreatDoorQ6
import Derived.Deep.RegionHeld3
import Derived.Deep.RegionWith
import Derived.Maps.Own
import Derived.Lib.ConvBytes
set_option linter.unusedSimpArgs false
set_option maxHeartbeats 2000000
namespace Go.Proofs.YtleocpdblhbimaaGreatDoor
open Go.RowKit
set_option linter.unusedVariables false
set_option maxRecDepth 100000
theorem SJ {w:World}{a:Option Addr}{c:Nat}{bs:List UInt8}(h:BsIn w a c bs):PkIn w a c (n8 bs):=by
 rcases h with ⟨rfl,rfl,rfl⟩|⟨rfl,ad,rfl⟩|⟨b,o,rfl,h2,h3,h4⟩
 . exact⟨.inl rfl,fun _=>rfl⟩
 . exact⟨.inl rfl,fun e=>by cases e⟩
 . refine⟨.inr ⟨b,o,rfl,h2,fun j hj=> ?_⟩,fun e=>by cases e⟩;rw[Cd]at hj;rw[h4 j hj];simp[n8,List.getD,hj]
theorem Z3f {w:World}{a:Option Addr}{c:Nat}{ys:List Nat}(h:PkIn w a c ys)(hc:ys.length<=c)(hv:∀x∈ys,x<256):BsIn w a c (o8 ys):=by
 cases a with
 |none=>
  have h0:=h.2 rfl;have:ys= []:=WX (by omega)
  subst this;exact .inl ⟨rfl,rfl,h0⟩
 |some ad=>
  rcases h.1 with rfl|⟨b,o,e,hb,hB⟩
  . exact .inr (.inl ⟨rfl,ad,rfl⟩)
  . refine .inr (.inr ⟨b,o,e,hb,by rw[Fr];exact hc,fun j hj=> ?_⟩);rw[Fr]at hj;rw[hB j hj];have h1:=hv ys[j] (WK hj);simp[o8,List.getD,hj]
    omega
structure EvIn (w:World)(x:Ev):Prop where
 fb:PkIn w x.fa x.fc (n8 x.e.f.bytes)
 fl:x.e.f.bytes.length<=x.fc
 big:x.e.f.bytes.length<=140737488355328
 txt:x.e.f.name.length<=140737488355328
 pk:PkIn w x.pa x.pc x.e.pk
theorem EvIn.below {w w':World}{x:Ev}(h:EvIn w x)(hB:Below w.heap.size w w'):EvIn w' x:=⟨h.fb.below hB,h.fl,h.big,h.txt,h.pk.below hB⟩
theorem EvIn.fv {w:World}{x:Ev}(h:EvIn w x):FvIn w ⟨x.e.f,x.fa,x.fc⟩:=⟨by have:=Z3f h.fb (by rw[Cd];exact h.fl) (Ir _);rw[CW]at this;exact this,h.big,h.txt⟩
theorem Z2m {w:World}{a:Option Addr}{c:Nat}{bs:List UInt8}(h:BsIn w a c bs):bs.length<=c:=by
 rcases h with ⟨rfl,rfl,rfl⟩|⟨rfl,ad,rfl⟩|⟨b,o,rfl,h2,h3,h4⟩
 . exact VC _
 . exact VK _
 . exact h3
theorem PkIn.grown {w w':World}{c:Nat}{r:Option Nat}{a:Option Addr}{ys:List Nat}(h:PkIn w a c ys)(hg:w.grownBy w' r)(hX:∀g o,a=some ⟨g,o,none⟩->ys≠ []->some g≠r):PkIn w' a c ys:=by
 refine⟨?_,h.2⟩
 by_cases h0:ys= []
 . exact .inl h0
 . rcases h.1 with h1|⟨b,o,e,hb,hc⟩
   . exact absurd h1 h0
   . exact .inr ⟨b,o,e,VG hb hg.size,hc.grown hg (hX b o e h0)⟩
def Ev.lies (x:Ev)(Pr:Nat->Prop):Prop:=(∀g o,x.fa=some ⟨g,o,none⟩->x.e.f.bytes≠ []->Pr g)/\(∀g o,x.pa=some ⟨g,o,none⟩->x.e.pk≠ []->Pr g)
theorem JP {l:List UInt8}(h:n8 l≠ []):l≠ []:=fun e=>h (by rw[e];rfl)
theorem EvIn.grown {w w':World}{x:Ev}{r:Option Nat}(h:EvIn w x)(hg:w.grownBy w' r)(hr:x.lies (fun g=>some g≠r)):EvIn w' x:=
 ⟨h.fb.grown hg (fun g o e1 e2=>hr.1 g o e1 (JP e2)),h.fl,h.big,h.txt,h.pk.grown hg (fun g o e1 e2=>hr.2 g o e1 e2)⟩
theorem Ev.lies.mono {x:Ev}{A C:Nat->Prop}(h:x.lies A)(hm:∀g,A g->C g):x.lies C:=⟨fun g o e1 e2=>hm g (h.1 g o e1 e2),fun g o e1 e2=>hm g (h.2 g o e1 e2)⟩
theorem EvIn.lt {w:World}{x:Ev}(h:EvIn w x):x.lies (fun g=>g<w.heap.size):=by
 constructor
 . intro g o e1 e2
   rcases h.fb.1 with h1|⟨b,o',e,hb,_⟩
   . exact absurd (by rw[<-CW x.e.f.bytes,h1];rfl) e2
   . rw[e1]at e;cases e;exact hb
 . intro g o e1 e2
   rcases h.pk.1 with h1|⟨b,o',e,hb,_⟩
   . exact absurd h1 e2
   . rw[e1]at e;cases e;exact hb
theorem Wa {w:World}{a:Option Addr}{c:Nat}{ys:List Nat}(h:PkIn w a c ys):∀g o,a=some ⟨g,o,none⟩->ys≠ []->g<w.heap.size:=by
 intro g o e hne
 rcases h.1 with h1|⟨b,o',e',hb,_⟩
 . exact absurd h1 hne
 . rw[e]at e';cases e';exact hb
theorem Fj {α:Type}{l:List α}{k:Nat}{x:α}(h:l[k]? =some x):l.take (k+1)=l.take k++ [x]:=by
 obtain⟨hk,e⟩:=XO.1 h;rw[WR hk,e]
def ecells (xs:List Ev):List Value:=xs.flatMap Ev.cells
theorem EI (xs:List Ev):(ecells xs).length=xs.length*8:=by
 induction xs with
 |nil=>rfl
 |cons x r ih=>
  have:ecells (x::r)=x.cells++ecells r:=rfl
  rw[this,VB,ih,VJ];show 8+_=_
  omega
theorem EJ (xs ys:List Ev):ecells (xs++ys)=ecells xs++ecells ys:=by simp[ecells]
theorem EH (y:Ev):ecells [y]=y.cells:=by simp[ecells]
theorem E6:∀(xs:List Ev) (j:Nat) (x:Ev) (i:Nat),xs[j]? =some x->i<8->(ecells xs)[j*8+i]? =x.cells[i]?
 | [],j,x,i,h,_=>by simp at h
 |y::r,0,x,i,h,hi=>by
  have:ecells (y::r)=y.cells++ecells r:=rfl
  simp at h
  subst h;rw[this,YI,WI,WL (show i<8 from hi)]
 |y::r,j+1,x,i,h,hi=>by
  have e:ecells (y::r)=y.cells++ecells r:=rfl;have hl:y.cells.length=8:=rfl;have ih:=E6 r j x i (by simpa using h) hi;rw[e,VS (by rw[hl];omega),hl,show (j+1)*8+i-8=j*8+i by omega,ih]
theorem Q3 (y:Ev):∀u∈y.cells,u.oneCell'=true:=by
 intro u hu;simp only[Ev.cells,WE,XB,or_false]at hu
 rcases hu with rfl|rfl|rfl|rfl|rfl|rfl|rfl|rfl<;>rfl
structure ERow (w:World)(B:Nat)(v:Value)(xs:List Ev):Prop where
 own:w.ownsRow B 71 8 v xs.length (ecells xs)
 all:∀x∈xs,EvIn w x
 apart:∀x∈xs,x.lies (fun g=>some g≠v.ownBlock)
theorem ERow.nil (w:World)(B:Nat):ERow w B (.slice none 0 0) []:=⟨World.ownsRow_nil _ _ _ _,(fun x hx=>absurd hx XB),(fun x hx=>absurd hx XB)⟩
theorem ERow.below {w w':World}{B:Nat}{v:Value}{xs:List Ev}(h:ERow w B v xs)(hB:Below w.heap.size w w'):ERow w' B v xs:=
 ⟨Dj h.own (fun g hg=>hB.block g (h.own.lt g hg).2),fun x hx=>(h.all x hx).below hB,h.apart⟩
theorem DK:(Tryz.prog.info? 71).map (fun i=>(i.zero,i.size,i.bytes))=some (some (.agg #[.string ⟨#[]⟩,.slice none 0 0,.int .i64 0,.int .i64 0,.bool false,.int .u32 0,.slice none 0 0,.int .u32 0]),8,104):=by kernel_rfl
theorem Fi (w:World){ops:Array Oper}{rest:List Oper}{o:Oper}{a:Act}{Q:Exit->Act->World->Prop}(hgd:o.guard=none)(s x:Operand)
 (ho:o.op=.call {callee:=.builtin .append,args:= #[s,x],argTypes:= #[69,69]}) (base:Nat) (v:Value) (xs:List Ev) (hs:a.eval s=v) (hown:ERow w base v xs)
 (g:Nat) (y:Ev) (hx:a.eval x=.slice (some ⟨g,0,none⟩) 1 1) (hc:∀j u,y.cells[j]? =some u->w.cell? ⟨g,j,none⟩=some u) (hy:EvIn w y) (hyb:y.lies (fun g=>some g≠v.ownBlock)) (hsz:xs.length+1<=100000) (hbase:base<=w.heap.size)
 (h:∀v' w',Hid (ERow w' base v' (xs++ [y]))->Hid (w.grownBy w' v.ownBlock)->wpList Tryz.prog ops Q rest (a.put o.dst v') w'):wpList Tryz.prog ops Q (o::rest) a w:=by
 obtain⟨i0,hi,hz0,hz1,hz2⟩:=info_parts DK;refine wpList_append_own_at w hgd s x 69 ho base 71 i0 _ 8 104 Tryz.underlying69 hi hz0 hz1 hz2 rfl (by decide) v xs.length (ecells xs) hs hown.own ⟨g,0,none⟩ 1 1 y.cells hx rfl ?_ (Q3 y) (by unfold maxLen;omega) (by omega) hbase ?_
 . intro j u hj;have e2:(⟨g,0,none⟩:Addr).add j=⟨g,j,none⟩:=by unfold Addr.add;split<;>simp_all
   rw[e2];exact hc j u hj
 . intro v' w' h1 h2 _ h4
   have hne:∀z∈xs++ [y],z.lies (fun g=>some g≠v.ownBlock):=by
    intro z hz
    rcases WJ.1 hz with hz|hz
    . exact hown.apart z hz
    . rw[WQ.1 hz];exact hyb
   have hin:∀z∈xs++ [y],EvIn w z:=by
    intro z hz
    rcases WJ.1 hz with hz|hz
    . exact hown.all z hz
    . rw[WQ.1 hz];exact hy
   refine h v' w' (Ab ⟨?_,fun z hz=>(hin z hz).grown h2 (hne z hz),fun z hz=> ?_⟩) (Ab h2)
   . rw[EJ,EH,VB];exact h1
   . have hl:=(hin z hz).lt;have hn:=hne z hz
     rcases h4 with h4|h4
     . rw[h4];exact hn
     . rw[h4];exact hl.mono (fun g hg e=>by have:=VQ e;omega)
def Es (w:World)(b o:Nat)(xs:List Ev):Prop:=∀j x,xs[j]? =some x->∀i,i<8->w.cell? ⟨b,o+j*8+i,none⟩=x.cells[i]?
structure EsIn (w:World)(ad:Option Addr)(c:Nat)(xs:List Ev):Prop where
 at_:xs= []\/∃b o,ad=some ⟨b,o,none⟩/\b<w.heap.size/\Es w b o xs
 all:∀x∈xs,EvIn w x
theorem EsIn.below {w w':World}{ad:Option Addr}{c:Nat}{xs:List Ev}(h:EsIn w ad c xs)(hB:Below w.heap.size w w'):EsIn w' ad c xs:=by
 refine⟨?_,fun x hx=>(h.all x hx).below hB⟩
 rcases h.at_ with h1|⟨b,o,e,hb,hE⟩
 . exact .inl h1
 . exact .inr ⟨b,o,e,VG hb hB.size,fun j x hj i hi=>(World.cell?_of_block (w:=w) (a:=⟨b,_,none⟩) (hB.block b hb)).trans (hE j x hj i hi)⟩
theorem EsIn.get {w w':World}{ad:Option Addr}{c k:Nat}{xs:List Ev}{x:Ev}(h:EsIn w ad c xs)(hB:Below w.heap.size w w')(hk:xs[k]? =some x):
 ∃b o,ad=some ⟨b,o,none⟩/\b<w.heap.size/\w'.cell? ⟨b,o+k*8,none⟩=some (.string (B x.e.f.name))/\w'.cell? ⟨b,o+k*8+1,none⟩=some (.slice x.fa x.e.f.bytes.length x.fc)/\w'.cell? ⟨b,o+k*8+2,none⟩=some (.int .i64 x.e.f.stamp)/\w'.cell? ⟨b,o+k*8+3,none⟩=some (.int .i64 x.e.f.node)/\w'.cell? ⟨b,o+k*8+4,none⟩=some (.bool x.e.f.gone)/\w'.cell? ⟨b,o+k*8+5,none⟩=some (.int .u32 (x.e.meth:Int))/\w'.cell? ⟨b,o+k*8+6,none⟩=some (.slice x.pa x.e.pk.length x.pc)/\w'.cell? ⟨b,o+k*8+7,none⟩=some (.int .u32 (x.e.crc:Int)):=by
 rcases(h.below hB).at_ with h1|⟨b,o,e,hb,hE⟩
 . subst h1;simp at hk
 . have hb':b<w.heap.size:=by
    rcases h.at_ with h1|⟨b',o',e',hb',_⟩
    . subst h1;simp at hk
    . rw[e]at e';cases e';exact hb'
   exact⟨b,o,e,hb',hE k x hk 0 (by decide),hE k x hk 1 (by decide),hE k x hk 2 (by decide),hE k x hk 3 (by decide),hE k x hk 4 (by decide),hE k x hk 5 (by decide),hE k x hk 6 (by decide),hE k x hk 7 (by decide)⟩
def St:Nat->List En->List Nat
 |_,[]=> []
 |p,x::r=>p::St (p+(Sy x).length) r
theorem X9:∀(a:List En) (x:En) (p:Nat),St p (a++ [x])=St p a++ [p+(Ar a).length]
 | [],x,p=>by simp[St,Ar]
 |y::a,x,p=>by rw[XH,St,X9 a x,St,Ar,VB,XH,WH]
theorem M4:∀(a:List En) (p:Nat),(St p a).length=a.length
 | [],p=>rfl
 |y::a,p=>by rw[St,VJ,M4 a,VJ]
theorem TG:∀(a:List En) (p k:Nat),k<a.length->(St p a).getD k 0=p+(Ar (a.take k)).length
 | [],p,k,h=>by simp at h
 |y::a,p,0,h=>by simp[St,Ar]
 |y::a,p,k+1,h=>by
  have:=TG a (p+(Sy y).length) k (by simpa using h)
  simp only[St,List.getD_cons_succ,XQ,Ar,VB];rw[this];omega
theorem B6 (a:List En)(x:En):Ar (a++ [x])=Ar a++Sy x:=by rw[AJ];simp[Ar]
theorem Tv (a:List En)(x:En):Am 0 (a++ [x])=Am 0 a++Qe x (Ar a).length:=by rw[Yg];simp[Am]
theorem ERow.entries {w:World}{B:Nat}{v:Value}{xs:List Ev}(h:ERow w B v xs):∃ad c,v=.slice ad xs.length c/\EsIn w ad c xs:=by
 rcases h.own.2 with ⟨h1,h2⟩|⟨g,cap,cur,h1,h2,h3,h4,h5⟩
 . exact⟨none,0,by rw[h1,h2],.inl (WX h2),h.all⟩
 . refine⟨some ⟨g,0,none⟩,cap,h1,.inr ⟨g,0,rfl,(h.own.lt g (by rw[h1];rfl)).2,fun j x hj i hi=> ?_⟩,h.all⟩;have hown:=h.own;rw[h1]at hown;have hl:=EI xs;have hj2:=(XO.1 hj).1;rw[WI,hown.cellAt _ (by omega)];exact E6 xs j x i hj hi
structure AS (w:World)(Bs b:Nat)(xs:List Nat)(v:Value)(ps:List Nat)(wr:World):Prop where
 z:∃ov,ZC Bs wr b xs ov
 p:wr.ownsRow (b+1) 3 1 v ps.length (i64s ps)
 below:Below Bs w wr
theorem AS.later {w wr w':World}{Bs b:Nat}{xs ps:List Nat}{v:Value}(h:AS w Bs b xs v ps wr)(hB:Below wr.heap.size wr w'):AS w Bs b xs v ps w':=by
 obtain⟨ov,hz⟩:=h.z;refine⟨⟨ov,hz.later hB⟩,Dj h.p (fun g hg=>hB.block g (h.p.lt g hg).2),h.below.trans (hB.mono (by have:=hz.lt;have:=hz.base;omega))⟩
theorem AS.app {w W w3:World}{Bs b y:Nat}{xs ps:List Nat}{v v':Value}(h:AS w Bs b xs v ps W)(hg:W.grownBy w3 v.ownBlock)(ho:w3.ownsRow (b+1) 3 1 v' (ps.length+1) (i64s ps++ [.int .i64 (y:Int)])):AS w Bs b xs v' (ps++ [y]) w3:=by
 obtain⟨ov,hz⟩:=h.z;have hlt:=hz.lt;have hbb:=hz.base;have hgs:=hg.size;refine⟨⟨ov,hz.base, ?_, ?_⟩, ?_, ?_⟩
 . refine(hg.block b hlt (fun e=> ?_)).trans hz.cell;have:=(h.p.lt b e.symm).1
   omega
 . refine Dj hz.own (fun g hgo=>hg.block g (hz.own.lt g hgo).2 (fun e=> ?_));obtain⟨c1,e1⟩:=Ow hz.own hgo;obtain⟨c2,e2⟩:=Ow h.p e.symm;rw[e1]at e2
   injection e2 with e2
   injection e2 with _ e2
   exact absurd e2 (by decide)
 . rw[VB,i64s,WS];exact ho
 . exact h.below.grown hg (by omega) (fun g e=>by have:=(h.p.lt g e).1;omega)
theorem AS.up {w w3 w4:World}{Bs b:Nat}{xs ys ps:List Nat}{v:Value}(h:AS w Bs b xs v ps w3)(hU:ZUp Bs w3 b ys w4):AS w Bs b ys v ps w4:=by
 refine⟨hU.is,Dj h.p (fun g hg=> ?_),h.below.trans hU.below⟩;obtain⟨cs,e⟩:=Ow h.p hg;rw[e];exact hU.kp g cs _ _ (by decide) (by decide) e
theorem KH:(Tryz.prog.info? 3).map (fun i=>(i.zero,i.size,i.bytes))=some (some (.int .i64 0),1,8):=by kernel_rfl
theorem KW:∀(l:List En),(∀x∈l,ENum x)->(Ar l).length<=12081*l.length
 | [],_=>by simp[Ar]
 |x::r,h=>by
  have h1:=KW r (fun y hy=>h y (WM _ hy));have h2:=h x (by simp);have h3:=h2.nm;have h4:=h2.pl;rw[Ar,VB,Gc,VJ];omega
theorem W4:∀(l:List En) (p:Nat),(∀x∈l,ENum x)->(Am p l).length<=97*l.length
 | [],p,_=>by simp[Am]
 |x::r,p,h=>by
  have h1:=W4 r (p+(Sy x).length) (fun y hy=>h y (WM _ hy));have h3:=(h x (by simp)).nm;rw[Am,VB,Jk,VJ];omega
abbrev N9:Array MapEntry:= #[{key:=.bool true,val:=.int .i64 1,born:=0}]
theorem Z1o (X:World):(Instr.mapUpdate 111 (.map (some X.heap.size)) (.bool true) (.int .i64 1)).run Tryz.prog (X.alloc (.map #[] 0))=.ok () (X.alloc (.map N9 1)):=by
 have hb:(X.alloc (.map #[] 0)).heap[X.heap.size]? =some (.map #[] 0):=heap_alloc_new X _;have hk:=Tryz.underlying4;have hf:Instr.findNow .bool (.bool true) ([]:List MapEntry) 0=some none:=rfl;have hc:(Instr.checkKey false 10000 4 (.bool true)).run Tryz.prog (X.alloc (.map #[] 0))=.ok () (X.alloc (.map #[] 0)):=MapKept.run_checkKey (k:=.bool true) hk (by simp[MapKept.IsKey]) false 9999
 have he: {X.alloc (.map #[] 0)with heap:=(X.alloc (.map #[] 0)).heap.setIfInBounds X.heap.size (.map N9 1)}=X.alloc (.map N9 1):=by
  have e1:(X.alloc (.map #[] 0)).heap.setIfInBounds X.heap.size (.map N9 1)=(X.alloc (.map N9 1)).heap:=by
   show (X.heap.push (.map #[] 0)).setIfInBounds X.heap.size (.map N9 1)=X.heap.push (.map N9 1)
   apply Array.ext
   . simp
   . intro i h1 h2;simp only[Array.size_setIfInBounds,YS]at h1;rw[Array.getElem_setIfInBounds]
     by_cases hi:X.heap.size=i
     . subst hi;simp
     . rw[if_neg hi,Array.getElem_push_lt (by omega),Array.getElem_push_lt (by omega)]
     . simpa using h1
  rw[e1];rfl
 simp only[Instr.mapUpdate,Sem.run_bind,run_underlying Tryz.underlying111,MapKept.run_getObj_map hb,hc,MapKept.run_findKey hk hf,MapKept.run_setObj_map _ hb,Result.andThen];exact congrArg (Result.ok ()) he
theorem QT (W:World)(r:Nat)(g:Bool)(hb:W.heap[r]? =some (.map N9 1)):(Instr.lookup 111 (.map (some r)) (.bool g) false).run Tryz.prog W=.ok (.int .i64 (if g then 1 else 0)) W:=by
 have hk:=Tryz.underlying4;have hc:(Instr.checkKey false 10000 4 (.bool g)).run Tryz.prog W=.ok () W:=MapKept.run_checkKey (k:=.bool g) hk (by simp[MapKept.IsKey]) false 9999;have hf:Instr.findNow .bool (.bool g) N9.toList 0=some (if g then some (0,.int .i64 1)else none):=by cases g<;>rfl
 have hz:(zeroValue 3).run Tryz.prog W=.ok (.int .i64 0) W:=Tryz.zeroValue3 W
 cases g
 . simp[Instr.lookup,run_underlying Tryz.underlying111,MapKept.run_getObj_map hb,hc,MapKept.run_findKey hk hf,hz,Result.andThen]
 . simp[Instr.lookup,run_underlying Tryz.underlying111,MapKept.run_getObj_map hb,hc,MapKept.run_findKey hk hf,Result.andThen]
end Go.Proofs.YtleocpdblhbimaaGreatDoor
namespace Go.Proofs.YtleocpdblhbimaaGreatDoor
open Go.RowKit
set_option linter.unusedVariables false
set_option maxRecDepth 100000
structure EWd (x:En):Prop where
 st:0<=x.f.stamp/\x.f.stamp<4294967296
 nd:0<=x.f.node/\x.f.node<65536
 nm:x.f.name.length<=12000
 bl:x.f.bytes.length<=12000
 pl:x.pk.length<=12000
 cr:x.crc<4294967296
 mt:x.meth<65536
theorem AH:∀(l:List En),(∀x∈l,EWd x)->(Ar l).length<=24041*l.length
 | [],_=>by simp[Ar]
 |x::r,h=>by
  have h1:=AH r (fun y hy=>h y (WM _ hy));have h2:=(h x (by simp)).nm;have h3:=(h x (by simp)).pl;rw[Ar,VB,Gc,VJ];omega
theorem Yf:∀(l:List En) (p:Nat),(∀x∈l,EWd x)->(Am p l).length<=12057*l.length
 | [],p,_=>by simp[Am]
 |x::r,p,h=>by
  have h1:=Yf r (p+(Sy x).length) (fun y hy=>h y (WM _ hy));have h2:=(h x (by simp)).nm;rw[Am,VB,Jk,VJ];omega
def Ev.rcells (x:Ev):List Value:= [.string (B x.e.f.name),.slice x.fa x.e.f.bytes.length x.fc,.int .i64 x.e.f.stamp,.int .i64 x.e.f.node,.bool x.e.f.gone,.int .i64 (x.e.meth:Int),.slice x.pa x.e.pk.length x.pc,.int .u32 (x.e.crc:Int)]
def Rs (w:World)(b o:Nat)(xs:List Ev):Prop:=∀j x,xs[j]? =some x->∀i,i<8->w.cell? ⟨b,o+j*8+i,none⟩=x.rcells[i]?
structure RsIn (w:World)(ad:Option Addr)(xs:List Ev):Prop where
 at_:xs= []\/∃b o,ad=some ⟨b,o,none⟩/\b<w.heap.size/\Rs w b o xs
 all:∀x∈xs,EvIn w x/\x.e.pk.length<=x.pc
theorem RsIn.get {w w':World}{ad:Option Addr}{k:Nat}{xs:List Ev}{x:Ev}(h:RsIn w ad xs)(hB:Below w.heap.size w w')(hk:xs[k]? =some x):
 ∃b o,ad=some ⟨b,o,none⟩/\b<w.heap.size/\w'.cell? ⟨b,o+k*8,none⟩=some (.string (B x.e.f.name))/\w'.cell? ⟨b,o+k*8+1,none⟩=some (.slice x.fa x.e.f.bytes.length x.fc)/\w'.cell? ⟨b,o+k*8+2,none⟩=some (.int .i64 x.e.f.stamp)/\w'.cell? ⟨b,o+k*8+3,none⟩=some (.int .i64 x.e.f.node)/\w'.cell? ⟨b,o+k*8+4,none⟩=some (.bool x.e.f.gone)/\w'.cell? ⟨b,o+k*8+5,none⟩=some (.int .i64 (x.e.meth:Int))/\w'.cell? ⟨b,o+k*8+6,none⟩=some (.slice x.pa x.e.pk.length x.pc)/\w'.cell? ⟨b,o+k*8+7,none⟩=some (.int .u32 (x.e.crc:Int)):=by
 rcases h.at_ with h1|⟨b,o,e,hb,hE⟩
 . subst h1;simp at hk
 . have hE2:∀i,i<8->w'.cell? ⟨b,o+k*8+i,none⟩=x.rcells[i]? :=fun i hi=>(World.cell?_of_block (w:=w) (a:=⟨b,_,none⟩) (hB.block b hb)).trans (hE k x hk i hi)
   exact⟨b,o,e,hb,hE2 0 (by decide),hE2 1 (by decide),hE2 2 (by decide),hE2 3 (by decide),hE2 4 (by decide),hE2 5 (by decide),hE2 6 (by decide),hE2 7 (by decide)⟩
theorem PIn.sized {w:World}{v:Value}{bs:List Nat}(h:PIn w v bs):∃a l c,v=.slice a l c/\bs.length=l:=by
 obtain⟨a,c,e,_⟩:=h;exact⟨a,_,c,e,rfl⟩
theorem NN (w:World)(e:TypeId)(s:ByteArray):Below w.heap.size w (Lib.bytesWorld w e s):=by
 refine⟨?_, ?_, ?_,by rw[Lib.bytesWorld_size];omega,fun k hk=>Lib.bytesWorld_at_old w e s k hk⟩
 . simp[Lib.bytesWorld,World.freeze];rfl
 . simp[Lib.bytesWorld,World.freeze]
 . simp[Lib.bytesWorld,World.freeze];rfl
theorem NC (w:World)(l:List UInt8):PIn (Lib.bytesWorld w 5 (B l)) (.slice (some ⟨w.heap.size,0,none⟩) (B l).size (grownCap w (B l).size 0 5)) (n8 l):=by
 refine⟨some ⟨w.heap.size,0,none⟩,_,by rw[Cd,Ha],by rw[Cd];exact WC (ZM (Ha l).symm) (grownCap_ge _ _ _ _),.inr ⟨_,_,rfl,by rw[Lib.bytesWorld_size];omega,fun j hj=> ?_⟩,fun e=>by cases e⟩;rw[Cd]at hj;rw[WI,Lib.bytesWorld_cell w _ _ j (by rw[Ha];exact hj)];simp[B,n8,List.getD,hj]
def cvW (w:World)(nm:ByteArray):World:=Lib.bytesWorld w 5 nm
def cvA (w:World):Option Addr:=some ⟨w.heap.size,0,none⟩
def cvL (nm:ByteArray):Nat:=nm.size
def cvC (w:World)(nm:ByteArray):Nat:=grownCap w nm.size 0 5
theorem Z00 (nm:ByteArray):∀W:World,(convert 9 23 (.string nm)).run Tryz.prog W=.ok (.slice (cvA W) (cvL nm) (cvC W nm)) (cvW W nm):=fun W=>
 Lib.run_convert_string_bytes (P:=Tryz.prog) W 9 23 5 nm Tryz.underlying9 Tryz.underlying23 Tryz.underlying5
theorem Rw (W:World)(nm:ByteArray)(nml:List UInt8)(hn:B nml=nm):PIn (cvW W nm) (.slice (cvA W) (cvL nm) (cvC W nm)) (n8 nml)/\Below W.heap.size W (cvW W nm):=by
 subst hn;exact⟨NC W nml,NN W _ _⟩
theorem PIn.slice {w:World}{v:Value}{bs:List Nat}(h:PIn w v bs):∃a l c,v=.slice a l c:=by
 obtain⟨a,c,e,_⟩:=h;exact⟨a,_,c,e⟩
theorem Zf {k:Nat}{l:List En}{nml bys:List UInt8}{st nd:Nat}{gn:Bool}{mt:Nat}{pk:List Nat}{cr nl bl pl lH:Nat}(h:l.take (k+1)=l.take k++ [⟨⟨nml,bys,(st:Int),(nd:Int),gn⟩,mt,pk,cr⟩])(h1:nml.length=nl)(h2:bys.length=bl)(h3:pk.length=pl)(h4:(Ar (l.take k)).length=lH):
 Ar (l.take (k+1))=([Ar (l.take k),Ag 67324752 4,([Ag 20 2,Ag 0 2,Ag mt 2,Ag 0 4,Ag cr 4,Ag pl 4,Ag bl 4,Ag nl 2,Ag 11 2]:List (List Nat)).flatten,n8 nml,([Ag 29297 2,Ag 7 2,Ag st 4,Ag nd 2,Ag (Dp gn) 1]:List (List Nat)).flatten,pk]:List (List Nat)).flatten/\
 Am 0 (l.take (k+1))=([Am 0 (l.take k),Ag 33639248 4,Ag 20 2,([Ag 20 2,Ag 0 2,Ag mt 2,Ag 0 4,Ag cr 4,Ag pl 4,Ag bl 4,Ag nl 2,Ag 11 2]:List (List Nat)).flatten,Ag 0 10,Ag lH 4,n8 nml,([Ag 29297 2,Ag 7 2,Ag st 4,Ag nd 2,Ag (Dp gn) 1]:List (List Nat)).flatten]:List (List Nat)).flatten:=by
 subst h1 h2 h3 h4;rw[h,B6,Tv]
 constructor
 . simp[Sy,Sv,Jb]
 . simp[Qe,Sv,Jb]
theorem Z68 (th:List Nat)(nml:List UInt8)(mt cr pl bl nl st nd:Nat)(gn:Bool)(lH:Nat)(h:th.length<=12057*12)(hn:nml.length<=12000):([th,Ag 33639248 4,Ag 20 2,([Ag 20 2,Ag 0 2,Ag mt 2,Ag 0 4,Ag cr 4,Ag pl 4,Ag bl 4,Ag nl 2,Ag 11 2]:List (List Nat)).flatten,Ag 0 10,Ag lH 4,n8 nml,([Ag 29297 2,Ag 7 2,Ag st 4,Ag nd 2,Ag (Dp gn) 1]:List (List Nat)).flatten]:List (List Nat)).flatten.length<=281474976710656:=by
 simp[Aj,Cd]
 omega
theorem Z67 (he pk:List Nat)(nml:List UInt8)(mt cr pl bl nl st nd:Nat)(gn:Bool)(h:he.length<=24041*12)(hn:nml.length<=12000)(hp:pk.length<=12000):([he,Ag 67324752 4,([Ag 20 2,Ag 0 2,Ag mt 2,Ag 0 4,Ag cr 4,Ag pl 4,Ag bl 4,Ag nl 2,Ag 11 2]:List (List Nat)).flatten,n8 nml,([Ag 29297 2,Ag 7 2,Ag st 4,Ag nd 2,Ag (Dp gn) 1]:List (List Nat)).flatten,pk]:List (List Nat)).flatten.length<=281474976710656:=by
 simp[Aj,Cd]
 omega
theorem Z58 (he th:List Nat)(n lT lH:Nat)(h1:he.length<=24041*12)(h2:th.length<=12057*12):([he,th,Ag 101010256 4,Ag 0 4,Ag n 2,Ag n 2,Ag lT 4,Ag lH 4,Ag 0 2]:List (List Nat)).flatten.length<=281474976710656:=by
 simp[Aj]
 omega
theorem SN {n lH lT:Nat}{l:List En}(h:l.take n=l)(hn:l.length=n)(h1:(Ar (l.take n)).length=lH)(h2:(Am 0 (l.take n)).length=lT):Ba l=([Ar (l.take n),Am 0 (l.take n),Ag 101010256 4,Ag 0 4,Ag n 2,Ag n 2,Ag lT 4,Ag lH 4,Ag 0 2]:List (List Nat)).flatten:=by
 subst h1 h2 hn;rw[h];simp[Ba,Pm]
end Go.Proofs.YtleocpdblhbimaaGreatDoor
namespace Go.Proofs.YtleocpdblhbimaaGreatDoor
set_option linter.unusedVariables false
def unpD (m:Nat)(pk:List Nat):Option (List Nat):=
 if m=0 then some pk
 else if m=8 then (if (Mp (rowB pk pk.length)).e=0/\((Mp (rowB pk pk.length)).p+7)/8=pk.length/\pk.length<=6000 then some (Mp (rowB pk pk.length)).out else none)
 else none
def Ec (r:List Nat)(i j:Nat):Nat:=Al ((r.drop i).take (j-i))
theorem Gq {r:List Nat}(hv:∀y∈r,y<256){i j k:Nat}(hk:j-i=k):Ec r i j<256^k:=by
 unfold Ec;rw[hk];have h1:=Jp ((r.drop i).take k) (fun y hy=>hv y (VY (VO hy)));exact VG h1 (VU (by decide) (by rw[VM];omega))
def RU (b:List Nat)(at_:Nat)(r:List Nat):Option (En×List Nat):=
 if r.length<46 then none
 else if r.length<46+Ec r 28 30+11\/at_<Ec r 42 46+30+Ec r 28 30+11+Ec r 20 24 then none
 else (unpD (Ec r 10 12) ((b.drop (Ec r 42 46+30+Ec r 28 30+11)).take (Ec r 20 24))).bind fun ys=>
  some (⟨⟨o8 ((r.drop 46).take (Ec r 28 30)),o8 ys,(Ec ((r.drop (46+Ec r 28 30)).take 11) 4 8:Nat),(Ec ((r.drop (46+Ec r 28 30)).take 11) 8 10:Nat),decide (((r.drop (46+Ec r 28 30)).take 11).getD 10 0=1)⟩,Ec r 10 12,(b.drop (Ec r 42 46+30+Ec r 28 30+11)).take (Ec r 20 24),Ec r 16 20⟩,r.drop (46+Ec r 28 30+11))
def Ru (b:List Nat)(at_:Nat):Nat->List Nat->Option (List En)
 |0,_=>some []
 |k+1,r=>(RU b at_ r).bind fun x=>(Ru b at_ k x.2).map (x.1:: ·)
def Q2 (b:List Nat):Option (List En):=
 if b.length<22 then none
 else if 12<Ec (b.drop (b.length-22)) 8 10\/Ec (b.drop (b.length-22)) 16 20+Ec (b.drop (b.length-22)) 12 16+22≠b.length then none
 else Ru b (Ec (b.drop (b.length-22)) 16 20) (Ec (b.drop (b.length-22)) 8 10) ((b.drop (Ec (b.drop (b.length-22)) 16 20)).take (Ec (b.drop (b.length-22)) 12 16))
theorem Z45 (p x q:List Nat){i j:Nat}(hi:p.length=i)(hj:x.length=j-i):Ec (p++(x++q)) i j=Al x:=by
 unfold Ec;rw[YQ hi,YP hj]
theorem Gp {n k i j:Nat}(p q:List Nat)(hi:p.length=i)(hk:k=j-i)(hn:n<256^k):Ec (p++(Ag n k++q)) i j=n:=by
 rw[Z45 p _ q hi (by rw[Aj];exact hk),Cm k n hn]
structure EOkD (x:En):Prop where
 st:0<=x.f.stamp/\x.f.stamp<4294967296
 nd:0<=x.f.node/\x.f.node<65536
 nm:x.f.name.length<65536
 pl:x.pk.length<4294967296
 cr:x.crc<4294967296
 mt:x.meth<65536
 un:unpD x.meth x.pk=some (n8 x.f.bytes)
theorem RT (b:List Nat)(at_ p:Nat)(x:En)(t:List Nat)(h:EOkD x)(hp:p<4294967296)(hat:p+41+x.f.name.length+x.pk.length<=at_)
 (hb:(b.drop (p+30+x.f.name.length+11)).take x.pk.length=x.pk):RU b at_ (Qe x p++t)=some (x,t):=by
 obtain⟨⟨st0,st1⟩,⟨nd0,nd1⟩,nm,pl,cr,mt,un⟩:=h
 have e:Qe x p++t=Ag 33639248 4++(Ag 20 2++(Ag 20 2++(Ag 0 2++(Ag x.meth 2++(Ag 0 4++(Ag x.crc 4++(Ag x.pk.length 4++(Ag x.f.bytes.length 4++(Ag x.f.name.length 2++(Ag 11 2++(Ag 0 10++(Ag p 4++(n8 x.f.name++(Jb x++t)))))))))))))):=by
  simp only[Qe,Sv,VH]
 have c1:Ec (Qe x p++t) 10 12=x.meth:=by
  rw[e,show ∀a b c d r:List Nat,a++(b++(c++(d++r)))=(a++(b++(c++d)))++r from fun a b c d r=>by simp];exact Gp _ _ (by simp[Aj]) rfl mt
 have c2:Ec (Qe x p++t) 16 20=x.crc:=by
  rw[e,show ∀a b c d f g r:List Nat,a++(b++(c++(d++(f++(g++r)))))=(a++(b++(c++(d++(f++g)))))++r from fun a b c d f g r=>by simp];exact Gp _ _ (by simp[Aj]) rfl cr
 have c3:Ec (Qe x p++t) 20 24=x.pk.length:=by
  rw[e,show ∀a b c d f g h r:List Nat,a++(b++(c++(d++(f++(g++(h++r))))))=(a++(b++(c++(d++(f++(g++h))))))++r from fun a b c d f g h r=>by simp];exact Gp _ _ (by simp[Aj]) rfl pl
 have c4:Ec (Qe x p++t) 28 30=x.f.name.length:=by
  rw[e,show ∀a b c d f g h i j r:List Nat,a++(b++(c++(d++(f++(g++(h++(i++(j++r))))))))=(a++(b++(c++(d++(f++(g++(h++(i++j))))))))++r from fun a b c d f g h i j r=>by simp];exact Gp _ _ (by simp[Aj]) rfl nm
 have c5:Ec (Qe x p++t) 42 46=p:=by
  rw[e,show ∀a b c d f g h i j k l m r:List Nat,a++(b++(c++(d++(f++(g++(h++(i++(j++(k++(l++(m++r)))))))))))=(a++(b++(c++(d++(f++(g++(h++(i++(j++(k++(l++m)))))))))))++r from fun a b c d f g h i j k l m r=>by simp];exact Gp _ _ (by simp[Aj]) rfl hp
 have d46:(Qe x p++t).drop 46=n8 x.f.name++(Jb x++t):=by
  rw[e,show ∀a b c d f g h i j k l m n r:List Nat,a++(b++(c++(d++(f++(g++(h++(i++(j++(k++(l++(m++(n++r))))))))))))=(a++(b++(c++(d++(f++(g++(h++(i++(j++(k++(l++(m++n))))))))))))++r from fun a b c d f g h i j k l m n r=>by simp];exact YQ (by simp[Aj])
 have dx:(Qe x p++t).drop (46+x.f.name.length)=Jb x++t:=by
  rw[<-YA,d46,YQ (Cd _)]
 have dt:(Qe x p++t).drop (46+x.f.name.length+11)=t:=by
  rw[<-YA,dx,YQ (Ht x)]
 have tx:(Jb x++t).take 11=Jb x:=YP (Ht x);have hl:(Qe x p++t).length=57+x.f.name.length+t.length:=by rw[VB,Jk]
 unfold RU;rw[if_neg (by rw[hl];omega),c4,c5,c3,if_neg (by rw[hl];omega),c1,hb,un,VF,c2,dx,tx,dt,d46,YP (Cd _),CW,CW]
 have x1:Ec (Jb x) 4 8=x.f.stamp.toNat:=by
  have e2:Jb x=(Ag 29297 2++Ag 7 2)++(Ag x.f.stamp.toNat 4++(Ag x.f.node.toNat 2++Ag (Dp x.f.gone) 1)):=by simp[Jb]
  rw[e2];exact Gp _ _ (by simp[Aj]) rfl (by show _<4294967296;omega)
 have x2:Ec (Jb x) 8 10=x.f.node.toNat:=by
  have e2:Jb x=(Ag 29297 2++(Ag 7 2++Ag x.f.stamp.toNat 4))++(Ag x.f.node.toNat 2++Ag (Dp x.f.gone) 1):=by simp[Jb]
  rw[e2];exact Gp _ _ (by simp[Aj]) rfl (by show _<65536;omega)
 have v3:(Jb x).getD 10 0=Dp x.f.gone:=by
  have e2:Jb x=(Ag 29297 2++(Ag 7 2++(Ag x.f.stamp.toNat 4++Ag x.f.node.toNat 2)))++Ag (Dp x.f.gone) 1:=by simp[Jb]
  rw[e2,WY,VS (by simp[Aj])]
  cases x.f.gone<;>simp[Ag,Dp]
 have x3:decide ((Jb x).getD 10 0=1)=x.f.gone:=by
  rw[v3]
  cases x.f.gone<;>rfl
 have y1:((x.f.stamp.toNat:Nat):Int)=x.f.stamp:=XX st0;have y2:((x.f.node.toNat:Nat):Int)=x.f.node:=XX nd0;rw[x1,x2,x3,y1,y2]
theorem Rt (b:List Nat)(at_:Nat):∀(l:List En) (pre:List Nat) (t:List Nat),(∀x∈l,EOkD x)->b=pre++(Ar l++t)->at_=pre.length+(Ar l).length->at_<4294967296->∀s,Ru b at_ l.length (Am pre.length l++s)=some l
 | [],pre,t,_,_,_,_,s=>rfl
 |x::l,pre,t,h,hb,ha,hlt,s=>by
  have hx:=h x (by simp);have hfl:=Gc x;rw[Ar,VB]at ha;have e1:Am pre.length (x::l)++s=Qe x pre.length++(Am (pre++Sy x).length l++s):=by rw[Am,VH,VB]
  have e2:b=(pre++Sy x)++(Ar l++t):=by rw[hb,Ar];simp
  have e3:(b.drop (pre.length+30+x.f.name.length+11)).take x.pk.length=x.pk:=by
   have e4:b=(pre++(Ag 67324752 4++Sv x++n8 x.f.name++Jb x))++(x.pk++(Ar l++t)):=by rw[e2,Sy];simp
   rw[e4,YQ (by simp[Aj,Lr,Ht,Cd];omega),YP rfl]
  rw[VJ,Ru,e1,RT b at_ pre.length x _ hx (by omega) (by omega) e3,VF];dsimp only;rw[Rt b at_ l (pre++Sy x) t (fun y hy=>h y (WM _ hy)) e2 (by rw[VB];omega) hlt s];rfl
theorem LY (l:List En)(h:∀x∈l,EOkD x)(hn:l.length<=12)(hlt:(Ba l).length<4294967296):Q2 (Ba l)=some l:=by
 have hlen:(Ba l).length=(Ar l).length+(Am 0 l).length+22:=by unfold Ba;rw[VB,VB,Mg]
 have hd:(Ba l).drop ((Ba l).length-22)=Pm l.length (Am 0 l).length (Ar l).length:=by
  have:(Ba l).length-22=(Ar l++Am 0 l).length:=by rw[hlen,VB];omega
  rw[this];unfold Ba;rw[List.drop_left]
 have c1:Ec (Pm l.length (Am 0 l).length (Ar l).length) 8 10=l.length:=by
  have e:Pm l.length (Am 0 l).length (Ar l).length=(Ag 101010256 4++Ag 0 4)++(Ag l.length 2++(Ag l.length 2++(Ag (Am 0 l).length 4++(Ag (Ar l).length 4++Ag 0 2)))):=by simp[Pm]
  rw[e];exact Gp _ _ (by simp[Aj]) rfl (by show _<65536;omega)
 have c2:Ec (Pm l.length (Am 0 l).length (Ar l).length) 12 16=(Am 0 l).length:=by
  have e:Pm l.length (Am 0 l).length (Ar l).length=(Ag 101010256 4++(Ag 0 4++(Ag l.length 2++Ag l.length 2)))++(Ag (Am 0 l).length 4++(Ag (Ar l).length 4++Ag 0 2)):=by simp[Pm]
  rw[e];exact Gp _ _ (by simp[Aj]) rfl (by show _<4294967296;omega)
 have c3:Ec (Pm l.length (Am 0 l).length (Ar l).length) 16 20=(Ar l).length:=by
  have e:Pm l.length (Am 0 l).length (Ar l).length=(Ag 101010256 4++(Ag 0 4++(Ag l.length 2++(Ag l.length 2++Ag (Am 0 l).length 4))))++(Ag (Ar l).length 4++Ag 0 2):=by simp[Pm]
  rw[e];exact Gp _ _ (by simp[Aj]) rfl (by show _<4294967296;omega)
 unfold Q2;rw[if_neg (by omega),hd,c1,c2,c3,if_neg (by omega)]
 have e5:((Ba l).drop (Ar l).length).take (Am 0 l).length=Am 0 l:=by
  unfold Ba;rw[VH,YQ rfl,YP rfl]
 rw[e5];have:=Rt (Ba l) (Ar l).length l [] (Am 0 l++Pm l.length (Am 0 l).length (Ar l).length) h (by unfold Ba;simp) (by simp) (by omega) []
 rw[WZ]at this;exact this
end Go.Proofs.YtleocpdblhbimaaGreatDoor
