import Derived.Test.YtleocpdblhbimaaGreatDoorQ9
import Derived.Deep.RegionHeld3
import Derived.Deep.RegionWith
import Derived.Laws.BitsAllLaws
set_option linter.unusedSimpArgs false
set_option maxHeartbeats 2000000
namespace Go.Proofs.YtleocpdblhbimaaGreatDoor
open Go.RowKit
set_option linter.unusedVariables false
set_option maxRecDepth 100000
theorem SJ {w:World}{a:Option Addr}{c:Nat}{bs:List UInt8}(h:BsIn w a c bs):PkIn w a c (n8 bs):=by
 rcases h with ⟨rfl,rfl,rfl⟩|⟨rfl,ad,rfl⟩|⟨b,o,rfl,h2,h3,h4⟩
 . exact⟨.inl rfl,fun _=>rfl⟩
 . exact⟨.inl rfl,fun e=>by cases e⟩
 . refine⟨.inr ⟨b,o,rfl,h2,fun j hj=> ?_⟩,fun e=>by cases e⟩;rw[Cd]at hj;rw[h4 j hj];simp[n8,List.getD,hj]
theorem Z3f {w:World}{a:Option Addr}{c:Nat}{ys:List Nat}(h:PkIn w a c ys)(hc:ys.length<=c)(hv:∀x∈ys,x<256):BsIn w a c (o8 ys):=by
 cases a with
 |none=>
  have h0:=h.2 rfl;have:ys= []:=WX (by omega)
  subst this;exact .inl ⟨rfl,rfl,h0⟩
 |some ad=>
  rcases h.1 with rfl|⟨b,o,e,hb,hB⟩
  . exact .inr (.inl ⟨rfl,ad,rfl⟩)
  . refine .inr (.inr ⟨b,o,e,hb,by rw[Fr];exact hc,fun j hj=> ?_⟩);rw[Fr]at hj;rw[hB j hj];have h1:=hv ys[j] (WK hj);simp[o8,List.getD,hj]
    omega
structure EvIn (w:World)(x:Ev):Prop where
 fb:PkIn w x.fa x.fc (n8 x.e.f.bytes)
 fl:x.e.f.bytes.length<=x.fc
 big:x.e.f.bytes.length<=140737488355328
 txt:x.e.f.name.length<=140737488355328
 pk:PkIn w x.pa x.pc x.e.pk
theorem EvIn.below {w w':World}{x:Ev}(h:EvIn w x)(hB:Below w.heap.size w w'):EvIn w' x:=⟨h.fb.below hB,h.fl,h.big,h.txt,h.pk.below hB⟩
theorem EvIn.fv {w:World}{x:Ev}(h:EvIn w x):FvIn w ⟨x.e.f,x.fa,x.fc⟩:=⟨by have:=Z3f h.fb (by rw[Cd];exact h.fl) (Ir _);rw[CW]at this;exact this,h.big,h.txt⟩
theorem Z2m {w:World}{a:Option Addr}{c:Nat}{bs:List UInt8}(h:BsIn w a c bs):bs.length<=c:=by
 rcases h with ⟨rfl,rfl,rfl⟩|⟨rfl,ad,rfl⟩|⟨b,o,rfl,h2,h3,h4⟩
 . exact VC _
 . exact VK _
 . exact h3
theorem PkIn.grown {w w':World}{c:Nat}{r:Option Nat}{a:Option Addr}{ys:List Nat}(h:PkIn w a c ys)(hg:w.grownBy w' r)(hX:∀g o,a=some ⟨g,o,none⟩->ys≠ []->some g≠r):PkIn w' a c ys:=by
 refine⟨?_,h.2⟩
 by_cases h0:ys= []
 . exact .inl h0
 . rcases h.1 with h1|⟨b,o,e,hb,hc⟩
   . exact absurd h1 h0
   . exact .inr ⟨b,o,e,VG hb hg.size,hc.grown hg (hX b o e h0)⟩
def Ev.lies (x:Ev)(Pr:Nat->Prop):Prop:=(∀g o,x.fa=some ⟨g,o,none⟩->x.e.f.bytes≠ []->Pr g)/\(∀g o,x.pa=some ⟨g,o,none⟩->x.e.pk≠ []->Pr g)
theorem JP {l:List UInt8}(h:n8 l≠ []):l≠ []:=fun e=>h (by rw[e];rfl)
theorem EvIn.grown {w w':World}{x:Ev}{r:Option Nat}(h:EvIn w x)(hg:w.grownBy w' r)(hr:x.lies (fun g=>some g≠r)):EvIn w' x:=
 ⟨h.fb.grown hg (fun g o e1 e2=>hr.1 g o e1 (JP e2)),h.fl,h.big,h.txt,h.pk.grown hg (fun g o e1 e2=>hr.2 g o e1 e2)⟩
theorem Ev.lies.mono {x:Ev}{A C:Nat->Prop}(h:x.lies A)(hm:∀g,A g->C g):x.lies C:=⟨fun g o e1 e2=>hm g (h.1 g o e1 e2),fun g o e1 e2=>hm g (h.2 g o e1 e2)⟩
theorem EvIn.lt {w:World}{x:Ev}(h:EvIn w x):x.lies (fun g=>g<w.heap.size):=by
 constructor
 . intro g o e1 e2
   rcases h.fb.1 with h1|⟨b,o',e,hb,_⟩
   . exact absurd (by rw[<-CW x.e.f.bytes,h1];rfl) e2
   . rw[e1]at e;cases e;exact hb
 . intro g o e1 e2
   rcases h.pk.1 with h1|⟨b,o',e,hb,_⟩
   . exact absurd h1 e2
   . rw[e1]at e;cases e;exact hb
theorem Wa {w:World}{a:Option Addr}{c:Nat}{ys:List Nat}(h:PkIn w a c ys):∀g o,a=some ⟨g,o,none⟩->ys≠ []->g<w.heap.size:=by
 intro g o e hne
 rcases h.1 with h1|⟨b,o',e',hb,_⟩
 . exact absurd h1 hne
 . rw[e]at e';cases e';exact hb
theorem Fj {α:Type}{l:List α}{k:Nat}{x:α}(h:l[k]? =some x):l.take (k+1)=l.take k++ [x]:=by
 obtain⟨hk,e⟩:=XO.1 h;rw[WR hk,e]
def ecells (xs:List Ev):List Value:=xs.flatMap Ev.cells
theorem EI (xs:List Ev):(ecells xs).length=xs.length*8:=by
 induction xs with
 |nil=>rfl
 |cons x r ih=>
  have:ecells (x::r)=x.cells++ecells r:=rfl
  rw[this,VB,ih,VJ];show 8+_=_
  omega
theorem EJ (xs ys:List Ev):ecells (xs++ys)=ecells xs++ecells ys:=by simp[ecells]
theorem EH (y:Ev):ecells [y]=y.cells:=by simp[ecells]
theorem E6:∀(xs:List Ev) (j:Nat) (x:Ev) (i:Nat),xs[j]? =some x->i<8->(ecells xs)[j*8+i]? =x.cells[i]?
 | [],j,x,i,h,_=>by simp at h
 |y::r,0,x,i,h,hi=>by
  have:ecells (y::r)=y.cells++ecells r:=rfl
  simp at h
  subst h;rw[this,YI,WI,WL (show i<8 from hi)]
 |y::r,j+1,x,i,h,hi=>by
  have e:ecells (y::r)=y.cells++ecells r:=rfl;have hl:y.cells.length=8:=rfl;have ih:=E6 r j x i (by simpa using h) hi;rw[e,VS (by rw[hl];omega),hl,show (j+1)*8+i-8=j*8+i by omega,ih]
theorem Q3 (y:Ev):∀u∈y.cells,u.oneCell'=true:=by
 intro u hu;simp only[Ev.cells,WE,XB,or_false]at hu
 rcases hu with rfl|rfl|rfl|rfl|rfl|rfl|rfl|rfl<;>rfl
structure ERow (w:World)(B:Nat)(v:Value)(xs:List Ev):Prop where
 own:w.ownsRow B 71 8 v xs.length (ecells xs)
 all:∀x∈xs,EvIn w x
 apart:∀x∈xs,x.lies (fun g=>some g≠v.ownBlock)
theorem ERow.nil (w:World)(B:Nat):ERow w B (.slice none 0 0) []:=⟨World.ownsRow_nil _ _ _ _,(fun x hx=>absurd hx XB),(fun x hx=>absurd hx XB)⟩
theorem ERow.below {w w':World}{B:Nat}{v:Value}{xs:List Ev}(h:ERow w B v xs)(hB:Below w.heap.size w w'):ERow w' B v xs:=
 ⟨Dj h.own (fun g hg=>hB.block g (h.own.lt g hg).2),fun x hx=>(h.all x hx).below hB,h.apart⟩
theorem DK:(Tryz.prog.info? 71).map (fun i=>(i.zero,i.size,i.bytes))=some (some (.agg #[.string ⟨#[]⟩,.slice none 0 0,.int .i64 0,.int .i64 0,.bool false,.int .u32 0,.slice none 0 0,.int .u32 0]),8,104):=by kernel_rfl
theorem Fi (w:World){ops:Array Oper}{rest:List Oper}{o:Oper}{a:Act}{Q:Exit->Act->World->Prop}(hgd:o.guard=none)(s x:Operand)
 (ho:o.op=.call {callee:=.builtin .append,args:= #[s,x],argTypes:= #[69,69]}) (base:Nat) (v:Value) (xs:List Ev) (hs:a.eval s=v) (hown:ERow w base v xs)
 (g:Nat) (y:Ev) (hx:a.eval x=.slice (some ⟨g,0,none⟩) 1 1) (hc:∀j u,y.cells[j]? =some u->w.cell? ⟨g,j,none⟩=some u) (hy:EvIn w y) (hyb:y.lies (fun g=>some g≠v.ownBlock)) (hsz:xs.length+1<=100000) (hbase:base<=w.heap.size)
 (h:∀v' w',Hid (ERow w' base v' (xs++ [y]))->Hid (w.grownBy w' v.ownBlock)->wpList Tryz.prog ops Q rest (a.put o.dst v') w'):wpList Tryz.prog ops Q (o::rest) a w:=by
 obtain⟨i0,hi,hz0,hz1,hz2⟩:=info_parts DK;refine wpList_append_own_at w hgd s x 69 ho base 71 i0 _ 8 104 Tryz.underlying69 hi hz0 hz1 hz2 rfl (by decide) v xs.length (ecells xs) hs hown.own ⟨g,0,none⟩ 1 1 y.cells hx rfl ?_ (Q3 y) (by unfold maxLen;omega) (by omega) hbase ?_
 . intro j u hj;have e2:(⟨g,0,none⟩:Addr).add j=⟨g,j,none⟩:=by unfold Addr.add;split<;>simp_all
   rw[e2];exact hc j u hj
 . intro v' w' h1 h2 _ h4
   have hne:∀z∈xs++ [y],z.lies (fun g=>some g≠v.ownBlock):=by
    intro z hz
    rcases WJ.1 hz with hz|hz
    . exact hown.apart z hz
    . rw[WQ.1 hz];exact hyb
   have hin:∀z∈xs++ [y],EvIn w z:=by
    intro z hz
    rcases WJ.1 hz with hz|hz
    . exact hown.all z hz
    . rw[WQ.1 hz];exact hy
   refine h v' w' (Ab ⟨?_,fun z hz=>(hin z hz).grown h2 (hne z hz),fun z hz=> ?_⟩) (Ab h2)
   . rw[EJ,EH,VB];exact h1
   . have hl:=(hin z hz).lt;have hn:=hne z hz
     rcases h4 with h4|h4
     . rw[h4];exact hn
     . rw[h4];exact hl.mono (fun g hg e=>by have:=VQ e;omega)
def Es (w:World)(b o:Nat)(xs:List Ev):Prop:=∀j x,xs[j]? =some x->∀i,i<8->w.cell? ⟨b,o+j*8+i,none⟩=x.cells[i]?
structure EsIn (w:World)(ad:Option Addr)(c:Nat)(xs:List Ev):Prop where
 at_:xs= []\/∃b o,ad=some ⟨b,o,none⟩/\b<w.heap.size/\Es w b o xs
 all:∀x∈xs,EvIn w x
theorem EsIn.below {w w':World}{ad:Option Addr}{c:Nat}{xs:List Ev}(h:EsIn w ad c xs)(hB:Below w.heap.size w w'):EsIn w' ad c xs:=by
 refine⟨?_,fun x hx=>(h.all x hx).below hB⟩
 rcases h.at_ with h1|⟨b,o,e,hb,hE⟩
 . exact .inl h1
 . exact .inr ⟨b,o,e,VG hb hB.size,fun j x hj i hi=>(World.cell?_of_block (w:=w) (a:=⟨b,_,none⟩) (hB.block b hb)).trans (hE j x hj i hi)⟩
theorem EsIn.get {w w':World}{ad:Option Addr}{c k:Nat}{xs:List Ev}{x:Ev}(h:EsIn w ad c xs)(hB:Below w.heap.size w w')(hk:xs[k]? =some x):
 ∃b o,ad=some ⟨b,o,none⟩/\b<w.heap.size/\w'.cell? ⟨b,o+k*8,none⟩=some (.string (B x.e.f.name))/\w'.cell? ⟨b,o+k*8+1,none⟩=some (.slice x.fa x.e.f.bytes.length x.fc)/\w'.cell? ⟨b,o+k*8+2,none⟩=some (.int .i64 x.e.f.stamp)/\w'.cell? ⟨b,o+k*8+3,none⟩=some (.int .i64 x.e.f.node)/\w'.cell? ⟨b,o+k*8+4,none⟩=some (.bool x.e.f.gone)/\w'.cell? ⟨b,o+k*8+5,none⟩=some (.int .u32 (x.e.meth:Int))/\w'.cell? ⟨b,o+k*8+6,none⟩=some (.slice x.pa x.e.pk.length x.pc)/\w'.cell? ⟨b,o+k*8+7,none⟩=some (.int .u32 (x.e.crc:Int)):=by
 rcases(h.below hB).at_ with h1|⟨b,o,e,hb,hE⟩
 . subst h1;simp at hk
 . have hb':b<w.heap.size:=by
    rcases h.at_ with h1|⟨b',o',e',hb',_⟩
    . subst h1;simp at hk
    . rw[e]at e';cases e';exact hb'
   exact⟨b,o,e,hb',hE k x hk 0 (by decide),hE k x hk 1 (by decide),hE k x hk 2 (by decide),hE k x hk 3 (by decide),hE k x hk 4 (by decide),hE k x hk 5 (by decide),hE k x hk 6 (by decide),hE k x hk 7 (by decide)⟩
def St:Nat->List En->List Nat
 |_,[]=> []
 |p,x::r=>p::St (p+(Sy x).length) r
theorem X9:∀(a:List En) (x:En) (p:Nat),St p (a++ [x])=St p a++ [p+(Ar a).length]
 | [],x,p=>by simp[St,Ar]
 |y::a,x,p=>by rw[XH,St,X9 a x,St,Ar,VB,XH,WH]
theorem M4:∀(a:List En) (p:Nat),(St p a).length=a.length
 | [],p=>rfl
 |y::a,p=>by rw[St,VJ,M4 a,VJ]
theorem TG:∀(a:List En) (p k:Nat),k<a.length->(St p a).getD k 0=p+(Ar (a.take k)).length
 | [],p,k,h=>by simp at h
 |y::a,p,0,h=>by simp[St,Ar]
 |y::a,p,k+1,h=>by
  have:=TG a (p+(Sy y).length) k (by simpa using h)
  simp only[St,List.getD_cons_succ,XQ,Ar,VB];rw[this];omega
theorem B6 (a:List En)(x:En):Ar (a++ [x])=Ar a++Sy x:=by rw[AJ];simp[Ar]
theorem Tv (a:List En)(x:En):Am 0 (a++ [x])=Am 0 a++Qe x (Ar a).length:=by rw[Yg];simp[Am]
theorem ERow.entries {w:World}{B:Nat}{v:Value}{xs:List Ev}(h:ERow w B v xs):∃ad c,v=.slice ad xs.length c/\EsIn w ad c xs:=by
 rcases h.own.2 with ⟨h1,h2⟩|⟨g,cap,cur,h1,h2,h3,h4,h5⟩
 . exact⟨none,0,by rw[h1,h2],.inl (WX h2),h.all⟩
 . refine⟨some ⟨g,0,none⟩,cap,h1,.inr ⟨g,0,rfl,(h.own.lt g (by rw[h1];rfl)).2,fun j x hj i hi=> ?_⟩,h.all⟩;have hown:=h.own;rw[h1]at hown;have hl:=EI xs;have hj2:=(XO.1 hj).1;rw[WI,hown.cellAt _ (by omega)];exact E6 xs j x i hj hi
structure AS (w:World)(Bs b:Nat)(xs:List Nat)(v:Value)(ps:List Nat)(wr:World):Prop where
 z:∃ov,ZC Bs wr b xs ov
 p:wr.ownsRow (b+1) 3 1 v ps.length (i64s ps)
 below:Below Bs w wr
theorem AS.later {w wr w':World}{Bs b:Nat}{xs ps:List Nat}{v:Value}(h:AS w Bs b xs v ps wr)(hB:Below wr.heap.size wr w'):AS w Bs b xs v ps w':=by
 obtain⟨ov,hz⟩:=h.z;refine⟨⟨ov,hz.later hB⟩,Dj h.p (fun g hg=>hB.block g (h.p.lt g hg).2),h.below.trans (hB.mono (by have:=hz.lt;have:=hz.base;omega))⟩
theorem AS.app {w W w3:World}{Bs b y:Nat}{xs ps:List Nat}{v v':Value}(h:AS w Bs b xs v ps W)(hg:W.grownBy w3 v.ownBlock)(ho:w3.ownsRow (b+1) 3 1 v' (ps.length+1) (i64s ps++ [.int .i64 (y:Int)])):AS w Bs b xs v' (ps++ [y]) w3:=by
 obtain⟨ov,hz⟩:=h.z;have hlt:=hz.lt;have hbb:=hz.base;have hgs:=hg.size;refine⟨⟨ov,hz.base, ?_, ?_⟩, ?_, ?_⟩
 . refine(hg.block b hlt (fun e=> ?_)).trans hz.cell;have:=(h.p.lt b e.symm).1
   omega
 . refine Dj hz.own (fun g hgo=>hg.block g (hz.own.lt g hgo).2 (fun e=> ?_));obtain⟨c1,e1⟩:=Ow hz.own hgo;obtain⟨c2,e2⟩:=Ow h.p e.symm;rw[e1]at e2
   injection e2 with e2
   injection e2 with _ e2
   exact absurd e2 (by decide)
 . rw[VB,i64s,WS];exact ho
 . exact h.below.grown hg (by omega) (fun g e=>by have:=(h.p.lt g e).1;omega)
theorem AS.up {w w3 w4:World}{Bs b:Nat}{xs ys ps:List Nat}{v:Value}(h:AS w Bs b xs v ps w3)(hU:ZUp Bs w3 b ys w4):AS w Bs b ys v ps w4:=by
 refine⟨hU.is,Dj h.p (fun g hg=> ?_),h.below.trans hU.below⟩;obtain⟨cs,e⟩:=Ow h.p hg;rw[e];exact hU.kp g cs _ _ (by decide) (by decide) e
theorem KH:(Tryz.prog.info? 3).map (fun i=>(i.zero,i.size,i.bytes))=some (some (.int .i64 0),1,8):=by kernel_rfl
theorem KW:∀(l:List En),(∀x∈l,ENum x)->(Ar l).length<=12081*l.length
 | [],_=>by simp[Ar]
 |x::r,h=>by
  have h1:=KW r (fun y hy=>h y (WM _ hy));have h2:=h x (by simp);have h3:=h2.nm;have h4:=h2.pl;rw[Ar,VB,Gc,VJ];omega
theorem W4:∀(l:List En) (p:Nat),(∀x∈l,ENum x)->(Am p l).length<=97*l.length
 | [],p,_=>by simp[Am]
 |x::r,p,h=>by
  have h1:=W4 r (p+(Sy x).length) (fun y hy=>h y (WM _ hy));have h3:=(h x (by simp)).nm;rw[Am,VB,Jk,VJ];omega
abbrev Z02:Ending:=.panicked [{v:=.iface 165 (.agg #[]),recovered:=false}]
structure ZT (w:World)(b:Nat)(R:Value)(p:Nat)(w':World):Prop where
 is:w'.heap[b]? =some (.cells #[R,.int .i64 (p:Int)] 116 (0,0))
 below:Below b w w'
 keep:∀g,g≠b->g<w.heap.size->w'.heap[g]? =w.heap[g]?
theorem ZT.trans {w w1 w2:World}{b p q:Nat}{R:Value}(h:ZT w b R p w1)(k:ZT w1 b R q w2):ZT w b R q w2:=
 ⟨k.is,h.below.trans k.below,fun g h1 h2=>(k.keep g h1 (VG h2 h.below.size)).trans (h.keep g h1 h2)⟩
theorem ZT.drewN {w w1:World}{b p:Nat}{R:Value}(h:ZT w b R p w1)(q:Nat):ZT w b R p (w1.drewN q):=⟨h.is,Af h.below q,h.keep⟩
structure ZRow (w:World)(b:Nat)(a:Option Addr)(n cap:Nat)(bs:List Nat):Prop where
 len:bs.length=n
 few:n<=12000
 room:n<=cap
 nil:a=none->cap=0
 byt:BytesIn w a bs
 val:∀x∈bs,x<256
 apart:∀g o,a=some ⟨g,o,none⟩->bs≠ []->g≠b
theorem ZRow.keep {w w':World}{b n cap:Nat}{a:Option Addr}{bs:List Nat}(h:ZRow w b a n cap bs)(hs:w.heap.size<=w'.heap.size)(hk:∀g,g≠b->g<w.heap.size->w'.heap[g]? =w.heap[g]?):ZRow w' b a n cap bs:=by
 refine⟨h.len,h.few,h.room,h.nil, ?_,h.val,h.apart⟩
 by_cases e:bs= []
 . exact .inl e
 . rcases h.byt with h1|⟨g,o,e1,hb,hB⟩
   . exact absurd h1 e
   . exact .inr ⟨g,o,e1,by omega,fun j hj=>(World.cell?_of_block (w:=w) (a:=⟨g,_,none⟩) (hk g (h.apart g o e1 e) hb)).trans (hB j hj)⟩
theorem ZRow.after {w w':World}{b n cap p:Nat}{a:Option Addr}{bs:List Nat}{R:Value}(h:ZRow w b a n cap bs)(hT:ZT w b R p w'):ZRow w' b a n cap bs:=h.keep hT.below.size hT.keep
theorem Z4f (a:Option Addr)(m n cap:Nat)(h:m<=n)(hn:n<=cap)(W:World):(Instr.slice 23 (.slice a n cap) none (some (.int .u32 (m:Int))) none).run Tryz.prog W=.ok (.slice a m cap) W:=by
 have hs:=Tryz.sizeOf5;have ht:=Tryz.underlying23;have h2:(m:Int)<=(cap:Int):=by omega
 cases a<;>simp[go_sem,ht,hs,h2]
theorem T5 {n:Nat}(h:n<18446744073709551616):IntKind.u64.wrap (n:Int)=(n:Int):=by
 simp[IntKind.wrap,IntKind.bits,IntKind.signed]
 omega
theorem ZT.set {w:World}{b p q:Nat}{R:Value}(h:w.heap[b]? =some (.cells #[R,.int .i64 (p:Int)] 116 (0,0))):ZT w b R q (w.setCell ⟨b,1,none⟩ (.int .i64 (q:Int))):=by
 have hb:=(VL.1 h).1;have hg:=Ad w b 1 (.int .i64 (q:Int));refine⟨by rw[heap_setCell_same w b 1 _ _ _ h];rfl,(Below.refl b w).grown hg (by omega) (fun g e=>by cases e;exact VC _),fun g hne hlt=>hg.block g hlt (fun e=>hne (VQ e))⟩
theorem Z3e {w:World}{b p many n cap k:Nat}{a a':Option Addr}{bs:List Nat}(hR:ZRow w b a n cap bs)(hp:p<=n)(hq:p+many<=n)(h1:∀b o,a=some ⟨b,o,none⟩->p<n->a'=some ⟨b,o+p,none⟩)(h2:a'=none->k=0):PkIn w a' k ((bs.drop p).take many):=by
 refine⟨?_,h2⟩
 by_cases h0:many=0
 . subst h0;exact .inl (by simp)
 . have hb:bs≠ []:=by
    intro e;have:=hR.len
    rw[e]at this;simp at this
    omega
   rcases hR.byt with e|⟨g,o,e,hg,hB⟩
   . exact absurd e hb
   . refine .inr ⟨g,o+p,h1 g o e (by omega),hg,fun j hj=> ?_⟩
     have hj2:j<many/\p+j<bs.length:=by
      rw[VM,VN]at hj;omega
     have e2:((bs.drop p).take many).getD j 0=bs.getD (p+j) 0:=by
      simp only[List.getD];rw[YE hj2.1,YF]
     rw[e2,WH];exact hB (p+j) hj2.2
theorem Di (b p many n cap:Nat)(a:Option Addr)(bs:List Nat)(w:World)(hI:w.heap[b]? =some (.cells #[.slice a n cap,.int .i64 (p:Int)] 116 (0,0)))(hp:p<=n)(hR:ZRow w b a n cap bs)(hm:many<4294967296):
 Calls Tryz.prog 127 #[.pointer (some ⟨b,0,none⟩),.int .u32 (many:Int)] w fun e w'=>(n<p+many/\e=Z02/\ZT w b (.slice a n cap) p w')\/ (p+many<=n/\(∃a' c',e=.returned (.slice a' many c')/\many<=c'/\∀W,ZRow W b a n cap bs->PkIn W a' c' ((bs.drop p).take many))/\ZT w b (.slice a n cap) (p+many) w'):=by
 obtain⟨a',hsl,ha1,ha2⟩:=Z0s a p n cap hp hR.room hR.nil;have hfew:=hR.few;have hrm:=hR.room;have c0:=Ac (i:=0) hI;have c1:=Ac (i:=1) hI;simp only[VZ,VX,WF]at c0 c1;have f1:=frozen_of_row w b 1 _ _ hI;obtain⟨d,hd⟩:∃d,n-p=d:=⟨_,rfl⟩
 obtain⟨k,hk⟩:∃k,cap-p=k:=⟨_,rfl⟩
 rw[hd,hk]at hsl;have hwd:=T5 (n:=d) (by omega);have hwm:=T5 (n:=many) (by omega);have HI:=Ab hI;have HA1:=Ab ha1;have HA2:=Ab ha2;have HK:=Ab hk;clear hI hR ha1 ha2
 by_cases hq:n<p+many
 . have hlt:(d:Int)<(many:Int):=by omega
   have HF:Hid (n<p+many/\∀q,ZT w b (.slice a n cap) p (w.drewN q)):=Ab ⟨hq,fun q=>(⟨Aa HI,Below.refl _ _,fun g _ _=>rfl⟩:ZT w b (.slice a n cap) p w).drewN q⟩;clear hd hk hq;go_enter Tryz.func127,Tryz.ntmps127
   go_wp2;go_quiet (fail)
   go_wp2;exact⟨rfl,.inl ⟨(Aa HF).1,rfl,(Aa HF).2 _⟩⟩
 . have hlt:¬(d:Int)<(many:Int):=by omega
   have hto:=Z4f a' many d k (by omega) (by omega);have hsum:((p:Int)+(many:Int))=((p+many:Nat):Int):=by omega
   have HQ:=Ab (show p+many<=n by omega);have HD:=Ab hd;have HS:=Ab hsum;have hmk:many<=k:=by omega
   have HT:∀q,ZT w b (.slice a n cap) (p+many) ((w.drewN q).setCell ⟨b,1,none⟩ (.int .i64 ((p:Int)+(many:Int)))):=fun q=>by
    have h1:ZT w b (.slice a n cap) p (w.drewN q):=(⟨Aa HI,Below.refl _ _,fun g _ _=>rfl⟩:ZT w b (.slice a n cap) p w).drewN q;rw[hsum];exact h1.trans (ZT.set h1.is)
   clear hd hk hq hsum;go_enter Tryz.func127,Tryz.ntmps127
   go_wp2;go_quiet (fail)
   go_wp2;go_ret;refine .inr ⟨Aa HQ,⟨a',k,rfl,hmk,fun W hW=>Z3e hW hp (Aa HQ) (Aa HA1) (fun e=>by rw[<-Aa HK];exact Aa HA2 e)⟩,HT _⟩
theorem Ui:∀(l:List Nat) (y:Nat),Al (l++ [y])=Al l+256^l.length*y
 | [],y=>by simp[Al]
 |x::r,y=>by
  rw[XH,Al,Ui r y,Al,VJ,XE,Nat.mul_add,WH,<-XS,YC 256 (256^r.length)]
theorem Z0u (y k:Nat)(hk:k<=3)(hy:y<256)(W:World):(Op.shift .shl .u32 (y:Int) .i64 (IntKind.i64.wrap (8*(k:Int)))).run Tryz.prog W=.ok (.int .u32 ((256^k*y:Nat):Int)) W:=by
 have e:IntKind.i64.wrap (8*(k:Int))=((8*k:Nat):Int):=by
  simp[IntKind.wrap,IntKind.bits,IntKind.signed]
  omega
 rw[e];have h256:(256:Nat)^k=2^(8*k):=by rw[Nat.pow_mul]
 have hp:256^k<=256^3:=VU (by decide) hk;have hm:256^k*y<=256^3*255:=Nat.mul_le_mul hp (by omega)
 have h2:IntKind.u32.wrap ((y:Int)*2^min (8*k) 32)=((256^k*y:Nat):Int):=by
  rw[YM (by omega)];have e1:(y:Int)*2^(8*k)=((256^k*y:Nat):Int):=by rw[h256];push_cast;rw[Int.mul_comm]
  rw[e1,IntKind.wrap_u32'];have:(256:Nat)^3=16777216:=by decide
  omega
 unfold Op.shift;rw[if_neg (by omega),WD];show Result.ok (Value.int .u32 (IntKind.u32.wrap ((y:Int)*2^min (8*k) 32))) W=_
 rw[h2]
theorem Z3h (m k y:Nat)(hm:m<256^k)(hk:k<=3)(hy:y<256):bits .or .u32 (m:Int) ((256^k*y:Nat):Int)=((m+256^k*y:Nat):Int):=by
 have hp:256^k<=256^3:=VU (by decide) hk;have h3:(256:Nat)^3=16777216:=by decide
 have hmy:256^k*y<=256^3*255:=Nat.mul_le_mul hp (by omega);rw[u32_or_nat _ _ (by omega) (by omega)];have h256:(256:Nat)^k=2^(8*k):=by rw[Nat.pow_mul]
 rw[h256]at hm ⊢;have:=Nat.two_pow_add_eq_or_of_lt (i:=8*k) (b:=m) hm y
 rw[Nat.or_comm,<-this,Nat.add_comm]
theorem Eh (b p size n cap:Nat)(a:Option Addr)(bs:List Nat)(w:World)(hI:w.heap[b]? =some (.cells #[.slice a n cap,.int .i64 (p:Int)] 116 (0,0)))(hp:p<=n)(hR:ZRow w b a n cap bs)(hm:size<=4):
 Calls Tryz.prog 100 #[.pointer (some ⟨b,0,none⟩),.int .u32 (size:Int)] w fun e w'=>(n<p+size/\e=Z02/\ZT w b (.slice a n cap) p w')\/ (p+size<=n/\e=.returned (.int .u32 (Al ((bs.drop p).take size):Nat))/\ZT w b (.slice a n cap) (p+size) w'):=by
 have HC:=Ab (Di b p size n cap a bs w hI hp hR (by omega));have hvl:∀x∈(bs.drop p).take size,x<256:=fun x hx=>hR.val x (VY (VO hx))
 have hl:p+size<=n->((bs.drop p).take size).length=size:=fun h=>by rw[VM,VN,hR.len];omega
 obtain⟨xs,hxs⟩:∃xs,(bs.drop p).take size=xs:=⟨_,rfl⟩
 rw[hxs]at HC hvl hl ⊢;have HV:=Ab hvl;have HL:=Ab hl;have HR:=Ab hR;clear hI hR hvl hl hxs hp;go_enter Tryz.func100,Tryz.ntmps100
 go_wp2_with fail
 refine(Aa HC).mono ?_;rintro e w1 (⟨h1,rfl,hT⟩|⟨h1,⟨a',c',rfl,h2,hP⟩,hT⟩)
 . have HT:=Ab hT;clear hT;go_wp2;exact⟨rfl,.inl ⟨h1,rfl,Aa HT⟩⟩
 . have HT:=Ab hT;have HP:=Ab (hP w1 ((Aa HR).after hT));have hxl:=Aa HL h1;have HXL:=Ab hxl;clear hT hP hxl;go_wp2;go_loopw [5,6,7,12] (fun v5 _ _ i wr=>∃k:Nat,k<=size/\i=.int .i64 (k:Int)/\v5=.int .u32 (Al (xs.take k):Nat)/\Hid (wr=w1)) (fun _ _ _ i _=>size-(intOf i).toNat)
   case atStart=>exact⟨0,VK _,rfl,by simp[Al],Ab rfl⟩
   case round=>
    obtain⟨k,hk,rfl,rfl,hw⟩:=hrel;have hwr:wr=w1:=Aa hw;subst hwr;clear hw
    by_cases hlt:k<size
    . obtain⟨g,o,rfl,hg,hB⟩:=Eu (Aa HP).1 (by rw[Aa HXL];omega);have hc:=hB k (by rw[Aa HXL];exact hlt);have hy:=Cv (Aa HV) k;obtain⟨y,hyy⟩:∃y,xs.getD k 0=y:=⟨_,rfl⟩
      rw[hyy]at hc hy;have hml:=Jp (xs.take k) (fun x hx=>Aa HV x (VO hx));have hkl:(xs.take k).length=k:=by rw[VM,Aa HXL];omega
      rw[hkl]at hml
      have hnx:Al (xs.take (k+1))=Al (xs.take k)+256^k*y:=by
       have hk3:k<xs.length:=by rw[Aa HXL];exact hlt
       have e:xs.take (k+1)=xs.take k++ [y]:=by
        rw[WR hk3,<-hyy];simp[List.getD,hk3]
       rw[e,Ui,hkl]
      obtain⟨m,hm'⟩:∃m,Al (xs.take k)=m:=⟨_,rfl⟩
      rw[hm']at hml hnx ⊢;have hsh:=Z0u y k (by omega) hy;have hor:=Z3h m k y hml (by omega) hy;obtain⟨z,hz⟩:∃z,256^k*y=z:=⟨_,rfl⟩
      rw[hz]at hsh hor hnx
      have hor2:bits .or .u32 (m:Int) ((y:Int)*2^(8*k)%4294967296)=((m+z:Nat):Int):=by
       have e1:(y:Int)*2^(8*k)=(z:Int):=by rw[<-hz,show (256:Nat)^k=2^(8*k) by rw[Nat.pow_mul]];push_cast;rw[Int.mul_comm]
       have hp:256^k<=256^3:=VU (by decide) (by omega);have h3:(256:Nat)^3=16777216:=by decide
       have hmy:256^k*y<=256^3*255:=Nat.mul_le_mul hp (by omega);rw[e1,<-hor]
       congr 1
       omega
      have HNX:=Ab (And.intro hnx hor2);clear hor2 hor hsh;have hwy:IntKind.u32.wrap (y:Int)=(y:Int):=by rw[IntKind.wrap_u32'];omega
      clear hB hyy hml hkl hnx hm' hz;go_wp2;go_roundw
      case rel=>exact⟨k+1,by omega,by go_num,by rw[(Aa HNX).1,(Aa HNX).2],by first|exact Ab rfl|exact Ab trivial⟩
      case measure=>simp[intOf];omega
    . obtain rfl:size=k:=by omega
      have e:xs.take size=xs:=VP (by rw[Aa HXL];exact VC _);rw[e];obtain⟨m,hm'⟩:∃m,Al xs=m:=⟨_,rfl⟩
      rw[hm'];have HM:=Ab hm';clear hm' e;go_wp2;go_ret;exact .inr ⟨h1,by rw[Aa HM];rfl,Aa HT⟩
end Go.Proofs.YtleocpdblhbimaaGreatDoor
