import Derived.Deep.RegionHeld3
import Derived.Test.YtieianhejdcgdaaGreatDoorQ12
import Derived.Deep.RegionWith
import Derived.Laws.BitsAllLaws
set_option maxHeartbeats 2000000
namespace Go.Proofs.YtieianhejdcgdaaGreatDoor
open Go.RowKit
set_option linter.unusedVariables false
set_option maxRecDepth 100000
theorem BytesIn.cut {w:World}{a:Option Addr}{xs:List Nat}(h:BytesIn w a xs)(q:Nat):BytesIn w a (xs.take q):=by
 rcases h with rfl|⟨b,o,rfl,hb,hB⟩
 . exact .inl (by simp)
 . refine .inr ⟨b,o,rfl,hb,fun j hj=> ?_⟩;have hj2:j<q/\j<xs.length:=by rw[VL]at hj;omega
   have e:(xs.take q).getD j 0=xs.getD j 0:=by simp only[List.getD];rw[XM hj2.1]
   rw[e];exact hB j hj2.2
abbrev Z1f:Ending:=.panicked [{v:=.iface 170 (.agg #[]),recovered:=false}]
structure ZT (w:World)(b:Nat)(R:Value)(p:Nat)(w':World):Prop where
 is:w'.heap[b]? =some (.cells #[R,.int .i64 (p:Int)] 121 (0,0))
 below:Below b w w'
 keep:∀g,g≠b->g<w.heap.size->w'.heap[g]? =w.heap[g]?
theorem ZT.trans {w w1 w2:World}{b p q:Nat}{R:Value}(h:ZT w b R p w1)(k:ZT w1 b R q w2):ZT w b R q w2:=
 ⟨k.is,h.below.trans k.below,fun g h1 h2=>(k.keep g h1 (VK h2 h.below.size)).trans (h.keep g h1 h2)⟩
theorem ZT.drewN {w w1:World}{b p:Nat}{R:Value}(h:ZT w b R p w1)(q:Nat):ZT w b R p (w1.drewN q):=⟨h.is,Af h.below q,h.keep⟩
structure ZRow (w:World)(b:Nat)(a:Option Addr)(n cap:Nat)(bs:List Nat):Prop where
 len:bs.length=n
 few:n<=12000
 room:n<=cap
 nil:a=none->cap=0
 byt:BytesIn w a bs
 val:∀x∈bs,x<256
 apart:∀g o,a=some ⟨g,o,none⟩->bs≠ []->g≠b
theorem ZRow.keep {w w':World}{b n cap:Nat}{a:Option Addr}{bs:List Nat}(h:ZRow w b a n cap bs)(hs:w.heap.size<=w'.heap.size)(hk:∀g,g≠b->g<w.heap.size->w'.heap[g]? =w.heap[g]?):ZRow w' b a n cap bs:=by
 refine⟨h.len,h.few,h.room,h.nil, ?_,h.val,h.apart⟩
 by_cases e:bs= []
 . exact .inl e
 . rcases h.byt with h1|⟨g,o,e1,hb,hB⟩
   . exact absurd h1 e
   . exact .inr ⟨g,o,e1,by omega,fun j hj=>(World.cell?_of_block (w:=w) (a:=⟨g,_,none⟩) (hk g (h.apart g o e1 e) hb)).trans (hB j hj)⟩
theorem ZRow.after {w w':World}{b n cap p:Nat}{a:Option Addr}{bs:List Nat}{R:Value}(h:ZRow w b a n cap bs)(hT:ZT w b R p w'):ZRow w' b a n cap bs:=h.keep hT.below.size hT.keep
theorem Q0 (a:Option Addr)(p n cap:Nat)(h:p<=n)(hn:n<=cap)(hnil:a=none->cap=0):
 ∃a',(∀W:World,(Instr.slice 23 (.slice a n cap) (some (.int .i64 (p:Int))) none none).run Tryz.prog W=.ok (.slice a' (n-p) (cap-p)) W)/\(∀b o,a=some ⟨b,o,none⟩->p<n->a'=some ⟨b,o+p,none⟩)/\(a'=none->cap-p=0):=by
 have hs:=Tryz.sizeOf5;have ht:=Tryz.underlying23;have h1:(p:Int)<=(n:Int):=by omega
 cases a with
 |none=>
  have:=hnil rfl
  subst this;obtain rfl:n=0:=by omega
  obtain rfl:p=0:=by omega
  exact⟨none,fun W=>by simp[go_sem,ht],fun b o e=>(by cases e),fun _=>rfl⟩
 |some ad=>
  by_cases hp:cap=p
  . subst hp;obtain rfl:n=cap:=by omega
    refine⟨some ad,fun W=> ?_,fun b o e hlt=>by omega,fun e=>by cases e⟩;simp[go_sem,ht,hs]
  . have h2:(p:Int)<(cap:Int):=by omega
    refine⟨some (ad.add p),fun W=> ?_,fun b o e hlt=> ?_,fun e=>by cases e⟩
    . simp[go_sem,ht,hs,h1,hp]
      try omega
    . cases e
      unfold Addr.add
      split<;>simp_all
theorem Z4x (a:Option Addr)(m n cap:Nat)(h:m<=n)(hn:n<=cap)(W:World):(Instr.slice 23 (.slice a n cap) none (some (.int .u32 (m:Int))) none).run Tryz.prog W=.ok (.slice a m cap) W:=by
 have hs:=Tryz.sizeOf5;have ht:=Tryz.underlying23;have h2:(m:Int)<=(cap:Int):=by omega
 cases a<;>simp[go_sem,ht,hs,h2]
theorem Y1 {n:Nat}(h:n<18446744073709551616):IntKind.u64.wrap (n:Int)=(n:Int):=by
 simp[IntKind.wrap,IntKind.bits,IntKind.signed]
 omega
theorem ZT.set {w:World}{b p q:Nat}{R:Value}(h:w.heap[b]? =some (.cells #[R,.int .i64 (p:Int)] 121 (0,0))):ZT w b R q (w.setCell ⟨b,1,none⟩ (.int .i64 (q:Int))):=by
 have hb:=(VG.1 h).1;have hg:=Ad w b 1 (.int .i64 (q:Int));refine⟨by rw[heap_setCell_same w b 1 _ _ _ h];rfl,(Below.refl b w).grown hg (by omega) (fun g e=>by cases e;exact VC _),fun g hne hlt=>hg.block g hlt (fun e=>hne (VN e))⟩
theorem Z54 {w:World}{b p many n cap k:Nat}{a a':Option Addr}{bs:List Nat}(hR:ZRow w b a n cap bs)(hp:p<=n)(hq:p+many<=n)(h1:∀b o,a=some ⟨b,o,none⟩->p<n->a'=some ⟨b,o+p,none⟩)(h2:a'=none->k=0):PkIn w a' k ((bs.drop p).take many):=by
 refine⟨?_,h2⟩
 by_cases h0:many=0
 . subst h0;exact .inl (by simp)
 . have hb:bs≠ []:=by
    intro e;have:=hR.len
    rw[e]at this;simp at this
    omega
   rcases hR.byt with e|⟨g,o,e,hg,hB⟩
   . exact absurd e hb
   . refine .inr ⟨g,o+p,h1 g o e (by omega),hg,fun j hj=> ?_⟩
     have hj2:j<many/\p+j<bs.length:=by
      rw[VL,VO]at hj;omega
     have e2:((bs.drop p).take many).getD j 0=bs.getD (p+j) 0:=by
      simp only[List.getD];rw[XM hj2.1,XP]
     rw[e2,WJ];exact hB (p+j) hj2.2
theorem Ds (b p many n cap:Nat)(a:Option Addr)(bs:List Nat)(w:World)(hI:w.heap[b]? =some (.cells #[.slice a n cap,.int .i64 (p:Int)] 121 (0,0)))(hp:p<=n)(hR:ZRow w b a n cap bs)(hm:many<4294967296):
 Calls Tryz.prog 135 #[.pointer (some ⟨b,0,none⟩),.int .u32 (many:Int)] w fun e w'=>(n<p+many/\e=Z1f/\ZT w b (.slice a n cap) p w')\/ (p+many<=n/\(∃a' c',e=.returned (.slice a' many c')/\many<=c'/\∀W,ZRow W b a n cap bs->PkIn W a' c' ((bs.drop p).take many))/\ZT w b (.slice a n cap) (p+many) w'):=by
 obtain⟨a',hsl,ha1,ha2⟩:=Q0 a p n cap hp hR.room hR.nil;have hfew:=hR.few;have hrm:=hR.room;have c0:=Ac (i:=0) hI;have c1:=Ac (i:=1) hI;simp only[WM,WH,WT]at c0 c1;have f1:=frozen_of_row w b 1 _ _ hI;obtain⟨d,hd⟩:∃d,n-p=d:=⟨_,rfl⟩
 obtain⟨k,hk⟩:∃k,cap-p=k:=⟨_,rfl⟩
 rw[hd,hk]at hsl;have hwd:=Y1 (n:=d) (by omega);have hwm:=Y1 (n:=many) (by omega);have HI:=Ab hI;have HA1:=Ab ha1;have HA2:=Ab ha2;have HK:=Ab hk;clear hI hR ha1 ha2
 by_cases hq:n<p+many
 . have hlt:(d:Int)<(many:Int):=by omega
   have HF:Hid (n<p+many/\∀q,ZT w b (.slice a n cap) p (w.drewN q)):=Ab ⟨hq,fun q=>(⟨Aa HI,Below.refl _ _,fun g _ _=>rfl⟩:ZT w b (.slice a n cap) p w).drewN q⟩;clear hd hk hq;go_enter Tryz.func135,Tryz.ntmps135
   go_wp2;go_quiet (fail)
   go_wp2;exact⟨rfl,.inl ⟨(Aa HF).1,rfl,(Aa HF).2 _⟩⟩
 . have hlt:¬(d:Int)<(many:Int):=by omega
   have hto:=Z4x a' many d k (by omega) (by omega);have hsum:((p:Int)+(many:Int))=((p+many:Nat):Int):=by omega
   have HQ:=Ab (show p+many<=n by omega);have HD:=Ab hd;have HS:=Ab hsum;have hmk:many<=k:=by omega
   have HT:∀q,ZT w b (.slice a n cap) (p+many) ((w.drewN q).setCell ⟨b,1,none⟩ (.int .i64 ((p:Int)+(many:Int)))):=fun q=>by
    have h1:ZT w b (.slice a n cap) p (w.drewN q):=(⟨Aa HI,Below.refl _ _,fun g _ _=>rfl⟩:ZT w b (.slice a n cap) p w).drewN q;rw[hsum];exact h1.trans (ZT.set h1.is)
   clear hd hk hq hsum;go_enter Tryz.func135,Tryz.ntmps135
   go_wp2;go_quiet (fail)
   go_wp2;go_ret;refine .inr ⟨Aa HQ,⟨a',k,rfl,hmk,fun W hW=>Z54 hW hp (Aa HQ) (Aa HA1) (fun e=>by rw[<-Aa HK];exact Aa HA2 e)⟩,HT _⟩
theorem Z5z {w:World}{a:Option Addr}{c:Nat}{bs:List UInt8}(h:BsIn w a c bs):PkIn w a c (n8 bs):=by
 rcases h with ⟨rfl,rfl,rfl⟩|⟨rfl,ad,rfl⟩|⟨b,o,rfl,h2,h3,h4⟩
 . exact⟨.inl rfl,fun _=>rfl⟩
 . exact⟨.inl rfl,fun e=>by cases e⟩
 . refine⟨.inr ⟨b,o,rfl,h2,fun j hj=> ?_⟩,fun e=>by cases e⟩;rw[Gn]at hj;rw[h4 j hj];simp[n8,List.getD,hj]
theorem Z55 {w:World}{a:Option Addr}{c:Nat}{ys:List Nat}(h:PkIn w a c ys)(hc:ys.length<=c)(hv:∀x∈ys,x<256):BsIn w a c (o8 ys):=by
 cases a with
 |none=>
  have h0:=h.2 rfl;have:ys= []:=WP (by omega)
  subst this;exact .inl ⟨rfl,rfl,h0⟩
 |some ad=>
  rcases h.1 with rfl|⟨b,o,e,hb,hB⟩
  . exact .inr (.inl ⟨rfl,ad,rfl⟩)
  . refine .inr (.inr ⟨b,o,e,hb,by rw[Li];exact hc,fun j hj=> ?_⟩);rw[Li]at hj;rw[hB j hj];have h1:=hv ys[j] (WR hj);simp[o8,List.getD,hj]
    omega
structure EvIn (w:World)(x:Ev):Prop where
 fb:PkIn w x.fa x.fc (n8 x.e.f.bytes)
 fl:x.e.f.bytes.length<=x.fc
 big:x.e.f.bytes.length<=140737488355328
 txt:x.e.f.name.length<=140737488355328
 pk:PkIn w x.pa x.pc x.e.pk
theorem EvIn.below {w w':World}{x:Ev}(h:EvIn w x)(hB:Below w.heap.size w w'):EvIn w' x:=⟨h.fb.below hB,h.fl,h.big,h.txt,h.pk.below hB⟩
theorem EvIn.fv {w:World}{x:Ev}(h:EvIn w x):FvIn w ⟨x.e.f,x.fa,x.fc⟩:=⟨by have:=Z55 h.fb (by rw[Gn];exact h.fl) (Ns _);rw[SH]at this;exact this,h.big,h.txt⟩
theorem Z44 {w:World}{a:Option Addr}{c:Nat}{bs:List UInt8}(h:BsIn w a c bs):bs.length<=c:=by
 rcases h with ⟨rfl,rfl,rfl⟩|⟨rfl,ad,rfl⟩|⟨b,o,rfl,h2,h3,h4⟩
 . exact VC _
 . exact VM _
 . exact h3
theorem PkIn.grown {w w':World}{c:Nat}{r:Option Nat}{a:Option Addr}{ys:List Nat}(h:PkIn w a c ys)(hg:w.grownBy w' r)(hX:∀g o,a=some ⟨g,o,none⟩->ys≠ []->some g≠r):PkIn w' a c ys:=by
 refine⟨?_,h.2⟩
 by_cases h0:ys= []
 . exact .inl h0
 . rcases h.1 with h1|⟨b,o,e,hb,hc⟩
   . exact absurd h1 h0
   . exact .inr ⟨b,o,e,VK hb hg.size,hc.grown hg (hX b o e h0)⟩
def Ev.lies (x:Ev)(Pr:Nat->Prop):Prop:=(∀g o,x.fa=some ⟨g,o,none⟩->x.e.f.bytes≠ []->Pr g)/\(∀g o,x.pa=some ⟨g,o,none⟩->x.e.pk≠ []->Pr g)
theorem LO {l:List UInt8}(h:n8 l≠ []):l≠ []:=fun e=>h (by rw[e];rfl)
theorem EvIn.grown {w w':World}{x:Ev}{r:Option Nat}(h:EvIn w x)(hg:w.grownBy w' r)(hr:x.lies (fun g=>some g≠r)):EvIn w' x:=
 ⟨h.fb.grown hg (fun g o e1 e2=>hr.1 g o e1 (LO e2)),h.fl,h.big,h.txt,h.pk.grown hg (fun g o e1 e2=>hr.2 g o e1 e2)⟩
theorem Ev.lies.mono {x:Ev}{A C:Nat->Prop}(h:x.lies A)(hm:∀g,A g->C g):x.lies C:=⟨fun g o e1 e2=>hm g (h.1 g o e1 e2),fun g o e1 e2=>hm g (h.2 g o e1 e2)⟩
theorem EvIn.lt {w:World}{x:Ev}(h:EvIn w x):x.lies (fun g=>g<w.heap.size):=by
 constructor
 . intro g o e1 e2
   rcases h.fb.1 with h1|⟨b,o',e,hb,_⟩
   . exact absurd (by rw[<-SH x.e.f.bytes,h1];rfl) e2
   . rw[e1]at e;cases e;exact hb
 . intro g o e1 e2
   rcases h.pk.1 with h1|⟨b,o',e,hb,_⟩
   . exact absurd h1 e2
   . rw[e1]at e;cases e;exact hb
theorem Wk {w:World}{a:Option Addr}{c:Nat}{ys:List Nat}(h:PkIn w a c ys):∀g o,a=some ⟨g,o,none⟩->ys≠ []->g<w.heap.size:=by
 intro g o e hne
 rcases h.1 with h1|⟨b,o',e',hb,_⟩
 . exact absurd h1 hne
 . rw[e]at e';cases e';exact hb
theorem Kv {α:Type}{l:List α}{k:Nat}{x:α}(h:l[k]? =some x):l.take (k+1)=l.take k++ [x]:=by
 obtain⟨hk,e⟩:=WQ.1 h;rw[WU hk,e]
def ecells (xs:List Ev):List Value:=xs.flatMap Ev.cells
theorem FV (xs:List Ev):(ecells xs).length=xs.length*8:=by
 induction xs with
 |nil=>rfl
 |cons x r ih=>
  have:ecells (x::r)=x.cells++ecells r:=rfl
  rw[this,VB,ih,VH];show 8+_=_
  omega
theorem FW (xs ys:List Ev):ecells (xs++ys)=ecells xs++ecells ys:=by simp[ecells]
theorem FU (y:Ev):ecells [y]=y.cells:=by simp[ecells]
theorem J4:∀(xs:List Ev) (j:Nat) (x:Ev) (i:Nat),xs[j]? =some x->i<8->(ecells xs)[j*8+i]? =x.cells[i]?
 | [],j,x,i,h,_=>by simp at h
 |y::r,0,x,i,h,hi=>by
  have:ecells (y::r)=y.cells++ecells r:=rfl
  simp at h
  subst h;rw[this,ZI,WI,WE (show i<8 from hi)]
 |y::r,j+1,x,i,h,hi=>by
  have e:ecells (y::r)=y.cells++ecells r:=rfl;have hl:y.cells.length=8:=rfl;have ih:=J4 r j x i (by simpa using h) hi;rw[e,VY (by rw[hl];omega),hl,show (j+1)*8+i-8=j*8+i by omega,ih]
theorem V1 (y:Ev):∀u∈y.cells,u.oneCell'=true:=by
 intro u hu;simp only[Ev.cells,VW,WV,or_false]at hu
 rcases hu with rfl|rfl|rfl|rfl|rfl|rfl|rfl|rfl<;>rfl
structure ERow (w:World)(B:Nat)(v:Value)(xs:List Ev):Prop where
 own:w.ownsRow B 76 8 v xs.length (ecells xs)
 all:∀x∈xs,EvIn w x
 apart:∀x∈xs,x.lies (fun g=>some g≠v.ownBlock)
theorem ERow.nil (w:World)(B:Nat):ERow w B (.slice none 0 0) []:=⟨World.ownsRow_nil _ _ _ _,(fun x hx=>absurd hx WV),(fun x hx=>absurd hx WV)⟩
theorem ERow.below {w w':World}{B:Nat}{v:Value}{xs:List Ev}(h:ERow w B v xs)(hB:Below w.heap.size w w'):ERow w' B v xs:=
 ⟨Ar h.own (fun g hg=>hB.block g (h.own.lt g hg).2),fun x hx=>(h.all x hx).below hB,h.apart⟩
theorem EX:(Tryz.prog.info? 76).map (fun i=>(i.zero,i.size,i.bytes))=some (some (.agg #[.string ⟨#[]⟩,.slice none 0 0,.int .i64 0,.int .i64 0,.bool false,.int .u32 0,.slice none 0 0,.int .u32 0]),8,104):=by kernel_rfl
theorem Fq (w:World){ops:Array Oper}{rest:List Oper}{o:Oper}{a:Act}{Q:Exit->Act->World->Prop}(hgd:o.guard=none)(s x:Operand)
 (ho:o.op=.call {callee:=.builtin .append,args:= #[s,x],argTypes:= #[74,74]}) (base:Nat) (v:Value) (xs:List Ev) (hs:a.eval s=v) (hown:ERow w base v xs)
 (g:Nat) (y:Ev) (hx:a.eval x=.slice (some ⟨g,0,none⟩) 1 1) (hc:∀j u,y.cells[j]? =some u->w.cell? ⟨g,j,none⟩=some u) (hy:EvIn w y) (hyb:y.lies (fun g=>some g≠v.ownBlock)) (hsz:xs.length+1<=100000) (hbase:base<=w.heap.size)
 (h:∀v' w',Hid (ERow w' base v' (xs++ [y]))->Hid (w.grownBy w' v.ownBlock)->wpList Tryz.prog ops Q rest (a.put o.dst v') w'):wpList Tryz.prog ops Q (o::rest) a w:=by
 obtain⟨i0,hi,hz0,hz1,hz2⟩:=info_parts EX;refine wpList_append_own_at w hgd s x 74 ho base 76 i0 _ 8 104 Tryz.underlying74 hi hz0 hz1 hz2 rfl (by decide) v xs.length (ecells xs) hs hown.own ⟨g,0,none⟩ 1 1 y.cells hx rfl ?_ (V1 y) (by unfold maxLen;omega) (by omega) hbase ?_
 . intro j u hj;have e2:(⟨g,0,none⟩:Addr).add j=⟨g,j,none⟩:=by unfold Addr.add;split<;>simp_all
   rw[e2];exact hc j u hj
 . intro v' w' h1 h2 _ h4
   have hne:∀z∈xs++ [y],z.lies (fun g=>some g≠v.ownBlock):=by
    intro z hz
    rcases VZ.1 hz with hz|hz
    . exact hown.apart z hz
    . rw[WK.1 hz];exact hyb
   have hin:∀z∈xs++ [y],EvIn w z:=by
    intro z hz
    rcases VZ.1 hz with hz|hz
    . exact hown.all z hz
    . rw[WK.1 hz];exact hy
   refine h v' w' (Ab ⟨?_,fun z hz=>(hin z hz).grown h2 (hne z hz),fun z hz=> ?_⟩) (Ab h2)
   . rw[FW,FU,VB];exact h1
   . have hl:=(hin z hz).lt;have hn:=hne z hz
     rcases h4 with h4|h4
     . rw[h4];exact hn
     . rw[h4];exact hl.mono (fun g hg e=>by have:=VN e;omega)
def Es (w:World)(b o:Nat)(xs:List Ev):Prop:=∀j x,xs[j]? =some x->∀i,i<8->w.cell? ⟨b,o+j*8+i,none⟩=x.cells[i]?
structure EsIn (w:World)(ad:Option Addr)(c:Nat)(xs:List Ev):Prop where
 at_:xs= []\/∃b o,ad=some ⟨b,o,none⟩/\b<w.heap.size/\Es w b o xs
 all:∀x∈xs,EvIn w x
theorem EsIn.below {w w':World}{ad:Option Addr}{c:Nat}{xs:List Ev}(h:EsIn w ad c xs)(hB:Below w.heap.size w w'):EsIn w' ad c xs:=by
 refine⟨?_,fun x hx=>(h.all x hx).below hB⟩
 rcases h.at_ with h1|⟨b,o,e,hb,hE⟩
 . exact .inl h1
 . exact .inr ⟨b,o,e,VK hb hB.size,fun j x hj i hi=>(World.cell?_of_block (w:=w) (a:=⟨b,_,none⟩) (hB.block b hb)).trans (hE j x hj i hi)⟩
theorem EsIn.get {w w':World}{ad:Option Addr}{c k:Nat}{xs:List Ev}{x:Ev}(h:EsIn w ad c xs)(hB:Below w.heap.size w w')(hk:xs[k]? =some x):
 ∃b o,ad=some ⟨b,o,none⟩/\b<w.heap.size/\w'.cell? ⟨b,o+k*8,none⟩=some (.string (B x.e.f.name))/\w'.cell? ⟨b,o+k*8+1,none⟩=some (.slice x.fa x.e.f.bytes.length x.fc)/\w'.cell? ⟨b,o+k*8+2,none⟩=some (.int .i64 x.e.f.stamp)/\w'.cell? ⟨b,o+k*8+3,none⟩=some (.int .i64 x.e.f.node)/\w'.cell? ⟨b,o+k*8+4,none⟩=some (.bool x.e.f.gone)/\w'.cell? ⟨b,o+k*8+5,none⟩=some (.int .u32 (x.e.meth:Int))/\w'.cell? ⟨b,o+k*8+6,none⟩=some (.slice x.pa x.e.pk.length x.pc)/\w'.cell? ⟨b,o+k*8+7,none⟩=some (.int .u32 (x.e.crc:Int)):=by
 rcases(h.below hB).at_ with h1|⟨b,o,e,hb,hE⟩
 . subst h1;simp at hk
 . have hb':b<w.heap.size:=by
    rcases h.at_ with h1|⟨b',o',e',hb',_⟩
    . subst h1;simp at hk
    . rw[e]at e';cases e';exact hb'
   exact⟨b,o,e,hb',hE k x hk 0 (by decide),hE k x hk 1 (by decide),hE k x hk 2 (by decide),hE k x hk 3 (by decide),hE k x hk 4 (by decide),hE k x hk 5 (by decide),hE k x hk 6 (by decide),hE k x hk 7 (by decide)⟩
def Sz:Nat->List En->List Nat
 |_,[]=> []
 |p,x::r=>p::Sz (p+(N5 x).length) r
theorem AG:∀(a:List En) (x:En) (p:Nat),Sz p (a++ [x])=Sz p a++ [p+(Bh a).length]
 | [],x,p=>by simp[Sz,Bh]
 |y::a,x,p=>by rw[XJ,Sz,AG a x,Sz,Bh,VB,XJ,WJ]
theorem R6:∀(a:List En) (p:Nat),(Sz p a).length=a.length
 | [],p=>rfl
 |y::a,p=>by rw[Sz,VH,R6 a,VH]
theorem Z0u:∀(a:List En) (p k:Nat),k<a.length->(Sz p a).getD k 0=p+(Bh (a.take k)).length
 | [],p,k,h=>by simp at h
 |y::a,p,0,h=>by simp[Sz,Bh]
 |y::a,p,k+1,h=>by
  have:=Z0u a (p+(N5 y).length) k (by simpa using h)
  simp only[Sz,List.getD_cons_succ,XS,Bh,VB];rw[this];omega
theorem NB (a:List En)(x:En):Bh (a++ [x])=Bh a++N5 x:=by rw[BQ];simp[Bh]
theorem DE (a:List En)(x:En):Bj 0 (a++ [x])=Bj 0 a++RI x (Bh a).length:=by rw[Ze];simp[Bj]
theorem ERow.entries {w:World}{B:Nat}{v:Value}{xs:List Ev}(h:ERow w B v xs):∃ad c,v=.slice ad xs.length c/\EsIn w ad c xs:=by
 rcases h.own.2 with ⟨h1,h2⟩|⟨g,cap,cur,h1,h2,h3,h4,h5⟩
 . exact⟨none,0,by rw[h1,h2],.inl (WP h2),h.all⟩
 . refine⟨some ⟨g,0,none⟩,cap,h1,.inr ⟨g,0,rfl,(h.own.lt g (by rw[h1];rfl)).2,fun j x hj i hi=> ?_⟩,h.all⟩;have hown:=h.own;rw[h1]at hown;have hl:=FV xs;have hj2:=(WQ.1 hj).1;rw[WI,hown.cellAt _ (by omega)];exact J4 xs j x i hj hi
structure AS (w:World)(Bs b:Nat)(xs:List Nat)(v:Value)(ps:List Nat)(wr:World):Prop where
 z:∃ov,ZC Bs wr b xs ov
 p:wr.ownsRow (b+1) 3 1 v ps.length (i64s ps)
 below:Below Bs w wr
theorem AS.later {w wr w':World}{Bs b:Nat}{xs ps:List Nat}{v:Value}(h:AS w Bs b xs v ps wr)(hB:Below wr.heap.size wr w'):AS w Bs b xs v ps w':=by
 obtain⟨ov,hz⟩:=h.z;refine⟨⟨ov,hz.later hB⟩,Ar h.p (fun g hg=>hB.block g (h.p.lt g hg).2),h.below.trans (hB.mono (by have:=hz.lt;have:=hz.base;omega))⟩
theorem AS.app {w W w3:World}{Bs b y:Nat}{xs ps:List Nat}{v v':Value}(h:AS w Bs b xs v ps W)(hg:W.grownBy w3 v.ownBlock)(ho:w3.ownsRow (b+1) 3 1 v' (ps.length+1) (i64s ps++ [.int .i64 (y:Int)])):AS w Bs b xs v' (ps++ [y]) w3:=by
 obtain⟨ov,hz⟩:=h.z;have hlt:=hz.lt;have hbb:=hz.base;have hgs:=hg.size;refine⟨⟨ov,hz.base, ?_, ?_⟩, ?_, ?_⟩
 . refine(hg.block b hlt (fun e=> ?_)).trans hz.cell;have:=(h.p.lt b e.symm).1
   omega
 . refine Ar hz.own (fun g hgo=>hg.block g (hz.own.lt g hgo).2 (fun e=> ?_));obtain⟨c1,e1⟩:=Oy hz.own hgo;obtain⟨c2,e2⟩:=Oy h.p e.symm;rw[e1]at e2
   injection e2 with e2
   injection e2 with _ e2
   exact absurd e2 (by decide)
 . rw[VB,i64s,XO];exact ho
 . exact h.below.grown hg (by omega) (fun g e=>by have:=(h.p.lt g e).1;omega)
theorem AS.up {w w3 w4:World}{Bs b:Nat}{xs ys ps:List Nat}{v:Value}(h:AS w Bs b xs v ps w3)(hU:ZUp Bs w3 b ys w4):AS w Bs b ys v ps w4:=by
 refine⟨hU.is,Ar h.p (fun g hg=> ?_),h.below.trans hU.below⟩;obtain⟨cs,e⟩:=Oy h.p hg;rw[e];exact hU.kp g cs _ _ (by decide) (by decide) e
theorem MO:(Tryz.prog.info? 3).map (fun i=>(i.zero,i.size,i.bytes))=some (some (.int .i64 0),1,8):=by kernel_rfl
theorem NC:∀(l:List En),(∀x∈l,ENum x)->(Bh l).length<=12081*l.length
 | [],_=>by simp[Bh]
 |x::r,h=>by
  have h1:=NC r (fun y hy=>h y (WF _ hy));have h2:=h x (by simp);have h3:=h2.nm;have h4:=h2.pl;rw[Bh,VB,Pi,VH];omega
theorem Z4:∀(l:List En) (p:Nat),(∀x∈l,ENum x)->(Bj p l).length<=97*l.length
 | [],p,_=>by simp[Bj]
 |x::r,p,h=>by
  have h1:=Z4 r (p+(N5 x).length) (fun y hy=>h y (WF _ hy));have h3:=(h x (by simp)).nm;rw[Bj,VB,Vz,VH];omega
theorem V5 (b:Nat)(a:Option Addr)(len cap:Nat)(l:List Int)(w:World)(hl:l.length=len)(hM:len<=1000000)(hR:RowIn .i64 w a l)(he:errL l≠0):
 Calls Tryz.prog 278 #[.pointer (some ⟨b,0,none⟩),.slice a len cap] w fun e w'=>e=Flt (errL l)/\Below w.heap.size w w':=by
 have HC:=Ab (OQ a len cap l (w.alloc (.cells #[.pointer (some ⟨b,0,none⟩)] 284)) hl (by omega) (hR.alloc _) he);have HA:Hid (Below w.heap.size w (w.alloc (.cells #[.pointer (some ⟨b,0,none⟩)] 284))):=Ab ((Below.refl _ _).alloc (VC _) _);have hb:(errL l !=0)=true:=by rw[bne_iff_ne];exact he
 obtain⟨E,hE⟩:∃E,errL l=E:=⟨_,rfl⟩
 rw[hE]at HC hb ⊢;clear hE he hR hl;go_enter Tryz.func278,Tryz.ntmps278
 go_wp2_with fail
 refine(Aa HC).mono ?_;rintro e w1 ⟨rfl,hB1⟩;have HB1:Hid (Below w.heap.size w w1):=Ab ((Aa HA).trans (hB1.mono (by simp)));clear hB1;go_wp2_with fail
 refine(Bw E w1).mono ?_;rintro e w2 ⟨rfl,rfl⟩;go_wp2;exact⟨rfl,rfl,Aa HB1⟩
def Z7d (b:Nat)(l:List Int)(w:World)(e:Ending)(w':World):Prop:=
 Below w.heap.size w w'/\((errL l=0/\∃gr gm mb nn,e=.returned (DV gr gm)/\w.heap.size<=gr/\w.heap.size<=gm/\w.heap.size<=mb/\mb<w'.heap.size/\DIs w' gr gm mb nn b l)\/ (errL l≠0/\e=Flt (errL l)))
theorem Kk (b:Nat)(a:Option Addr)(len cap:Nat)(l:List Int)(w:World)(hl:l.length=len)(hM:len<=1000000)(hR:RowIn .i64 w a l):
 Calls Tryz.prog 278 #[.pointer (some ⟨b,0,none⟩),.slice a len cap] w fun e w'=>Z7d b l w e w':=by
 by_cases he:errL l=0
 . refine(Nd b a len cap l w hl hR (Ci he)).mono ?_;rintro e w' ⟨gr,gm,mb,nn,h1,h2,h3,h4,h5,h6,h7⟩;exact⟨h7,.inl ⟨he,gr,gm,mb,nn,h1,h2,h3,h4,h5,h6⟩⟩
 . refine(V5 b a len cap l w hl hM hR he).mono ?_;rintro e w' ⟨h1,h2⟩;exact⟨h2,.inr ⟨he,h1⟩⟩
def NJ (No:Nat->Prop)(N:Nat):Nat->Prop:=fun g=>No g\/N<=g
def NK (No:Nat->Prop)(N M:Nat):Nat->Prop:=fun g=>No g\/ (N<=g/\g<M)
theorem IIs.back {No1 No2:Nat->Prop}{B b:Nat}{w w':World}{R f1 f2 g1 g2:Value}{u u':US}(h1:IIs No1 B w b R f1 f2 u)(h2:IIs No2 B w' b R g1 g2 u')(hK:Ml b w w'):IIs No1 B w' b R g1 g2 u':=by
 obtain⟨ov,kv,a2,a3,a4,a5,a6,a7,a8,a9⟩:=h1.rows;obtain⟨ov',kv',b2,b3,b4,b5,b6,b7,b8,b9⟩:=h2.rows
 have e2:ov'=ov:=by
  have:=(b2.symm.trans (hK 2 (by decide))).trans a2
  exact VN this
 have e3:kv'=kv:=by
  have:=(b3.symm.trans (hK 3 (by decide))).trans a3
  exact VN this
 subst e2;subst e3;exact⟨h1.base,h1.no,ov',kv',b4,b5,b6,b7,a8,a9⟩
theorem IIs.newer {No:Nat->Prop}{B b:Nat}{w:World}{R f1 f2:Value}{u:US}(h:IIs No B w b R f1 f2 u):IIs (NJ No w.heap.size) B w b R f1 f2 u:=
 h.more (fun e=>by
  rcases e with e|e
  . exact h.no e
  . have:=h.lt;omega) (fun g hg=>hg)
theorem IIs.weak {No No':Nat->Prop}{B b:Nat}{w:World}{R f1 f2:Value}{u:US}(h:IIs No B w b R f1 f2 u)(hn:∀g,No' g->No g):IIs No' B w b R f1 f2 u:=
 h.more (fun e=>h.no (hn b e)) (fun g hg=>.inl (hn g hg))
theorem Rd.wide {w:World}{No No':Nat->Prop}{a:Option Addr}{n:Nat}{bs:List Nat}(h:Rd w No a n bs)(hn:∀g,No g->No' g):Rd w No' a n bs:=⟨h.len,h.few,h.byt,h.val,fun b' o' e1 e2=>hn _ (h.no b' o' e1 e2)⟩
theorem Z61 {No:Nat->Prop}{B:Nat}{w w':World}(h:Below w.heap.size w w')(hB:B<=w.heap.size):Bl No B w w':=⟨h.mono hB,fun g hg _=>h.block g hg⟩
theorem IIs.past {No:Nat->Prop}{B b:Nat}{w w':World}{R f1 f2:Value}{u:US}(h:IIs No B w b R f1 f2 u)(hB:Below w.heap.size w w'):IIs No B w' b R f1 f2 u:=by
 obtain⟨ov,kv,h1,h2,h3,h4⟩:=h.ex;exact⟨h.base,h.no,ov,kv,(hB.block b h.lt).trans h1,Ar h2 (fun g hg=>hB.block g (h2.lt g hg).2),Ar h3 (fun g hg=>hB.block g (h3.lt g hg).2),h4⟩
structure Rk (No:Nat->Prop)(B:Nat)(w:World)(b:Nat)(R f1 f2:Value)(u:US)(w':World):Prop where
 is:IIs (NJ No w.heap.size) B w' b R f1 f2 u
 bl:Bl No B w w'
theorem Rk.refl {No:Nat->Prop}{B b:Nat}{w:World}{R f1 f2:Value}{u:US}(h:IIs No B w b R f1 f2 u):Rk No B w b R f1 f2 u w:=⟨h.newer,Bl.refl _ _ _⟩
theorem Rk.num {No:Nat->Prop}{B b:Nat}{w w1 w2:World}{R f1 f2:Value}{u v:US}(h:Rk No B w b R f1 f2 u w1)(k:IUp (NJ No w.heap.size) B w1 b R f1 f2 v w2):Rk No B w b R f1 f2 v w2:=⟨k.is,h.bl.trans ⟨k.below,k.kp.weaken (fun _ h=>.inl h)⟩⟩
theorem Rk.past {No:Nat->Prop}{B b:Nat}{w w1 w2:World}{R f1 f2:Value}{u:US}(h:Rk No B w b R f1 f2 u w1)(k:Below w1.heap.size w1 w2):Rk No B w b R f1 f2 u w2:=⟨h.is.past k,h.bl.trans (Z61 k (VX h.is.base (YU h.is.lt)))⟩
theorem Rk.drewN {No:Nat->Prop}{B b:Nat}{w w1:World}{R f1 f2:Value}{u:US}(h:Rk No B w b R f1 f2 u w1)(q:Nat):Rk No B w b R f1 f2 u (w1.drewN q):=h.past (Af (Below.refl _ _) q)
theorem Ui:∀(l:List Nat) (y:Nat),Ai (l++ [y])=Ai l+256^l.length*y
 | [],y=>by simp[Ai]
 |x::r,y=>by
  rw[XJ,Ai,Ui r y,Ai,VH,XE,Nat.mul_add,WJ,<-YG,YH 256 (256^r.length)]
theorem Z27 (y k:Nat)(hk:k<=3)(hy:y<256)(W:World):(Op.shift .shl .u32 (y:Int) .i64 (IntKind.i64.wrap (8*(k:Int)))).run Tryz.prog W=.ok (.int .u32 ((256^k*y:Nat):Int)) W:=by
 have e:IntKind.i64.wrap (8*(k:Int))=((8*k:Nat):Int):=by
  simp[IntKind.wrap,IntKind.bits,IntKind.signed]
  omega
 rw[e];have h256:(256:Nat)^k=2^(8*k):=by rw[Nat.pow_mul]
 have hp:256^k<=256^3:=VV (by decide) hk;have hm:256^k*y<=256^3*255:=Nat.mul_le_mul hp (by omega)
 have h2:IntKind.u32.wrap ((y:Int)*2^min (8*k) 32)=((256^k*y:Nat):Int):=by
  rw[YC (by omega)];have e1:(y:Int)*2^(8*k)=((256^k*y:Nat):Int):=by rw[h256];push_cast;rw[Int.mul_comm]
  rw[e1,IntKind.wrap_u32'];have:(256:Nat)^3=16777216:=by decide
  omega
 unfold Op.shift;rw[if_neg (by omega),WL];show Result.ok (Value.int .u32 (IntKind.u32.wrap ((y:Int)*2^min (8*k) 32))) W=_
 rw[h2]
theorem Z58 (m k y:Nat)(hm:m<256^k)(hk:k<=3)(hy:y<256):bits .or .u32 (m:Int) ((256^k*y:Nat):Int)=((m+256^k*y:Nat):Int):=by
 have hp:256^k<=256^3:=VV (by decide) hk;have h3:(256:Nat)^3=16777216:=by decide
 have hmy:256^k*y<=256^3*255:=Nat.mul_le_mul hp (by omega);rw[u32_or_nat _ _ (by omega) (by omega)];have h256:(256:Nat)^k=2^(8*k):=by rw[Nat.pow_mul]
 rw[h256]at hm ⊢;have:=YL (i:=8*k) (b:=m) hm y
 rw[Nat.or_comm,<-this,Nat.add_comm]
theorem Et (b p size n cap:Nat)(a:Option Addr)(bs:List Nat)(w:World)(hI:w.heap[b]? =some (.cells #[.slice a n cap,.int .i64 (p:Int)] 121 (0,0)))(hp:p<=n)(hR:ZRow w b a n cap bs)(hm:size<=4):
 Calls Tryz.prog 108 #[.pointer (some ⟨b,0,none⟩),.int .u32 (size:Int)] w fun e w'=>(n<p+size/\e=Z1f/\ZT w b (.slice a n cap) p w')\/ (p+size<=n/\e=.returned (.int .u32 (Ai ((bs.drop p).take size):Nat))/\ZT w b (.slice a n cap) (p+size) w'):=by
 have HC:=Ab (Ds b p size n cap a bs w hI hp hR (by omega));have hvl:∀x∈(bs.drop p).take size,x<256:=fun x hx=>hR.val x (WB (VS hx))
 have hl:p+size<=n->((bs.drop p).take size).length=size:=fun h=>by rw[VL,VO,hR.len];omega
 obtain⟨xs,hxs⟩:∃xs,(bs.drop p).take size=xs:=⟨_,rfl⟩
 rw[hxs]at HC hvl hl ⊢;have HV:=Ab hvl;have HL:=Ab hl;have HR:=Ab hR;clear hI hR hvl hl hxs hp;go_enter Tryz.func108,Tryz.ntmps108
 go_wp2_with fail
 refine(Aa HC).mono ?_;rintro e w1 (⟨h1,rfl,hT⟩|⟨h1,⟨a',c',rfl,h2,hP⟩,hT⟩)
 . have HT:=Ab hT;clear hT;go_wp2;exact⟨rfl,.inl ⟨h1,rfl,Aa HT⟩⟩
 . have HT:=Ab hT;have HP:=Ab (hP w1 ((Aa HR).after hT));have hxl:=Aa HL h1;have HXL:=Ab hxl;clear hT hP hxl;go_wp2;go_loopw [5,6,7,12] (fun v5 _ _ i wr=>∃k:Nat,k<=size/\i=.int .i64 (k:Int)/\v5=.int .u32 (Ai (xs.take k):Nat)/\Hid (wr=w1)) (fun _ _ _ i _=>size-(intOf i).toNat)
   case atStart=>exact⟨0,VM _,rfl,by simp[Ai],Ab rfl⟩
   case round=>
    obtain⟨k,hk,rfl,rfl,hw⟩:=hrel;have hwr:wr=w1:=Aa hw;subst hwr;clear hw
    by_cases hlt:k<size
    . obtain⟨g,o,rfl,hg,hB⟩:=Ca (Aa HP).1 (by rw[Aa HXL];omega);have hc:=hB k (by rw[Aa HXL];exact hlt);have hy:=Dj (Aa HV) k;obtain⟨y,hyy⟩:∃y,xs.getD k 0=y:=⟨_,rfl⟩
      rw[hyy]at hc hy;have hml:=Lh (xs.take k) (fun x hx=>Aa HV x (VS hx));have hkl:(xs.take k).length=k:=by rw[VL,Aa HXL];omega
      rw[hkl]at hml
      have hnx:Ai (xs.take (k+1))=Ai (xs.take k)+256^k*y:=by
       have hk3:k<xs.length:=by rw[Aa HXL];exact hlt
       have e:xs.take (k+1)=xs.take k++ [y]:=by
        rw[WU hk3,<-hyy];simp[List.getD,hk3]
       rw[e,Ui,hkl]
      obtain⟨m,hm'⟩:∃m,Ai (xs.take k)=m:=⟨_,rfl⟩
      rw[hm']at hml hnx ⊢;have hsh:=Z27 y k (by omega) hy;have hor:=Z58 m k y hml (by omega) hy;obtain⟨z,hz⟩:∃z,256^k*y=z:=⟨_,rfl⟩
      rw[hz]at hsh hor hnx
      have hor2:bits .or .u32 (m:Int) ((y:Int)*2^(8*k)%4294967296)=((m+z:Nat):Int):=by
       have e1:(y:Int)*2^(8*k)=(z:Int):=by rw[<-hz,show (256:Nat)^k=2^(8*k) by rw[Nat.pow_mul]];push_cast;rw[Int.mul_comm]
       have hp:256^k<=256^3:=VV (by decide) (by omega);have h3:(256:Nat)^3=16777216:=by decide
       have hmy:256^k*y<=256^3*255:=Nat.mul_le_mul hp (by omega);rw[e1,<-hor]
       congr 1
       omega
      have HNX:=Ab (And.intro hnx hor2);clear hor2 hor hsh;have hwy:IntKind.u32.wrap (y:Int)=(y:Int):=by rw[IntKind.wrap_u32'];omega
      clear hB hyy hml hkl hnx hm' hz;go_wp2;go_roundw
      case rel=>exact⟨k+1,by omega,by go_num,by rw[(Aa HNX).1,(Aa HNX).2],by first|exact Ab rfl|exact Ab trivial⟩
      case measure=>simp[intOf];omega
    . obtain rfl:size=k:=by omega
      have e:xs.take size=xs:=VP (by rw[Aa HXL];exact VC _);rw[e];obtain⟨m,hm'⟩:∃m,Ai xs=m:=⟨_,rfl⟩
      rw[hm'];have HM:=Ab hm';clear hm' e;go_wp2;go_ret;exact .inr ⟨h1,by rw[Aa HM];rfl,Aa HT⟩
end Go.Proofs.YtieianhejdcgdaaGreatDoor
