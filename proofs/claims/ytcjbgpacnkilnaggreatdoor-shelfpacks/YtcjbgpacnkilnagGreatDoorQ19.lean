import Derived.Test.YtcjbgpacnkilnagGreatDoorQ18
import Derived.Deep.RegionHeld3
import Derived.Deep.RegionWith
import Derived.Test.YtcjbgpacnkilnagGreatDoorQ11
import Derived.Test.YtcjbgpacnkilnagGreatDoorQ2
import Derived.Deep.DeepCutAuto
import Derived.Test.YtcjbgpacnkilnagGreatDoorQ4
set_option maxHeartbeats 2000000
namespace Go.Proofs.YtcjbgpacnkilnagGreatDoor
open Go.RowKit
set_option linter.unusedVariables false
set_option maxRecDepth 100000
theorem Zh1 {w:World}{a:Option Addr}{c:Nat}{bs:List UInt8}(h:BsIn w a c bs):PkIn w a c (n8 bs):=by
 rcases h with ⟨rfl,rfl,rfl⟩|⟨rfl,ad,rfl⟩|⟨b,o,rfl,h2,h3,h4⟩
 . exact⟨.inl rfl,fun _=>rfl⟩
 . exact⟨.inl rfl,fun e=>by cases e⟩
 . refine⟨.inr ⟨b,o,rfl,h2,fun j hj=> ?_⟩,fun e=>by cases e⟩;rw[Dv]at hj;rw[h4 j hj];simp[n8,List.getD,hj]
theorem Zlt {w:World}{a:Option Addr}{c:Nat}{ys:List Nat}(h:PkIn w a c ys)(hc:ys.length<=c)(hv:∀x∈ys,x<256):BsIn w a c (o8 ys):=by
 cases a with
 |none=>
  have h0:=h.2 rfl;have:ys= []:=List.eq_nil_of_length_eq_zero (by omega)
  subst this;exact .inl ⟨rfl,rfl,h0⟩
 |some ad=>
  rcases h.1 with rfl|⟨b,o,e,hb,hB⟩
  . exact .inr (.inl ⟨rfl,ad,rfl⟩)
  . refine .inr (.inr ⟨b,o,e,hb,by rw[Lg];exact hc,fun j hj=> ?_⟩);rw[Lg]at hj;rw[hB j hj];have h1:=hv ys[j] (List.getElem_mem hj);simp[o8,List.getD,hj]
    omega
structure EvIn (w:World)(x:Ev):Prop where
 fb:PkIn w x.fa x.fc (n8 x.e.f.bytes)
 fl:x.e.f.bytes.length<=x.fc
 big:x.e.f.bytes.length<=140737488355328
 txt:x.e.f.name.length<=140737488355328
 pk:PkIn w x.pa x.pc x.e.pk
theorem EvIn.below {w w':World}{x:Ev}(h:EvIn w x)(hB:Below w.heap.size w w'):EvIn w' x:=⟨h.fb.below hB,h.fl,h.big,h.txt,h.pk.below hB⟩
theorem EvIn.fv {w:World}{x:Ev}(h:EvIn w x):FvIn w ⟨x.e.f,x.fa,x.fc⟩:=⟨by have:=Zlt h.fb (by rw[Dv];exact h.fl) (Jw _);rw[Zfq]at this;exact this,h.big,h.txt⟩
theorem Z3q {w:World}{a:Option Addr}{c:Nat}{bs:List UInt8}(h:BsIn w a c bs):bs.length<=c:=by
 rcases h with ⟨rfl,rfl,rfl⟩|⟨rfl,ad,rfl⟩|⟨b,o,rfl,h2,h3,h4⟩
 . exact Nat.le_refl _
 . exact Nat.zero_le _
 . exact h3
theorem PkIn.grown {w w':World}{c:Nat}{r:Option Nat}{a:Option Addr}{ys:List Nat}(h:PkIn w a c ys)(hg:w.grownBy w' r)(hX:∀g o,a=some ⟨g,o,none⟩->ys≠ []->some g≠r):PkIn w' a c ys:=by
 refine⟨?_,h.2⟩
 by_cases h0:ys= []
 . exact .inl h0
 . rcases h.1 with h1|⟨b,o,e,hb,hc⟩
   . exact absurd h1 h0
   . exact .inr ⟨b,o,e,Nat.lt_of_lt_of_le hb hg.size,hc.grown hg (hX b o e h0)⟩
def Ev.lies (x:Ev)(Pr:Nat->Prop):Prop:=(∀g o,x.fa=some ⟨g,o,none⟩->x.e.f.bytes≠ []->Pr g)/\(∀g o,x.pa=some ⟨g,o,none⟩->x.e.pk≠ []->Pr g)
theorem Zbe {l:List UInt8}(h:n8 l≠ []):l≠ []:=fun e=>h (by rw[e];rfl)
theorem EvIn.grown {w w':World}{x:Ev}{r:Option Nat}(h:EvIn w x)(hg:w.grownBy w' r)(hr:x.lies (fun g=>some g≠r)):EvIn w' x:=
 ⟨h.fb.grown hg (fun g o e1 e2=>hr.1 g o e1 (Zbe e2)),h.fl,h.big,h.txt,h.pk.grown hg (fun g o e1 e2=>hr.2 g o e1 e2)⟩
theorem Ev.lies.mono {x:Ev}{A C:Nat->Prop}(h:x.lies A)(hm:∀g,A g->C g):x.lies C:=⟨fun g o e1 e2=>hm g (h.1 g o e1 e2),fun g o e1 e2=>hm g (h.2 g o e1 e2)⟩
theorem EvIn.lt {w:World}{x:Ev}(h:EvIn w x):x.lies (fun g=>g<w.heap.size):=by
 constructor
 . intro g o e1 e2
   rcases h.fb.1 with h1|⟨b,o',e,hb,_⟩
   . exact absurd (by rw[<-Zfq x.e.f.bytes,h1];rfl) e2
   . rw[e1]at e;cases e;exact hb
 . intro g o e1 e2
   rcases h.pk.1 with h1|⟨b,o',e,hb,_⟩
   . exact absurd h1 e2
   . rw[e1]at e;cases e;exact hb
theorem Vr {w:World}{a:Option Addr}{c:Nat}{ys:List Nat}(h:PkIn w a c ys):∀g o,a=some ⟨g,o,none⟩->ys≠ []->g<w.heap.size:=by
 intro g o e hne
 rcases h.1 with h1|⟨b,o',e',hb,_⟩
 . exact absurd h1 hne
 . rw[e]at e';cases e';exact hb
theorem Ks {α:Type}{l:List α}{k:Nat}{x:α}(h:l[k]? =some x):l.take (k+1)=l.take k++ [x]:=by
 obtain⟨hk,e⟩:=List.getElem?_eq_some_iff.1 h;rw[List.take_succ_eq_append_getElem hk,e]
def ecells (xs:List Ev):List Value:=xs.flatMap Ev.cells
theorem Z85 (xs:List Ev):(ecells xs).length=xs.length*8:=by
 induction xs with
 |nil=>rfl
 |cons x r ih=>
  have:ecells (x::r)=x.cells++ecells r:=rfl
  rw[this,List.length_append,ih,List.length_cons];show 8+_=_
  omega
theorem Z86 (xs ys:List Ev):ecells (xs++ys)=ecells xs++ecells ys:=by simp[ecells]
theorem Z84 (y:Ev):ecells [y]=y.cells:=by simp[ecells]
theorem Z11:∀(xs:List Ev) (j:Nat) (x:Ev) (i:Nat),xs[j]? =some x->i<8->(ecells xs)[j*8+i]? =x.cells[i]?
 | [],j,x,i,h,_=>by simp at h
 |y::r,0,x,i,h,hi=>by
  have:ecells (y::r)=y.cells++ecells r:=rfl
  simp at h
  subst h;rw[this,Nat.zero_mul,Nat.zero_add,List.getElem?_append_left (show i<8 from hi)]
 |y::r,j+1,x,i,h,hi=>by
  have e:ecells (y::r)=y.cells++ecells r:=rfl;have hl:y.cells.length=8:=rfl;have ih:=Z11 r j x i (by simpa using h) hi;rw[e,List.getElem?_append_right (by rw[hl];omega),hl,show (j+1)*8+i-8=j*8+i by omega,ih]
theorem Z3g (y:Ev):∀u∈y.cells,u.oneCell'=true:=by
 intro u hu;simp only[Ev.cells,List.mem_cons,List.not_mem_nil,or_false]at hu
 rcases hu with rfl|rfl|rfl|rfl|rfl|rfl|rfl|rfl<;>rfl
structure ERow (w:World)(B:Nat)(v:Value)(xs:List Ev):Prop where
 own:w.ownsRow B 62 8 v xs.length (ecells xs)
 all:∀x∈xs,EvIn w x
 apart:∀x∈xs,x.lies (fun g=>some g≠v.ownBlock)
theorem ERow.nil (w:World)(B:Nat):ERow w B (.slice none 0 0) []:=⟨World.ownsRow_nil _ _ _ _,(fun x hx=>absurd hx List.not_mem_nil),(fun x hx=>absurd hx List.not_mem_nil)⟩
theorem ERow.below {w w':World}{B:Nat}{v:Value}{xs:List Ev}(h:ERow w B v xs)(hB:Below w.heap.size w w'):ERow w' B v xs:=
 ⟨Ar h.own (fun g hg=>hB.block g (h.own.lt g hg).2),fun x hx=>(h.all x hx).below hB,h.apart⟩
theorem Z7l:(Tryz.prog.info? 62).map (fun i=>(i.zero,i.size,i.bytes))=some (some (.agg #[.string ⟨#[]⟩,.slice none 0 0,.int .i64 0,.int .i64 0,.bool false,.int .u32 0,.slice none 0 0,.int .u32 0]),8,104):=by kernel_rfl
theorem Fr (w:World){ops:Array Oper}{rest:List Oper}{o:Oper}{a:Act}{Q:Exit->Act->World->Prop}(hgd:o.guard=none)(s x:Operand)
 (ho:o.op=.call {callee:=.builtin .append,args:= #[s,x],argTypes:= #[59,59]}) (base:Nat) (v:Value) (xs:List Ev) (hs:a.eval s=v) (hown:ERow w base v xs)
 (g:Nat) (y:Ev) (hx:a.eval x=.slice (some ⟨g,0,none⟩) 1 1) (hc:∀j u,y.cells[j]? =some u->w.cell? ⟨g,j,none⟩=some u) (hy:EvIn w y) (hyb:y.lies (fun g=>some g≠v.ownBlock)) (hsz:xs.length+1<=100000) (hbase:base<=w.heap.size)
 (h:∀v' w',Hid (ERow w' base v' (xs++ [y]))->Hid (w.grownBy w' v.ownBlock)->wpList Tryz.prog ops Q rest (a.put o.dst v') w'):wpList Tryz.prog ops Q (o::rest) a w:=by
 obtain⟨i0,hi,hz0,hz1,hz2⟩:=info_parts Z7l;refine wpList_append_own_at w hgd s x 59 ho base 62 i0 _ 8 104 Tryz.underlying59 hi hz0 hz1 hz2 rfl (by decide) v xs.length (ecells xs) hs hown.own ⟨g,0,none⟩ 1 1 y.cells hx rfl ?_ (Z3g y) (by unfold maxLen;omega) (by omega) hbase ?_
 . intro j u hj;have e2:(⟨g,0,none⟩:Addr).add j=⟨g,j,none⟩:=by unfold Addr.add;split<;>simp_all
   rw[e2];exact hc j u hj
 . intro v' w' h1 h2 _ h4
   have hne:∀z∈xs++ [y],z.lies (fun g=>some g≠v.ownBlock):=by
    intro z hz
    rcases List.mem_append.1 hz with hz|hz
    . exact hown.apart z hz
    . rw[List.mem_singleton.1 hz];exact hyb
   have hin:∀z∈xs++ [y],EvIn w z:=by
    intro z hz
    rcases List.mem_append.1 hz with hz|hz
    . exact hown.all z hz
    . rw[List.mem_singleton.1 hz];exact hy
   refine h v' w' (Ab ⟨?_,fun z hz=>(hin z hz).grown h2 (hne z hz),fun z hz=> ?_⟩) (Ab h2)
   . rw[Z86,Z84,List.length_append];exact h1
   . have hl:=(hin z hz).lt;have hn:=hne z hz
     rcases h4 with h4|h4
     . rw[h4];exact hn
     . rw[h4];exact hl.mono (fun g hg e=>by have:=Option.some.inj e;omega)
def Es (w:World)(b o:Nat)(xs:List Ev):Prop:=∀j x,xs[j]? =some x->∀i,i<8->w.cell? ⟨b,o+j*8+i,none⟩=x.cells[i]?
structure EsIn (w:World)(ad:Option Addr)(c:Nat)(xs:List Ev):Prop where
 at_:xs= []\/∃b o,ad=some ⟨b,o,none⟩/\b<w.heap.size/\Es w b o xs
 all:∀x∈xs,EvIn w x
theorem EsIn.below {w w':World}{ad:Option Addr}{c:Nat}{xs:List Ev}(h:EsIn w ad c xs)(hB:Below w.heap.size w w'):EsIn w' ad c xs:=by
 refine⟨?_,fun x hx=>(h.all x hx).below hB⟩
 rcases h.at_ with h1|⟨b,o,e,hb,hE⟩
 . exact .inl h1
 . exact .inr ⟨b,o,e,Nat.lt_of_lt_of_le hb hB.size,fun j x hj i hi=>(World.cell?_of_block (w:=w) (a:=⟨b,_,none⟩) (hB.block b hb)).trans (hE j x hj i hi)⟩
theorem EsIn.get {w w':World}{ad:Option Addr}{c k:Nat}{xs:List Ev}{x:Ev}(h:EsIn w ad c xs)(hB:Below w.heap.size w w')(hk:xs[k]? =some x):
 ∃b o,ad=some ⟨b,o,none⟩/\b<w.heap.size/\w'.cell? ⟨b,o+k*8,none⟩=some (.string (B x.e.f.name))/\w'.cell? ⟨b,o+k*8+1,none⟩=some (.slice x.fa x.e.f.bytes.length x.fc)/\w'.cell? ⟨b,o+k*8+2,none⟩=some (.int .i64 x.e.f.stamp)/\w'.cell? ⟨b,o+k*8+3,none⟩=some (.int .i64 x.e.f.node)/\w'.cell? ⟨b,o+k*8+4,none⟩=some (.bool x.e.f.gone)/\w'.cell? ⟨b,o+k*8+5,none⟩=some (.int .u32 (x.e.meth:Int))/\w'.cell? ⟨b,o+k*8+6,none⟩=some (.slice x.pa x.e.pk.length x.pc)/\w'.cell? ⟨b,o+k*8+7,none⟩=some (.int .u32 (x.e.crc:Int)):=by
 rcases(h.below hB).at_ with h1|⟨b,o,e,hb,hE⟩
 . subst h1;simp at hk
 . have hb':b<w.heap.size:=by
    rcases h.at_ with h1|⟨b',o',e',hb',_⟩
    . subst h1;simp at hk
    . rw[e]at e';cases e';exact hb'
   exact⟨b,o,e,hb',hE k x hk 0 (by decide),hE k x hk 1 (by decide),hE k x hk 2 (by decide),hE k x hk 3 (by decide),hE k x hk 4 (by decide),hE k x hk 5 (by decide),hE k x hk 6 (by decide),hE k x hk 7 (by decide)⟩
def Sk:Nat->List En->List Nat
 |_,[]=> []
 |p,x::r=>p::Sk (p+(Z1t x).length) r
theorem Z4t:∀(a:List En) (x:En) (p:Nat),Sk p (a++ [x])=Sk p a++ [p+(Bh a).length]
 | [],x,p=>by simp[Sk,Bh]
 |y::a,x,p=>by rw[List.cons_append,Sk,Z4t a x,Sk,Bh,List.length_append,List.cons_append,Nat.add_assoc]
theorem Z2n:∀(a:List En) (p:Nat),(Sk p a).length=a.length
 | [],p=>rfl
 |y::a,p=>by rw[Sk,List.length_cons,Z2n a,List.length_cons]
theorem Zhm:∀(a:List En) (p k:Nat),k<a.length->(Sk p a).getD k 0=p+(Bh (a.take k)).length
 | [],p,k,h=>by simp at h
 |y::a,p,0,h=>by simp[Sk,Bh]
 |y::a,p,k+1,h=>by
  have:=Zhm a (p+(Z1t y).length) k (by simpa using h)
  simp only[Sk,List.getD_cons_succ,List.take_succ_cons,Bh,List.length_append];rw[this];omega
theorem Zca (a:List En)(x:En):Bh (a++ [x])=Bh a++Z1t x:=by rw[Z5q];simp[Bh]
theorem Z6n (a:List En)(x:En):Bj 0 (a++ [x])=Bj 0 a++Zf4 x (Bh a).length:=by rw[Yk];simp[Bj]
theorem ERow.entries {w:World}{B:Nat}{v:Value}{xs:List Ev}(h:ERow w B v xs):∃ad c,v=.slice ad xs.length c/\EsIn w ad c xs:=by
 rcases h.own.2 with ⟨h1,h2⟩|⟨g,cap,cur,h1,h2,h3,h4,h5⟩
 . exact⟨none,0,by rw[h1,h2],.inl (List.eq_nil_of_length_eq_zero h2),h.all⟩
 . refine⟨some ⟨g,0,none⟩,cap,h1,.inr ⟨g,0,rfl,(h.own.lt g (by rw[h1];rfl)).2,fun j x hj i hi=> ?_⟩,h.all⟩;have hown:=h.own;rw[h1]at hown;have hl:=Z85 xs;have hj2:=(List.getElem?_eq_some_iff.1 hj).1;rw[Nat.zero_add,hown.cellAt _ (by omega)];exact Z11 xs j x i hj hi
structure AS (w:World)(Bs b:Nat)(xs:List Nat)(v:Value)(ps:List Nat)(wr:World):Prop where
 z:∃ov,ZC Bs wr b xs ov
 p:wr.ownsRow (b+1) 3 1 v ps.length (i64s ps)
 below:Below Bs w wr
theorem AS.later {w wr w':World}{Bs b:Nat}{xs ps:List Nat}{v:Value}(h:AS w Bs b xs v ps wr)(hB:Below wr.heap.size wr w'):AS w Bs b xs v ps w':=by
 obtain⟨ov,hz⟩:=h.z;refine⟨⟨ov,hz.later hB⟩,Ar h.p (fun g hg=>hB.block g (h.p.lt g hg).2),h.below.trans (hB.mono (by have:=hz.lt;have:=hz.base;omega))⟩
theorem AS.app {w W w3:World}{Bs b y:Nat}{xs ps:List Nat}{v v':Value}(h:AS w Bs b xs v ps W)(hg:W.grownBy w3 v.ownBlock)(ho:w3.ownsRow (b+1) 3 1 v' (ps.length+1) (i64s ps++ [.int .i64 (y:Int)])):AS w Bs b xs v' (ps++ [y]) w3:=by
 obtain⟨ov,hz⟩:=h.z;have hlt:=hz.lt;have hbb:=hz.base;have hgs:=hg.size;refine⟨⟨ov,hz.base, ?_, ?_⟩, ?_, ?_⟩
 . refine(hg.block b hlt (fun e=> ?_)).trans hz.cell;have:=(h.p.lt b e.symm).1
   omega
 . refine Ar hz.own (fun g hgo=>hg.block g (hz.own.lt g hgo).2 (fun e=> ?_));obtain⟨c1,e1⟩:=On hz.own hgo;obtain⟨c2,e2⟩:=On h.p e.symm;rw[e1]at e2
   injection e2 with e2
   injection e2 with _ e2
   exact absurd e2 (by decide)
 . rw[List.length_append,i64s,List.map_append];exact ho
 . exact h.below.grown hg (by omega) (fun g e=>by have:=(h.p.lt g e).1;omega)
theorem AS.up {w w3 w4:World}{Bs b:Nat}{xs ys ps:List Nat}{v:Value}(h:AS w Bs b xs v ps w3)(hU:ZUp Bs w3 b ys w4):AS w Bs b ys v ps w4:=by
 refine⟨hU.is,Ar h.p (fun g hg=> ?_),h.below.trans hU.below⟩;obtain⟨cs,e⟩:=On h.p hg;rw[e];exact hU.kp g cs _ _ (by decide) (by decide) e
theorem Zc0:(Tryz.prog.info? 3).map (fun i=>(i.zero,i.size,i.bytes))=some (some (.int .i64 0),1,8):=by kernel_rfl
theorem Zcb:∀(l:List En),(∀x∈l,ENum x)->(Bh l).length<=12081*l.length
 | [],_=>by simp[Bh]
 |x::r,h=>by
  have h1:=Zcb r (fun y hy=>h y (List.mem_cons_of_mem _ hy));have h2:=h x (by simp);have h3:=h2.nm;have h4:=h2.pl;rw[Bh,List.length_append,Pa,List.length_cons];omega
theorem Z4h:∀(l:List En) (p:Nat),(∀x∈l,ENum x)->(Bj p l).length<=97*l.length
 | [],p,_=>by simp[Bj]
 |x::r,p,h=>by
  have h1:=Z4h r (p+(Z1t x).length) (fun y hy=>h y (List.mem_cons_of_mem _ hy));have h3:=(h x (by simp)).nm;rw[Bj,List.length_append,Vh,List.length_cons];omega
theorem Z3i (b:Nat)(a:Option Addr)(len cap:Nat)(l:List Int)(w:World)(hl:l.length=len)(hM:len<=1000000)(hR:RowIn .i64 w a l)(he:errL l≠0):
 Calls Tryz.prog 164 #[.pointer (some ⟨b,0,none⟩),.slice a len cap] w fun e w'=>e=Flt (errL l)/\Below w.heap.size w w':=by
 have HC:=Ab (Zda a len cap l (w.alloc (.cells #[.pointer (some ⟨b,0,none⟩)] 179)) hl (by omega) (hR.alloc _) he);have HA:Hid (Below w.heap.size w (w.alloc (.cells #[.pointer (some ⟨b,0,none⟩)] 179))):=Ab ((Below.refl _ _).alloc (Nat.le_refl _) _);have hb:(errL l !=0)=true:=by rw[bne_iff_ne];exact he
 obtain⟨E,hE⟩:∃E,errL l=E:=⟨_,rfl⟩
 rw[hE]at HC hb ⊢;clear hE he hR hl;go_enter Tryz.func164,Tryz.ntmps164
 go_wp2_with fail
 refine(Aa HC).mono ?_;rintro e w1 ⟨rfl,hB1⟩;have HB1:Hid (Below w.heap.size w w1):=Ab ((Aa HA).trans (hB1.mono (by simp)));clear hB1;go_wp2_with fail
 refine(Bw E w1).mono ?_;rintro e w2 ⟨rfl,rfl⟩;go_wp2;exact⟨rfl,rfl,Aa HB1⟩
def Znw (b:Nat)(l:List Int)(w:World)(e:Ending)(w':World):Prop:=
 Below w.heap.size w w'/\((errL l=0/\∃gr gm mb nn,e=.returned (DV gr gm)/\w.heap.size<=gr/\w.heap.size<=gm/\w.heap.size<=mb/\mb<w'.heap.size/\DIs w' gr gm mb nn b l)\/ (errL l≠0/\e=Flt (errL l)))
theorem Kh (b:Nat)(a:Option Addr)(len cap:Nat)(l:List Int)(w:World)(hl:l.length=len)(hM:len<=1000000)(hR:RowIn .i64 w a l):
 Calls Tryz.prog 164 #[.pointer (some ⟨b,0,none⟩),.slice a len cap] w fun e w'=>Znw b l w e w':=by
 by_cases he:errL l=0
 . refine(Mz b a len cap l w hl hR (Ci he)).mono ?_;rintro e w' ⟨gr,gm,mb,nn,h1,h2,h3,h4,h5,h6,h7⟩;exact⟨h7,.inl ⟨he,gr,gm,mb,nn,h1,h2,h3,h4,h5,h6⟩⟩
 . refine(Z3i b a len cap l w hl hM hR he).mono ?_;rintro e w' ⟨h1,h2⟩;exact⟨h2,.inr ⟨he,h1⟩⟩
def NJ (No:Nat->Prop)(N:Nat):Nat->Prop:=fun g=>No g\/N<=g
def NK (No:Nat->Prop)(N M:Nat):Nat->Prop:=fun g=>No g\/ (N<=g/\g<M)
theorem IIs.back {No1 No2:Nat->Prop}{B b:Nat}{w w':World}{R f1 f2 g1 g2:Value}{u u':US}(h1:IIs No1 B w b R f1 f2 u)(h2:IIs No2 B w' b R g1 g2 u')(hK:Mj b w w'):IIs No1 B w' b R g1 g2 u':=by
 obtain⟨ov,kv,a2,a3,a4,a5,a6,a7,a8,a9⟩:=h1.rows;obtain⟨ov',kv',b2,b3,b4,b5,b6,b7,b8,b9⟩:=h2.rows
 have e2:ov'=ov:=by
  have:=(b2.symm.trans (hK 2 (by decide))).trans a2
  exact Option.some.inj this
 have e3:kv'=kv:=by
  have:=(b3.symm.trans (hK 3 (by decide))).trans a3
  exact Option.some.inj this
 subst e2;subst e3;exact⟨h1.base,h1.no,ov',kv',b4,b5,b6,b7,a8,a9⟩
theorem IIs.newer {No:Nat->Prop}{B b:Nat}{w:World}{R f1 f2:Value}{u:US}(h:IIs No B w b R f1 f2 u):IIs (NJ No w.heap.size) B w b R f1 f2 u:=
 h.more (fun e=>by
  rcases e with e|e
  . exact h.no e
  . have:=h.lt;omega) (fun g hg=>hg)
theorem IIs.weak {No No':Nat->Prop}{B b:Nat}{w:World}{R f1 f2:Value}{u:US}(h:IIs No B w b R f1 f2 u)(hn:∀g,No' g->No g):IIs No' B w b R f1 f2 u:=
 h.more (fun e=>h.no (hn b e)) (fun g hg=>.inl (hn g hg))
theorem Rd.wide {w:World}{No No':Nat->Prop}{a:Option Addr}{n:Nat}{bs:List Nat}(h:Rd w No a n bs)(hn:∀g,No g->No' g):Rd w No' a n bs:=⟨h.len,h.few,h.byt,h.val,fun b' o' e1 e2=>hn _ (h.no b' o' e1 e2)⟩
theorem Zmo {No:Nat->Prop}{B:Nat}{w w':World}(h:Below w.heap.size w w')(hB:B<=w.heap.size):Bl No B w w':=⟨h.mono hB,fun g hg _=>h.block g hg⟩
theorem IIs.past {No:Nat->Prop}{B b:Nat}{w w':World}{R f1 f2:Value}{u:US}(h:IIs No B w b R f1 f2 u)(hB:Below w.heap.size w w'):IIs No B w' b R f1 f2 u:=by
 obtain⟨ov,kv,h1,h2,h3,h4⟩:=h.ex;exact⟨h.base,h.no,ov,kv,(hB.block b h.lt).trans h1,Ar h2 (fun g hg=>hB.block g (h2.lt g hg).2),Ar h3 (fun g hg=>hB.block g (h3.lt g hg).2),h4⟩
structure Rk (No:Nat->Prop)(B:Nat)(w:World)(b:Nat)(R f1 f2:Value)(u:US)(w':World):Prop where
 is:IIs (NJ No w.heap.size) B w' b R f1 f2 u
 bl:Bl No B w w'
theorem Rk.refl {No:Nat->Prop}{B b:Nat}{w:World}{R f1 f2:Value}{u:US}(h:IIs No B w b R f1 f2 u):Rk No B w b R f1 f2 u w:=⟨h.newer,Bl.refl _ _ _⟩
theorem Rk.num {No:Nat->Prop}{B b:Nat}{w w1 w2:World}{R f1 f2:Value}{u v:US}(h:Rk No B w b R f1 f2 u w1)(k:IUp (NJ No w.heap.size) B w1 b R f1 f2 v w2):Rk No B w b R f1 f2 v w2:=⟨k.is,h.bl.trans ⟨k.below,k.kp.weaken (fun _ h=>.inl h)⟩⟩
theorem Rk.past {No:Nat->Prop}{B b:Nat}{w w1 w2:World}{R f1 f2:Value}{u:US}(h:Rk No B w b R f1 f2 u w1)(k:Below w1.heap.size w1 w2):Rk No B w b R f1 f2 u w2:=⟨h.is.past k,h.bl.trans (Zmo k (Nat.le_trans h.is.base (Nat.le_of_lt h.is.lt)))⟩
theorem Rk.drewN {No:Nat->Prop}{B b:Nat}{w w1:World}{R f1 f2:Value}{u:US}(h:Rk No B w b R f1 f2 u w1)(q:Nat):Rk No B w b R f1 f2 u (w1.drewN q):=h.past (Af (Below.refl _ _) q)
theorem Vt (l:List Int)(k:Nat)(hk:k<l.length):(l.take k++List.replicate (l.length-k) 0).set k (l.getD k 0)=l.take (k+1)++List.replicate (l.length-(k+1)) 0:=by
 have h1:(l.take k).length=k:=by simp;omega
 rw[List.set_append_right _ _ (by omega),h1,Nat.sub_self];obtain⟨q,hq⟩:∃q,l.length-k=q+1:=⟨l.length-k-1,by omega⟩
 have e:l.take (k+1)=l.take k++ [l.getD k 0]:=by rw[List.take_add_one];simp[List.getD,hk]
 rw[hq,List.replicate_succ,List.set_cons_zero,e,show l.length-(k+1)=q by omega];simp
theorem Zkd:(List.range 288).all (fun k=>Ml.getD k 0==(if k<144 then 8 else if k<256 then 9 else if k<280 then 7 else 8))=true:=by decide+kernel
theorem Zcm {k:Nat}(h:k<288):Ml.getD k 0=if k<144 then 8 else if k<256 then 9 else if k<280 then 7 else 8:=by
 have:=List.all_eq_true.1 Zkd k (by simpa using h)
 simpa using this
theorem Zkb:(List.range 32).all (fun k=>Ia.getD k 0==5)=true:=by decide+kernel
theorem Z3a {k:Nat}(h:k<32):Ia.getD k 0=5:=by
 have:=List.all_eq_true.1 Zkb k (by simpa using h)
 simpa using this
theorem Lw:Good Ml:=Ci (by decide+kernel)
theorem Lu:Good Ia:=Ci (by decide+kernel)
theorem Lv:Ml.length=288:=by decide+kernel
theorem Fh:Ia.length=32:=by decide
theorem Wl:(Tryz.prog.info? 145).map (·.size)=some 288:=by kernel_rfl
theorem Z5m:(Tryz.prog.info? 146).map (·.size)=some 32:=by kernel_rfl
theorem Z0l (w:World):Calls Tryz.prog 87 #[] w fun e w'=>e=.returned (.tuple #[.agg (iv Ml).toArray,.agg (iv Ia).toArray])/\Below w.heap.size w w':=by
 have hB0:Below w.heap.size w ((w.alloc (.cells (iv (List.replicate 288 0)).toArray 145)).alloc (.cells (iv (List.replicate 32 0)).toArray 146)):=((Below.refl w.heap.size w).alloc (Nat.le_refl _) _).alloc (by simp) _;have HB0:=Ab hB0;obtain⟨FA,hFA⟩:∃FA,Ml=FA:=⟨_,rfl⟩
 have hlA:=Lv;have hA:= @Zcm;rw[hFA]at hlA;simp only[hFA]at hA;have HFA:=Ab hFA;clear hB0 hFA;go_enter Tryz.func87,Tryz.ntmps87
 go_wp2;go_loopw [4] (fun i wr=>∃k:Nat,k<=288/\i=.int .i64 (k:Int)/\Hid (ARow 145 wr w.heap.size (FA.take k++List.replicate (FA.length-k) 0)/\ARow 146 wr (w.heap.size+1) (List.replicate 32 0)/\Below w.heap.size w wr)) (fun i _=>288-(intOf i).toNat)
 case atStart=>
  refine⟨0,by decide,rfl,Ab ⟨?_, ?_,Aa HB0⟩⟩
  . rw[hlA];exact(Below.heap_alloc _ _ _ (by simp)).trans ((heap_alloc_new _ _).trans (by kernel_rfl))
  . have e:w.heap.size+1=(w.alloc (.cells (iv (List.replicate 288 0)).toArray 145)).heap.size:=by simp
    rw[e];exact(heap_alloc_new _ _).trans (by kernel_rfl)
 case round=>
  obtain⟨k,hk,rfl,hst⟩:=hrel
  by_cases hlt:k<288
  . obtain⟨s1,s2,s3⟩:=Aa hst;have hl1:(FA.take k++List.replicate (FA.length-k) 0).length=288:=by simp;omega
    have c:=s1.cell k (by omega);have f:=s1.frozen k;have HV:=hA hlt
    have HST:Hid (∀v:Int,v=FA.getD k 0->ARow 145 (wr.setCell ⟨w.heap.size,k,none⟩ (.int .i64 v)) w.heap.size (FA.take (k+1)++List.replicate (FA.length-(k+1)) 0)/\ARow 146 (wr.setCell ⟨w.heap.size,k,none⟩ (.int .i64 v)) (w.heap.size+1) (List.replicate 32 0)/\Below w.heap.size w (wr.setCell ⟨w.heap.size,k,none⟩ (.int .i64 v))):=by
     intro v hv;have hgr:=Ad wr w.heap.size k (.int .i64 v);refine⟨?_,s2.keep (hgr.block _ s2.lt (fun e=>by have:=Option.some.inj e;omega)),s3.grown hgr s3.size (fun j e=>by rw[<-Option.some.inj e];exact Nat.le_refl _)⟩;have:=s1.set k v
     rw[hv,Vt FA k (by omega)]at this;rw[hv];exact this
    have hkI:(k:Int)<288:=by omega
    clear hst s1 s2 s3 hl1 hA;generalize (FA.take k++List.replicate (FA.length-k) 0).getD k 0=old at c
    by_cases h1:k<144
    . rw[if_pos h1]at HV;have h1I:(k:Int)<144:=by omega
      have HF:=Ab (Aa HST 8 HV.symm);clear HST HV;go_wp2;go_roundw
      case rel=>exact⟨k+1,by omega,by go_num,HF⟩
      case measure=>simp[intOf];omega
    . rw[if_neg h1]at HV;have h1I:¬(k:Int)<144:=by omega
      by_cases h2:k<256
      . rw[if_pos h2]at HV;have h2I:(k:Int)<256:=by omega
        have HF:=Ab (Aa HST 9 HV.symm);clear HST HV;go_wp2;go_roundw
        case rel=>exact⟨k+1,by omega,by go_num,HF⟩
        case measure=>simp[intOf];omega
      . rw[if_neg h2]at HV;have h2I:¬(k:Int)<256:=by omega
        by_cases h3:k<280
        . rw[if_pos h3]at HV;have h3I:(k:Int)<280:=by omega
          have HF:=Ab (Aa HST 7 HV.symm);clear HST HV;go_wp2;go_roundw
          case rel=>exact⟨k+1,by omega,by go_num,HF⟩
          case measure=>simp[intOf];omega
        . rw[if_neg h3]at HV;have h3I:¬(k:Int)<280:=by omega
          have HF:=Ab (Aa HST 8 HV.symm);clear HST HV;go_wp2;go_roundw
          case rel=>exact⟨k+1,by omega,by go_num,HF⟩
          case measure=>simp[intOf];omega
  . obtain rfl:k=288:=by omega
    have HS:Hid (ARow 145 wr w.heap.size FA/\ARow 146 wr (w.heap.size+1) (List.replicate 32 0)/\Below w.heap.size w wr):=by
     have:=Aa hst
     rw[List.take_of_length_le (by omega),hlA,Nat.sub_self,List.replicate_zero,List.append_nil]at this;exact Ab this
    clear hst hA;generalize wr=wl at*;go_wp2;go_loopw [25] (fun i wr=>∃k:Nat,k<=32/\i=.int .i64 (k:Int)/\Hid (ARow 145 wr w.heap.size FA/\ARow 146 wr (w.heap.size+1) (Ia.take k++List.replicate (Ia.length-k) 0)/\Below w.heap.size w wr)) (fun i _=>32-(intOf i).toNat)
    case atStart=>exact⟨0,by decide,rfl,HS⟩
    case round=>
     obtain⟨k,hk,rfl,hst⟩:=hrel
     by_cases hlt:k<32
     . obtain⟨s1,s2,s3⟩:=Aa hst;have hl1:(Ia.take k++List.replicate (Ia.length-k) 0).length=32:=by simp[Fh];omega
       have c:=s2.cell k (by omega);have f:=s2.frozen k
       have HF:Hid (ARow 145 (wr.setCell ⟨w.heap.size+1,k,none⟩ (.int .i64 5)) w.heap.size FA/\ARow 146 (wr.setCell ⟨w.heap.size+1,k,none⟩ (.int .i64 5)) (w.heap.size+1) (Ia.take (k+1)++List.replicate (Ia.length-(k+1)) 0)/\Below w.heap.size w (wr.setCell ⟨w.heap.size+1,k,none⟩ (.int .i64 5))):=by
        have hgr:=Ad wr (w.heap.size+1) k (.int .i64 5);refine⟨s1.keep (hgr.block _ s1.lt (fun e=>by have:=Option.some.inj e;omega)), ?_,s3.grown hgr s3.size (fun j e=>by rw[<-Option.some.inj e];omega)⟩;have:=s2.set k 5
        rw[<-Z3a hlt,Vt Ia k (by rw[Fh];exact hlt)]at this;rw[<-Z3a hlt];exact this
       have hkI:(k:Int)<32:=by omega
       clear hst s1 s2 s3 hl1;generalize (Ia.take k++List.replicate (Ia.length-k) 0).getD k 0=old at c;go_wp2;go_roundw
       case rel=>exact⟨k+1,by omega,by go_num,HF⟩
       case measure=>simp[intOf];omega
     . obtain rfl:k=32:=by omega
       have hs0:=Aa hst;rw[List.take_of_length_le (by rw[Fh];omega),Fh,Nat.sub_self]at hs0;simp only[List.replicate_zero,List.append_nil]at hs0;obtain⟨hs,hf,hBw⟩:=hs0;have HB:=Ab hBw;clear hst HS hBw;have hlB:=Fh;obtain⟨ys,hys⟩:∃ys,Ia=ys:=⟨_,rfl⟩
       rw[hys]at hf hlB;have HYS:=Ab hys;clear hys;have hi1:(Tryz.prog.info? 145).map (·.size)=some (iv FA).length:=by rw[Wl];simp[hlA]
       have hi2:(Tryz.prog.info? 146).map (·.size)=some (iv ys).length:=by rw[Z5m];simp[hlB]
       have hi1':(Tryz.prog.info? 145).map (·.size)=some (iv FA).toArray.size:=by rw[Wl];simp[hlA]
       have hi2':(Tryz.prog.info? 146).map (·.size)=some (iv ys).toArray.size:=by rw[Z5m];simp[hlB]
       have hu1:=Tryz.underlying145;have hu2:=Tryz.underlying146;go_wp2;refine wp_region_held_drew (S:=fun w'=>ARow 145 w' w.heap.size FA/\ARow 146 w' (w.heap.size+1) ys) (by kernel_rfl) ⟨hs,hf⟩ (fun hHeld=> ?_);refine wpAnyH_take (i:=0) (oi:= {dst:=some 31,op:=.load 145 (.tmp 0),type:=145,pos:= "layout.go:54",after:= #[],guard:=none}) (v:=_) rfl (by kernel_rfl) (by kernel_rfl) (by kernel_rfl) (fun _ _ _ h=>h) (yieldsIf_load_mid (by rfl) _ _ rfl _ _ rfl _ _ (fun _ h=>h.1.range) hu1 rfl hi1) hHeld ?_;simp only[Act.put,List.setIfInBounds_toArray,List.set_cons_zero,List.set_cons_succ];refine wpAnyH_take (i:=1) (oi:= {dst:=some 32,op:=.load 146 (.tmp 1),type:=146,pos:= "layout.go:54",after:= #[{on:=2,ground:=.gcOnly .lateStores}],guard:=none}) (v:=_) rfl (by kernel_rfl) (by kernel_rfl) (by kernel_rfl) (fun _ _ _ h=>h) (yieldsIf_load_mid (by rfl) _ _ rfl _ _ rfl _ _ (fun _ h=>h.2.range) hu2 rfl hi2) hHeld ?_;simp only[Act.put,List.setIfInBounds_toArray,List.set_cons_zero,List.set_cons_succ];refine wpAnyH_ready (rs:= [2]) (by kernel_rfl) (by simp) (AllReadyH.cons rfl (fun K hK=> ?_) AllReadyH.nil);refine Eg rfl 145 (.tmp 0) (.tmp 31) rfl w.heap.size FA rfl rfl hHeld.1 hi1' ?_;simp only[Act.put];refine hK.out _ _ hHeld (fun hHeld1=> ?_);clear hK K hHeld;refine wpAnyH_ready (rs:= [3]) (by kernel_rfl) (by simp) (AllReadyH.cons rfl (fun K hK=> ?_) AllReadyH.nil);refine Eg rfl 146 (.tmp 1) (.tmp 32) rfl (w.heap.size+1) ys rfl rfl hHeld1.2 hi2' ?_;simp only[Act.put];refine hK.out _ _ hHeld1 (fun hHeld2=> ?_);clear hK K hHeld1;refine wpAnyH_done (by kernel_rfl) ?_ _;go_wp2;refine bodyPost_ret (v:=.tuple #[.agg (iv FA).toArray,.agg (iv ys).toArray]) ?_ rfl ⟨by rw[Aa HFA,Aa HYS],(Aa HB).drew⟩;exact Kz rfl _ _ w.heap.size (w.heap.size+1) _ _ rfl rfl (hHeld2.1.load hu1 rfl hi1') (hHeld2.2.load hu2 rfl hi2')
theorem Jd (w w1:World)(x y:Array Value)(T1 T2:TypeId)(FA FB:List Int)(hB:Below w.heap.size w w1)(hw:(w1.alloc (.cells x T1)).heap.size=w1.heap.size+1):
 ARow T1 ((((w1.alloc (.cells x T1)).alloc (.cells y T2)).setRow w1.heap.size (iv FA).toArray).setRow (w1.heap.size+1) (iv FB).toArray) w1.heap.size FA/\ARow T2 ((((w1.alloc (.cells x T1)).alloc (.cells y T2)).setRow w1.heap.size (iv FA).toArray).setRow (w1.heap.size+1) (iv FB).toArray) (w1.heap.size+1) FB/\Below w.heap.size w ((((w1.alloc (.cells x T1)).alloc (.cells y T2)).setRow w1.heap.size (iv FA).toArray).setRow (w1.heap.size+1) (iv FB).toArray):=by
 have h1:((w1.alloc (.cells x T1)).alloc (.cells y T2)).heap[w1.heap.size]? =some (.cells x T1 (0,0)):=(Below.heap_alloc _ _ _ (by simp)).trans (heap_alloc_new _ _);have h2:((w1.alloc (.cells x T1)).alloc (.cells y T2)).heap[w1.heap.size+1]? =some (.cells y T2 (0,0)):=by rw[<-hw];exact heap_alloc_new _ _
 refine⟨?_, ?_, ?_⟩
 . unfold ARow;rw[Go.setRow_other _ _ _ _ (by omega)];exact setRow_heap _ _ _ _ _ _ h1
 . unfold ARow;exact setRow_heap _ _ y _ _ _ ((Go.setRow_other _ _ _ _ (by omega)).trans h2)
 . have hz:=hB.size;exact Av (Av ((hB.alloc hz _).alloc (by simp;omega) _) (by omega) _) (by omega) _
def Ze5:List Int:= [16,17,18,0,8,7,9,6,10,5,11,4,12,3,13,2,14,1,15]
theorem Zc3:(Tryz.prog.info? 198).map (·.size)=some 19:=by kernel_rfl
theorem Zr (w:World):Calls Tryz.prog 122 #[] w fun e w'=>e=.returned (.agg (iv Ze5).toArray)/\Below w.heap.size w w':=by
 have hsz:(iv Ze5).toArray.size=19:=by simp[Ze5]
 have hi1:(Tryz.prog.info? 198).map (·.size)=some (iv Ze5).toArray.size:=by rw[Zc3,hsz]
 obtain⟨OZ,hOZ⟩:∃OZ,Ze5=OZ:=⟨_,rfl⟩
 rw[hOZ]at hi1 hsz ⊢;have HZ:=Ab hOZ;clear hOZ;go_enter Tryz.func122,Tryz.ntmps122
 go_upto_region 1 with (fail)
 refine wp_region_lit ?_;refine wpList_build rfl 198 _ rfl (by kernel_rfl) ?_;generalize hV:(Program.built _ _ _).getD #[]=V;have hV2:V=(iv OZ).toArray:=by rw[<-hV,<-Aa HZ];kernel_rfl
 clear hV;subst hV2;simp only[Act.put];generalize hW:w.alloc _=W;have hA:W.heap[w.heap.size]? =some (.cells (iv (List.replicate 19 0)).toArray 198 (0,0)):=by rw[<-hW];exact(heap_alloc_new _ _).trans (by kernel_rfl)
 have hB:Below w.heap.size w W:=by rw[<-hW];exact(Below.refl w.heap.size w).alloc (Nat.le_refl _) _
 clear hW;refine wpList_store_row rfl 198 (.tmp 0) (.tmp 1) rfl w.heap.size (iv OZ).toArray rfl rfl 198 _ hA hi1 (by rw[hsz];simp) (Cs OZ) ?_;refine wpList_nil ?_;have HF:Hid (Below w.heap.size w (W.setRow w.heap.size (iv OZ).toArray)/\ARow 198 (W.setRow w.heap.size (iv OZ).toArray) w.heap.size OZ):=Ab ⟨Av hB (Nat.le_refl _) _,setRow_heap _ _ _ _ _ _ hA⟩;clear hA hB;go_wp2;refine bodyPost_ret (v:=.agg (iv OZ).toArray) ?_ rfl ⟨rfl,(Aa HF).1⟩;exact results_cell_row rfl _ _ _ _ _ _ _ rfl (Aa HF).2 Tryz.underlying198 rfl hi1
end Go.Proofs.YtcjbgpacnkilnagGreatDoor
