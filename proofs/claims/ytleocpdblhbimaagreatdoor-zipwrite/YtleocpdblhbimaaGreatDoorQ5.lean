import Derived.Test.YtleocpdblhbimaaGreatDoorQ4
import Derived.Maps.AppendAt
import Derived.Laws.AppendOwnNone
import Derived.Lib.AppendStr
import Derived.Deep.RegionLaw
import Derived.Deep.DeepCutAuto
import Derived.Deep.DeepAppendRoom
import Derived.OwnWalk
set_option linter.unusedSimpArgs false
set_option maxHeartbeats 4000000
namespace Go.Proofs.YtleocpdblhbimaaGreatDoor
open Go.RowKit
set_option linter.unusedVariables false
set_option maxRecDepth 100000
def KpT (w w':World):Prop:=∀(g:Nat) (cs:Array Value) (t:TypeId) (fz:Nat×Nat),t≠5->t≠101->w.heap[g]? =some (Obj.cells cs t fz)->w'.heap[g]? =some (Obj.cells cs t fz)
theorem KpT.refl (w:World):KpT w w:=fun _ _ _ _ _ _ h=>h
theorem KpT.trans {a b c:World}(h:KpT a b)(k:KpT b c):KpT a c:=fun g cs t fz h1 h2 h3=>k g cs t fz h1 h2 (h g cs t fz h1 h2 h3)
theorem KpT.below {w w':World}(h:Below w.heap.size w w'):KpT w w':=fun g cs t fz _ _ h3=>(h.block g (VL.1 h3).1).trans h3
structure ZC (B:Nat)(w:World)(b:Nat)(xs:List Nat)(ov:Value):Prop where
 base:B<=b
 cell:w.heap[b]? =some (.cells #[ov] 101 (0,0))
 own:w.ownsRow (b+1) 5 1 ov xs.length (u8s xs)
theorem ZC.lt {B b:Nat}{w:World}{xs:List Nat}{ov:Value}(h:ZC B w b xs ov):b<w.heap.size:=(VL.1 h.cell).1
structure ZUp (B:Nat)(w:World)(b:Nat)(xs:List Nat)(w':World):Prop where
 is:∃ov,ZC B w' b xs ov
 below:Below B w w'
 kp:KpT w w'
theorem ZUp.refl {B b:Nat}{w:World}{xs:List Nat}{ov:Value}(h:ZC B w b xs ov):ZUp B w b xs w:=⟨⟨ov,h⟩,Below.refl _ _,KpT.refl _⟩
theorem ZUp.trans {B b:Nat}{w w1 w2:World}{xs ys:List Nat}(h:ZUp B w b xs w1)(k:ZUp B w1 b ys w2):ZUp B w b ys w2:=⟨k.is,h.below.trans k.below,h.kp.trans k.kp⟩
theorem ZC.later {B b:Nat}{w w':World}{xs:List Nat}{ov:Value}(h:ZC B w b xs ov)(hB:Below w.heap.size w w'):ZC B w' b xs ov:=
 ⟨h.base,(hB.block b h.lt).trans h.cell,Dj h.own (fun g hg=>hB.block g (h.own.lt g hg).2)⟩
theorem ZC.apart {B b:Nat}{w:World}{xs:List Nat}{ov:Value}(h:ZC B w b xs ov):ov.ownBlock=none\/ov.ownBlock≠some b:=by
 cases hx:ov.ownBlock with
 |none=>exact .inl rfl
 |some g=>
  refine .inr (fun e=> ?_);have:=(h.own.lt g hx).1
  cases e
  omega
theorem Ow {w:World}{B e size n g:Nat}{v:Value}{xs:List Value}(h:w.ownsRow B e size v n xs)(hg:v.ownBlock=some g):∃cs,w.heap[g]? =some (.cells cs e (0,0)):=by
 rcases h.2 with ⟨h1,_⟩|⟨g',cap,cur,h1,h2,h3,_⟩
 . subst h1;cases hg
 . subst h1
   cases hg
   exact⟨_,h3⟩
theorem ZC.put {B b:Nat}{r W w':World}{xs ys:List Nat}{ov v':Value}(h:ZC B r b xs ov)(hW:r.grownBy W none)(hg:W.grownBy w' ov.ownBlock)(ho:w'.ownsRow (b+1) 5 1 v' (xs.length+ys.length) (u8s xs++u8s ys)):
 w'.cell? ⟨b,0,none⟩=some ov/\w'.frozen? ⟨b,0,none⟩=false/\ZUp B r b (xs++ys) (w'.setCell ⟨b,0,none⟩ v'):=by
 have hlt:=h.lt;have hWs:=hW.size;have hgs:=hg.size;have hbW:W.heap[b]? =some (.cells #[ov] 101 (0,0)):=(hW.block b hlt (by simp)).trans h.cell;have hb':w'.heap[b]? =some (.cells #[ov] 101 (0,0)):=(hg.block b (by omega) (fun e=>by rcases h.apart with h|h;rw[h]at e;cases e;exact h e.symm)).trans hbW;have hset:=Ad w' b 0 v'
 have hv'b:v'.ownBlock=none\/v'.ownBlock≠some b:=by
  cases hx:v'.ownBlock with
  |none=>exact .inl rfl
  |some g=>
   refine .inr (fun e=> ?_);have:=(ho.lt g hx).1
   cases e
   omega
 have hbb:=h.base;refine⟨Ac hb',frozen_of_row w' b 0 _ _ hb',⟨v',hbb, ?_, ?_⟩, ?_, ?_⟩
 . rw[heap_setCell_same w' b 0 _ _ _ hb'];rfl
 . have:=ho.kept hset hv'b
   rw[VB,u8s,WS];exact this
 . have b0:=(Below.refl B r).grown hW (by omega) (fun g e=>by cases e);have b1:=b0.grown hg (by omega) (fun g e=>by have:=(h.own.lt g e).1;omega);exact b1.grown hset (by omega) (fun g e=>by cases e;exact hbb)
 . intro g cs t fz h1 h2 h3;have hgl:=(VL.1 h3).1;have e1:W.heap[g]? =some (.cells cs t fz):=(hW.block g hgl (by simp)).trans h3
   have hne:some g≠ov.ownBlock:=by
    intro e;obtain⟨cs',hc⟩:=Ow h.own e.symm;rw[h3]at hc
    injection hc with hc
    injection hc with _ hc2
    exact h1 hc2
   have e2:w'.heap[g]? =some (.cells cs t fz):=(hg.block g (by omega) hne).trans e1
   have hgb:g≠b:=by
    intro e;rw[e,h.cell]at h3
    injection h3 with h3
    injection h3 with _ h4
    exact h2 h4.symm
   exact(hset.block g (by omega) (fun e=>hgb (VQ e))).trans e2
def PkIn (w:World)(a:Option Addr)(c:Nat)(ys:List Nat):Prop:=BytesIn w a ys/\(a=none->c=0)
theorem PkIn.below {w w':World}{a:Option Addr}{c:Nat}{ys:List Nat}(h:PkIn w a c ys)(hB:Below w.heap.size w w'):PkIn w' a c ys:=by
 refine⟨?_,h.2⟩
 rcases h.1 with h|⟨b,o,e,hb,hc⟩
 . exact .inl h
 . exact .inr ⟨b,o,e,VG hb hB.size,fun j hj=>(World.cell?_of_block (w:=w) (a:=⟨b,_,none⟩) (hB.block b hb)).trans (hc j hj)⟩
theorem AB:(Tryz.prog.info? 5).map (fun i=>(i.zero,i.size,i.bytes))=some (some (.int .u8 0),1,1):=by kernel_rfl
theorem Lc (w:World)(ty:TypeId)(base:Nat)(v:Value)(xs ys:List Nat)(hown:w.ownsRow base 5 1 v xs.length (u8s xs))(ad:Option Addr)(m c:Nat)(hm:ys.length=m)(hP:PkIn w ad c ys)(hsz:xs.length+m<=140737488355328)(hbase:base<=w.heap.size):
 ∃v' w',(Builtin.append_ #[23,23] ty #[v,.slice ad m c]).run Tryz.prog w=.ok v' w'/\w'.ownsRow base 5 1 v' (xs.length+ys.length) (u8s xs++u8s ys)/\w.grownBy w' v.ownBlock:=by
 obtain⟨i0,hi,hz0,hz1,hz2⟩:=info_parts AB;subst hm
 cases ad with
 |none=>
  have hc:c=0:=hP.2 rfl;subst hc
  have hys:ys= []:=by
   rcases hP.1 with h|⟨b,o,e,_⟩
   . exact h
   . cases e
  subst hys;have hr:=run_append_owned_none (P:=Tryz.prog) (w:=w) base 23 ty 5 i0 1 Tryz.underlying23 hi v xs.length (u8s xs) hown;exact⟨v,w,hr,by simpa using hown,Au _ _⟩
 |some ad=>
  obtain⟨v',w',h1,h2,h3,_⟩:=run_append_own_at (P:=Tryz.prog) w base 23 ty 5 i0 (.int .u8 0) 1 1 Tryz.underlying23 hi hz0 hz1 hz2 rfl (by decide) v xs.length (u8s xs) hown ad ys.length c (u8s ys) (by simp) (by
   intro j u hj
   have hj':j<ys.length:=by
    have:=(XO.1 hj).1
    simpa using this
   rcases hP.1 with h|⟨b,o,e,_,hB⟩
   . subst h;simp at hj'
   . cases e
     have hu:u=.int .u8 ((ys.getD j 0:Nat):Int):=by
      simp[u8s,hj']at hj
      simp[List.getD,hj',hj]
     rw[hu];have:=hB j hj'
     by_cases h0:j=0
     . subst h0;simpa[Addr.add]using this
     . simpa[Addr.add,h0]using this) (by
   intro u hu;obtain⟨x,_,rfl⟩:=XC.1 hu;rfl) (by unfold maxLen;omega) (by omega) hbase
  exact⟨v',w',h1,h2,h3⟩
theorem GW {ops:Array Oper}{o:Oper}{a:Act}{W:World}{K:Act->World->Prop}{Q:Exit->Act->World->Prop}{E:Prop}(hgd:o.guard=none)(s x:Operand)
 (ho:o.op=.call {callee:=.builtin .append,args:= #[s,x],argTypes:= #[23,23]})
 (r:World) (B b:Nat) (xs ys:List Nat) (ov:Value) (hs:a.eval s=ov) (hC:ZC B r b xs ov) (hW:r.grownBy W none) (ad:Option Addr) (m c:Nat) (hx:a.eval x=.slice ad m c) (hm:ys.length=m) (hP:PkIn W ad c ys) (hk:xs.length+m<=1000000)
 (h:∀a' l' c' w',w'.cell? ⟨b,0,none⟩=some ov->w'.frozen? ⟨b,0,none⟩=false->Hid (ZUp B r b (xs++ys) (w'.setCell ⟨b,0,none⟩ (.slice a' l' c')))->K (a.put o.dst (.slice a' l' c')) w'):
 if Region.wanted o (yielded ops a.tmps)=true then Oper.wp Tryz.prog o a W K Q else E:=by
 have hw:Region.wanted o (yielded ops a.tmps)=true:=by simp[Region.wanted,hgd]
 rw[if_pos hw];have hlt:=hC.lt;have hsz:=hW.size;obtain⟨v',w',hr,h2,h3⟩:=Lc W o.type (b+1) ov xs ys (Lk hC.own hW) ad m c hm hP (by omega) (by omega);obtain⟨c1,c2,c3⟩:=hC.put hW h3 h2;obtain⟨a',c',rfl⟩:=As h2;unfold Oper.wp execOp;simp only[ho,resolve,invoke,builtin,Sem.run_bind,Sem.run_pure,Result.andThen_ok,ZI,WP,ZF,hs,hx,hr];exact h a' _ c' w' c1 c2 (Ab c3)
theorem BV (l:List UInt8):Lib.strCells (B l)=u8s (n8 l):=by simp[Lib.strCells,B,u8s,n8,YZ]
theorem GV {ops:Array Oper}{o:Oper}{a:Act}{W:World}{K:Act->World->Prop}{Q:Exit->Act->World->Prop}{E:Prop}(hgd:o.guard=none)(s x:Operand)
 (ho:o.op=.call {callee:=.builtin .append,args:= #[s,x],argTypes:= #[23,9]})
 (r:World) (Bs b:Nat) (xs:List Nat) (l:List UInt8) (ov:Value) (hs:a.eval s=ov) (hC:ZC Bs r b xs ov) (hW:r.grownBy W none) (hx:a.eval x=.string (B l)) (hk:xs.length+l.length<=1000000)
 (h:∀a' l' c' w',w'.cell? ⟨b,0,none⟩=some ov->w'.frozen? ⟨b,0,none⟩=false->Hid (ZUp Bs r b (xs++n8 l) (w'.setCell ⟨b,0,none⟩ (.slice a' l' c')))->K (a.put o.dst (.slice a' l' c')) w'):
 if Region.wanted o (yielded ops a.tmps)=true then Oper.wp Tryz.prog o a W K Q else E:=by
 have hw:Region.wanted o (yielded ops a.tmps)=true:=by simp[Region.wanted,hgd]
 rw[if_pos hw];have hlt:=hC.lt;have hsz:=hW.size;obtain⟨i0,hi,hz0,hz1,hz2⟩:=info_parts AB;have hB:(B l).size=l.length:=by simp[B,ByteArray.size]
 obtain⟨v',w',hr,h2,h3,_⟩:=Lib.run_append_own_string (P:=Tryz.prog) W (b+1) 23 9 o.type 5 i0 Tryz.underlying23 Tryz.underlying9 hi hz0 hz1 hz2 ov xs.length (u8s xs) (Lk hC.own hW) (B l) (by rw[hB];unfold maxLen;omega) (by rw[hB];omega) (by omega);rw[hB,BV,<-Cd]at h2;obtain⟨c1,c2,c3⟩:=hC.put hW h3 h2;obtain⟨a',c',rfl⟩:=As h2;unfold Oper.wp execOp;simp only[ho,resolve,invoke,builtin,Sem.run_bind,Sem.run_pure,Result.andThen_ok,ZI,WP,ZF,hs,hx,hr];exact h a' _ c' w' c1 c2 (Ab c3)
theorem Uh {w:World}{B n:Nat}{v:Value}{ys:List Nat}(h:w.ownsRow B 5 1 v n (u8s ys)):∃a c,v=.slice a n c/\PkIn w a c ys/\n<=c/\ys.length=n/\∀g o,a=some ⟨g,o,none⟩->B<=g:=by
 have hl:ys.length=n:=by have:=h.1;simpa using this
 obtain⟨_,a,c,hv,hB⟩:=BytesIn.ofOwn h;subst hv
 rcases h.2 with ⟨h1,h2⟩|⟨g,cap,cur,h1,h2,h3,h4,_⟩
 . cases h1
   exact⟨none,0,rfl,⟨hB,fun _=>rfl⟩,by omega,hl,fun g o e=>by cases e⟩
 . cases h1
   exact⟨_,_,rfl,⟨hB,fun e=>by cases e⟩,h4,hl,fun g' o e=>by cases e;exact h2⟩
theorem Z0s (a:Option Addr)(p n cap:Nat)(h:p<=n)(hn:n<=cap)(hnil:a=none->cap=0):
 ∃a',(∀W:World,(Instr.slice 23 (.slice a n cap) (some (.int .i64 (p:Int))) none none).run Tryz.prog W=.ok (.slice a' (n-p) (cap-p)) W)/\(∀b o,a=some ⟨b,o,none⟩->p<n->a'=some ⟨b,o+p,none⟩)/\(a'=none->cap-p=0):=by
 have hs:=Tryz.sizeOf5;have ht:=Tryz.underlying23;have h1:(p:Int)<=(n:Int):=by omega
 cases a with
 |none=>
  have:=hnil rfl
  subst this;obtain rfl:n=0:=by omega
  obtain rfl:p=0:=by omega
  exact⟨none,fun W=>by simp[go_sem,ht],fun b o e=>(by cases e),fun _=>rfl⟩
 |some ad=>
  by_cases hp:cap=p
  . subst hp;obtain rfl:n=cap:=by omega
    refine⟨some ad,fun W=> ?_,fun b o e hlt=>by omega,fun e=>by cases e⟩;simp[go_sem,ht,hs]
  . have h2:(p:Int)<(cap:Int):=by omega
    refine⟨some (ad.add p),fun W=> ?_,fun b o e hlt=> ?_,fun e=>by cases e⟩
    . simp[go_sem,ht,hs,h1,hp]
      try omega
    . cases e
      unfold Addr.add
      split<;>simp_all
def PIn (w:World)(v:Value)(bs:List Nat):Prop:=∃a c,v=.slice a bs.length c/\bs.length<=c/\PkIn w a c bs
theorem PIn.below {w w':World}{v:Value}{bs:List Nat}(h:PIn w v bs)(hB:Below w.heap.size w w'):PIn w' v bs:=by
 obtain⟨a,c,h1,h2,h3⟩:=h;exact⟨a,c,h1,h2,h3.below hB⟩
theorem PIn.nil (w:World):PIn w (.slice none 0 0) []:=⟨none,0,rfl,VC _,.inl rfl,fun _=>rfl⟩
theorem S6 (n:Nat):(Builtin.zeroCells (Value.int .u8 0).cells n).toList=u8s (List.replicate n 0):=by
 show (Builtin.zeroCells #[Value.int .u8 0] n).toList=_
 unfold Builtin.zeroCells;apply List.ext_getElem?
 intro i
 by_cases h:i<n
 . simp[h,Nat.mod_one]
 . simp[h]
theorem Od (w:World)(ty:TypeId)(n:Nat)(h0:0<n)(hn:n<=281474976710656):
 ∃c w',(Builtin.append_ #[23,3] ty #[.slice none 0 0,.int .i64 (n:Int)]).run Tryz.prog w=.ok (.slice (some ⟨w.heap.size,0,none⟩) n c) w'/\n<=c/\c<=maxLen/\w'.heap[w.heap.size]? =some (.cells (u8s (List.replicate c 0)).toArray 5 (0,0))/\w.grownBy w' none:=by
 obtain⟨i0,hi,hz0,hz1,hz2⟩:=info_parts Kl;have hge:=grownCap_ge w n 0 5;have hle:=grownCap_le_maxLen w n 0 5 (by unfold maxLen;omega);have hnz:n≠0:=by omega
 have h63':¬(9223372036854775807<(n:Int)):=by omega
 have hneg:¬((n:Int)<0):=by omega
 have h48:¬(281474976710656<(n:Int)):=by omega
 have h48':¬(281474976710656<Builtin.nextslicecap n 0):=by rw[nextslicecap_zero h0];omega
 have hw:IntKind.i64.wrap (n:Int)=(n:Int):=by simp[IntKind.wrap,IntKind.signed,IntKind.bits];omega
 refine⟨grownCap w n 0 5,w.drew.alloc (.cells (Builtin.zeroCells (Value.int .u8 0).cells n++Builtin.zeroCells (Value.int .u8 0).cells (grownCap w n 0 5-n)) 5), ?_,hge,hle, ?_, ?_⟩
 . simp[Builtin.append_,run_underlying Tryz.underlying23,run_underlying Tryz.underlying3,sizeOf,typeInfo,zeroValue,hi,hz0,hz1,hz2,asInt,asIntOf,hw,hneg,h48,hnz,h63',h48',Question.forced,run_firstCells_none,newRow,grownCap]
 . have:=heap_alloc_new w.drew (.cells (Builtin.zeroCells (Value.int .u8 0).cells n++Builtin.zeroCells (Value.int .u8 0).cells (grownCap w n 0 5-n)) 5)
   rw[show w.drew.heap.size=w.heap.size from rfl]at this;rw[this]
   congr 2
   apply Array.ext'
   rw[Array.toList_append,S6,S6];show _=u8s (List.replicate (grownCap w n 0 5) 0)
   unfold u8s;rw[<-WS,XY]
   congr 2
   omega
 . exact⟨rfl,rfl,rfl,by simp,fun k hk _=>Below.heap_alloc w.drew _ k hk⟩
theorem Kb (w:World){ops:Array Oper}{rest:List Oper}{o:Oper}{a:Act}{Q:Exit->Act->World->Prop}(hgd:o.guard=none)(s x:Operand)
 (ho:o.op=.call {callee:=.builtin .append,args:= #[s,x],argTypes:= #[23,3]}) (n:Nat) (hs:a.eval s=.slice none 0 0) (hx:a.eval x=.int .i64 (n:Int)) (h0:0<n) (hn:n<=281474976710656)
 (h:∀c w',n<=c->c<=maxLen->w'.heap[w.heap.size]? =some (.cells (u8s (List.replicate c 0)).toArray 5 (0,0))->w.grownBy w' none->wpList Tryz.prog ops Q rest (a.put o.dst (.slice (some ⟨w.heap.size,0,none⟩) n c)) w'):
 wpList Tryz.prog ops Q (o::rest) a w:=by
 refine wpList_plain hgd fun K hK=> ?_
 obtain⟨c,w',hr,h2,h3,h4,h5⟩:=Od w o.type n h0 hn;unfold Oper.wp execOp;simp only[ho,resolve,invoke,builtin,Sem.run_bind,Sem.run_pure,Result.andThen_ok,ZI,WP,ZF,hs,hx,hr];exact hK _ _ (h c w' h2 h3 h4 h5)
theorem LC (n:Nat)(w:World)(h0:0<n)(hn:n<=281474976710656):Calls Tryz.prog 47 #[.slice none 0 0,.int .i64 (n:Int)] w fun e w'=>∃c,n<=c/\e=.returned (.slice (some ⟨w.heap.size,0,none⟩) 0 c)/\w'.ownsRow w.heap.size 5 1 (.slice (some ⟨w.heap.size,0,none⟩) 0 c) 0 (u8s [])/\Below w.heap.size w w':=by
 go_enter Tryz.func47,Tryz.ntmps47
 go_wp2_with (refine Kb w rfl (.tmp 20) (.tmp 21) rfl n rfl rfl h0 hn ?_)
 intro c w2 hc1 hc2 hg hgr;have HB:=Ab (Gz (Below.refl w.heap.size w) hgr (VC _));have HO:Hid (w2.ownsRow w.heap.size 5 1 (.slice (some ⟨w.heap.size,0,none⟩) 0 c) 0 (u8s [])):=⟨rfl,.inr ⟨w.heap.size,c,_,rfl,VC _,hg,VK _,hc2,by simp,rfl⟩⟩
 clear hg hgr;go_wp2;go_ret;exact⟨c,hc1,rfl,Aa HO,Aa HB⟩
theorem Vu (w:World)(ty:TypeId)(base x:Option Addr)(n cap c:Nat)(h:n<=cap):
 (Builtin.append_ #[23,23] ty #[.slice base n cap,.slice x 0 c]).run Tryz.prog w=.ok (.slice base n cap) w:=by
 obtain⟨i0,hi,hz0,hz1,hz2⟩:=info_parts Kl
 have hf:(Builtin.firstCells i0.size 0 (.slice x 0 c)).run Tryz.prog w=.ok #[] w:=by
  cases x with
  |none=>exact run_firstCells_none w i0.size 0 0 c
  |some b=>exact run_firstCells_some w i0.size 0 b 0 c [] (by simp) (by simp)
 rw[hz1]at hf
 cases base<;>simp[Builtin.append_,run_underlying Tryz.underlying23,sizeOf,typeInfo,hi,hz1,Builtin.lenOf,hf,h,storeCells]
theorem Hw (w:World){ops:Array Oper}{rest:List Oper}{o:Oper}{a:Act}{Q:Exit->Act->World->Prop}(hgd:o.guard=none)(s x:Operand)
 (ho:o.op=.call {callee:=.builtin .append,args:= #[s,x],argTypes:= #[23,23]}) (base y:Option Addr) (n cap c:Nat) (hs:a.eval s=.slice base n cap) (hx:a.eval x=.slice y 0 c) (hn:n<=cap)
 (h:wpList Tryz.prog ops Q rest (a.put o.dst (.slice base n cap)) w):wpList Tryz.prog ops Q (o::rest) a w:=by
 refine wpList_plain hgd fun K hK=> ?_
 unfold Oper.wp execOp;simp only[ho,resolve,invoke,builtin,Sem.run_bind,Sem.run_pure,Result.andThen_ok,ZI,WP,ZF,hs,hx,Vu w o.type base y n cap c hn];exact hK _ _ h
theorem KZ (w:World):Calls Tryz.prog 47 #[.slice none 0 0,.int .i64 0] w fun e w'=>e=.returned (.slice none 0 0)/\w'=w:=by
 go_enter Tryz.func47,Tryz.ntmps47
 go_wp2;go_ret
 trivial
def Ig (ps:List (Option Addr×Nat×List Nat)):Nat->List Nat
 |0=> []
 |k+1=>Ig ps k++(ps.getD k (none,0,[])).2.2
theorem Z2j (ps:List (Option Addr×Nat×List Nat)){j k:Nat}(h:j<=k):(Ig ps j).length<=(Ig ps k).length:=by
 induction k with
 |zero=>rw[show j=0 by omega];exact VC _
 |succ k ih=>
  by_cases e:j=k+1
  . rw[e];exact VC _
  . have:=ih (by omega)
    rw[Ig,VB];omega
theorem R0 {w:World}{b o:Nat}{xs:List Nat}(h:Bytes w b o xs):∀j u,(u8s xs)[j]? =some u->w.cell? ((⟨b,o,none⟩:Addr).add j)=some u:=by
 intro j u hj;have e:(⟨b,o,none⟩:Addr).add j=⟨b,o+j,none⟩:=by unfold Addr.add;split<;>simp_all
 have hj2:j<xs.length:=by
  by_cases c:j<xs.length
  . exact c
  . rw[WN (by simp[u8s];omega)]at hj;cases hj
 have:=h j hj2
 rw[e,this];simp[u8s,hj2]at hj
 subst hj;simp[List.getD,hj2]
theorem Z0f (xs:List Nat):∀u∈u8s xs,u.oneCell'=true:=by intro u hu;obtain⟨x,_,rfl⟩:=XC.1 hu;rfl
theorem EX (b o len cap:Nat)(ps:List (Option Addr×Nat×List Nat))(w:World)(hb:b<w.heap.size)(hc:∀j,j<len->w.cell? ⟨b,o+j,none⟩=some (.slice (ps.getD j (none,0,[])).1 (ps.getD j (none,0,[])).2.2.length (ps.getD j (none,0,[])).2.1))
 (hr:∀j,j<len->BytesIn w (ps.getD j (none,0,[])).1 (ps.getD j (none,0,[])).2.2) (hsum:(Ig ps len).length<=281474976710656) (hlen:len<=100):
 Calls Tryz.prog 29 #[.slice (some ⟨b,o,none⟩) len cap] w fun e w'=>∃a c,(Ig ps len).length<=c/\e=.returned (.slice a (Ig ps len).length c)/\BytesIn w' a (Ig ps len)/\Below w.heap.size w w'/\(a=none->c=0):=by
 obtain⟨i0,hi,hz0,hz1,hz2⟩:=info_parts Kl;have HC:=Ab hc;have HR:=Ab hr;obtain⟨T,hT⟩:∃T,(Ig ps len).length=T:=⟨_,rfl⟩
 rw[hT]at hsum;have HTT:=Ab hT;have HS:Hid (∀k,k<=len->(Ig ps k).length<=T):=Ab (fun k hk=>by rw[<-hT];exact Z2j ps hk);clear hc hr hT;go_enter Tryz.func29,Tryz.ntmps29
 go_wp2;go_loop [3,11] (fun v3 v11=>∃k:Nat,k<=len/\v11=.int .i64 (k:Int)/\v3=.int .i64 ((Ig ps k).length:Int)) (fun _ v11=>len-(intOf v11).toNat)
 case atStart=>exact⟨0,VK _,rfl,rfl⟩
 case round=>
  obtain⟨k,hk,rfl,rfl⟩:=hrel
  by_cases hlt:k<len
  . have c1:=Aa HC k hlt;have hs:=Aa HS (k+1) (by omega);have HN:Hid ((Ig ps (k+1)).length=(Ig ps k).length+(ps.getD k (none,0,[])).2.2.length):=Ab (by rw[Ig,VB]);rw[Aa HN]at hs;generalize (ps.getD k (none,0,[])).2.2.length=m at*;generalize (ps.getD k (none,0,[])).2.1=mc at*;generalize (ps.getD k (none,0,[])).1=g at*;generalize (Ig ps k).length=L at*;go_wp2;go_round
    case rel=>exact⟨k+1,by omega,by go_num,by rw[Aa HN];go_num⟩
    case measure=>simp[intOf];omega
  . obtain rfl:len=k:=by omega
    rw[Aa HTT]
    by_cases hT0:T=0
    . subst hT0;go_wp2_with fail
      refine(KZ w).mono ?_;rintro e w2 ⟨rfl,rfl⟩;go_wp2;go_loop [6,27] (fun v6 v27=>∃k:Nat,k<=len/\v27=.int .i64 (k:Int)/\v6=.slice none 0 0) (fun _ v27=>len-(intOf v27).toNat)
      case atStart=>exact⟨0,VK _,rfl,rfl⟩
      case round=>
       obtain⟨k,hk2,rfl,rfl⟩:=hrel
       by_cases hlt2:k<len
       . have c1:=Aa HC k hlt2;have hs:=Aa HS (k+1) (by omega);rw[Ig,VB]at hs;have h0:(ps.getD k (none,0,[])).2.2.length=0:=by omega
         rw[h0]at c1;generalize (ps.getD k (none,0,[])).2.1=mc at*;generalize (ps.getD k (none,0,[])).1=g at*;clear hs h0;go_wp2_with (at_builtin;refine Hw _ rfl (.tmp 31) (.tmp 32) rfl none g 0 0 mc rfl rfl (VC _) ?_)
         go_round
         case rel=>exact⟨k+1,by omega,by go_num,rfl⟩
         case measure=>simp[intOf];omega
       . obtain rfl:len=k:=by omega
         go_wp2;go_ret;exact⟨none,0,by rw[Aa HTT];exact VC _,by rw[Aa HTT];rfl,.inl (ZG.1 (Aa HTT)),Below.refl _ _,fun _=>rfl⟩
    . go_wp2_with fail
      refine(LC T w (by omega) hsum).mono ?_;rintro e w2 ⟨c,hTc,rfl,hO2,hB2⟩;have HO2:=Ab hO2;have HB2:=Ab hB2;clear hO2 hB2;go_wp2;go_loopw [6,27] (fun v6 v27 wr=>∃k:Nat,k<=len/\v27=.int .i64 (k:Int)/\v6=.slice (some ⟨w.heap.size,0,none⟩) (Ig ps k).length c/\Hid (wr.ownsRow w.heap.size 5 1 (.slice (some ⟨w.heap.size,0,none⟩) (Ig ps k).length c) (Ig ps k).length (u8s (Ig ps k)))/\Hid (Below w.heap.size w wr)) (fun _ v27 _=>len-(intOf v27).toNat)
      case atStart=>exact⟨0,VK _,rfl,rfl,HO2,HB2⟩
      case round=>
       obtain⟨k,hk2,rfl,rfl,HO,HBr⟩:=hrel
       by_cases hlt2:k<len
       . have c1:=((Aa HBr).cell (p:=⟨b,o+k,none⟩) hb).trans (Aa HC k hlt2);have hrow:=(Aa HR k hlt2).below (Aa HBr) (VC _);have hs:=Aa HS (k+1) (by omega);have HN:Hid (Ig ps (k+1)=Ig ps k++(ps.getD k (none,0,[])).2.2):=Ab rfl;rw[Aa HN,VB]at hs;generalize (ps.getD k (none,0,[])).2.2=xs at*;generalize (ps.getD k (none,0,[])).1=g at*;generalize (ps.getD k (none,0,[])).2.1=mc at*
         rcases hrow with rfl|⟨gb,go,rfl,hgb,hrow⟩
         . have HN2:Hid (Ig ps (k+1)=Ig ps k):=Ab (by rw[Aa HN,WZ]);simp only[WO]at c1 hs;generalize hL:(Ig ps k).length=L at*;clear HN;go_wp2_with (at_builtin;refine Hw _ rfl (.tmp 31) (.tmp 32) rfl _ g L c mc rfl rfl (by omega) ?_)
           go_roundw
           case rel=>exact⟨k+1,by omega,by go_num,by rw[Aa HN2,hL],Ab (by rw[Aa HN2,hL];exact Aa HO),HBr⟩
           case measure=>simp[intOf];omega
         . have HRC:=Ab (R0 hrow);obtain⟨m,hm⟩:∃m,xs.length=m:=⟨_,rfl⟩
           obtain⟨L,hL⟩:∃L,(Ig ps k).length=L:=⟨_,rfl⟩
           rw[hm]at c1 hs;rw[hL]at hs HO ⊢;have HM:=Ab hm;have HLL:=Ab hL;clear hrow hm hL;go_wp2_with (at_builtin;refine wpList_append_own_spare _ rfl (.tmp 31) (.tmp 32) 23 rfl w.heap.size 5 i0 1 Tryz.underlying23 hi hz1 w.heap.size L c (u8s (Ig ps k)) rfl (Aa HO) ⟨gb,go,none⟩ m mc (u8s xs) rfl (by simp[u8s,Aa HM]) (Aa HRC) (Z0f xs) (by omega) ?_)
           intro w4 hO4 hgrow
           have HO4:Hid (w4.ownsRow w.heap.size 5 1 (.slice (some ⟨w.heap.size,0,none⟩) (Ig ps (k+1)).length c) (Ig ps (k+1)).length (u8s (Ig ps (k+1)))):=by
            rw[Aa HN,VB,Aa HLL,Aa HM];show w4.ownsRow w.heap.size 5 1 _ (L+m) (List.map _ (Ig ps k++xs))
            rw[WS];exact hO4
           have HB4:=Ab ((Aa HBr).grown hgrow (Aa HBr).size (fun g e=>by cases e;exact VC _));have HLN:Hid ((Ig ps (k+1)).length=L+m):=Ab (by rw[Aa HN,VB,Aa HLL,Aa HM]);clear hO4 hgrow c1 HRC;go_wp2;go_roundw
           case rel=>exact⟨k+1,by omega,by go_num,by rw[Aa HLN],HO4,HB4⟩
           case measure=>simp[intOf];omega
       . obtain rfl:len=k:=by omega
         rw[Aa HTT]at HO ⊢;go_wp2;go_ret;exact⟨_,c,by rw[Aa HTT];exact hTc,by rw[Aa HTT];rfl,BytesIn.own (Aa HO),Aa HBr,fun e=>by cases e⟩
theorem Ao (n size:Nat)(w:World)(hn:n<=9223372036854775807)(hs:size<=100):
 Calls Tryz.prog 62 #[.int .i64 (n:Int),.int .i64 (size:Int)] w fun e w'=>∃a l c,e=.returned (.slice a l c)/\PIn w' (.slice a l c) (Ag n size)/\Below w.heap.size w w':=by
 refine(Z1q n size w hn hs).mono ?_;rintro e w' ⟨v,rfl,h1,h2⟩;obtain⟨a,c,rfl,k1,k2,k3,_⟩:=Uh h1;exact⟨a,size,c,rfl,⟨a,c,by rw[k3],by rw[k3];exact k2,k1⟩,h2⟩
inductive PIns (w:World):List Value->List (List Nat)->Prop
 |nil:PIns w [] []
 |cons {v:Value} {b:List Nat} {vs:List Value} {bs:List (List Nat)}:PIn w v b->PIns w vs bs->PIns w (v::vs) (b::bs)
theorem PIns.rows {w:World}{vs:List Value}{bs:List (List Nat)}(h:PIns w vs bs):∃ps:List (Option Addr×Nat×List Nat),vs=ps.map (fun p=>.slice p.1 p.2.2.length p.2.1)/\bs=ps.map (fun p=>p.2.2)/\∀p∈ps,BytesIn w p.1 p.2.2:=by
 induction h with
 |nil=>exact⟨[],rfl,rfl,fun p hp=>by cases hp⟩
 |cons h1 _ ih=>
  obtain⟨a,c,rfl,_,h2⟩:=h1;obtain⟨ps,rfl,rfl,h3⟩:=ih;refine⟨(a,c,_)::ps,rfl,rfl,fun p hp=> ?_⟩
  rcases WE.1 hp with rfl|hp
  . exact h2.1
  . exact h3 p hp
theorem F7:∀(ps:List (Option Addr×Nat×List Nat)) (k:Nat),k<=ps.length->Ig ps k=((ps.take k).map (fun p=>p.2.2)).flatten
 |ps,0,_=>by simp[Ig]
 |ps,k+1,h=>by
  rw[Ig,F7 ps k (by omega),ZA,WS,List.flatten_append];simp[List.getD,VR (show k<ps.length by omega)]
theorem Cq (w:World)(vs:List Value)(bs:List (List Nat))(A:Array Value)(t:TypeId)(n cap:Nat)(h:PIns w vs bs)(hA:A=vs.toArray)(hn:vs.length=n)(hl:n<=100)(hb:bs.flatten.length<=281474976710656):
 Calls Tryz.prog 29 #[.slice (some ⟨w.heap.size,0,none⟩) n cap] (w.alloc (.cells A t)) fun e w'=>∃a l c,e=.returned (.slice a l c)/\PIn w' (.slice a l c) bs.flatten/\Below w.heap.size w w':=by
 obtain⟨ps,rfl,rfl,h3⟩:=h.rows;have hpl:ps.length=n:=by simpa using hn
 subst hpl;have e:Ig ps ps.length=(ps.map (fun p=>p.2.2)).flatten:=by rw[F7 ps _ (VC _),VP (VC _)]
 refine(EX w.heap.size 0 ps.length cap ps _ (by simp) (fun j hj=> ?_) (fun j hj=> ?_) (by rw[e];exact hb) hl).mono ?_
 . rw[WI,cell_of_row _ _ _ _ _ _ (heap_alloc_new w _),hA];simp[List.getD,hj]
 . have hm:ps.getD j (none,0,[])∈ps:=by simp[List.getD,hj]
   exact(h3 _ hm).alloc _
 . rintro e' w' ⟨a,c,h1,rfl,h2,h4,h5⟩;rw[e]at h1 h2 ⊢;exact⟨a,_,c,rfl,⟨a,c,rfl,h1,h2,h5⟩,((Below.refl w.heap.size w).alloc (VC _) _).trans (h4.mono (by simp))⟩
theorem Z14 (k:Nat):256^k=2^(8*k):=by rw[Nat.pow_mul]
theorem ZC.new {B b:Nat}{w:World}{xs:List Nat}{ov:Value}(h:ZC B w b xs ov):w.cell? ⟨b,0,none⟩=some ov/\w.frozen? ⟨b,0,none⟩=false:=⟨Ac h.cell,frozen_of_row w b 0 _ _ h.cell⟩
theorem Z3d {W:World}{blk y:Nat}(h:W.cell? ⟨blk,0,none⟩=some (.int .u8 (y:Int))):PkIn W (some ⟨blk,0,none⟩) 1 [y]:=by
 refine⟨.inr ⟨blk,0,rfl, ?_, ?_⟩,fun e=>by cases e⟩
 . simp only[World.cell?]at h
   cases hb:W.heap[blk]? with
   |none=>rw[hb]at h;cases h
   |some o=>exact(VL.1 hb).1
 . intro j hj;obtain rfl:j=0:=by simpa using hj
   simpa using h
theorem Z0t (n k:Nat)(hk:k<=10)(hn:n<4294967296)(W:World):(Op.shift .shr .u32 (n:Int) .i64 (IntKind.i64.wrap (8*(k:Int)))).run Tryz.prog W=.ok (.int .u32 ((n/256^k:Nat):Int)) W:=by
 have e:IntKind.i64.wrap (8*(k:Int))=((8*k:Nat):Int):=by
  simp[IntKind.wrap,IntKind.bits,IntKind.signed]
  omega
 rw[e,Z14];have hd:n/2^(8*k)<=n:=YY _ _
 have h2:(n:Int).fdiv (2^min (8*k) 32)=((n/2^(8*k):Nat):Int):=by
  rw[Int.fdiv_eq_ediv_of_nonneg _ (by exact_mod_cast VK _)]
  by_cases h8:8*k<=32
  . rw[YM h8];push_cast;rfl
  . rw[YG (by omega)];have h3:n/2^(8*k)=0:=Nat.div_eq_of_lt (VG hn (show (4294967296:Nat)<=2^(8*k) from VU (n:=2) (i:=32) (j:=8*k) (by decide) (by omega)));rw[h3];omega
 unfold Op.shift;rw[if_neg (by omega),WD];show Result.ok (Value.int .u32 ((n:Int).fdiv (2^min (8*k) 32))) W=_
 rw[h2]
theorem Bb (B b size n:Nat)(xs:List Nat)(w:World)(h:∃ov,ZC B w b xs ov)(hs:size<=10)(hn:n<4294967296)(hx:xs.length<=900000):
 Calls Tryz.prog 77 #[.pointer (some ⟨b,0,none⟩),.int .i64 (size:Int),.int .u32 (n:Int)] w fun e w'=>e=.returned (.tuple #[])/\ZUp B w b (xs++Ag n size) w':=by
 obtain⟨ov0,h0⟩:=h;have H:=Ab h0;clear h0;go_enter Tryz.func77,Tryz.ntmps77
 go_wp2;go_loopw [8] (fun i wr=>∃k:Nat,k<=size/\i=.int .i64 (k:Int)/\Hid (ZUp B w b (xs++Ag n k) wr)) (fun i _=>size-(intOf i).toNat)
 case atStart=>exact⟨0,VK _,rfl,Ab (by simpa[Ag]using ZUp.refl (Aa H))⟩
 case round=>
  obtain⟨k,hk,rfl,hU⟩:=hrel
  by_cases hlt:k<size
  . obtain⟨ov,hC⟩:=(Aa hU).is;have hsn:=Qx k n;have hlen:=Aj k n;obtain⟨c0,f0⟩:=hC.new;have hsh:=Z0t n k (by omega) hn;obtain⟨z,hz⟩:∃z,n/256^k=z:=⟨_,rfl⟩
    rw[hz]at hsn hsh;obtain⟨y,hy⟩:∃y,z%256=y:=⟨_,rfl⟩
    rw[hy]at hsn
    have hw8:IntKind.u8.wrap (z:Int)=(y:Int):=by
     simp[IntKind.wrap,IntKind.bits,IntKind.signed]
     omega
    have c0':∀o:Obj,(wr.alloc o).cell? ⟨b,0,none⟩=some ov:=fun o=>(World.cell?_alloc_lt wr o _ hC.lt).trans c0
    have HSN:=Ab hsn;have hyl:(xs++Ag n k).length+1<=1000000:=by rw[VB,hlen];omega
    have HYL:=Ab hyl;have HC:=Ab hC;clear hC hsn hlen hyl hy hz;go_wp2;go_region_law (refine GW rfl (.tmp 15) (.tmp 21) rfl wr B b _ [y] _ rfl (Aa HC) (by repeat (first|with_reducible exact Au _ _|with_reducible refine Br ?_|with_reducible refine ga ?_ _)) _ 1 1 rfl rfl (Z3d (by repeat (first|with_reducible refine NB ?_|with_reducible exact Mk (by simp)|with_reducible exact NA (by simp)))) (Aa HYL) ?_;intro a' l' c' w' c1 c2 c3)
    all_goals
     have HN:Hid (ZUp B w b (xs++Ag n (k+1)) (w'.setCell ⟨b,0,none⟩ (.slice a' l' c'))):=Ab (by
      rw[Aa HSN,<-VH];exact(Aa hU).trans (Aa c3))
     clear c1 c2 c3;go_wp2;go_roundw
     case rel=>exact⟨k+1,by omega,by go_num,HN⟩
     case measure=>simp[intOf];omega
  . obtain rfl:size=k:=by omega
    go_wp2;go_end0
    exact⟨rfl,Aa hU⟩
theorem Gs (B b size:Nat)(xs:List Nat)(w:World)(h:∃ov,ZC B w b xs ov)(hs:size<=10)(hx:xs.length<=900000):
 Calls Tryz.prog 80 #[.pointer (some ⟨b,0,none⟩),.int .i64 (size:Int)] w fun e w'=>e=.returned (.tuple #[])/\ZUp B w b (xs++Ag 0 size) w':=by
 have H:=Ab (Bb B b size 0 xs w h hs (by decide) hx);clear h;go_enter Tryz.func80,Tryz.ntmps80
 go_wp2_with fail
 refine(Aa H).mono ?_;rintro e w' ⟨rfl,hU⟩;have HU:=Ab hU;clear hU;go_wp2;go_end0
 exact⟨rfl,Aa HU⟩
end Go.Proofs.YtleocpdblhbimaaGreatDoor
namespace Go.Proofs.YtleocpdblhbimaaGreatDoor
open Go.RowKit
set_option linter.unusedVariables false
theorem Sk {w w':World}(h:Below w.heap.size w w'):w.grownBy w' none:=⟨h.os,h.tape,h.output,h.size,fun k hk _=>h.block k hk⟩
theorem JB {w w':World}{B e size n:Nat}{v:Value}{xs:List Value}(h:w.ownsRow B e size v n xs)(hg:Below w.heap.size w w'):w'.ownsRow B e size v n xs:=
 h.kept (Sk hg) (by cases hv:v.ownBlock with
  |none=>exact .inl rfl
  |some k=>exact .inr (by simp))
end Go.Proofs.YtleocpdblhbimaaGreatDoor
