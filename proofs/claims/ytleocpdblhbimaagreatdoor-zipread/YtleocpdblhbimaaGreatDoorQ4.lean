import Derived.Test.YtleocpdblhbimaaGreatDoorQ3
import Derived.Maps.AppendAt
import Derived.Laws.AppendOwnNone
import Derived.Lib.AppendStr
import Derived.Deep.RegionLaw
import Derived.Deep.DeepCutAuto
import Derived.Deep.DeepAppendRoom
import Derived.OwnWalk
import Derived.Laws.BytesArg
import Derived.Laws.Externs
import Derived.Lib.BytesEntry
import Derived.Laws.ResultCell
set_option linter.unusedSimpArgs false
set_option linter.unusedVariables false
set_option maxRecDepth 100000
set_option maxHeartbeats 4000000
namespace Go.Proofs.YtleocpdblhbimaaGreatDoor
open Go.RowKit
def KpT (w w':World):Prop:=∀(g:Nat) (cs:Array Value) (t:TypeId) (fz:Nat×Nat),t≠5->t≠101->w.heap[g]? =some (Obj.cells cs t fz)->w'.heap[g]? =some (Obj.cells cs t fz)
theorem KpT.refl (w:World):KpT w w:=fun _ _ _ _ _ _ h=>h
theorem KpT.trans {a b c:World}(G:KpT a b)(k:KpT b c):KpT a c:=fun g cs t fz E F H=>k g cs t fz E F (G g cs t fz E F H)
theorem KpT.below {w w':World}(F:Below w.heap.size w w'):KpT w w':=fun g cs t fz _ _ E=>(F.block g (VK.1 E).1).trans E
structure ZC (B:Nat)(w:World)(b:Nat)(xs:List Nat)(ov:Value):Prop where
 base:B<=b
 cell:w.heap[b]? =some (.cells #[ov] 101 (0,0))
 own:w.ownsRow (b+1) 5 1 ov xs.length (u8s xs)
theorem ZC.lt {B b:Nat}{w:World}{xs:List Nat}{F:Value}(E:ZC B w b xs F):b<w.heap.size:=(VK.1 E.cell).1
structure ZUp (B:Nat)(w:World)(b:Nat)(xs:List Nat)(w':World):Prop where
 is:∃ov,ZC B w' b xs ov
 below:Below B w w'
 kp:KpT w w'
theorem ZUp.refl {B b:Nat}{w:World}{xs:List Nat}{E:Value}(F:ZC B w b xs E):ZUp B w b xs w:=⟨⟨E,F⟩,Below.refl _ _,KpT.refl _⟩
theorem ZUp.trans {B b:Nat}{w E G:World}{xs ys:List Nat}(F:ZUp B w b xs E)(k:ZUp B E b ys G):ZUp B w b ys G:=⟨k.is,F.below.trans k.below,F.kp.trans k.kp⟩
theorem ZC.later {B b:Nat}{w w':World}{xs:List Nat}{G:Value}(E:ZC B w b xs G)(F:Below w.heap.size w w'):ZC B w' b xs G:=
 ⟨E.base,(F.block b E.lt).trans E.cell,Au E.own (fun g H=>F.block g (E.own.lt g H).2)⟩
theorem ZC.apart {B b:Nat}{w:World}{xs:List Nat}{E:Value}(F:ZC B w b xs E):E.ownBlock=none\/E.ownBlock≠some b:=by
 cases G:E.ownBlock with
 |none=>exact .inl rfl
 |some g=>
  refine .inr (fun e=> ?_);have:=(F.own.lt g G).1
  cases e
  omega
theorem Oy {w:World}{B e I n F:Nat}{v:Value}{xs:List Value}(H:w.ownsRow B e I v n xs)(G:v.ownBlock=some F):∃cs,w.heap[F]? =some (.cells cs e (0,0)):=by
 rcases H.2 with ⟨E,_⟩|⟨O,cap,cur,E,T,M,_⟩
 . subst E;cases G
 . subst E
   cases G
   exact⟨_,M⟩
theorem ZC.put {B b:Nat}{r W w':World}{xs ys:List Nat}{G v':Value}(E:ZC B r b xs G)(I:r.grownBy W none)(H:W.grownBy w' G.ownBlock)(T:w'.ownsRow (b+1) 5 1 v' (xs.length+ys.length) (u8s xs++u8s ys)):
 w'.cell? ⟨b,0,none⟩=some G/\w'.frozen? ⟨b,0,none⟩=false/\ZUp B r b (xs++ys) (w'.setCell ⟨b,0,none⟩ v'):=by
 have Y:=E.lt;have ao:=I.size;have al:=H.size;have ac:W.heap[b]? =some (.cells #[G] 101 (0,0)):=(I.block b Y (by simp)).trans E.cell;have O:w'.heap[b]? =some (.cells #[G] 101 (0,0)):=(H.block b (by omega) (fun e=>by rcases E.apart with E|E;rw[E]at e;cases e;exact E e.symm)).trans ac;have M:=Ad w' b 0 v'
 have ag:v'.ownBlock=none\/v'.ownBlock≠some b:=by
  cases ak:v'.ownBlock with
  |none=>exact .inl rfl
  |some g=>
   refine .inr (fun e=> ?_);have:=(T.lt g ak).1
   cases e
   omega
 have U:=E.base;refine⟨Ac O,frozen_of_row w' b 0 _ _ O,⟨v',U, ?_, ?_⟩, ?_, ?_⟩
 . rw[heap_setCell_same w' b 0 _ _ _ O];rfl
 . have:=T.kept M ag
   rw[VE,u8s,WU];exact this
 . have ai:=(Below.refl B r).grown I (by omega) (fun g e=>by cases e);have b1:=ai.grown H (by omega) (fun g e=>by have:=(E.own.lt g e).1;omega);exact b1.grown M (by omega) (fun g e=>by cases e;exact U)
 . intro g cs t fz aj af F;have aa:=(VK.1 F).1;have ae:W.heap[g]? =some (.cells cs t fz):=(I.block g aa (by simp)).trans F
   have Z:some g≠G.ownBlock:=by
    intro e;obtain⟨ap,hc⟩:=Oy E.own e.symm;rw[F]at hc
    injection hc with hc
    injection hc with _ hc2
    exact aj hc2
   have e2:w'.heap[g]? =some (.cells cs t fz):=(H.block g (by omega) Z).trans ae
   have ah:g≠b:=by
    intro e;rw[e,E.cell]at F
    injection F with F
    injection F with _ h4
    exact af h4.symm
   exact(M.block g (by omega) (fun e=>ah (VM e))).trans e2
def PkIn (w:World)(a:Option Addr)(c:Nat)(ys:List Nat):Prop:=BytesIn w a ys/\(a=none->c=0)
theorem PkIn.below {w w':World}{a:Option Addr}{c:Nat}{ys:List Nat}(E:PkIn w a c ys)(F:Below w.heap.size w w'):PkIn w' a c ys:=by
 refine⟨?_,E.2⟩
 rcases E.1 with E|⟨b,o,e,hb,hc⟩
 . exact .inl E
 . exact .inr ⟨b,o,e,VG hb F.size,fun j G=>(World.cell?_of_block (w:=w) (a:=⟨b,_,none⟩) (F.block b hb)).trans (hc j G)⟩
theorem CN:(Tryz.prog.info? 5).map (fun i=>(i.zero,i.size,i.bytes))=some (some (.int .u8 0),1,1):=by kernel_rfl
theorem Ll (w:World)(M:TypeId)(E:Nat)(v:Value)(xs ys:List Nat)(T:w.ownsRow E 5 1 v xs.length (u8s xs))(F:Option Addr)(m c:Nat)(ac:ys.length=m)(O:PkIn w F c ys)(al:xs.length+m<=140737488355328)(af:E<=w.heap.size):
 ∃v' w',(Builtin.append_ #[23,23] M #[v,.slice F m c]).run Tryz.prog w=.ok v' w'/\w'.ownsRow E 5 1 v' (xs.length+ys.length) (u8s xs++u8s ys)/\w.grownBy w' v.ownBlock:=by
 obtain⟨U,hi,ae,ai,ag⟩:=info_parts CN;subst ac
 cases F with
 |none=>
  have hc:c=0:=O.2 rfl;subst hc
  have Z:ys= []:=by
   rcases O.1 with h|⟨b,o,e,_⟩
   . exact h
   . cases e
  subst Z;have hr:=run_append_owned_none (P:=Tryz.prog) (w:=w) E 23 M 5 U 1 Tryz.underlying23 hi v xs.length (u8s xs) T;exact⟨v,w,hr,by simpa using T,Aw _ _⟩
 |some F=>
  obtain⟨v',w',aj,aa,ak,_⟩:=run_append_own_at (P:=Tryz.prog) w E 23 M 5 U (.int .u8 0) 1 1 Tryz.underlying23 hi ae ai ag rfl (by decide) v xs.length (u8s xs) T F ys.length c (u8s ys) (by simp) (by
   intro j u H
   have G:j<ys.length:=by
    have:=(XT.1 H).1
    simpa using this
   rcases O.1 with h|⟨b,o,e,_,ah⟩
   . subst h;simp at G
   . cases e
     have I:u=.int .u8 ((ys.getD j 0:Nat):Int):=by
      simp[u8s,G]at H
      simp[List.getD,G,H]
     rw[I];have:=ah j G
     by_cases Y:j=0
     . subst Y;simpa[Addr.add]using this
     . simpa[Addr.add,Y]using this) (by
   intro u I;obtain⟨x,_,rfl⟩:=XG.1 I;rfl) (by unfold maxLen;omega) (by omega) af
  exact⟨v',w',aj,aa,ak⟩
theorem LM {U:Array Oper}{o:Oper}{a:Act}{W:World}{K:Act->World->Prop}{Q:Exit->Act->World->Prop}{E:Prop}(ae:o.guard=none)(s x:Operand)
 (Z:o.op=.call {callee:=.builtin .append,args:= #[s,x],argTypes:= #[23,23]})
 (r:World) (B b:Nat) (xs ys:List Nat) (H:Value) (ah:a.eval s=H) (I:ZC B r b xs H) (M:r.grownBy W none) (O:Option Addr) (m c:Nat) (ai:a.eval x=.slice O m c) (aa:ys.length=m) (ac:PkIn W O c ys) (ao:xs.length+m<=1000000)
 (h:∀G Y F w',w'.cell? ⟨b,0,none⟩=some H->w'.frozen? ⟨b,0,none⟩=false->Hid (ZUp B r b (xs++ys) (w'.setCell ⟨b,0,none⟩ (.slice G Y F)))->K (a.put o.dst (.slice G Y F)) w'):
 if Region.wanted o (yielded U a.tmps)=true then Oper.wp Tryz.prog o a W K Q else E:=by
 have aj:Region.wanted o (yielded U a.tmps)=true:=by simp[Region.wanted,ae]
 rw[if_pos aj];have al:=I.lt;have ak:=M.size;obtain⟨v',w',hr,T,ag⟩:=Ll W o.type (b+1) H xs ys (Hv I.own M) O m c aa ac (by omega) (by omega);obtain⟨c1,c2,af⟩:=I.put M ag T;obtain⟨G,F,rfl⟩:=An T;unfold Oper.wp execOp;simp only[Z,resolve,invoke,builtin,Sem.run_bind,Sem.run_pure,Result.andThen_ok,ZL,WQ,ZE,ah,ai,hr];exact h G _ F w' c1 c2 (Ab af)
theorem ET (l:List UInt8):Lib.strCells (B l)=u8s (n8 l):=by simp[Lib.strCells,B,u8s,n8,ZA]
theorem LL {Y:Array Oper}{o:Oper}{a:Act}{W:World}{K:Act->World->Prop}{Q:Exit->Act->World->Prop}{E:Prop}(af:o.guard=none)(s x:Operand)
 (aa:o.op=.call {callee:=.builtin .append,args:= #[s,x],argTypes:= #[23,9]})
 (r:World) (U b:Nat) (xs:List Nat) (l:List UInt8) (H:Value) (ak:a.eval s=H) (M:ZC U r b xs H) (T:r.grownBy W none) (al:a.eval x=.string (B l)) (au:xs.length+l.length<=1000000)
 (h:∀F Z G w',w'.cell? ⟨b,0,none⟩=some H->w'.frozen? ⟨b,0,none⟩=false->Hid (ZUp U r b (xs++n8 l) (w'.setCell ⟨b,0,none⟩ (.slice F Z G)))->K (a.put o.dst (.slice F Z G)) w'):
 if Region.wanted o (yielded Y a.tmps)=true then Oper.wp Tryz.prog o a W K Q else E:=by
 have ao:Region.wanted o (yielded Y a.tmps)=true:=by simp[Region.wanted,af]
 rw[if_pos ao];have ar:=M.lt;have ap:=T.size;obtain⟨ac,hi,ae,aj,ag⟩:=info_parts CN;have O:(B l).size=l.length:=by simp[B,ByteArray.size]
 obtain⟨v',w',hr,I,ai,_⟩:=Lib.run_append_own_string (P:=Tryz.prog) W (b+1) 23 9 o.type 5 ac Tryz.underlying23 Tryz.underlying9 hi ae aj ag H xs.length (u8s xs) (Hv M.own T) (B l) (by rw[O];unfold maxLen;omega) (by rw[O];omega) (by omega);rw[O,ET,<-Da]at I;obtain⟨c1,c2,ah⟩:=M.put T ai I;obtain⟨F,G,rfl⟩:=An I;unfold Oper.wp execOp;simp only[aa,resolve,invoke,builtin,Sem.run_bind,Sem.run_pure,Result.andThen_ok,ZL,WQ,ZE,ak,al,hr];exact h F _ G w' c1 c2 (Ab ah)
theorem Ve {w:World}{B n:Nat}{v:Value}{ys:List Nat}(E:w.ownsRow B 5 1 v n (u8s ys)):∃a c,v=.slice a n c/\PkIn w a c ys/\n<=c/\ys.length=n/\∀g o,a=some ⟨g,o,none⟩->B<=g:=by
 have hl:ys.length=n:=by have:=E.1;simpa using this
 obtain⟨_,a,c,I,H⟩:=BytesIn.ofOwn E;subst I
 rcases E.2 with ⟨F,G⟩|⟨g,cap,cur,F,G,T,M,_⟩
 . cases F
   exact⟨none,0,rfl,⟨H,fun _=>rfl⟩,by omega,hl,fun g o e=>by cases e⟩
 . cases F
   exact⟨_,_,rfl,⟨H,fun e=>by cases e⟩,M,hl,fun O o e=>by cases e;exact G⟩
theorem Z3q (a:Option Addr)(p n E:Nat)(Y:p<=n)(Z:n<=E)(M:a=none->E=0):
 ∃F,(∀W:World,(Instr.slice 23 (.slice a n E) (some (.int .i64 (p:Int))) none none).run Tryz.prog W=.ok (.slice F (n-p) (E-p)) W)/\(∀b o,a=some ⟨b,o,none⟩->p<n->F=some ⟨b,o+p,none⟩)/\(F=none->E-p=0):=by
 have I:=Tryz.sizeOf5;have G:=Tryz.underlying23;have O:(p:Int)<=(n:Int):=by omega
 cases a with
 |none=>
  have:=M rfl
  subst this;obtain rfl:n=0:=by omega
  obtain rfl:p=0:=by omega
  exact⟨none,fun W=>by simp[go_sem,G],fun b o e=>(by cases e),fun _=>rfl⟩
 |some ad=>
  by_cases H:E=p
  . subst H;obtain rfl:n=E:=by omega
    refine⟨some ad,fun W=> ?_,fun b o e T=>by omega,fun e=>by cases e⟩;simp[go_sem,G,I]
  . have U:(p:Int)<(E:Int):=by omega
    refine⟨some (ad.add p),fun W=> ?_,fun b o e T=> ?_,fun e=>by cases e⟩
    . simp[go_sem,G,I,O,H]
      try omega
    . cases e
      unfold Addr.add
      split<;>simp_all
def PIn (w:World)(v:Value)(bs:List Nat):Prop:=∃a c,v=.slice a bs.length c/\bs.length<=c/\PkIn w a c bs
theorem PIn.below {w w':World}{v:Value}{bs:List Nat}(F:PIn w v bs)(G:Below w.heap.size w w'):PIn w' v bs:=by
 obtain⟨a,c,H,E,I⟩:=F;exact⟨a,c,H,E,I.below G⟩
theorem PIn.nil (w:World):PIn w (.slice none 0 0) []:=⟨none,0,rfl,VB _,.inl rfl,fun _=>rfl⟩
theorem AN (n:Nat):(Builtin.zeroCells (Value.int .u8 0).cells n).toList=u8s (List.replicate n 0):=by
 show (Builtin.zeroCells #[Value.int .u8 0] n).toList=_
 unfold Builtin.zeroCells;apply List.ext_getElem?
 intro i
 by_cases h:i<n
 . simp[h,Nat.mod_one]
 . simp[h]
theorem Oj (w:World)(I:TypeId)(n:Nat)(U:0<n)(ag:n<=281474976710656):
 ∃c w',(Builtin.append_ #[23,3] I #[.slice none 0 0,.int .i64 (n:Int)]).run Tryz.prog w=.ok (.slice (some ⟨w.heap.size,0,none⟩) n c) w'/\n<=c/\c<=maxLen/\w'.heap[w.heap.size]? =some (.cells (u8s (List.replicate c 0)).toArray 5 (0,0))/\w.grownBy w' none:=by
 obtain⟨af,hi,T,O,Z⟩:=info_parts Gz;have ae:=grownCap_ge w n 0 5;have aa:=grownCap_le_maxLen w n 0 5 (by unfold maxLen;omega);have M:n≠0:=by omega
 have F:¬(9223372036854775807<(n:Int)):=by omega
 have ac:¬((n:Int)<0):=by omega
 have E:¬(281474976710656<(n:Int)):=by omega
 have H:¬(281474976710656<Builtin.nextslicecap n 0):=by rw[nextslicecap_zero U];omega
 have Y:IntKind.i64.wrap (n:Int)=(n:Int):=by simp[IntKind.wrap,IntKind.signed,IntKind.bits];omega
 refine⟨grownCap w n 0 5,w.drew.alloc (.cells (Builtin.zeroCells (Value.int .u8 0).cells n++Builtin.zeroCells (Value.int .u8 0).cells (grownCap w n 0 5-n)) 5), ?_,ae,aa, ?_, ?_⟩
 . simp[Builtin.append_,run_underlying Tryz.underlying23,run_underlying Tryz.underlying3,sizeOf,typeInfo,zeroValue,hi,T,O,Z,asInt,asIntOf,Y,ac,E,M,F,H,Question.forced,run_firstCells_none,newRow,grownCap]
 . have:=heap_alloc_new w.drew (.cells (Builtin.zeroCells (Value.int .u8 0).cells n++Builtin.zeroCells (Value.int .u8 0).cells (grownCap w n 0 5-n)) 5)
   rw[show w.drew.heap.size=w.heap.size from rfl]at this;rw[this]
   congr 2
   apply Array.ext'
   rw[Array.toList_append,AN,AN];show _=u8s (List.replicate (grownCap w n 0 5) 0)
   unfold u8s;rw[<-WU,List.replicate_append_replicate]
   congr 2
   omega
 . exact⟨rfl,rfl,rfl,by simp,fun k G _=>Below.heap_alloc w.drew _ k G⟩
theorem Kh (w:World){E:Array Oper}{F:List Oper}{o:Oper}{a:Act}{Q:Exit->Act->World->Prop}(Y:o.guard=none)(s x:Operand)
 (G:o.op=.call {callee:=.builtin .append,args:= #[s,x],argTypes:= #[23,3]}) (n:Nat) (O:a.eval s=.slice none 0 0) (U:a.eval x=.int .i64 (n:Int)) (aa:0<n) (ac:n<=281474976710656)
 (I:∀c w',n<=c->c<=maxLen->w'.heap[w.heap.size]? =some (.cells (u8s (List.replicate c 0)).toArray 5 (0,0))->w.grownBy w' none->wpList Tryz.prog E Q F (a.put o.dst (.slice (some ⟨w.heap.size,0,none⟩) n c)) w'):
 wpList Tryz.prog E Q (o::F) a w:=by
 refine wpList_plain Y fun K hK=> ?_
 obtain⟨c,w',hr,H,Z,T,M⟩:=Oj w o.type n aa ac;unfold Oper.wp execOp;simp only[G,resolve,invoke,builtin,Sem.run_bind,Sem.run_pure,Result.andThen_ok,ZL,WQ,ZE,O,U,hr];exact hK _ _ (I c w' H Z T M)
theorem OY (n:Nat)(w:World)(M:0<n)(U:n<=281474976710656):Calls Tryz.prog 47 #[.slice none 0 0,.int .i64 (n:Int)] w fun e w'=>∃c,n<=c/\e=.returned (.slice (some ⟨w.heap.size,0,none⟩) 0 c)/\w'.ownsRow w.heap.size 5 1 (.slice (some ⟨w.heap.size,0,none⟩) 0 c) 0 (u8s [])/\Below w.heap.size w w':=by
 go_enter Tryz.func47,Tryz.ntmps47
 go_wp2_with (refine Kh w rfl (.tmp 20) (.tmp 21) rfl n rfl rfl M U ?_)
 intro c H O G F E;have T:=Ab (Hq (Below.refl w.heap.size w) E (VB _));have I:Hid (H.ownsRow w.heap.size 5 1 (.slice (some ⟨w.heap.size,0,none⟩) 0 c) 0 (u8s [])):=⟨rfl,.inr ⟨w.heap.size,c,_,rfl,VB _,F,VH _,G,by simp,rfl⟩⟩
 clear F E;go_wp2;go_ret;exact⟨c,O,rfl,Aa I,Aa T⟩
theorem Xf (w:World)(O:TypeId)(F x:Option Addr)(n G c:Nat)(M:n<=G):
 (Builtin.append_ #[23,23] O #[.slice F n G,.slice x 0 c]).run Tryz.prog w=.ok (.slice F n G) w:=by
 obtain⟨E,hi,T,I,U⟩:=info_parts Gz
 have H:(Builtin.firstCells E.size 0 (.slice x 0 c)).run Tryz.prog w=.ok #[] w:=by
  cases x with
  |none=>exact run_firstCells_none w E.size 0 0 c
  |some b=>exact run_firstCells_some w E.size 0 b 0 c [] (by simp) (by simp)
 rw[I]at H
 cases F<;>simp[Builtin.append_,run_underlying Tryz.underlying23,sizeOf,typeInfo,hi,I,Builtin.lenOf,H,M,storeCells]
theorem Ii (w:World){G:Array Oper}{H:List Oper}{o:Oper}{a:Act}{Q:Exit->Act->World->Prop}(U:o.guard=none)(s x:Operand)
 (I:o.op=.call {callee:=.builtin .append,args:= #[s,x],argTypes:= #[23,23]}) (F y:Option Addr) (n E c:Nat) (O:a.eval s=.slice F n E) (T:a.eval x=.slice y 0 c) (Y:n<=E)
 (M:wpList Tryz.prog G Q H (a.put o.dst (.slice F n E)) w):wpList Tryz.prog G Q (o::H) a w:=by
 refine wpList_plain U fun K hK=> ?_
 unfold Oper.wp execOp;simp only[I,resolve,invoke,builtin,Sem.run_bind,Sem.run_pure,Result.andThen_ok,ZL,WQ,ZE,O,T,Xf w o.type F y n E c Y];exact hK _ _ M
theorem OX (w:World):Calls Tryz.prog 47 #[.slice none 0 0,.int .i64 0] w fun e w'=>e=.returned (.slice none 0 0)/\w'=w:=by
 go_enter Tryz.func47,Tryz.ntmps47
 go_wp2;go_ret
 trivial
def Iu (ps:List (Option Addr×Nat×List Nat)):Nat->List Nat
 |0=> []
 |k+1=>Iu ps k++(ps.getD k (none,0,[])).2.2
theorem Z5g (E:List (Option Addr×Nat×List Nat)){j k:Nat}(F:j<=k):(Iu E j).length<=(Iu E k).length:=by
 induction k with
 |zero=>rw[show j=0 by omega];exact VB _
 |succ k ih=>
  by_cases e:j=k+1
  . rw[e];exact VB _
  . have:=ih (by omega)
    rw[Iu,VE];omega
theorem AD {w:World}{b o:Nat}{xs:List Nat}(G:Bytes w b o xs):∀j u,(u8s xs)[j]? =some u->w.cell? ((⟨b,o,none⟩:Addr).add j)=some u:=by
 intro j u E;have e:(⟨b,o,none⟩:Addr).add j=⟨b,o+j,none⟩:=by unfold Addr.add;split<;>simp_all
 have F:j<xs.length:=by
  by_cases c:j<xs.length
  . exact c
  . rw[WJ (by simp[u8s];omega)]at E;cases E
 have:=G j F
 rw[e,this];simp[u8s,F]at E
 subst E;simp[List.getD,F]
theorem Z3b (xs:List Nat):∀u∈u8s xs,u.oneCell'=true:=by intro u E;obtain⟨x,_,rfl⟩:=XG.1 E;rfl
theorem IY (b o F a6:Nat)(E:List (Option Addr×Nat×List Nat))(w:World)(bc:b<w.heap.size)(a2:∀j,j<F->w.cell? ⟨b,o+j,none⟩=some (.slice (E.getD j (none,0,[])).1 (E.getD j (none,0,[])).2.2.length (E.getD j (none,0,[])).2.1))
 (az:∀j,j<F->BytesIn w (E.getD j (none,0,[])).1 (E.getD j (none,0,[])).2.2) (ao:(Iu E F).length<=281474976710656) (bn:F<=100):
 Calls Tryz.prog 29 #[.slice (some ⟨b,o,none⟩) F a6] w fun e w'=>∃a c,(Iu E F).length<=c/\e=.returned (.slice a (Iu E F).length c)/\BytesIn w' a (Iu E F)/\Below w.heap.size w w'/\(a=none->c=0):=by
 obtain⟨a3,hi,bk,bh,bm⟩:=info_parts Gz;have af:=Ab a2;have bj:=Ab az;obtain⟨T,ac⟩:=exq ((Iu E F).length);rw[ac]at ao;have M:=Ab ac;have ag:Hid (∀k,k<=F->(Iu E k).length<=T):=Ab (fun k au=>by rw[<-ac];exact Z5g E au);clear a2 az ac;go_enter Tryz.func29,Tryz.ntmps29
 go_wp2;go_loop [3,11] (fun a8 ai=>∃k:Nat,k<=F/\ai=.int .i64 (k:Int)/\a8=.int .i64 ((Iu E k).length:Int)) (fun _ ai=>F-(intOf ai).toNat)
 case atStart=>exact⟨0,VH _,rfl,rfl⟩
 case round=>
  obtain⟨k,au,rfl,rfl⟩:=hrel
  by_cases a9:k<F
  . have c1:=Aa af k a9;have G:=Aa ag (k+1) (by omega);have H:Hid ((Iu E (k+1)).length=(Iu E k).length+(E.getD k (none,0,[])).2.2.length):=Ab (by rw[Iu,VE]);rw[Aa H]at G;generalize (E.getD k (none,0,[])).2.2.length=m at*;generalize (E.getD k (none,0,[])).2.1=Y at*;generalize (E.getD k (none,0,[])).1=g at*;generalize (Iu E k).length=L at*;go_wp2;go_round
    case rel=>exact⟨k+1,by omega,by go_num,by rw[Aa H];go_num⟩
    case measure=>simp[intOf];omega
  . obtain rfl:F=k:=by omega
    rw[Aa M]
    by_cases bi:T=0
    . subst bi;go_wp2_with fail
      refine(OX w).mono ?_;rintro e a4 ⟨rfl,rfl⟩;go_wp2;go_loop [6,27] (fun aj I=>∃k:Nat,k<=F/\I=.int .i64 (k:Int)/\aj=.slice none 0 0) (fun _ I=>F-(intOf I).toNat)
      case atStart=>exact⟨0,VH _,rfl,rfl⟩
      case round=>
       obtain⟨k,bd,rfl,rfl⟩:=hrel
       by_cases aa:k<F
       . have c1:=Aa af k aa;have G:=Aa ag (k+1) (by omega);rw[Iu,VE]at G;have ap:(E.getD k (none,0,[])).2.2.length=0:=by omega
         rw[ap]at c1;generalize (E.getD k (none,0,[])).2.1=Y at*;generalize (E.getD k (none,0,[])).1=g at*;clear G ap;go_wp2_with (at_builtin;refine Ii _ rfl (.tmp 31) (.tmp 32) rfl none g 0 0 Y rfl rfl (VB _) ?_)
         go_round
         case rel=>exact⟨k+1,by omega,by go_num,rfl⟩
         case measure=>simp[intOf];omega
       . obtain rfl:F=k:=by omega
         go_wp2;go_ret;exact⟨none,0,by rw[Aa M];exact VB _,by rw[Aa M];rfl,.inl (ZH.1 (Aa M)),Below.refl _ _,fun _=>rfl⟩
    . go_wp2_with fail
      refine(OY T w (by omega) ao).mono ?_;rintro e a4 ⟨c,a5,rfl,a1,ar⟩;have bb:=Ab a1;have ba:=Ab ar;clear a1 ar;go_wp2;go_loopw [6,27] (fun aj I wr=>∃k:Nat,k<=F/\I=.int .i64 (k:Int)/\aj=.slice (some ⟨w.heap.size,0,none⟩) (Iu E k).length c/\Hid (wr.ownsRow w.heap.size 5 1 (.slice (some ⟨w.heap.size,0,none⟩) (Iu E k).length c) (Iu E k).length (u8s (Iu E k)))/\Hid (Below w.heap.size w wr)) (fun _ I _=>F-(intOf I).toNat)
      case atStart=>exact⟨0,VH _,rfl,rfl,bb,ba⟩
      case round=>
       obtain⟨k,bd,rfl,rfl,Z,U⟩:=hrel
       by_cases aa:k<F
       . have c1:=((Aa U).cell (p:=⟨b,o+k,none⟩) bc).trans (Aa af k aa);have ae:=(Aa bj k aa).below (Aa U) (VB _);have G:=Aa ag (k+1) (by omega);have H:Hid (Iu E (k+1)=Iu E k++(E.getD k (none,0,[])).2.2):=Ab rfl;rw[Aa H,VE]at G;generalize (E.getD k (none,0,[])).2.2=xs at*;generalize (E.getD k (none,0,[])).1=g at*;generalize (E.getD k (none,0,[])).2.1=Y at*
         rcases ae with rfl|⟨gb,go,rfl,bo,ae⟩
         . have aw:Hid (Iu E (k+1)=Iu E k):=Ab (by rw[Aa H,XA]);simp only[WE]at c1 G;generalize O:(Iu E k).length=L at*;clear H;go_wp2_with (at_builtin;refine Ii _ rfl (.tmp 31) (.tmp 32) rfl _ g L c Y rfl rfl (by omega) ?_)
           go_roundw
           case rel=>exact⟨k+1,by omega,by go_num,by rw[Aa aw,O],Ab (by rw[Aa aw,O];exact Aa Z),U⟩
           case measure=>simp[intOf];omega
         . have al:=Ab (AD ae);obtain⟨m,hm⟩:=exq (xs.length);obtain⟨L,O⟩:=exq ((Iu E k).length);rw[hm]at c1 G;rw[O]at G Z ⊢;have ah:=Ab hm;have ak:=Ab O;clear ae hm O;go_wp2_with (at_builtin;refine wpList_append_own_spare _ rfl (.tmp 31) (.tmp 32) 23 rfl w.heap.size 5 a3 1 Tryz.underlying23 hi bh w.heap.size L c (u8s (Iu E k)) rfl (Aa Z) ⟨gb,go,none⟩ m Y (u8s xs) rfl (by simp[u8s,Aa ah]) (Aa al) (Z3b xs) (by omega) ?_)
           intro ax ay av
           have bf:Hid (ax.ownsRow w.heap.size 5 1 (.slice (some ⟨w.heap.size,0,none⟩) (Iu E (k+1)).length c) (Iu E (k+1)).length (u8s (Iu E (k+1)))):=by
            rw[Aa H,VE,Aa ak,Aa ah];show ax.ownsRow w.heap.size 5 1 _ (L+m) (List.map _ (Iu E k++xs))
            rw[WU];exact ay
           have a7:=Ab ((Aa U).grown av (Aa U).size (fun g e=>by cases e;exact VB _));have bg:Hid ((Iu E (k+1)).length=L+m):=Ab (by rw[Aa H,VE,Aa ak,Aa ah]);clear ay av c1 al;go_wp2;go_roundw
           case rel=>exact⟨k+1,by omega,by go_num,by rw[Aa bg],bf,a7⟩
           case measure=>simp[intOf];omega
       . obtain rfl:F=k:=by omega
         rw[Aa M]at Z ⊢;go_wp2;go_ret;exact⟨_,c,by rw[Aa M];exact a5,by rw[Aa M];rfl,BytesIn.own (Aa Z),Aa U,fun e=>by cases e⟩
theorem Ar (n E:Nat)(w:World)(M:n<=9223372036854775807)(H:E<=100):
 Calls Tryz.prog 62 #[.int .i64 (n:Int),.int .i64 (E:Int)] w fun e w'=>∃a l c,e=.returned (.slice a l c)/\PIn w' (.slice a l c) (Ag n E)/\Below w.heap.size w w':=by
 refine(Z4q n E w M H).mono ?_;rintro e w' ⟨v,rfl,I,G⟩;obtain⟨a,c,rfl,k1,k2,F,_⟩:=Ve I;exact⟨a,E,c,rfl,⟨a,c,by rw[F],by rw[F];exact k2,k1⟩,G⟩
inductive PIns (w:World):List Value->List (List Nat)->Prop
 |nil:PIns w [] []
 |cons {v:Value} {b:List Nat} {vs:List Value} {bs:List (List Nat)}:PIn w v b->PIns w vs bs->PIns w (v::vs) (b::bs)
theorem PIns.rows {w:World}{F:List Value}{bs:List (List Nat)}(H:PIns w F bs):∃ps:List (Option Addr×Nat×List Nat),F=ps.map (fun p=>.slice p.1 p.2.2.length p.2.1)/\bs=ps.map (fun p=>p.2.2)/\∀p∈ps,BytesIn w p.1 p.2.2:=by
 induction H with
 |nil=>exact⟨[],rfl,rfl,fun p E=>by cases E⟩
 |cons h1 _ ih=>
  obtain⟨a,c,rfl,_,G⟩:=h1;obtain⟨ps,rfl,rfl,I⟩:=ih;refine⟨(a,c,_)::ps,rfl,rfl,fun p E=> ?_⟩
  rcases WH.1 E with rfl|E
  . exact G.1
  . exact I p E
theorem O2:∀(E:List (Option Addr×Nat×List Nat)) (k:Nat),k<=E.length->Iu E k=((E.take k).map (fun p=>p.2.2)).flatten
 |E,0,_=>by simp[Iu]
 |E,k+1,h=>by
  rw[Iu,O2 E k (by omega),XM,WU,List.flatten_append];simp[List.getD,VP (show k<E.length by omega)]
theorem Cz (w:World)(F:List Value)(bs:List (List Nat))(H:Array Value)(t:TypeId)(n M:Nat)(T:PIns w F bs)(ac:H=F.toArray)(af:F.length=n)(Y:n<=100)(aa:bs.flatten.length<=281474976710656):
 Calls Tryz.prog 29 #[.slice (some ⟨w.heap.size,0,none⟩) n M] (w.alloc (.cells H t)) fun e w'=>∃a l c,e=.returned (.slice a l c)/\PIn w' (.slice a l c) bs.flatten/\Below w.heap.size w w':=by
 obtain⟨ps,rfl,rfl,ae⟩:=T.rows;have O:ps.length=n:=by simpa using af
 subst O;have e:Iu ps ps.length=(ps.map (fun p=>p.2.2)).flatten:=by rw[O2 ps _ (VB _),VV (VB _)]
 refine(IY w.heap.size 0 ps.length M ps _ (by simp) (fun j E=> ?_) (fun j E=> ?_) (by rw[e];exact aa) Y).mono ?_
 . rw[WG,cell_of_row _ _ _ _ _ _ (heap_alloc_new w _),ac];simp[List.getD,E]
 . have hm:ps.getD j (none,0,[])∈ps:=by simp[List.getD,E]
   exact(ae _ hm).alloc _
 . rintro ag w' ⟨a,c,I,rfl,G,Z,U⟩;rw[e]at I G ⊢;exact⟨a,_,c,rfl,⟨a,c,rfl,I,G,U⟩,((Below.refl w.heap.size w).alloc (VB _) _).trans (Z.mono (by simp))⟩
theorem Z42 (k:Nat):256^k=2^(8*k):=by rw[Nat.pow_mul]
theorem ZC.new {B b:Nat}{w:World}{xs:List Nat}{F:Value}(E:ZC B w b xs F):w.cell? ⟨b,0,none⟩=some F/\w.frozen? ⟨b,0,none⟩=false:=⟨Ac E.cell,frozen_of_row w b 0 _ _ E.cell⟩
theorem Z6c {W:World}{F y:Nat}(E:W.cell? ⟨F,0,none⟩=some (.int .u8 (y:Int))):PkIn W (some ⟨F,0,none⟩) 1 [y]:=by
 refine⟨.inr ⟨F,0,rfl, ?_, ?_⟩,fun e=>by cases e⟩
 . simp only[World.cell?]at E
   cases hb:W.heap[F]? with
   |none=>rw[hb]at E;cases E
   |some o=>exact(VK.1 hb).1
 . intro j G;obtain rfl:j=0:=by simpa using G
   simpa using E
theorem Z3r (n k:Nat)(I:k<=10)(H:n<4294967296)(W:World):(Op.shift .shr .u32 (n:Int) .i64 (IntKind.i64.wrap (8*(k:Int)))).run Tryz.prog W=.ok (.int .u32 ((n/256^k:Nat):Int)) W:=by
 have e:IntKind.i64.wrap (8*(k:Int))=((8*k:Nat):Int):=by
  simp[IntKind.wrap,IntKind.bits,IntKind.signed]
  omega
 rw[e,Z42];have M:n/2^(8*k)<=n:=YO _ _
 have E:(n:Int).fdiv (2^min (8*k) 32)=((n/2^(8*k):Nat):Int):=by
  rw[Int.fdiv_eq_ediv_of_nonneg _ (by exact_mod_cast VH _)]
  by_cases F:8*k<=32
  . rw[YP F];push_cast;rfl
  . rw[YG (by omega)];have G:n/2^(8*k)=0:=Nat.div_eq_of_lt (VG H (show (4294967296:Nat)<=2^(8*k) from VO (n:=2) (i:=32) (j:=8*k) (by decide) (by omega)));rw[G];omega
 unfold Op.shift;rw[if_neg (by omega),WM];show Result.ok (Value.int .u32 ((n:Int).fdiv (2^min (8*k) 32))) W=_
 rw[E]
theorem Bb (B b E n:Nat)(xs:List Nat)(w:World)(h:∃ov,ZC B w b xs ov)(au:E<=10)(ak:n<4294967296)(av:xs.length<=900000):
 Calls Tryz.prog 77 #[.pointer (some ⟨b,0,none⟩),.int .i64 (E:Int),.int .u32 (n:Int)] w fun e w'=>e=.returned (.tuple #[])/\ZUp B w b (xs++Ag n E) w':=by
 obtain⟨al,O⟩:=h;have H:=Ab O;clear O;go_enter Tryz.func77,Tryz.ntmps77
 go_wp2;go_loopw [8] (fun i wr=>∃k:Nat,k<=E/\i=.int .i64 (k:Int)/\Hid (ZUp B w b (xs++Ag n k) wr)) (fun i _=>E-(intOf i).toNat)
 case atStart=>exact⟨0,VH _,rfl,Ab (by simpa[Ag]using ZUp.refl (Aa H))⟩
 case round=>
  obtain⟨k,ar,rfl,I⟩:=hrel
  by_cases ap:k<E
  . obtain⟨ov,G⟩:=(Aa I).is;have F:=Ri k n;have U:=Ai k n;obtain⟨c0,f0⟩:=G.new;have ag:=Z3r n k (by omega) ak;obtain⟨z,Y⟩:=exq (n/256^k);rw[Y]at F ag;obtain⟨y,Z⟩:=exq (z%256);rw[Z]at F
    have aw:IntKind.u8.wrap (z:Int)=(y:Int):=by
     simp[IntKind.wrap,IntKind.bits,IntKind.signed]
     omega
    have ao:∀o:Obj,(wr.alloc o).cell? ⟨b,0,none⟩=some ov:=fun o=>(World.cell?_alloc_lt wr o _ G.lt).trans c0
    have ai:=Ab F;have M:(xs++Ag n k).length+1<=1000000:=by rw[VE,U];omega
    have af:=Ab M;have ah:=Ab G;clear G F U M Z Y;go_wp2;go_region_law (refine LM rfl (.tmp 15) (.tmp 21) rfl wr B b _ [y] _ rfl (Aa ah) (by repeat (first|with_reducible exact Aw _ _|with_reducible refine Cb ?_|with_reducible refine ga ?_ _)) _ 1 1 rfl rfl (Z6c (by repeat (first|with_reducible refine QY ?_|with_reducible exact Jo (by simp)|with_reducible exact QX (by simp)))) (Aa af) ?_;intro ae aj ac w' c1 c2 T)
    all_goals
     have aa:Hid (ZUp B w b (xs++Ag n (k+1)) (w'.setCell ⟨b,0,none⟩ (.slice ae aj ac))):=Ab (by
      rw[Aa ai,<-VS];exact(Aa I).trans (Aa T))
     clear c1 c2 T;go_wp2;go_roundw
     case rel=>exact⟨k+1,by omega,by go_num,aa⟩
     case measure=>simp[intOf];omega
  . obtain rfl:E=k:=by omega
    go_wp2;go_end0
    exact⟨rfl,Aa I⟩
theorem Hc (B b E:Nat)(xs:List Nat)(w:World)(G:∃ov,ZC B w b xs ov)(I:E<=10)(M:xs.length<=900000):
 Calls Tryz.prog 80 #[.pointer (some ⟨b,0,none⟩),.int .i64 (E:Int)] w fun e w'=>e=.returned (.tuple #[])/\ZUp B w b (xs++Ag 0 E) w':=by
 have H:=Ab (Bb B b E 0 xs w G I (by decide) M);clear G;go_enter Tryz.func80,Tryz.ntmps80
 go_wp2_with fail
 refine(Aa H).mono ?_;rintro e w' ⟨rfl,F⟩;have O:=Ab F;clear F;go_wp2;go_end0
 exact⟨rfl,Aa O⟩
theorem Sy {w w':World}(E:Below w.heap.size w w'):w.grownBy w' none:=⟨E.os,E.tape,E.output,E.size,fun k F _=>E.block k F⟩
theorem MV {w w':World}{B e E n:Nat}{v:Value}{xs:List Value}(F:w.ownsRow B e E v n xs)(G:Below w.heap.size w w'):w'.ownsRow B e E v n xs:=
 F.kept (Sy G) (by cases H:v.ownBlock with
  |none=>exact .inl rfl
  |some k=>exact .inr (by simp))
def BsIn (w:World)(a:Option Addr)(c:Nat)(bs:List UInt8):Prop:=
 (a=none/\bs= []/\c=0)\/ (bs= []/\∃ad,a=some ad)\/∃b o,a=some ⟨b,o,none⟩/\b<w.heap.size/\bs.length<=c/\∀j,j<bs.length->w.cell? ⟨b,o+j,none⟩=some (.int .u8 (((bs.getD j 0).toNat:Nat):Int))
theorem BsIn.below {w w':World}{B:Nat}{a:Option Addr}{c:Nat}{bs:List UInt8}(E:BsIn w a c bs)(F:Below B w w')(T:w.heap.size<=B):BsIn w' a c bs:=by
 rcases E with E|E|⟨b,o,H,G,O,I⟩
 . exact .inl E
 . exact .inr (.inl E)
 . refine .inr (.inr ?_);exact⟨b,o,H,VG G F.size,O,fun j M=>(F.cell (p:=⟨b,o+j,none⟩) (by simp;omega)).trans (I j M)⟩
abbrev Z4g (bs:List UInt8):List Int:=bs.map fun x:UInt8=>((x.toNat:Nat):Int)
theorem NF (bs:List UInt8)(j:Nat):(Z4g bs).getD j 0=(((bs.getD j 0).toNat:Nat):Int):=by
 unfold Z4g
 by_cases h:j<bs.length
 . simp[List.getD,h]
 . simp[List.getD,h]
theorem Z6k (bs:List UInt8):(Z4g bs).map (fun n=>UInt8.ofNat n.toNat)=bs:=by
 unfold Z4g;rw[ZU];have:((fun n:Int=>UInt8.ofNat n.toNat) ∘ fun x:UInt8=>((x.toNat:Nat):Int))=id:=by funext x;simp
 rw[this,List.map_id]
theorem R7 (bs:List UInt8):strOfNums (Z4g bs)=B bs:=by
 unfold strOfNums B;rw[Z6k]
theorem Po {w:World}{a:Option Addr}{c:Nat}{bs:List UInt8}(F:BsIn w a c bs):(convert 23 9 (.slice a bs.length c)).run Tryz.prog w=.ok (.string (B bs)) w:=by
 rcases F with ⟨rfl,rfl,rfl⟩|⟨rfl,ad,rfl⟩|⟨b,o,rfl,G,H,E⟩
 . exact run_convert_bytes_nil w _ _ Tryz.underlying23 Tryz.underlying5 0 0 _ Tryz.underlying9
 . show (convert 23 9 (.slice (some ad) 0 c)).run Tryz.prog w=.ok (.string (B [])) w
   rw[run_convert_bytes_string w _ _ _ (some ad) 0 c Tryz.underlying23 Tryz.underlying5 Tryz.underlying9];exact(run_bytesToString (P:=Tryz.prog) w ad 0 c [] (by rfl)).trans rfl
 . have:=run_convert_bytes_arg (P:=Tryz.prog) w _ _ Tryz.underlying23 Tryz.underlying5 b o bs.length c (Z4g bs) (by simp[Z4g]) (fun i hi=>by rw[E i hi,NF]) _ Tryz.underlying9
   rw[this,R7]
structure Fv where
 f:Fl
 a:Option Addr
 c:Nat
def Fv.sl (x:Fv):Value:=.slice x.a x.f.bytes.length x.c
def Fv.val (x:Fv):Value:=.agg #[.string (B x.f.name),x.sl,.int .i64 x.f.stamp,.int .i64 x.f.node,.bool x.f.gone]
def Fv.cells (x:Fv):List Value:= [.string (B x.f.name),x.sl,.int .i64 x.f.stamp,.int .i64 x.f.node,.bool x.f.gone]
structure FvIn (w:World)(x:Fv):Prop where
 bs:BsIn w x.a x.c x.f.bytes
 big:x.f.bytes.length<=140737488355328
 txt:x.f.name.length<=140737488355328
theorem FvIn.below {w w':World}{B:Nat}{x:Fv}(E:FvIn w x)(G:Below B w w')(F:w.heap.size<=B):FvIn w' x:=⟨E.bs.below G F,E.big,E.txt⟩
theorem FvIn.alloc {w:World}{x:Fv}(E:FvIn w x)(o:Obj):FvIn (w.alloc o) x:=E.below ((Below.refl w.heap.size w).alloc (VB _) o) (VB _)
def Fs (w:World)(b o:Nat)(xs:List Fv):Prop:=∀j x,xs[j]? =some x->w.cell? ⟨b,o+j*5,none⟩=some (.string (B x.f.name))/\w.cell? ⟨b,o+j*5+1,none⟩=some x.sl/\w.cell? ⟨b,o+j*5+2,none⟩=some (.int .i64 x.f.stamp)/\w.cell? ⟨b,o+j*5+3,none⟩=some (.int .i64 x.f.node)/\w.cell? ⟨b,o+j*5+4,none⟩=some (.bool x.f.gone)
structure FsIn (w:World)(ad:Option Addr)(c:Nat)(xs:List Fv):Prop where
 at_:xs= []\/∃b o,ad=some ⟨b,o,none⟩/\b<w.heap.size/\Fs w b o xs
 cap:xs.length<=c
 capm:c<=9223372036854775807
 lim:xs.length<=2199023255552
 all:∀x∈xs,FvIn w x
theorem FsIn.below {w w':World}{B:Nat}{I:Option Addr}{c:Nat}{xs:List Fv}(F:FsIn w I c xs)(E:Below B w w')(Y:w.heap.size<=B):FsIn w' I c xs:=by
 refine⟨?_,F.cap,F.capm,F.lim,fun x Z=>(F.all x Z).below E Y⟩
 rcases F.at_ with H|⟨b,o,H,M,aa⟩
 . exact .inl H
 . refine .inr ⟨b,o,H,VG M E.size, ?_⟩;intro j x U;obtain⟨k1,k2,T,ac,O⟩:=aa j x U;have G:b<B:=by omega
   exact⟨(E.cell (p:=⟨b,_,none⟩) G).trans k1,(E.cell (p:=⟨b,_,none⟩) G).trans k2,(E.cell (p:=⟨b,_,none⟩) G).trans T,(E.cell (p:=⟨b,_,none⟩) G).trans ac,(E.cell (p:=⟨b,_,none⟩) G).trans O⟩
theorem FsIn.nil (w:World):FsIn w none 0 []:=⟨.inl rfl,VB _,by omega,by simp,fun x E=>by cases E⟩
theorem FsIn.get {w w':World}{H:Option Addr}{c k:Nat}{xs:List Fv}{x:Fv}(F:FsIn w H c xs)(T:Below w.heap.size w w')(E:xs[k]? =some x):
 ∃b o,H=some ⟨b,o,none⟩/\b<w.heap.size/\w'.cell? ⟨b,o+k*5,none⟩=some (.string (B x.f.name))/\w'.cell? ⟨b,o+k*5+1,none⟩=some x.sl/\w'.cell? ⟨b,o+k*5+2,none⟩=some (.int .i64 x.f.stamp)/\w'.cell? ⟨b,o+k*5+3,none⟩=some (.int .i64 x.f.node)/\w'.cell? ⟨b,o+k*5+4,none⟩=some (.bool x.f.gone):=by
 rcases(F.below T (VB _)).at_ with rfl|⟨b,o,G,aa,Y⟩
 . simp at E
 . rcases F.at_ with rfl|⟨ae,ac,I,U,_⟩
   . simp at E
   . rw[G]at I
     cases I
     obtain⟨k1,k2,O,Z,M⟩:=Y k x E;exact⟨b,o,G,U,k1,k2,O,Z,M⟩
theorem Ob {xs:List Fv}{k:Nat}(E:k<xs.length):∃x,xs[k]? =some x/\x∈xs:=⟨xs[k],VP E,WK E⟩
abbrev fls (xs:List Fv):List Fl:=xs.map Fv.f
theorem Nw (x:Fv):x.val=.agg #[.string (B x.f.name),.slice x.a x.f.bytes.length x.c,.int .i64 x.f.stamp,.int .i64 x.f.node,.bool x.f.gone]:=rfl
theorem Fh (l:List UInt8):(B l).toList=l:=by rw[ByteArray.toList_eq];rfl
theorem Z1q {w:World}{a G:Option Addr}{c H:Nat}{x y:List UInt8}(F:BsIn w a c x)(E:BsIn w G H y):
 Calls Tryz.prog 13 #[.slice a x.length c,.slice G y.length H] w fun e w'=>e=.returned (.bool (decide (x=y)))/\w'=w:=by
 have I:=Po F;have e2:=Po E;have e3:((B x).toList==(B y).toList)=decide (x=y):=by rw[Fh,Fh,XZ,beq_iff_eq,decide_eq_true_iff]
 clear F E;generalize B x=s at*;generalize B y=t at*;go_enter Tryz.func13,Tryz.ntmps13
 go_wp2;go_ret;exact⟨rfl,rfl⟩
end Go.Proofs.YtleocpdblhbimaaGreatDoor
