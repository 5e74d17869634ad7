import Derived.Test.YtleocpdblhbimaaGreatDoorQ3
import Derived.Maps.AppendAt
import Derived.Laws.AppendOwnNone
import Derived.Lib.AppendStr
import Derived.Deep.RegionLaw
import Derived.Deep.DeepCutAuto
import Derived.Deep.DeepAppendRoom
import Derived.OwnWalk
import Derived.Laws.BytesArg
import Derived.Laws.Externs
import Derived.Lib.BytesEntry
import Derived.Laws.ResultCell
set_option linter.unusedSimpArgs false
set_option linter.unusedVariables false
set_option maxRecDepth 100000
set_option maxHeartbeats 4000000
namespace Go.Proofs.YtleocpdblhbimaaGreatDoor
open Go.RowKit
def KpT (w w':World):Prop:=∀(g:Nat) (cs:Array Value) (t:TypeId) (fz:Nat×Nat),t≠5->t≠101->w.heap[g]? =some (Obj.cells cs t fz)->w'.heap[g]? =some (Obj.cells cs t fz)
theorem KpT.refl (w:World):KpT w w:=fun _ _ _ _ _ _ h=>h
theorem KpT.trans {a b c:World}(H:KpT a b)(k:KpT b c):KpT a c:=fun g cs t fz F E G=>k g cs t fz F E (H g cs t fz F E G)
theorem KpT.below {w w':World}(F:Below w.heap.size w w'):KpT w w':=fun g cs t fz _ _ E=>(F.block g (VK.1 E).1).trans E
structure ZC (B:Nat)(w:World)(b:Nat)(xs:List Nat)(ov:Value):Prop where
 base:B<=b
 cell:w.heap[b]? =some (.cells #[ov] 101 (0,0))
 own:w.ownsRow (b+1) 5 1 ov xs.length (u8s xs)
theorem ZC.lt {B b:Nat}{w:World}{xs:List Nat}{F:Value}(E:ZC B w b xs F):b<w.heap.size:=(VK.1 E.cell).1
structure ZUp (B:Nat)(w:World)(b:Nat)(xs:List Nat)(w':World):Prop where
 is:∃ov,ZC B w' b xs ov
 below:Below B w w'
 kp:KpT w w'
theorem ZUp.refl {B b:Nat}{w:World}{xs:List Nat}{E:Value}(F:ZC B w b xs E):ZUp B w b xs w:=⟨⟨E,F⟩,Below.refl _ _,KpT.refl _⟩
theorem ZUp.trans {B b:Nat}{w E F:World}{xs ys:List Nat}(G:ZUp B w b xs E)(k:ZUp B E b ys F):ZUp B w b ys F:=⟨k.is,G.below.trans k.below,G.kp.trans k.kp⟩
theorem ZC.later {B b:Nat}{w w':World}{xs:List Nat}{G:Value}(E:ZC B w b xs G)(F:Below w.heap.size w w'):ZC B w' b xs G:=
 ⟨E.base,(F.block b E.lt).trans E.cell,Au E.own (fun g H=>F.block g (E.own.lt g H).2)⟩
theorem ZC.apart {B b:Nat}{w:World}{xs:List Nat}{E:Value}(G:ZC B w b xs E):E.ownBlock=none\/E.ownBlock≠some b:=by
 cases F:E.ownBlock with
 |none=>exact .inl rfl
 |some g=>refine .inr (fun e=> ?_);have:=(G.own.lt g F).1;cases e;omega
theorem Oy {w:World}{B e I n F:Nat}{v:Value}{xs:List Value}(M:w.ownsRow B e I v n xs)(G:v.ownBlock=some F):∃cs,w.heap[F]? =some (.cells cs e (0,0)):=by(rcases M.2 with ⟨E,_⟩|⟨T,cap,cur,E,O,H,_⟩);(. subst E;cases G);. subst E;cases G;exact⟨_,H⟩
theorem ZC.put {B b:Nat}{r W w':World}{xs ys:List Nat}{G v':Value}(E:ZC B r b xs G)(H:r.grownBy W none)(I:W.grownBy w' G.ownBlock)(U:w'.ownsRow (b+1) 5 1 v' (xs.length+ys.length) (u8s xs++u8s ys)):w'.cell? ⟨b,0,none⟩=some G/\w'.frozen? ⟨b,0,none⟩=false/\ZUp B r b (xs++ys) (w'.setCell ⟨b,0,none⟩ v'):=by
 have ah:=E.lt;have ap:=H.size;have ao:=I.size;have aj:W.heap[b]? =some (.cells #[G] 101 (0,0)):=(H.block b ah oS).trans E.cell;have O:w'.heap[b]? =some (.cells #[G] 101 (0,0)):=(I.block b om (fun e=>by rcases E.apart with E|E;rw[E]at e;cases e;exact E e.symm)).trans aj;have M:=Ad w' b 0 v'
 have ag:v'.ownBlock=none\/v'.ownBlock≠some b:=by
  cases ae:v'.ownBlock with
  |none=>exact .inl rfl
  |some g=>refine .inr (fun e=> ?_);have:=(U.lt g ae).1;cases e;omega
 have T:=E.base;refine⟨Ac O,frozen_of_row w' b 0 _ _ O,⟨v',T, ?_, ?_⟩, ?_, ?_⟩;rw[heap_setCell_same w' b 0 _ _ _ O];rfl;have:=U.kept M ag;rw[VE,u8s,WU];exact this;have Z:=(Below.refl B r).grown H om (fun g e=>by cases e);have b1:=Z.grown I om (fun g e=>by have:=(E.own.lt g e).1;omega);exact b1.grown M om (fun g e=>by cases e;exact T);intro g cs t fz af aa F;have ac:=(VK.1 F).1;have ai:W.heap[g]? =some (.cells cs t fz):=(H.block g ac oS).trans F;(have Y:some g≠G.ownBlock:=by intro e;obtain⟨al,hc⟩:=Oy E.own e.symm;rw[F]at hc;injection hc with hc;injection hc with _ hc2;exact af hc2);have e2:w'.heap[g]? =some (.cells cs t fz):=(I.block g om Y).trans ai;(have ak:g≠b:=by intro e;rw[e,E.cell]at F;injection F with F;injection F with _ h4;exact aa h4.symm);exact(M.block g om (fun e=>ak (VM e))).trans e2
def PkIn (w:World)(a:Option Addr)(c:Nat)(ys:List Nat):Prop:=BytesIn w a ys/\(a=none->c=0)
theorem PkIn.below {w w':World}{a:Option Addr}{c:Nat}{ys:List Nat}(E:PkIn w a c ys)(F:Below w.heap.size w w'):PkIn w' a c ys:=by refine⟨?_,E.2⟩;rcases E.1 with E|⟨b,o,e,hb,hc⟩;exact .inl E;exact .inr ⟨b,o,e,VG hb F.size,fun j G=>(World.cell?_of_block (w:=w) (a:=⟨b,_,none⟩) (F.block b hb)).trans (hc j G)⟩
theorem CN:(Tryz.prog.info? 5).map (fun i=>(i.zero,i.size,i.bytes))=some (some (.int .u8 0),1,1):=oR
theorem Ll (w:World)(T:TypeId)(F:Nat)(v:Value)(xs ys:List Nat)(H:w.ownsRow F 5 1 v xs.length (u8s xs))(E:Option Addr)(m c:Nat)(ae:ys.length=m)(I:PkIn w E c ys)(al:xs.length+m<=140737488355328)(Z:F<=w.heap.size):∃v' w',(Builtin.append_ #[23,23] T #[v,.slice E m c]).run Tryz.prog w=.ok v' w'/\w'.ownsRow F 5 1 v' (xs.length+ys.length) (u8s xs++u8s ys)/\w.grownBy w' v.ownBlock:=by
 obtain⟨Y,hi,af,ai,aj⟩:=info_parts CN;subst ae
 cases E with
 |none=>have hc:c=0:=I.2 rfl;subst hc;(have ag:ys= []:=by rcases I.1 with h|⟨b,o,e,_⟩;exact h;. cases e);subst ag;have hr:=run_append_owned_none (P:=Tryz.prog) (w:=w) F 23 T 5 Y 1 Tryz.underlying23 hi v xs.length (u8s xs) H;exact⟨v,w,hr,by simpa using H,Aw _ _⟩
 |some E=>
  obtain⟨v',w',ah,aa,ac,_⟩:=run_append_own_at (P:=Tryz.prog) w F 23 T 5 Y (.int .u8 0) 1 1 Tryz.underlying23 hi af ai aj rfl od v xs.length (u8s xs) H E ys.length c (u8s ys) oS (by
   intro j u M
   have G:j<ys.length:=by
    have:=(XT.1 M).1
    simpa using this
   rcases I.1 with h|⟨b,o,e,_,ak⟩
   . subst h;simp at G
   . cases e
     have O:u=.int .u8 ((ys.getD j 0:Nat):Int):=by
      simp[u8s,G]at M
      simp[List.getD,G,M]
     rw[O]
     have:=ak j G
     by_cases U:j=0
     . subst U;simpa[Addr.add]using this
     . simpa[Addr.add,U]using this) (by
   intro u O
   obtain⟨x,_,rfl⟩:=XG.1 O
   rfl) ou om Z
  exact⟨v',w',ah,aa,ac⟩
theorem LM {T:Array Oper}{o:Oper}{a:Act}{W:World}{K:Act->World->Prop}{Q:Exit->Act->World->Prop}{Z:Prop}(ag:o.guard=none)(s x:Operand) (Y:o.op=.call {callee:=.builtin .append,args:= #[s,x],argTypes:= #[23,23]}) (r:World) (B b:Nat) (xs ys:List Nat) (E:Value) (ai:a.eval s=E) (M:ZC B r b xs E) (H:r.grownBy W none) (I:Option Addr) (m c:Nat) (aj:a.eval x=.slice I m c) (af:ys.length=m) (aa:PkIn W I c ys) (ao:xs.length+m<=1000000) (h:∀F U G w',w'.cell? ⟨b,0,none⟩=some E->w'.frozen? ⟨b,0,none⟩=false->Hid (ZUp B r b (xs++ys) (w'.setCell ⟨b,0,none⟩ (.slice F U G)))->K (a.put o.dst (.slice F U G)) w'):if Region.wanted o (yielded T a.tmps)=true then Oper.wp Tryz.prog o a W K Q else Z:=by(have ac:Region.wanted o (yielded T a.tmps)=true:=by simp[Region.wanted,ag]);rw[if_pos ac];have al:=M.lt;have ak:=H.size;obtain⟨v',w',hr,O,ae⟩:=Ll W o.type (b+1) E xs ys (Hv M.own H) I m c af aa om om;obtain⟨c1,c2,ah⟩:=M.put H ae O;obtain⟨F,G,rfl⟩:=An O;unfold Oper.wp execOp;simp only[Y,resolve,invoke,builtin,Sem.run_bind,Sem.run_pure,Result.andThen_ok,ZL,WQ,ZE,ai,aj,hr];exact h F _ G w' c1 c2 (Ab ah)
theorem ET (l:List UInt8):Lib.strCells (B l)=u8s (n8 l):=by simp[Lib.strCells,B,u8s,n8,ZA]
theorem LL {U:Array Oper}{o:Oper}{a:Act}{W:World}{K:Act->World->Prop}{Q:Exit->Act->World->Prop}{E:Prop}(ah:o.guard=none)(s x:Operand) (aa:o.op=.call {callee:=.builtin .append,args:= #[s,x],argTypes:= #[23,9]}) (r:World) (Y b:Nat) (xs:List Nat) (l:List UInt8) (F:Value) (al:a.eval s=F) (T:ZC Y r b xs F) (I:r.grownBy W none) (ao:a.eval x=.string (B l)) (au:xs.length+l.length<=1000000) (h:∀G Z H w',w'.cell? ⟨b,0,none⟩=some F->w'.frozen? ⟨b,0,none⟩=false->Hid (ZUp Y r b (xs++n8 l) (w'.setCell ⟨b,0,none⟩ (.slice G Z H)))->K (a.put o.dst (.slice G Z H)) w'):if Region.wanted o (yielded U a.tmps)=true then Oper.wp Tryz.prog o a W K Q else E:=by(have af:Region.wanted o (yielded U a.tmps)=true:=by simp[Region.wanted,ah]);rw[if_pos af];have ar:=T.lt;have ap:=I.size;obtain⟨ak,hi,ai,ac,ae⟩:=info_parts CN;(have O:(B l).size=l.length:=by simp[B,ByteArray.size]);obtain⟨v',w',hr,M,ag,_⟩:=Lib.run_append_own_string (P:=Tryz.prog) W (b+1) 23 9 o.type 5 ak Tryz.underlying23 Tryz.underlying9 hi ai ac ae F xs.length (u8s xs) (Hv T.own I) (B l) (by rw[O];unfold maxLen;omega) (by rw[O];omega) om;rw[O,ET,<-Da]at M;obtain⟨c1,c2,aj⟩:=T.put I ag M;obtain⟨G,H,rfl⟩:=An M;unfold Oper.wp execOp;simp only[aa,resolve,invoke,builtin,Sem.run_bind,Sem.run_pure,Result.andThen_ok,ZL,WQ,ZE,al,ao,hr];exact h G _ H w' c1 c2 (Ab aj)
theorem Ve {w:World}{B n:Nat}{v:Value}{ys:List Nat}(F:w.ownsRow B 5 1 v n (u8s ys)):∃a c,v=.slice a n c/\PkIn w a c ys/\n<=c/\ys.length=n/\∀g o,a=some ⟨g,o,none⟩->B<=g:=by(have hl:ys.length=n:=by have:=F.1;simpa using this);obtain⟨_,a,c,M,H⟩:=BytesIn.ofOwn F;subst M;(rcases F.2 with ⟨E,G⟩|⟨g,cap,cur,E,G,O,I,_⟩);(. cases E;exact⟨none,0,rfl,⟨H,fun _=>rfl⟩,om,hl,fun g o e=>by cases e⟩);. cases E;exact⟨_,_,rfl,⟨H,fun e=>by cases e⟩,I,hl,fun T o e=>by cases e;exact G⟩
theorem Z3q (a:Option Addr)(p n E:Nat)(Z:p<=n)(Y:n<=E)(T:a=none->E=0):∃F,(∀W:World,(Instr.slice 23 (.slice a n E) (some (.int .i64 (p:Int))) none none).run Tryz.prog W=.ok (.slice F (n-p) (E-p)) W)/\(∀b o,a=some ⟨b,o,none⟩->p<n->F=some ⟨b,o+p,none⟩)/\(F=none->E-p=0):=by
 have I:=Tryz.sizeOf5;have G:=Tryz.underlying23;have M:(p:Int)<=(n:Int):=om
 cases a with
 |none=>have:=T rfl;subst this;obtain rfl:n=0:=om;obtain rfl:p=0:=om;exact⟨none,fun W=>by simp[go_sem,G],fun b o e=>(by cases e),fun _=>rfl⟩
 |some ad=>by_cases H:E=p;subst H;obtain rfl:n=E:=om;refine⟨some ad,fun W=> ?_,fun b o e O=>om,fun e=>by cases e⟩;simp[go_sem,G,I];. have U:(p:Int)<(E:Int):=om;refine⟨some (ad.add p),fun W=> ?_,fun b o e O=> ?_,fun e=>by cases e⟩;(. simp[go_sem,G,I,M,H];try omega);. cases e;unfold Addr.add;split<;>simp_all
def PIn (w:World)(v:Value)(bs:List Nat):Prop:=∃a c,v=.slice a bs.length c/\bs.length<=c/\PkIn w a c bs
theorem PIn.below {w w':World}{v:Value}{bs:List Nat}(I:PIn w v bs)(H:Below w.heap.size w w'):PIn w' v bs:=by obtain⟨a,c,G,E,F⟩:=I;exact⟨a,c,G,E,F.below H⟩
theorem PIn.nil (w:World):PIn w (.slice none 0 0) []:=⟨none,0,rfl,VB _,.inl rfl,fun _=>rfl⟩
theorem AN (n:Nat):(Builtin.zeroCells (Value.int .u8 0).cells n).toList=u8s (List.replicate n 0):=by show (Builtin.zeroCells #[Value.int .u8 0] n).toList=_;unfold Builtin.zeroCells;apply List.ext_getElem?;intro i;by_cases h:i<n;simp[h,Nat.mod_one];simp[h]
theorem Oj (w:World)(ac:TypeId)(n:Nat)(ae:0<n)(af:n<=281474976710656):∃c w',(Builtin.append_ #[23,3] ac #[.slice none 0 0,.int .i64 (n:Int)]).run Tryz.prog w=.ok (.slice (some ⟨w.heap.size,0,none⟩) n c) w'/\n<=c/\c<=maxLen/\w'.heap[w.heap.size]? =some (.cells (u8s (List.replicate c 0)).toArray 5 (0,0))/\w.grownBy w' none:=by obtain⟨ag,hi,H,U,Y⟩:=info_parts Gz;have M:=grownCap_ge w n 0 5;have F:=grownCap_le_maxLen w n 0 5 ou;have Z:n≠0:=om;have E:¬(9223372036854775807<(n:Int)):=om;have G:¬((n:Int)<0):=om;have O:¬(281474976710656<(n:Int)):=om;(have T:¬(281474976710656<Builtin.nextslicecap n 0):=by rw[nextslicecap_zero ae];omega);(have aa:IntKind.i64.wrap (n:Int)=(n:Int):=by simp[IntKind.wrap,IntKind.signed,IntKind.bits];omega);refine⟨grownCap w n 0 5,w.drew.alloc (.cells (Builtin.zeroCells (Value.int .u8 0).cells n++Builtin.zeroCells (Value.int .u8 0).cells (grownCap w n 0 5-n)) 5), ?_,M,F, ?_, ?_⟩;simp[Builtin.append_,run_underlying Tryz.underlying23,run_underlying Tryz.underlying3,sizeOf,typeInfo,zeroValue,hi,H,U,Y,asInt,asIntOf,aa,G,O,Z,E,T,Question.forced,run_firstCells_none,newRow,grownCap];have:=heap_alloc_new w.drew (.cells (Builtin.zeroCells (Value.int .u8 0).cells n++Builtin.zeroCells (Value.int .u8 0).cells (grownCap w n 0 5-n)) 5);rw[show w.drew.heap.size=w.heap.size from rfl]at this;rw[this];congr 2;apply Array.ext';rw[Array.toList_append,AN,AN];show _=u8s (List.replicate (grownCap w n 0 5) 0);unfold u8s;rw[<-WU,List.replicate_append_replicate];congr 2;omega;exact⟨rfl,rfl,rfl,oS,fun k I _=>Below.heap_alloc w.drew _ k I⟩
theorem Kh (w:World){E:Array Oper}{F:List Oper}{o:Oper}{a:Act}{Q:Exit->Act->World->Prop}(H:o.guard=none)(s x:Operand) (O:o.op=.call {callee:=.builtin .append,args:= #[s,x],argTypes:= #[23,3]}) (n:Nat) (U:a.eval s=.slice none 0 0) (Z:a.eval x=.int .i64 (n:Int)) (aa:0<n) (T:n<=281474976710656) (h:∀c w',n<=c->c<=maxLen->w'.heap[w.heap.size]? =some (.cells (u8s (List.replicate c 0)).toArray 5 (0,0))->w.grownBy w' none->wpList Tryz.prog E Q F (a.put o.dst (.slice (some ⟨w.heap.size,0,none⟩) n c)) w'):wpList Tryz.prog E Q (o::F) a w:=by refine wpList_plain H fun K hK=> ?_;obtain⟨c,w',hr,M,G,I,Y⟩:=Oj w o.type n aa T;unfold Oper.wp execOp;simp only[O,resolve,invoke,builtin,Sem.run_bind,Sem.run_pure,Result.andThen_ok,ZL,WQ,ZE,U,Z,hr];exact hK _ _ (h c w' M G I Y)
theorem OY (n:Nat)(w:World)(U:0<n)(I:n<=281474976710656):Calls Tryz.prog 47 #[.slice none 0 0,.int .i64 (n:Int)] w fun e w'=>∃c,n<=c/\e=.returned (.slice (some ⟨w.heap.size,0,none⟩) 0 c)/\w'.ownsRow w.heap.size 5 1 (.slice (some ⟨w.heap.size,0,none⟩) 0 c) 0 (u8s [])/\Below w.heap.size w w':=by go_enter Tryz.func47,Tryz.ntmps47;go_wp2_with (refine Kh w rfl (.tmp 20) (.tmp 21) rfl n rfl rfl U I ?_);intro c T H M E F;have G:=Ab (Hq (Below.refl w.heap.size w) F (VB _));have O:Hid (T.ownsRow w.heap.size 5 1 (.slice (some ⟨w.heap.size,0,none⟩) 0 c) 0 (u8s [])):=⟨rfl,.inr ⟨w.heap.size,c,_,rfl,VB _,E,VH _,M,oS,rfl⟩⟩;clear E F;go_wp2;go_ret;exact⟨c,H,rfl,Aa O,Aa G⟩
theorem Xf (w:World)(M:TypeId)(E x:Option Addr)(n G c:Nat)(O:n<=G):(Builtin.append_ #[23,23] M #[.slice E n G,.slice x 0 c]).run Tryz.prog w=.ok (.slice E n G) w:=by
 obtain⟨F,hi,T,H,U⟩:=info_parts Gz
 have I:(Builtin.firstCells F.size 0 (.slice x 0 c)).run Tryz.prog w=.ok #[] w:=by
  cases x with
  |none=>exact run_firstCells_none w F.size 0 0 c
  |some b=>exact run_firstCells_some w F.size 0 b 0 c [] oS oS
 rw[H]at I;cases E<;>simp[Builtin.append_,run_underlying Tryz.underlying23,sizeOf,typeInfo,hi,H,Builtin.lenOf,I,O,storeCells]
theorem Ii (w:World){G:Array Oper}{H:List Oper}{o:Oper}{a:Act}{Q:Exit->Act->World->Prop}(I:o.guard=none)(s x:Operand) (O:o.op=.call {callee:=.builtin .append,args:= #[s,x],argTypes:= #[23,23]}) (F y:Option Addr) (n E c:Nat) (T:a.eval s=.slice F n E) (U:a.eval x=.slice y 0 c) (M:n<=E) (Y:wpList Tryz.prog G Q H (a.put o.dst (.slice F n E)) w):wpList Tryz.prog G Q (o::H) a w:=by refine wpList_plain I fun K hK=> ?_;unfold Oper.wp execOp;simp only[O,resolve,invoke,builtin,Sem.run_bind,Sem.run_pure,Result.andThen_ok,ZL,WQ,ZE,T,U,Xf w o.type F y n E c M];exact hK _ _ Y
theorem OX (w:World):Calls Tryz.prog 47 #[.slice none 0 0,.int .i64 0] w fun e w'=>e=.returned (.slice none 0 0)/\w'=w:=by go_enter Tryz.func47,Tryz.ntmps47;go_wp2;go_ret;trivial
def Iu (ps:List (Option Addr×Nat×List Nat)):Nat->List Nat
 |0=> []
 |k+1=>Iu ps k++(ps.getD k (none,0,[])).2.2
theorem Z5g (E:List (Option Addr×Nat×List Nat)){j k:Nat}(F:j<=k):(Iu E j).length<=(Iu E k).length:=by
 induction k with
 |zero=>rw[show j=0 by omega];exact VB _
 |succ k ih=>by_cases e:j=k+1;rw[e];exact VB _;have:=ih om;rw[Iu,VE];omega
theorem AD {w:World}{b o:Nat}{xs:List Nat}(G:Bytes w b o xs):∀j u,(u8s xs)[j]? =some u->w.cell? ((⟨b,o,none⟩:Addr).add j)=some u:=by intro j u E;(have e:(⟨b,o,none⟩:Addr).add j=⟨b,o+j,none⟩:=by unfold Addr.add;split<;>simp_all);(have F:j<xs.length:=by by_cases c:j<xs.length;exact c;. rw[WJ (by simp[u8s];omega)]at E;cases E);have:=G j F;rw[e,this];simp[u8s,F]at E;subst E;simp[List.getD,F]
theorem Z3b (xs:List Nat):∀u∈u8s xs,u.oneCell'=true:=by intro u E;obtain⟨x,_,rfl⟩:=XG.1 E;rfl
theorem IY (b o F bc:Nat)(E:List (Option Addr×Nat×List Nat))(w:World)(a8:b<w.heap.size)(al:∀j,j<F->w.cell? ⟨b,o+j,none⟩=some (.slice (E.getD j (none,0,[])).1 (E.getD j (none,0,[])).2.2.length (E.getD j (none,0,[])).2.1)) (aw:∀j,j<F->BytesIn w (E.getD j (none,0,[])).1 (E.getD j (none,0,[])).2.2) (ap:(Iu E F).length<=281474976710656) (bn:F<=100):Calls Tryz.prog 29 #[.slice (some ⟨b,o,none⟩) F bc] w fun e w'=>∃a c,(Iu E F).length<=c/\e=.returned (.slice a (Iu E F).length c)/\BytesIn w' a (Iu E F)/\Below w.heap.size w w'/\(a=none->c=0):=by obtain⟨bh,hi,bk,ba,bm⟩:=info_parts Gz;have ag:=Ab al;have a4:=Ab aw;obtain⟨T,ac⟩:=exq ((Iu E F).length);rw[ac]at ap;have I:=Ab ac;have af:Hid (∀k,k<=F->(Iu E k).length<=T):=Ab (fun k az=>by rw[<-ac];exact Z5g E az);clear al aw ac;go_enter Tryz.func29,Tryz.ntmps29;go_wp2;go_loop [3,11] (fun a3 ai=>∃k:Nat,k<=F/\ai=.int .i64 (k:Int)/\a3=.int .i64 ((Iu E k).length:Int)) (fun _ ai=>F-(intOf ai).toNat);(case atStart=>exact⟨0,VH _,rfl,rfl⟩);case round=>obtain⟨k,az,rfl,rfl⟩:=hrel;by_cases bf:k<F;(. have c1:=Aa ag k bf;have G:=Aa af (k+1) om;have H:Hid ((Iu E (k+1)).length=(Iu E k).length+(E.getD k (none,0,[])).2.2.length):=Ab (by rw[Iu,VE]);rw[Aa H]at G;generalize (E.getD k (none,0,[])).2.2.length=m at*;generalize (E.getD k (none,0,[])).2.1=Y at*;generalize (E.getD k (none,0,[])).1=g at*;generalize (Iu E k).length=L at*;go_wp2;go_round;(case rel=>exact⟨k+1,om,by go_num,by rw[Aa H];go_num⟩);case measure=>simp[intOf];omega);. obtain rfl:F=k:=om;rw[Aa I];by_cases a7:T=0;(. subst a7;go_wp2_with fail;refine(OX w).mono ?_;rintro e a9 ⟨rfl,rfl⟩;go_wp2;go_loop [6,27] (fun aj M=>∃k:Nat,k<=F/\M=.int .i64 (k:Int)/\aj=.slice none 0 0) (fun _ M=>F-(intOf M).toNat);(case atStart=>exact⟨0,VH _,rfl,rfl⟩);case round=>obtain⟨k,bb,rfl,rfl⟩:=hrel;by_cases aa:k<F;(. have c1:=Aa ag k aa;have G:=Aa af (k+1) om;rw[Iu,VE]at G;have ay:(E.getD k (none,0,[])).2.2.length=0:=om;rw[ay]at c1;generalize (E.getD k (none,0,[])).2.1=Y at*;generalize (E.getD k (none,0,[])).1=g at*;clear G ay;go_wp2_with (at_builtin;refine Ii _ rfl (.tmp 31) (.tmp 32) rfl none g 0 0 Y rfl rfl (VB _) ?_);go_round;(case rel=>exact⟨k+1,om,by go_num,rfl⟩);case measure=>simp[intOf];omega);. obtain rfl:F=k:=om;go_wp2;go_ret;exact⟨none,0,by rw[Aa I];exact VB _,by rw[Aa I];rfl,.inl (ZH.1 (Aa I)),Below.refl _ _,fun _=>rfl⟩);. go_wp2_with fail;refine(OY T w om ap).mono ?_;rintro e a9 ⟨c,a5,rfl,ax,ak⟩;have bi:=Ab ax;have a6:=Ab ak;clear ax ak;go_wp2;go_loopw [6,27] (fun aj M wr=>∃k:Nat,k<=F/\M=.int .i64 (k:Int)/\aj=.slice (some ⟨w.heap.size,0,none⟩) (Iu E k).length c/\Hid (wr.ownsRow w.heap.size 5 1 (.slice (some ⟨w.heap.size,0,none⟩) (Iu E k).length c) (Iu E k).length (u8s (Iu E k)))/\Hid (Below w.heap.size w wr)) (fun _ M _=>F-(intOf M).toNat);(case atStart=>exact⟨0,VH _,rfl,rfl,bi,a6⟩);case round=>obtain⟨k,bb,rfl,rfl,Z,O⟩:=hrel;by_cases aa:k<F;(. have c1:=((Aa O).cell (p:=⟨b,o+k,none⟩) a8).trans (Aa ag k aa);have ae:=(Aa a4 k aa).below (Aa O) (VB _);have G:=Aa af (k+1) om;have H:Hid (Iu E (k+1)=Iu E k++(E.getD k (none,0,[])).2.2):=Ab rfl;rw[Aa H,VE]at G;generalize (E.getD k (none,0,[])).2.2=xs at*;generalize (E.getD k (none,0,[])).1=g at*;generalize (E.getD k (none,0,[])).2.1=Y at*;rcases ae with rfl|⟨gb,go,rfl,bo,ae⟩;(. have au:Hid (Iu E (k+1)=Iu E k):=Ab (by rw[Aa H,XA]);simp only[WE]at c1 G;generalize U:(Iu E k).length=L at*;clear H;go_wp2_with (at_builtin;refine Ii _ rfl (.tmp 31) (.tmp 32) rfl _ g L c Y rfl rfl om ?_);go_roundw;(case rel=>exact⟨k+1,om,by go_num,by rw[Aa au,U],Ab (by rw[Aa au,U];exact Aa Z),O⟩);case measure=>simp[intOf];omega);. have ao:=Ab (AD ae);obtain⟨m,hm⟩:=exq (xs.length);obtain⟨L,U⟩:=exq ((Iu E k).length);rw[hm]at c1 G;rw[U]at G Z ⊢;have ah:=Ab hm;have av:=Ab U;clear ae hm U;go_wp2_with (at_builtin;refine wpList_append_own_spare _ rfl (.tmp 31) (.tmp 32) 23 rfl w.heap.size 5 bh 1 Tryz.underlying23 hi ba w.heap.size L c (u8s (Iu E k)) rfl (Aa Z) ⟨gb,go,none⟩ m Y (u8s xs) rfl (by simp[u8s,Aa ah]) (Aa ao) (Z3b xs) om ?_);intro a1 ar a2;(have bg:Hid (a1.ownsRow w.heap.size 5 1 (.slice (some ⟨w.heap.size,0,none⟩) (Iu E (k+1)).length c) (Iu E (k+1)).length (u8s (Iu E (k+1)))):=by rw[Aa H,VE,Aa av,Aa ah];show a1.ownsRow w.heap.size 5 1 _ (L+m) (List.map _ (Iu E k++xs));rw[WU];exact ar);have bj:=Ab ((Aa O).grown a2 (Aa O).size (fun g e=>by cases e;exact VB _));have bd:Hid ((Iu E (k+1)).length=L+m):=Ab (by rw[Aa H,VE,Aa av,Aa ah]);clear ar a2 c1 ao;go_wp2;go_roundw;(case rel=>exact⟨k+1,om,by go_num,by rw[Aa bd],bg,bj⟩);case measure=>simp[intOf];omega);. obtain rfl:F=k:=om;rw[Aa I]at Z ⊢;go_wp2;go_ret;exact⟨_,c,by rw[Aa I];exact a5,by rw[Aa I];rfl,BytesIn.own (Aa Z),Aa O,fun e=>by cases e⟩
theorem Ar (n E:Nat)(w:World)(I:n<=9223372036854775807)(M:E<=100):Calls Tryz.prog 62 #[.int .i64 (n:Int),.int .i64 (E:Int)] w fun e w'=>∃a l c,e=.returned (.slice a l c)/\PIn w' (.slice a l c) (Ag n E)/\Below w.heap.size w w':=by refine(Z4q n E w I M).mono ?_;rintro e w' ⟨v,rfl,H,G⟩;obtain⟨a,c,rfl,k1,k2,F,_⟩:=Ve H;exact⟨a,E,c,rfl,⟨a,c,by rw[F],by rw[F];exact k2,k1⟩,G⟩
inductive PIns (w:World):List Value->List (List Nat)->Prop
 |nil:PIns w [] []
 |cons {v:Value} {b:List Nat} {vs:List Value} {bs:List (List Nat)}:PIn w v b->PIns w vs bs->PIns w (v::vs) (b::bs)
theorem PIns.rows {w:World}{F:List Value}{bs:List (List Nat)}(I:PIns w F bs):∃ps:List (Option Addr×Nat×List Nat),F=ps.map (fun p=>.slice p.1 p.2.2.length p.2.1)/\bs=ps.map (fun p=>p.2.2)/\∀p∈ps,BytesIn w p.1 p.2.2:=by
 induction I with
 |nil=>exact⟨[],rfl,rfl,fun p E=>by cases E⟩
 |cons h1 _ ih=>obtain⟨a,c,rfl,_,G⟩:=h1;obtain⟨ps,rfl,rfl,H⟩:=ih;refine⟨(a,c,_)::ps,rfl,rfl,fun p E=> ?_⟩;rcases WH.1 E with rfl|E;exact G.1;exact H p E
theorem O2:∀(E:List (Option Addr×Nat×List Nat)) (k:Nat),k<=E.length->Iu E k=((E.take k).map (fun p=>p.2.2)).flatten
 |E,0,_=>by simp[Iu]
 |E,k+1,h=>by rw[Iu,O2 E k om,XM,WU,List.flatten_append];simp[List.getD,VP (show k<E.length by omega)]
theorem Cz (w:World)(E:List Value)(bs:List (List Nat))(H:Array Value)(t:TypeId)(n I:Nat)(h:PIns w E bs)(T:H=E.toArray)(aa:E.length=n)(U:n<=100)(Y:bs.flatten.length<=281474976710656):Calls Tryz.prog 29 #[.slice (some ⟨w.heap.size,0,none⟩) n I] (w.alloc (.cells H t)) fun e w'=>∃a l c,e=.returned (.slice a l c)/\PIn w' (.slice a l c) bs.flatten/\Below w.heap.size w w':=by obtain⟨ps,rfl,rfl,Z⟩:=h.rows;(have ae:ps.length=n:=by simpa using aa);subst ae;(have e:Iu ps ps.length=(ps.map (fun p=>p.2.2)).flatten:=by rw[O2 ps _ (VB _),VV (VB _)]);refine(IY w.heap.size 0 ps.length I ps _ oS (fun j F=> ?_) (fun j F=> ?_) (by rw[e];exact Y) U).mono ?_;rw[WG,cell_of_row _ _ _ _ _ _ (heap_alloc_new w _),T];simp[List.getD,F];(have hm:ps.getD j (none,0,[])∈ps:=by simp[List.getD,F]);exact(Z _ hm).alloc _;rintro af w' ⟨a,c,G,rfl,M,O,ac⟩;rw[e]at G M ⊢;exact⟨a,_,c,rfl,⟨a,c,rfl,G,M,ac⟩,((Below.refl w.heap.size w).alloc (VB _) _).trans (O.mono oS)⟩
theorem Z42 (k:Nat):256^k=2^(8*k):=by rw[Nat.pow_mul]
theorem ZC.new {B b:Nat}{w:World}{xs:List Nat}{F:Value}(E:ZC B w b xs F):w.cell? ⟨b,0,none⟩=some F/\w.frozen? ⟨b,0,none⟩=false:=⟨Ac E.cell,frozen_of_row w b 0 _ _ E.cell⟩
theorem Z6c {W:World}{F y:Nat}(E:W.cell? ⟨F,0,none⟩=some (.int .u8 (y:Int))):PkIn W (some ⟨F,0,none⟩) 1 [y]:=by
 refine⟨.inr ⟨F,0,rfl, ?_, ?_⟩,fun e=>by cases e⟩
 . simp only[World.cell?]at E
   cases hb:W.heap[F]? with
   |none=>rw[hb]at E;cases E
   |some o=>exact(VK.1 hb).1
 intro j G;(obtain rfl:j=0:=by simpa using G);simpa using E
theorem Z3r (n k:Nat)(I:k<=10)(H:n<4294967296)(W:World):(Op.shift .shr .u32 (n:Int) .i64 (IntKind.i64.wrap (8*(k:Int)))).run Tryz.prog W=.ok (.int .u32 ((n/256^k:Nat):Int)) W:=by(have e:IntKind.i64.wrap (8*(k:Int))=((8*k:Nat):Int):=by simp[IntKind.wrap,IntKind.bits,IntKind.signed];omega);rw[e,Z42];have M:n/2^(8*k)<=n:=YO _ _;(have F:(n:Int).fdiv (2^min (8*k) 32)=((n/2^(8*k):Nat):Int):=by rw[Int.fdiv_eq_ediv_of_nonneg _ (by exact_mod_cast VH _)];by_cases E:8*k<=32;rw[YP E];push_cast;rfl;rw[YG om];have G:n/2^(8*k)=0:=Nat.div_eq_of_lt (VG H (show (4294967296:Nat)<=2^(8*k) from VO (n:=2) (i:=32) (j:=8*k) od om));rw[G];omega);unfold Op.shift;rw[if_neg om,WM];show Result.ok (Value.int .u32 ((n:Int).fdiv (2^min (8*k) 32))) W=_;rw[F]
theorem Bb (B b E n:Nat)(xs:List Nat)(w:World)(h:∃ov,ZC B w b xs ov)(au:E<=10)(ah:n<4294967296)(aw:xs.length<=900000):Calls Tryz.prog 77 #[.pointer (some ⟨b,0,none⟩),.int .i64 (E:Int),.int .u32 (n:Int)] w fun e w'=>e=.returned (.tuple #[])/\ZUp B w b (xs++Ag n E) w':=by
 obtain⟨al,T⟩:=h;have H:=Ab T;clear T;go_enter Tryz.func77,Tryz.ntmps77;go_wp2;go_loopw [8] (fun i wr=>∃k:Nat,k<=E/\i=.int .i64 (k:Int)/\Hid (ZUp B w b (xs++Ag n k) wr)) (fun i _=>E-(intOf i).toNat);case atStart=>exact⟨0,VH _,rfl,Ab (by simpa[Ag]using ZUp.refl (Aa H))⟩
 case round=>
  obtain⟨k,ap,rfl,I⟩:=hrel;by_cases ar:k<E
  . obtain⟨ov,G⟩:=(Aa I).is;have F:=Ri k n;have Y:=Ai k n;obtain⟨c0,f0⟩:=G.new;have aa:=Z3r n k om ah;obtain⟨z,U⟩:=exq (n/256^k);rw[U]at F aa;obtain⟨y,M⟩:=exq (z%256);rw[M]at F;(have ao:IntKind.u8.wrap (z:Int)=(y:Int):=by simp[IntKind.wrap,IntKind.bits,IntKind.signed];omega);have av:∀o:Obj,(wr.alloc o).cell? ⟨b,0,none⟩=some ov:=fun o=>(World.cell?_alloc_lt wr o _ G.lt).trans c0;have aj:=Ab F;(have O:(xs++Ag n k).length+1<=1000000:=by rw[VE,Y];omega);have ac:=Ab O;have ag:=Ab G;clear G F Y O M U;go_wp2;go_region_law (refine LM rfl (.tmp 15) (.tmp 21) rfl wr B b _ [y] _ rfl (Aa ag) (by repeat (first|with_reducible exact Aw _ _|with_reducible refine Cb ?_|with_reducible refine ga ?_ _)) _ 1 1 rfl rfl (Z6c (by repeat (first|with_reducible refine QY ?_|with_reducible exact Jo oS|with_reducible exact QX oS))) (Aa ac) ?_;intro ae ak ai w' c1 c2 Z)
    all_goals
     have af:Hid (ZUp B w b (xs++Ag n (k+1)) (w'.setCell ⟨b,0,none⟩ (.slice ae ak ai))):=Ab (by
      rw[Aa aj,<-VS]
      exact(Aa I).trans (Aa Z))
     clear c1 c2 Z
     go_wp2
     go_roundw
     case rel=>exact⟨k+1,om,by go_num,af⟩
     case measure=>simp[intOf];omega
  . obtain rfl:E=k:=om;go_wp2;go_end0;exact⟨rfl,Aa I⟩
theorem Hc (B b E:Nat)(xs:List Nat)(w:World)(G:∃ov,ZC B w b xs ov)(M:E<=10)(O:xs.length<=900000):Calls Tryz.prog 80 #[.pointer (some ⟨b,0,none⟩),.int .i64 (E:Int)] w fun e w'=>e=.returned (.tuple #[])/\ZUp B w b (xs++Ag 0 E) w':=by have H:=Ab (Bb B b E 0 xs w G M od O);clear G;go_enter Tryz.func80,Tryz.ntmps80;go_wp2_with fail;refine(Aa H).mono ?_;rintro e w' ⟨rfl,F⟩;have I:=Ab F;clear F;go_wp2;go_end0;exact⟨rfl,Aa I⟩
theorem Sy {w w':World}(E:Below w.heap.size w w'):w.grownBy w' none:=⟨E.os,E.tape,E.output,E.size,fun k F _=>E.block k F⟩
theorem MV {w w':World}{B e E n:Nat}{v:Value}{xs:List Value}(F:w.ownsRow B e E v n xs)(G:Below w.heap.size w w'):w'.ownsRow B e E v n xs:=
 F.kept (Sy G) (by cases H:v.ownBlock with
  |none=>exact .inl rfl
  |some k=>exact .inr oS)
def BsIn (w:World)(a:Option Addr)(c:Nat)(bs:List UInt8):Prop:=
 (a=none/\bs= []/\c=0)\/ (bs= []/\∃ad,a=some ad)\/∃b o,a=some ⟨b,o,none⟩/\b<w.heap.size/\bs.length<=c/\∀j,j<bs.length->w.cell? ⟨b,o+j,none⟩=some (.int .u8 (((bs.getD j 0).toNat:Nat):Int))
theorem BsIn.below {w w':World}{B:Nat}{a:Option Addr}{c:Nat}{bs:List UInt8}(E:BsIn w a c bs)(F:Below B w w')(T:w.heap.size<=B):BsIn w' a c bs:=by rcases E with E|E|⟨b,o,M,G,H,I⟩;exact .inl E;exact .inr (.inl E);refine .inr (.inr ?_);exact⟨b,o,M,VG G F.size,H,fun j O=>(F.cell (p:=⟨b,o+j,none⟩) oO).trans (I j O)⟩
abbrev Z4g (bs:List UInt8):List Int:=bs.map fun x:UInt8=>((x.toNat:Nat):Int)
theorem NF (bs:List UInt8)(j:Nat):(Z4g bs).getD j 0=(((bs.getD j 0).toNat:Nat):Int):=by unfold Z4g;by_cases h:j<bs.length;simp[List.getD,h];simp[List.getD,h]
theorem Z6k (bs:List UInt8):(Z4g bs).map (fun n=>UInt8.ofNat n.toNat)=bs:=by unfold Z4g;rw[ZU];(have:((fun n:Int=>UInt8.ofNat n.toNat) ∘ fun x:UInt8=>((x.toNat:Nat):Int))=id:=by funext x;simp);rw[this,List.map_id]
theorem R7 (bs:List UInt8):strOfNums (Z4g bs)=B bs:=by unfold strOfNums B;rw[Z6k]
theorem Po {w:World}{a:Option Addr}{c:Nat}{bs:List UInt8}(F:BsIn w a c bs):(convert 23 9 (.slice a bs.length c)).run Tryz.prog w=.ok (.string (B bs)) w:=by(rcases F with ⟨rfl,rfl,rfl⟩|⟨rfl,ad,rfl⟩|⟨b,o,rfl,H,G,E⟩);exact run_convert_bytes_nil w _ _ Tryz.underlying23 Tryz.underlying5 0 0 _ Tryz.underlying9;show (convert 23 9 (.slice (some ad) 0 c)).run Tryz.prog w=.ok (.string (B [])) w;rw[run_convert_bytes_string w _ _ _ (some ad) 0 c Tryz.underlying23 Tryz.underlying5 Tryz.underlying9];exact(run_bytesToString (P:=Tryz.prog) w ad 0 c [] (by rfl)).trans rfl;have:=run_convert_bytes_arg (P:=Tryz.prog) w _ _ Tryz.underlying23 Tryz.underlying5 b o bs.length c (Z4g bs) (by simp[Z4g]) (fun i hi=>by rw[E i hi,NF]) _ Tryz.underlying9;rw[this,R7]
structure Fv where
 f:Fl
 a:Option Addr
 c:Nat
def Fv.sl (x:Fv):Value:=.slice x.a x.f.bytes.length x.c
def Fv.val (x:Fv):Value:=.agg #[.string (B x.f.name),x.sl,.int .i64 x.f.stamp,.int .i64 x.f.node,.bool x.f.gone]
def Fv.cells (x:Fv):List Value:= [.string (B x.f.name),x.sl,.int .i64 x.f.stamp,.int .i64 x.f.node,.bool x.f.gone]
structure FvIn (w:World)(x:Fv):Prop where
 bs:BsIn w x.a x.c x.f.bytes
 big:x.f.bytes.length<=140737488355328
 txt:x.f.name.length<=140737488355328
theorem FvIn.below {w w':World}{B:Nat}{x:Fv}(E:FvIn w x)(F:Below B w w')(G:w.heap.size<=B):FvIn w' x:=⟨E.bs.below F G,E.big,E.txt⟩
theorem FvIn.alloc {w:World}{x:Fv}(E:FvIn w x)(o:Obj):FvIn (w.alloc o) x:=E.below ((Below.refl w.heap.size w).alloc (VB _) o) (VB _)
def Fs (w:World)(b o:Nat)(xs:List Fv):Prop:=∀j x,xs[j]? =some x->w.cell? ⟨b,o+j*5,none⟩=some (.string (B x.f.name))/\w.cell? ⟨b,o+j*5+1,none⟩=some x.sl/\w.cell? ⟨b,o+j*5+2,none⟩=some (.int .i64 x.f.stamp)/\w.cell? ⟨b,o+j*5+3,none⟩=some (.int .i64 x.f.node)/\w.cell? ⟨b,o+j*5+4,none⟩=some (.bool x.f.gone)
structure FsIn (w:World)(ad:Option Addr)(c:Nat)(xs:List Fv):Prop where
 at_:xs= []\/∃b o,ad=some ⟨b,o,none⟩/\b<w.heap.size/\Fs w b o xs
 cap:xs.length<=c
 capm:c<=9223372036854775807
 lim:xs.length<=2199023255552
 all:∀x∈xs,FvIn w x
theorem FsIn.below {w w':World}{B:Nat}{I:Option Addr}{c:Nat}{xs:List Fv}(G:FsIn w I c xs)(E:Below B w w')(aa:w.heap.size<=B):FsIn w' I c xs:=by refine⟨?_,G.cap,G.capm,G.lim,fun x ac=>(G.all x ac).below E aa⟩;rcases G.at_ with H|⟨b,o,H,M,O⟩;exact .inl H;refine .inr ⟨b,o,H,VG M E.size, ?_⟩;intro j x Z;obtain⟨k1,k2,U,Y,T⟩:=O j x Z;have F:b<B:=om;exact⟨(E.cell (p:=⟨b,_,none⟩) F).trans k1,(E.cell (p:=⟨b,_,none⟩) F).trans k2,(E.cell (p:=⟨b,_,none⟩) F).trans U,(E.cell (p:=⟨b,_,none⟩) F).trans Y,(E.cell (p:=⟨b,_,none⟩) F).trans T⟩
theorem FsIn.nil (w:World):FsIn w none 0 []:=⟨.inl rfl,VB _,om,oS,fun x E=>by cases E⟩
theorem FsIn.get {w w':World}{G:Option Addr}{c k:Nat}{xs:List Fv}{x:Fv}(I:FsIn w G c xs)(Z:Below w.heap.size w w')(E:xs[k]? =some x):∃b o,G=some ⟨b,o,none⟩/\b<w.heap.size/\w'.cell? ⟨b,o+k*5,none⟩=some (.string (B x.f.name))/\w'.cell? ⟨b,o+k*5+1,none⟩=some x.sl/\w'.cell? ⟨b,o+k*5+2,none⟩=some (.int .i64 x.f.stamp)/\w'.cell? ⟨b,o+k*5+3,none⟩=some (.int .i64 x.f.node)/\w'.cell? ⟨b,o+k*5+4,none⟩=some (.bool x.f.gone):=by rcases(I.below Z (VB _)).at_ with rfl|⟨b,o,F,aa,M⟩;simp at E;. rcases I.at_ with rfl|⟨ae,ac,H,O,_⟩;simp at E;. rw[F]at H;cases H;obtain⟨k1,k2,U,Y,T⟩:=M k x E;exact⟨b,o,F,O,k1,k2,U,Y,T⟩
theorem Ob {xs:List Fv}{k:Nat}(E:k<xs.length):∃x,xs[k]? =some x/\x∈xs:=⟨xs[k],VP E,WK E⟩
abbrev fls (xs:List Fv):List Fl:=xs.map Fv.f
theorem Nw (x:Fv):x.val=.agg #[.string (B x.f.name),.slice x.a x.f.bytes.length x.c,.int .i64 x.f.stamp,.int .i64 x.f.node,.bool x.f.gone]:=rfl
theorem Fh (l:List UInt8):(B l).toList=l:=by rw[ByteArray.toList_eq];rfl
theorem Z1q {w:World}{a F:Option Addr}{c G:Nat}{x y:List UInt8}(H:BsIn w a c x)(E:BsIn w F G y):Calls Tryz.prog 13 #[.slice a x.length c,.slice F y.length G] w fun e w'=>e=.returned (.bool (decide (x=y)))/\w'=w:=by have I:=Po H;have e2:=Po E;(have e3:((B x).toList==(B y).toList)=decide (x=y):=by rw[Fh,Fh,XZ,beq_iff_eq,decide_eq_true_iff]);clear H E;generalize B x=s at*;generalize B y=t at*;go_enter Tryz.func13,Tryz.ntmps13;go_wp2;go_ret;exact⟨rfl,rfl⟩
end Go.Proofs.YtleocpdblhbimaaGreatDoor
