import Derived.Test.YtleocpdblhbimaaGreatDoorQ13
import Derived.Defers
import Derived.Recover
import Derived.Laws.Pointers
import Derived.Maps.AppendAt
import Derived.Laws.AppendOwnNone
import Derived.Deep.RegionHeld3
set_option linter.unusedSimpArgs false
set_option linter.unusedVariables false
set_option maxRecDepth 100000
set_option maxHeartbeats 4000000
namespace Go.Proofs.YtleocpdblhbimaaGreatDoor
open Go.RowKit
theorem SM (v:Value)(w:World):(Instr.typeAssert (.iface 165 v) 20 165 true).run Tryz.prog w=.ok (.tuple #[v,.bool true]) w:=by kernel_rfl
theorem SN (w:World):(Instr.typeAssert .nilIface 20 165 true).run Tryz.prog w=.ok (.tuple #[.agg #[],.bool false]) w:=by kernel_rfl
theorem Q5 (p:Addr)(y:Int)(E:List PanicEntry)(w:World)(T:w.cell? p=some (.int .i64 y))(F:w.frozen? p=false)(G:p.block<w.heap.size):
 CallsD Tryz.prog 99 #[.pointer (some p)] (.panicking ({v:=.iface 165 (.agg #[]),recovered:=false}::E)) w fun e O w'=>
  e=.returned (.tuple #[])/\O=.panicking ({v:=.iface 165 (.agg #[]),recovered:=true}::E)/\w'=(w.alloc (.cells #[] 165)).setCell p (.int .i64 7):=by
 refine callsD_of_wpS Tryz.func99 rfl fun U cs M=> ?_
 apply wpS_seq
 apply wpS_region
 simp[wpOpsS,go_sem,recoverD,M,Tryz.ntmps99,Exit.thenS]
 apply wpS_seq
 apply wpS_region
 simp[wpOpsS,go_sem,SM,Exit.thenS,Array.replicate]
 apply wpS_seq
 apply wpS_region
 simp[wpOpsS,go_sem,Exit.thenS]
 refine wpS_cond (t:=true) (by simp[Act.eval]) ?_;simp only[if_true];have H:=(World.cell?_alloc_lt w (.cells #[] 165) p G).trans T;have I:=(frozen?_alloc_cells w #[] 165 p).trans F;apply wpS_region
 simp[wpOpsS,go_sem,H,I,bodyPostS,results,Tryz.results99]
theorem Q6 (p:Addr)(w:World):
 CallsD Tryz.prog 99 #[.pointer (some p)] .returning w fun e G w'=>
  e=.returned (.tuple #[])/\G=.returning/\w'=w.alloc (.cells #[] 165):=by
 refine callsD_of_wpS Tryz.func99 rfl fun F cs E=> ?_
 apply wpS_seq
 apply wpS_region
 simp[wpOpsS,go_sem,recoverD,E,Tryz.ntmps99,Exit.thenS]
 apply wpS_seq
 apply wpS_region
 simp[wpOpsS,go_sem,SN,Exit.thenS,Array.replicate]
 apply wpS_seq
 apply wpS_region
 simp[wpOpsS,go_sem,Exit.thenS]
 refine wpS_cond (t:=false) (by simp[Act.eval]) ?_;simp only[Bool.false_eq_true,if_false];apply wpS_seq
 apply wpS_region
 simp[wpOpsS,go_sem,Exit.thenS]
 refine wpS_cond (t:=false) (by simp[Act.eval]) ?_;simp only[Bool.false_eq_true,if_false];refine wpS_of_wp (wp_skip ?_)
 cases F
 simp_all [bodyPostS,results,Tryz.results99]
theorem Q4 (F:Nat)(Z:Array Value)(Q:Bool->World->Prop)(w:World)(ai:∀(args:Array Value) (w:World),(callFunc F args).run Tryz.prog w=.ok (.enter F args) w)
 (ag:Calls Tryz.prog F Z (w.alloc (.cells #[.int .i64 0] 24)) fun e w'=>((Q true w'/\e=.returned (.tuple #[]))\/ (Q false w'/\e=Z31))/\w'.heap[w.heap.size]? =some (.cells #[.int .i64 0] 24 (0,0))):
 Calls Tryz.prog 63 #[.func (.func F) #[] Z] w fun e E=>∃t w',Q t w'/\e=.returned (.int .i64 (if t=true then 0 else 7))/\w'.heap.size<=E.heap.size/\(∀j,j<w'.heap.size->j≠w.heap.size->(E.heap[j]? =w'.heap[j]?))/\∀B,B<=w.heap.size->Below B w' E:=by
 have aj:∀(T:Fn) (first cap:Array Value) (w:World),(Instr.makeFunc T first cap).run Tryz.prog w=.ok (.func T first cap) w:=fun _ _ _ _=>rfl
 go_enter_defers Tryz.func63,Tryz.ntmps63
 go_wp2;refine ag.mono ?_;rintro e w' ⟨ah,hb⟩;have H:w.heap.size<w'.heap.size:=(VK.1 hb).1;have I:w'.cell? ⟨w.heap.size,0,none⟩=some (.int .i64 0):=by simp[World.cell?,hb]
 have aa:w'.frozen? ⟨w.heap.size,0,none⟩=false:=by simp[World.frozen?,hb]
 rcases ah with ⟨M,rfl⟩|⟨M,rfl⟩
 . go_wp2;refine leaves_cons (f:=99) (args:= #[.pointer (some ⟨w.heap.size,0,none⟩)]) (by simp) (by simp[go_sem]) ?_;refine(Q6 ⟨w.heap.size,0,none⟩ _).mono ?_;rintro e ae E ⟨rfl,rfl,rfl⟩;have c1:((w'.setCell ⟨w.heap.size,0,none⟩ (.int .i64 0)).alloc (.cells #[] 165)).cell? ⟨w.heap.size,0,none⟩=some (.int .i64 0):=(World.cell?_alloc_lt _ _ _ (by simpa using H)).trans (World.cell?_setCell_same _ _ _ I);simp[Leaves,settle,results,Tryz.results63,go_sem,c1]
   refine⟨w',M,by omega,fun j G hn=> ?_,fun B O=> ?_⟩
   rotate_left
   . have ac:=(Below.refl B w').grown (Ad w' w.heap.size 0 (.int .i64 0)) (by omega) (fun g e=>by cases e;exact O);exact ac.alloc (by simp;omega) _
   exact(Below.heap_alloc _ _ j (by simpa using G)).trans (Below.heap_setCell _ _ _ j hn)
 . go_wp2;refine leaves_cons (f:=99) (args:= #[.pointer (some ⟨w.heap.size,0,none⟩)]) (by simp) (by simp[go_sem]) ?_;refine(Q5 ⟨w.heap.size,0,none⟩ 0 [] _ I aa H).mono ?_;rintro e ae E ⟨rfl,rfl,rfl⟩;have c1:((w'.alloc (.cells #[] 165)).setCell ⟨w.heap.size,0,none⟩ (.int .i64 7)).cell? ⟨w.heap.size,0,none⟩=some (.int .i64 7):=World.cell?_setCell_same _ _ _ ((World.cell?_alloc_lt _ _ _ H).trans I);have U:∀j,j<w'.heap.size->¬j=w.heap.size->((w'.alloc (.cells #[] 165)).setCell ⟨w.heap.size,0,none⟩ (.int .i64 7)).heap[j]? =w'.heap[j]? :=fun j G hn=>(Below.heap_setCell _ _ _ j hn).trans (Below.heap_alloc _ _ j G)
   have af:((w'.alloc (.cells #[] 165)).setCell ⟨w.heap.size,0,none⟩ (.int .i64 7)).heap.size=w'.heap.size+1:=by simp
   have Y:∀B,B<=w.heap.size->Below B w' ((w'.alloc (.cells #[] 165)).setCell ⟨w.heap.size,0,none⟩ (.int .i64 7)):=fun B O=>
    ((Below.refl B w').alloc (by omega) _).grown (Ad _ w.heap.size 0 _) (by simp;omega) (fun g e=>by cases e;exact O)
   generalize (w'.alloc (.cells #[] 165)).setCell ⟨w.heap.size,0,none⟩ (.int .i64 7)=W at c1 U af Y ⊢;simp[Leaves,settle,results,Tryz.results63,go_sem,c1]
   exact⟨w',M,by omega,U,Y⟩
theorem PkIn.keepX {w w':World}{X c:Nat}{a:Option Addr}{ys:List Nat}(F:PkIn w a c ys)(O:w.heap.size<=w'.heap.size)(H:∀g,g<w.heap.size->g≠X->w'.heap[g]? =w.heap[g]?)(G:∀g o,a=some ⟨g,o,none⟩->ys≠ []->g≠X):PkIn w' a c ys:=by
 refine⟨?_,F.2⟩
 by_cases E:ys= []
 . exact .inl E
 . rcases F.1 with I|⟨b,o,e,hb,hc⟩
   . exact absurd I E
   . exact .inr ⟨b,o,e,by omega,fun j M=>(World.cell?_of_block (w:=w) (a:=⟨b,_,none⟩) (H b hb (G b o e E))).trans (hc j M)⟩
theorem ERow.keepX {w w':World}{B X:Nat}{v:Value}{xs:List Ev}(F:ERow w B v xs)(I:w.heap.size<=w'.heap.size)(G:∀g,g<w.heap.size->g≠X->w'.heap[g]? =w.heap[g]?)(T:some X≠v.ownBlock)(M:∀x∈xs,x.lies (fun g=>g≠X)):ERow w' B v xs:=by
 refine⟨Au F.own (fun g O=>G g (F.own.lt g O).2 (fun e=>T (by rw[<-e,O]))),fun x H=> ?_,F.apart⟩;have E:=F.all x H;exact⟨E.fb.keepX I G (fun g o U e2=>(M x H).1 g o U (NM e2)),E.fl,E.big,E.txt,E.pk.keepX I G (M x H).2⟩
theorem ERow.mono {w:World}{B B':Nat}{v:Value}{xs:List Ev}(E:ERow w B v xs)(F:B'<=B):ERow w B' v xs:=⟨Pa E.own F,E.all,E.apart⟩
def ClA (w:World)(bs:List Nat)(n:Nat)(t:Bool)(w':World):Prop:=
 Below w.heap.size w w'/\w.heap.size+3<=w'.heap.size/\((t=true/\∃v es,Cd (n+1) bs=some (es.map Ev.e)/\w'.heap[w.heap.size+1]? =some (.cells #[v] 69 (0,0))/\ERow w' (w.heap.size+3) v es/\∀x∈es,x.lies (fun g=>g<w.heap.size\/w.heap.size+3<=g))\/ (t=false/\Cd (n+1) bs=none/\w'.heap[w.heap.size+1]? =some (.cells #[.slice none 0 0] 69 (0,0))))
theorem Zc (n G:Nat)(a:Option Addr)(bs:List Nat)(w W:World)(ap:Z5x bs)(E:ZRow w w.heap.size a n G bs)(ay:Below w.heap.size w W)(ac:W.heap.size=w.heap.size+3)(ae:W.heap[w.heap.size]? =some (.cells #[.slice a n G] 23 (0,0)))(ai:W.heap[w.heap.size+1]? =some (.cells #[.slice none 0 0] 69 (0,0)))(az:W.heap[w.heap.size+2]? =some (.cells #[.int .i64 0] 24 (0,0))):
 Calls Tryz.prog 64 #[.pointer (some ⟨w.heap.size,0,none⟩),.pointer (some ⟨w.heap.size+1,0,none⟩)] W fun e w'=>((ClA w bs n true w'/\e=.returned (.tuple #[]))\/ (ClA w bs n false w'/\e=Z31))/\w'.heap[w.heap.size+2]? =some (.cells #[.int .i64 0] 24 (0,0)):=by
 have Z:∀g o,a=some ⟨g,o,none⟩->bs≠ []->g<w.heap.size:=fun g o e Y=>by
  rcases E.byt with h|⟨b,a7,aw,hb,_⟩
  . exact absurd h Y
  . rw[e]at aw;cases aw;exact hb
 obtain⟨W1,M⟩:=exq (W.alloc (.cells #[.slice a n G,.int .i64 0] 116));have bb:W1.heap.size=w.heap.size+4:=by rw[<-M];simp[ac]
 have aj:∀g,g<W.heap.size->W1.heap[g]? =W.heap[g]? :=fun g O=>by rw[<-M];exact Below.heap_alloc _ _ g O
 have au:W1.heap[w.heap.size+3]? =some (.cells #[.slice a n G,.int .i64 0] 116 (0,0)):=by
  have:=heap_alloc_new W (.cells #[.slice a n G,.int .i64 0] 116)
  rw[ac]at this;rw[<-M];exact this
 have ak:Below w.heap.size w W1:=by rw[<-M];exact ay.alloc (by omega) _
 have ax:ZRow W1 (w.heap.size+3) a n G bs:=⟨E.len,E.few,E.room,E.nil,(PkIn.below ⟨E.byt,E.nil⟩ ak).1,E.val,fun g o e Y=>by have:=Z g o e Y;omega⟩
 have a3:=Ab (Zb (w.heap.size+3) n G a bs W1 au ax ap);have c1:=Ac (i:=0) ae;simp only[VZ,VY]at c1;have ar:=Ab ((aj _ (by omega)).trans ai);have ao:=Ab ((aj _ (by omega)).trans az);have al:=Ab ak;have ba:=Ab Z;have a2:Hid (ZRow w (w.heap.size+3) a n G bs):=Ab ⟨E.len,E.few,E.room,E.nil,E.byt,E.val,fun g o e Y=>by have:=Z g o e Y;omega⟩;have a4:=Ab ac;have a5:=Ab M;clear E ay ae ai az Z aj au ak ax ac M ap;go_enter Tryz.func64,Tryz.ntmps64
 go_wp2_with fail
 rw[Aa a4,Aa a5];refine(Aa a3).mono ?_;rintro e H (⟨T,rfl,q,U⟩|⟨v,es,q,T,rfl,F⟩)
 . have I:Hid (ClA w bs n false H/\H.heap[w.heap.size+2]? =some (.cells #[.int .i64 0] 24 (0,0))):=Ab (by
    have a1:=U.below.size;refine⟨⟨(Aa al).trans (U.below.mono (by omega)),by omega,.inr ⟨rfl,T,(U.keep _ (by omega) (by omega)).trans (Aa ar)⟩⟩,(U.keep _ (by omega) (by omega)).trans (Aa ao)⟩)
   clear U T;go_wp2;exact⟨rfl,.inr ⟨(Aa I).1,rfl⟩,(Aa I).2⟩
 . have a1:=F.z.below.size;have aa:=(F.z.keep _ (by omega) (by omega)).trans (Aa ar);have O:=Ad H (w.heap.size+1) 0 v
   have ag:∀x∈es,x.lies (fun g=>g<w.heap.size\/w.heap.size+3<=g):=fun x af=>by
    constructor
    . intro g o ah e2;have:=F.fas x af g o ah e2
      omega
    . intro g o ah e2;exact .inl (Xm (F.pks x af w (Aa a2)) g o ah e2)
   have I:Hid (ClA w bs n true (H.setCell ⟨w.heap.size+1,0,none⟩ v)/\(H.setCell ⟨w.heap.size+1,0,none⟩ v).heap[w.heap.size+2]? =some (.cells #[.int .i64 0] 24 (0,0))):=Ab (by
    refine⟨⟨((Aa al).trans (F.z.below.mono (by omega))).grown O (by omega) (fun g e=>by cases e;omega),by simp;omega,.inl ⟨rfl,v,es,T,by rw[heap_setCell_same H _ 0 _ _ _ aa];rfl, ?_,ag⟩⟩, ?_⟩
    . refine(F.row.keepX (X:=w.heap.size+1) (by simp) (fun g ae ai=>O.block g ae (by simp;omega)) ?_ (fun x af=>(ag x af).mono (fun g h=>by omega))).mono (by omega);intro e;have:=(F.row.own.lt _ e.symm).1
      omega
    . exact(O.block _ (by omega) (by simp)).trans ((F.z.keep _ (by omega) (by omega)).trans (Aa ao)))
   have c2:=Ac (i:=0) aa;simp only[VZ,VY]at c2;have f2:=frozen_of_row H (w.heap.size+1) 0 _ _ aa;obtain⟨a8,a9,rfl⟩:=An F.row.own;obtain⟨a6,av⟩:=exq (es.length);rw[av]at I ⊢;clear F T O ag aa av;go_wp2;go_end0
   exact⟨.inl ⟨(Aa I).1,rfl⟩,(Aa I).2⟩
def EnA (w:World)(bs:List Nat)(n:Nat)(e:Ending)(w':World):Prop:=
 Below w.heap.size w w'/\((Cd (n+1) bs=none/\e=.returned (.tuple #[.slice none 0 0,.int .i64 7]))\/∃v es,Cd (n+1) bs=some (es.map Ev.e)/\e=.returned (.tuple #[v,.int .i64 0])/\ERow w' w.heap.size v es/\∀x∈es,x.lies (fun g=>g<w.heap.size\/w.heap.size+3<=g))
theorem Yk (n E:Nat)(a:Option Addr)(bs:List Nat)(w:World)(ap:bs.length=n)(bg:n<=12000)(bf:n<=E)(ae:PkIn w a E bs)(I:∀x∈bs,x<256)(av:Z5x bs):
 Calls Tryz.prog 41 #[.slice a n E] w fun e w'=>EnA w bs n e w':=by
 have bj:∀(ar:Fn) (first E:Array Value) (w:World),(Instr.makeFunc ar first E).run Tryz.prog w=.ok (.func ar first E) w:=fun _ _ _ _=>rfl
 have a2:ZRow w w.heap.size a n E bs:=⟨ap,bg,bf,ae.2,ae.1,I,fun g o e bd=>by have:=Xm ae g o e bd;omega⟩
 obtain⟨F,T⟩:=exq ((w.alloc (.cells #[.slice a n E] 23)).alloc (.cells #[.slice none 0 0] 69));have O:F.heap.size=w.heap.size+2:=by rw[<-T];simp
 have a1:Below w.heap.size w F:=by rw[<-T];exact((Below.refl _ _).alloc (VB _) _).alloc (by simp) _
 have au:F.heap[w.heap.size]? =some (.cells #[.slice a n E] 23 (0,0)):=by rw[<-T];exact(Below.heap_alloc _ _ _ (by simp)).trans (heap_alloc_new w _)
 have a4:F.heap[w.heap.size+1]? =some (.cells #[.slice none 0 0] 69 (0,0)):=by
  have:=heap_alloc_new (w.alloc (.cells #[.slice a n E] 23)) (.cells #[.slice none 0 0] 69)
  rw[<-T];simpa using this
 have aj:∀o,∀g,g<F.heap.size->(F.alloc o).heap[g]? =F.heap[g]? :=fun o g H=>Below.heap_alloc _ _ g H
 have bc:=Ab av;clear av
 have az:=Zc n E a bs w (F.alloc (.cells #[.int .i64 0] 24)) (Aa bc) a2 (a1.alloc (by omega) _) (by simp[O]) ((aj _ _ (by omega)).trans au) ((aj _ _ (by omega)).trans a4) (by
  have:=heap_alloc_new F (.cells #[.int .i64 0] 24)
  rw[O]at this;exact this)
 have ba:=Ab (Q4 64 #[.pointer (some ⟨w.heap.size,0,none⟩),.pointer (some ⟨w.heap.size+1,0,none⟩)] (ClA w bs n) F (fun _ _=>rfl) (by
  refine az.mono ?_;rintro e w' ⟨al,aw⟩;rw[O];exact⟨al,aw⟩))
 have bb:=Ab T;have ay:=Ab O;clear a2 ae I ap az aj au a4 a1 T O;go_enter Tryz.func41,Tryz.ntmps41
 go_wp2_with fail
 rw[Aa bb];refine(Aa ba).mono ?_;rintro e G ⟨t,bh,⟨ak,bi,a7⟩,rfl,a9,Y,ai⟩;have af:=ak.trans (ai w.heap.size (by rw[Aa ay];omega));have O:=Aa ay
 rcases a7 with ⟨rfl,v,es,U,I,ag,aa⟩|⟨rfl,U,I⟩
 . have M:=(Y (w.heap.size+1) (by omega) (by omega)).trans I;have c2:=Ac (i:=0) M;simp only[VZ,VY]at c2;have f2:=frozen_of_row G (w.heap.size+1) 0 _ _ M;have ah:ERow G (w.heap.size+3) v es:=ag.keepX (X:=F.heap.size) a9 Y (fun e=>by have:=(ag.own.lt _ e.symm).1;omega) (fun x ao=>(aa x ao).mono (fun g h=>by omega));have H:=Ad G (w.heap.size+1) 0 v;have a3:ERow (G.setCell ⟨w.heap.size+1,0,none⟩ v) (w.heap.size+3) v es:=ah.keepX (X:=w.heap.size+1) (by simp) (fun g al aw=>H.block g al (by simp;omega)) (fun e=>by have:=(ah.own.lt _ e.symm).1;omega) (fun x ao=>(aa x ao).mono (fun g h=>by omega));have Z:Hid (EnA w bs n (.returned (.tuple #[v,.int .i64 0])) (G.setCell ⟨w.heap.size+1,0,none⟩ v)):=Ab ⟨af.grown H (by omega) (fun g e=>by cases e;omega),.inr ⟨v,es,U,rfl,a3.mono (by omega),aa⟩⟩;have ac:(G.setCell ⟨w.heap.size+1,0,none⟩ v).cell? ⟨w.heap.size+1,0,none⟩=some v:=World.cell?_setCell_same _ _ _ c2;obtain⟨a6,a8,rfl⟩:=An ag.own;obtain⟨a5,ax⟩:=exq (es.length);rw[ax]at Z c2 ac;clear ag ah a3 I M U aa Y ai ak af H ax;go_wp2;refine bodyPost_ret (v:=.tuple #[.slice a6 a5 a8,.int .i64 0]) ?_ rfl (Aa Z);simp[results,Tryz.results41,go_sem,ac]
 . have M:=(Y (w.heap.size+1) (by omega) (by omega)).trans I;have c2:=Ac (i:=0) M;simp only[VZ,VY]at c2;have f2:=frozen_of_row G (w.heap.size+1) 0 _ _ M;have H:=Ad G (w.heap.size+1) 0 (.slice none 0 0);have Z:Hid (EnA w bs n (.returned (.tuple #[.slice none 0 0,.int .i64 7])) (G.setCell ⟨w.heap.size+1,0,none⟩ (.slice none 0 0))):=Ab ⟨af.grown H (by omega) (fun g e=>by cases e;omega),.inl ⟨U,rfl⟩⟩;have ac:(G.setCell ⟨w.heap.size+1,0,none⟩ (.slice none 0 0)).cell? ⟨w.heap.size+1,0,none⟩=some (.slice none 0 0):=World.cell?_setCell_same _ _ _ c2;clear I M U Y ai ak af H;go_wp2;refine bodyPost_ret (v:=.tuple #[.slice none 0 0,.int .i64 7]) ?_ rfl (Aa Z);simp[results,Tryz.results41,go_sem,ac]
def fcells (xs:List Fv):List Value:=xs.flatMap Fv.cells
theorem IA (xs ys:List Fv):fcells (xs++ys)=fcells xs++fcells ys:=by simp[fcells]
theorem GZ (y:Fv):fcells [y]=y.cells:=by simp[fcells]
theorem Sa:∀(xs:List Fv) (j:Nat) (x:Fv) (i:Nat),xs[j]? =some x->i<5->(fcells xs)[j*5+i]? =x.cells[i]?
 | [],j,x,i,h,_=>by simp at h
 |y::r,0,x,i,h,hi=>by
  have:fcells (y::r)=y.cells++fcells r:=rfl
  simp at h
  subst h;rw[this,YJ,WG,WN (show i<5 from hi)]
 |y::r,j+1,x,i,h,hi=>by
  have e:fcells (y::r)=y.cells++fcells r:=rfl;have hl:y.cells.length=5:=rfl;have ih:=Sa r j x i (by simpa using h) hi;rw[e,VX (by rw[hl];omega),hl,show (j+1)*5+i-5=j*5+i by omega,ih]
theorem QW (y:Fv):∀u∈y.cells,u.oneCell'=true:=by
 intro u E;simp only[Fv.cells,Fv.sl,WH,XE,or_false]at E
 rcases E with rfl|rfl|rfl|rfl|rfl<;>rfl
theorem OJ:(Tryz.prog.info? 30).map (fun i=>(i.zero,i.size,i.bytes))=some (some (.agg #[.string ⟨#[]⟩,.slice none 0 0,.int .i64 0,.int .i64 0,.bool false]),5,64):=by kernel_rfl
def Ev.fv (x:Ev):Fv:=⟨x.e.f,x.fa,x.fc⟩
structure GR (w:World)(B:Nat)(v:Value)(xs:List Ev):Prop where
 own:w.ownsRow B 30 5 v xs.length (fcells (xs.map Ev.fv))
 all:∀x∈xs,EvIn w x
 apart:∀x∈xs,x.lies (fun g=>some g≠v.ownBlock)
theorem GR.nil (w:World)(B:Nat):GR w B (.slice none 0 0) []:=⟨World.ownsRow_nil _ _ _ _,(fun x E=>absurd E XE),(fun x E=>absurd E XE)⟩
theorem GR.below {w w':World}{B:Nat}{v:Value}{xs:List Ev}(E:GR w B v xs)(F:Below w.heap.size w w'):GR w' B v xs:=
 ⟨Au E.own (fun g G=>F.block g (E.own.lt g G).2),fun x H=>(E.all x H).below F,E.apart⟩
theorem Ij (w:World){U:Array Oper}{Y:List Oper}{o:Oper}{a:Act}{Q:Exit->Act->World->Prop}(ah:o.guard=none)(s x:Operand)
 (aa:o.op=.call {callee:=.builtin .append,args:= #[s,x],argTypes:= #[22,22]}) (G:Nat) (v:Value) (xs:List Ev) (ak:a.eval s=v) (I:GR w G v xs)
 (F:Nat) (y:Ev) (ap:a.eval x=.slice (some ⟨F,0,none⟩) 1 1) (ar:∀j u,y.fv.cells[j]? =some u->w.cell? ⟨F,j,none⟩=some u) (aj:EvIn w y) (ac:y.lies (fun F=>some F≠v.ownBlock)) (au:xs.length+1<=100000) (O:G<=w.heap.size)
 (h:∀v' w',Hid (GR w' G v' (xs++ [y]))->Hid (w.grownBy w' v.ownBlock)->Hid (Below G w w')->wpList Tryz.prog U Q Y (a.put o.dst v') w'):wpList Tryz.prog U Q (o::Y) a w:=by
 obtain⟨ae,hi,ag,al,ai⟩:=info_parts OJ;refine wpList_append_own_at w ah s x 22 aa G 30 ae _ 5 64 Tryz.underlying22 hi ag al ai rfl (by decide) v xs.length (fcells (xs.map Ev.fv)) ak I.own ⟨F,0,none⟩ 1 1 y.fv.cells ap rfl ?_ (QW y.fv) (by unfold maxLen;omega) (by omega) O ?_
 . intro j u af;have e2:(⟨F,0,none⟩:Addr).add j=⟨F,j,none⟩:=by unfold Addr.add;split<;>simp_all
   rw[e2];exact ar j u af
 . intro v' w' ao M _ H
   have Z:∀z∈xs++ [y],z.lies (fun F=>some F≠v.ownBlock):=by
    intro z E
    rcases WP.1 E with E|E
    . exact I.apart z E
    . rw[WO.1 E];exact ac
   have T:∀z∈xs++ [y],EvIn w z:=by
    intro z E
    rcases WP.1 E with E|E
    . exact I.all z E
    . rw[WO.1 E];exact aj
   refine h v' w' (Ab ⟨?_,fun z E=>(T z E).grown M (Z z E),fun z E=> ?_⟩) (Ab M) (Ab ((Below.refl G w).grown M O (fun k e=>(I.own.lt k e).1)))
   . rw[WU,IA,List.map_singleton,GZ,VE];exact ao
   . have hl:=(T z E).lt;have hn:=Z z E
     rcases H with H|H
     . rw[H];exact hn
     . rw[H];exact hl.mono (fun F av e=>by have:=VM e;omega)
theorem GR.files {w:World}{B:Nat}{v:Value}{xs:List Ev}(F:GR w B v xs)(ae:xs.length<=100000):∃ad c,v=.slice ad xs.length c/\FsIn w ad c (xs.map Ev.fv):=by
 have aa:∀x∈xs.map Ev.fv,FvIn w x:=by
  intro x ac;obtain⟨y,U,rfl⟩:=XG.1 ac;exact(F.all y U).fv
 have G:(xs.map Ev.fv).length=xs.length:=by simp
 rcases F.own.2 with ⟨E,H⟩|⟨g,cap,cur,E,H,ag,Z,I,af⟩
 . have:xs= []:=WV H
   subst this;exact⟨none,0,E,FsIn.nil w⟩
 . refine⟨some ⟨g,0,none⟩,cap,E,.inr ⟨g,0,rfl,(F.own.lt g (by rw[E];rfl)).2, ?_⟩,by rw[G];exact Z,by unfold maxLen at I;exact I,by rw[G];omega,aa⟩;intro j x M;have T:=(XT.1 M).1;rw[G]at T
   have hc:∀i u,i<5->x.cells[i]? =some u->w.cell? ⟨g,0+j*5+i,none⟩=some u:=by
    intro i u hi Y;have e:=Sa (xs.map Ev.fv) j x i M hi;have O:=F.own;rw[E]at O;rw[WG,O.cellAt _ (by omega)];rw[e,Y]
   exact⟨hc 0 _ (by decide) rfl,hc 1 _ (by decide) rfl,hc 2 _ (by decide) rfl,hc 3 _ (by decide) rfl,hc 4 _ (by decide) rfl⟩
theorem Z1 (af:Option Addr)(c n:Nat)(E:List Ev)(w:World)(h:EsIn w af c E)(M:E.length=n)(a8:n<=20000):
 Calls Tryz.prog 42 #[.slice af n c] w fun e w'=>∃v,e=.returned v/\GR w' w.heap.size v E/\Below w.heap.size w w':=by
 have Y:=Ab h;have ag:=Ab M;clear h M;go_enter Tryz.func42,Tryz.ntmps42
 go_wp2;go_loopw [3,5,8] (fun al _ i wr=>∃k:Nat,k<=n/\i=.int .i64 (k:Int)/\Hid (GR wr w.heap.size al (E.take k))/\Hid (Below w.heap.size w wr)) (fun _ _ i _=>n-(intOf i).toNat)
 case atStart=>exact⟨0,VH _,rfl,Ab (GR.nil _ _),Ab (Below.refl _ _)⟩
 case round=>
  obtain⟨k,a7,rfl,H,F⟩:=hrel
  by_cases ao:k<n
  . obtain⟨x,I,aa⟩:∃x,E[k]? =some x/\x∈E:=⟨E[k]'(by rw[Aa ag];exact ao),VP _,WK _⟩
    obtain⟨b,o,rfl,hb,c0,c1,c2,ap,a2,az,ay,aw⟩:=(Aa Y).get (Aa F) I;have ae:=(Aa F).size;have G:=(Aa Y).all x aa;have ax:=Ab (Eu I);have ar:=Ab (fun o1 o2:Obj=>(G.below ((Aa F).trans ((Below.refl w.heap.size wr).alloc ae o1))).below ((Below.refl _ _).alloc (VB _) o2));have O:x.lies (fun g=>some g≠u3.ownBlock):=G.lt.mono (fun g a6 e=>by have:=((Aa H).own.lt g e.symm).1;omega);have a1:=Ab O;have aj:=Ab (fun o1 o2:Obj=>((Aa H).below ((Below.refl _ _).alloc (VB _) o1)).below ((Below.refl _ _).alloc (VB _) o2));have ai:=Ab (fun o1 o2:Obj=>((Aa F).alloc ae o1).alloc (by simp;omega) o2);have Z:(E.take k).length+1<=100000:=by rw[VL];omega
    have a5:=Ab Z
    have au:Hid (∀o1 o2,o2=Obj.cells x.fv.cells.toArray 30->∀j u,x.fv.cells[j]? =some u->((wr.alloc o1).alloc o2).cell? ⟨wr.heap.size+1,j,none⟩=some u):=Ab (fun o1 o2 e j u ak=>by
     subst e;have T:=heap_alloc_new (wr.alloc o1) (.cells x.fv.cells.toArray 30);simp only[World.size_alloc]at T;rw[Ac T];simpa using ak)
    clear I aa G O Z;go_wp2_with (at_builtin;refine Ij _ rfl _ _ rfl w.heap.size _ (E.take k) rfl (Aa aj _ _) (wr.heap.size+1) x rfl (Aa au _ _ rfl) (Aa ar _ _) (Aa a1) (Aa a5) (by simp;omega) ?_)
    intro v' w3 ac _ ah;have a4:Hid (GR w3 w.heap.size v' (E.take (k+1))):=Ab (by rw[Aa ax];exact Aa ac);have a3:=Ab ((Aa ai _ _).trans (Aa ah));clear ac ah c0 c1 c2 ap a2 az ay aw;go_wp2;go_roundw
    case rel=>exact⟨k+1,by omega,by go_num,a4,a3⟩
    case measure=>simp[intOf];omega
  . obtain rfl:n=k:=by omega
    have U:E.take n=E:=VV (by rw[Aa ag];exact VB _);have av:=Ab U;clear U;go_wp2;go_ret;exact⟨_,rfl,by have:=Aa H;rw[Aa av]at this;exact this,Aa F⟩
theorem Ck {a w:World}(E:Below a.heap.size a w)(o:Obj):Below a.heap.size a (w.alloc o):=E.alloc E.size o
theorem Ea {B:Nat}{a w:World}(E:Below B a w):Below B a w.drew:=Ae E 1
theorem Sw {W:World}{p:Addr}{v:Value}{o:Obj}(E:W.cell? p=some v):(W.alloc o).cell? p=some v:=(World.cell?_alloc_some W p o (by rw[E];rfl)).trans E
theorem A6 {l:List En}{k:Nat}{x:En}(E:l[k]? =some x):sumsF (l.drop k)=(decide (x.crc=crcN 0 (n8 x.f.bytes))&&sumsF (l.drop (k+1))):=by
 obtain⟨F,e⟩:=XT.1 E;rw[WS F,e];rfl
theorem A7 (a7:Option Addr)(c n:Nat)(G:List Ev)(w:World)(h:EsIn w a7 c G)(au:G.length=n)(bi:n<=20000)(ae:∀x∈G,x.e.f.bytes.length<=12000)(S:Bool)(az:sumsF (G.map Ev.e)=S):
 Calls Tryz.prog 43 #[.slice a7 n c] w fun e w'=>e=.returned (.bool S)/\Below w.heap.size w w':=by
 have a1:=Ab h;have a6:=Ab au;have bb:=Ab ae;have ba:=Ab az;clear h au ae az;go_enter Tryz.func43,Tryz.ntmps43
 go_wp2;go_loopw [4,7] (fun _ i wr=>∃k:Nat,k<=n/\i=.int .i64 (k:Int)/\Hid (sumsF ((G.map Ev.e).drop k)=S)/\Hid (Below w.heap.size w wr)) (fun _ i _=>n-(intOf i).toNat)
 case atStart=>exact⟨0,VH _,rfl,Ab (Aa ba),Ab (Below.refl _ _)⟩
 case round=>
  obtain⟨k,bg,rfl,a2,aa⟩:=hrel
  by_cases a9:k<n
  . obtain⟨x,ao,ak⟩:∃x,G[k]? =some x/\x∈G:=⟨G[k]'(by rw[Aa a6];exact a9),VP _,WK _⟩
    obtain⟨b,o,rfl,ae,c0,c1,c2,ac,aj,ai,Y,ag⟩:=(Aa a1).get (Aa aa) ao;have bd:=(Aa aa).size;have aw:=(Aa a1).all x ak;have F:=A6 (l:=G.map Ev.e) (k:=k) (x:=x.e) (by simp[ao]);rw[Aa a2]at F;have M:=fun(W:World) (I:Below w.heap.size w W)=>AQ x.fa x.e.f.bytes.length x.fc (n8 x.e.f.bytes) W (Da _) (Aa bb x ak) (aw.below I).fb.1 (Er (Lv _))
    obtain⟨x,fa,fc,pa,pc⟩:=x;obtain⟨⟨nml,bys,st,nd,gn⟩,mt,pk,cr⟩:=x;dsimp only at c0 c1 c2 ac aj ai Y ag F M;obtain⟨m,hm⟩:=exq (crcN 0 (n8 bys));rw[hm]at F M;generalize B nml=nm at c0;generalize bys.length=bl at c1 M;generalize pk.length=pl at Y;obtain⟨E,U⟩:=exq (wr.alloc (.cells #[.string nm,.slice fa bl fc,.int .i64 st,.int .i64 nd,.bool gn,.int .u32 (mt:Int),.slice pa pl pc,.int .u32 (cr:Int)] 71));have T:E.heap[wr.heap.size]? =some (.cells #[.string nm,.slice fa bl fc,.int .i64 st,.int .i64 nd,.bool gn,.int .u32 (mt:Int),.slice pa pl pc,.int .u32 (cr:Int)] 71 (0,0)):=by rw[<-U];exact heap_alloc_new _ _
    have Z:Below w.heap.size w E:=by rw[<-U];exact(Aa aa).alloc bd _
    have ax:wr.heap.size<E.heap.size:=(VK.1 T).1;have af:=Ac (i:=1) T;have al:=Ac (i:=7) T;simp only[VZ,VY,WI]at af al;have k1:∀W:World,Below E.heap.size E W->W.cell? ⟨wr.heap.size,1,none⟩=some (.slice fa bl fc):=fun W I=>(I.cell (p:=⟨wr.heap.size,1,none⟩) ax).trans af
    have a3:∀W:World,Below E.heap.size E W->W.cell? ⟨wr.heap.size,7,none⟩=some (.int .u32 (cr:Int)):=fun W I=>(I.cell (p:=⟨wr.heap.size,7,none⟩) ax).trans al
    have a5:=Ab (fun(W:World) (I:Below E.heap.size E W)=>M W (Z.trans (I.mono (by omega))));have av:=Ab U;have ar:=Ab Z;have a4:=Z.size;clear ao ak aw M hm U T Z af al
    by_cases hc:cr=m
    . subst hc;rw[decide_eq_true rfl,ZF]at F;have bc:=Ab F;clear F;go_wp2;rw[Aa av];go_region_held3 (fun W=>Below E.heap.size E W) (first|exact Ea (Below.refl _ _)|exact H) ((go_at_call 53;refine(Aa a5 _ (Ea (Below.refl _ _))).mono ?_;rintro e ap ⟨rfl,O⟩;have H:Below E.heap.size E ap:=(Ea (Below.refl _ _)).trans O;clear O))
      clear k1 a3 c0 c1 c2 ac aj ai Y ag;have ah:=Ab H;clear H;go_wp2;go_roundw
      case rel=>exact⟨k+1,by omega,by go_num,Ab (Aa bc).symm,Ab ((Aa ar).trans ((Aa ah).mono a4))⟩
      case measure=>simp[intOf];omega
    . rw[decide_eq_false hc,Bool.false_and]at F;subst F;have bf:((cr:Int)==(m:Int))=false:=by rw[beq_eq_false_iff_ne];omega
      have bh:¬(cr:Int)=(m:Int):=by omega
      go_wp2;rw[Aa av];go_region_held3 (fun W=>Below E.heap.size E W) (first|exact Ea (Below.refl _ _)|exact H) ((go_at_call 53;refine(Aa a5 _ (Ea (Below.refl _ _))).mono ?_;rintro e ap ⟨rfl,O⟩;have H:Below E.heap.size E ap:=(Ea (Below.refl _ _)).trans O;clear O))
      clear k1 a3 c0 c1 c2 ac aj ai Y ag;have ah:=Ab H;clear H;go_wp2;go_ret;exact⟨rfl,(Aa ar).trans ((Aa ah).mono a4)⟩
  . obtain rfl:n=k:=by omega
    have ay:(G.map Ev.e).drop n= []:=XQ (by simp[Aa a6]);have F:=Aa a2;rw[ay]at F;have a8:S=true:=F.symm;subst a8;clear ay F;go_wp2;go_ret;exact⟨rfl,Aa aa⟩
end Go.Proofs.YtleocpdblhbimaaGreatDoor
