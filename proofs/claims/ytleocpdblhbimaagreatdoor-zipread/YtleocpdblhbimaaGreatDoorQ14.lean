import Derived.Test.YtleocpdblhbimaaGreatDoorQ13
import Derived.Defers
import Derived.Recover
import Derived.Laws.Pointers
import Derived.Maps.AppendAt
import Derived.Laws.AppendOwnNone
import Derived.Deep.RegionHeld3
set_option linter.unusedSimpArgs false
set_option maxHeartbeats 4000000
namespace Go.Proofs.YtleocpdblhbimaaGreatDoor
open Go.RowKit
set_option linter.unusedVariables false
set_option maxRecDepth 100000
theorem SM (v:Value)(w:World):(Instr.typeAssert (.iface 165 v) 20 165 true).run Tryz.prog w=.ok (.tuple #[v,.bool true]) w:=by kernel_rfl
theorem SN (w:World):(Instr.typeAssert .nilIface 20 165 true).run Tryz.prog w=.ok (.tuple #[.agg #[],.bool false]) w:=by kernel_rfl
theorem Q5 (p:Addr)(y:Int)(E:List PanicEntry)(w:World)(G:w.cell? p=some (.int .i64 y))(T:w.frozen? p=false)(I:p.block<w.heap.size):
 CallsD Tryz.prog 99 #[.pointer (some p)] (.panicking ({v:=.iface 165 (.agg #[]),recovered:=false}::E)) w fun e H w'=>
  e=.returned (.tuple #[])/\H=.panicking ({v:=.iface 165 (.agg #[]),recovered:=true}::E)/\w'=(w.alloc (.cells #[] 165)).setCell p (.int .i64 7):=by
 refine callsD_of_wpS Tryz.func99 rfl fun U cs M=> ?_
 apply wpS_seq
 apply wpS_region
 simp[wpOpsS,go_sem,recoverD,M,Tryz.ntmps99,Exit.thenS]
 apply wpS_seq
 apply wpS_region
 simp[wpOpsS,go_sem,SM,Exit.thenS,Array.replicate]
 apply wpS_seq
 apply wpS_region
 simp[wpOpsS,go_sem,Exit.thenS]
 refine wpS_cond (t:=true) (by simp[Act.eval]) ?_;simp only[if_true];have F:=(World.cell?_alloc_lt w (.cells #[] 165) p I).trans G;have O:=(frozen?_alloc_cells w #[] 165 p).trans T;apply wpS_region
 simp[wpOpsS,go_sem,F,O,bodyPostS,results,Tryz.results99]
theorem Q6 (p:Addr)(w:World):
 CallsD Tryz.prog 99 #[.pointer (some p)] .returning w fun e E w'=>
  e=.returned (.tuple #[])/\E=.returning/\w'=w.alloc (.cells #[] 165):=by
 refine callsD_of_wpS Tryz.func99 rfl fun G cs F=> ?_
 apply wpS_seq
 apply wpS_region
 simp[wpOpsS,go_sem,recoverD,F,Tryz.ntmps99,Exit.thenS]
 apply wpS_seq
 apply wpS_region
 simp[wpOpsS,go_sem,SN,Exit.thenS,Array.replicate]
 apply wpS_seq
 apply wpS_region
 simp[wpOpsS,go_sem,Exit.thenS]
 refine wpS_cond (t:=false) (by simp[Act.eval]) ?_;simp only[Bool.false_eq_true,if_false];apply wpS_seq
 apply wpS_region
 simp[wpOpsS,go_sem,Exit.thenS]
 refine wpS_cond (t:=false) (by simp[Act.eval]) ?_;simp only[Bool.false_eq_true,if_false];refine wpS_of_wp (wp_skip ?_)
 cases G
 simp_all [bodyPostS,results,Tryz.results99]
theorem Q4 (F:Nat)(T:Array Value)(Q:Bool->World->Prop)(w:World)(ai:∀(args:Array Value) (w:World),(callFunc F args).run Tryz.prog w=.ok (.enter F args) w)
 (ag:Calls Tryz.prog F T (w.alloc (.cells #[.int .i64 0] 24)) fun e w'=>((Q true w'/\e=.returned (.tuple #[]))\/ (Q false w'/\e=Z31))/\w'.heap[w.heap.size]? =some (.cells #[.int .i64 0] 24 (0,0))):
 Calls Tryz.prog 63 #[.func (.func F) #[] T] w fun e E=>∃t w',Q t w'/\e=.returned (.int .i64 (if t=true then 0 else 7))/\w'.heap.size<=E.heap.size/\(∀j,j<w'.heap.size->j≠w.heap.size->(E.heap[j]? =w'.heap[j]?))/\∀B,B<=w.heap.size->Below B w' E:=by
 have aj:∀(U:Fn) (first cap:Array Value) (w:World),(Instr.makeFunc U first cap).run Tryz.prog w=.ok (.func U first cap) w:=fun _ _ _ _=>rfl
 go_enter_defers Tryz.func63,Tryz.ntmps63
 go_wp2;refine ag.mono ?_;rintro e w' ⟨ah,hb⟩;have G:w.heap.size<w'.heap.size:=(VK.1 hb).1;have I:w'.cell? ⟨w.heap.size,0,none⟩=some (.int .i64 0):=by simp[World.cell?,hb]
 have ac:w'.frozen? ⟨w.heap.size,0,none⟩=false:=by simp[World.frozen?,hb]
 rcases ah with ⟨M,rfl⟩|⟨M,rfl⟩
 . go_wp2;refine leaves_cons (f:=99) (args:= #[.pointer (some ⟨w.heap.size,0,none⟩)]) (by simp) (by simp[go_sem]) ?_;refine(Q6 ⟨w.heap.size,0,none⟩ _).mono ?_;rintro e aa E ⟨rfl,rfl,rfl⟩;have c1:((w'.setCell ⟨w.heap.size,0,none⟩ (.int .i64 0)).alloc (.cells #[] 165)).cell? ⟨w.heap.size,0,none⟩=some (.int .i64 0):=(World.cell?_alloc_lt _ _ _ (by simpa using G)).trans (World.cell?_setCell_same _ _ _ I);simp[Leaves,settle,results,Tryz.results63,go_sem,c1]
   refine⟨w',M,by omega,fun j O hn=> ?_,fun B H=> ?_⟩
   rotate_left
   . have ae:=(Below.refl B w').grown (Ad w' w.heap.size 0 (.int .i64 0)) (by omega) (fun g e=>by cases e;exact H);exact ae.alloc (by simp;omega) _
   exact(Below.heap_alloc _ _ j (by simpa using O)).trans (Below.heap_setCell _ _ _ j hn)
 . go_wp2;refine leaves_cons (f:=99) (args:= #[.pointer (some ⟨w.heap.size,0,none⟩)]) (by simp) (by simp[go_sem]) ?_;refine(Q5 ⟨w.heap.size,0,none⟩ 0 [] _ I ac G).mono ?_;rintro e aa E ⟨rfl,rfl,rfl⟩;have c1:((w'.alloc (.cells #[] 165)).setCell ⟨w.heap.size,0,none⟩ (.int .i64 7)).cell? ⟨w.heap.size,0,none⟩=some (.int .i64 7):=World.cell?_setCell_same _ _ _ ((World.cell?_alloc_lt _ _ _ G).trans I);have Z:∀j,j<w'.heap.size->¬j=w.heap.size->((w'.alloc (.cells #[] 165)).setCell ⟨w.heap.size,0,none⟩ (.int .i64 7)).heap[j]? =w'.heap[j]? :=fun j O hn=>(Below.heap_setCell _ _ _ j hn).trans (Below.heap_alloc _ _ j O)
   have af:((w'.alloc (.cells #[] 165)).setCell ⟨w.heap.size,0,none⟩ (.int .i64 7)).heap.size=w'.heap.size+1:=by simp
   have Y:∀B,B<=w.heap.size->Below B w' ((w'.alloc (.cells #[] 165)).setCell ⟨w.heap.size,0,none⟩ (.int .i64 7)):=fun B H=>
    ((Below.refl B w').alloc (by omega) _).grown (Ad _ w.heap.size 0 _) (by simp;omega) (fun g e=>by cases e;exact H)
   generalize (w'.alloc (.cells #[] 165)).setCell ⟨w.heap.size,0,none⟩ (.int .i64 7)=W at c1 Z af Y ⊢;simp[Leaves,settle,results,Tryz.results63,go_sem,c1]
   exact⟨w',M,by omega,Z,Y⟩
theorem PkIn.keepX {w w':World}{X c:Nat}{a:Option Addr}{ys:List Nat}(F:PkIn w a c ys)(O:w.heap.size<=w'.heap.size)(H:∀g,g<w.heap.size->g≠X->w'.heap[g]? =w.heap[g]?)(M:∀g o,a=some ⟨g,o,none⟩->ys≠ []->g≠X):PkIn w' a c ys:=by
 refine⟨?_,F.2⟩
 by_cases E:ys= []
 . exact .inl E
 . rcases F.1 with G|⟨b,o,e,hb,hc⟩
   . exact absurd G E
   . exact .inr ⟨b,o,e,by omega,fun j I=>(World.cell?_of_block (w:=w) (a:=⟨b,_,none⟩) (H b hb (M b o e E))).trans (hc j I)⟩
theorem ERow.keepX {w w':World}{B X:Nat}{v:Value}{xs:List Ev}(F:ERow w B v xs)(M:w.heap.size<=w'.heap.size)(H:∀g,g<w.heap.size->g≠X->w'.heap[g]? =w.heap[g]?)(U:some X≠v.ownBlock)(I:∀x∈xs,x.lies (fun g=>g≠X)):ERow w' B v xs:=by
 refine⟨Au F.own (fun g O=>H g (F.own.lt g O).2 (fun e=>U (by rw[<-e,O]))),fun x G=> ?_,F.apart⟩;have E:=F.all x G;exact⟨E.fb.keepX M H (fun g o T e2=>(I x G).1 g o T (NM e2)),E.fl,E.big,E.txt,E.pk.keepX M H (I x G).2⟩
theorem ERow.mono {w:World}{B B':Nat}{v:Value}{xs:List Ev}(E:ERow w B v xs)(F:B'<=B):ERow w B' v xs:=⟨Pa E.own F,E.all,E.apart⟩
def ClA (w:World)(bs:List Nat)(n:Nat)(t:Bool)(w':World):Prop:=
 Below w.heap.size w w'/\w.heap.size+3<=w'.heap.size/\((t=true/\∃v es,Cd (n+1) bs=some (es.map Ev.e)/\w'.heap[w.heap.size+1]? =some (.cells #[v] 69 (0,0))/\ERow w' (w.heap.size+3) v es/\∀x∈es,x.lies (fun g=>g<w.heap.size\/w.heap.size+3<=g))\/ (t=false/\Cd (n+1) bs=none/\w'.heap[w.heap.size+1]? =some (.cells #[.slice none 0 0] 69 (0,0))))
theorem Zc (n G:Nat)(a:Option Addr)(bs:List Nat)(w W:World)(ar:Z5x bs)(E:ZRow w w.heap.size a n G bs)(ap:Below w.heap.size w W)(ac:W.heap.size=w.heap.size+3)(Z:W.heap[w.heap.size]? =some (.cells #[.slice a n G] 23 (0,0)))(aj:W.heap[w.heap.size+1]? =some (.cells #[.slice none 0 0] 69 (0,0)))(au:W.heap[w.heap.size+2]? =some (.cells #[.int .i64 0] 24 (0,0))):
 Calls Tryz.prog 64 #[.pointer (some ⟨w.heap.size,0,none⟩),.pointer (some ⟨w.heap.size+1,0,none⟩)] W fun e w'=>((ClA w bs n true w'/\e=.returned (.tuple #[]))\/ (ClA w bs n false w'/\e=Z31))/\w'.heap[w.heap.size+2]? =some (.cells #[.int .i64 0] 24 (0,0)):=by
 have ae:∀g o,a=some ⟨g,o,none⟩->bs≠ []->g<w.heap.size:=fun g o e T=>by
  rcases E.byt with h|⟨b,a8,av,hb,_⟩
  . exact absurd h T
  . rw[e]at av;cases av;exact hb
 obtain⟨W1,M⟩:=exq (W.alloc (.cells #[.slice a n G,.int .i64 0] 116));have ba:W1.heap.size=w.heap.size+4:=by rw[<-M];simp[ac]
 have ag:∀g,g<W.heap.size->W1.heap[g]? =W.heap[g]? :=fun g O=>by rw[<-M];exact Below.heap_alloc _ _ g O
 have aw:W1.heap[w.heap.size+3]? =some (.cells #[.slice a n G,.int .i64 0] 116 (0,0)):=by
  have:=heap_alloc_new W (.cells #[.slice a n G,.int .i64 0] 116)
  rw[ac]at this;rw[<-M];exact this
 have ai:Below w.heap.size w W1:=by rw[<-M];exact ap.alloc (by omega) _
 have ax:ZRow W1 (w.heap.size+3) a n G bs:=⟨E.len,E.few,E.room,E.nil,(PkIn.below ⟨E.byt,E.nil⟩ ai).1,E.val,fun g o e T=>by have:=ae g o e T;omega⟩
 have a2:=Ab (Zb (w.heap.size+3) n G a bs W1 aw ax ar);have c1:=Ac (i:=0) Z;simp only[VZ,VY]at c1;have ao:=Ab ((ag _ (by omega)).trans aj);have ay:=Ab ((ag _ (by omega)).trans au);have al:=Ab ai;have a7:=Ab ae;have a5:Hid (ZRow w (w.heap.size+3) a n G bs):=Ab ⟨E.len,E.few,E.room,E.nil,E.byt,E.val,fun g o e T=>by have:=ae g o e T;omega⟩;have a4:=Ab ac;have a3:=Ab M;clear E ap Z aj au ae ag aw ai ax ac M ar;go_enter Tryz.func64,Tryz.ntmps64
 go_wp2_with fail
 rw[Aa a4,Aa a3];refine(Aa a2).mono ?_;rintro e H (⟨Y,rfl,q,U⟩|⟨v,es,q,Y,rfl,F⟩)
 . have I:Hid (ClA w bs n false H/\H.heap[w.heap.size+2]? =some (.cells #[.int .i64 0] 24 (0,0))):=Ab (by
    have a1:=U.below.size;refine⟨⟨(Aa al).trans (U.below.mono (by omega)),by omega,.inr ⟨rfl,Y,(U.keep _ (by omega) (by omega)).trans (Aa ao)⟩⟩,(U.keep _ (by omega) (by omega)).trans (Aa ay)⟩)
   clear U Y;go_wp2;exact⟨rfl,.inr ⟨(Aa I).1,rfl⟩,(Aa I).2⟩
 . have a1:=F.z.below.size;have aa:=(F.z.keep _ (by omega) (by omega)).trans (Aa ao);have O:=Ad H (w.heap.size+1) 0 v
   have ak:∀x∈es,x.lies (fun g=>g<w.heap.size\/w.heap.size+3<=g):=fun x af=>by
    constructor
    . intro g o ah e2;have:=F.fas x af g o ah e2
      omega
    . intro g o ah e2;exact .inl (Xm (F.pks x af w (Aa a5)) g o ah e2)
   have I:Hid (ClA w bs n true (H.setCell ⟨w.heap.size+1,0,none⟩ v)/\(H.setCell ⟨w.heap.size+1,0,none⟩ v).heap[w.heap.size+2]? =some (.cells #[.int .i64 0] 24 (0,0))):=Ab (by
    refine⟨⟨((Aa al).trans (F.z.below.mono (by omega))).grown O (by omega) (fun g e=>by cases e;omega),by simp;omega,.inl ⟨rfl,v,es,Y,by rw[heap_setCell_same H _ 0 _ _ _ aa];rfl, ?_,ak⟩⟩, ?_⟩
    . refine(F.row.keepX (X:=w.heap.size+1) (by simp) (fun g Z aj=>O.block g Z (by simp;omega)) ?_ (fun x af=>(ak x af).mono (fun g h=>by omega))).mono (by omega);intro e;have:=(F.row.own.lt _ e.symm).1
      omega
    . exact(O.block _ (by omega) (by simp)).trans ((F.z.keep _ (by omega) (by omega)).trans (Aa ay)))
   have c2:=Ac (i:=0) aa;simp only[VZ,VY]at c2;have f2:=frozen_of_row H (w.heap.size+1) 0 _ _ aa;obtain⟨a6,bb,rfl⟩:=An F.row.own;obtain⟨a9,az⟩:=exq (es.length);rw[az]at I ⊢;clear F Y O ak aa az;go_wp2;go_end0
   exact⟨.inl ⟨(Aa I).1,rfl⟩,(Aa I).2⟩
def EnA (w:World)(bs:List Nat)(n:Nat)(e:Ending)(w':World):Prop:=
 Below w.heap.size w w'/\((Cd (n+1) bs=none/\e=.returned (.tuple #[.slice none 0 0,.int .i64 7]))\/∃v es,Cd (n+1) bs=some (es.map Ev.e)/\e=.returned (.tuple #[v,.int .i64 0])/\ERow w' w.heap.size v es/\∀x∈es,x.lies (fun g=>g<w.heap.size\/w.heap.size+3<=g))
theorem Yk (n E:Nat)(a:Option Addr)(bs:List Nat)(w:World)(az:bs.length=n)(a8:n<=12000)(bb:n<=E)(af:PkIn w a E bs)(H:∀x∈bs,x<256)(aw:Z5x bs):
 Calls Tryz.prog 41 #[.slice a n E] w fun e w'=>EnA w bs n e w':=by
 have bj:∀(ap:Fn) (first E:Array Value) (w:World),(Instr.makeFunc ap first E).run Tryz.prog w=.ok (.func ap first E) w:=fun _ _ _ _=>rfl
 have a4:ZRow w w.heap.size a n E bs:=⟨az,a8,bb,af.2,af.1,H,fun g o e ba=>by have:=Xm af g o e ba;omega⟩
 obtain⟨F,T⟩:=exq ((w.alloc (.cells #[.slice a n E] 23)).alloc (.cells #[.slice none 0 0] 69));have O:F.heap.size=w.heap.size+2:=by rw[<-T];simp
 have au:Below w.heap.size w F:=by rw[<-T];exact((Below.refl _ _).alloc (VB _) _).alloc (by simp) _
 have av:F.heap[w.heap.size]? =some (.cells #[.slice a n E] 23 (0,0)):=by rw[<-T];exact(Below.heap_alloc _ _ _ (by simp)).trans (heap_alloc_new w _)
 have ay:F.heap[w.heap.size+1]? =some (.cells #[.slice none 0 0] 69 (0,0)):=by
  have:=heap_alloc_new (w.alloc (.cells #[.slice a n E] 23)) (.cells #[.slice none 0 0] 69)
  rw[<-T];simpa using this
 have ai:∀o,∀g,g<F.heap.size->(F.alloc o).heap[g]? =F.heap[g]? :=fun o g I=>Below.heap_alloc _ _ g I
 have bg:=Ab aw;clear aw
 have a3:=Zc n E a bs w (F.alloc (.cells #[.int .i64 0] 24)) (Aa bg) a4 (au.alloc (by omega) _) (by simp[O]) ((ai _ _ (by omega)).trans av) ((ai _ _ (by omega)).trans ay) (by
  have:=heap_alloc_new F (.cells #[.int .i64 0] 24)
  rw[O]at this;exact this)
 have a6:=Ab (Q4 64 #[.pointer (some ⟨w.heap.size,0,none⟩),.pointer (some ⟨w.heap.size+1,0,none⟩)] (ClA w bs n) F (fun _ _=>rfl) (by
  refine a3.mono ?_;rintro e w' ⟨ah,a2⟩;rw[O];exact⟨ah,a2⟩))
 have bd:=Ab T;have ar:=Ab O;clear a4 af H az a3 ai av ay au T O;go_enter Tryz.func41,Tryz.ntmps41
 go_wp2_with fail
 rw[Aa bd];refine(Aa a6).mono ?_;rintro e G ⟨t,bh,⟨ao,bi,a9⟩,rfl,a5,U,ak⟩;have ae:=ao.trans (ak w.heap.size (by rw[Aa ar];omega));have O:=Aa ar
 rcases a9 with ⟨rfl,v,es,Y,H,ac,aa⟩|⟨rfl,Y,H⟩
 . have M:=(U (w.heap.size+1) (by omega) (by omega)).trans H;have c2:=Ac (i:=0) M;simp only[VZ,VY]at c2;have f2:=frozen_of_row G (w.heap.size+1) 0 _ _ M;have aj:ERow G (w.heap.size+3) v es:=ac.keepX (X:=F.heap.size) a5 U (fun e=>by have:=(ac.own.lt _ e.symm).1;omega) (fun x al=>(aa x al).mono (fun g h=>by omega));have I:=Ad G (w.heap.size+1) 0 v;have ax:ERow (G.setCell ⟨w.heap.size+1,0,none⟩ v) (w.heap.size+3) v es:=aj.keepX (X:=w.heap.size+1) (by simp) (fun g ah a2=>I.block g ah (by simp;omega)) (fun e=>by have:=(aj.own.lt _ e.symm).1;omega) (fun x al=>(aa x al).mono (fun g h=>by omega));have Z:Hid (EnA w bs n (.returned (.tuple #[v,.int .i64 0])) (G.setCell ⟨w.heap.size+1,0,none⟩ v)):=Ab ⟨ae.grown I (by omega) (fun g e=>by cases e;omega),.inr ⟨v,es,Y,rfl,ax.mono (by omega),aa⟩⟩;have ag:(G.setCell ⟨w.heap.size+1,0,none⟩ v).cell? ⟨w.heap.size+1,0,none⟩=some v:=World.cell?_setCell_same _ _ _ c2;obtain⟨a7,bf,rfl⟩:=An ac.own;obtain⟨bc,a1⟩:=exq (es.length);rw[a1]at Z c2 ag;clear ac aj ax H M Y aa U ak ao ae I a1;go_wp2;refine bodyPost_ret (v:=.tuple #[.slice a7 bc bf,.int .i64 0]) ?_ rfl (Aa Z);simp[results,Tryz.results41,go_sem,ag]
 . have M:=(U (w.heap.size+1) (by omega) (by omega)).trans H;have c2:=Ac (i:=0) M;simp only[VZ,VY]at c2;have f2:=frozen_of_row G (w.heap.size+1) 0 _ _ M;have I:=Ad G (w.heap.size+1) 0 (.slice none 0 0);have Z:Hid (EnA w bs n (.returned (.tuple #[.slice none 0 0,.int .i64 7])) (G.setCell ⟨w.heap.size+1,0,none⟩ (.slice none 0 0))):=Ab ⟨ae.grown I (by omega) (fun g e=>by cases e;omega),.inl ⟨Y,rfl⟩⟩;have ag:(G.setCell ⟨w.heap.size+1,0,none⟩ (.slice none 0 0)).cell? ⟨w.heap.size+1,0,none⟩=some (.slice none 0 0):=World.cell?_setCell_same _ _ _ c2;clear H M Y U ak ao ae I;go_wp2;refine bodyPost_ret (v:=.tuple #[.slice none 0 0,.int .i64 7]) ?_ rfl (Aa Z);simp[results,Tryz.results41,go_sem,ag]
def fcells (xs:List Fv):List Value:=xs.flatMap Fv.cells
theorem IA (xs ys:List Fv):fcells (xs++ys)=fcells xs++fcells ys:=by simp[fcells]
theorem GZ (y:Fv):fcells [y]=y.cells:=by simp[fcells]
theorem Sa:∀(xs:List Fv) (j:Nat) (x:Fv) (i:Nat),xs[j]? =some x->i<5->(fcells xs)[j*5+i]? =x.cells[i]?
 | [],j,x,i,h,_=>by simp at h
 |y::r,0,x,i,h,hi=>by
  have:fcells (y::r)=y.cells++fcells r:=rfl
  simp at h
  subst h;rw[this,YJ,WG,WN (show i<5 from hi)]
 |y::r,j+1,x,i,h,hi=>by
  have e:fcells (y::r)=y.cells++fcells r:=rfl;have hl:y.cells.length=5:=rfl;have ih:=Sa r j x i (by simpa using h) hi;rw[e,VX (by rw[hl];omega),hl,show (j+1)*5+i-5=j*5+i by omega,ih]
theorem QW (y:Fv):∀u∈y.cells,u.oneCell'=true:=by
 intro u E;simp only[Fv.cells,Fv.sl,WH,XE,or_false]at E
 rcases E with rfl|rfl|rfl|rfl|rfl<;>rfl
theorem OJ:(Tryz.prog.info? 30).map (fun i=>(i.zero,i.size,i.bytes))=some (some (.agg #[.string ⟨#[]⟩,.slice none 0 0,.int .i64 0,.int .i64 0,.bool false]),5,64):=by kernel_rfl
def Ev.fv (x:Ev):Fv:=⟨x.e.f,x.fa,x.fc⟩
structure GR (w:World)(B:Nat)(v:Value)(xs:List Ev):Prop where
 own:w.ownsRow B 30 5 v xs.length (fcells (xs.map Ev.fv))
 all:∀x∈xs,EvIn w x
 apart:∀x∈xs,x.lies (fun g=>some g≠v.ownBlock)
theorem GR.nil (w:World)(B:Nat):GR w B (.slice none 0 0) []:=⟨World.ownsRow_nil _ _ _ _,(fun x E=>absurd E XE),(fun x E=>absurd E XE)⟩
theorem GR.below {w w':World}{B:Nat}{v:Value}{xs:List Ev}(E:GR w B v xs)(F:Below w.heap.size w w'):GR w' B v xs:=
 ⟨Au E.own (fun g H=>F.block g (E.own.lt g H).2),fun x G=>(E.all x G).below F,E.apart⟩
theorem Ij (w:World){Y:Array Oper}{O:List Oper}{o:Oper}{a:Act}{Q:Exit->Act->World->Prop}(ar:o.guard=none)(s x:Operand)
 (ah:o.op=.call {callee:=.builtin .append,args:= #[s,x],argTypes:= #[22,22]}) (G:Nat) (v:Value) (xs:List Ev) (af:a.eval s=v) (I:GR w G v xs)
 (F:Nat) (y:Ev) (aj:a.eval x=.slice (some ⟨F,0,none⟩) 1 1) (ak:∀j u,y.fv.cells[j]? =some u->w.cell? ⟨F,j,none⟩=some u) (ap:EvIn w y) (ac:y.lies (fun F=>some F≠v.ownBlock)) (au:xs.length+1<=100000) (Z:G<=w.heap.size)
 (h:∀v' w',Hid (GR w' G v' (xs++ [y]))->Hid (w.grownBy w' v.ownBlock)->Hid (Below G w w')->wpList Tryz.prog Y Q O (a.put o.dst v') w'):wpList Tryz.prog Y Q (o::O) a w:=by
 obtain⟨ag,hi,ae,ai,ao⟩:=info_parts OJ;refine wpList_append_own_at w ar s x 22 ah G 30 ag _ 5 64 Tryz.underlying22 hi ae ai ao rfl (by decide) v xs.length (fcells (xs.map Ev.fv)) af I.own ⟨F,0,none⟩ 1 1 y.fv.cells aj rfl ?_ (QW y.fv) (by unfold maxLen;omega) (by omega) Z ?_
 . intro j u al;have e2:(⟨F,0,none⟩:Addr).add j=⟨F,j,none⟩:=by unfold Addr.add;split<;>simp_all
   rw[e2];exact ak j u al
 . intro v' w' aa M _ H
   have U:∀z∈xs++ [y],z.lies (fun F=>some F≠v.ownBlock):=by
    intro z E
    rcases WP.1 E with E|E
    . exact I.apart z E
    . rw[WO.1 E];exact ac
   have T:∀z∈xs++ [y],EvIn w z:=by
    intro z E
    rcases WP.1 E with E|E
    . exact I.all z E
    . rw[WO.1 E];exact ap
   refine h v' w' (Ab ⟨?_,fun z E=>(T z E).grown M (U z E),fun z E=> ?_⟩) (Ab M) (Ab ((Below.refl G w).grown M Z (fun k e=>(I.own.lt k e).1)))
   . rw[WU,IA,List.map_singleton,GZ,VE];exact aa
   . have hl:=(T z E).lt;have hn:=U z E
     rcases H with H|H
     . rw[H];exact hn
     . rw[H];exact hl.mono (fun F av e=>by have:=VM e;omega)
theorem GR.files {w:World}{B:Nat}{v:Value}{xs:List Ev}(F:GR w B v xs)(ae:xs.length<=100000):∃ad c,v=.slice ad xs.length c/\FsIn w ad c (xs.map Ev.fv):=by
 have Z:∀x∈xs.map Ev.fv,FvIn w x:=by
  intro x T;obtain⟨y,ac,rfl⟩:=XG.1 T;exact(F.all y ac).fv
 have G:(xs.map Ev.fv).length=xs.length:=by simp
 rcases F.own.2 with ⟨E,M⟩|⟨g,cap,cur,E,M,af,U,I,ag⟩
 . have:xs= []:=WV M
   subst this;exact⟨none,0,E,FsIn.nil w⟩
 . refine⟨some ⟨g,0,none⟩,cap,E,.inr ⟨g,0,rfl,(F.own.lt g (by rw[E];rfl)).2, ?_⟩,by rw[G];exact U,by unfold maxLen at I;exact I,by rw[G];omega,Z⟩;intro j x H;have aa:=(XT.1 H).1;rw[G]at aa
   have hc:∀i u,i<5->x.cells[i]? =some u->w.cell? ⟨g,0+j*5+i,none⟩=some u:=by
    intro i u hi Y;have e:=Sa (xs.map Ev.fv) j x i H hi;have O:=F.own;rw[E]at O;rw[WG,O.cellAt _ (by omega)];rw[e,Y]
   exact⟨hc 0 _ (by decide) rfl,hc 1 _ (by decide) rfl,hc 2 _ (by decide) rfl,hc 3 _ (by decide) rfl,hc 4 _ (by decide) rfl⟩
theorem Z1 (U:Option Addr)(c n:Nat)(E:List Ev)(w:World)(h:EsIn w U c E)(ah:E.length=n)(a6:n<=20000):
 Calls Tryz.prog 42 #[.slice U n c] w fun e w'=>∃v,e=.returned v/\GR w' w.heap.size v E/\Below w.heap.size w w':=by
 have ag:=Ab h;have M:=Ab ah;clear h ah;go_enter Tryz.func42,Tryz.ntmps42
 go_wp2;go_loopw [3,5,8] (fun au _ i wr=>∃k:Nat,k<=n/\i=.int .i64 (k:Int)/\Hid (GR wr w.heap.size au (E.take k))/\Hid (Below w.heap.size w wr)) (fun _ _ i _=>n-(intOf i).toNat)
 case atStart=>exact⟨0,VH _,rfl,Ab (GR.nil _ _),Ab (Below.refl _ _)⟩
 case round=>
  obtain⟨k,a8,rfl,H,F⟩:=hrel
  by_cases ao:k<n
  . obtain⟨x,I,aa⟩:∃x,E[k]? =some x/\x∈E:=⟨E[k]'(by rw[Aa M];exact ao),VP _,WK _⟩
    obtain⟨b,o,rfl,hb,c0,c1,c2,ay,ak,a1,aw,al⟩:=(Aa ag).get (Aa F) I;have ae:=(Aa F).size;have G:=(Aa ag).all x aa;have a2:=Ab (Eu I);have a3:=Ab (fun o1 o2:Obj=>(G.below ((Aa F).trans ((Below.refl w.heap.size wr).alloc ae o1))).below ((Below.refl _ _).alloc (VB _) o2));have Y:x.lies (fun g=>some g≠u3.ownBlock):=G.lt.mono (fun g a7 e=>by have:=((Aa H).own.lt g e.symm).1;omega);have a5:=Ab Y;have av:=Ab (fun o1 o2:Obj=>((Aa H).below ((Below.refl _ _).alloc (VB _) o1)).below ((Below.refl _ _).alloc (VB _) o2));have ai:=Ab (fun o1 o2:Obj=>((Aa F).alloc ae o1).alloc (by simp;omega) o2);have af:(E.take k).length+1<=100000:=by rw[VL];omega
    have az:=Ab af
    have ax:Hid (∀o1 o2,o2=Obj.cells x.fv.cells.toArray 30->∀j u,x.fv.cells[j]? =some u->((wr.alloc o1).alloc o2).cell? ⟨wr.heap.size+1,j,none⟩=some u):=Ab (fun o1 o2 e j u a4=>by
     subst e;have ac:=heap_alloc_new (wr.alloc o1) (.cells x.fv.cells.toArray 30);simp only[World.size_alloc]at ac;rw[Ac ac];simpa using a4)
    clear I aa G Y af;go_wp2_with (at_builtin;refine Ij _ rfl _ _ rfl w.heap.size _ (E.take k) rfl (Aa av _ _) (wr.heap.size+1) x rfl (Aa ax _ _ rfl) (Aa a3 _ _) (Aa a5) (Aa az) (by simp;omega) ?_)
    intro v' w3 O _ Z;have ar:Hid (GR w3 w.heap.size v' (E.take (k+1))):=Ab (by rw[Aa a2];exact Aa O);have ap:=Ab ((Aa ai _ _).trans (Aa Z));clear O Z c0 c1 c2 ay ak a1 aw al;go_wp2;go_roundw
    case rel=>exact⟨k+1,by omega,by go_num,ar,ap⟩
    case measure=>simp[intOf];omega
  . obtain rfl:n=k:=by omega
    have T:E.take n=E:=VV (by rw[Aa M];exact VB _);have aj:=Ab T;clear T;go_wp2;go_ret;exact⟨_,rfl,by have:=Aa H;rw[Aa aj]at this;exact this,Aa F⟩
theorem Ck {a w:World}(E:Below a.heap.size a w)(o:Obj):Below a.heap.size a (w.alloc o):=E.alloc E.size o
theorem Ea {B:Nat}{a w:World}(E:Below B a w):Below B a w.drew:=Ae E 1
theorem Sw {W:World}{p:Addr}{v:Value}{o:Obj}(E:W.cell? p=some v):(W.alloc o).cell? p=some v:=(World.cell?_alloc_some W p o (by rw[E];rfl)).trans E
theorem A6 {l:List En}{k:Nat}{x:En}(E:l[k]? =some x):sumsF (l.drop k)=(decide (x.crc=crcN 0 (n8 x.f.bytes))&&sumsF (l.drop (k+1))):=by
 obtain⟨F,e⟩:=XT.1 E;rw[WS F,e];rfl
theorem A7 (ay:Option Addr)(c n:Nat)(G:List Ev)(w:World)(h:EsIn w ay c G)(a7:G.length=n)(bf:n<=20000)(ah:∀x∈G,x.e.f.bytes.length<=12000)(S:Bool)(a4:sumsF (G.map Ev.e)=S):
 Calls Tryz.prog 43 #[.slice ay n c] w fun e w'=>e=.returned (.bool S)/\Below w.heap.size w w':=by
 have a5:=Ab h;have av:=Ab a7;have a8:=Ab ah;have bc:=Ab a4;clear h a7 ah a4;go_enter Tryz.func43,Tryz.ntmps43
 go_wp2;go_loopw [4,7] (fun _ i wr=>∃k:Nat,k<=n/\i=.int .i64 (k:Int)/\Hid (sumsF ((G.map Ev.e).drop k)=S)/\Hid (Below w.heap.size w wr)) (fun _ i _=>n-(intOf i).toNat)
 case atStart=>exact⟨0,VH _,rfl,Ab (Aa bc),Ab (Below.refl _ _)⟩
 case round=>
  obtain⟨k,bg,rfl,az,Y⟩:=hrel
  by_cases a9:k<n
  . obtain⟨x,ao,ag⟩:∃x,G[k]? =some x/\x∈G:=⟨G[k]'(by rw[Aa av];exact a9),VP _,WK _⟩
    obtain⟨b,o,rfl,ah,c0,c1,c2,ai,ae,ak,U,af⟩:=(Aa a5).get (Aa Y) ao;have ba:=(Aa Y).size;have ar:=(Aa a5).all x ag;have F:=A6 (l:=G.map Ev.e) (k:=k) (x:=x.e) (by simp[ao]);rw[Aa az]at F;have M:=fun(W:World) (H:Below w.heap.size w W)=>AQ x.fa x.e.f.bytes.length x.fc (n8 x.e.f.bytes) W (Da _) (Aa a8 x ag) (ar.below H).fb.1 (Er (Lv _))
    obtain⟨x,fa,fc,pa,pc⟩:=x;obtain⟨⟨nml,bys,st,nd,gn⟩,mt,pk,cr⟩:=x;dsimp only at c0 c1 c2 ai ae ak U af F M;obtain⟨m,hm⟩:=exq (crcN 0 (n8 bys));rw[hm]at F M;generalize B nml=nm at c0;generalize bys.length=bl at c1 M;generalize pk.length=pl at U;obtain⟨E,T⟩:=exq (wr.alloc (.cells #[.string nm,.slice fa bl fc,.int .i64 st,.int .i64 nd,.bool gn,.int .u32 (mt:Int),.slice pa pl pc,.int .u32 (cr:Int)] 71));have aa:E.heap[wr.heap.size]? =some (.cells #[.string nm,.slice fa bl fc,.int .i64 st,.int .i64 nd,.bool gn,.int .u32 (mt:Int),.slice pa pl pc,.int .u32 (cr:Int)] 71 (0,0)):=by rw[<-T];exact heap_alloc_new _ _
    have Z:Below w.heap.size w E:=by rw[<-T];exact(Aa Y).alloc ba _
    have a3:wr.heap.size<E.heap.size:=(VK.1 aa).1;have ac:=Ac (i:=1) aa;have aj:=Ac (i:=7) aa;simp only[VZ,VY,WI]at ac aj;have k1:∀W:World,Below E.heap.size E W->W.cell? ⟨wr.heap.size,1,none⟩=some (.slice fa bl fc):=fun W H=>(H.cell (p:=⟨wr.heap.size,1,none⟩) a3).trans ac
    have a1:∀W:World,Below E.heap.size E W->W.cell? ⟨wr.heap.size,7,none⟩=some (.int .u32 (cr:Int)):=fun W H=>(H.cell (p:=⟨wr.heap.size,7,none⟩) a3).trans aj
    have a2:=Ab (fun(W:World) (H:Below E.heap.size E W)=>M W (Z.trans (H.mono (by omega))));have aw:=Ab T;have au:=Ab Z;have a6:=Z.size;clear ao ag ar M hm T aa Z ac aj
    by_cases hc:cr=m
    . subst hc;rw[decide_eq_true rfl,ZF]at F;have bd:=Ab F;clear F;go_wp2;rw[Aa aw];go_region_held3 (fun W=>Below E.heap.size E W) (first|exact Ea (Below.refl _ _)|exact I) ((go_at_call 53;refine(Aa a2 _ (Ea (Below.refl _ _))).mono ?_;rintro e al ⟨rfl,O⟩;have I:Below E.heap.size E al:=(Ea (Below.refl _ _)).trans O;clear O))
      clear k1 a1 c0 c1 c2 ai ae ak U af;have ap:=Ab I;clear I;go_wp2;go_roundw
      case rel=>exact⟨k+1,by omega,by go_num,Ab (Aa bd).symm,Ab ((Aa au).trans ((Aa ap).mono a6))⟩
      case measure=>simp[intOf];omega
    . rw[decide_eq_false hc,Bool.false_and]at F;subst F;have bh:((cr:Int)==(m:Int))=false:=by rw[beq_eq_false_iff_ne];omega
      have bi:¬(cr:Int)=(m:Int):=by omega
      go_wp2;rw[Aa aw];go_region_held3 (fun W=>Below E.heap.size E W) (first|exact Ea (Below.refl _ _)|exact I) ((go_at_call 53;refine(Aa a2 _ (Ea (Below.refl _ _))).mono ?_;rintro e al ⟨rfl,O⟩;have I:Below E.heap.size E al:=(Ea (Below.refl _ _)).trans O;clear O))
      clear k1 a1 c0 c1 c2 ai ae ak U af;have ap:=Ab I;clear I;go_wp2;go_ret;exact⟨rfl,(Aa au).trans ((Aa ap).mono a6)⟩
  . obtain rfl:n=k:=by omega
    have ax:(G.map Ev.e).drop n= []:=XQ (by simp[Aa av]);have F:=Aa az;rw[ax]at F;have bb:S=true:=F.symm;subst bb;clear ax F;go_wp2;go_ret;exact⟨rfl,Aa Y⟩
end Go.Proofs.YtleocpdblhbimaaGreatDoor
