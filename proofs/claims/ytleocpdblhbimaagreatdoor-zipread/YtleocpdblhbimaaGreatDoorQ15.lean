import Derived.Test.YtleocpdblhbimaaGreatDoorQ14
import Derived.Defers
import Derived.Recover
import Derived.Laws.Pointers
import Derived.Maps.AppendAt
import Derived.Laws.AppendOwnNone
set_option linter.unusedSimpArgs false
set_option maxHeartbeats 4000000
namespace Go.Proofs.YtleocpdblhbimaaGreatDoor
open Go.RowKit
set_option linter.unusedVariables false
set_option maxRecDepth 100000
structure ERd (w:World)(b:Nat)(a:Option Addr)(n cap:Nat)(bs:List Nat)(v:Value)(es:List Ev)(q:Nat)(wr:World):Prop where
 z:ZT w b (.slice a n cap) q wr
 row:ERow wr w.heap.size v es
 pks:∀x∈es,∀W,ZRow W b a n cap bs->PkIn W x.pa x.pc x.e.pk
 fas:∀x∈es,∀g o,x.fa=some ⟨g,o,none⟩->x.e.f.bytes≠ []->w.heap.size<=g
theorem ERd.call {w wr w':World}{b n I q q':Nat}{a:Option Addr}{bs:List Nat}{v:Value}{T:List Ev}(E:ERd w b a n I bs v T q wr)(ab:b<w.heap.size)(U:ZRow w b a n I bs)(H:ZT wr b (.slice a n I) q' w'):ERd w b a n I bs v T q' w':=by
 have aa:ZRow w' b a n I bs:=(U.after E.z).after H;refine⟨E.z.trans H,⟨Au E.row.own (fun g G=>H.keep g (by have:=(E.row.own.lt g G).1;omega) (E.row.own.lt g G).2),fun x M=> ?_,E.row.apart⟩,E.pks,E.fas⟩;have F:=E.row.all x M;refine⟨⟨?_,F.fb.2⟩,F.fl,F.big,F.txt,E.pks x M w' aa⟩
 by_cases O:n8 x.e.f.bytes= []
 . exact .inl O
 . rcases F.fb.1 with Z|⟨g,o,e,G,hc⟩
   . exact absurd Z O
   . have ac:=E.fas x M g o e (NM O);exact .inr ⟨g,o,e,VG G H.below.size,fun j Y=>(World.cell?_of_block (w:=wr) (a:=⟨g,_,none⟩) (H.keep g (by omega) G)).trans (hc j Y)⟩
theorem ERd.later {w wr w':World}{b n G q:Nat}{a:Option Addr}{bs:List Nat}{v:Value}{H:List Ev}(E:ERd w b a n G bs v H q wr)(F:Below wr.heap.size wr w'):ERd w b a n G bs v H q w':=by
 have hb:=(VK.1 E.z.is).1;have O:=E.z.below.size;exact⟨⟨(F.block b hb).trans E.z.is,E.z.below.trans (F.mono (by omega)),fun g M I=>(F.block g (by omega)).trans (E.z.keep g M I)⟩,E.row.below F,E.pks,E.fas⟩
theorem ERd.app {w W G:World}{b n I q:Nat}{a:Option Addr}{bs:List Nat}{v v':Value}{M:List Ev}{x:Ev}(F:ERd w b a n I bs v M q W)(Y:b<w.heap.size)(H:W.grownBy G v.ownBlock)(aa:ERow G w.heap.size v' (M++ [x]))(ab:∀W,ZRow W b a n I bs->PkIn W x.pa x.pc x.e.pk)(Z:∀g o,x.fa=some ⟨g,o,none⟩->x.e.f.bytes≠ []->w.heap.size<=g):ERd w b a n I bs v' (M++ [x]) q G:=by
 have U:=(VK.1 F.z.is).1;have af:=F.z.below.size;have T:∀g,g<w.heap.size->some g≠v.ownBlock:=fun g ae e=>by have:=(F.row.own.lt g e.symm).1;omega
 refine⟨⟨(H.block b U (T b Y)).trans F.z.is,F.z.below.grown H (by omega) (fun g e=>by have:=(F.row.own.lt g e).1;omega),fun g ac O=>(H.block g (by omega) (T g O)).trans (F.z.keep g ac O)⟩,aa,fun y E=> ?_,fun y E=> ?_⟩
 . rcases WP.1 E with E|E
   . exact F.pks y E
   . rw[WO.1 E];exact ab
 . rcases WP.1 E with E|E
   . exact F.fas y E
   . rw[WO.1 E];exact Z
def Z8j:Value->Nat
 | .slice _ n _=>n
 |_=>0
theorem ERow.len {w:World}{B:Nat}{v:Value}{xs:List Ev}(E:ERow w B v xs):Z8j v=xs.length:=by
 obtain⟨a,c,rfl⟩:=An E.own;rfl
def Z24 (w:World)(b:Nat)(a:Option Addr)(n cap:Nat)(bs:List Nat)(e:Ending)(w':World):Prop:=
 (Cd (n+1) bs=none/\e=Z31/\∃q,ZT w b (.slice a n cap) q w')\/ (∃v es q,Cd (n+1) bs=some (es.map Ev.e)/\e=.returned v/\ERd w b a n cap bs v es q w')
theorem IF {F:Nat}{r m q:List Nat}(G:Dy 4 r=some (m,q))(E:Ak m≠67324752):Cd (F+1) r=some []:=by
 unfold Cd;rw[G,VF];dsimp only;rw[if_neg E]
theorem IE {F:Nat}{r:List Nat}(E:Dy 4 r=none):Cd (F+1) r=none:=by
 unfold Cd;rw[E];rfl
theorem Vt {F:Nat}{r m q:List Nat}(H:Dy 4 r=some (m,q))(E:Ak m=67324752)(G:Fe q=none):Cd (F+1) r=none:=by
 unfold Cd;rw[H,VF];dsimp only;rw[if_pos E,G];rfl
theorem Vu {F:Nat}{r m q q':List Nat}{x:En}(H:Dy 4 r=some (m,q))(E:Ak m=67324752)(G:Fe q=some (x,q')):Cd (F+1) r=(Cd F q').map (x:: ·):=by
 conv=>lhs;unfold Cd
 rw[H,VF];dsimp only;rw[if_pos E,G];rfl
theorem TI (m:Nat)(E:m≠67324752):((m:Int)==67324752)=false:=by rw[beq_eq_false_iff_ne];omega
def Z5x (bs:List Nat):Prop:=Z5u\/∃l,Cd (bs.length+1) bs=some l/\∀x∈l,x.meth≠8
theorem PX {r q:List Nat}{x:En}(E:Fe r=some (x,q)):x.meth=Ak ((r.drop 4).take 2):=by
 unfold Fe at E;obtain⟨F,r1,rfl,l1,E⟩:=Ap E;dsimp only at E;obtain⟨G,r2,rfl,l2,E⟩:=Ap E;dsimp only at E;rw[YT l1,YS l2]
 iterate 12 (obtain⟨_,_,rfl,_,E⟩:=Ap E;dsimp only at E)
 obtain⟨b,hb,E⟩:=Option.bind_eq_some_iff.1 E;simp only[YB,YD]at E;rw[<-E.1]
theorem Zb (b n E:Nat)(a:Option Addr)(bs:List Nat)(w:World)(a0:w.heap[b]? =some (.cells #[.slice a n E,.int .i64 0] 116 (0,0)))(an:ZRow w b a n E bs)(be:Z5x bs):
 Calls Tryz.prog 65 #[.pointer (some ⟨b,0,none⟩)] w fun e w'=>Z24 w b a n E bs e w':=by
 have hb:b<w.heap.size:=(VK.1 a0).1;have aq:=an.len;have ce:=an.few;have ae:=Ab an;have bn:=Ab be;clear be;have bt:Hid (ERd w b a n E bs (.slice none 0 0) [] 0 w):=Ab ⟨⟨a0,Below.refl _ _,fun _ _ _=>rfl⟩,ERow.nil _ _,(fun x av=>absurd av XE),(fun x av=>absurd av XE)⟩;clear a0 an;go_enter Tryz.func65,Tryz.ntmps65
 go_wp2;go_loopw [3] (fun v wr=>∃(es:List Ev) (q F:Nat),q<=n/\n-q<F/\Hid ((Cd F (bs.drop q)).map (es.map Ev.e++ ·)=Cd (n+1) bs)/\Hid (es.length*41<=q)/\Hid (ERd w b a n E bs v es q wr)) (fun v _=>n+1-Z8j v)
 case atStart=>exact⟨[],0,n+1,VH _,by omega,Ab (by rw[List.drop_zero];cases Cd (n+1) bs<;>simp),Ab (VH _),bt⟩
 case round=>
  obtain⟨es,q,F,ba,cg,T,ax,M⟩:=hrel;obtain⟨F,rfl⟩:∃bu,F=bu+1:=⟨F-1,by omega⟩
  have au:=(Aa ae).after (Aa M).z;have a4:=au.val;obtain⟨x4,ap⟩:=exq ((bs.drop q).take 4);obtain⟨aa,aj⟩:=exq (q+4);have bb:=Ex a4 q 4;obtain⟨m,hm⟩:=exq (Ak x4);rw[ap,hm]at bb;simp only[Nat.reducePow]at bb;have ai:=Ab (Et b q 4 n E a bs wr (Aa M).z.is ba au (by decide));rw[ap,aj,hm]at ai;have G:Hid ((aa<=n->Dy 4 (bs.drop q)=some (x4,bs.drop aa))/\(n<aa->Dy 4 (bs.drop q)=none)):=Ab ⟨fun h=>by rw[<-ap];exact Dt aq aj h,fun h=>Cc aq aj ba h⟩;have ab:=Ab hm;have bc:=Ab aj;have a8:=(Aa M).row.len;have bq:=Ab a8;clear au a4 ap hm a8 aj;go_wp2_with fail
  refine(Aa ai).mono ?_;rintro e ay (⟨O,rfl,ac⟩|⟨O,rfl,ac⟩)
  . have ah:Hid (Z24 w b a n E bs Z31 ay):=Ab (.inl ⟨by rw[<-Aa T,IE ((Aa G).2 O)];rfl,rfl,q,(Aa M).z.trans ac⟩);clear ac M ai G T;go_wp2;exact⟨rfl,Aa ah⟩
  . have Z:=(Aa M).call hb (Aa ae) ac
    by_cases am:m=67324752
    . subst am;have ak:=Ab Z
      have bd:Z5u\/Ak ((bs.drop (aa+4)).take 2)≠8:=by
       rcases Aa bn with h|⟨l,a1,bm⟩
       . exact .inl h
       . refine .inr ?_;have I:=Aa T;rw[aq]at a1;rw[a1]at I
         cases H:Fe (bs.drop aa)with
         |none=>rw[Vt ((Aa G).1 O) (Aa ab) H]at I;cases I
         |some y=>
          rw[Vu ((Aa G).1 O) (Aa ab) (x:=y.1) (q':=y.2) H]at I
          cases al:Cd F y.2 with
          |none=>rw[al]at I;cases I
          |some l2=>
           rw[al]at I;simp only[Option.map_some,YB]at I;have ao:=bm y.1 (by rw[<-I];simp);rw[PX (x:=y.1) (q:=y.2) H,YK]at ao;exact ao
      have az:=Ab (EC b aa n E a bs ay Z.z.is O ((Aa ae).after Z.z) bd);clear bd;have b5:=Z.z.below.size;clear ac M ai Z;go_wp2_with fail
      refine(Aa az).mono ?_;rintro e Y (⟨H,rfl,U,ag⟩|⟨x,U,H,b7,bk,rfl,a2,ar,aw,ag⟩)
      . have ah:Hid (Z24 w b a n E bs Z31 Y):=Ab (.inl ⟨by rw[<-Aa T,Vt ((Aa G).1 O) (Aa ab) H];rfl,rfl,U,(Aa ak).z.trans ag⟩);clear ag ak az G T H;go_wp2;exact⟨rfl,Aa ah⟩
      . have as:=(Aa ak).call hb (Aa ae) ag
        have bv:Hid ((Cd F (bs.drop U)).map ((es++ [x]).map Ev.e++ ·)=Cd (n+1) bs):=Ab (by
         rw[<-Aa T,Vu ((Aa G).1 O) (Aa ab) H]
         cases Cd F (bs.drop U)<;>simp)
        have bw:Hid ((es++ [x]).length*41<=U):=Ab (by
         have:=Aa ax
         have:=Aa bc
         rw[VE,List.length_singleton];omega)
        have a6:x.lies (fun g=>some g≠(u3).ownBlock):=by
         constructor
         . intro g o af e2 e3;have al:=aw g o af e2;have ao:=((Aa ak).row.own.lt g e3.symm).2;omega
         . intro g o af e2 e3;have al:=Xm (ar w (Aa ae)) g o af e2;have ao:=((Aa ak).row.own.lt g e3.symm).1;omega
        have a3:=Ab (fun o1:Obj=>as.later ((Below.refl _ _).alloc (VB _) o1));have bg:=Ab (fun o1:Obj=>a2.below ((Below.refl Y.heap.size Y).alloc (VB _) o1));have b3:=Ab a6;have bh:=Ab ar;have bz:Hid (∀g o,x.fa=some ⟨g,o,none⟩->x.e.f.bytes≠ []->w.heap.size<=g):=Ab (fun g o af e2=>by have:=aw g o af e2;omega);have b8:=as.z.below.size;have a9:es.length+1<=100000:=by have:=Aa ax;omega
        have bj:=Ab a9
        have b0:Hid (∀o1,o1=Obj.cells x.cells.toArray 71->∀j u,x.cells[j]? =some u->(Y.alloc o1).cell? ⟨Y.heap.size,j,none⟩=some u):=Ab (fun o1 e j u bo=>by
         subst e;rw[Ac (heap_alloc_new Y _)];simpa using bo)
        clear ag as a6 a2 ar aw H a9 G az ab;unfold Ev.val;go_wp2_with (at_builtin;refine Fr _ rfl _ _ rfl w.heap.size _ es rfl (Aa a3 _).row Y.heap.size x rfl (Aa b0 _ rfl) (Aa bg _) (Aa b3) (Aa bj) (by simp;omega) ?_)
        intro v' w3 bf a7;have a5:Hid (ERd w b a n E bs v' (es++ [x]) U w3):=Ab ((Aa a3 _).app hb (Aa a7) (Aa bf) (Aa bh) (Aa bz));have bi:=(Aa a5).row.len;clear bf a7;go_wp2;go_roundw
        case rel=>exact⟨es++ [x],U,F,bk,by have:=Aa bc;omega,bv,bw,a5⟩
        case measure=>
         have b4:=Aa bq;rw[VE,List.length_singleton]at bi;have b9:=Aa ax;simp
         omega
    . have ah:Hid (Z24 w b a n E bs (.returned u3) ay):=Ab (.inr ⟨u3,es,aa,by rw[<-Aa T,IF ((Aa G).1 O) (by rw[Aa ab];exact am)];simp,rfl,Z⟩);have cd:=TI m am;clear ac M ai G T Z am;go_wp2;go_ret;exact Aa ah
theorem SM (v:Value)(w:World):(Instr.typeAssert (.iface 165 v) 20 165 true).run Tryz.prog w=.ok (.tuple #[v,.bool true]) w:=by kernel_rfl
theorem SN (w:World):(Instr.typeAssert .nilIface 20 165 true).run Tryz.prog w=.ok (.tuple #[.agg #[],.bool false]) w:=by kernel_rfl
theorem Q5 (p:Addr)(y:Int)(E:List PanicEntry)(w:World)(M:w.cell? p=some (.int .i64 y))(O:w.frozen? p=false)(I:p.block<w.heap.size):
 CallsD Tryz.prog 99 #[.pointer (some p)] (.panicking ({v:=.iface 165 (.agg #[]),recovered:=false}::E)) w fun e F w'=>
  e=.returned (.tuple #[])/\F=.panicking ({v:=.iface 165 (.agg #[]),recovered:=true}::E)/\w'=(w.alloc (.cells #[] 165)).setCell p (.int .i64 7):=by
 refine callsD_of_wpS Tryz.func99 rfl fun U cs T=> ?_
 apply wpS_seq
 apply wpS_region
 simp[wpOpsS,go_sem,recoverD,T,Tryz.ntmps99,Exit.thenS]
 apply wpS_seq
 apply wpS_region
 simp[wpOpsS,go_sem,SM,Exit.thenS,Array.replicate]
 apply wpS_seq
 apply wpS_region
 simp[wpOpsS,go_sem,Exit.thenS]
 refine wpS_cond (t:=true) (by simp[Act.eval]) ?_;simp only[if_true];have H:=(World.cell?_alloc_lt w (.cells #[] 165) p I).trans M;have G:=(frozen?_alloc_cells w #[] 165 p).trans O;apply wpS_region
 simp[wpOpsS,go_sem,H,G,bodyPostS,results,Tryz.results99]
theorem Q6 (p:Addr)(w:World):
 CallsD Tryz.prog 99 #[.pointer (some p)] .returning w fun e E w'=>
  e=.returned (.tuple #[])/\E=.returning/\w'=w.alloc (.cells #[] 165):=by
 refine callsD_of_wpS Tryz.func99 rfl fun F cs G=> ?_
 apply wpS_seq
 apply wpS_region
 simp[wpOpsS,go_sem,recoverD,G,Tryz.ntmps99,Exit.thenS]
 apply wpS_seq
 apply wpS_region
 simp[wpOpsS,go_sem,SN,Exit.thenS,Array.replicate]
 apply wpS_seq
 apply wpS_region
 simp[wpOpsS,go_sem,Exit.thenS]
 refine wpS_cond (t:=false) (by simp[Act.eval]) ?_;simp only[Bool.false_eq_true,if_false];apply wpS_seq
 apply wpS_region
 simp[wpOpsS,go_sem,Exit.thenS]
 refine wpS_cond (t:=false) (by simp[Act.eval]) ?_;simp only[Bool.false_eq_true,if_false];refine wpS_of_wp (wp_skip ?_)
 cases F
 simp_all [bodyPostS,results,Tryz.results99]
theorem Q4 (F:Nat)(Z:Array Value)(Q:Bool->World->Prop)(w:World)(ai:∀(args:Array Value) (w:World),(callFunc F args).run Tryz.prog w=.ok (.enter F args) w)
 (ag:Calls Tryz.prog F Z (w.alloc (.cells #[.int .i64 0] 24)) fun e w'=>((Q true w'/\e=.returned (.tuple #[]))\/ (Q false w'/\e=Z31))/\w'.heap[w.heap.size]? =some (.cells #[.int .i64 0] 24 (0,0))):
 Calls Tryz.prog 63 #[.func (.func F) #[] Z] w fun e E=>∃t w',Q t w'/\e=.returned (.int .i64 (if t=true then 0 else 7))/\w'.heap.size<=E.heap.size/\(∀j,j<w'.heap.size->j≠w.heap.size->(E.heap[j]? =w'.heap[j]?))/\∀B,B<=w.heap.size->Below B w' E:=by
 have ah:∀(U:Fn) (first cap:Array Value) (w:World),(Instr.makeFunc U first cap).run Tryz.prog w=.ok (.func U first cap) w:=fun _ _ _ _=>rfl
 go_enter_defers Tryz.func63,Tryz.ntmps63
 go_wp2;refine ag.mono ?_;rintro e w' ⟨af,hb⟩;have I:w.heap.size<w'.heap.size:=(VK.1 hb).1;have G:w'.cell? ⟨w.heap.size,0,none⟩=some (.int .i64 0):=by simp[World.cell?,hb]
 have ac:w'.frozen? ⟨w.heap.size,0,none⟩=false:=by simp[World.frozen?,hb]
 rcases af with ⟨M,rfl⟩|⟨M,rfl⟩
 . go_wp2;refine leaves_cons (f:=99) (args:= #[.pointer (some ⟨w.heap.size,0,none⟩)]) (by simp) (by simp[go_sem]) ?_;refine(Q6 ⟨w.heap.size,0,none⟩ _).mono ?_;rintro e aa E ⟨rfl,rfl,rfl⟩;have c1:((w'.setCell ⟨w.heap.size,0,none⟩ (.int .i64 0)).alloc (.cells #[] 165)).cell? ⟨w.heap.size,0,none⟩=some (.int .i64 0):=(World.cell?_alloc_lt _ _ _ (by simpa using I)).trans (World.cell?_setCell_same _ _ _ G);simp[Leaves,settle,results,Tryz.results63,go_sem,c1]
   refine⟨w',M,by omega,fun j H hn=> ?_,fun B O=> ?_⟩
   rotate_left
   . have ae:=(Below.refl B w').grown (Ad w' w.heap.size 0 (.int .i64 0)) (by omega) (fun g e=>by cases e;exact O);exact ae.alloc (by simp;omega) _
   exact(Below.heap_alloc _ _ j (by simpa using H)).trans (Below.heap_setCell _ _ _ j hn)
 . go_wp2;refine leaves_cons (f:=99) (args:= #[.pointer (some ⟨w.heap.size,0,none⟩)]) (by simp) (by simp[go_sem]) ?_;refine(Q5 ⟨w.heap.size,0,none⟩ 0 [] _ G ac I).mono ?_;rintro e aa E ⟨rfl,rfl,rfl⟩;have c1:((w'.alloc (.cells #[] 165)).setCell ⟨w.heap.size,0,none⟩ (.int .i64 7)).cell? ⟨w.heap.size,0,none⟩=some (.int .i64 7):=World.cell?_setCell_same _ _ _ ((World.cell?_alloc_lt _ _ _ I).trans G);have Y:∀j,j<w'.heap.size->¬j=w.heap.size->((w'.alloc (.cells #[] 165)).setCell ⟨w.heap.size,0,none⟩ (.int .i64 7)).heap[j]? =w'.heap[j]? :=fun j H hn=>(Below.heap_setCell _ _ _ j hn).trans (Below.heap_alloc _ _ j H)
   have ab:((w'.alloc (.cells #[] 165)).setCell ⟨w.heap.size,0,none⟩ (.int .i64 7)).heap.size=w'.heap.size+1:=by simp
   have T:∀B,B<=w.heap.size->Below B w' ((w'.alloc (.cells #[] 165)).setCell ⟨w.heap.size,0,none⟩ (.int .i64 7)):=fun B O=>
    ((Below.refl B w').alloc (by omega) _).grown (Ad _ w.heap.size 0 _) (by simp;omega) (fun g e=>by cases e;exact O)
   generalize (w'.alloc (.cells #[] 165)).setCell ⟨w.heap.size,0,none⟩ (.int .i64 7)=W at c1 Y ab T ⊢;simp[Leaves,settle,results,Tryz.results63,go_sem,c1]
   exact⟨w',M,by omega,Y,T⟩
theorem PkIn.keepX {w w':World}{X c:Nat}{a:Option Addr}{ys:List Nat}(F:PkIn w a c ys)(O:w.heap.size<=w'.heap.size)(G:∀g,g<w.heap.size->g≠X->w'.heap[g]? =w.heap[g]?)(M:∀g o,a=some ⟨g,o,none⟩->ys≠ []->g≠X):PkIn w' a c ys:=by
 refine⟨?_,F.2⟩
 by_cases E:ys= []
 . exact .inl E
 . rcases F.1 with I|⟨b,o,e,hb,hc⟩
   . exact absurd I E
   . exact .inr ⟨b,o,e,by omega,fun j H=>(World.cell?_of_block (w:=w) (a:=⟨b,_,none⟩) (G b hb (M b o e E))).trans (hc j H)⟩
theorem ERow.keepX {w w':World}{B X:Nat}{v:Value}{xs:List Ev}(F:ERow w B v xs)(O:w.heap.size<=w'.heap.size)(H:∀g,g<w.heap.size->g≠X->w'.heap[g]? =w.heap[g]?)(U:some X≠v.ownBlock)(M:∀x∈xs,x.lies (fun g=>g≠X)):ERow w' B v xs:=by
 refine⟨Au F.own (fun g I=>H g (F.own.lt g I).2 (fun e=>U (by rw[<-e,I]))),fun x G=> ?_,F.apart⟩;have E:=F.all x G;exact⟨E.fb.keepX O H (fun g o T e2=>(M x G).1 g o T (NM e2)),E.fl,E.big,E.txt,E.pk.keepX O H (M x G).2⟩
theorem ERow.mono {w:World}{B B':Nat}{v:Value}{xs:List Ev}(E:ERow w B v xs)(F:B'<=B):ERow w B' v xs:=⟨Pa E.own F,E.all,E.apart⟩
def ClA (w:World)(bs:List Nat)(n:Nat)(t:Bool)(w':World):Prop:=
 Below w.heap.size w w'/\w.heap.size+3<=w'.heap.size/\((t=true/\∃v es,Cd (n+1) bs=some (es.map Ev.e)/\w'.heap[w.heap.size+1]? =some (.cells #[v] 69 (0,0))/\ERow w' (w.heap.size+3) v es/\∀x∈es,x.lies (fun g=>g<w.heap.size\/w.heap.size+3<=g))\/ (t=false/\Cd (n+1) bs=none/\w'.heap[w.heap.size+1]? =some (.cells #[.slice none 0 0] 69 (0,0))))
theorem Zc (n G:Nat)(a:Option Addr)(bs:List Nat)(w W:World)(ao:Z5x bs)(E:ZRow w w.heap.size a n G bs)(al:Below w.heap.size w W)(aa:W.heap.size=w.heap.size+3)(Z:W.heap[w.heap.size]? =some (.cells #[.slice a n G] 23 (0,0)))(ag:W.heap[w.heap.size+1]? =some (.cells #[.slice none 0 0] 69 (0,0)))(ap:W.heap[w.heap.size+2]? =some (.cells #[.int .i64 0] 24 (0,0))):
 Calls Tryz.prog 64 #[.pointer (some ⟨w.heap.size,0,none⟩),.pointer (some ⟨w.heap.size+1,0,none⟩)] W fun e w'=>((ClA w bs n true w'/\e=.returned (.tuple #[]))\/ (ClA w bs n false w'/\e=Z31))/\w'.heap[w.heap.size+2]? =some (.cells #[.int .i64 0] 24 (0,0)):=by
 have ae:∀g o,a=some ⟨g,o,none⟩->bs≠ []->g<w.heap.size:=fun g o e T=>by
  rcases E.byt with h|⟨b,a3,am,hb,_⟩
  . exact absurd h T
  . rw[e]at am;cases am;exact hb
 obtain⟨W1,O⟩:=exq (W.alloc (.cells #[.slice a n G,.int .i64 0] 116));have a4:W1.heap.size=w.heap.size+4:=by rw[<-O];simp[aa]
 have ah:∀g,g<W.heap.size->W1.heap[g]? =W.heap[g]? :=fun g M=>by rw[<-O];exact Below.heap_alloc _ _ g M
 have ar:W1.heap[w.heap.size+3]? =some (.cells #[.slice a n G,.int .i64 0] 116 (0,0)):=by
  have:=heap_alloc_new W (.cells #[.slice a n G,.int .i64 0] 116)
  rw[aa]at this;rw[<-O];exact this
 have ai:Below w.heap.size w W1:=by rw[<-O];exact al.alloc (by omega) _
 have aq:ZRow W1 (w.heap.size+3) a n G bs:=⟨E.len,E.few,E.room,E.nil,(PkIn.below ⟨E.byt,E.nil⟩ ai).1,E.val,fun g o e T=>by have:=ae g o e T;omega⟩
 have ax:=Ab (Zb (w.heap.size+3) n G a bs W1 ar aq ao);have c1:=Ac (i:=0) Z;simp only[VZ,VY]at c1;have ak:=Ab ((ah _ (by omega)).trans ag);have as:=Ab ((ah _ (by omega)).trans ap);have an:=Ab ai;have a0:=Ab ae;have aw:Hid (ZRow w (w.heap.size+3) a n G bs):=Ab ⟨E.len,E.few,E.room,E.nil,E.byt,E.val,fun g o e T=>by have:=ae g o e T;omega⟩;have ay:=Ab aa;have az:=Ab O;clear E al Z ag ap ae ah ar ai aq aa O ao;go_enter Tryz.func64,Tryz.ntmps64
 go_wp2_with fail
 rw[Aa ay,Aa az];refine(Aa ax).mono ?_;rintro e H (⟨Y,rfl,q,U⟩|⟨v,es,q,Y,rfl,F⟩)
 . have I:Hid (ClA w bs n false H/\H.heap[w.heap.size+2]? =some (.cells #[.int .i64 0] 24 (0,0))):=Ab (by
    have av:=U.below.size;refine⟨⟨(Aa an).trans (U.below.mono (by omega)),by omega,.inr ⟨rfl,Y,(U.keep _ (by omega) (by omega)).trans (Aa ak)⟩⟩,(U.keep _ (by omega) (by omega)).trans (Aa as)⟩)
   clear U Y;go_wp2;exact⟨rfl,.inr ⟨(Aa I).1,rfl⟩,(Aa I).2⟩
 . have av:=F.z.below.size;have ac:=(F.z.keep _ (by omega) (by omega)).trans (Aa ak);have M:=Ad H (w.heap.size+1) 0 v
   have aj:∀x∈es,x.lies (fun g=>g<w.heap.size\/w.heap.size+3<=g):=fun x ab=>by
    constructor
    . intro g o af e2;have:=F.fas x ab g o af e2
      omega
    . intro g o af e2;exact .inl (Xm (F.pks x ab w (Aa aw)) g o af e2)
   have I:Hid (ClA w bs n true (H.setCell ⟨w.heap.size+1,0,none⟩ v)/\(H.setCell ⟨w.heap.size+1,0,none⟩ v).heap[w.heap.size+2]? =some (.cells #[.int .i64 0] 24 (0,0))):=Ab (by
    refine⟨⟨((Aa an).trans (F.z.below.mono (by omega))).grown M (by omega) (fun g e=>by cases e;omega),by simp;omega,.inl ⟨rfl,v,es,Y,by rw[heap_setCell_same H _ 0 _ _ _ ac];rfl, ?_,aj⟩⟩, ?_⟩
    . refine(F.row.keepX (X:=w.heap.size+1) (by simp) (fun g Z ag=>M.block g Z (by simp;omega)) ?_ (fun x ab=>(aj x ab).mono (fun g h=>by omega))).mono (by omega);intro e;have:=(F.row.own.lt _ e.symm).1
      omega
    . exact(M.block _ (by omega) (by simp)).trans ((F.z.keep _ (by omega) (by omega)).trans (Aa as)))
   have c2:=Ac (i:=0) ac;simp only[VZ,VY]at c2;have f2:=frozen_of_row H (w.heap.size+1) 0 _ _ ac;obtain⟨a2,a5,rfl⟩:=An F.row.own;obtain⟨a1,au⟩:=exq (es.length);rw[au]at I ⊢;clear F Y M aj ac au;go_wp2;go_end0
   exact⟨.inl ⟨(Aa I).1,rfl⟩,(Aa I).2⟩
def EnA (w:World)(bs:List Nat)(n:Nat)(e:Ending)(w':World):Prop:=
 Below w.heap.size w w'/\((Cd (n+1) bs=none/\e=.returned (.tuple #[.slice none 0 0,.int .i64 7]))\/∃v es,Cd (n+1) bs=some (es.map Ev.e)/\e=.returned (.tuple #[v,.int .i64 0])/\ERow w' w.heap.size v es/\∀x∈es,x.lies (fun g=>g<w.heap.size\/w.heap.size+3<=g))
theorem Yk (n E:Nat)(a:Option Addr)(bs:List Nat)(w:World)(aw:bs.length=n)(a6:n<=12000)(a9:n<=E)(ae:PkIn w a E bs)(I:∀x∈bs,x<256)(as:Z5x bs):
 Calls Tryz.prog 41 #[.slice a n E] w fun e w'=>EnA w bs n e w':=by
 have bb:∀(am:Fn) (first E:Array Value) (w:World),(Instr.makeFunc am first E).run Tryz.prog w=.ok (.func am first E) w:=fun _ _ _ _=>rfl
 have ax:ZRow w w.heap.size a n E bs:=⟨aw,a6,a9,ae.2,ae.1,I,fun g o e az=>by have:=Xm ae g o e az;omega⟩
 obtain⟨F,O⟩:=exq ((w.alloc (.cells #[.slice a n E] 23)).alloc (.cells #[.slice none 0 0] 69));have T:F.heap.size=w.heap.size+2:=by rw[<-O];simp
 have aq:Below w.heap.size w F:=by rw[<-O];exact((Below.refl _ _).alloc (VB _) _).alloc (by simp) _
 have ap:F.heap[w.heap.size]? =some (.cells #[.slice a n E] 23 (0,0)):=by rw[<-O];exact(Below.heap_alloc _ _ _ (by simp)).trans (heap_alloc_new w _)
 have au:F.heap[w.heap.size+1]? =some (.cells #[.slice none 0 0] 69 (0,0)):=by
  have:=heap_alloc_new (w.alloc (.cells #[.slice a n E] 23)) (.cells #[.slice none 0 0] 69)
  rw[<-O];simpa using this
 have ai:∀o,∀g,g<F.heap.size->(F.alloc o).heap[g]? =F.heap[g]? :=fun o g H=>Below.heap_alloc _ _ g H
 have a1:=Ab as;clear as
 have av:=Zc n E a bs w (F.alloc (.cells #[.int .i64 0] 24)) (Aa a1) ax (aq.alloc (by omega) _) (by simp[T]) ((ai _ _ (by omega)).trans ap) ((ai _ _ (by omega)).trans au) (by
  have:=heap_alloc_new F (.cells #[.int .i64 0] 24)
  rw[T]at this;exact this)
 have a3:=Ab (Q4 64 #[.pointer (some ⟨w.heap.size,0,none⟩),.pointer (some ⟨w.heap.size+1,0,none⟩)] (ClA w bs n) F (fun _ _=>rfl) (by
  refine av.mono ?_;rintro e w' ⟨ag,ao⟩;rw[T];exact⟨ag,ao⟩))
 have a0:=Ab O;have ar:=Ab T;clear ax ae I aw av ai ap au aq O T;go_enter Tryz.func41,Tryz.ntmps41
 go_wp2_with fail
 rw[Aa a0];refine(Aa a3).mono ?_;rintro e G ⟨t,bc,⟨ak,ba,a8⟩,rfl,a5,U,al⟩;have Z:=ak.trans (al w.heap.size (by rw[Aa ar];omega));have T:=Aa ar
 rcases a8 with ⟨rfl,v,es,Y,I,af,ab⟩|⟨rfl,Y,I⟩
 . have M:=(U (w.heap.size+1) (by omega) (by omega)).trans I;have c2:=Ac (i:=0) M;simp only[VZ,VY]at c2;have f2:=frozen_of_row G (w.heap.size+1) 0 _ _ M;have ah:ERow G (w.heap.size+3) v es:=af.keepX (X:=F.heap.size) a5 U (fun e=>by have:=(af.own.lt _ e.symm).1;omega) (fun x aj=>(ab x aj).mono (fun g h=>by omega));have H:=Ad G (w.heap.size+1) 0 v;have an:ERow (G.setCell ⟨w.heap.size+1,0,none⟩ v) (w.heap.size+3) v es:=ah.keepX (X:=w.heap.size+1) (by simp) (fun g ag ao=>H.block g ag (by simp;omega)) (fun e=>by have:=(ah.own.lt _ e.symm).1;omega) (fun x aj=>(ab x aj).mono (fun g h=>by omega));have aa:Hid (EnA w bs n (.returned (.tuple #[v,.int .i64 0])) (G.setCell ⟨w.heap.size+1,0,none⟩ v)):=Ab ⟨Z.grown H (by omega) (fun g e=>by cases e;omega),.inr ⟨v,es,Y,rfl,an.mono (by omega),ab⟩⟩;have ac:(G.setCell ⟨w.heap.size+1,0,none⟩ v).cell? ⟨w.heap.size+1,0,none⟩=some v:=World.cell?_setCell_same _ _ _ c2;obtain⟨a4,a7,rfl⟩:=An af.own;obtain⟨a2,ay⟩:=exq (es.length);rw[ay]at aa c2 ac;clear af ah an I M Y ab U al ak Z H ay;go_wp2;refine bodyPost_ret (v:=.tuple #[.slice a4 a2 a7,.int .i64 0]) ?_ rfl (Aa aa);simp[results,Tryz.results41,go_sem,ac]
 . have M:=(U (w.heap.size+1) (by omega) (by omega)).trans I;have c2:=Ac (i:=0) M;simp only[VZ,VY]at c2;have f2:=frozen_of_row G (w.heap.size+1) 0 _ _ M;have H:=Ad G (w.heap.size+1) 0 (.slice none 0 0);have aa:Hid (EnA w bs n (.returned (.tuple #[.slice none 0 0,.int .i64 7])) (G.setCell ⟨w.heap.size+1,0,none⟩ (.slice none 0 0))):=Ab ⟨Z.grown H (by omega) (fun g e=>by cases e;omega),.inl ⟨Y,rfl⟩⟩;have ac:(G.setCell ⟨w.heap.size+1,0,none⟩ (.slice none 0 0)).cell? ⟨w.heap.size+1,0,none⟩=some (.slice none 0 0):=World.cell?_setCell_same _ _ _ c2;clear I M Y U al ak Z H;go_wp2;refine bodyPost_ret (v:=.tuple #[.slice none 0 0,.int .i64 7]) ?_ rfl (Aa aa);simp[results,Tryz.results41,go_sem,ac]
def fcells (xs:List Fv):List Value:=xs.flatMap Fv.cells
theorem IA (xs ys:List Fv):fcells (xs++ys)=fcells xs++fcells ys:=by simp[fcells]
theorem GZ (y:Fv):fcells [y]=y.cells:=by simp[fcells]
theorem Sa:∀(xs:List Fv) (j:Nat) (x:Fv) (i:Nat),xs[j]? =some x->i<5->(fcells xs)[j*5+i]? =x.cells[i]?
 | [],j,x,i,h,_=>by simp at h
 |y::r,0,x,i,h,hi=>by
  have:fcells (y::r)=y.cells++fcells r:=rfl
  simp at h
  subst h;rw[this,YJ,WG,WN (show i<5 from hi)]
 |y::r,j+1,x,i,h,hi=>by
  have e:fcells (y::r)=y.cells++fcells r:=rfl;have hl:y.cells.length=5:=rfl;have ih:=Sa r j x i (by simpa using h) hi;rw[e,VX (by rw[hl];omega),hl,show (j+1)*5+i-5=j*5+i by omega,ih]
theorem QW (y:Fv):∀u∈y.cells,u.oneCell'=true:=by
 intro u E;simp only[Fv.cells,Fv.sl,WH,XE,or_false]at E
 rcases E with rfl|rfl|rfl|rfl|rfl<;>rfl
theorem OJ:(Tryz.prog.info? 30).map (fun i=>(i.zero,i.size,i.bytes))=some (some (.agg #[.string ⟨#[]⟩,.slice none 0 0,.int .i64 0,.int .i64 0,.bool false]),5,64):=by kernel_rfl
def Ev.fv (x:Ev):Fv:=⟨x.e.f,x.fa,x.fc⟩
structure GR (w:World)(B:Nat)(v:Value)(xs:List Ev):Prop where
 own:w.ownsRow B 30 5 v xs.length (fcells (xs.map Ev.fv))
 all:∀x∈xs,EvIn w x
 apart:∀x∈xs,x.lies (fun g=>some g≠v.ownBlock)
theorem GR.nil (w:World)(B:Nat):GR w B (.slice none 0 0) []:=⟨World.ownsRow_nil _ _ _ _,(fun x E=>absurd E XE),(fun x E=>absurd E XE)⟩
theorem GR.below {w w':World}{B:Nat}{v:Value}{xs:List Ev}(E:GR w B v xs)(F:Below w.heap.size w w'):GR w' B v xs:=
 ⟨Au E.own (fun g H=>F.block g (E.own.lt g H).2),fun x G=>(E.all x G).below F,E.apart⟩
theorem Ij (w:World){Y:Array Oper}{T:List Oper}{o:Oper}{a:Act}{Q:Exit->Act->World->Prop}(af:o.guard=none)(s x:Operand)
 (al:o.op=.call {callee:=.builtin .append,args:= #[s,x],argTypes:= #[22,22]}) (G:Nat) (v:Value) (xs:List Ev) (ai:a.eval s=v) (I:GR w G v xs)
 (F:Nat) (y:Ev) (aa:a.eval x=.slice (some ⟨F,0,none⟩) 1 1) (ac:∀j u,y.fv.cells[j]? =some u->w.cell? ⟨F,j,none⟩=some u) (an:EvIn w y) (ab:y.lies (fun F=>some F≠v.ownBlock)) (ao:xs.length+1<=100000) (U:G<=w.heap.size)
 (h:∀v' w',Hid (GR w' G v' (xs++ [y]))->Hid (w.grownBy w' v.ownBlock)->Hid (Below G w w')->wpList Tryz.prog Y Q T (a.put o.dst v') w'):wpList Tryz.prog Y Q (o::T) a w:=by
 obtain⟨ae,hi,aj,ag,am⟩:=info_parts OJ;refine wpList_append_own_at w af s x 22 al G 30 ae _ 5 64 Tryz.underlying22 hi aj ag am rfl (by decide) v xs.length (fcells (xs.map Ev.fv)) ai I.own ⟨F,0,none⟩ 1 1 y.fv.cells aa rfl ?_ (QW y.fv) (by unfold maxLen;omega) (by omega) U ?_
 . intro j u ak;have e2:(⟨F,0,none⟩:Addr).add j=⟨F,j,none⟩:=by unfold Addr.add;split<;>simp_all
   rw[e2];exact ac j u ak
 . intro v' w' ah M _ H
   have O:∀z∈xs++ [y],z.lies (fun F=>some F≠v.ownBlock):=by
    intro z E
    rcases WP.1 E with E|E
    . exact I.apart z E
    . rw[WO.1 E];exact ab
   have Z:∀z∈xs++ [y],EvIn w z:=by
    intro z E
    rcases WP.1 E with E|E
    . exact I.all z E
    . rw[WO.1 E];exact an
   refine h v' w' (Ab ⟨?_,fun z E=>(Z z E).grown M (O z E),fun z E=> ?_⟩) (Ab M) (Ab ((Below.refl G w).grown M U (fun k e=>(I.own.lt k e).1)))
   . rw[WU,IA,List.map_singleton,GZ,VE];exact ah
   . have hl:=(Z z E).lt;have hn:=O z E
     rcases H with H|H
     . rw[H];exact hn
     . rw[H];exact hl.mono (fun F ap e=>by have:=VM e;omega)
theorem GR.files {w:World}{B:Nat}{v:Value}{xs:List Ev}(F:GR w B v xs)(ae:xs.length<=100000):∃ad c,v=.slice ad xs.length c/\FsIn w ad c (xs.map Ev.fv):=by
 have Z:∀x∈xs.map Ev.fv,FvIn w x:=by
  intro x T;obtain⟨y,aa,rfl⟩:=XG.1 T;exact(F.all y aa).fv
 have G:(xs.map Ev.fv).length=xs.length:=by simp
 rcases F.own.2 with ⟨E,M⟩|⟨g,cap,cur,E,M,ac,Y,I,af⟩
 . have:xs= []:=WV M
   subst this;exact⟨none,0,E,FsIn.nil w⟩
 . refine⟨some ⟨g,0,none⟩,cap,E,.inr ⟨g,0,rfl,(F.own.lt g (by rw[E];rfl)).2, ?_⟩,by rw[G];exact Y,by unfold maxLen at I;exact I,by rw[G];omega,Z⟩;intro j x O;have U:=(XT.1 O).1;rw[G]at U
   have hc:∀i u,i<5->x.cells[i]? =some u->w.cell? ⟨g,0+j*5+i,none⟩=some u:=by
    intro i u hi ab;have e:=Sa (xs.map Ev.fv) j x i O hi;have H:=F.own;rw[E]at H;rw[WG,H.cellAt _ (by omega)];rw[e,ab]
   exact⟨hc 0 _ (by decide) rfl,hc 1 _ (by decide) rfl,hc 2 _ (by decide) rfl,hc 3 _ (by decide) rfl,hc 4 _ (by decide) rfl⟩
theorem Z1 (M:Option Addr)(c n:Nat)(E:List Ev)(w:World)(O:EsIn w M c E)(ag:E.length=n)(a3:n<=20000):
 Calls Tryz.prog 42 #[.slice M n c] w fun e w'=>∃v,e=.returned v/\GR w' w.heap.size v E/\Below w.heap.size w w':=by
 have ac:=Ab O;have ae:=Ab ag;clear O ag;go_enter Tryz.func42,Tryz.ntmps42
 go_wp2;go_loopw [3,5,8] (fun al _ i wr=>∃k:Nat,k<=n/\i=.int .i64 (k:Int)/\Hid (GR wr w.heap.size al (E.take k))/\Hid (Below w.heap.size w wr)) (fun _ _ i _=>n-(intOf i).toNat)
 case atStart=>exact⟨0,VH _,rfl,Ab (GR.nil _ _),Ab (Below.refl _ _)⟩
 case round=>
  obtain⟨k,a1,rfl,I,F⟩:=hrel
  by_cases ao:k<n
  . obtain⟨x,H,Z⟩:∃x,E[k]? =some x/\x∈E:=⟨E[k]'(by rw[Aa ae];exact ao),VP _,WK _⟩
    obtain⟨b,o,rfl,hb,c0,c1,c2,aw,ay,aq,az,ap⟩:=(Aa ac).get (Aa F) H;have ah:=(Aa F).size;have G:=(Aa ac).all x Z;have as:=Ab (Eu H);have aj:=Ab (fun o1 o2:Obj=>(G.below ((Aa F).trans ((Below.refl w.heap.size wr).alloc ah o1))).below ((Below.refl _ _).alloc (VB _) o2));have aa:x.lies (fun g=>some g≠u3.ownBlock):=G.lt.mono (fun g a2 e=>by have:=((Aa I).own.lt g e.symm).1;omega);have a0:=Ab aa;have ak:=Ab (fun o1 o2:Obj=>((Aa I).below ((Below.refl _ _).alloc (VB _) o1)).below ((Below.refl _ _).alloc (VB _) o2));have au:=Ab (fun o1 o2:Obj=>((Aa F).alloc ah o1).alloc (by simp;omega) o2);have Y:(E.take k).length+1<=100000:=by rw[VL];omega
    have ai:=Ab Y
    have ax:Hid (∀o1 o2,o2=Obj.cells x.fv.cells.toArray 30->∀j u,x.fv.cells[j]? =some u->((wr.alloc o1).alloc o2).cell? ⟨wr.heap.size+1,j,none⟩=some u):=Ab (fun o1 o2 e j u an=>by
     subst e;have ab:=heap_alloc_new (wr.alloc o1) (.cells x.fv.cells.toArray 30);simp only[World.size_alloc]at ab;rw[Ac ab];simpa using an)
    clear H Z G aa Y;go_wp2_with (at_builtin;refine Ij _ rfl _ _ rfl w.heap.size _ (E.take k) rfl (Aa ak _ _) (wr.heap.size+1) x rfl (Aa ax _ _ rfl) (Aa aj _ _) (Aa a0) (Aa ai) (by simp;omega) ?_)
    intro v' w3 T _ U;have ar:Hid (GR w3 w.heap.size v' (E.take (k+1))):=Ab (by rw[Aa as];exact Aa T);have av:=Ab ((Aa au _ _).trans (Aa U));clear T U c0 c1 c2 aw ay aq az ap;go_wp2;go_roundw
    case rel=>exact⟨k+1,by omega,by go_num,ar,av⟩
    case measure=>simp[intOf];omega
  . obtain rfl:n=k:=by omega
    have af:E.take n=E:=VV (by rw[Aa ae];exact VB _);have am:=Ab af;clear af;go_wp2;go_ret;exact⟨_,rfl,by have:=Aa I;rw[Aa am]at this;exact this,Aa F⟩
end Go.Proofs.YtleocpdblhbimaaGreatDoor
