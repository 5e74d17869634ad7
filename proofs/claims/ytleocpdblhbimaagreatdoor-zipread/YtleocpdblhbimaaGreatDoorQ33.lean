import Derived.Test.YtleocpdblhbimaaGreatDoorQ32
import Derived.Laws.EntriesVeiled
import Derived.Test.YtleocpdblhbimaaGreatDoorQ21
import Derived.Laws.Tables
import Derived.Laws.Rows
import Derived.Laws.ResultCell
import Derived.Deep.RegionHeld3
import Derived.Deep.WholeRow
import Derived.Laws.CopyRow
set_option linter.unusedSimpArgs false
set_option linter.unusedVariables false
set_option maxRecDepth 100000
set_option maxHeartbeats 4000000
namespace Go.Proofs.YtleocpdblhbimaaGreatDoor
open Go.RowKit
theorem Sp (b o I E G:Nat)(l:List Int)(w:World)(U:l.length=E)(ao:1<=E)(Z:b<w.heap.size)(ae:Row .i64 w b o l)(ac:Good l):
 Calls Tryz.prog 210 #[.pointer (some ⟨I,0,none⟩),.slice (some ⟨b,o,none⟩) E G] w fun e w'=>∃gc gl gr,e=.returned (CV gc gl gr)/\CIs (fun g=>w.heap.size<=g\/g=b) w' gc gl gr I (some ⟨b,o,none⟩) E G l/\Below w.heap.size w w':=by
 have af:=Ab ae;have aj:=Ab ac;have T:=Ab U;clear ae ac U;go_enter Tryz.func210,Tryz.ntmps210
 go_wp2_with fail
 refine(DM (some ⟨b,o,none⟩) E G l _ (Aa T) (RowIn.alloc (RowIn.alloc (.inr ⟨b,o,rfl,Z,Aa af⟩) _) _) (Aa aj)).mono ?_;rintro e M ⟨g,rfl,O,H,Y⟩;have ak:=H.size;simp only[World.size_alloc]at ak Y
 have ag:Hid (CIs (fun g=>w.heap.size<=g\/g=b) (M.alloc (.cells #[.slice (some ⟨g,0,none⟩) E E] 76)) M.heap.size (w.heap.size+1) w.heap.size I (some ⟨b,o,none⟩) E G l/\Below w.heap.size w (M.alloc (.cells #[.slice (some ⟨g,0,none⟩) E E] 76))):=by
  have al:=(Below.refl w.heap.size w).alloc (VB _) (.cells #[.pointer (some ⟨I,0,none⟩)] 177);have b1:=al.alloc (by simp) (.cells #[.slice (some ⟨b,o,none⟩) E G] 76);have b2:=b1.trans (H.mono (by simp;omega));have aa:=b2.alloc (by omega) (.cells #[.slice (some ⟨g,0,none⟩) E E] 76);have ai:=(O.lt g rfl).2;refine⟨⟨⟨g,b,o,rfl,⟨by simp;omega,.inr rfl⟩,⟨by simp;omega,.inl (by omega)⟩,by simp,fun j F=>(aa.cell (p:=⟨b,_,none⟩) Z).trans (Aa af j F), ?_⟩, ?_, ?_,⟨by simp,.inl (by omega)⟩,⟨by simp;omega,.inl (by omega)⟩,⟨by simp;omega,.inl (by omega)⟩⟩,aa⟩
  . intro j F;rw[World.cell?_alloc_past _ _ _ (by simpa using ai)];rw[O.cellAt j (by omega)];have hc:=Du l E;have ah:j<(St l E).length:=by rw[hc,Aa T];exact F
    have:=Yp l (j:=j) (by rw[Aa T];exact F) E
    rw[if_pos F]at this;rw[<-this];simp[i64s,List.getD,ah]
  . rw[World.cell?_alloc_past _ _ _ (by show w.heap.size+1<_;omega),H.cell (p:=⟨w.heap.size+1,0,none⟩) (by simp only[World.size_alloc];omega)];simp
  . rw[World.cell?_alloc_past _ _ _ (by show w.heap.size<_;omega),H.cell (p:=⟨w.heap.size,0,none⟩) (by simp only[World.size_alloc];omega)];simp
 clear O H Y;go_wp2;go_ret;exact⟨_,_,_,rfl,Aa ag⟩
theorem Vd (F aa O ah G af Y aj H:Nat)(U T:List Int)(w:World)(a6:U.length=O)(ba:T.length=Y)(bi:1<=O)(a9:1<=Y)(aw:F<w.heap.size)(a1:G<w.heap.size)(az:Row .i64 w F aa U)(ax:Row .i64 w G af T)(av:Good U)(ar:Good T):
 Calls Tryz.prog 182 #[.pointer (some ⟨H,0,none⟩),.slice (some ⟨F,aa,none⟩) O ah,.slice (some ⟨G,af,none⟩) Y aj] w fun e w'=>∃gc gl gr hc hl hr,e=.returned (.agg #[CV gc gl gr,CV hc hl hr,.func (.func 147) #[.pointer (some ⟨H,0,none⟩)] #[]])/\CIs (fun g=>w.heap.size<=g\/g=F\/g=G) w' gc gl gr H (some ⟨F,aa,none⟩) O ah U/\CIs (fun g=>w.heap.size<=g\/g=F\/g=G) w' hc hl hr H (some ⟨G,af,none⟩) Y aj T/\Below w.heap.size w w':=by
 obtain⟨au,bu⟩:∃au,au=w.heap.size:=⟨_,rfl⟩
 have bj:=Ab (fun(W:World) (ag:Below w.heap.size w W)=>Sp F aa H O ah U W a6 bi (VG aw ag.size) (fun j al=>(ag.cell (p:=⟨F,_,none⟩) aw).trans (az j al)) av);have bb:=Ab (fun(W:World) (ag:Below w.heap.size w W)=>Sp G af H Y aj T W ba a9 (VG a1 ag.size) (fun j al=>(ag.cell (p:=⟨G,_,none⟩) a1).trans (ax j al)) ar);clear az ax av ar;go_enter Tryz.func182,Tryz.ntmps182
 go_wp2_with fail
 refine(Aa bj _ ((Below.refl w.heap.size w).alloc (VB _) _)).mono ?_;rintro e a4 ⟨gc,gl,gr,rfl,ay,ai⟩;have bh:=ai.size;simp only[World.size_alloc]at bh;have ao:Below w.heap.size w a4:=((Below.refl w.heap.size w).alloc (VB _) _).trans (ai.mono (by simp));have bg:=Ab ay;have a2:=Ab ai;have ap:=Ab ao;clear ay ai ao;go_wp2_with fail
 refine(Aa bb _ (Aa ap)).mono ?_;rintro e E ⟨hc,hl,hr,rfl,ak,Z⟩;have bd:=Z.size
 have M:E.heap[w.heap.size]? =some (.cells #[.nilFunc,.nilFunc,.nilFunc] 253 (0,0)):=by
  rw[Z.block _ (by omega),(Aa a2).block _ (by simp)];exact heap_alloc_new _ _
 have f0:=frozen_of_row E w.heap.size 0 _ _ M;have f1:=frozen_of_row E w.heap.size 1 _ _ M;have f2:=frozen_of_row E w.heap.size 2 _ _ M;have c0:E.cell? ⟨w.heap.size,0,none⟩=some .nilFunc:=Ac M;have bn:E.cell? ⟨w.heap.size,1,none⟩=some .nilFunc:=Ac M;have bq:E.cell? ⟨w.heap.size,2,none⟩=some .nilFunc:=Ac M;have bo:=Ab M;have bk:=Ab ak;have bm:=Ab Z
 have bc:Hid (∀I,(((E.setCell ⟨w.heap.size,0,none⟩ (CV gc gl gr)).setCell ⟨w.heap.size,1,none⟩ (CV hc hl hr)).setCell ⟨w.heap.size,2,none⟩ I).heap[w.heap.size]? =some (.cells #[CV gc gl gr,CV hc hl hr,I] 253 (0,0))/\CIs (fun g=>w.heap.size<=g\/g=F\/g=G) (((E.setCell ⟨w.heap.size,0,none⟩ (CV gc gl gr)).setCell ⟨w.heap.size,1,none⟩ (CV hc hl hr)).setCell ⟨w.heap.size,2,none⟩ I) gc gl gr H (some ⟨F,aa,none⟩) O ah U/\CIs (fun g=>w.heap.size<=g\/g=F\/g=G) (((E.setCell ⟨w.heap.size,0,none⟩ (CV gc gl gr)).setCell ⟨w.heap.size,1,none⟩ (CV hc hl hr)).setCell ⟨w.heap.size,2,none⟩ I) hc hl hr H (some ⟨G,af,none⟩) Y aj T/\Below w.heap.size w (((E.setCell ⟨w.heap.size,0,none⟩ (CV gc gl gr)).setCell ⟨w.heap.size,1,none⟩ (CV hc hl hr)).setCell ⟨w.heap.size,2,none⟩ I)):=by
  intro I;have g1:=Ad E w.heap.size 0 (CV gc gl gr);have g2:=Ad (E.setCell ⟨w.heap.size,0,none⟩ (CV gc gl gr)) w.heap.size 1 (CV hc hl hr);have g3:=Ad ((E.setCell ⟨w.heap.size,0,none⟩ (CV gc gl gr)).setCell ⟨w.heap.size,1,none⟩ (CV hc hl hr)) w.heap.size 2 I;have ae:=Aj (Aj g1 g2) g3;have a7:Below w.heap.size w E:=(Aa ap).trans (Z.mono (by omega));refine⟨?_, ?_, ?_,a7.grown ae (by omega) (fun j e=>by rw[<-VM e];exact VB _)⟩
  . rw[heap_setCell_same _ _ 2 _ _ _ (heap_setCell_same _ _ 1 _ _ _ (heap_setCell_same _ _ 0 _ _ _ M))];rfl
  . have k1:=(Aa bg).keep (W':=E) bd (fun g ac _=>Z.block g ac)
    have k2:=k1.keep (W':=((E.setCell ⟨w.heap.size,0,none⟩ (CV gc gl gr)).setCell ⟨w.heap.size,1,none⟩ (CV hc hl hr)).setCell ⟨w.heap.size,2,none⟩ I) ae.size (fun g ac hb=>ae.block g ac (fun e=>by
     have e:=VM e;simp only[World.size_alloc]at hb;omega))
    exact k2.more (fun g hb=>by simp only[World.size_alloc]at hb;omega)
  . have k2:=ak.keep (W':=((E.setCell ⟨w.heap.size,0,none⟩ (CV gc gl gr)).setCell ⟨w.heap.size,1,none⟩ (CV hc hl hr)).setCell ⟨w.heap.size,2,none⟩ I) ae.size (fun g ac hb=>ae.block g ac (fun e=>by
     have e:=VM e;omega))
    exact k2.more (fun g hb=>by omega)
 clear ak Z M;go_wp2;obtain⟨a5,a3,a8,bf⟩:=Aa bc (.func (.func 147) #[.pointer (some ⟨H,0,none⟩)] #[]);refine bodyPost_ret (v:=.agg #[CV gc gl gr,CV hc hl hr,.func (.func 147) #[.pointer (some ⟨H,0,none⟩)] #[]]) ?_ rfl ⟨gc,gl,gr,hc,hl,hr,rfl,a3,a8,bf⟩;exact results_cell_row rfl _ _ _ _ _ _ _ rfl a5 Tryz.underlying253 rfl (by kernel_rfl)
structure PJ (Bx:Nat->Prop)(B rb:Nat)(S:List Bool)(l1 l2:List Int)(gc gl gr hc hl hr b1 o1 n1 c1 b2 o2 n2 c2:Nat)(No:Nat->Prop)(is:List It)(W:World):Prop where
 row:RIs (fun g=>No g\/Bx g) B W rb (S++putIs l1 l2 is)
 ca:CIs Bx W gc gl gr rb (some ⟨b1,o1,none⟩) n1 c1 l1
 cb:CIs Bx W hc hl hr rb (some ⟨b2,o2,none⟩) n2 c2 l2
 bl:∀g,Bx g->g<W.heap.size
theorem CIs.bound {T:Nat->Prop}{W:World}{H M O I:Nat}{a:Option Addr}{Y U:Nat}{l:List Int}(E:CIs T W H M O I a Y U l):CIs (fun g=>T g/\g<W.heap.size) W H M O I a Y U l:=by
 obtain⟨gk,b,o,aa,F,G,ac,Z,ae⟩:=E.ex;exact⟨⟨gk,b,o,aa,⟨F.1,F.2,F.1⟩,⟨G.1,G.2,G.1⟩,ac,Z,ae⟩,E.bl,E.br,⟨E.bx.1.1,E.bx.1.2,E.bx.1.1⟩,⟨E.bx.2.1.1,E.bx.2.1.2,E.bx.2.1.1⟩,⟨E.bx.2.2.1,E.bx.2.2.2,E.bx.2.2.1⟩⟩
theorem Nq {f:Nat}{E:Func}{c:Code}(G:Tryz.prog.funcs[f]? =some E)(H:(E.name== "runtime.NumGoroutine")=false)(F:E.body=some c):∀(args:Array Value) (w:World),(callFunc f args).run Tryz.prog w=.ok (.enter f args) w:=enters_of G H F
theorem N9 (l:List Int)(E:Good l)(q:Nat)(F:q<l.length):(codeT l q).length<=15:=by rw[Pp l E];have:=E.ok q F;omega
theorem Lp (E F:List Int)(H:Good E)(G:Good F):∀is:List It,Has E F is->(∀i∈is,VI i)->(putIs E F is).length<=15*is.length
 | [],_,_=>by simp[putIs]
 |i::is,h,hv=>by
  have ih:=Lp E F H G is (Has.app (x:= [i]) (y:=is) h).2 (fun j I=>hv j (by simp[I]));have e:putIs E F (i::is)=Z6b E F i++putIs E F is:=by simp[putIs]
  rw[e,VE,VJ]
  have:(Z6b E F i).length<=15:=by
   cases i with
   |sym k=>exact N9 E H k (h.1 k (by simp)).1
   |far k=>exact N9 F G k (h.2 k (by simp)).1
   |rest n s=>
    have:=(hv _ (by simp:It.rest n s∈_)).2
    show (Al n s).length<=15
    rw[Ah];omega
  omega
theorem Z3y (O:Nat->Prop)(B T:Nat)(S:List Bool)(G F:List Int)(Z ag ah aj ac ai al ak aa ao au ar ae av:Nat)(U:List It)(a5:G.length=aa)(a6:F.length=ae)(a1:Good G)(ay:Good F)(ap:Has G F U)(a2:∀i∈U,VI i)(bb:S.length+15*U.length<=300000):
 Snk (PJ O B T S G F Z ag ah aj ac ai al ak aa ao au ar ae av) B 236 236 147 #[.pointer (some ⟨Z,0,none⟩),.pointer (some ⟨ag,0,none⟩),.pointer (some ⟨ah,0,none⟩)] #[.pointer (some ⟨aj,0,none⟩),.pointer (some ⟨ac,0,none⟩),.pointer (some ⟨ai,0,none⟩)] #[.pointer (some ⟨T,0,none⟩)] U:=by
 have step:∀ {No:Nat->Prop} {is R:List It} {i:It} {W W':World},is++i::R=U->PJ O B T S G F Z ag ah aj ac ai al ak aa ao au ar ae av No is W->Rp (fun g=>No g\/O g) B W T (S++putIs G F is++Z6b G F i) W'->PJ O B T S G F Z ag ah aj ac ai al ak aa ao au ar ae av No (is++ [i]) W'/\Below B W W'/\Kp No W W':=by
  intro No is R i W W' H E I;refine⟨⟨?_, ?_, ?_,fun g h=>VG (E.bl g h) I.below.size⟩,I.below,I.kp.weaken (fun g h=>.inl h)⟩
  . have e:putIs G F (is++ [i])=putIs G F is++Z6b G F i:=by rw[MF];simp[putIs]
    rw[e,<-VS];exact I.is
  . exact E.ca.keep I.below.size (fun g M hb=>I.kp g M (.inr hb))
  . exact E.cb.keep I.below.size (fun g M hb=>I.kp g M (.inr hb))
 have aw:∀ {is R:List It} {i:It},is++i::R=U->(S++putIs G F is).length<=300000:=by
  intro is R i H;have ba:Has G F is:=by rw[<-H]at ap;exact ap.app.1
  have a7:∀j∈is,VI j:=fun j a4=>a2 j (by rw[<-H];simp[a4])
  have bc:=Lp G F a1 ay is ba a7;have a8:=congrArg List.length H;rw[VE,VJ]at a8;rw[VE];omega
 refine⟨Nq Tryz.func236 (by kernel_rfl) rfl,Nq Tryz.func236 (by kernel_rfl) rfl,Nq Tryz.func147 (by kernel_rfl) rfl, ?_, ?_, ?_, ?_⟩
 . intro No No' is W W1 E Y hn;refine⟨E.row.grow Y (fun g e=> ?_),E.ca.keep Y.size (fun g M _=>Y.block g M),E.cb.keep Y.size (fun g M _=>Y.block g M),fun g h=>VG (E.bl g h) Y.size⟩
   rcases e with e|e
   . rcases hn g e with h|h
     . exact .inl (.inl h)
     . exact .inr h
   . exact .inl (.inr e)
 . intro No is R k W H E af;have ax:=ap.1 k (by rw[<-H];simp);have:=Yo O (fun g=>No g\/O g) B Z ag ah T (some ⟨al,ak,none⟩) aa ao G k (S++putIs G F is) W E.ca a5 a1 (by omega) ax.2 E.row (aw H) (fun g M e=> ?_)
   . refine this.mono ?_;rintro e W' ⟨rfl,I⟩;exact⟨rfl,step H E I⟩
   . rcases e with e|e
     . exact af g M e
     . have:=E.bl g e;omega
 . intro No is R k W H E af;have ax:=ap.2 k (by rw[<-H];simp);have:=Yo O (fun g=>No g\/O g) B aj ac ai T (some ⟨au,ar,none⟩) ae av F k (S++putIs G F is) W E.cb a6 ay (by omega) ax.2 E.row (aw H) (fun g M e=> ?_)
   . refine this.mono ?_;rintro e W' ⟨rfl,I⟩;exact⟨rfl,step H E I⟩
   . rcases e with e|e
     . exact af g M e
     . have:=E.bl g e;omega
 . intro No is R n s W H E af;have az:=a2 (.rest n s) (by rw[<-H];simp);have a9:s<=10:=az.2;have a3:2^s<=2^10:=VO (by decide) a9;have hn:n<65536:=VG (VG az.1 a3) (by decide);refine(Dp (fun g=>No g\/O g) B T n s (S++putIs G F is) W E.row hn (by omega) (aw H) (fun g M e=> ?_)).mono ?_
   . rcases e with e|e
     . exact af g M e
     . have:=E.bl g e;omega
   . rintro e W' ⟨rfl,I⟩;exact⟨rfl,step H E I⟩
structure KJ (B gs gf:Nat)(No:Nat->Prop)(is:List It)(W:World):Prop where
 base:B<=gs/\B<=gf
 ne:gs≠gf
 no:¬No gs/\¬No gf
 s:ARow 297 W gs (symC is)
 f:ARow 298 W gf (farC is)
theorem A4 (is:List It)(k:Nat):symC (is++ [.sym k])=Tb (symC is) k/\farC (is++ [.sym k])=farC is:=by
 unfold symC farC TR Z1m Cq;simp[List.filterMap_append,List.foldl_append]
theorem L8 (is:List It)(k:Nat):farC (is++ [.far k])=Tb (farC is) k/\symC (is++ [.far k])=symC is:=by
 unfold symC farC TR Z1m Cq;simp[List.filterMap_append,List.foldl_append]
theorem Uz (is:List It)(n s:Nat):farC (is++ [.rest n s])=farC is/\symC (is++ [.rest n s])=symC is:=by
 unfold symC farC TR Z1m Cq;simp[List.filterMap_append]
theorem Z3k (is:List It)(k:Nat):(symC is).getD k 0<=is.length/\0<=(symC is).getD k 0:=by
 by_cases E:k<286
 . unfold symC;rw[Gs _ _ k (by simpa using E),Iv];have F:=YI (a:=k) (l:=TR is);have G:(TR is).length<=is.length:=ZB _ _;omega
 . have:(symC is).getD k 0=0:=by
    simp only[List.getD];rw[WJ (by rw[Li];omega)];rfl
   omega
theorem Z56 (is:List It)(k:Nat):(farC is).getD k 0<=is.length/\0<=(farC is).getD k 0:=by
 by_cases E:k<30
 . unfold farC;rw[Gs _ _ k (by simpa using E),Iv];have F:=YI (a:=k) (l:=Z1m is);have G:(Z1m is).length<=is.length:=ZB _ _;omega
 . have:(farC is).getD k 0=0:=by
    simp only[List.getD];rw[WJ (by rw[Mo];omega)];rfl
   omega
theorem IU (T:TypeId)(F k:Nat)(xs:List Int)(W:World)(G:T=297)(E:ARow T W F xs)(M:xs.length=286)(H:k<286)(O:0<=xs.getD k 0/\xs.getD k 0<=1000000):
 Calls Tryz.prog 238 #[.int .i64 (k:Int),.pointer (some ⟨F,0,none⟩)] W fun e w'=>e=.returned (.tuple #[])/\w'=W.setCell ⟨F,k,none⟩ (.int .i64 (xs.getD k 0+1)):=by
 have c:=E.cell k (by omega);have f:=E.frozen k;have I:(k:Int)<286:=by omega
 clear E G;generalize xs.getD k 0=x at*;go_enter Tryz.func238,Tryz.ntmps238
 go_wp2;go_end0
 exact⟨rfl,rfl⟩
theorem IR (T:TypeId)(F k:Nat)(xs:List Int)(W:World)(G:T=298)(E:ARow T W F xs)(M:xs.length=30)(H:k<30)(O:0<=xs.getD k 0/\xs.getD k 0<=1000000):
 Calls Tryz.prog 239 #[.int .i64 (k:Int),.pointer (some ⟨F,0,none⟩)] W fun e w'=>e=.returned (.tuple #[])/\w'=W.setCell ⟨F,k,none⟩ (.int .i64 (xs.getD k 0+1)):=by
 have c:=E.cell k (by omega);have f:=E.frozen k;have I:(k:Int)<30:=by omega
 clear E G;generalize xs.getD k 0=x at*;go_enter Tryz.func239,Tryz.ntmps239
 go_wp2;go_end0
 exact⟨rfl,rfl⟩
theorem IQ (n s:Int)(W:World):Calls Tryz.prog 240 #[.int .i64 n,.int .i64 s] W fun e w'=>e=.returned (.tuple #[])/\w'=W:=by
 go_enter Tryz.func240,Tryz.ntmps240
 go_wp2;go_end0
 exact⟨rfl,rfl⟩
theorem Gg {f:Nat}{E:Func}{c:Code}(G:Tryz.prog.funcs[f]? =some E)(H:(E.name== "runtime.NumGoroutine")=false)(F:E.body=some c):∀(args:Array Value) (w:World),(callFunc f args).run Tryz.prog w=.ok (.enter f args) w:=enters_of G H F
theorem KJ.step {B H G E k:Nat}{No:Nat->Prop}{is I:List It}{W:World}{v:Value}(F:KJ B H G No is W)(O:E=H\/E=G)(U:ARow 297 (W.setCell ⟨E,k,none⟩ v) H (symC I))(T:ARow 298 (W.setCell ⟨E,k,none⟩ v) G (farC I)):
 KJ B H G No I (W.setCell ⟨E,k,none⟩ v)/\Below B W (W.setCell ⟨E,k,none⟩ v)/\Kp No W (W.setCell ⟨E,k,none⟩ v):=by
 have M:=Ad W E k v;have hb:=F.base;have hn:=F.no;have Y:=F.s.lt;refine⟨⟨F.base,F.ne,F.no,U,T⟩,(Below.refl B W).grown M (by omega) (fun j e=>by rw[<-VM e];rcases O with e|e<;>rw[e]<;>omega),(Kp.refl No W).grown M (VB _) (fun j e=>by rw[<-VM e];rcases O with e|e<;>rw[e];exact hn.1;exact hn.2)⟩
theorem QJ (B H G:Nat)(I:List It)(Y:∀i∈I,VI i)(aa:I.length<=100000):
 Snk (KJ B H G) B 238 239 240 #[.pointer (some ⟨H,0,none⟩)] #[.pointer (some ⟨G,0,none⟩)] #[] I:=by
 have hl:∀ {is R:List It} {i:It},is++i::R=I->is.length<=100000/\VI i:=by
  intro is R i F;have Z:=congrArg List.length F;rw[VE,VJ]at Z;exact⟨by omega,Y i (by rw[<-F];simp)⟩
 refine⟨Gg Tryz.func238 (by kernel_rfl) rfl,Gg Tryz.func239 (by kernel_rfl) rfl,Gg Tryz.func240 (by kernel_rfl) rfl, ?_, ?_, ?_, ?_⟩
 . intro No No' is W W1 E U hn;have l1:=E.s.lt;have l2:=E.f.lt;refine⟨E.base,E.ne,⟨fun e=> ?_,fun e=> ?_⟩,E.s.keep (U.block _ l1),E.f.keep (U.block _ l2)⟩
   . rcases hn H e with h|h
     . exact E.no.1 h
     . omega
   . rcases hn G e with h|h
     . exact E.no.2 h
     . omega
 . intro No is R k W F E T;have M:k<286:=(hl F).2;have O:=Z3k is k;have:=(hl F).1
   refine(IU _ H k (symC is) W rfl E.s (Li is) M ⟨O.2,by omega⟩).mono ?_;rintro e W' ⟨rfl,rfl⟩;refine⟨rfl,E.step (.inl rfl) ?_ ?_⟩
   . rw[(A4 is k).1];exact E.s.set k _
   . rw[(A4 is k).2];exact E.f.keep ((Ad W H k _).block G E.f.lt (fun e=>E.ne (VM e).symm))
 . intro No is R k W F E T;have M:k<30:=(hl F).2;have O:=Z56 is k;have:=(hl F).1
   refine(IR _ G k (farC is) W rfl E.f (Mo is) M ⟨O.2,by omega⟩).mono ?_;rintro e W' ⟨rfl,rfl⟩;refine⟨rfl,E.step (.inr rfl) ?_ ?_⟩
   . rw[(L8 is k).2];exact E.s.keep ((Ad W G k _).block H E.s.lt (fun e=>E.ne (VM e)))
   . rw[(L8 is k).1];exact E.f.set k _
 . intro No is R n s W F E T;refine(IQ n s W).mono ?_;rintro e W' ⟨rfl,rfl⟩;refine⟨rfl,⟨E.base,E.ne,E.no, ?_, ?_⟩,Below.refl _ _,Kp.refl _ _⟩
   . rw[(Uz is n s).2];exact E.s
   . rw[(Uz is n s).1];exact E.f
theorem GL:(Tryz.prog.info? 340).map (fun i=>(i.zero,i.size,i.bytes))=some (some (.agg #[.slice none 0 0,.slice none 0 0]),2,48):=by kernel_rfl
theorem StSt.made {w W:World}{m:Nat}(H:List Int)(I B:Nat->Nat)(F:W.ownsRow w.heap.size 340 2 (.slice (some ⟨w.heap.size,0,none⟩) m m) m (madeCells #[.slice none 0 0,.slice none 0 0] (m*2)).toList)(M:w.grownBy W none):StSt w W w.heap.size m H 0 I B:=by
 have hc:∀j,j<m*2->W.cell? ⟨w.heap.size,j,none⟩=some (.slice none 0 0):=by
  intro j G;rw[F.cellAt j G];have E:j%2=0\/j%2=1:=by omega
  rcases E with E|E<;>simp[madeCells,G,E]
 refine⟨VB _,(F.lt _ rfl).2,fun j=>F.frozenAt j,fun i hi=>by omega,fun i _ hi=>⟨hc _ (by omega),hc _ (by omega)⟩,fun i hi=>by omega,fun i hi=>by omega,(Below.refl w.heap.size w).grown M (VB _) (fun j h=>by cases h)⟩
set_option maxRecDepth 100000 in
theorem R8 (U n c m:Nat)(E:List Int)(w:World)(ao:E.length=n)(ck:n<=288)(bq:n<=c)(bh:c<=maxLen)(b7:m<=15)(av:∀x∈E,0<=x/\x<=1000000)(ai:WRow w U E):
 Calls Tryz.prog 260 #[.slice (some ⟨U,0,none⟩) n c,.int .i64 m] w fun e w'=>∃g A B,e=.returned (.slice (some ⟨g,0,none⟩) m m)/\StSt w w' g m E m A B:=by
 obtain⟨bc,hi,bi,bo,bk⟩:=info_parts GL;have a8:=Ab ai;have bn:=Ab av;have ce:=ai.lt;clear ai av;go_enter Tryz.func260,Tryz.ntmps260
 go_wp2_with (at_make;refine wpList_make_full _ rfl _ _ 335 rfl w.heap.size 340 bc (.agg #[.slice none 0 0,.slice none 0 0]) 2 Tryz.underlying335 hi bi bo _ _ _ _ m rfl rfl rfl rfl (by rw[bk];omega) (by unfold maxLen;omega) (by simp) ?_)
 intro bw az a4;have aj:=Ab (StSt.made E (fun _=>0) (fun _=>0) az a4);clear az a4;generalize ak:w.heap.size=g at*;have cj:=Ab ak;clear ak;go_wp2;go_loopw [6,7,11] (fun al _ i wr=>∃(k:Nat) (A B:Nat->Nat),k<=m/\i=.int .i64 k/\StSt w wr g m E k A B/\((k=0/\al=.slice none 0 0)\/ (0<k/\al=.slice (some ⟨A (k-1),0,none⟩) (rowAt E (k-1)).length (rowAt E (k-1)).length))) (fun _ _ i _=>m-(intOf i).toNat)
 case atStart=>exact⟨0,_,_,VH _,rfl,Aa aj,.inl ⟨rfl,rfl⟩⟩
 case round=>
  obtain⟨k,A,B,cg,rfl,G,aa⟩:=hrel;have ae:=Ab G
  by_cases ac:k<m
  . 
    obtain⟨I,F,ys,bg,ah,bu,a5,ax,a6⟩:∃(I:Option Addr) (F:Nat) (ys:List Int),u6=.slice I F F/\ys.length=F/\F<=576/\RowIn .i64 wr I ys/\(∀j,0<=ys.getD j 0/\ys.getD j 0<=1000000000000)/\rowAt E k=mrg E (prs ys):=by
     rcases aa with ⟨a7,af⟩|⟨a7,af⟩
     . exact⟨none,0,[],af,rfl,by omega,.inl rfl,fun j=>by simp,by rw[a7,rowAt];rfl⟩
     . refine⟨some ⟨A (k-1),0,none⟩,(rowAt E (k-1)).length,(rowAt E (k-1)).map Prod.fst,af,by simp, ?_,(G.ws (k-1) (by omega)).2.2.row,T3 E (Aa bn) (k-1) (by omega), ?_⟩
       . have:=Iz E (k-1);omega
       . obtain⟨q,rfl⟩:∃q,k=q+1:=⟨k-1,by omega⟩
         rw[YA,rowAt]
    subst bg;have bb:=Ab a5;have bm:=Ab ax;have a2:=Ab a6;have ci:=Ab ah;have cd:w.heap.size<=wr.heap.size:=G.bel.size;have ar:Hid (WRow wr U E):=(Aa a8).below G.bel (Aa a8).lt;clear aa a5 ax a6 G aj;go_wp2_with fail
    refine(MO I F F ys wr ah (by omega) (Aa bb) (Aa bm)).mono ?_;rintro e bd ⟨gp,rfl,a3,O,b0⟩;have T:=Ab ((Aa ae).below O);have ay:=Ab ((Aa ar).below O (Aa ar).lt);have au:=Ab a3;have bv:=O.size;have bf:(prs ys).length=F/2:=by rw[Eo,ah]
    have ap:=Ab bf;have b9:F/2<=288:=by omega
    clear a3 O;go_wp2_with fail
    refine(NP U 0 gp 0 n c (F/2) (F/2) E (prs ys) bd ao (Aa ap) (by omega) (by omega) bq (VB _) bh (by unfold maxLen;omega) (Aa ay).lt (Aa au).lt (fun j Z=>by rw[WG];exact((Aa ay).at_ j Z).1) (fun j Z=>by rw[WG];exact((Aa au).at_ j Z).1)).mono ?_;rintro e w3 ⟨g1,g2,rfl,ag,Y,a9,b3,b8⟩;have H:=(Aa T).below a9;rw[<-Aa a2]at ag Y;have M:n+F/2=(rowAt E k).length:=by rw[Aa a2,Bo,ao,Aa ap]
    have b5:=(Aa T).ghi;have bz:=(Aa T).glo;have aw:=Ab (H.next ac g1 g2 ⟨by omega,by omega⟩ ⟨by omega,by omega⟩ ag Y (n+F/2) M);have c0:=(H.todo k (VB _) ac).1;have c1:=(H.todo k (VB _) ac).2;have f0:=H.fz (k*2);have f1:=H.fz (k*2+1);have a1:=((Aa aw).done k (by omega)).1;simp only[if_true]at a1;rw[<-M]at a1;have ba:=Ab M;have b4:(k:Int)<(m:Int):=by omega
    clear ag Y a9 H M ae T;generalize bj:n+F/2=L at*;clear bj;go_wp2;go_roundw
    case rel=>
     refine⟨k+1,_,_,by omega,by go_num,Aa aw,.inr ⟨by omega, ?_⟩⟩;simp only[YA,if_true];rw[Aa ba]
    case measure=>simp[intOf];omega
  . obtain rfl:k=m:=by omega
    clear G aa;go_wp2;go_ret;exact⟨g,A,B,rfl,Aa ae⟩
theorem Tq {w w':World}(E:Below w.heap.size w w')(r:Option Nat):w.grownBy w' r:=⟨E.os,E.tape,E.output,E.size,fun i hi _=>E.block i hi⟩
theorem StSt.grown {w W W':World}{G m:Nat}{E:List Int}{k:Nat}{I B:Nat->Nat}{r:Nat}(F:StSt w W G m E k I B)(H:W.grownBy W' (some r))(U:r<w.heap.size):
 (∀i,i<k->W'.cell? ⟨G,i*2,none⟩=some (.slice (some ⟨I i,0,none⟩) (rowAt E i).length (rowAt E i).length)/\W'.cell? ⟨G,i*2+1,none⟩=some (.slice (some ⟨B i,0,none⟩) (rowAt E i).length (rowAt E i).length))/\(∀i,i<k->BRow W' (B i) ((rowAt E i).map Prod.snd)):=by
 have Y:=F.glo;refine⟨fun i hi=>⟨H.cell (F.done i hi).1 (by simp;omega),H.cell (F.done i hi).2 (by simp;omega)⟩,fun i hi=> ?_⟩;obtain⟨T,O,M⟩:=F.fs i hi;exact M.grown H (by simp;omega)
set_option maxRecDepth 100000 in
theorem FZ (a:Option Addr)(E au:Nat)(l:List Int)(m:Nat)(w:World)(O:l.length=E)(bg:RowIn .i64 w a l)(ag:GoodW l m):
 Calls Tryz.prog 241 #[.slice a E au,.int .i64 m] w fun e w'=>∃g s,e=.returned (.tuple #[.slice (some ⟨g,0,none⟩) E E,.int .i64 0])/\IsLens l m s/\s.length=E/\WRow w' g s/\Below w.heap.size w w'/\w.heap.size<=g:=by
 obtain⟨di,hi,cy,dt,cz⟩:=info_parts Bv;have eg:=ag.len;have dd:=ag.lo;have dp:=ag.hi;have bq:=Ab ag;have bn:=Ab bg;have ei:=Ab O;have ba:=ED a E au l m w O (by omega) bg;rw[PD ag]at ba;have bo:=Ab ba;clear bg ag ba;go_enter Tryz.func241,Tryz.ntmps241
 go_wp2_with fail
 refine(Aa bo).mono ?_;rintro e F ⟨rfl,rfl⟩;clear bo;go_wp2_with (at_make;refine wpList_make_full _ rfl _ _ 76 rfl F.heap.size 3 di (.int .i64 0) 1 Tryz.underlying76 hi cy dt _ _ _ _ E rfl rfl rfl rfl (by rw[cz];omega) (by unfold maxLen;omega) (by simp) ?_)
 intro dj a9 b8;have e0:(madeCells #[Value.int .i64 0] E).toList=iv (List.replicate E 0):=Rh E;rw[e0]at a9;have ao:=Ab (WRow.own a9);have a3:=Ab ((Below.refl F.heap.size F).grown b8 (VB _) (fun j h=>by cases h));clear a9 b8 e0;obtain⟨G,aw⟩:=exq (F.heap.size);rw[aw]at ao;rw[aw];have aa:=Ab aw;have e1:=(Aa ao).lt;clear aw;go_wp2_with fail
 refine(FJ a E au l dj O (by omega) ((Aa bn).below (Aa a3) (VB _))).mono ?_;rintro e w3 ⟨et,P,rfl,ay,a5,cw⟩;have bc:=Ab ay;have b3:=ay.lt;have bm:=ay.length;have eu:=Pt l l.length;have I:=Ab ((Aa a3).trans (a5.mono (Aa a3).size));have ar:=Ab ((Aa ao).below a5 (Aa ao).lt);have eh:=a5.size;have a4:=Ab b3;have du:=Ab bm;have ct:P.length<=288:=by omega
 clear ay b3 a5 ao a3
 rcases cw with ⟨rfl,rfl⟩|⟨ah,a6,rfl,d6,dz,em,a8⟩
 . 
   go_wp2_with fail
   refine(Je G E E (List.replicate E 0) none 0 0 [] w3 (by simp) rfl (by omega) (by omega) (Aa ar) (.inl rfl) (fun b o h=>by cases h) (fun p h=>by cases h) (fun j=>by by_cases h:j<E<;>simp[List.getD,h])).mono ?_;rintro e al ⟨rfl,ai,ap⟩;have ae:=Ab ai;have U:Hid (Below F.heap.size F al):=(Aa I).grown ap (Aa I).size (fun j h=>by cases h;exact ZV (Aa aa));clear ai ap;go_wp2;go_ret2;exact⟨G,_,rfl,⟨[],Aa bc,by unfold Cs;rw[if_pos (by simp),O]⟩,by rw[Ca];simp,Aa ae,Aa U,ZV (Aa aa)⟩
 . have aj:=Ab a8;have ey:=a8.lt;clear a8;obtain⟨N,a1⟩:=exq (P.length);rw[a1]at d6 ct;rw[a1];have H:=Ab a1;clear a1 bm
   by_cases bj:N<2
   . 
     have d7:(N:Int)<2:=by omega
     have a7:=Ab (Je G E E (List.replicate E 0) (some ⟨ah,0,none⟩) N a6 P w3 (by simp) (Aa H) (by omega) (by omega) (Aa ar) (Aa aj).row (fun b o h=>by cases h;omega) (fun p M=>by have:=Aa a4 p M;omega) (fun j=>by by_cases h:j<E<;>simp[List.getD,h]));go_wp2_with fail
     refine(Aa a7).mono ?_;rintro e al ⟨rfl,ai,ap⟩;have ae:=Ab ai;have U:Hid (Below F.heap.size F al):=(Aa I).grown ap (Aa I).size (fun j h=>by cases h;exact ZV (Aa aa));clear ai ap;go_wp2;go_ret2;exact⟨G,_,rfl,⟨P,Aa bc,by unfold Cs;rw[if_pos (by rw[Aa H];exact bj),O]⟩,by rw[Ca];simp,Aa ae,Aa U,ZV (Aa aa)⟩
   . have d7:¬(N:Int)<2:=by omega
     have bv:=Ab (Wk a E au l (some ⟨ah,0,none⟩) N a6 P w3 O (Aa H) (by omega) (by omega) ((Aa bn).below (Aa I) (VB _)) (Aa aj).row (fun p M=>by have:=Aa a4 p M;omega));go_wp2_with fail
     refine(Aa bv).mono ?_;rintro e al ⟨eb,rfl,b9,ak,ej⟩;have bk:=Ab b9;have en:=ak.size;have U:=Ab ((Aa I).trans (ak.mono (Aa I).size));have ae:=Ab ((Aa ar).below ak (Aa ar).lt);have bw:=Ab ((Aa aj).below ak (Aa aj).lt)
     have ci:∀x∈(P.map fun p=>l.getD p 0),0<=x/\x<=1000000:=by
      intro x d9;obtain⟨p,M,rfl⟩:=XG.1 d9;exact(Aa bq).ok p (Aa a4 p M)
     have dy:=Ab ci;have dl:Hid (Cs l P m=Ez E P (P.map fun p=>l.getD p 0) m m):=by unfold Hid Cs;rw[if_neg (by rw[Aa H];exact bj),O]
     have af:Hid ((P.map fun p=>l.getD p 0).length=N):=by rw[WL];exact H
     have cu:Hid (N<=2^m):=by have h:=(Aa bq).room;rw[<-Aa du,Aa H]at h;exact h
     clear b9 ak ci ar aj I bv;generalize (P.map fun p=>l.getD p 0)=Ws at*;have ck:=Ab (R8 eb N N m Ws al (Aa af) (by omega) (VB _) (by unfold maxLen;omega) dp (Aa dy) (Aa bk));go_wp2_with fail
     refine(Aa ck).mono ?_;rintro e c7 ⟨gs,A,B,rfl,Y⟩;have c8:=Ab Y;have dv:=Ab ((Aa ae).below Y.bel (by omega));have ds:=Ab ((Aa bw).below Y.bel (by omega));have cg:=Ab ((Aa U).trans (Y.bel.mono (Aa U).size));have ed:=Y.bel.size;have de:Hid (2*((N:Int)-1)=((Cr Ws m 0:Nat):Int)):=by unfold Hid;rw[Cr,Aa af];omega
     clear Y ae bw U bk ck;unfold maxLen at dz;go_wp2;go_loopw [10,11,12,41] (fun dw _ _ bd wr=>∃i:Nat,i<=m/\bd=.int .i64 i/\dw=.int .i64 ((Cr Ws m i:Nat):Int)/\c7.grownBy wr (some G)/\WRow wr G (Ez E P Ws m i)) (fun _ _ _ bd _=>m-(intOf bd).toNat)
     case atStart=>exact⟨0,VH _,rfl,congrArg (Value.int .i64) (Aa de),Aw _ _,Aa dv⟩
     case round=>
      obtain⟨i,ew,rfl,rfl,Z,bb⟩:=hrel;have cq:=Ab Z;have bf:=Ab bb
      by_cases da:i<m
      . obtain⟨q,av⟩:∃q,q=m-1-i:=⟨_,rfl⟩
        obtain⟨bh,b4⟩:=(Aa c8).grown Z (by omega);have c0:=(bh q (by omega)).1;have c1:=(bh q (by omega)).2;have c9:=Ab (b4 q (by omega));have bu:=Ab ((Aa ds).grown Z (by simp;omega));have cn:1<=Ws.length:=by rw[Aa af];omega
        have az:=Lg Ws m cn dd (by rw[Aa af];exact Aa cu) i da;have ee:=Oe Ws m i;have cj:=Wh Ws m i;rw[Aa af]at cj
        have ce:Il ((rowAt Ws q).map Prod.snd) (Cr Ws m i)=Bi Ws m i:=by
         unfold Bi;rw[<-av];rw[<-av]at az;exact(Od _ _ az).symm
        have df:=Ab ce;rw[<-av]at az;have db:=Iz Ws q;rw[Aa af]at db;have d5:Hid (Cr Ws m (i+1)=2*(Cr Ws m i-Bi Ws m i)):=rfl;have cm:Hid (Ez E P Ws m (i+1)=Cq (Ez E P Ws m i) (P.take (Bi Ws m i))):=rfl;have c5:=Ab (Ny E P Ws m (by rw[Aa H];omega) i);have dm:=Ab (Ek E P Ws m i);have dn:Hid (((rowAt Ws q).map Prod.snd).length=(rowAt Ws q).length):=by unfold Hid;simp
        have ea:((m:Int)-1-(i:Int)).toNat=q:=by omega
        have pa:(0:Int)<=(m:Int)-1-(i:Int):=by omega
        have co:(m:Int)-1-(i:Int)<(m:Int):=by omega
        clear Z bb bh b4 ce av;generalize Cr Ws m i=T at*;generalize Bi Ws m i=ac at*;generalize (rowAt Ws q).length=ax at*;generalize (rowAt Ws q).map Prod.snd=fs at*;generalize Ez E P Ws m i=dh at*;generalize A q=d8 at*;generalize B q=dq at*;have b5:=Ab (Ty (.slice (some ⟨d8,0,none⟩) ax ax) rfl dq ax ax T fs wr (Aa dn) az (by omega) (Aa c9));go_wp2_with fail
        refine(Aa b5).mono ?_;rintro e w6 ⟨rfl,a2⟩;rw[Aa df];have dr:=Ab (Aj (Aa cq) (Tq a2 (some G)));have cv:=Ab ((Aa bf).below a2 (Aa bf).lt);have cd:=Ab ((Aa bu).below a2 (Aa bu).lt)
        have b0:RowIn .i64 w6 (some ⟨ah,0,none⟩) (ni (P.take ac)):=.inr ⟨ah,0,rfl,(Aa cd).lt,fun j cp=>by
         have bi:j<ac/\j<P.length:=by simp at cp;omega
         rw[WG,((Aa cd).at_ j (by simpa using bi.2)).1];simp[List.getD,bi.1,bi.2]⟩
        have a7:=Ab (Je G E E dh (some ⟨ah,0,none⟩) ac a6 (P.take ac) w6 (Aa dm) (by rw[VL,Aa H];omega) (by omega) (by omega) (Aa cv) b0 (fun b o h=>by cases h;omega) (fun p M=>by have:=Aa a4 p (VR M);omega) (fun j=>by have:=Aa c5 j;omega));have eo:(ac:Int)<=(a6:Int):=by omega
        have ek:ac<=N:=cj;clear a2 b0 b5 c0 c1 ea pa co;go_wp2_with fail
        refine(Aa a7).mono ?_;rintro e ep ⟨rfl,bz,b7⟩;have dx:=Ab bz;have dc:=Ab (Aj (Aa dr) b7);clear bz b7 a7;go_wp2;go_roundw
        case rel=>exact⟨i+1,by omega,by go_num,by rw[Aa d5];go_num,Aa dc,by rw[Aa cm];exact Aa dx⟩
        case measure=>simp[intOf];omega
      . obtain rfl:i=m:=by omega
        have c6:Hid (Below F.heap.size F wr):=(Aa cg).grown Z (Aa cg).size (fun j h=>by cases h;exact ZV (Aa aa));clear Z bb;go_wp2;go_ret2;exact⟨G,_,rfl,⟨P,Aa bc,(Aa dl).symm⟩,Ek _ _ _ _ _,Aa bf,Aa c6,ZV (Aa aa)⟩
theorem Y4:(Tryz.prog.info? 297).map (·.size)=some 286:=by kernel_rfl
theorem OM:(Tryz.prog.info? 298).map (·.size)=some 30:=by kernel_rfl
theorem QI (a:Option Addr)(F ae:Nat)(ts:List Tk)(w:World)(aa:ts.length=F)(a3:F<=3000)(ah:∀t∈ts,VT t)(M:TokIn w a ts):
 Calls Tryz.prog 211 #[.slice a F ae] w fun e w'=>e=.returned (.tuple #[.agg (iv (symC (itsOf ts))).toArray,.agg (iv (farC (itsOf ts))).toArray])/\Below w.heap.size w w':=by
 have af:∀b o,a=some ⟨b,o,none⟩->ts≠ []->b<w.heap.size:=by
  intro b o e ax
  rcases M with h|⟨a8,a7,a5,ay,_⟩
  . exact absurd h ax
  . rw[a5]at e;have:=VM e;cases this;exact ay
 have a2:=Ab M;have ai:=Ab ah;have ap:=Ab aa;clear M ah aa;go_enter Tryz.func211,Tryz.ntmps211
 go_wp2_with fail
 have hi:=Gb ts;refine(BU (KJ w.heap.size w.heap.size (w.heap.size+1)) (fun g=>g<w.heap.size) w.heap.size 238 239 240 #[.pointer (some ⟨w.heap.size,0,none⟩)] #[.pointer (some ⟨w.heap.size+1,0,none⟩)] #[] a F ae ts _ (QJ w.heap.size w.heap.size (w.heap.size+1) (itsOf ts) (Ka (Aa ai)) (by rw[Aa ap]at hi;omega)) (Aa ap) a3 (Aa ai) ((Aa a2).alloc _|>.alloc _) af (by simp;omega) ?_ (fun g av=>by simp at av;omega)).mono ?_
 . refine⟨⟨by omega,by omega⟩,by omega,⟨by omega,by omega⟩, ?_, ?_⟩
   . exact(Below.heap_alloc _ _ _ (by simp)).trans ((heap_alloc_new _ _).trans (by kernel_rfl))
   . have e:w.heap.size+1=(w.alloc (.cells (iv (List.replicate 286 0)).toArray 297)).heap.size:=by simp
     rw[e];exact(heap_alloc_new _ _).trans (by kernel_rfl)
 rintro e au ⟨rfl,I,al,hK⟩;have aj:=I.s;have Z:=I.f;have Y:Below w.heap.size w au:=((((Below.refl w.heap.size w).alloc (VB _) _).alloc (by simp) _)).trans al;have a6:=Ab Y;have U:=Li (itsOf ts);have T:=Mo (itsOf ts);clear I al hK af Y hi;obtain⟨xs,H⟩:=exq (symC (itsOf ts));obtain⟨ys,O⟩:=exq (farC (itsOf ts));rw[H]at aj U;rw[O]at Z T;have a4:=Ab H;have az:=Ab O;clear H O;have aw:(Tryz.prog.info? 297).map (·.size)=some (iv xs).length:=by rw[Y4];simp[U]
 have a1:(Tryz.prog.info? 298).map (·.size)=some (iv ys).length:=by rw[OM];simp[T]
 have ak:(Tryz.prog.info? 297).map (·.size)=some (iv xs).toArray.size:=by rw[Y4];simp[U]
 have ac:(Tryz.prog.info? 298).map (·.size)=some (iv ys).toArray.size:=by rw[OM];simp[T]
 have ar:=Tryz.underlying297;have ag:=Tryz.underlying298;go_wp2;refine wp_region_held_drew (S:=fun w'=>ARow 297 w' w.heap.size xs/\ARow 298 w' (w.heap.size+1) ys) (by kernel_rfl) ⟨aj,Z⟩ (fun E=> ?_);refine wpAnyH_take (i:=0) (oi:= {dst:=some 9,op:=.load 297 (.tmp 2),type:=297,pos:= "dynamic.go:71",after:= #[],guard:=none}) (v:=_) rfl (by kernel_rfl) (by kernel_rfl) (by kernel_rfl) (fun _ _ _ h=>h) (yieldsIf_load_mid (by rfl) _ _ rfl _ _ rfl _ _ (fun _ h=>h.1.range) ar rfl aw) E ?_;simp only[Act.put,VA,VC,VD];refine wpAnyH_take (i:=1) (oi:= {dst:=some 10,op:=.load 298 (.tmp 3),type:=298,pos:= "dynamic.go:71",after:= #[],guard:=none}) (v:=_) rfl (by kernel_rfl) (by kernel_rfl) (by kernel_rfl) (fun _ _ _ h=>h) (yieldsIf_load_mid (by rfl) _ _ rfl _ _ rfl _ _ (fun _ h=>h.2.range) ag rfl a1) E ?_;simp only[Act.put,VA,VC,VD];refine rdH (i:=2) fun K hK=> ?_
 refine Ei rfl 297 (.tmp 2) (.tmp 9) rfl w.heap.size xs rfl rfl E.1 ak ?_;simp only[Act.put];refine hK.out _ _ E (fun G=> ?_);clear hK K E;refine rdH (i:=3) fun K hK=> ?_
 refine Ei rfl 298 (.tmp 3) (.tmp 10) rfl (w.heap.size+1) ys rfl rfl G.2 ac ?_;simp only[Act.put];refine hK.out _ _ G (fun ao=> ?_);clear hK K G;refine wpAnyH_done (by kernel_rfl) ?_ _;go_wp2;refine bodyPost_ret (v:=.tuple #[.agg (iv xs).toArray,.agg (iv ys).toArray]) ?_ rfl ⟨by rw[Aa a4,Aa az],(Aa a6).drew⟩;exact Ln rfl _ _ w.heap.size (w.heap.size+1) _ _ rfl rfl (ao.1.load ar rfl ak) (ao.2.load ag rfl ac)
theorem Ib (a:Option Addr)(F ae:Nat)(l:List Int)(m E:Nat)(w:World)(ar:l.length=F)(ai:RowIn .i64 w a l)(U:GoodW l m)(au:E<=F)(n:Nat)(ap:Hid (Gu (lensD l m) E F=n)):
 Calls Tryz.prog 212 #[.slice a F ae,.int .i64 (m:Int),.int .i64 (E:Int)] w fun e w'=>∃g,e=.returned (.slice (some ⟨g,0,none⟩) n F)/\IsLens l m (lensD l m)/\w.heap.size<=g/\g<w'.heap.size/\Row .i64 w' g 0 (trimL (lensD l m) E)/\Below w.heap.size w w':=by
 have a2:=U.len;go_enter Tryz.func212,Tryz.ntmps212
 go_wp2_with fail
 refine(FZ a F ae l m w ar ai U).mono ?_;rintro e Z ⟨g,s,rfl,T,aj,O,ak,ac⟩;have G:=Z15 T;rw[G]at ap;have ag:Hid (IsLens l m (lensD l m)):=Ab (by rw[G];exact T);have a5:=Ab G;have a6:=Ab O;have ao:=Ab ak;have ax:=Ab aj;have Y:∀j,j<F->Z.cell? ⟨g,j,none⟩=some (.int .i64 (s.getD j 0)):=fun j aa=>(O.at_ j (by omega)).1
 have av:=Ab Y;have af:=O.lt
 have ah:Hid (Row .i64 Z g 0 (trimL (lensD l m) E)):=fun j aa=>by
  rw[WG,G,Oo];refine Y j ?_;rw[G,Cg]at aa;have:=Ju s E s.length
  omega
 clear T G O ak aj ai U Y;go_wp2;go_loop [9] (fun v=>∃k:Nat,k<=F/\E<=k/\v=.int .i64 (k:Int)/\Hid (Gu s E k=n)) (fun v=>(intOf v).toNat)
 case atStart=>exact⟨F,VB _,au,rfl,ap⟩
 case round=>
  obtain⟨k,a4,a1,rfl,H⟩:=hrel
  by_cases al:E<k
  . obtain⟨q,rfl⟩:∃q,k=q+1:=⟨k-1,by omega⟩
    have c:=Aa av q (by omega);have aw:(E:Int)<((q+1:Nat):Int):=by omega
    have a3:(((q+1:Nat):Int)-1).toNat=q:=by omega
    have ay:(0:Int)<=((q+1:Nat):Int)-1:=by omega
    have az:((q+1:Nat):Int)-1<(F:Int):=by omega
    by_cases I:s.getD q 0=0
    . rw[I]at c;have M:Hid (Gu s E q=n):=Ab (by have:=Aa H;rw[Gu,if_pos ⟨al,I⟩]at this;exact this);clear I H;go_wp2;go_round
      case rel=>exact⟨q,by omega,by omega,by go_num,M⟩
      case measure=>simp[intOf]
    . have M:Hid (q+1=n):=Ab (by have:=Aa H;rw[Gu,if_neg (fun h=>I h.2)]at this;exact this);have hb:(s.getD q 0==0)=false:=by rw[beq_eq_false_iff_ne];exact I
      generalize s.getD q 0=x at c hb;clear I H;go_wp2;go_ret;exact⟨g,by rw[<-Aa M];rfl,Aa ag,ac,af,Aa ah,Aa ao⟩
  . have M:Hid (k=n):=Ab (by
     have:=Aa H
     cases k with
     |zero=>rw[Gu]at this;exact this
     |succ k=>rw[Gu,if_neg (fun h=>al h.1)]at this;exact this)
    have aw:¬(E:Int)<(k:Int):=by omega
    clear H;go_wp2;go_ret;exact⟨g,by rw[<-Aa M];rfl,Aa ag,ac,af,Aa ah,Aa ao⟩
theorem BT (No:Nat->Prop)(B O:Nat)(a:Option Addr)(T ap:Nat)(ts:List Tk)(S:List Bool)(E aj Z ak F al ae ao:Nat)(I H:List Int)(Y af ag ai aa ah:Nat)(G W M:World)(h:RIs No B G O S)(bh:G.heap.size<=W.heap.size)(U:Below G.heap.size G M)
 (ba:CIs (fun g=>W.heap.size<=g\/g=E\/g=F) M Y af ag O (some ⟨E,aj,none⟩) Z ak I) (av:CIs (fun g=>W.heap.size<=g\/g=E\/g=F) M ai aa ah O (some ⟨F,al,none⟩) ae ao H)
 (a4:No E\/G.heap.size<=E) (bc:No F\/G.heap.size<=F) (ay:I.length=Z) (a5:H.length=ae) (a3:Good I) (a1:Good H) (au:Has I H (itsOf ts))
 (a6:ts.length=T) (bb:T<=3000) (ar:∀t∈ts,VT t) (a2:TokIn G a ts) (a8:∀b o,a=some ⟨b,o,none⟩->ts≠ []->No b) (a9:∀g,G.heap.size<=g->¬No g) (bf:S.length+60*T<=280000):
 Calls Tryz.prog 181 #[.slice a T ap,.agg #[CV Y af ag,CV ai aa ah,.func (.func 147) #[.pointer (some ⟨O,0,none⟩)] #[]]] M fun e w'=>e=.returned (.tuple #[])/\Rp No B G O (S++putIs I H (itsOf ts)) w':=by
 have bg:=U.size;have hi:=Gb ts;have bd:=h.lt;have bi:=h.base;have hK:=Z3y (fun g=>(W.heap.size<=g\/g=E\/g=F)/\g<M.heap.size) B O S I H Y af ag ai aa ah E aj Z ak F al ae ao (itsOf ts) ay a5 a3 a1 au (Ka ar) (by omega)
 have az:PJ (fun g=>(W.heap.size<=g\/g=E\/g=F)/\g<M.heap.size) B O S I H Y af ag ai aa ah E aj Z ak F al ae ao No [] M:=by
  refine⟨?_,ba.bound,av.bound,fun g ac=>ac.2⟩;have e:S++putIs I H []=S:=by simp[putIs]
  rw[e];refine h.grow U (fun g e=> ?_)
  rcases e with e|⟨e|e|e,_⟩
  . exact .inl e
  . exact .inr (by omega)
  . rw[e];exact a4
  . rw[e];exact bc
 refine(BU _ No B _ _ _ _ _ _ a T ap ts M hK a6 bb ar (a2.below U (VB _)) a8 (by omega) az (fun g ac=>a9 g (by omega))).mono ?_;rintro e w' ⟨rfl,ax,a7,aw⟩;refine⟨rfl,ax.row.grow (Below.refl _ _) (fun g e=>.inl (.inl e)),(U.mono (by omega)).trans a7,fun g ac hn=>(aw g (by omega) hn).trans (U.block g ac)⟩
theorem PM {ts:List Tk}(F:∀t∈ts,VT t):Has Ky Ir (itsOf ts):=by
 have hi:=Ka F;refine⟨fun k E=> ?_,fun k E=> ?_⟩
 . have h:k<286:=hi _ E;refine⟨by rw[Mj];omega, ?_⟩;rw[PP (by omega)]
   split
   . decide
   . split
     . decide
     . split<;>decide
 . have h:k<30:=hi _ E;exact⟨by rw[Fk];omega,by rw[Z0 (by omega)];decide⟩
theorem C7 (No:Nat->Prop)(B I:Nat)(a:Option Addr)(H ar:Nat)(ts:List Tk)(S:List Bool)(w:World)(h:RIs No B w I S)(bc:ts.length=H)(bf:H<=3000)(ai:∀t∈ts,VT t)(av:TokIn w a ts)(ay:∀b o,a=some ⟨b,o,none⟩->ts≠ []->No b)(az:∀g,w.heap.size<=g->¬No g)(ba:S.length+60*H<=280000):
 Calls Tryz.prog 150 #[.pointer (some ⟨I,0,none⟩),.slice a H ar] w fun e w'=>e=.returned (.tuple #[])/\Rp No B w I (S++Ha ts) w':=by
 have ap:=Ab (fun(W w3:World) (gc gl gr hc hl hr b1 b2:Nat) hz aa Y M hb1 hb2=>BT No B I a H ar ts S b1 0 288 288 b2 0 32 32 Ky Ir gc gl gr hc hl hr w W w3 h hz aa Y M hb1 hb2 Mj Fk Mk Mi (PM ai) bc bf ai av ay az ba);obtain⟨F,ag⟩:=exq (Ky);obtain⟨G,ac⟩:=exq (Ir);have O:=Mj;have Z:=Fk;have af:=Mk;have al:=Mi;have ao:=Ab (K7 w);have au:Ha ts=putIs F G (itsOf ts):=by unfold Ha;rw[ag,ac]
 rw[au];simp only[ag,ac]at ap ao O Z af al;have a8:=Ab af;have bd:=Ab al;clear h ai av ay az ag ac au af al;have a9:(Tryz.prog.info? 247).map (·.size)=some (iv F).toArray.size:=by rw[Ya];simp[O]
 have bb:(Tryz.prog.info? 248).map (·.size)=some (iv G).toArray.size:=by rw[CP];simp[Z]
 go_enter Tryz.func150,Tryz.ntmps150
 go_wp2_with fail
 refine(Aa ao).mono ?_;rintro e E ⟨rfl,ak⟩;have bj:=ak.size;have a5:=Ab ak;clear ak;have a1:((E.alloc (.cells (iv (List.replicate 288 0)).toArray 247)).alloc (.cells (iv (List.replicate 32 0)).toArray 248)).heap[E.heap.size]? =some (.cells (iv (List.replicate 288 0)).toArray 247 (0,0)):=(Below.heap_alloc _ _ _ (by simp)).trans (heap_alloc_new _ _)
 have aw:(((E.alloc (.cells (iv (List.replicate 288 0)).toArray 247)).alloc (.cells (iv (List.replicate 32 0)).toArray 248)).setRow E.heap.size (iv F).toArray).heap[E.heap.size+1]? =some (.cells (iv (List.replicate 32 0)).toArray 248 (0,0)):=by
  rw[Go.setRow_other _ _ _ _ (by omega)];have e:E.heap.size+1=(E.alloc (.cells (iv (List.replicate 288 0)).toArray 247)).heap.size:=by simp
  rw[e];exact heap_alloc_new _ _
 have a2:=Ab a1;have a3:=Ab aw;have U:=Ab (fun x y=>Jt w E x y 247 248 F G (Aa a5) (by simp));clear a1 aw;go_upto_region 1 with (first|refine wpList_store_row rfl 247 (.tmp 4) (.tmp 8) rfl E.heap.size _ rfl rfl 247 (iv (List.replicate 288 0)).toArray (Aa a2) a9 (by simp[O]) (Cy F) ?_|refine wpList_store_row rfl 248 (.tmp 5) (.tmp 9) rfl (E.heap.size+1) _ rfl rfl 248 (iv (List.replicate 32 0)).toArray (Aa a3) bb (by simp[Z]) (Cy G) ?_)
 simp only[Act.put];generalize T:World.setRow (World.setRow (World.alloc (World.alloc _ _) _) _ _) _ _=W2;have ae:ARow 247 W2 E.heap.size F:=by rw[<-T];exact(Aa U _ _).1
 have aj:ARow 248 W2 (E.heap.size+1) G:=by rw[<-T];exact(Aa U _ _).2.1
 have ah:Below w.heap.size w W2:=by rw[<-T];exact(Aa U _ _).2.2
 have ax:=ah.size;have a6:=Ab (fun k=>Vd E.heap.size 0 288 288 (E.heap.size+1) 0 32 32 I F G (W2.drewN k) O Z (by decide) (by decide) ae.lt aj.lt ae.row aj.row (Aa a8) (Aa bd));have bi:=Ab ah;clear T U a2 a3 ae aj ah;go_region_with (first|(go_at_call 182;refine(Aa a6 _).mono ?_;rintro e w3 ⟨gc,gl,gr,hc,hl,hr,rfl,Y,M,aa⟩;have bh:=Ab Y;have a7:=Ab M;have bg:=Ab aa;clear Y M aa)|(go_at_call 181;refine(Aa ap W2 w3 gc gl gr hc hl hr E.heap.size (E.heap.size+1) ax ((Ae (Aa bi) _).trans ((Aa bg).mono ax)) (Aa bh) (Aa a7) (.inr bj) (.inr (by omega))).mono ?_;rintro e bm ⟨rfl,a4⟩;have bk:=Ab a4;clear a4))
 all_goals try go_wp2
 all_goals go_end0
 all_goals exact⟨rfl,Aa bk⟩
end Go.Proofs.YtleocpdblhbimaaGreatDoor
