import Derived.Test.YtleocpdblhbimaaGreatDoorQ32
import Derived.Laws.EntriesVeiled
import Derived.Test.YtleocpdblhbimaaGreatDoorQ21
import Derived.Laws.Tables
import Derived.Laws.Rows
import Derived.Laws.ResultCell
import Derived.Deep.RegionHeld3
import Derived.Deep.WholeRow
import Derived.Laws.CopyRow
set_option linter.unusedSimpArgs false
set_option maxHeartbeats 4000000
namespace Go.Proofs.YtleocpdblhbimaaGreatDoor
open Go.RowKit
set_option linter.unusedVariables false
set_option maxRecDepth 100000
theorem Sp (b o I E G:Nat)(l:List Int)(w:World)(ae:l.length=E)(ao:1<=E)(Y:b<w.heap.size)(af:Row .i64 w b o l)(U:Good l):
 Calls Tryz.prog 210 #[.pointer (some ⟨I,0,none⟩),.slice (some ⟨b,o,none⟩) E G] w fun e w'=>∃gc gl gr,e=.returned (CV gc gl gr)/\CIs (fun g=>w.heap.size<=g\/g=b) w' gc gl gr I (some ⟨b,o,none⟩) E G l/\Below w.heap.size w w':=by
 have ac:=Ab af;have aj:=Ab U;have M:=Ab ae;clear af U ae;go_enter Tryz.func210,Tryz.ntmps210
 go_wp2_with fail
 refine(DM (some ⟨b,o,none⟩) E G l _ (Aa M) (RowIn.alloc (RowIn.alloc (.inr ⟨b,o,rfl,Y,Aa ac⟩) _) _) (Aa aj)).mono ?_;rintro e O ⟨g,rfl,T,F,Z⟩;have ak:=F.size;simp only[World.size_alloc]at ak Z
 have ai:Hid (CIs (fun g=>w.heap.size<=g\/g=b) (O.alloc (.cells #[.slice (some ⟨g,0,none⟩) E E] 76)) O.heap.size (w.heap.size+1) w.heap.size I (some ⟨b,o,none⟩) E G l/\Below w.heap.size w (O.alloc (.cells #[.slice (some ⟨g,0,none⟩) E E] 76))):=by
  have ag:=(Below.refl w.heap.size w).alloc (VB _) (.cells #[.pointer (some ⟨I,0,none⟩)] 177);have b1:=ag.alloc (by simp) (.cells #[.slice (some ⟨b,o,none⟩) E G] 76);have b2:=b1.trans (F.mono (by simp;omega));have aa:=b2.alloc (by omega) (.cells #[.slice (some ⟨g,0,none⟩) E E] 76);have ah:=(T.lt g rfl).2;refine⟨⟨⟨g,b,o,rfl,⟨by simp;omega,.inr rfl⟩,⟨by simp;omega,.inl (by omega)⟩,by simp,fun j H=>(aa.cell (p:=⟨b,_,none⟩) Y).trans (Aa ac j H), ?_⟩, ?_, ?_,⟨by simp,.inl (by omega)⟩,⟨by simp;omega,.inl (by omega)⟩,⟨by simp;omega,.inl (by omega)⟩⟩,aa⟩
  . intro j H;rw[World.cell?_alloc_past _ _ _ (by simpa using ah)];rw[T.cellAt j (by omega)];have hc:=Du l E;have al:j<(St l E).length:=by rw[hc,Aa M];exact H
    have:=Yp l (j:=j) (by rw[Aa M];exact H) E
    rw[if_pos H]at this;rw[<-this];simp[i64s,List.getD,al]
  . rw[World.cell?_alloc_past _ _ _ (by show w.heap.size+1<_;omega),F.cell (p:=⟨w.heap.size+1,0,none⟩) (by simp only[World.size_alloc];omega)];simp
  . rw[World.cell?_alloc_past _ _ _ (by show w.heap.size<_;omega),F.cell (p:=⟨w.heap.size,0,none⟩) (by simp only[World.size_alloc];omega)];simp
 clear T F Z;go_wp2;go_ret;exact⟨_,_,_,rfl,Aa ai⟩
theorem Vd (F ag U ai G af Y ah H:Nat)(O Z:List Int)(w:World)(bc:O.length=U)(bb:Z.length=Y)(a9:1<=U)(a7:1<=Y)(av:F<w.heap.size)(ay:G<w.heap.size)(a1:Row .i64 w F ag O)(ao:Row .i64 w G af Z)(ax:Good O)(ap:Good Z):
 Calls Tryz.prog 182 #[.pointer (some ⟨H,0,none⟩),.slice (some ⟨F,ag,none⟩) U ai,.slice (some ⟨G,af,none⟩) Y ah] w fun e w'=>∃gc gl gr hc hl hr,e=.returned (.agg #[CV gc gl gr,CV hc hl hr,.func (.func 147) #[.pointer (some ⟨H,0,none⟩)] #[]])/\CIs (fun g=>w.heap.size<=g\/g=F\/g=G) w' gc gl gr H (some ⟨F,ag,none⟩) U ai O/\CIs (fun g=>w.heap.size<=g\/g=F\/g=G) w' hc hl hr H (some ⟨G,af,none⟩) Y ah Z/\Below w.heap.size w w':=by
 obtain⟨au,bk⟩:∃au,au=w.heap.size:=⟨_,rfl⟩
 have bd:=Ab (fun(W:World) (ae:Below w.heap.size w W)=>Sp F ag H U ai O W bc a9 (VG av ae.size) (fun j al=>(ae.cell (p:=⟨F,_,none⟩) av).trans (a1 j al)) ax);have a3:=Ab (fun(W:World) (ae:Below w.heap.size w W)=>Sp G af H Y ah Z W bb a7 (VG ay ae.size) (fun j al=>(ae.cell (p:=⟨G,_,none⟩) ay).trans (ao j al)) ap);clear a1 ao ax ap;go_enter Tryz.func182,Tryz.ntmps182
 go_wp2_with fail
 refine(Aa bd _ ((Below.refl w.heap.size w).alloc (VB _) _)).mono ?_;rintro e a5 ⟨gc,gl,gr,rfl,az,aj⟩;have bf:=aj.size;simp only[World.size_alloc]at bf;have ar:Below w.heap.size w a5:=((Below.refl w.heap.size w).alloc (VB _) _).trans (aj.mono (by simp));have a6:=Ab az;have a2:=Ab aj;have aw:=Ab ar;clear az aj ar;go_wp2_with fail
 refine(Aa a3 _ (Aa aw)).mono ?_;rintro e E ⟨hc,hl,hr,rfl,ak,T⟩;have a8:=T.size
 have M:E.heap[w.heap.size]? =some (.cells #[.nilFunc,.nilFunc,.nilFunc] 253 (0,0)):=by
  rw[T.block _ (by omega),(Aa a2).block _ (by simp)];exact heap_alloc_new _ _
 have f0:=frozen_of_row E w.heap.size 0 _ _ M;have f1:=frozen_of_row E w.heap.size 1 _ _ M;have f2:=frozen_of_row E w.heap.size 2 _ _ M;have c0:E.cell? ⟨w.heap.size,0,none⟩=some .nilFunc:=Ac M;have bq:E.cell? ⟨w.heap.size,1,none⟩=some .nilFunc:=Ac M;have bu:E.cell? ⟨w.heap.size,2,none⟩=some .nilFunc:=Ac M;have bm:=Ab M;have bn:=Ab ak;have bo:=Ab T
 have a4:Hid (∀I,(((E.setCell ⟨w.heap.size,0,none⟩ (CV gc gl gr)).setCell ⟨w.heap.size,1,none⟩ (CV hc hl hr)).setCell ⟨w.heap.size,2,none⟩ I).heap[w.heap.size]? =some (.cells #[CV gc gl gr,CV hc hl hr,I] 253 (0,0))/\CIs (fun g=>w.heap.size<=g\/g=F\/g=G) (((E.setCell ⟨w.heap.size,0,none⟩ (CV gc gl gr)).setCell ⟨w.heap.size,1,none⟩ (CV hc hl hr)).setCell ⟨w.heap.size,2,none⟩ I) gc gl gr H (some ⟨F,ag,none⟩) U ai O/\CIs (fun g=>w.heap.size<=g\/g=F\/g=G) (((E.setCell ⟨w.heap.size,0,none⟩ (CV gc gl gr)).setCell ⟨w.heap.size,1,none⟩ (CV hc hl hr)).setCell ⟨w.heap.size,2,none⟩ I) hc hl hr H (some ⟨G,af,none⟩) Y ah Z/\Below w.heap.size w (((E.setCell ⟨w.heap.size,0,none⟩ (CV gc gl gr)).setCell ⟨w.heap.size,1,none⟩ (CV hc hl hr)).setCell ⟨w.heap.size,2,none⟩ I)):=by
  intro I;have g1:=Ad E w.heap.size 0 (CV gc gl gr);have g2:=Ad (E.setCell ⟨w.heap.size,0,none⟩ (CV gc gl gr)) w.heap.size 1 (CV hc hl hr);have g3:=Ad ((E.setCell ⟨w.heap.size,0,none⟩ (CV gc gl gr)).setCell ⟨w.heap.size,1,none⟩ (CV hc hl hr)) w.heap.size 2 I;have aa:=Aj (Aj g1 g2) g3;have bi:Below w.heap.size w E:=(Aa aw).trans (T.mono (by omega));refine⟨?_, ?_, ?_,bi.grown aa (by omega) (fun j e=>by rw[<-VM e];exact VB _)⟩
  . rw[heap_setCell_same _ _ 2 _ _ _ (heap_setCell_same _ _ 1 _ _ _ (heap_setCell_same _ _ 0 _ _ _ M))];rfl
  . have k1:=(Aa a6).keep (W':=E) a8 (fun g ac _=>T.block g ac)
    have k2:=k1.keep (W':=((E.setCell ⟨w.heap.size,0,none⟩ (CV gc gl gr)).setCell ⟨w.heap.size,1,none⟩ (CV hc hl hr)).setCell ⟨w.heap.size,2,none⟩ I) aa.size (fun g ac hb=>aa.block g ac (fun e=>by
     have e:=VM e;simp only[World.size_alloc]at hb;omega))
    exact k2.more (fun g hb=>by simp only[World.size_alloc]at hb;omega)
  . have k2:=ak.keep (W':=((E.setCell ⟨w.heap.size,0,none⟩ (CV gc gl gr)).setCell ⟨w.heap.size,1,none⟩ (CV hc hl hr)).setCell ⟨w.heap.size,2,none⟩ I) aa.size (fun g ac hb=>aa.block g ac (fun e=>by
     have e:=VM e;omega))
    exact k2.more (fun g hb=>by omega)
 clear ak T M;go_wp2;obtain⟨bh,bj,ba,bg⟩:=Aa a4 (.func (.func 147) #[.pointer (some ⟨H,0,none⟩)] #[]);refine bodyPost_ret (v:=.agg #[CV gc gl gr,CV hc hl hr,.func (.func 147) #[.pointer (some ⟨H,0,none⟩)] #[]]) ?_ rfl ⟨gc,gl,gr,hc,hl,hr,rfl,bj,ba,bg⟩;exact results_cell_row rfl _ _ _ _ _ _ _ rfl bh Tryz.underlying253 rfl (by kernel_rfl)
structure PJ (Bx:Nat->Prop)(B rb:Nat)(S:List Bool)(l1 l2:List Int)(gc gl gr hc hl hr b1 o1 n1 c1 b2 o2 n2 c2:Nat)(No:Nat->Prop)(is:List It)(W:World):Prop where
 row:RIs (fun g=>No g\/Bx g) B W rb (S++putIs l1 l2 is)
 ca:CIs Bx W gc gl gr rb (some ⟨b1,o1,none⟩) n1 c1 l1
 cb:CIs Bx W hc hl hr rb (some ⟨b2,o2,none⟩) n2 c2 l2
 bl:∀g,Bx g->g<W.heap.size
theorem CIs.bound {T:Nat->Prop}{W:World}{Y O M I:Nat}{a:Option Addr}{H U:Nat}{l:List Int}(E:CIs T W Y O M I a H U l):CIs (fun g=>T g/\g<W.heap.size) W Y O M I a H U l:=by
 obtain⟨gk,b,o,aa,G,F,Z,ac,ae⟩:=E.ex;exact⟨⟨gk,b,o,aa,⟨G.1,G.2,G.1⟩,⟨F.1,F.2,F.1⟩,Z,ac,ae⟩,E.bl,E.br,⟨E.bx.1.1,E.bx.1.2,E.bx.1.1⟩,⟨E.bx.2.1.1,E.bx.2.1.2,E.bx.2.1.1⟩,⟨E.bx.2.2.1,E.bx.2.2.2,E.bx.2.2.1⟩⟩
theorem Nq {f:Nat}{E:Func}{c:Code}(H:Tryz.prog.funcs[f]? =some E)(F:(E.name== "runtime.NumGoroutine")=false)(G:E.body=some c):∀(args:Array Value) (w:World),(callFunc f args).run Tryz.prog w=.ok (.enter f args) w:=enters_of H F G
theorem N9 (l:List Int)(E:Good l)(q:Nat)(F:q<l.length):(codeT l q).length<=15:=by rw[Pp l E];have:=E.ok q F;omega
theorem Lp (E F:List Int)(H:Good E)(G:Good F):∀is:List It,Has E F is->(∀i∈is,VI i)->(putIs E F is).length<=15*is.length
 | [],_,_=>by simp[putIs]
 |i::is,h,hv=>by
  have ih:=Lp E F H G is (Has.app (x:= [i]) (y:=is) h).2 (fun j I=>hv j (by simp[I]));have e:putIs E F (i::is)=Z6b E F i++putIs E F is:=by simp[putIs]
  rw[e,VE,VJ]
  have:(Z6b E F i).length<=15:=by
   cases i with
   |sym k=>exact N9 E H k (h.1 k (by simp)).1
   |far k=>exact N9 F G k (h.2 k (by simp)).1
   |rest n s=>
    have:=(hv _ (by simp:It.rest n s∈_)).2
    show (Al n s).length<=15
    rw[Ah];omega
  omega
theorem Z3y (O:Nat->Prop)(B T:Nat)(S:List Bool)(F G:List Int)(ae aa Z ac aj ag al av af ar au ao ai ak:Nat)(Y:List It)(a7:F.length=af)(a6:G.length=ai)(a2:Good F)(a1:Good G)(ap:Has F G Y)(ay:∀i∈Y,VI i)(bb:S.length+15*Y.length<=300000):
 Snk (PJ O B T S F G ae aa Z ac aj ag al av af ar au ao ai ak) B 236 236 147 #[.pointer (some ⟨ae,0,none⟩),.pointer (some ⟨aa,0,none⟩),.pointer (some ⟨Z,0,none⟩)] #[.pointer (some ⟨ac,0,none⟩),.pointer (some ⟨aj,0,none⟩),.pointer (some ⟨ag,0,none⟩)] #[.pointer (some ⟨T,0,none⟩)] Y:=by
 have step:∀ {No:Nat->Prop} {is R:List It} {i:It} {W W':World},is++i::R=Y->PJ O B T S F G ae aa Z ac aj ag al av af ar au ao ai ak No is W->Rp (fun g=>No g\/O g) B W T (S++putIs F G is++Z6b F G i) W'->PJ O B T S F G ae aa Z ac aj ag al av af ar au ao ai ak No (is++ [i]) W'/\Below B W W'/\Kp No W W':=by
  intro No is R i W W' H E I;refine⟨⟨?_, ?_, ?_,fun g h=>VG (E.bl g h) I.below.size⟩,I.below,I.kp.weaken (fun g h=>.inl h)⟩
  . have e:putIs F G (is++ [i])=putIs F G is++Z6b F G i:=by rw[MF];simp[putIs]
    rw[e,<-VS];exact I.is
  . exact E.ca.keep I.below.size (fun g M hb=>I.kp g M (.inr hb))
  . exact E.cb.keep I.below.size (fun g M hb=>I.kp g M (.inr hb))
 have ax:∀ {is R:List It} {i:It},is++i::R=Y->(S++putIs F G is).length<=300000:=by
  intro is R i H;have a3:Has F G is:=by rw[<-H]at ap;exact ap.app.1
  have ba:∀j∈is,VI j:=fun j a9=>ay j (by rw[<-H];simp[a9])
  have bc:=Lp F G a2 a1 is a3 ba;have a4:=congrArg List.length H;rw[VE,VJ]at a4;rw[VE];omega
 refine⟨Nq Tryz.func236 (by kernel_rfl) rfl,Nq Tryz.func236 (by kernel_rfl) rfl,Nq Tryz.func147 (by kernel_rfl) rfl, ?_, ?_, ?_, ?_⟩
 . intro No No' is W W1 E U hn;refine⟨E.row.grow U (fun g e=> ?_),E.ca.keep U.size (fun g M _=>U.block g M),E.cb.keep U.size (fun g M _=>U.block g M),fun g h=>VG (E.bl g h) U.size⟩
   rcases e with e|e
   . rcases hn g e with h|h
     . exact .inl (.inl h)
     . exact .inr h
   . exact .inl (.inr e)
 . intro No is R k W H E ah;have aw:=ap.1 k (by rw[<-H];simp);have:=Yo O (fun g=>No g\/O g) B ae aa Z T (some ⟨al,av,none⟩) af ar F k (S++putIs F G is) W E.ca a7 a2 (by omega) aw.2 E.row (ax H) (fun g M e=> ?_)
   . refine this.mono ?_;rintro e W' ⟨rfl,I⟩;exact⟨rfl,step H E I⟩
   . rcases e with e|e
     . exact ah g M e
     . have:=E.bl g e;omega
 . intro No is R k W H E ah;have aw:=ap.2 k (by rw[<-H];simp);have:=Yo O (fun g=>No g\/O g) B ac aj ag T (some ⟨au,ao,none⟩) ai ak G k (S++putIs F G is) W E.cb a6 a1 (by omega) aw.2 E.row (ax H) (fun g M e=> ?_)
   . refine this.mono ?_;rintro e W' ⟨rfl,I⟩;exact⟨rfl,step H E I⟩
   . rcases e with e|e
     . exact ah g M e
     . have:=E.bl g e;omega
 . intro No is R n s W H E ah;have az:=ay (.rest n s) (by rw[<-H];simp);have a5:s<=10:=az.2;have a8:2^s<=2^10:=VO (by decide) a5;have hn:n<65536:=VG (VG az.1 a8) (by decide);refine(Dp (fun g=>No g\/O g) B T n s (S++putIs F G is) W E.row hn (by omega) (ax H) (fun g M e=> ?_)).mono ?_
   . rcases e with e|e
     . exact ah g M e
     . have:=E.bl g e;omega
   . rintro e W' ⟨rfl,I⟩;exact⟨rfl,step H E I⟩
structure KJ (B gs gf:Nat)(No:Nat->Prop)(is:List It)(W:World):Prop where
 base:B<=gs/\B<=gf
 ne:gs≠gf
 no:¬No gs/\¬No gf
 s:ARow 297 W gs (symC is)
 f:ARow 298 W gf (farC is)
theorem A4 (is:List It)(k:Nat):symC (is++ [.sym k])=Tb (symC is) k/\farC (is++ [.sym k])=farC is:=by
 unfold symC farC TR Z1m Cq;simp[List.filterMap_append,List.foldl_append]
theorem L8 (is:List It)(k:Nat):farC (is++ [.far k])=Tb (farC is) k/\symC (is++ [.far k])=symC is:=by
 unfold symC farC TR Z1m Cq;simp[List.filterMap_append,List.foldl_append]
theorem Uz (is:List It)(n s:Nat):farC (is++ [.rest n s])=farC is/\symC (is++ [.rest n s])=symC is:=by
 unfold symC farC TR Z1m Cq;simp[List.filterMap_append]
theorem Z3k (is:List It)(k:Nat):(symC is).getD k 0<=is.length/\0<=(symC is).getD k 0:=by
 by_cases E:k<286
 . unfold symC;rw[Gs _ _ k (by simpa using E),Iv];have G:=YI (a:=k) (l:=TR is);have F:(TR is).length<=is.length:=ZB _ _;omega
 . have:(symC is).getD k 0=0:=by
    simp only[List.getD];rw[WJ (by rw[Li];omega)];rfl
   omega
theorem Z56 (is:List It)(k:Nat):(farC is).getD k 0<=is.length/\0<=(farC is).getD k 0:=by
 by_cases E:k<30
 . unfold farC;rw[Gs _ _ k (by simpa using E),Iv];have G:=YI (a:=k) (l:=Z1m is);have F:(Z1m is).length<=is.length:=ZB _ _;omega
 . have:(farC is).getD k 0=0:=by
    simp only[List.getD];rw[WJ (by rw[Mo];omega)];rfl
   omega
theorem IU (T:TypeId)(E k:Nat)(xs:List Int)(W:World)(G:T=297)(F:ARow T W E xs)(M:xs.length=286)(O:k<286)(I:0<=xs.getD k 0/\xs.getD k 0<=1000000):
 Calls Tryz.prog 238 #[.int .i64 (k:Int),.pointer (some ⟨E,0,none⟩)] W fun e w'=>e=.returned (.tuple #[])/\w'=W.setCell ⟨E,k,none⟩ (.int .i64 (xs.getD k 0+1)):=by
 have c:=F.cell k (by omega);have f:=F.frozen k;have H:(k:Int)<286:=by omega
 clear F G;generalize xs.getD k 0=x at*;go_enter Tryz.func238,Tryz.ntmps238
 go_wp2;go_end0
 exact⟨rfl,rfl⟩
theorem IR (T:TypeId)(E k:Nat)(xs:List Int)(W:World)(G:T=298)(F:ARow T W E xs)(M:xs.length=30)(O:k<30)(I:0<=xs.getD k 0/\xs.getD k 0<=1000000):
 Calls Tryz.prog 239 #[.int .i64 (k:Int),.pointer (some ⟨E,0,none⟩)] W fun e w'=>e=.returned (.tuple #[])/\w'=W.setCell ⟨E,k,none⟩ (.int .i64 (xs.getD k 0+1)):=by
 have c:=F.cell k (by omega);have f:=F.frozen k;have H:(k:Int)<30:=by omega
 clear F G;generalize xs.getD k 0=x at*;go_enter Tryz.func239,Tryz.ntmps239
 go_wp2;go_end0
 exact⟨rfl,rfl⟩
theorem IQ (n s:Int)(W:World):Calls Tryz.prog 240 #[.int .i64 n,.int .i64 s] W fun e w'=>e=.returned (.tuple #[])/\w'=W:=by
 go_enter Tryz.func240,Tryz.ntmps240
 go_wp2;go_end0
 exact⟨rfl,rfl⟩
theorem Gg {f:Nat}{E:Func}{c:Code}(H:Tryz.prog.funcs[f]? =some E)(F:(E.name== "runtime.NumGoroutine")=false)(G:E.body=some c):∀(args:Array Value) (w:World),(callFunc f args).run Tryz.prog w=.ok (.enter f args) w:=enters_of H F G
theorem KJ.step {B G H E k:Nat}{No:Nat->Prop}{is I:List It}{W:World}{v:Value}(F:KJ B G H No is W)(M:E=G\/E=H)(T:ARow 297 (W.setCell ⟨E,k,none⟩ v) G (symC I))(U:ARow 298 (W.setCell ⟨E,k,none⟩ v) H (farC I)):
 KJ B G H No I (W.setCell ⟨E,k,none⟩ v)/\Below B W (W.setCell ⟨E,k,none⟩ v)/\Kp No W (W.setCell ⟨E,k,none⟩ v):=by
 have O:=Ad W E k v;have hb:=F.base;have hn:=F.no;have Y:=F.s.lt;refine⟨⟨F.base,F.ne,F.no,T,U⟩,(Below.refl B W).grown O (by omega) (fun j e=>by rw[<-VM e];rcases M with e|e<;>rw[e]<;>omega),(Kp.refl No W).grown O (VB _) (fun j e=>by rw[<-VM e];rcases M with e|e<;>rw[e];exact hn.1;exact hn.2)⟩
theorem QJ (B G H:Nat)(I:List It)(Z:∀i∈I,VI i)(aa:I.length<=100000):
 Snk (KJ B G H) B 238 239 240 #[.pointer (some ⟨G,0,none⟩)] #[.pointer (some ⟨H,0,none⟩)] #[] I:=by
 have hl:∀ {is R:List It} {i:It},is++i::R=I->is.length<=100000/\VI i:=by
  intro is R i F;have Y:=congrArg List.length F;rw[VE,VJ]at Y;exact⟨by omega,Z i (by rw[<-F];simp)⟩
 refine⟨Gg Tryz.func238 (by kernel_rfl) rfl,Gg Tryz.func239 (by kernel_rfl) rfl,Gg Tryz.func240 (by kernel_rfl) rfl, ?_, ?_, ?_, ?_⟩
 . intro No No' is W W1 E U hn;have l1:=E.s.lt;have l2:=E.f.lt;refine⟨E.base,E.ne,⟨fun e=> ?_,fun e=> ?_⟩,E.s.keep (U.block _ l1),E.f.keep (U.block _ l2)⟩
   . rcases hn G e with h|h
     . exact E.no.1 h
     . omega
   . rcases hn H e with h|h
     . exact E.no.2 h
     . omega
 . intro No is R k W F E T;have M:k<286:=(hl F).2;have O:=Z3k is k;have:=(hl F).1
   refine(IU _ G k (symC is) W rfl E.s (Li is) M ⟨O.2,by omega⟩).mono ?_;rintro e W' ⟨rfl,rfl⟩;refine⟨rfl,E.step (.inl rfl) ?_ ?_⟩
   . rw[(A4 is k).1];exact E.s.set k _
   . rw[(A4 is k).2];exact E.f.keep ((Ad W G k _).block H E.f.lt (fun e=>E.ne (VM e).symm))
 . intro No is R k W F E T;have M:k<30:=(hl F).2;have O:=Z56 is k;have:=(hl F).1
   refine(IR _ H k (farC is) W rfl E.f (Mo is) M ⟨O.2,by omega⟩).mono ?_;rintro e W' ⟨rfl,rfl⟩;refine⟨rfl,E.step (.inr rfl) ?_ ?_⟩
   . rw[(L8 is k).2];exact E.s.keep ((Ad W H k _).block G E.s.lt (fun e=>E.ne (VM e)))
   . rw[(L8 is k).1];exact E.f.set k _
 . intro No is R n s W F E T;refine(IQ n s W).mono ?_;rintro e W' ⟨rfl,rfl⟩;refine⟨rfl,⟨E.base,E.ne,E.no, ?_, ?_⟩,Below.refl _ _,Kp.refl _ _⟩
   . rw[(Uz is n s).2];exact E.s
   . rw[(Uz is n s).1];exact E.f
end Go.Proofs.YtleocpdblhbimaaGreatDoor
namespace Go.Proofs.YtleocpdblhbimaaGreatDoor
open Go.RowKit
set_option linter.unusedVariables false
theorem GL:(Tryz.prog.info? 340).map (fun i=>(i.zero,i.size,i.bytes))=some (some (.agg #[.slice none 0 0,.slice none 0 0]),2,48):=by kernel_rfl
theorem StSt.made {w W:World}{m:Nat}(M:List Int)(I B:Nat->Nat)(F:W.ownsRow w.heap.size 340 2 (.slice (some ⟨w.heap.size,0,none⟩) m m) m (madeCells #[.slice none 0 0,.slice none 0 0] (m*2)).toList)(H:w.grownBy W none):StSt w W w.heap.size m M 0 I B:=by
 have hc:∀j,j<m*2->W.cell? ⟨w.heap.size,j,none⟩=some (.slice none 0 0):=by
  intro j G;rw[F.cellAt j G];have E:j%2=0\/j%2=1:=by omega
  rcases E with E|E<;>simp[madeCells,G,E]
 refine⟨VB _,(F.lt _ rfl).2,fun j=>F.frozenAt j,fun i hi=>by omega,fun i _ hi=>⟨hc _ (by omega),hc _ (by omega)⟩,fun i hi=>by omega,fun i hi=>by omega,(Below.refl w.heap.size w).grown H (VB _) (fun j h=>by cases h)⟩
set_option maxRecDepth 100000 in
theorem R8 (M n c m:Nat)(E:List Int)(w:World)(a5:E.length=n)(bv:n<=288)(bd:n<=c)(bf:c<=maxLen)(ck:m<=15)(ay:∀x∈E,0<=x/\x<=1000000)(aa:WRow w M E):
 Calls Tryz.prog 260 #[.slice (some ⟨M,0,none⟩) n c,.int .i64 m] w fun e w'=>∃g A B,e=.returned (.slice (some ⟨g,0,none⟩) m m)/\StSt w w' g m E m A B:=by
 obtain⟨bj,hi,bi,bk,bg⟩:=info_parts GL;have a3:=Ab aa;have ba:=Ab ay;have b9:=aa.lt;clear aa ay;go_enter Tryz.func260,Tryz.ntmps260
 go_wp2_with (at_make;refine wpList_make_full _ rfl _ _ 335 rfl w.heap.size 340 bj (.agg #[.slice none 0 0,.slice none 0 0]) 2 Tryz.underlying335 hi bi bk _ _ _ _ m rfl rfl rfl rfl (by rw[bg];omega) (by unfold maxLen;omega) (by simp) ?_)
 intro b0 a7 a1;have au:=Ab (StSt.made E (fun _=>0) (fun _=>0) a7 a1);clear a7 a1;generalize a6:w.heap.size=g at*;have cj:=Ab a6;clear a6;go_wp2;go_loopw [6,7,11] (fun al _ i wr=>∃(k:Nat) (A B:Nat->Nat),k<=m/\i=.int .i64 k/\StSt w wr g m E k A B/\((k=0/\al=.slice none 0 0)\/ (0<k/\al=.slice (some ⟨A (k-1),0,none⟩) (rowAt E (k-1)).length (rowAt E (k-1)).length))) (fun _ _ i _=>m-(intOf i).toNat)
 case atStart=>exact⟨0,_,_,VH _,rfl,Aa au,.inl ⟨rfl,rfl⟩⟩
 case round=>
  obtain⟨k,A,B,b8,rfl,H,ac⟩:=hrel;have ae:=Ab H
  by_cases Z:k<m
  . 
    obtain⟨I,F,ys,bc,ah,b3,aw,a8,az⟩:∃(I:Option Addr) (F:Nat) (ys:List Int),u6=.slice I F F/\ys.length=F/\F<=576/\RowIn .i64 wr I ys/\(∀j,0<=ys.getD j 0/\ys.getD j 0<=1000000000000)/\rowAt E k=mrg E (prs ys):=by
     rcases ac with ⟨aj,ag⟩|⟨aj,ag⟩
     . exact⟨none,0,[],ag,rfl,by omega,.inl rfl,fun j=>by simp,by rw[aj,rowAt];rfl⟩
     . refine⟨some ⟨A (k-1),0,none⟩,(rowAt E (k-1)).length,(rowAt E (k-1)).map Prod.fst,ag,by simp, ?_,(H.ws (k-1) (by omega)).2.2.row,T3 E (Aa ba) (k-1) (by omega), ?_⟩
       . have:=Iz E (k-1);omega
       . obtain⟨q,rfl⟩:∃q,k=q+1:=⟨k-1,by omega⟩
         rw[YA,rowAt]
    subst bc;have bb:=Ab aw;have bh:=Ab a8;have a2:=Ab az;have cd:=Ab ah;have b5:w.heap.size<=wr.heap.size:=H.bel.size;have ak:Hid (WRow wr M E):=(Aa a3).below H.bel (Aa a3).lt;clear ac aw a8 az H au;go_wp2_with fail
    refine(MO I F F ys wr ah (by omega) (Aa bb) (Aa bh)).mono ?_;rintro e bm ⟨gp,rfl,ap,T,ci⟩;have O:=Ab ((Aa ae).below T);have ar:=Ab ((Aa ak).below T (Aa ak).lt);have ax:=Ab ap;have bu:=T.size;have bq:(prs ys).length=F/2:=by rw[Eo,ah]
    have a9:=Ab bq;have b4:F/2<=288:=by omega
    clear ap T;go_wp2_with fail
    refine(NP M 0 gp 0 n c (F/2) (F/2) E (prs ys) bm a5 (Aa a9) (by omega) (by omega) bd (VB _) bf (by unfold maxLen;omega) (Aa ar).lt (Aa ax).lt (fun j af=>by rw[WG];exact((Aa ar).at_ j af).1) (fun j af=>by rw[WG];exact((Aa ax).at_ j af).1)).mono ?_;rintro e w3 ⟨g1,g2,rfl,ai,Y,av,bz,cg⟩;have G:=(Aa O).below av;rw[<-Aa a2]at ai Y;have U:n+F/2=(rowAt E k).length:=by rw[Aa a2,Bo,a5,Aa a9]
    have bw:=(Aa O).ghi;have b7:=(Aa O).glo;have ao:=Ab (G.next Z g1 g2 ⟨by omega,by omega⟩ ⟨by omega,by omega⟩ ai Y (n+F/2) U);have c0:=(G.todo k (VB _) Z).1;have c1:=(G.todo k (VB _) Z).2;have f0:=G.fz (k*2);have f1:=G.fz (k*2+1);have a4:=((Aa ao).done k (by omega)).1;simp only[if_true]at a4;rw[<-U]at a4;have bo:=Ab U;have ce:(k:Int)<(m:Int):=by omega
    clear ai Y av G U ae O;generalize bn:n+F/2=L at*;clear bn;go_wp2;go_roundw
    case rel=>
     refine⟨k+1,_,_,by omega,by go_num,Aa ao,.inr ⟨by omega, ?_⟩⟩;simp only[YA,if_true];rw[Aa bo]
    case measure=>simp[intOf];omega
  . obtain rfl:k=m:=by omega
    clear H ac;go_wp2;go_ret;exact⟨g,A,B,rfl,Aa ae⟩
theorem Tq {w w':World}(E:Below w.heap.size w w')(r:Option Nat):w.grownBy w' r:=⟨E.os,E.tape,E.output,E.size,fun i hi _=>E.block i hi⟩
theorem StSt.grown {w W W':World}{G m:Nat}{E:List Int}{k:Nat}{I B:Nat->Nat}{r:Nat}(F:StSt w W G m E k I B)(H:W.grownBy W' (some r))(Y:r<w.heap.size):
 (∀i,i<k->W'.cell? ⟨G,i*2,none⟩=some (.slice (some ⟨I i,0,none⟩) (rowAt E i).length (rowAt E i).length)/\W'.cell? ⟨G,i*2+1,none⟩=some (.slice (some ⟨B i,0,none⟩) (rowAt E i).length (rowAt E i).length))/\(∀i,i<k->BRow W' (B i) ((rowAt E i).map Prod.snd)):=by
 have T:=F.glo;refine⟨fun i hi=>⟨H.cell (F.done i hi).1 (by simp;omega),H.cell (F.done i hi).2 (by simp;omega)⟩,fun i hi=> ?_⟩;obtain⟨O,U,M⟩:=F.fs i hi;exact M.grown H (by simp;omega)
set_option maxRecDepth 100000 in
theorem FZ (a:Option Addr)(E ax:Nat)(l:List Int)(m:Nat)(w:World)(O:l.length=E)(bc:RowIn .i64 w a l)(ag:GoodW l m):
 Calls Tryz.prog 241 #[.slice a E ax,.int .i64 m] w fun e w'=>∃g s,e=.returned (.tuple #[.slice (some ⟨g,0,none⟩) E E,.int .i64 0])/\IsLens l m s/\s.length=E/\WRow w' g s/\Below w.heap.size w w'/\w.heap.size<=g:=by
 obtain⟨ct,hi,dr,eb,dc⟩:=info_parts Bv;have eo:=ag.len;have dp:=ag.lo;have cy:=ag.hi;have bz:=Ab ag;have cg:=Ab bc;have ej:=Ab O;have ba:=ED a E ax l m w O (by omega) bc;rw[PD ag]at ba;have bj:=Ab ba;clear bc ag ba;go_enter Tryz.func241,Tryz.ntmps241
 go_wp2_with fail
 refine(Aa bj).mono ?_;rintro e F ⟨rfl,rfl⟩;clear bj;go_wp2_with (at_make;refine wpList_make_full _ rfl _ _ 76 rfl F.heap.size 3 ct (.int .i64 0) 1 Tryz.underlying76 hi dr eb _ _ _ _ E rfl rfl rfl rfl (by rw[dc];omega) (by unfold maxLen;omega) (by simp) ?_)
 intro du bb ce;have e0:(madeCells #[Value.int .i64 0] E).toList=iv (List.replicate E 0):=Rh E;rw[e0]at bb;have ai:=Ab (WRow.own bb);have a4:=Ab ((Below.refl F.heap.size F).grown ce (VB _) (fun j h=>by cases h));clear bb ce e0;obtain⟨G,av⟩:=exq (F.heap.size);rw[av]at ai;rw[av];have aa:=Ab av;have eh:=(Aa ai).lt;clear av;go_wp2_with fail
 refine(FJ a E ax l du O (by omega) ((Aa cg).below (Aa a4) (VB _))).mono ?_;rintro e w3 ⟨ew,P,rfl,au,a6,ds⟩;have bh:=Ab au;have bu:=au.lt;have ci:=au.length;have ey:=Pt l l.length;have H:=Ab ((Aa a4).trans (a6.mono (Aa a4).size));have ap:=Ab ((Aa ai).below a6 (Aa ai).lt);have ei:=a6.size;have a7:=Ab bu;have cu:=Ab ci;have dd:P.length<=288:=by omega
 clear au bu a6 ai a4
 rcases ds with ⟨rfl,rfl⟩|⟨ar,a2,rfl,dz,db,ek,bi⟩
 . 
   go_wp2_with fail
   refine(Je G E E (List.replicate E 0) none 0 0 [] w3 (by simp) rfl (by omega) (by omega) (Aa ap) (.inl rfl) (fun b o h=>by cases h) (fun p h=>by cases h) (fun j=>by by_cases h:j<E<;>simp[List.getD,h])).mono ?_;rintro e ah ⟨rfl,al,ao⟩;have af:=Ab al;have U:Hid (Below F.heap.size F ah):=(Aa H).grown ao (Aa H).size (fun j h=>by cases h;exact ZV (Aa aa));clear al ao;go_wp2;go_ret2;exact⟨G,_,rfl,⟨[],Aa bh,by unfold Cs;rw[if_pos (by simp),O]⟩,by rw[Ca];simp,Aa af,Aa U,ZV (Aa aa)⟩
 . have ak:=Ab bi;have et:=bi.lt;clear bi;obtain⟨N,a1⟩:=exq (P.length);rw[a1]at dz dd;rw[a1];have I:=Ab a1;clear a1 ci
   by_cases bo:N<2
   . 
     have d8:(N:Int)<2:=by omega
     have a5:=Ab (Je G E E (List.replicate E 0) (some ⟨ar,0,none⟩) N a2 P w3 (by simp) (Aa I) (by omega) (by omega) (Aa ap) (Aa ak).row (fun b o h=>by cases h;omega) (fun p M=>by have:=Aa a7 p M;omega) (fun j=>by by_cases h:j<E<;>simp[List.getD,h]));go_wp2_with fail
     refine(Aa a5).mono ?_;rintro e ah ⟨rfl,al,ao⟩;have af:=Ab al;have U:Hid (Below F.heap.size F ah):=(Aa H).grown ao (Aa H).size (fun j h=>by cases h;exact ZV (Aa aa));clear al ao;go_wp2;go_ret2;exact⟨G,_,rfl,⟨P,Aa bh,by unfold Cs;rw[if_pos (by rw[Aa I];exact bo),O]⟩,by rw[Ca];simp,Aa af,Aa U,ZV (Aa aa)⟩
   . have d8:¬(N:Int)<2:=by omega
     have bq:=Ab (Wk a E ax l (some ⟨ar,0,none⟩) N a2 P w3 O (Aa I) (by omega) (by omega) ((Aa cg).below (Aa H) (VB _)) (Aa ak).row (fun p M=>by have:=Aa a7 p M;omega));go_wp2_with fail
     refine(Aa bq).mono ?_;rintro e ah ⟨da,rfl,bv,aj,em⟩;have bw:=Ab bv;have en:=aj.size;have U:=Ab ((Aa H).trans (aj.mono (Aa H).size));have af:=Ab ((Aa ap).below aj (Aa ap).lt);have cd:=Ab ((Aa ak).below aj (Aa ak).lt)
     have cj:∀x∈(P.map fun p=>l.getD p 0),0<=x/\x<=1000000:=by
      intro x df;obtain⟨p,M,rfl⟩:=XG.1 df;exact(Aa bz).ok p (Aa a7 p M)
     have dq:=Ab cj;have dx:Hid (Cs l P m=Ez E P (P.map fun p=>l.getD p 0) m m):=by unfold Hid Cs;rw[if_neg (by rw[Aa I];exact bo),O]
     have ae:Hid ((P.map fun p=>l.getD p 0).length=N):=by rw[WL];exact I
     have c7:Hid (N<=2^m):=by have h:=(Aa bz).room;rw[<-Aa cu,Aa I]at h;exact h
     clear bv aj cj ap ak H bq;generalize (P.map fun p=>l.getD p 0)=Ws at*;have b0:=Ab (R8 da N N m Ws ah (Aa ae) (by omega) (VB _) (by unfold maxLen;omega) cy (Aa dq) (Aa bw));go_wp2_with fail
     refine(Aa b0).mono ?_;rintro e dt ⟨gs,A,B,rfl,Y⟩;have dh:=Ab Y;have dn:=Ab ((Aa af).below Y.bel (by omega));have di:=Ab ((Aa cd).below Y.bel (by omega));have b5:=Ab ((Aa U).trans (Y.bel.mono (Aa U).size));have e1:=Y.bel.size;have d5:Hid (2*((N:Int)-1)=((Cr Ws m 0:Nat):Int)):=by unfold Hid;rw[Cr,Aa ae];omega
     clear Y af cd U bw b0;unfold maxLen at db;go_wp2;go_loopw [10,11,12,41] (fun cn _ _ a9 wr=>∃i:Nat,i<=m/\a9=.int .i64 i/\cn=.int .i64 ((Cr Ws m i:Nat):Int)/\dt.grownBy wr (some G)/\WRow wr G (Ez E P Ws m i)) (fun _ _ _ a9 _=>m-(intOf a9).toNat)
     case atStart=>exact⟨0,VH _,rfl,congrArg (Value.int .i64) (Aa d5),Aw _ _,Aa dn⟩
     case round=>
      obtain⟨i,ee,rfl,rfl,ac,a8⟩:=hrel;have dw:=Ab ac;have bd:=Ab a8
      by_cases c8:i<m
      . obtain⟨q,ay⟩:∃q,q=m-1-i:=⟨_,rfl⟩
        obtain⟨bg,b8⟩:=(Aa dh).grown ac (by omega);have c0:=(bg q (by omega)).1;have c1:=(bg q (by omega)).2;have d9:=Ab (b8 q (by omega));have b3:=Ab ((Aa di).grown ac (by simp;omega));have dy:1<=Ws.length:=by rw[Aa ae];omega
        have a3:=Lg Ws m dy dp (by rw[Aa ae];exact Aa c7) i c8;have ed:=Oe Ws m i;have bm:=Wh Ws m i;rw[Aa ae]at bm
        have ck:Il ((rowAt Ws q).map Prod.snd) (Cr Ws m i)=Bi Ws m i:=by
         unfold Bi;rw[<-ay];rw[<-ay]at a3;exact(Od _ _ a3).symm
        have d6:=Ab ck;rw[<-ay]at a3;have dj:=Iz Ws q;rw[Aa ae]at dj;have c9:Hid (Cr Ws m (i+1)=2*(Cr Ws m i-Bi Ws m i)):=rfl;have dv:Hid (Ez E P Ws m (i+1)=Cq (Ez E P Ws m i) (P.take (Bi Ws m i))):=rfl;have c5:=Ab (Ny E P Ws m (by rw[Aa I];omega) i);have c6:=Ab (Ek E P Ws m i);have cz:Hid (((rowAt Ws q).map Prod.snd).length=(rowAt Ws q).length):=by unfold Hid;simp
        have ea:((m:Int)-1-(i:Int)).toNat=q:=by omega
        have pa:(0:Int)<=(m:Int)-1-(i:Int):=by omega
        have co:(m:Int)-1-(i:Int)<(m:Int):=by omega
        clear ac a8 bg b8 ck ay;generalize Cr Ws m i=T at*;generalize Bi Ws m i=Z at*;generalize (rowAt Ws q).length=aw at*;generalize (rowAt Ws q).map Prod.snd=fs at*;generalize Ez E P Ws m i=cp at*;generalize A q=d7 at*;generalize B q=cw at*;have bn:=Ab (Ty (.slice (some ⟨d7,0,none⟩) aw aw) rfl cw aw aw T fs wr (Aa cz) a3 (by omega) (Aa d9));go_wp2_with fail
        refine(Aa bn).mono ?_;rintro e w6 ⟨rfl,az⟩;rw[Aa d6];have cm:=Ab (Aj (Aa dw) (Tq az (some G)));have dl:=Ab ((Aa bd).below az (Aa bd).lt);have b7:=Ab ((Aa b3).below az (Aa b3).lt)
        have b4:RowIn .i64 w6 (some ⟨ar,0,none⟩) (ni (P.take Z)):=.inr ⟨ar,0,rfl,(Aa b7).lt,fun j cv=>by
         have bf:j<Z/\j<P.length:=by simp at cv;omega
         rw[WG,((Aa b7).at_ j (by simpa using bf.2)).1];simp[List.getD,bf.1,bf.2]⟩
        have a5:=Ab (Je G E E cp (some ⟨ar,0,none⟩) Z a2 (P.take Z) w6 (Aa c6) (by rw[VL,Aa I];omega) (by omega) (by omega) (Aa dl) b4 (fun b o h=>by cases h;omega) (fun p M=>by have:=Aa a7 p (VR M);omega) (fun j=>by have:=Aa c5 j;omega));have eu:(Z:Int)<=(a2:Int):=by omega
        have ep:Z<=N:=bm;clear az b4 bn c0 c1 ea pa co;go_wp2_with fail
        refine(Aa a5).mono ?_;rintro e eg ⟨rfl,bk,b9⟩;have de:=Ab bk;have cq:=Ab (Aj (Aa cm) b9);clear bk b9 a5;go_wp2;go_roundw
        case rel=>exact⟨i+1,by omega,by go_num,by rw[Aa c9];go_num,Aa cq,by rw[Aa dv];exact Aa de⟩
        case measure=>simp[intOf];omega
      . obtain rfl:i=m:=by omega
        have dm:Hid (Below F.heap.size F wr):=(Aa b5).grown ac (Aa b5).size (fun j h=>by cases h;exact ZV (Aa aa));clear ac a8;go_wp2;go_ret2;exact⟨G,_,rfl,⟨P,Aa bh,(Aa dx).symm⟩,Ek _ _ _ _ _,Aa bd,Aa dm,ZV (Aa aa)⟩
end Go.Proofs.YtleocpdblhbimaaGreatDoor
namespace Go.Proofs.YtleocpdblhbimaaGreatDoor
open Go.RowKit
set_option linter.unusedVariables false
set_option maxRecDepth 100000
theorem Y4:(Tryz.prog.info? 297).map (·.size)=some 286:=by kernel_rfl
theorem OM:(Tryz.prog.info? 298).map (·.size)=some 30:=by kernel_rfl
theorem QI (a:Option Addr)(F ah:Nat)(ts:List Tk)(w:World)(al:ts.length=F)(a6:F<=3000)(ae:∀t∈ts,VT t)(O:TokIn w a ts):
 Calls Tryz.prog 211 #[.slice a F ah] w fun e w'=>e=.returned (.tuple #[.agg (iv (symC (itsOf ts))).toArray,.agg (iv (farC (itsOf ts))).toArray])/\Below w.heap.size w w':=by
 have ag:∀b o,a=some ⟨b,o,none⟩->ts≠ []->b<w.heap.size:=by
  intro b o e a3
  rcases O with h|⟨a7,a8,au,a5,_⟩
  . exact absurd h a3
  . rw[au]at e;have:=VM e;cases this;exact a5
 have ay:=Ab O;have aj:=Ab ae;have Y:=Ab al;clear O ae al;go_enter Tryz.func211,Tryz.ntmps211
 go_wp2_with fail
 have hi:=Gb ts;refine(BU (KJ w.heap.size w.heap.size (w.heap.size+1)) (fun g=>g<w.heap.size) w.heap.size 238 239 240 #[.pointer (some ⟨w.heap.size,0,none⟩)] #[.pointer (some ⟨w.heap.size+1,0,none⟩)] #[] a F ah ts _ (QJ w.heap.size w.heap.size (w.heap.size+1) (itsOf ts) (Ka (Aa aj)) (by rw[Aa Y]at hi;omega)) (Aa Y) a6 (Aa aj) ((Aa ay).alloc _|>.alloc _) ag (by simp;omega) ?_ (fun g az=>by simp at az;omega)).mono ?_
 . refine⟨⟨by omega,by omega⟩,by omega,⟨by omega,by omega⟩, ?_, ?_⟩
   . exact(Below.heap_alloc _ _ _ (by simp)).trans ((heap_alloc_new _ _).trans (by kernel_rfl))
   . have e:w.heap.size+1=(w.alloc (.cells (iv (List.replicate 286 0)).toArray 297)).heap.size:=by simp
     rw[e];exact(heap_alloc_new _ _).trans (by kernel_rfl)
 rintro e av ⟨rfl,U,aa,hK⟩;have af:=U.s;have ai:=U.f;have ak:Below w.heap.size w av:=((((Below.refl w.heap.size w).alloc (VB _) _).alloc (by simp) _)).trans aa;have a2:=Ab ak;have M:=Li (itsOf ts);have T:=Mo (itsOf ts);clear U aa hK ag ak hi;obtain⟨xs,G⟩:=exq (symC (itsOf ts));obtain⟨ys,H⟩:=exq (farC (itsOf ts));rw[G]at af M;rw[H]at ai T;have a4:=Ab G;have a1:=Ab H;clear G H;have ax:(Tryz.prog.info? 297).map (·.size)=some (iv xs).length:=by rw[Y4];simp[M]
 have aw:(Tryz.prog.info? 298).map (·.size)=some (iv ys).length:=by rw[OM];simp[T]
 have ao:(Tryz.prog.info? 297).map (·.size)=some (iv xs).toArray.size:=by rw[Y4];simp[M]
 have Z:(Tryz.prog.info? 298).map (·.size)=some (iv ys).toArray.size:=by rw[OM];simp[T]
 have ac:=Tryz.underlying297;have ap:=Tryz.underlying298;go_wp2;refine wp_region_held_drew (S:=fun w'=>ARow 297 w' w.heap.size xs/\ARow 298 w' (w.heap.size+1) ys) (by kernel_rfl) ⟨af,ai⟩ (fun E=> ?_);refine wpAnyH_take (i:=0) (oi:= {dst:=some 9,op:=.load 297 (.tmp 2),type:=297,pos:= "dynamic.go:71",after:= #[],guard:=none}) (v:=_) rfl (by kernel_rfl) (by kernel_rfl) (by kernel_rfl) (fun _ _ _ h=>h) (yieldsIf_load_mid (by rfl) _ _ rfl _ _ rfl _ _ (fun _ h=>h.1.range) ac rfl ax) E ?_;simp only[Act.put,VA,VC,VD];refine wpAnyH_take (i:=1) (oi:= {dst:=some 10,op:=.load 298 (.tmp 3),type:=298,pos:= "dynamic.go:71",after:= #[],guard:=none}) (v:=_) rfl (by kernel_rfl) (by kernel_rfl) (by kernel_rfl) (fun _ _ _ h=>h) (yieldsIf_load_mid (by rfl) _ _ rfl _ _ rfl _ _ (fun _ h=>h.2.range) ap rfl aw) E ?_;simp only[Act.put,VA,VC,VD];refine rdH (i:=2) fun K hK=> ?_
 refine Ei rfl 297 (.tmp 2) (.tmp 9) rfl w.heap.size xs rfl rfl E.1 ao ?_;simp only[Act.put];refine hK.out _ _ E (fun I=> ?_);clear hK K E;refine rdH (i:=3) fun K hK=> ?_
 refine Ei rfl 298 (.tmp 3) (.tmp 10) rfl (w.heap.size+1) ys rfl rfl I.2 Z ?_;simp only[Act.put];refine hK.out _ _ I (fun ar=> ?_);clear hK K I;refine wpAnyH_done (by kernel_rfl) ?_ _;go_wp2;refine bodyPost_ret (v:=.tuple #[.agg (iv xs).toArray,.agg (iv ys).toArray]) ?_ rfl ⟨by rw[Aa a4,Aa a1],(Aa a2).drew⟩;exact Ln rfl _ _ w.heap.size (w.heap.size+1) _ _ rfl rfl (ar.1.load ac rfl ao) (ar.2.load ap rfl Z)
theorem Ib (a:Option Addr)(F ak:Nat)(l:List Int)(m E:Nat)(w:World)(au:l.length=F)(ap:RowIn .i64 w a l)(T:GoodW l m)(av:E<=F)(n:Nat)(aa:Hid (Gu (lensD l m) E F=n)):
 Calls Tryz.prog 212 #[.slice a F ak,.int .i64 (m:Int),.int .i64 (E:Int)] w fun e w'=>∃g,e=.returned (.slice (some ⟨g,0,none⟩) n F)/\IsLens l m (lensD l m)/\w.heap.size<=g/\g<w'.heap.size/\Row .i64 w' g 0 (trimL (lensD l m) E)/\Below w.heap.size w w':=by
 have a6:=T.len;go_enter Tryz.func212,Tryz.ntmps212
 go_wp2_with fail
 refine(FZ a F ak l m w au ap T).mono ?_;rintro e ae ⟨g,s,rfl,Y,ah,O,ag,af⟩;have H:=Z15 Y;rw[H]at aa;have aj:Hid (IsLens l m (lensD l m)):=Ab (by rw[H];exact Y);have az:=Ab H;have a1:=Ab O;have ai:=Ab ag;have a4:=Ab ah;have U:∀j,j<F->ae.cell? ⟨g,j,none⟩=some (.int .i64 (s.getD j 0)):=fun j al=>(O.at_ j (by omega)).1
 have aw:=Ab U;have ac:=O.lt
 have ao:Hid (Row .i64 ae g 0 (trimL (lensD l m) E)):=fun j al=>by
  rw[WG,H,Oo];refine U j ?_;rw[H,Cg]at al;have:=Ju s E s.length
  omega
 clear Y H O ag ah ap T U;go_wp2;go_loop [9] (fun v=>∃k:Nat,k<=F/\E<=k/\v=.int .i64 (k:Int)/\Hid (Gu s E k=n)) (fun v=>(intOf v).toNat)
 case atStart=>exact⟨F,VB _,av,rfl,aa⟩
 case round=>
  obtain⟨k,a2,ay,rfl,I⟩:=hrel
  by_cases Z:E<k
  . obtain⟨q,rfl⟩:∃q,k=q+1:=⟨k-1,by omega⟩
    have c:=Aa aw q (by omega);have ar:(E:Int)<((q+1:Nat):Int):=by omega
    have a5:(((q+1:Nat):Int)-1).toNat=q:=by omega
    have ax:(0:Int)<=((q+1:Nat):Int)-1:=by omega
    have a3:((q+1:Nat):Int)-1<(F:Int):=by omega
    by_cases G:s.getD q 0=0
    . rw[G]at c;have M:Hid (Gu s E q=n):=Ab (by have:=Aa I;rw[Gu,if_pos ⟨Z,G⟩]at this;exact this);clear G I;go_wp2;go_round
      case rel=>exact⟨q,by omega,by omega,by go_num,M⟩
      case measure=>simp[intOf]
    . have M:Hid (q+1=n):=Ab (by have:=Aa I;rw[Gu,if_neg (fun h=>G h.2)]at this;exact this);have hb:(s.getD q 0==0)=false:=by rw[beq_eq_false_iff_ne];exact G
      generalize s.getD q 0=x at c hb;clear G I;go_wp2;go_ret;exact⟨g,by rw[<-Aa M];rfl,Aa aj,af,ac,Aa ao,Aa ai⟩
  . have M:Hid (k=n):=Ab (by
     have:=Aa I
     cases k with
     |zero=>rw[Gu]at this;exact this
     |succ k=>rw[Gu,if_neg (fun h=>Z h.1)]at this;exact this)
    have ar:¬(E:Int)<(k:Int):=by omega
    clear I;go_wp2;go_ret;exact⟨g,by rw[<-Aa M];rfl,Aa aj,af,ac,Aa ao,Aa ai⟩
theorem BT (No:Nat->Prop)(B O:Nat)(a:Option Addr)(U ar:Nat)(ts:List Tk)(S:List Bool)(F ao af al G ak ah aj:Nat)(H I:List Int)(ae Z Y aa ai ag:Nat)(E W M:World)(h:RIs No B E O S)(bg:E.heap.size<=W.heap.size)(T:Below E.heap.size E M)
 (a7:CIs (fun g=>W.heap.size<=g\/g=F\/g=G) M ae Z Y O (some ⟨F,ao,none⟩) af al H) (au:CIs (fun g=>W.heap.size<=g\/g=F\/g=G) M aa ai ag O (some ⟨G,ak,none⟩) ah aj I)
 (a1:No F\/E.heap.size<=F) (a6:No G\/E.heap.size<=G) (a4:H.length=af) (a3:I.length=ah) (a5:Good H) (av:Good I) (ba:Has H I (itsOf ts))
 (ay:ts.length=U) (bc:U<=3000) (ap:∀t∈ts,VT t) (ax:TokIn E a ts) (a2:∀b o,a=some ⟨b,o,none⟩->ts≠ []->No b) (a9:∀g,E.heap.size<=g->¬No g) (bh:S.length+60*U<=280000):
 Calls Tryz.prog 181 #[.slice a U ar,.agg #[CV ae Z Y,CV aa ai ag,.func (.func 147) #[.pointer (some ⟨O,0,none⟩)] #[]]] M fun e w'=>e=.returned (.tuple #[])/\Rp No B E O (S++putIs H I (itsOf ts)) w':=by
 have bi:=T.size;have hi:=Gb ts;have bf:=h.lt;have bd:=h.base;have hK:=Z3y (fun g=>(W.heap.size<=g\/g=F\/g=G)/\g<M.heap.size) B O S H I ae Z Y aa ai ag F ao af al G ak ah aj (itsOf ts) a4 a3 a5 av ba (Ka ap) (by omega)
 have bb:PJ (fun g=>(W.heap.size<=g\/g=F\/g=G)/\g<M.heap.size) B O S H I ae Z Y aa ai ag F ao af al G ak ah aj No [] M:=by
  refine⟨?_,a7.bound,au.bound,fun g ac=>ac.2⟩;have e:S++putIs H I []=S:=by simp[putIs]
  rw[e];refine h.grow T (fun g e=> ?_)
  rcases e with e|⟨e|e|e,_⟩
  . exact .inl e
  . exact .inr (by omega)
  . rw[e];exact a1
  . rw[e];exact a6
 refine(BU _ No B _ _ _ _ _ _ a U ar ts M hK ay bc ap (ax.below T (VB _)) a2 (by omega) bb (fun g ac=>a9 g (by omega))).mono ?_;rintro e w' ⟨rfl,az,a8,aw⟩;refine⟨rfl,az.row.grow (Below.refl _ _) (fun g e=>.inl (.inl e)),(T.mono (by omega)).trans a8,fun g ac hn=>(aw g (by omega) hn).trans (T.block g ac)⟩
theorem PM {ts:List Tk}(F:∀t∈ts,VT t):Has Ky Ir (itsOf ts):=by
 have hi:=Ka F;refine⟨fun k E=> ?_,fun k E=> ?_⟩
 . have h:k<286:=hi _ E;refine⟨by rw[Mj];omega, ?_⟩;rw[PP (by omega)]
   split
   . decide
   . split
     . decide
     . split<;>decide
 . have h:k<30:=hi _ E;exact⟨by rw[Fk];omega,by rw[Z0 (by omega)];decide⟩
theorem C7 (No:Nat->Prop)(B H:Nat)(a:Option Addr)(I az:Nat)(ts:List Tk)(S:List Bool)(w:World)(h:RIs No B w H S)(bb:ts.length=I)(bi:I<=3000)(ag:∀t∈ts,VT t)(ar:TokIn w a ts)(ay:∀b o,a=some ⟨b,o,none⟩->ts≠ []->No b)(a1:∀g,w.heap.size<=g->¬No g)(bd:S.length+60*I<=280000):
 Calls Tryz.prog 150 #[.pointer (some ⟨H,0,none⟩),.slice a I az] w fun e w'=>e=.returned (.tuple #[])/\Rp No B w H (S++Ha ts) w':=by
 have aw:=Ab (fun(W w3:World) (gc gl gr hc hl hr b1 b2:Nat) hz T aa M hb1 hb2=>BT No B H a I az ts S b1 0 288 288 b2 0 32 32 Ky Ir gc gl gr hc hl hr w W w3 h hz T aa M hb1 hb2 Mj Fk Mk Mi (PM ag) bb bi ag ar ay a1 bd);obtain⟨F,ai⟩:=exq (Ky);obtain⟨G,ah⟩:=exq (Ir);have O:=Mj;have U:=Fk;have al:=Mk;have ae:=Mi;have ao:=Ab (K7 w);have ax:Ha ts=putIs F G (itsOf ts):=by unfold Ha;rw[ai,ah]
 rw[ax];simp only[ai,ah]at aw ao O U al ae;have ba:=Ab al;have bc:=Ab ae;clear h ag ar ay a1 ai ah ax al ae;have a8:(Tryz.prog.info? 247).map (·.size)=some (iv F).toArray.size:=by rw[Ya];simp[O]
 have a6:(Tryz.prog.info? 248).map (·.size)=some (iv G).toArray.size:=by rw[CP];simp[U]
 go_enter Tryz.func150,Tryz.ntmps150
 go_wp2_with fail
 refine(Aa ao).mono ?_;rintro e E ⟨rfl,ak⟩;have bh:=ak.size;have a5:=Ab ak;clear ak;have av:((E.alloc (.cells (iv (List.replicate 288 0)).toArray 247)).alloc (.cells (iv (List.replicate 32 0)).toArray 248)).heap[E.heap.size]? =some (.cells (iv (List.replicate 288 0)).toArray 247 (0,0)):=(Below.heap_alloc _ _ _ (by simp)).trans (heap_alloc_new _ _)
 have ap:(((E.alloc (.cells (iv (List.replicate 288 0)).toArray 247)).alloc (.cells (iv (List.replicate 32 0)).toArray 248)).setRow E.heap.size (iv F).toArray).heap[E.heap.size+1]? =some (.cells (iv (List.replicate 32 0)).toArray 248 (0,0)):=by
  rw[Go.setRow_other _ _ _ _ (by omega)];have e:E.heap.size+1=(E.alloc (.cells (iv (List.replicate 288 0)).toArray 247)).heap.size:=by simp
  rw[e];exact heap_alloc_new _ _
 have a3:=Ab av;have a2:=Ab ap;have Y:=Ab (fun x y=>Jt w E x y 247 248 F G (Aa a5) (by simp));clear av ap;go_upto_region 1 with (first|refine wpList_store_row rfl 247 (.tmp 4) (.tmp 8) rfl E.heap.size _ rfl rfl 247 (iv (List.replicate 288 0)).toArray (Aa a3) a8 (by simp[O]) (Cy F) ?_|refine wpList_store_row rfl 248 (.tmp 5) (.tmp 9) rfl (E.heap.size+1) _ rfl rfl 248 (iv (List.replicate 32 0)).toArray (Aa a2) a6 (by simp[U]) (Cy G) ?_)
 simp only[Act.put];generalize Z:World.setRow (World.setRow (World.alloc (World.alloc _ _) _) _ _) _ _=W2;have af:ARow 247 W2 E.heap.size F:=by rw[<-Z];exact(Aa Y _ _).1
 have ac:ARow 248 W2 (E.heap.size+1) G:=by rw[<-Z];exact(Aa Y _ _).2.1
 have aj:Below w.heap.size w W2:=by rw[<-Z];exact(Aa Y _ _).2.2
 have au:=aj.size;have bj:=Ab (fun k=>Vd E.heap.size 0 288 288 (E.heap.size+1) 0 32 32 H F G (W2.drewN k) O U (by decide) (by decide) af.lt ac.lt af.row ac.row (Aa ba) (Aa bc));have bk:=Ab aj;clear Z Y a3 a2 af ac aj;go_region_with (first|(go_at_call 182;refine(Aa bj _).mono ?_;rintro e w3 ⟨gc,gl,gr,hc,hl,hr,rfl,aa,M,T⟩;have a7:=Ab aa;have bf:=Ab M;have a9:=Ab T;clear aa M T)|(go_at_call 181;refine(Aa aw W2 w3 gc gl gr hc hl hr E.heap.size (E.heap.size+1) au ((Ae (Aa bk) _).trans ((Aa a9).mono au)) (Aa a7) (Aa bf) (.inr bh) (.inr (by omega))).mono ?_;rintro e bm ⟨rfl,a4⟩;have bg:=Ab a4;clear a4))
 all_goals try go_wp2
 all_goals go_end0
 all_goals exact⟨rfl,Aa bg⟩
end Go.Proofs.YtleocpdblhbimaaGreatDoor
