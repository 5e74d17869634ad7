import Derived.Test.YtleocpdblhbimaaGreatDoorQ35
import Derived.Laws.EntriesVeiled
import Derived.Test.YtleocpdblhbimaaGreatDoorQ23
import Derived.Laws.Tables
import Derived.Laws.Rows
import Derived.Laws.ResultCell
import Derived.Deep.RegionHeld3
import Derived.Deep.WholeRow
set_option linter.unusedSimpArgs false
set_option maxHeartbeats 4000000
namespace Go.Proofs.YtleocpdblhbimaaGreatDoor
open Go.RowKit
set_option linter.unusedVariables false
theorem Uk (n:Nat){k:Nat}(E:k<16):Ip n k<32768:=VG (TG n k) (VO (j:=15) (by decide) (by omega))
theorem TE (n s:Nat)(w:World)(M:GW n s=true)(T:s<=16)(G:n<65536):
 Calls Tryz.prog 237 #[.int .i64 n,.int .i64 s] w fun e w'=>e=.returned (.tuple #[.int .i64 (Ip n s:Nat),.int .i64 0])/\w'=w:=by
 go_enter Tryz.func237,Tryz.ntmps237
 go_wp2_with (go_at_call 256;refine(Z1l _ _ _).mono ?_;rintro e w' ⟨rfl,rfl⟩)
 go_loop [6,13] (fun t i=>∃k:Nat,k<=s/\i=.int .i64 k/\t=.int .i64 (Ip n k:Nat)) (fun _ i=>s-(intOf i).toNat)
 case atStart=>exact⟨0,VH _,rfl,rfl⟩
 case round=>
  obtain⟨k,I,rfl,rfl⟩:=hrel
  by_cases O:k<s
  . have hb:=Uk n (k:=k) (by omega);have E:=KR (Ip n k) n k (by omega) (by omega);have H:Hid (Ip n (k+1)=Ip n k*2|||n/2^k%2):=rfl;have F:=Ab E;clear E;generalize Ip n k=m at*;go_wp2;go_round
    case rel=>exact⟨k+1,by omega,by go_num,by rw[H.out,Aa F]⟩
    case measure=>simp[intOf];omega
  . have e:k=s:=by omega
    subst e;go_wp2;go_ret2;exact⟨rfl,rfl⟩
end Go.Proofs.YtleocpdblhbimaaGreatDoor
namespace Go.Proofs.YtleocpdblhbimaaGreatDoor
open Go.RowKit
set_option linter.unusedVariables false
set_option maxRecDepth 100000
theorem D9:∀n c,Al (Ip c n) n=hb c n:=by
 intro n c;apply XK
 . rw[Ah,Bd]
 . intro i E F;rw[Ah]at E;have G:(Al (Ip c n) n).getD i false=(Al (Ip c n) n)[i]'(by rw[Ah];exact E):=by simp[List.getD,Ah,E]
   rw[<-G,Jb,decide_eq_true E,ZF,Qc,decide_eq_true E,ZF];exact(hb_at n c i E F).symm
where
 hb_at:∀n c i (h:i<n) (F:i<(hb c n).length),(hb c n)[i]=c.testBit (n-1-i)
 |0,c,i,h,_=>by omega
 |n+1,c,i,h,F=>by
  by_cases e:i=n
  . subst e
    have:(hb c (i+1))[i]'h2=decide (c%2=1):=by
     have hl:=Bd i (c/2);simp only[hb];rw[List.getElem_append_right (by omega)];simp[hl]
    rw[this];rw[show i+1-1-i=0 by omega,Nat.testBit_zero]
  . have hl:=Bd n (c/2)
    have:(hb c (n+1))[i]'h2=(hb (c/2) n)[i]'(by omega):=by
     simp only[hb];rw[List.getElem_append_left (by omega)]
    rw[this,hb_at n (c/2) i (by omega) (by omega),show n+1-1-i=(n-1-i)+1 by omega,Nat.testBit_succ]
structure CIs (Bx:Nat->Prop)(W:World)(gc gl gr rb:Nat)(a:Option Addr)(len cap:Nat)(l:List Int):Prop where
 ex:∃gk b o,a=some ⟨b,o,none⟩/\(b<W.heap.size/\Bx b)/\(gk<W.heap.size/\Bx gk)/\W.cell? ⟨gc,0,none⟩=some (.slice (some ⟨gk,0,none⟩) len len)/\Row .i64 W b o l/\∀j,j<len->W.cell? ⟨gk,j,none⟩=some (.int .i64 (codeN l j:Nat))
 bl:W.cell? ⟨gl,0,none⟩=some (.slice a len cap)
 br:W.cell? ⟨gr,0,none⟩=some (.pointer (some ⟨rb,0,none⟩))
 bx:(gc<W.heap.size/\Bx gc)/\(gl<W.heap.size/\Bx gl)/\(gr<W.heap.size/\Bx gr)
theorem CIs.keep {F:Nat->Prop}{W W':World}{Y M U aa:Nat}{a:Option Addr}{T Z:Nat}{l:List Int}(E:CIs F W Y M U aa a T Z l)(ah:W.heap.size<=W'.heap.size)(ac:∀g,g<W.heap.size->F g->W'.heap[g]? =W.heap[g]?):CIs F W' Y M U aa a T Z l:=by
 have hc:∀ {g j:Nat} {v:Value},g<W.heap.size/\F g->W.cell? ⟨g,j,none⟩=some v->W'.cell? ⟨g,j,none⟩=some v:=fun {g j v} G hv=>by
  rw[World.cell?_of_block (w:=W) (a:=⟨g,j,none⟩) (ac g G.1 G.2)];exact hv
 have up:∀ {g:Nat},g<W.heap.size/\F g->g<W'.heap.size/\F g:=fun G=>⟨VG G.1 ah,G.2⟩
 obtain⟨gk,b,o,ag,O,I,ae,ab,af⟩:=E.ex;exact⟨⟨gk,b,o,ag,up O,up I,hc E.bx.1 ae,fun j H=>hc O (ab j H),fun j H=>hc I (af j H)⟩,hc E.bx.2.1 E.bl,hc E.bx.2.2 E.br,up E.bx.1,up E.bx.2.1,up E.bx.2.2⟩
theorem CIs.more {I H:Nat->Prop}{W:World}{Y M U aa:Nat}{a:Option Addr}{T Z:Nat}{l:List Int}(E:CIs I W Y M U aa a T Z l)(F:∀g,I g->H g):CIs H W Y M U aa a T Z l:=by
 obtain⟨gk,b,o,af,O,G,ac,ab,ae⟩:=E.ex;exact⟨⟨gk,b,o,af,⟨O.1,F _ O.2⟩,⟨G.1,F _ G.2⟩,ac,ab,ae⟩,E.bl,E.br,⟨E.bx.1.1,F _ E.bx.1.2⟩,⟨E.bx.2.1.1,F _ E.bx.2.1.2⟩,⟨E.bx.2.2.1,F _ E.bx.2.2.2⟩⟩
abbrev CV (gc gl gr:Nat):Value:=.func (.func 236) #[] #[.pointer (some ⟨gc,0,none⟩),.pointer (some ⟨gl,0,none⟩),.pointer (some ⟨gr,0,none⟩)]
theorem Yo (ap No:Nat->Prop)(B ab Z aa H:Nat)(a:Option Addr)(G ae:Nat)(l:List Int)(q:Nat)(S:List Bool)(W:World)(F:CIs ap W ab Z aa H a G ae l)(a3:l.length=G)(E:Good l)(am:q<G)(ah:0<l.getD q 0)(I:RIs No B W H S)(ao:S.length<=300000)(T:∀g,W.heap.size<=g->¬No g):
 Calls Tryz.prog 236 #[.int .i64 (q:Int),.pointer (some ⟨ab,0,none⟩),.pointer (some ⟨Z,0,none⟩),.pointer (some ⟨aa,0,none⟩)] W fun e w'=>e=.returned (.tuple #[])/\Rp No B W H (S++codeT l q) w':=by
 obtain⟨gk,b,o,rfl,hb,a1,c1,ac,M⟩:=F.ex;have c2:=F.bl;have a2:=F.br;have au:=E.len;obtain⟨m,hm⟩:=WF (E.ok q (by omega)).1;have ai:=(E.ok q (by omega)).2;have aq:=ac q (by omega);have az:=M q am;rw[hm]at aq ai ah;have O:=(Ig l E (by omega) hm (by omega)).2.2;have Y:Hid (S++codeT l q=S++Al (Ip (codeN l q) m) m):=Ab (by unfold codeT;rw[hm,WM,D9]);have ag:2^m<=2^15:=VO (by decide) (by omega);have aj:(2:Nat)^15=32768:=by decide
 have aw:codeN l q<32768:=by omega
 have U:GW (codeN l q:Nat) (m:Nat)=true:=decide_eq_true ⟨by omega,by omega,by omega,by rw[WM];exact_mod_cast O⟩;have af:=Ab (fun W=>TE (codeN l q) m W U (by omega) (by omega));have ay:=Uk (codeN l q) (k:=m) (by omega);have ak:=Ab (fun(k x:Nat) (al:x<65536)=>Dp No B H x m S (W.drewN k) (I.drewN k) al (by omega) ao T);have an:=Ab (fun k=>I.drew k);rw[Aa Y];have ax:(q:Int)<(G:Int):=by omega
 clear F ac M O U Y I T E hm ag aj;generalize codeN l q=as at*;generalize Ip as m=a0 at*;go_enter Tryz.func236,Tryz.ntmps236
 go_wp2;go_quiet ((go_at_call 237;refine Calls.quiet_of_same (Aa af _)))
 go_wp2;go_region_with (go_at_call 147;refine(Aa ak _ _ (by omega)).mono ?_;rintro e av ⟨rfl,ar⟩)
 all_goals try go_wp2
 all_goals go_end0
 all_goals trace_state
 all_goals exact⟨rfl,(Aa an _).trans ar⟩
theorem Sp (b o I E F:Nat)(l:List Int)(w:World)(ac:l.length=E)(al:1<=E)(Z:b<w.heap.size)(ae:Row .i64 w b o l)(aa:Good l):
 Calls Tryz.prog 210 #[.pointer (some ⟨I,0,none⟩),.slice (some ⟨b,o,none⟩) E F] w fun e w'=>∃gc gl gr,e=.returned (CV gc gl gr)/\CIs (fun g=>w.heap.size<=g\/g=b) w' gc gl gr I (some ⟨b,o,none⟩) E F l/\Below w.heap.size w w':=by
 have U:=Ab ae;have ah:=Ab aa;have M:=Ab ac;clear ae aa ac;go_enter Tryz.func210,Tryz.ntmps210
 go_wp2_with fail
 refine(DM (some ⟨b,o,none⟩) E F l _ (Aa M) (RowIn.alloc (RowIn.alloc (.inr ⟨b,o,rfl,Z,Aa U⟩) _) _) (Aa ah)).mono ?_;rintro e O ⟨g,rfl,T,H,Y⟩;have aj:=H.size;simp only[World.size_alloc]at aj Y
 have ag:Hid (CIs (fun g=>w.heap.size<=g\/g=b) (O.alloc (.cells #[.slice (some ⟨g,0,none⟩) E E] 76)) O.heap.size (w.heap.size+1) w.heap.size I (some ⟨b,o,none⟩) E F l/\Below w.heap.size w (O.alloc (.cells #[.slice (some ⟨g,0,none⟩) E E] 76))):=by
  have ak:=(Below.refl w.heap.size w).alloc (VB _) (.cells #[.pointer (some ⟨I,0,none⟩)] 177);have b1:=ak.alloc (by simp) (.cells #[.slice (some ⟨b,o,none⟩) E F] 76);have b2:=b1.trans (H.mono (by simp;omega));have ab:=b2.alloc (by omega) (.cells #[.slice (some ⟨g,0,none⟩) E E] 76);have ai:=(T.lt g rfl).2;refine⟨⟨⟨g,b,o,rfl,⟨by simp;omega,.inr rfl⟩,⟨by simp;omega,.inl (by omega)⟩,by simp,fun j G=>(ab.cell (p:=⟨b,_,none⟩) Z).trans (Aa U j G), ?_⟩, ?_, ?_,⟨by simp,.inl (by omega)⟩,⟨by simp;omega,.inl (by omega)⟩,⟨by simp;omega,.inl (by omega)⟩⟩,ab⟩
  . intro j G;rw[World.cell?_alloc_past _ _ _ (by simpa using ai)];rw[T.cellAt j (by omega)];have hc:=Du l E;have af:j<(St l E).length:=by rw[hc,Aa M];exact G
    have:=Yp l (j:=j) (by rw[Aa M];exact G) E
    rw[if_pos G]at this;rw[<-this];simp[i64s,List.getD,af]
  . rw[World.cell?_alloc_past _ _ _ (by show w.heap.size+1<_;omega),H.cell (p:=⟨w.heap.size+1,0,none⟩) (by simp only[World.size_alloc];omega)];simp
  . rw[World.cell?_alloc_past _ _ _ (by show w.heap.size<_;omega),H.cell (p:=⟨w.heap.size,0,none⟩) (by simp only[World.size_alloc];omega)];simp
 clear T H Y;go_wp2;go_ret;exact⟨_,_,_,rfl,Aa ag⟩
theorem Vd (F aa Y ag G ab T ai H:Nat)(Z U:List Int)(w:World)(aw:Z.length=Y)(a0:U.length=T)(bc:1<=Y)(ay:1<=T)(aq:F<w.heap.size)(as:G<w.heap.size)(au:Row .i64 w F aa Z)(av:Row .i64 w G ab U)(ap:Good Z)(am:Good U):
 Calls Tryz.prog 182 #[.pointer (some ⟨H,0,none⟩),.slice (some ⟨F,aa,none⟩) Y ag,.slice (some ⟨G,ab,none⟩) T ai] w fun e w'=>∃gc gl gr hc hl hr,e=.returned (.agg #[CV gc gl gr,CV hc hl hr,.func (.func 147) #[.pointer (some ⟨H,0,none⟩)] #[]])/\CIs (fun g=>w.heap.size<=g\/g=F\/g=G) w' gc gl gr H (some ⟨F,aa,none⟩) Y ag Z/\CIs (fun g=>w.heap.size<=g\/g=F\/g=G) w' hc hl hr H (some ⟨G,ab,none⟩) T ai U/\Below w.heap.size w w':=by
 obtain⟨an,be⟩:∃an,an=w.heap.size:=⟨_,rfl⟩
 have ax:=Ab (fun(W:World) (ae:Below w.heap.size w W)=>Sp F aa H Y ag Z W aw bc (VG aq ae.size) (fun j aj=>(ae.cell (p:=⟨F,_,none⟩) aq).trans (au j aj)) ap);have a7:=Ab (fun(W:World) (ae:Below w.heap.size w W)=>Sp G ab H T ai U W a0 ay (VG as ae.size) (fun j aj=>(ae.cell (p:=⟨G,_,none⟩) as).trans (av j aj)) am);clear au av ap am;go_enter Tryz.func182,Tryz.ntmps182
 go_wp2_with fail
 refine(Aa ax _ ((Below.refl w.heap.size w).alloc (VB _) _)).mono ?_;rintro e a9 ⟨gc,gl,gr,rfl,ao,ah⟩;have a6:=ah.size;simp only[World.size_alloc]at a6;have al:Below w.heap.size w a9:=((Below.refl w.heap.size w).alloc (VB _) _).trans (ah.mono (by simp));have a8:=Ab ao;have bb:=Ab ah;have ar:=Ab al;clear ao ah al;go_wp2_with fail
 refine(Aa a7 _ (Aa ar)).mono ?_;rintro e E ⟨hc,hl,hr,rfl,ak,O⟩;have a4:=O.size
 have M:E.heap[w.heap.size]? =some (.cells #[.nilFunc,.nilFunc,.nilFunc] 253 (0,0)):=by
  rw[O.block _ (by omega),(Aa bb).block _ (by simp)];exact heap_alloc_new _ _
 have f0:=frozen_of_row E w.heap.size 0 _ _ M;have f1:=frozen_of_row E w.heap.size 1 _ _ M;have f2:=frozen_of_row E w.heap.size 2 _ _ M;have c0:E.cell? ⟨w.heap.size,0,none⟩=some .nilFunc:=Ac M;have bf:E.cell? ⟨w.heap.size,1,none⟩=some .nilFunc:=Ac M;have bi:E.cell? ⟨w.heap.size,2,none⟩=some .nilFunc:=Ac M;have bh:=Ab M;have bg:=Ab ak;have bd:=Ab O
 have a2:Hid (∀I,(((E.setCell ⟨w.heap.size,0,none⟩ (CV gc gl gr)).setCell ⟨w.heap.size,1,none⟩ (CV hc hl hr)).setCell ⟨w.heap.size,2,none⟩ I).heap[w.heap.size]? =some (.cells #[CV gc gl gr,CV hc hl hr,I] 253 (0,0))/\CIs (fun g=>w.heap.size<=g\/g=F\/g=G) (((E.setCell ⟨w.heap.size,0,none⟩ (CV gc gl gr)).setCell ⟨w.heap.size,1,none⟩ (CV hc hl hr)).setCell ⟨w.heap.size,2,none⟩ I) gc gl gr H (some ⟨F,aa,none⟩) Y ag Z/\CIs (fun g=>w.heap.size<=g\/g=F\/g=G) (((E.setCell ⟨w.heap.size,0,none⟩ (CV gc gl gr)).setCell ⟨w.heap.size,1,none⟩ (CV hc hl hr)).setCell ⟨w.heap.size,2,none⟩ I) hc hl hr H (some ⟨G,ab,none⟩) T ai U/\Below w.heap.size w (((E.setCell ⟨w.heap.size,0,none⟩ (CV gc gl gr)).setCell ⟨w.heap.size,1,none⟩ (CV hc hl hr)).setCell ⟨w.heap.size,2,none⟩ I)):=by
  intro I;have g1:=Ad E w.heap.size 0 (CV gc gl gr);have g2:=Ad (E.setCell ⟨w.heap.size,0,none⟩ (CV gc gl gr)) w.heap.size 1 (CV hc hl hr);have g3:=Ad ((E.setCell ⟨w.heap.size,0,none⟩ (CV gc gl gr)).setCell ⟨w.heap.size,1,none⟩ (CV hc hl hr)) w.heap.size 2 I;have af:=Aj (Aj g1 g2) g3;have az:Below w.heap.size w E:=(Aa ar).trans (O.mono (by omega));refine⟨?_, ?_, ?_,az.grown af (by omega) (fun j e=>by rw[<-VM e];exact VB _)⟩
  . rw[heap_setCell_same _ _ 2 _ _ _ (heap_setCell_same _ _ 1 _ _ _ (heap_setCell_same _ _ 0 _ _ _ M))];rfl
  . have k1:=(Aa a8).keep (W':=E) a4 (fun g ac _=>O.block g ac)
    have k2:=k1.keep (W':=((E.setCell ⟨w.heap.size,0,none⟩ (CV gc gl gr)).setCell ⟨w.heap.size,1,none⟩ (CV hc hl hr)).setCell ⟨w.heap.size,2,none⟩ I) af.size (fun g ac hb=>af.block g ac (fun e=>by
     have e:=VM e;simp only[World.size_alloc]at hb;omega))
    exact k2.more (fun g hb=>by simp only[World.size_alloc]at hb;omega)
  . have k2:=ak.keep (W':=((E.setCell ⟨w.heap.size,0,none⟩ (CV gc gl gr)).setCell ⟨w.heap.size,1,none⟩ (CV hc hl hr)).setCell ⟨w.heap.size,2,none⟩ I) af.size (fun g ac hb=>af.block g ac (fun e=>by
     have e:=VM e;omega))
    exact k2.more (fun g hb=>by omega)
 clear ak O M;go_wp2;obtain⟨ba,a3,a1,a5⟩:=Aa a2 (.func (.func 147) #[.pointer (some ⟨H,0,none⟩)] #[]);refine bodyPost_ret (v:=.agg #[CV gc gl gr,CV hc hl hr,.func (.func 147) #[.pointer (some ⟨H,0,none⟩)] #[]]) ?_ rfl ⟨gc,gl,gr,hc,hl,hr,rfl,a3,a1,a5⟩;exact results_cell_row rfl _ _ _ _ _ _ _ rfl ba Tryz.underlying253 rfl (by kernel_rfl)
structure PJ (Bx:Nat->Prop)(B rb:Nat)(S:List Bool)(l1 l2:List Int)(gc gl gr hc hl hr b1 o1 n1 c1 b2 o2 n2 c2:Nat)(No:Nat->Prop)(is:List It)(W:World):Prop where
 row:RIs (fun g=>No g\/Bx g) B W rb (S++putIs l1 l2 is)
 ca:CIs Bx W gc gl gr rb (some ⟨b1,o1,none⟩) n1 c1 l1
 cb:CIs Bx W hc hl hr rb (some ⟨b2,o2,none⟩) n2 c2 l2
 bl:∀g,Bx g->g<W.heap.size
theorem CIs.bound {H:Nat->Prop}{W:World}{T I O Y:Nat}{a:Option Addr}{M U:Nat}{l:List Int}(E:CIs H W T I O Y a M U l):CIs (fun g=>H g/\g<W.heap.size) W T I O Y a M U l:=by
 obtain⟨gk,b,o,ac,G,F,aa,Z,ab⟩:=E.ex;exact⟨⟨gk,b,o,ac,⟨G.1,G.2,G.1⟩,⟨F.1,F.2,F.1⟩,aa,Z,ab⟩,E.bl,E.br,⟨E.bx.1.1,E.bx.1.2,E.bx.1.1⟩,⟨E.bx.2.1.1,E.bx.2.1.2,E.bx.2.1.1⟩,⟨E.bx.2.2.1,E.bx.2.2.2,E.bx.2.2.1⟩⟩
theorem Nq {f:Nat}{E:Func}{c:Code}(H:Tryz.prog.funcs[f]? =some E)(G:(E.name== "runtime.NumGoroutine")=false)(F:E.body=some c):∀(args:Array Value) (w:World),(callFunc f args).run Tryz.prog w=.ok (.enter f args) w:=enters_of H G F
theorem N9 (l:List Int)(E:Good l)(q:Nat)(F:q<l.length):(codeT l q).length<=15:=by rw[Pp l E];have:=E.ok q F;omega
theorem Lp (E F:List Int)(H:Good E)(G:Good F):∀is:List It,Has E F is->(∀i∈is,VI i)->(putIs E F is).length<=15*is.length
 | [],_,_=>by simp[putIs]
 |i::is,h,hv=>by
  have ih:=Lp E F H G is (Has.app (x:= [i]) (y:=is) h).2 (fun j I=>hv j (by simp[I]));have e:putIs E F (i::is)=Z6b E F i++putIs E F is:=by simp[putIs]
  rw[e,VE,VJ]
  have:(Z6b E F i).length<=15:=by
   cases i with
   |sym k=>exact N9 E H k (h.1 k (by simp)).1
   |far k=>exact N9 F G k (h.2 k (by simp)).1
   |rest n s=>
    have:=(hv _ (by simp:It.rest n s∈_)).2
    show (Al n s).length<=15
    rw[Ah];omega
  omega
theorem Z3y (O:Nat->Prop)(B T:Nat)(S:List Bool)(G F:List Int)(ag ac af ai ae ah an aj ab al ap ak Z ao:Nat)(Y:List It)(ax:G.length=ab)(a0:F.length=Z)(av:Good G)(as:Good F)(am:Has G F Y)(au:∀i∈Y,VI i)(a5:S.length+15*Y.length<=300000):
 Snk (PJ O B T S G F ag ac af ai ae ah an aj ab al ap ak Z ao) B 236 236 147 #[.pointer (some ⟨ag,0,none⟩),.pointer (some ⟨ac,0,none⟩),.pointer (some ⟨af,0,none⟩)] #[.pointer (some ⟨ai,0,none⟩),.pointer (some ⟨ae,0,none⟩),.pointer (some ⟨ah,0,none⟩)] #[.pointer (some ⟨T,0,none⟩)] Y:=by
 have step:∀ {No:Nat->Prop} {is R:List It} {i:It} {W W':World},is++i::R=Y->PJ O B T S G F ag ac af ai ae ah an aj ab al ap ak Z ao No is W->Rp (fun g=>No g\/O g) B W T (S++putIs G F is++Z6b G F i) W'->PJ O B T S G F ag ac af ai ae ah an aj ab al ap ak Z ao No (is++ [i]) W'/\Below B W W'/\Kp No W W':=by
  intro No is R i W W' H E I;refine⟨⟨?_, ?_, ?_,fun g h=>VG (E.bl g h) I.below.size⟩,I.below,I.kp.weaken (fun g h=>.inl h)⟩
  . have e:putIs G F (is++ [i])=putIs G F is++Z6b G F i:=by rw[MF];simp[putIs]
    rw[e,<-VS];exact I.is
  . exact E.ca.keep I.below.size (fun g M hb=>I.kp g M (.inr hb))
  . exact E.cb.keep I.below.size (fun g M hb=>I.kp g M (.inr hb))
 have aq:∀ {is R:List It} {i:It},is++i::R=Y->(S++putIs G F is).length<=300000:=by
  intro is R i H;have ay:Has G F is:=by rw[<-H]at am;exact am.app.1
  have a1:∀j∈is,VI j:=fun j a2=>au j (by rw[<-H];simp[a2])
  have a6:=Lp G F av as is ay a1;have a4:=congrArg List.length H;rw[VE,VJ]at a4;rw[VE];omega
 refine⟨Nq Tryz.func236 (by kernel_rfl) rfl,Nq Tryz.func236 (by kernel_rfl) rfl,Nq Tryz.func147 (by kernel_rfl) rfl, ?_, ?_, ?_, ?_⟩
 . intro No No' is W W1 E U hn;refine⟨E.row.grow U (fun g e=> ?_),E.ca.keep U.size (fun g M _=>U.block g M),E.cb.keep U.size (fun g M _=>U.block g M),fun g h=>VG (E.bl g h) U.size⟩
   rcases e with e|e
   . rcases hn g e with h|h
     . exact .inl (.inl h)
     . exact .inr h
   . exact .inl (.inr e)
 . intro No is R k W H E aa;have ar:=am.1 k (by rw[<-H];simp);have:=Yo O (fun g=>No g\/O g) B ag ac af T (some ⟨an,aj,none⟩) ab al G k (S++putIs G F is) W E.ca ax av (by omega) ar.2 E.row (aq H) (fun g M e=> ?_)
   . refine this.mono ?_;rintro e W' ⟨rfl,I⟩;exact⟨rfl,step H E I⟩
   . rcases e with e|e
     . exact aa g M e
     . have:=E.bl g e;omega
 . intro No is R k W H E aa;have ar:=am.2 k (by rw[<-H];simp);have:=Yo O (fun g=>No g\/O g) B ai ae ah T (some ⟨ap,ak,none⟩) Z ao F k (S++putIs G F is) W E.cb a0 as (by omega) ar.2 E.row (aq H) (fun g M e=> ?_)
   . refine this.mono ?_;rintro e W' ⟨rfl,I⟩;exact⟨rfl,step H E I⟩
   . rcases e with e|e
     . exact aa g M e
     . have:=E.bl g e;omega
 . intro No is R n s W H E aa;have aw:=au (.rest n s) (by rw[<-H];simp);have az:s<=10:=aw.2;have a3:2^s<=2^10:=VO (by decide) az;have hn:n<65536:=VG (VG aw.1 a3) (by decide);refine(Dp (fun g=>No g\/O g) B T n s (S++putIs G F is) W E.row hn (by omega) (aq H) (fun g M e=> ?_)).mono ?_
   . rcases e with e|e
     . exact aa g M e
     . have:=E.bl g e;omega
   . rintro e W' ⟨rfl,I⟩;exact⟨rfl,step H E I⟩
structure KJ (B gs gf:Nat)(No:Nat->Prop)(is:List It)(W:World):Prop where
 base:B<=gs/\B<=gf
 ne:gs≠gf
 no:¬No gs/\¬No gf
 s:ARow 297 W gs (symC is)
 f:ARow 298 W gf (farC is)
theorem A4 (is:List It)(k:Nat):symC (is++ [.sym k])=Tb (symC is) k/\farC (is++ [.sym k])=farC is:=by
 unfold symC farC TR Z1m Cq;simp[List.filterMap_append,List.foldl_append]
theorem L8 (is:List It)(k:Nat):farC (is++ [.far k])=Tb (farC is) k/\symC (is++ [.far k])=symC is:=by
 unfold symC farC TR Z1m Cq;simp[List.filterMap_append,List.foldl_append]
theorem Uz (is:List It)(n s:Nat):farC (is++ [.rest n s])=farC is/\symC (is++ [.rest n s])=symC is:=by
 unfold symC farC TR Z1m Cq;simp[List.filterMap_append]
theorem Z3k (is:List It)(k:Nat):(symC is).getD k 0<=is.length/\0<=(symC is).getD k 0:=by
 by_cases E:k<286
 . unfold symC;rw[Gs _ _ k (by simpa using E),Iv];have G:=YI (a:=k) (l:=TR is);have F:(TR is).length<=is.length:=ZB _ _;omega
 . have:(symC is).getD k 0=0:=by
    simp only[List.getD];rw[WJ (by rw[Li];omega)];rfl
   omega
theorem Z56 (is:List It)(k:Nat):(farC is).getD k 0<=is.length/\0<=(farC is).getD k 0:=by
 by_cases E:k<30
 . unfold farC;rw[Gs _ _ k (by simpa using E),Iv];have G:=YI (a:=k) (l:=Z1m is);have F:(Z1m is).length<=is.length:=ZB _ _;omega
 . have:(farC is).getD k 0=0:=by
    simp only[List.getD];rw[WJ (by rw[Mo];omega)];rfl
   omega
theorem IU (T:TypeId)(F k:Nat)(xs:List Int)(W:World)(G:T=297)(E:ARow T W F xs)(M:xs.length=286)(O:k<286)(H:0<=xs.getD k 0/\xs.getD k 0<=1000000):
 Calls Tryz.prog 238 #[.int .i64 (k:Int),.pointer (some ⟨F,0,none⟩)] W fun e w'=>e=.returned (.tuple #[])/\w'=W.setCell ⟨F,k,none⟩ (.int .i64 (xs.getD k 0+1)):=by
 have c:=E.cell k (by omega);have f:=E.frozen k;have I:(k:Int)<286:=by omega
 clear E G;generalize xs.getD k 0=x at*;go_enter Tryz.func238,Tryz.ntmps238
 go_wp2;go_end0
 exact⟨rfl,rfl⟩
theorem IR (T:TypeId)(F k:Nat)(xs:List Int)(W:World)(G:T=298)(E:ARow T W F xs)(M:xs.length=30)(O:k<30)(H:0<=xs.getD k 0/\xs.getD k 0<=1000000):
 Calls Tryz.prog 239 #[.int .i64 (k:Int),.pointer (some ⟨F,0,none⟩)] W fun e w'=>e=.returned (.tuple #[])/\w'=W.setCell ⟨F,k,none⟩ (.int .i64 (xs.getD k 0+1)):=by
 have c:=E.cell k (by omega);have f:=E.frozen k;have I:(k:Int)<30:=by omega
 clear E G;generalize xs.getD k 0=x at*;go_enter Tryz.func239,Tryz.ntmps239
 go_wp2;go_end0
 exact⟨rfl,rfl⟩
theorem IQ (n s:Int)(W:World):Calls Tryz.prog 240 #[.int .i64 n,.int .i64 s] W fun e w'=>e=.returned (.tuple #[])/\w'=W:=by
 go_enter Tryz.func240,Tryz.ntmps240
 go_wp2;go_end0
 exact⟨rfl,rfl⟩
theorem Gg {f:Nat}{E:Func}{c:Code}(H:Tryz.prog.funcs[f]? =some E)(G:(E.name== "runtime.NumGoroutine")=false)(F:E.body=some c):∀(args:Array Value) (w:World),(callFunc f args).run Tryz.prog w=.ok (.enter f args) w:=enters_of H G F
theorem KJ.step {B H G E k:Nat}{No:Nat->Prop}{is I:List It}{W:World}{v:Value}(F:KJ B H G No is W)(M:E=H\/E=G)(U:ARow 297 (W.setCell ⟨E,k,none⟩ v) H (symC I))(T:ARow 298 (W.setCell ⟨E,k,none⟩ v) G (farC I)):
 KJ B H G No I (W.setCell ⟨E,k,none⟩ v)/\Below B W (W.setCell ⟨E,k,none⟩ v)/\Kp No W (W.setCell ⟨E,k,none⟩ v):=by
 have O:=Ad W E k v;have hb:=F.base;have hn:=F.no;have Y:=F.s.lt;refine⟨⟨F.base,F.ne,F.no,U,T⟩,(Below.refl B W).grown O (by omega) (fun j e=>by rw[<-VM e];rcases M with e|e<;>rw[e]<;>omega),(Kp.refl No W).grown O (VB _) (fun j e=>by rw[<-VM e];rcases M with e|e<;>rw[e];exact hn.1;exact hn.2)⟩
theorem QJ (B H G:Nat)(I:List It)(Y:∀i∈I,VI i)(aa:I.length<=100000):
 Snk (KJ B H G) B 238 239 240 #[.pointer (some ⟨H,0,none⟩)] #[.pointer (some ⟨G,0,none⟩)] #[] I:=by
 have hl:∀ {is R:List It} {i:It},is++i::R=I->is.length<=100000/\VI i:=by
  intro is R i F;have Z:=congrArg List.length F;rw[VE,VJ]at Z;exact⟨by omega,Y i (by rw[<-F];simp)⟩
 refine⟨Gg Tryz.func238 (by kernel_rfl) rfl,Gg Tryz.func239 (by kernel_rfl) rfl,Gg Tryz.func240 (by kernel_rfl) rfl, ?_, ?_, ?_, ?_⟩
 . intro No No' is W W1 E U hn;have l1:=E.s.lt;have l2:=E.f.lt;refine⟨E.base,E.ne,⟨fun e=> ?_,fun e=> ?_⟩,E.s.keep (U.block _ l1),E.f.keep (U.block _ l2)⟩
   . rcases hn H e with h|h
     . exact E.no.1 h
     . omega
   . rcases hn G e with h|h
     . exact E.no.2 h
     . omega
 . intro No is R k W F E T;have M:k<286:=(hl F).2;have O:=Z3k is k;have:=(hl F).1
   refine(IU _ H k (symC is) W rfl E.s (Li is) M ⟨O.2,by omega⟩).mono ?_;rintro e W' ⟨rfl,rfl⟩;refine⟨rfl,E.step (.inl rfl) ?_ ?_⟩
   . rw[(A4 is k).1];exact E.s.set k _
   . rw[(A4 is k).2];exact E.f.keep ((Ad W H k _).block G E.f.lt (fun e=>E.ne (VM e).symm))
 . intro No is R k W F E T;have M:k<30:=(hl F).2;have O:=Z56 is k;have:=(hl F).1
   refine(IR _ G k (farC is) W rfl E.f (Mo is) M ⟨O.2,by omega⟩).mono ?_;rintro e W' ⟨rfl,rfl⟩;refine⟨rfl,E.step (.inr rfl) ?_ ?_⟩
   . rw[(L8 is k).2];exact E.s.keep ((Ad W G k _).block H E.s.lt (fun e=>E.ne (VM e)))
   . rw[(L8 is k).1];exact E.f.set k _
 . intro No is R n s W F E T;refine(IQ n s W).mono ?_;rintro e W' ⟨rfl,rfl⟩;refine⟨rfl,⟨E.base,E.ne,E.no, ?_, ?_⟩,Below.refl _ _,Kp.refl _ _⟩
   . rw[(Uz is n s).2];exact E.s
   . rw[(Uz is n s).1];exact E.f
end Go.Proofs.YtleocpdblhbimaaGreatDoor
namespace Go.Proofs.YtleocpdblhbimaaGreatDoor
open Go.RowKit
set_option linter.unusedVariables false
theorem GL:(Tryz.prog.info? 340).map (fun i=>(i.zero,i.size,i.bytes))=some (some (.agg #[.slice none 0 0,.slice none 0 0]),2,48):=by kernel_rfl
theorem StSt.made {w W:World}{m:Nat}(I:List Int)(M B:Nat->Nat)(F:W.ownsRow w.heap.size 340 2 (.slice (some ⟨w.heap.size,0,none⟩) m m) m (madeCells #[.slice none 0 0,.slice none 0 0] (m*2)).toList)(H:w.grownBy W none):StSt w W w.heap.size m I 0 M B:=by
 have hc:∀j,j<m*2->W.cell? ⟨w.heap.size,j,none⟩=some (.slice none 0 0):=by
  intro j G;rw[F.cellAt j G];have E:j%2=0\/j%2=1:=by omega
  rcases E with E|E<;>simp[madeCells,G,E]
 refine⟨VB _,(F.lt _ rfl).2,fun j=>F.frozenAt j,fun i hi=>by omega,fun i _ hi=>⟨hc _ (by omega),hc _ (by omega)⟩,fun i hi=>by omega,fun i hi=>by omega,(Below.refl w.heap.size w).grown H (VB _) (fun j h=>by cases h)⟩
set_option maxRecDepth 100000 in
theorem R8 (T n c m:Nat)(E:List Int)(w:World)(a1:E.length=n)(bt:n<=288)(bh:n<=c)(a6:c<=maxLen)(bn:m<=15)(ap:∀x∈E,0<=x/\x<=1000000)(ah:WRow w T E):
 Calls Tryz.prog 260 #[.slice (some ⟨T,0,none⟩) n c,.int .i64 m] w fun e w'=>∃g A B,e=.returned (.slice (some ⟨g,0,none⟩) m m)/\StSt w w' g m E m A B:=by
 obtain⟨ba,hi,bf,bb,a8⟩:=info_parts GL;have al:=Ab ah;have be:=Ab ap;have bm:=ah.lt;clear ah ap;go_enter Tryz.func260,Tryz.ntmps260
 go_wp2_with (at_make;refine wpList_make_full _ rfl _ _ 335 rfl w.heap.size 340 ba (.agg #[.slice none 0 0,.slice none 0 0]) 2 Tryz.underlying335 hi bf bb _ _ _ _ m rfl rfl rfl rfl (by rw[a8];omega) (by unfold maxLen;omega) (by simp) ?_)
 intro bv aw a0;have a2:=Ab (StSt.made E (fun _=>0) (fun _=>0) aw a0);clear aw a0;generalize ax:w.heap.size=g at*;have b3:=Ab ax;clear ax;go_wp2;go_loopw [6,7,11] (fun av _ i wr=>∃(k:Nat) (A B:Nat->Nat),k<=m/\i=.int .i64 k/\StSt w wr g m E k A B/\((k=0/\av=.slice none 0 0)\/ (0<k/\av=.slice (some ⟨A (k-1),0,none⟩) (rowAt E (k-1)).length (rowAt E (k-1)).length))) (fun _ _ i _=>m-(intOf i).toNat)
 case atStart=>exact⟨0,_,_,VH _,rfl,Aa a2,.inl ⟨rfl,rfl⟩⟩
 case round=>
  obtain⟨k,A,B,bi,rfl,G,aa⟩:=hrel;have ag:=Ab G
  by_cases ae:k<m
  . 
    obtain⟨I,F,ys,bg,Y,bk,ao,ar,a3⟩:∃(I:Option Addr) (F:Nat) (ys:List Int),u6=.slice I F F/\ys.length=F/\F<=576/\RowIn .i64 wr I ys/\(∀j,0<=ys.getD j 0/\ys.getD j 0<=1000000000000)/\rowAt E k=mrg E (prs ys):=by
     rcases aa with ⟨ak,ab⟩|⟨ak,ab⟩
     . exact⟨none,0,[],ab,rfl,by omega,.inl rfl,fun j=>by simp,by rw[ak,rowAt];rfl⟩
     . refine⟨some ⟨A (k-1),0,none⟩,(rowAt E (k-1)).length,(rowAt E (k-1)).map Prod.fst,ab,by simp, ?_,(G.ws (k-1) (by omega)).2.2.row,T3 E (Aa be) (k-1) (by omega), ?_⟩
       . have:=Iz E (k-1);omega
       . obtain⟨q,rfl⟩:∃q,k=q+1:=⟨k-1,by omega⟩
         rw[YA,rowAt]
    subst bg;have a5:=Ab ao;have bc:=Ab ar;have az:=Ab a3;have bq:=Ab Y;have b5:w.heap.size<=wr.heap.size:=G.bel.size;have as:Hid (WRow wr T E):=(Aa al).below G.bel (Aa al).lt;clear aa ao ar a3 G a2;go_wp2_with fail
    refine(MO I F F ys wr Y (by omega) (Aa a5) (Aa bc)).mono ?_;rintro e a4 ⟨gp,rfl,ay,U,b4⟩;have M:=Ab ((Aa ag).below U);have am:=Ab ((Aa as).below U (Aa as).lt);have ai:=Ab ay;have bo:=U.size;have a9:(prs ys).length=F/2:=by rw[Eo,Y]
    have aj:=Ab a9;have bj:F/2<=288:=by omega
    clear ay U;go_wp2_with fail
    refine(NP T 0 gp 0 n c (F/2) (F/2) E (prs ys) a4 a1 (Aa aj) (by omega) (by omega) bh (VB _) a6 (by unfold maxLen;omega) (Aa am).lt (Aa ai).lt (fun j ac=>by rw[WG];exact((Aa am).at_ j ac).1) (fun j ac=>by rw[WG];exact((Aa ai).at_ j ac).1)).mono ?_;rintro e w3 ⟨g1,g2,rfl,Z,af,aq,bw,b7⟩;have H:=(Aa M).below aq;rw[<-Aa az]at Z af;have O:n+F/2=(rowAt E k).length:=by rw[Aa az,Bo,a1,Aa aj]
    have b0:=(Aa M).ghi;have bz:=(Aa M).glo;have au:=Ab (H.next ae g1 g2 ⟨by omega,by omega⟩ ⟨by omega,by omega⟩ Z af (n+F/2) O);have c0:=(H.todo k (VB _) ae).1;have c1:=(H.todo k (VB _) ae).2;have f0:=H.fz (k*2);have f1:=H.fz (k*2+1);have an:=((Aa au).done k (by omega)).1;simp only[if_true]at an;rw[<-O]at an;have bd:=Ab O;have bu:(k:Int)<(m:Int):=by omega
    clear Z af aq H O ag M;generalize a7:n+F/2=L at*;clear a7;go_wp2;go_roundw
    case rel=>
     refine⟨k+1,_,_,by omega,by go_num,Aa au,.inr ⟨by omega, ?_⟩⟩;simp only[YA,if_true];rw[Aa bd]
    case measure=>simp[intOf];omega
  . obtain rfl:k=m:=by omega
    clear G aa;go_wp2;go_ret;exact⟨g,A,B,rfl,Aa ag⟩
theorem Tq {w w':World}(E:Below w.heap.size w w')(r:Option Nat):w.grownBy w' r:=⟨E.os,E.tape,E.output,E.size,fun i hi _=>E.block i hi⟩
theorem StSt.grown {w W W':World}{H m:Nat}{E:List Int}{k:Nat}{I B:Nat->Nat}{r:Nat}(F:StSt w W H m E k I B)(G:W.grownBy W' (some r))(U:r<w.heap.size):
 (∀i,i<k->W'.cell? ⟨H,i*2,none⟩=some (.slice (some ⟨I i,0,none⟩) (rowAt E i).length (rowAt E i).length)/\W'.cell? ⟨H,i*2+1,none⟩=some (.slice (some ⟨B i,0,none⟩) (rowAt E i).length (rowAt E i).length))/\(∀i,i<k->BRow W' (B i) ((rowAt E i).map Prod.snd)):=by
 have T:=F.glo;refine⟨fun i hi=>⟨G.cell (F.done i hi).1 (by simp;omega),G.cell (F.done i hi).2 (by simp;omega)⟩,fun i hi=> ?_⟩;obtain⟨Y,O,M⟩:=F.fs i hi;exact M.grown G (by simp;omega)
set_option maxRecDepth 100000 in
theorem FZ (a:Option Addr)(E ao:Nat)(l:List Int)(m:Nat)(w:World)(M:l.length=E)(a9:RowIn .i64 w a l)(aa:GoodW l m):
 Calls Tryz.prog 241 #[.slice a E ao,.int .i64 m] w fun e w'=>∃g s,e=.returned (.tuple #[.slice (some ⟨g,0,none⟩) E E,.int .i64 0])/\IsLens l m s/\s.length=E/\WRow w' g s/\Below w.heap.size w w'/\w.heap.size<=g:=by
 obtain⟨c9,hi,de,da,co⟩:=info_parts Bv;have d2:=aa.len;have dp:=aa.lo;have cm:=aa.hi;have bt:=Ab aa;have b0:=Ab a9;have d9:=Ab M;have a2:=ED a E ao l m w M (by omega) a9;rw[PD aa]at a2;have bc:=Ab a2;clear a9 aa a2;go_enter Tryz.func241,Tryz.ntmps241
 go_wp2_with fail
 refine(Aa bc).mono ?_;rintro e F ⟨rfl,rfl⟩;clear bc;go_wp2_with (at_make;refine wpList_make_full _ rfl _ _ 76 rfl F.heap.size 3 c9 (.int .i64 0) 1 Tryz.underlying76 hi de da _ _ _ _ E rfl rfl rfl rfl (by rw[co];omega) (by unfold maxLen;omega) (by simp) ?_)
 intro dj ba bu;have e0:(madeCells #[Value.int .i64 0] E).toList=iv (List.replicate E 0):=Rh E;rw[e0]at ba;have ai:=Ab (WRow.own ba);have ap:=Ab ((Below.refl F.heap.size F).grown bu (VB _) (fun j h=>by cases h));clear ba bu e0;obtain⟨G,ax⟩:=exq (F.heap.size);rw[ax]at ai;rw[ax];have af:=Ab ax;have d1:=(Aa ai).lt;clear ax;go_wp2_with fail
 refine(FJ a E ao l dj M (by omega) ((Aa b0).below (Aa ap) (VB _))).mono ?_;rintro e w3 ⟨d7,P,rfl,a0,ay,dg⟩;have a3:=Ab a0;have bi:=a0.lt;have b7:=a0.length;have d3:=Pt l l.length;have I:=Ab ((Aa ap).trans (ay.mono (Aa ap).size));have ak:=Ab ((Aa ai).below ay (Aa ai).lt);have d6:=ay.size;have ar:=Ab bi;have c8:=Ab b7;have c6:P.length<=288:=by omega
 clear a0 bi ay ai ap
 rcases dg with ⟨rfl,rfl⟩|⟨am,au,rfl,cj,b8,d8,a7⟩
 . 
   go_wp2_with fail
   refine(Je G E E (List.replicate E 0) none 0 0 [] w3 (by simp) rfl (by omega) (by omega) (Aa ak) (.inl rfl) (fun b o h=>by cases h) (fun p h=>by cases h) (fun j=>by by_cases h:j<E<;>simp[List.getD,h])).mono ?_;rintro e aj ⟨rfl,ah,an⟩;have Z:=Ab ah;have U:Hid (Below F.heap.size F aj):=(Aa I).grown an (Aa I).size (fun j h=>by cases h;exact ZV (Aa af));clear ah an;go_wp2;go_ret2;exact⟨G,_,rfl,⟨[],Aa a3,by unfold Cs;rw[if_pos (by simp),M]⟩,by rw[Ca];simp,Aa Z,Aa U,ZV (Aa af)⟩
 . have al:=Ab a7;have dt:=a7.lt;clear a7;obtain⟨N,az⟩:=exq (P.length);rw[az]at cj c6;rw[az];have H:=Ab az;clear az b7
   by_cases bo:N<2
   . 
     have cu:(N:Int)<2:=by omega
     have as:=Ab (Je G E E (List.replicate E 0) (some ⟨am,0,none⟩) N au P w3 (by simp) (Aa H) (by omega) (by omega) (Aa ak) (Aa al).row (fun b o h=>by cases h;omega) (fun p O=>by have:=Aa ar p O;omega) (fun j=>by by_cases h:j<E<;>simp[List.getD,h]));go_wp2_with fail
     refine(Aa as).mono ?_;rintro e aj ⟨rfl,ah,an⟩;have Z:=Ab ah;have U:Hid (Below F.heap.size F aj):=(Aa I).grown an (Aa I).size (fun j h=>by cases h;exact ZV (Aa af));clear ah an;go_wp2;go_ret2;exact⟨G,_,rfl,⟨P,Aa a3,by unfold Cs;rw[if_pos (by rw[Aa H];exact bo),M]⟩,by rw[Ca];simp,Aa Z,Aa U,ZV (Aa af)⟩
   . have cu:¬(N:Int)<2:=by omega
     have b3:=Ab (Wk a E ao l (some ⟨am,0,none⟩) N au P w3 M (Aa H) (by omega) (by omega) ((Aa b0).below (Aa I) (VB _)) (Aa al).row (fun p O=>by have:=Aa ar p O;omega));go_wp2_with fail
     refine(Aa b3).mono ?_;rintro e aj ⟨dc,rfl,be,ag,dw⟩;have bm:=Ab be;have du:=ag.size;have U:=Ab ((Aa I).trans (ag.mono (Aa I).size));have Z:=Ab ((Aa ak).below ag (Aa ak).lt);have bd:=Ab ((Aa al).below ag (Aa al).lt)
     have bf:∀x∈(P.map fun p=>l.getD p 0),0<=x/\x<=1000000:=by
      intro x c7;obtain⟨p,O,rfl⟩:=XG.1 c7;exact(Aa bt).ok p (Aa ar p O)
     have cd:=Ab bf;have df:Hid (Cs l P m=Ez E P (P.map fun p=>l.getD p 0) m m):=by unfold Hid Cs;rw[if_neg (by rw[Aa H];exact bo),M]
     have ae:Hid ((P.map fun p=>l.getD p 0).length=N):=by rw[WL];exact H
     have ct:Hid (N<=2^m):=by have h:=(Aa bt).room;rw[<-Aa c8,Aa H]at h;exact h
     clear be ag bf ak al I b3;generalize (P.map fun p=>l.getD p 0)=Ws at*;have bg:=Ab (R8 dc N N m Ws aj (Aa ae) (by omega) (VB _) (by unfold maxLen;omega) cm (Aa cd) (Aa bm));go_wp2_with fail
     refine(Aa bg).mono ?_;rintro e cq ⟨gs,A,B,rfl,Y⟩;have b9:=Ab Y;have cz:=Ab ((Aa Z).below Y.bel (by omega));have dh:=Ab ((Aa bd).below Y.bel (by omega));have bn:=Ab ((Aa U).trans (Y.bel.mono (Aa U).size));have d5:=Y.bel.size;have di:Hid (2*((N:Int)-1)=((Cr Ws m 0:Nat):Int)):=by unfold Hid;rw[Cr,Aa ae];omega
     clear Y Z bd U bm bg;unfold maxLen at b8;go_wp2;go_loopw [10,11,12,41] (fun dn _ _ a5 wr=>∃i:Nat,i<=m/\a5=.int .i64 i/\dn=.int .i64 ((Cr Ws m i:Nat):Int)/\cq.grownBy wr (some G)/\WRow wr G (Ez E P Ws m i)) (fun _ _ _ a5 _=>m-(intOf a5).toNat)
     case atStart=>exact⟨0,VH _,rfl,congrArg (Value.int .i64) (Aa di),Aw _ _,Aa cz⟩
     case round=>
      obtain⟨i,dy,rfl,rfl,ab,a6⟩:=hrel;have ck:=Ab ab;have a8:=Ab a6
      by_cases cn:i<m
      . obtain⟨q,aq⟩:∃q,q=m-1-i:=⟨_,rfl⟩
        obtain⟨a4,bq⟩:=(Aa b9).grown ab (by omega);have c0:=(a4 q (by omega)).1;have c1:=(a4 q (by omega)).2;have dr:=Ab (bq q (by omega));have bv:=Ab ((Aa dh).grown ab (by simp;omega));have db:1<=Ws.length:=by rw[Aa ae];omega
        have av:=Lg Ws m db dp (by rw[Aa ae];exact Aa ct) i cn;have dz:=Oe Ws m i;have bw:=Wh Ws m i;rw[Aa ae]at bw
        have b5:Il ((rowAt Ws q).map Prod.snd) (Cr Ws m i)=Bi Ws m i:=by
         unfold Bi;rw[<-aq];rw[<-aq]at av;exact(Od _ _ av).symm
        have ch:=Ab b5;rw[<-aq]at av;have ci:=Iz Ws q;rw[Aa ae]at ci;have cp:Hid (Cr Ws m (i+1)=2*(Cr Ws m i-Bi Ws m i)):=rfl;have dl:Hid (Ez E P Ws m (i+1)=Cq (Ez E P Ws m i) (P.take (Bi Ws m i))):=rfl;have dq:=Ab (Ny E P Ws m (by rw[Aa H];omega) i);have cl:=Ab (Ek E P Ws m i);have cw:Hid (((rowAt Ws q).map Prod.snd).length=(rowAt Ws q).length):=by unfold Hid;simp
        have ea:((m:Int)-1-(i:Int)).toNat=q:=by omega
        have pa:(0:Int)<=(m:Int)-1-(i:Int):=by omega
        have cg:(m:Int)-1-(i:Int)<(m:Int):=by omega
        clear ab a6 a4 bq b5 aq;generalize Cr Ws m i=T at*;generalize Bi Ws m i=ac at*;generalize (rowAt Ws q).length=a1 at*;generalize (rowAt Ws q).map Prod.snd=fs at*;generalize Ez E P Ws m i=c5 at*;generalize A q=cv at*;generalize B q=dd at*;have bz:=Ab (Ty (.slice (some ⟨cv,0,none⟩) a1 a1) rfl dd a1 a1 T fs wr (Aa cw) av (by omega) (Aa dr));go_wp2_with fail
        refine(Aa bz).mono ?_;rintro e w6 ⟨rfl,aw⟩;rw[Aa ch];have ce:=Ab (Aj (Aa ck) (Tq aw (some G)));have c4:=Ab ((Aa a8).below aw (Aa a8).lt);have b4:=Ab ((Aa bv).below aw (Aa bv).lt)
        have bk:RowIn .i64 w6 (some ⟨am,0,none⟩) (ni (P.take ac)):=.inr ⟨am,0,rfl,(Aa b4).lt,fun j dm=>by
         have bb:j<ac/\j<P.length:=by simp at dm;omega
         rw[WG,((Aa b4).at_ j (by simpa using bb.2)).1];simp[List.getD,bb.1,bb.2]⟩
        have as:=Ab (Je G E E c5 (some ⟨am,0,none⟩) ac au (P.take ac) w6 (Aa cl) (by rw[VL,Aa H];omega) (by omega) (by omega) (Aa c4) bk (fun b o h=>by cases h;omega) (fun p O=>by have:=Aa ar p (VR O);omega) (fun j=>by have:=Aa dq j;omega));have dv:(ac:Int)<=(au:Int):=by omega
        have dx:ac<=N:=bw;clear aw bk bz c0 c1 ea pa cg;go_wp2_with fail
        refine(Aa as).mono ?_;rintro e d4 ⟨rfl,bh,bj⟩;have ds:=Ab bh;have c3:=Ab (Aj (Aa ce) bj);clear bh bj as;go_wp2;go_roundw
        case rel=>exact⟨i+1,by omega,by go_num,by rw[Aa cp];go_num,Aa c3,by rw[Aa dl];exact Aa ds⟩
        case measure=>simp[intOf];omega
      . obtain rfl:i=m:=by omega
        have cy:Hid (Below F.heap.size F wr):=(Aa bn).grown ab (Aa bn).size (fun j h=>by cases h;exact ZV (Aa af));clear ab a6;go_wp2;go_ret2;exact⟨G,_,rfl,⟨P,Aa a3,(Aa df).symm⟩,Ek _ _ _ _ _,Aa a8,Aa cy,ZV (Aa af)⟩
end Go.Proofs.YtleocpdblhbimaaGreatDoor
