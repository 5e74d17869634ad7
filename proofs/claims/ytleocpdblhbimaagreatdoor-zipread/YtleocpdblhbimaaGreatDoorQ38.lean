import Derived.Test.YtleocpdblhbimaaGreatDoorQ37
set_option linter.unusedSimpArgs false
set_option maxHeartbeats 2000000
namespace Go.Proofs.YtleocpdblhbimaaGreatDoor
open Go.RowKit
set_option linter.unusedVariables false
set_option maxRecDepth 100000
theorem Z2b {w w':World}{a:Option Addr}{ts:List Tk}(F:TokIn w a ts)(U:w.heap.size<=w'.heap.size)(I:∀b o,a=some ⟨b,o,none⟩->ts≠ []->b<w.heap.size->w'.heap[b]? =w.heap[b]?):TokIn w' a ts:=by
 by_cases e:ts= []
 . exact .inl e
 . rcases F with F|⟨b,o,rfl,hb,M⟩
   . exact absurd F e
   . have E:=I b o rfl e hb;refine .inr ⟨b,o,rfl,by omega,fun j O=> ?_⟩;obtain⟨T,H,G⟩:=M j O;exact⟨(World.cell?_of_block (w:=w) (a:=⟨b,_,none⟩) E).trans T,(World.cell?_of_block (w:=w) (a:=⟨b,_,none⟩) E).trans H,(World.cell?_of_block (w:=w) (a:=⟨b,_,none⟩) E).trans G⟩
theorem BM {w w':World}{b o:Nat}{l:List Int}(G:Row .i64 w b o l)(E:w'.heap[b]? =w.heap[b]?):Row .i64 w' b o l:=fun j F=>(World.cell?_of_block (w:=w) (a:=⟨b,_,none⟩) E).trans (G j F)
structure PlanIs (w:World)(a:Option Addr)(len b1 n1 b2 n2:Nat)(ts:List Tk)(l1 l2:List Int):Prop where
 tl:ts.length=len
 tm:len<=3000
 tv:∀t∈ts,VT t
 tok:TokIn w a ts
 d:Dyn ts l1 l2
 k1:l1.length=n1
 k2:l2.length=n2
 m1:b1<w.heap.size
 m2:b2<w.heap.size
 r1:Row .i64 w b1 0 l1
 r2:Row .i64 w b2 0 l2
theorem PlanIs.keep {w w':World}{a:Option Addr}{O G T F U:Nat}{ts:List Tk}{I M:List Int}(E:PlanIs w a O G T F U ts I M)(H:w.heap.size<=w'.heap.size)(Z:∀b o,a=some ⟨b,o,none⟩->ts≠ []->b<w.heap.size->w'.heap[b]? =w.heap[b]?)(aa:w'.heap[G]? =w.heap[G]?)(Y:w'.heap[F]? =w.heap[F]?):PlanIs w' a O G T F U ts I M:=
 ⟨E.tl,E.tm,E.tv,Z2b E.tok H Z,E.d,E.k1,E.k2,VG E.m1 H,VG E.m2 H,BM E.r1 aa,BM E.r2 Y⟩
theorem PlanIs.below {w w':World}{a:Option Addr}{I U M T O:Nat}{ts:List Tk}{G H:List Int}(F:PlanIs w a I U M T O ts G H)(E:Below w.heap.size w w'):PlanIs w' a I U M T O ts G H:=
 F.keep E.size (fun b o _ _ hb=>E.block b hb) (E.block _ F.m1) (E.block _ F.m2)
theorem Z43 {E F:List Int}{ts:List Tk}(d:Dyn ts E F):∀x∈E++F,0<=x/\x<=15:=by
 intro x G
 rcases WP.1 G with h|h
 . exact CY d.ga x h
 . exact CY d.gb x h
theorem Qz (No:Nat->Prop)(B Y:Nat)(a:Option Addr)(ab ai O ae ah U ac ag:Nat)(ts:List Tk)(F E:List Int)(S:List Bool)(w:World)(h:RIs No B w Y S)(I:PlanIs w a ab O ae U ac ts F E)(ax:∀b o,a=some ⟨b,o,none⟩->ts≠ []->No b)(ar:No O)(au:No U)(a8:∀g,w.heap.size<=g->¬No g)(bu:S.length+60*ab<=277000):
 Calls Tryz.prog 186 #[.agg #[.slice a ab ai,.slice (some ⟨O,0,none⟩) ae ah,.slice (some ⟨U,0,none⟩) ac ag],.pointer (some ⟨Y,0,none⟩)] w fun e w'=>e=.returned (.tuple #[])/\Own (F++E) (MX (F++E))/\Rp No B w Y (S++Ga F E ts) w':=by
 obtain⟨M,aj⟩:∃M:Nat->Prop,M=fun g=>No g\/g=w.heap.size:=⟨_,rfl⟩
 have a2:M w.heap.size:=by rw[aj];exact .inr rfl
 have aa:∀g,No g->M g:=fun g e=>by rw[aj];exact .inl e
 have ap:∀g,w.heap.size<g->¬M g:=by
  intro g ak e;rw[aj]at e
  rcases e with e|e
  . exact a8 g (by omega) e
  . omega
 have a1:∀X:Obj,RIs M B (w.alloc X) Y S:=fun X=>h.grow ((Below.refl w.heap.size w).alloc (VB _) X) (fun g e=>by
  rw[aj]at e
  rcases e with e|e
  . exact .inl e
  . exact .inr (by omega))
 have k1:=I.k1;have k2:=I.k2;have d:=I.d;have la:=d.la;have la2:=d.la2;have lb:=d.lb;have lb2:=d.lb2;have ay:=Ab (fun X:Obj=>Ti M B Y O ae ah U ac ag F E S (w.alloc X) (a1 X) k1 k2 (by omega) (by omega) (by omega) (by omega) (by have:=I.m1;simp;omega) (by have:=I.m2;simp;omega) (I.r1.alloc I.m1 X) (I.r2.alloc I.m2 X) (Z43 d) (by omega) (fun g ak=>ap g (by simp at ak;omega)));have bi:=Ab (fun(X:Obj) (T:World) (a6:List Bool) (H:Rp M B (w.alloc X) Y a6 T)=>(I.below ((Below.refl w.heap.size w).alloc (VB _) X)).keep H.below.size (fun b o ea av hb=>H.kp b hb (aa b (ax b o ea av))) (H.kp O (by have:=I.m1;simp;omega) (aa _ ar)) (H.kp U (by have:=I.m2;simp;omega) (aa _ au)));have bf:Hid (∀b o,a=some ⟨b,o,none⟩->ts≠ []->M b):=fun b o e av=>aa b (ax b o e av)
 have bb:=Ab ap;have as:=Ab aa;have aq:=Ab a2;have ba:=Ab (aa _ ar);have be:=Ab (aa _ au);have a9:Hid (Good F/\Good E/\Has F E (itsOf ts)/\1<=F.length/\1<=E.length):=⟨d.ga,d.gb,d.has,by omega,by omega⟩
 have a3:S++Ga F E ts=S++Rw F E (MX (F++E))++putIs F E (itsOf ts):=by unfold Ga;rw[VS]
 rw[a3]
 have aw:Hid (Own (F++E) (MX (F++E))->(Rw F E (MX (F++E))).length<=2400):=fun bk=>by
  have:=J4 bk
  omega
 obtain⟨a5,az⟩:=exq (Rw F E (MX (F++E)));rw[az]at ay aw ⊢;have bz:=h.lt;have bt:=h.base;clear aj a2 aa ap a1 k1 k2 d la la2 lb lb2 a3 az ax ar au I h;go_enter Tryz.func186,Tryz.ntmps186
 go_wp2_with fail
 refine(Aa ay _).mono ?_;rintro e T ⟨rfl,ao,H⟩;have bw:=Aa aw ao;have bg:=Ab ao;clear ao aw;have a4:=H.below.size;simp only[World.size_alloc]at a4;have G:=Aa bi _ T _ H;have a7:T.cell? ⟨w.heap.size,0,none⟩=some (.slice a ab ai):=H.kp.cell (by simp) (Aa aq) (by simp);have x1:T.cell? ⟨w.heap.size,1,none⟩=some (.slice (some ⟨O,0,none⟩) ae ah):=H.kp.cell (by simp) (Aa aq) (by simp);have x2:T.cell? ⟨w.heap.size,2,none⟩=some (.slice (some ⟨U,0,none⟩) ac ag):=H.kp.cell (by simp) (Aa aq) (by simp);have Z:=Aa a9;have bm:=Ab (fun k=>Vd O 0 ae ah U 0 ac ag Y F E (T.drewN k) G.k1 G.k2 (by rw[<-G.k1];exact Z.2.2.2.1) (by rw[<-G.k2];exact Z.2.2.2.2) G.m1 G.m2 G.r1 G.r2 Z.1 Z.2.1);have bh:=Ab (fun(w3:World) (gc gl gr hc hl hr:Nat) al am an=>BT M B Y a ab ai ts (S++a5) O 0 ae ah U 0 ac ag F E gc gl gr hc hl hr T T w3 H.is (VB _) al am an (.inl (Aa ba)) (.inl (Aa be)) G.k1 G.k2 Z.1 Z.2.1 Z.2.2.1 G.tl G.tm G.tv G.tok (Aa bf) (fun g ak=>Aa bb g (by omega)) (by rw[VE];omega));have bd:=Ab H;clear H G Z;go_wp2;go_region_with (first|(go_at_call 182;refine(Aa bm _).mono ?_;rintro e w3 ⟨gc,gl,gr,hc,hl,hr,rfl,am,an,al⟩;have bn:=Ab am;have bq:=Ab an;have bo:=Ab al;have bv:w3.cell? ⟨w.heap.size,0,none⟩=some (.slice a ab ai):=(al.cell (p:=⟨w.heap.size,0,none⟩) a4).trans a7;clear am an al)|(go_at_call 181;refine(Aa bh w3 gc gl gr hc hl hr ((Ae (Below.refl _ _) _).trans (Aa bo)) (Aa bn) (Aa bq)).mono ?_;rintro e b0 ⟨rfl,af⟩;have bj:=Ab af;clear af))
 all_goals try go_wp2
 all_goals go_end0
 all_goals refine⟨rfl,Aa bg, ?_⟩
 all_goals (
  have a0:=Aa bd;have af:=Aa bj;have bc:Below B w (w.alloc (.cells #[.slice a ab ai,.slice (some ⟨O,0,none⟩) ae ah,.slice (some ⟨U,0,none⟩) ac ag] 256)):=(Below.refl B w).alloc (by omega) _;exact⟨af.is.grow (Below.refl _ _) (fun g e=>.inl (Aa as g e)),bc.trans (a0.below.trans af.below),fun g ak hn=>(af.kp g (by omega) (Aa as g hn)).trans ((a0.kp g (by simp;omega) (Aa as g hn)).trans (Below.heap_alloc w _ g ak))⟩)
theorem RIs.empty {No:Nat->Prop}{B:Nat}{w:World}{b:Nat}(E:B<=b)(F:¬No b)(G:w.heap[b]? =some (.cells #[.slice none 0 0,.int .i64 0] 179 (0,0))):RIs No B w b []:=
 ⟨E,F,.slice none 0 0,[],G,World.ownsRow_nil _ _ _ _,(fun g e=>by cases e),(fun j=>by simp),rfl⟩
theorem C9 {ts:List Tk}{E F:List Int}(d:Dyn ts E F)(G:∀t∈ts,VT t)(H:Own (E++F) (MX (E++F))):(Ga E F ts).length<=2300+60*ts.length:=by
 have U:=J4 H;have O:=Lp E F d.ga d.gb (itsOf ts) d.has (Ka G);have I:=Gb ts;have T:=d.la2;have M:=d.lb2;unfold Ga;rw[VE];omega
theorem Nx (a:Option Addr)(aa aj ag ae al ai ab au:Nat)(ts:List Tk)(G F:List Int)(w:World)(E:PlanIs w a aa ag ae ai ab ts G F):
 Calls Tryz.prog 185 #[.agg #[.slice a aa aj,.slice (some ⟨ag,0,none⟩) ae al,.slice (some ⟨ai,0,none⟩) ab au]] w fun e w'=>e=.returned (.int .i64 ((Ga G F ts).length:Nat))/\Own (G++F) (MX (G++F))/\Below w.heap.size w w':=by
 have tm:=E.tm;have m1:=E.m1;have m2:=E.m2;have M:∀X Y:Obj,Below w.heap.size w ((w.alloc X).alloc Y):=fun X Y=>((Below.refl w.heap.size w).alloc (VB _) X).alloc (by simp) Y
 have ap:∀X:Obj,RIs (fun g=>g<w.heap.size+1) (w.heap.size+1) ((w.alloc X).alloc (.cells #[.slice none 0 0,.int .i64 0] 179)) (w.heap.size+1) []:=fun X=>RIs.empty (VB _) (by simp) (by
  have e:w.heap.size+1=(w.alloc X).heap.size:=by simp
  rw[e];exact heap_alloc_new _ _)
 have aw:=Ab (fun X:Obj=>Qz (fun g=>g<w.heap.size+1) (w.heap.size+1) (w.heap.size+1) a aa aj ag ae al ai ab au ts G F [] ((w.alloc X).alloc (.cells #[.slice none 0 0,.int .i64 0] 179)) (ap X) (E.below (M _ _)) (fun b o ea a5=>by
  rcases E.tok with h|⟨bb,bc,a0,Z,_⟩
  . exact absurd h a5
  . rw[a0]at ea;cases ea;omega) (by omega) (by omega) (fun g a1=>by simp at a1;omega) (by simp;omega))
 have ak:=Ab (fun a2=>C9 E.d E.tv a2);have ax:=Ab E.tl;have a4:=Ab M;clear M ap E m1 m2;obtain⟨O,av⟩:=exq (Ga G F ts);rw[av]at aw ak ⊢;clear av;go_enter Tryz.func185,Tryz.ntmps185
 go_wp2_with fail
 refine(Aa aw _).mono ?_;rintro e af ⟨rfl,I,ah⟩;have an:=Aa ak I;rw[Aa ax]at an;have az:=Ab I;have ay:Hid (Below w.heap.size w af):=Ab ((Aa a4 _ _).trans (ah.below.mono (by omega)));have ac:=ah.is;rw[List.nil_append]at ac;obtain⟨ov,bs,T,Z,a6,a8,am⟩:=ac.ex;have c0:af.cell? ⟨w.heap.size+1,0,none⟩=some ov:=Ac T;have ar:af.cell? ⟨w.heap.size+1,1,none⟩=some (.int .i64 (freeN O.length:Nat)):=Ac T;obtain⟨ba,cc,a7⟩:∃a c,ov=.slice a bs.length c:=An Z;have H:=congrArg List.length am;rw[Af,Dr]at H;have ao:=Pk O.length;subst a7;obtain⟨a9,U⟩:=exq (O.length);obtain⟨L,as⟩:=exq (bs.length);obtain⟨bd,aq⟩:=exq (freeN a9);rw[U]at H ao an ar;rw[as]at H c0;rw[aq]at H ao ar;have a3:=Ab U;clear T Z a6 a8 am ac ah I U as aq;go_wp2;go_quiet (fail)
 go_wp2;go_ret;refine⟨?_,Aa az,Ae (Aa ay) _⟩;rw[Aa a3];go_num
theorem Qe {w:World}{E:Nat}{T:TypeId}{x y I:Value}(G:w.heap[E]? =some (.cells #[x,y,I] T (0,0)))(u v t:Value):
 (((w.setCell ⟨E,0,none⟩ u).setCell ⟨E,1,none⟩ v).setCell ⟨E,2,none⟩ t).heap[E]? =some (.cells #[u,v,t] T (0,0))/\(∀j,j<w.heap.size->j≠E->(((w.setCell ⟨E,0,none⟩ u).setCell ⟨E,1,none⟩ v).setCell ⟨E,2,none⟩ t).heap[j]? =w.heap[j]?)/\(((w.setCell ⟨E,0,none⟩ u).setCell ⟨E,1,none⟩ v).setCell ⟨E,2,none⟩ t).heap.size=w.heap.size/\∀ {B:Nat} {H:World},Below B H w->B<=E->Below B H (((w.setCell ⟨E,0,none⟩ u).setCell ⟨E,1,none⟩ v).setCell ⟨E,2,none⟩ t):=by
 have g1:=Ad w E 0 u;have g2:=Ad (w.setCell ⟨E,0,none⟩ u) E 1 v;have g3:=Ad ((w.setCell ⟨E,0,none⟩ u).setCell ⟨E,1,none⟩ v) E 2 t;have F:=Aj (Aj g1 g2) g3;have Y:E<w.heap.size:=(VK.1 G).1;refine⟨?_,fun j O M=>F.block j O (fun e=>M (VM e)),by simp,fun U hb=>U.grown F (by omega) (fun j e=>by rw[<-VM e];exact hb)⟩
 . rw[heap_setCell_same _ _ 2 _ _ _ (heap_setCell_same _ _ 1 _ _ _ (heap_setCell_same _ _ 0 _ _ _ G))];rfl
structure ShA (W2:World)(l:List Int)(m least g:Nat)(w':World):Prop where
 lens:IsLens l m (lensD l m)
 lo:W2.heap.size<=g
 hi:g<w'.heap.size
 row:Row .i64 w' g 0 (trimL (lensD l m) least)
 bel:Below W2.heap.size W2 w'
theorem ShA.keep {G:World}{l:List Int}{m H I:Nat}{W w':World}(E:ShA G l m H I W)(F:Below W.heap.size W w'):ShA G l m H I w':=
 ⟨E.lens,E.lo,VG E.hi F.size,E.row.below F E.hi,E.bel.trans (F.mono E.bel.size)⟩
theorem B7 (a:Option Addr)(M ab:Nat)(ts:List Tk)(w:World)(a4:ts.length=M)(bn:M<=3000)(ap:∀t∈ts,VT t)(a0:TokIn w a ts):
 Calls Tryz.prog 183 #[.slice a M ab] w fun e w'=>∃b1 n1 b2 n2,e=.returned (.agg #[.slice a M ab,.slice (some ⟨b1,0,none⟩) n1 286,.slice (some ⟨b2,0,none⟩) n2 30])/\PlanIs w' a M b1 n1 b2 n2 ts (TS ts) (Z1n ts)/\w.heap.size<=b1/\w.heap.size<=b2/\Below w.heap.size w w':=by
 have aw:=Ab (fun X:Obj=>QI a M ab ts (w.alloc X) a4 bn ap (a0.alloc X));have au:=A5 (ts:=ts) (by omega);have ah:=L9 (ts:=ts) (by omega);have ai:=Li (itsOf ts);have as:=Mo (itsOf ts);have ao:Hid (IsLens (symC (itsOf ts)) 15 (lensD (symC (itsOf ts)) 15)->IsLens (farC (itsOf ts)) 15 (lensD (farC (itsOf ts)) 15)->Dyn ts (TS ts) (Z1n ts)):=fun av T=>Z76 ap (by omega) av T
 have cw:=Ab a4;have b7:=Ab ap;have bj:=Ab a0;obtain⟨n1,be⟩:=exq (Gu (lensD (symC (itsOf ts)) 15) 257 286);obtain⟨n2,bi⟩:=exq (Gu (lensD (farC (itsOf ts)) 15) 1 30);have a8:=Ab be;have a6:=Ab bi;have ay:trimL (lensD (symC (itsOf ts)) 15) 257=TS ts:=rfl;have a2:trimL (lensD (farC (itsOf ts)) 15) 1=Z1n ts:=rfl;have am:Hid (∀aa Z,IsLens (symC (itsOf ts)) 15 aa->IsLens (farC (itsOf ts)) 15 Z->aa.length=286/\Z.length=30):=fun aa Z av T=>⟨by have:=(Jd au av).2.1;omega,by have:=(Jd ah T).2.1;omega⟩
 obtain⟨G,bh⟩:=exq (symC (itsOf ts));obtain⟨I,bo⟩:=exq (farC (itsOf ts));rw[bh]at aw au ai ao a8 ay am;rw[bo]at aw ah as ao a6 a2 am;have cm:=Ab au;have cv:=Ab ah;have bk:=Ab ay;have bw:=Ab a2;clear a0 ap a4 au ah be bi ay a2 bh bo;have cn:(Tryz.prog.info? 297).map (·.size)=some (iv G).toArray.size:=by rw[Y4];simp[ai]
 have cj:(Tryz.prog.info? 298).map (·.size)=some (iv I).toArray.size:=by rw[OM];simp[as]
 go_enter Tryz.func183,Tryz.ntmps183
 go_wp2_with fail
 refine(Aa aw _).mono ?_;rintro e F ⟨rfl,al⟩;have cu:=al.size;simp only[World.size_alloc]at cu;have bf:F.heap[w.heap.size]? =some (.cells #[.slice none 0 0,.slice none 0 0,.slice none 0 0] 256 (0,0)):=(al.block _ (by simp)).trans (heap_alloc_new _ _);have ci:=Ab bf;have b9:Hid (Below w.heap.size w F):=Ab (((Below.refl w.heap.size w).alloc (VB _) _).trans (al.mono (by simp)));clear al bf;have aa:((F.alloc (.cells (iv (List.replicate 286 0)).toArray 297)).alloc (.cells (iv (List.replicate 30 0)).toArray 298)).heap[F.heap.size]? =some (.cells (iv (List.replicate 286 0)).toArray 297 (0,0)):=(Below.heap_alloc _ _ _ (by simp)).trans (heap_alloc_new _ _)
 have Z:(((F.alloc (.cells (iv (List.replicate 286 0)).toArray 297)).alloc (.cells (iv (List.replicate 30 0)).toArray 298)).setRow F.heap.size (iv G).toArray).heap[F.heap.size+1]? =some (.cells (iv (List.replicate 30 0)).toArray 298 (0,0)):=by
  rw[Go.setRow_other _ _ _ _ (by omega)];have e:F.heap.size+1=(F.alloc (.cells (iv (List.replicate 286 0)).toArray 297)).heap.size:=by simp
  rw[e];exact heap_alloc_new _ _
 have b4:=Ab aa;have bz:=Ab Z;have aj:=Ab (fun x y=>Jt w F x y 297 298 G I (Aa b9) (by simp));have bt:=Ab (fun x y=>Jt F F x y 297 298 G I (Below.refl _ _) (by simp));clear aa Z;go_upto_region 2 with (first|refine wpList_store_row rfl 297 (.tmp 3) (.tmp 8) rfl F.heap.size _ rfl rfl 297 (iv (List.replicate 286 0)).toArray (Aa b4) cn (by simp[ai]) (Cy G) ?_|refine wpList_store_row rfl 298 (.tmp 4) (.tmp 9) rfl (F.heap.size+1) _ rfl rfl 298 (iv (List.replicate 30 0)).toArray (Aa bz) cj (by simp[as]) (Cy I) ?_)
 simp only[Act.put];generalize ac:World.setRow (World.setRow (World.alloc (World.alloc _ _) _) _ _) _ _=W2;have ae:ARow 297 W2 F.heap.size G:=by rw[<-ac];exact(Aa aj _ _).1
 have U:ARow 298 W2 (F.heap.size+1) I:=by rw[<-ac];exact(Aa aj _ _).2.1
 have ak:Below w.heap.size w W2:=by rw[<-ac];exact(Aa aj _ _).2.2
 have an:W2.heap[w.heap.size]? =some (.cells #[.slice none 0 0,.slice none 0 0,.slice none 0 0] 256 (0,0)):=by rw[<-ac];exact((Aa bt _ _).2.2.block _ (by omega)).trans (Aa ci)
 have dd:=ak.size;have l1:=ae.lt;have l2:=U.lt;have bb:=Ab (fun(W:World) (E:Below W2.heap.size W2 W)=>Ib (some ⟨F.heap.size,0,none⟩) 286 286 G 15 257 W ai (.inr ⟨_,0,rfl,VG l1 E.size,ae.row.below E l1⟩) (Aa cm) (by decide) n1 a8);have bc:=Ab (fun(W:World) (E:Below W2.heap.size W2 W)=>Ib (some ⟨F.heap.size+1,0,none⟩) 30 30 I 15 1 W as (.inr ⟨_,0,rfl,VG l2 E.size,U.row.below E l2⟩) (Aa cv) (by decide) n2 a6);have bd:=Ab ak;have az:=Ab an;have bg:w.heap.size<W2.heap.size:=by omega
 clear ac aj bt b4 bz ae U ak an l1 l2
 have a1:=Ab (fun(W:World) (E:Below W2.heap.size W2 W)=>(Aa bb W E).mono (fun e w' (h:∃g,e=.returned (.slice (some ⟨g,0,none⟩) n1 286)/\IsLens G 15 (lensD G 15)/\W.heap.size<=g/\g<w'.heap.size/\Row .i64 w' g 0 (trimL (lensD G 15) 257)/\Below W.heap.size W w')=>(show (∃g,e=.returned (.slice (some ⟨g,0,none⟩) n1 286)/\ShA W2 G 15 257 g w'/\Below W.heap.size W w') from by
  obtain⟨g,ag,T,a7,a9,a5,af⟩:=h;exact⟨g,ag,⟨T,VU E.size a7,a9,a5,E.trans (af.mono E.size)⟩,af⟩)))
 have ba:=Ab (fun(W:World) (E:Below W2.heap.size W2 W)=>(Aa bc W E).mono (fun e w' (h:∃g,e=.returned (.slice (some ⟨g,0,none⟩) n2 30)/\IsLens I 15 (lensD I 15)/\W.heap.size<=g/\g<w'.heap.size/\Row .i64 w' g 0 (trimL (lensD I 15) 1)/\Below W.heap.size W w')=>(show (∃g,e=.returned (.slice (some ⟨g,0,none⟩) n2 30)/\ShA W2 I 15 1 g w'/\Below W.heap.size W w') from by
  obtain⟨g,ag,T,a7,a9,a5,af⟩:=h;exact⟨g,ag,⟨T,VU E.size a7,a9,a5,E.trans (af.mono E.size)⟩,af⟩)))
 have ct:=Ab (fun(k:Nat)=>Aa a1 (W2.drewN k) (Ae (Below.refl _ _) k));have cp:=Ab (fun(k:Nat)=>Aa ba (W2.drewN k) (Ae (Below.refl _ _) k));have ch:=Ab (fun(W:World) (g:Nat) (h:ShA W2 I 15 1 g W)=>Aa a1 W h.bel);have b5:=Ab (fun(W:World) (g:Nat) (h:ShA W2 G 15 257 g W)=>Aa ba W h.bel)
 have b3:Hid (∀W',Below W2.heap.size W2 W'->(W'.cell? ⟨w.heap.size,0,none⟩=some (.slice none 0 0)/\W'.cell? ⟨w.heap.size,1,none⟩=some (.slice none 0 0)/\W'.cell? ⟨w.heap.size,2,none⟩=some (.slice none 0 0))/\W'.frozen? ⟨w.heap.size,0,none⟩=false/\W'.frozen? ⟨w.heap.size,1,none⟩=false/\W'.frozen? ⟨w.heap.size,2,none⟩=false):=fun W' E=>by
  have d:W'.heap[w.heap.size]? =some (.cells #[.slice none 0 0,.slice none 0 0,.slice none 0 0] 256 (0,0)):=(E.block _ bg).trans (Aa az);exact⟨⟨Ac d,Ac d,Ac d⟩,frozen_of_row W' w.heap.size 0 _ _ d,frozen_of_row W' w.heap.size 1 _ _ d,frozen_of_row W' w.heap.size 2 _ _ d⟩
 have c7:Hid (∀W' ga gb,ShA W2 G 15 257 ga W'->ShA W2 I 15 1 gb W'->W'.heap[w.heap.size]? =some (.cells #[.slice none 0 0,.slice none 0 0,.slice none 0 0] 256 (0,0))/\PlanIs W' a M ga n1 gb n2 ts (TS ts) (Z1n ts)/\w.heap.size<=ga/\w.heap.size<=gb/\Below w.heap.size w W'/\w.heap.size≠ga/\w.heap.size≠gb):=fun W' ga gb Y E=>by
  have ag:=Y.lo;have e2:=E.lo;have bm:=Aa am _ _ Y.lens E.lens;have b0:Below w.heap.size w W':=(Aa bd).trans (Y.bel.mono (by omega));have bq:=Y.row;have bv:=E.row;rw[Aa bk]at bq;rw[Aa bw]at bv;refine⟨(Y.bel.block _ bg).trans (Aa az),⟨Aa cw,bn,Aa b7,(Aa bj).below b0 (VB _),Aa ao Y.lens E.lens, ?_, ?_,Y.hi,E.hi,bq,bv⟩,by omega,by omega,b0,by omega,by omega⟩
  . rw[<-Aa bk,Cg,bm.1];exact Aa a8
  . rw[<-Aa bw,Cg,bm.2];exact Aa a6
 clear bb bc a1 ba bd az am ao;generalize cd:F.heap.size+1=dc at*;generalize ce:F.heap.size=de at*;clear ce cd;go_region_with (first|(go_at_call 212;refine(Aa ch _ _ (Aa ax)).mono ?_;rintro e aq ⟨ga,rfl,H,O⟩;have ar:=Ab H;have bu:=Ab ((Aa ax).keep O);obtain⟨⟨co,k1,k2⟩,cg,c8,cz⟩:=Aa b3 aq H.bel;clear H O ax)|(go_at_call 212;refine(Aa b5 _ _ (Aa ar)).mono ?_;rintro e aq ⟨gb,rfl,H,O⟩;have bu:=Ab H;have cl:=Ab ((Aa ar).keep O);obtain⟨⟨co,k1,k2⟩,cg,c8,cz⟩:=Aa b3 aq H.bel;clear H O ar)|(go_at_call 212;refine(Aa ct _).mono ?_;rintro e da ⟨ga,rfl,H,O⟩;have ar:=Ab H;clear H O)|(go_at_call 212;refine(Aa cp _).mono ?_;rintro e db ⟨gb,rfl,H,O⟩;have ax:=Ab H;clear H O))
 all_goals try go_wp2
 obtain⟨c4,a3,c5,ck,cq,c3,cy⟩:=Aa c7 aq ga gb (Aa cl) (Aa bu);obtain⟨ae,U,ak,an⟩:=Qe c4 (.slice a M ab) (.slice (some ⟨ga,0,none⟩) n1 286) (.slice (some ⟨gb,0,none⟩) n2 30);refine bodyPost_ret (v:=.agg #[.slice a M ab,.slice (some ⟨ga,0,none⟩) n1 286,.slice (some ⟨gb,0,none⟩) n2 30]) ?_ rfl ⟨ga,n1,gb,n2,rfl,a3.keep (by omega) (fun b o ea c6 hb=> ?_) (U ga a3.m1 (fun e=>c3 e.symm)) (U gb a3.m2 (fun e=>cy e.symm)),c5,ck,an cq (VB _)⟩
 . exact results_cell_row rfl _ _ _ _ _ _ _ rfl ae Tryz.underlying256 rfl (by kernel_rfl)
 . rcases Aa bj with h|⟨dg,c9,b8,df,_⟩
   . exact absurd h c6
   . rw[b8]at ea
     cases ea
     exact U b hb (by omega)
theorem Pas.weaken {No No':Nat->Prop}{w:World}{p F I b o n G H:Nat}{bs:List Nat}(E:Pas No' w p F I b o n G bs H)(O:∀g,No g->No' g):Pas No w p F I b o n G bs H:=
 ⟨E.pst,E.grp,fun es clock hb x M g T U=>E.shun es clock hb x M g T (O g U),E.row,E.size⟩
theorem Pas.more {No No':Nat->Prop}{w:World}{p F I b o n G H:Nat}{bs:List Nat}(E:Pas No w p F I b o n G bs H)(M:∀g,No' g->No g\/w.heap.size<=g):Pas No' w p F I b o n G bs H:=by
 obtain⟨D,O,_⟩:=E.grp;exact⟨E.pst,E.grp,E.shun.reno O M,E.row,E.size⟩
theorem Geo.more {No No':Nat->Prop}{B p F G b:Nat}{bs:List Nat}(E:Geo No B p F G b bs)(I:¬No' p)(H:¬No' F):Geo No' B p F G b bs:=⟨E.bB,E.pB,E.mB,E.pm,E.pb,I,H,E.len,E.byte⟩
theorem OE:(Tryz.prog.info? 244).map (·.size)=some 3:=by kernel_rfl
theorem T4 {H:Func}{p:Tmp}(O:H.results= #[.cell p 244])(G:Array Value)(w:World)(E:Nat)(F:Array Value)(M:F.size=3)(U:G.getD p undef=.pointer (some ⟨E,0,none⟩))(I:w.heap[E]? =some (.cells F 244 (0,0))):
 (results H G).run Tryz.prog w=.ok (.agg F) w:=by
 have hl:(loadVar 244 ⟨E,0,none⟩).run Tryz.prog w=.ok (.agg F) w:=run_loadVar_row w E _ _ _ _ _ I Tryz.underlying244 rfl (by rw[M];exact OE);have T:G[p]?.getD undef=.pointer (some ⟨E,0,none⟩):=by simpa using U
 simp only[results,O];simp[T,asAddr,hl]
theorem S7 {w:World}{E:Nat}{x y F a b c:Value}(G:w.heap[E]? =some (.cells #[x,y,F] 244 (0,0))):(((w.setCell ⟨E,0,none⟩ a).setCell ⟨E,1,none⟩ b).setCell ⟨E,2,none⟩ c).heap[E]? =some (.cells #[a,b,c] 244 (0,0)):=by
 rw[heap_setCell_same _ E 2 _ _ _ (heap_setCell_same _ E 1 _ _ _ (heap_setCell_same w E 0 _ _ _ G))];rfl
theorem LT (w:World)(E:Nat)(a b c:Value):w.grownBy (((w.setCell ⟨E,0,none⟩ a).setCell ⟨E,1,none⟩ b).setCell ⟨E,2,none⟩ c) (some E):=
 Aj (Aj (Ad w E 0 a) (Ad _ E 1 b)) (Ad _ E 2 c)
theorem KT (No:Nat->Prop)(B p H I b o n O ah k:Nat)(bs:List Nat)(w:World)(M:Geo No B p H I b bs)(av:bs.length=n)(a8:n<=O)(aa:Pas No w p H I b o n O bs ah)(bh:ah<=k)(bk:k<n)(aq:∀g,w.heap.size<=g->¬No g)(T:Nat)(ts ag:Int)(ay:Hid (Qd bs k=(T,ts,ag))):
 Calls Tryz.prog 178 #[.pointer (some ⟨p,0,none⟩),.int .i64 (k:Int)] w fun e w'=>e=.returned (.agg #[.int .u8 (T:Int),.int .i64 ts,.int .i64 ag])/\(∃ae,ae<=k+1/\Pas No w' p H I b o n O bs ae)/\Below B w w'/\Kp No w w':=by
 have bq:=Ab M;have bf:=Ab aa;have bo:=Ab aq;have b8:=Ab av;have hn:=M.len;have ap:B<=w.heap.size:=VU M.pB (YX aa.pst.lt);have ak:Hid (Geo (fun g=>No g\/g=w.heap.size) B p H I b bs):=M.more (by rintro (h|h);exact M.nop h;have:=aa.pst.lt;omega) (by rintro (h|h);exact M.nom h;have:=aa.grp.lt.2;omega);have ba:Hid (Pas (fun g=>No g\/g=w.heap.size) (w.alloc (.cells #[.int .u8 0,.int .i64 0,.int .i64 0] 244)) p H I b o n O bs ah):=(aa.more (No':=fun g=>No g\/g=w.heap.size) (by rintro g (h|h);exact .inl h;exact .inr (by omega))).grown (Aa ak) (World.grownBy_alloc w _ none) (fun j e=>by cases e)
 have a1:Hid (∀g,(w.alloc (.cells #[.int .u8 0,.int .i64 0,.int .i64 0] 244)).heap.size<=g->¬(No g\/g=w.heap.size)):=by
  intro g Y;simp at Y
  rintro (h|h)
  . exact aq g (by omega) h
  . omega
 have a3:=Ab ((Below.refl B w).alloc ap (.cells #[.int .u8 0,.int .i64 0,.int .i64 0] 244));have a2:(w.alloc (.cells #[.int .u8 0,.int .i64 0,.int .i64 0] 244)).heap[w.heap.size]? =some (.cells #[.int .u8 0,.int .i64 0,.int .i64 0] 244 (0,0)):=heap_alloc_new w _;have ax:=Ab a2;clear M aa aq a2;obtain⟨n1,f1,ac⟩:∃n1 f1,lng bs k=(n1,f1):=⟨_,_,rfl⟩
 obtain⟨n2,f2,af⟩:∃n2 f2,lng bs (k+1)=(n2,f2):=⟨_,_,rfl⟩
 have bi:=Ab ac;have bv:=Ab af
 have E:Qd bs k=if n1=0 then (bs.getD k 0,0,0)else if n1<n2 then (bs.getD k 0,0,0)else (0,(n1:Int),(f1:Int)):=by
  unfold Qd;rw[ac,af]
 rw[Aa ay]at E;clear ac af ay;go_enter Tryz.func178,Tryz.ntmps178
 go_wp2_with fail
 refine(Rj _ B p H I b o n O ah k bs _ (Aa ak) av a8 (Aa ba) bh (by omega) (Aa a1) n1 f1 bi).mono ?_;rintro e F ⟨rfl,⟨a0,b3,aj⟩,as,am⟩;have bu:=as.size;simp only[World.size_alloc]at bu;have Z:F.heap[w.heap.size]? =some (.cells #[.int .u8 0,.int .i64 0,.int .i64 0] 244 (0,0)):=(am w.heap.size (by simp) (.inr rfl)).trans (Aa ax);have be:=Ab aj;have a9:=Ab ((Aa a3).trans as);have bc:Hid (Kp No w F):=((Kp.refl No w).grown (World.grownBy_alloc w (.cells #[.int .u8 0,.int .i64 0,.int .i64 0] 244) none) (VB _) (fun j e=>by cases e)).trans (am.weaken (fun g h=>.inl h)) (by simp);have c0:=aj.pst.cell0;have a5:=aj.row k (by omega);clear aj as am ba a1 a3 ax;have r0:F.cell? ⟨w.heap.size,0,none⟩=some (.int .u8 0):=Ac Z;have r1:F.cell? ⟨w.heap.size,1,none⟩=some (.int .i64 0):=Ac Z;have r2:F.cell? ⟨w.heap.size,2,none⟩=some (.int .i64 0):=Ac Z;have bb:∀j,F.frozen? ⟨w.heap.size,j,none⟩=false:=fun j=>frozen_of_row F _ j _ _ Z
 have ar:Hid (∀(W:World) (ai:Nat) (x y z:Value),ai<=k+1->Pas (fun g=>No g\/g=w.heap.size) W p H I b o n O bs ai->Below B w W->Kp No w W->w.heap.size<=W.heap.size->
  (∃ae,ae<=k+1/\Pas No (((W.setCell ⟨w.heap.size,0,none⟩ x).setCell ⟨w.heap.size,1,none⟩ y).setCell ⟨w.heap.size,2,none⟩ z) p H I b o n O bs ae)/\Below B w (((W.setCell ⟨w.heap.size,0,none⟩ x).setCell ⟨w.heap.size,1,none⟩ y).setCell ⟨w.heap.size,2,none⟩ z)/\Kp No w (((W.setCell ⟨w.heap.size,0,none⟩ x).setCell ⟨w.heap.size,1,none⟩ y).setCell ⟨w.heap.size,2,none⟩ z)):=by
  intro W ai x y z bt bz bw bj bg;have Y:=LT W w.heap.size x y z;have M:=Aa bq;have b0:=(Aa bf).pst.lt;have b5:=(Aa bf).grp.lt.2;refine⟨⟨ai,bt,(bz.grown (Aa ak) Y (fun j e=> ?_)).weaken (fun g h=>.inl h)⟩,bw.grown Y (VU ap bg) (fun j e=>by cases e;exact ap), ?_⟩
  . cases e
    have:=M.bB
    exact⟨by omega,by omega,by omega,.inl (.inr rfl)⟩
  . intro g ac af;rw[Y.block g (by omega) (fun e=>by simp at e;omega)];exact bj g ac af
 by_cases au:n1=0
 . rw[if_pos au]at E;generalize bs.getD k 0=x at*;obtain⟨rfl,rfl,rfl⟩:T=x/\ts=0/\ag=0:=by simpa using E
   subst au;have ab:=Ab (S7 (a:=.int .u8 (T:Int)) (b:=.int .i64 0) (c:=.int .i64 0) Z);go_wp2;exact bodyPost_ret (T4 rfl _ _ _ _ rfl rfl (Aa ab)) rfl ⟨rfl,Aa ar F a0 _ _ _ (by omega) (Aa be) (Aa a9) (Aa bc) (by omega)⟩
 . rw[if_neg au]at E;have b7:((n1:Int)==0)=false:=by rw[beq_eq_false_iff_ne];omega
   have bm:k+1<=n:=bk;clear c0 a5 r0 r1 r2 bb;go_wp2_with fail
   have bn:Hid (∀g,F.heap.size<=g->¬(No g\/g=w.heap.size)):=by
    intro g Y;rintro (h|h)
    . exact Aa bo g (by omega) h
    . omega
   refine(Rj _ B p H I b o n O a0 (k+1) bs F (Aa ak) av a8 (Aa be) (by omega) bm (Aa bn) n2 f2 bv).mono ?_;rintro e G ⟨rfl,⟨a6,a4,al⟩,an,ao⟩;have b4:=an.size;have U:G.heap[w.heap.size]? =some (.cells #[.int .u8 0,.int .i64 0,.int .i64 0] 244 (0,0)):=(ao w.heap.size (by omega) (.inr rfl)).trans Z;have bd:=Ab al;have aw:=Ab ((Aa a9).trans an);have a7:Hid (Kp No w G):=(Aa bc).trans (ao.weaken (fun g h=>.inl h)) (by omega);have c0:=al.pst.cell0;have a5:=al.row k (by omega);clear al an ao;have r0:G.cell? ⟨w.heap.size,0,none⟩=some (.int .u8 0):=Ac U;have r1:G.cell? ⟨w.heap.size,1,none⟩=some (.int .i64 0):=Ac U;have r2:G.cell? ⟨w.heap.size,2,none⟩=some (.int .i64 0):=Ac U;have bb:∀j,G.frozen? ⟨w.heap.size,j,none⟩=false:=fun j=>frozen_of_row G _ j _ _ U
   by_cases az:n1<n2
   . rw[if_pos az]at E;generalize bs.getD k 0=x at*;obtain⟨rfl,rfl,rfl⟩:T=x/\ts=0/\ag=0:=by simpa using E
     have ab:=Ab (S7 (a:=.int .u8 (T:Int)) (b:=.int .i64 0) (c:=.int .i64 0) U);go_wp2;exact bodyPost_ret (T4 rfl _ _ _ _ rfl rfl (Aa ab)) rfl ⟨rfl,Aa ar G a6 _ _ _ a4 (Aa bd) (Aa aw) (Aa a7) (by omega)⟩
   . rw[if_neg az]at E
     obtain⟨rfl,rfl,rfl⟩:0=T/\(n1:Int)=ts/\(f1:Int)=ag:=by
      simp only[YD]at E;exact⟨E.1.symm,E.2.1.symm,E.2.2.symm⟩
     have ab:=Ab (S7 (a:=.int .u8 0) (b:=.int .i64 (n1:Int)) (c:=.int .i64 (f1:Int)) U);go_wp2;exact bodyPost_ret (T4 rfl _ _ _ _ rfl rfl (Aa ab)) rfl ⟨rfl,Aa ar G a6 _ _ _ a4 (Aa bd) (Aa aw) (Aa a7) (by omega)⟩
theorem Pas.turn {No No':Nat->Prop}{W G:World}{p F M b o n H I:Nat}{bs:List Nat}{r:Option Nat}(O:Pas No W p F M b o n H bs I)(E:Pas No G p F M b o n H bs I)(U:W.grownBy G r)(Y:some F≠r)(T:∀g,No' g->No g\/W.heap.size<=g):Pas No' G p F M b o n H bs I:=
 ⟨E.pst,E.grp,(O.more T).shun.kept U O.grp.lt.2 Y,E.row,E.size⟩
theorem Zs (W:World)(x y F:Value)(t:TypeId):∀j u,[x,y,F][j]? =some u->(W.alloc (.cells #[x,y,F] t)).cell? ((⟨W.heap.size,0,none⟩:Addr).add j)=some u:=by
 intro j u E;have e:(⟨W.heap.size,0,none⟩:Addr).add j=⟨W.heap.size,j,none⟩:=by unfold Addr.add;split<;>simp_all
 rw[e,World.cell?_alloc_at _ _ _ _ rfl]
 match j,E with
 |0,E=>simpa using E
 |1,E=>simpa using E
 |2,E=>simpa using E
theorem R4 (a:Option Addr)(E:Nat)(w:World):Calls Tryz.prog 149 #[.slice a 0 E] w fun e w'=>e=.returned (.tuple #[.slice none 0 0,.int .i64 0])/\Below w.heap.size w w':=by
 have H:=Ab (((Below.refl w.heap.size w).alloc (VB _) (.map #[] 0)).alloc (by simp) (.cells #[.slice a 0 E,.map (some w.heap.size),.int .i64 0] 292));go_enter Tryz.func149,Tryz.ntmps149
 go_wp2_with fail
 refine(Rf a 0 E w).mono ?_;rintro e I ⟨rfl,rfl⟩;go_wp2;go_loop [4,6] (fun F G=>F=.slice none 0 0/\G=.int .i64 0) (fun _ _=>0)
 case atStart=>exact⟨rfl,rfl⟩
 case round=>
  obtain⟨rfl,rfl⟩:=hrel;go_wp2;go_ret2;exact⟨rfl,Aa H⟩
theorem R3 (b o n G:Nat)(bs:List Nat)(w:World)(b9:bs.length=n)(c4:n<=3000)(b8:n<=G)(bt:b<w.heap.size)(bf:Bytes w b o bs)(ap:∀j,bs.getD j 0<256):
 Calls Tryz.prog 149 #[.slice (some ⟨b,o,none⟩) n G] w fun e w'=>∃v,e=.returned (.tuple #[v,.int .i64 0])/\w'.ownsRow w.heap.size 244 3 v (Gi bs).length (tvs (Gi bs))/\Below w.heap.size w w':=by
 obtain⟨cj,hi,cl,ck,b3⟩:=info_parts CO;have bh:=Ab b9;have cz:=Ab ap;have a0:Hid (∀No:Nat->Prop,¬No (w.heap.size+1)->¬No w.heap.size->Geo No w.heap.size (w.heap.size+1) w.heap.size (w.heap.size+2) b bs):=fun No bo ci=>⟨bt,by omega,VB _,by omega,by omega,bo,ci,by omega,ap⟩
 have be:Hid (Pas (fun g=>(Value.slice none 0 0).ownBlock=some g) ((w.alloc (.map #[] 0)).alloc (.cells #[.slice (some ⟨b,o,none⟩) n G,.map (some w.heap.size),.int .i64 0] 292)) (w.heap.size+1) w.heap.size (w.heap.size+2) b o n G bs 0):=by
  have H:=World.grownBy_alloc (w.alloc (.map #[] 0)) (.cells #[.slice (some ⟨b,o,none⟩) n G,.map (some w.heap.size),.int .i64 0] 292) none;refine⟨?_,(Grp.made w (w.heap.size+2) bs (by omega)).kept H (fun j e=>by cases e),(World.Shuns_made w _).kept H (by simp) (by simp), ?_,by simp⟩
  . have:=heap_alloc_new (w.alloc (.map #[] 0)) (.cells #[.slice (some ⟨b,o,none⟩) n G,.map (some w.heap.size),.int .i64 0] 292)
    rw[World.size_alloc]at this;exact this
  . exact(bf.grown (World.grownBy_alloc w _ none) (by simp)).grown H (by simp)
 have bn:=Ab (((Below.refl w.heap.size w).alloc (VB _) (.map #[] 0)).alloc (by simp) (.cells #[.slice (some ⟨b,o,none⟩) n G,.map (some w.heap.size),.int .i64 0] 292));clear bf ap;go_enter Tryz.func149,Tryz.ntmps149
 go_wp2_with fail
 refine(Rf (some ⟨b,o,none⟩) n G w).mono ?_;rintro e a8 ⟨rfl,as⟩;have bb:Hid (Pas (fun g=>(Value.slice none 0 0).ownBlock=some g) a8 (w.heap.size+1) w.heap.size (w.heap.size+2) b o n G bs 0):=by rw[as];exact Aa be
 have az:Hid (Below w.heap.size w a8):=by rw[as];exact Aa bn
 clear as be bn;have b4:Hid (∀l,l=Gi bs->l=Gi bs):=fun l h=>h
 generalize U:Gi bs=T at*;have bi:=Ab U;clear U b4;go_wp2;go_loopw [4,6] (fun au ar wr=>∃(k fuel kn:Nat) (acc:List Tk),k<=n/\ar=.int .i64 (k:Int)/\acc++tks bs fuel k=T/\n<=k+fuel/\acc.length<=k/\kn<=k/\wr.ownsRow (w.heap.size+2) 244 3 au acc.length (tvs acc)/\Pas (fun g=>au.ownBlock=some g) wr (w.heap.size+1) w.heap.size (w.heap.size+2) b o n G bs kn/\Below w.heap.size w wr) (fun _ ar _=>n-(intOf ar).toNat)
 case atStart=>exact⟨0,n,0,[],VH _,rfl,by rw[<-Aa bi];simp[Gi,Aa bh],by omega,VB _,VB _,World.ownsRow_nil _ _ _ _,Aa bb,Aa az⟩
 case round=>
  obtain⟨k,fuel,kn,acc,c5,rfl,U,cw,ct,bq,O,af,ab⟩:=hrel;have aw:=Ab U;have Y:=Ab O;have bk:=Ab af;have an:=Ab ab;have cq:=ab.size;have c6:=af.size;clear U
  by_cases b0:k<n
  . obtain⟨bm,a4,co⟩:=TN bs fuel k (by omega) (by omega);have cu:=Oq bs k (by omega);have aj:=Uo bs k (by omega);have ao:=Z36 aj;have cy:=Z5y aj;obtain⟨F,ts,E,Z⟩:∃F ts E,Qd bs k=(F,ts,E):=⟨_,_,_,rfl⟩
    have bu:=Ab Z;have cd:max ts 1=((wid (Qd bs k):Nat):Int):=by rw[Z]at ao ⊢;exact ao
    have ch:Hid ((acc++ [(F,ts,E)])++tks bs bm (k+wid (Qd bs k))=T):=by
     rw[<-Aa aw,a4,Z,VS];rfl
    generalize wid (Qd bs k)=a7 at*
    have bv:Hid (∀g,wr.heap.size<=g->¬(u4.ownBlock=some g)):=fun g H e=>by
     have:=(O.lt g e).2
     omega
    have aa:∀g,u4.ownBlock=some g->w.heap.size+2<=g:=fun g e=>(O.lt g e).1
    have ai:=Ab aa;have ac:Hid (Geo (fun g=>u4.ownBlock=some g) w.heap.size (w.heap.size+1) w.heap.size (w.heap.size+2) b bs):=Aa a0 _ (fun e=>by have:=aa _ e;omega) (fun e=>by have:=aa _ e;omega);clear O af ab ao aj a4 Z aa;go_wp2_with fail
    refine(KT _ w.heap.size (w.heap.size+1) w.heap.size (w.heap.size+2) b o n G kn k bs wr (Aa ac) (Aa bh) b8 (Aa bk) bq b0 (Aa bv) F ts E bu).mono ?_;rintro e I ⟨rfl,⟨ay,c3,a9⟩,am,a2⟩;have cp:=am.size;have bj:=Ab a9;have a1:=Ab ((Aa an).trans am);have aq:Hid (I.ownsRow (w.heap.size+2) 244 3 u4 acc.length (tvs acc)):=Au (Aa Y) (fun g H=>a2 g ((Aa Y).lt g H).2 H);clear a9 am a2 bk Y an bb az;have a5:=Ab (((Aa aq).alloc (.cells #[.int .u8 (F:Int),.int .i64 ts,.int .i64 E] 244)).alloc (.cells #[.int .u8 (F:Int),.int .i64 ts,.int .i64 E] 244));have ah:=Ab (((Aa bj).grown (Aa ac) (World.grownBy_alloc I (.cells #[.int .u8 (F:Int),.int .i64 ts,.int .i64 E] 244) none) (fun j e=>by cases e)).grown (Aa ac) (World.grownBy_alloc _ (.cells #[.int .u8 (F:Int),.int .i64 ts,.int .i64 E] 244) none) (fun j e=>by cases e));have ax:=Ab (((Aa a1).alloc (by omega) (.cells #[.int .u8 (F:Int),.int .i64 ts,.int .i64 E] 244)).alloc (by simp;omega) (.cells #[.int .u8 (F:Int),.int .i64 ts,.int .i64 E] 244));have bd:=Ab (Zs (I.alloc (.cells #[.int .u8 (F:Int),.int .i64 ts,.int .i64 E] 244)) (.int .u8 (F:Int)) (.int .i64 ts) (.int .i64 E) 244);go_wp2_with (at_builtin;refine wpList_append_own_at _ rfl _ _ 215 rfl (w.heap.size+2) 244 cj _ 3 24 Tryz.underlying215 hi cl ck b3 rfl (by decide) u4 acc.length (tvs acc) rfl (Aa a5) ⟨I.heap.size+1,0,none⟩ 1 1 [.int .u8 (F:Int),.int .i64 ts,.int .i64 E] rfl rfl (by have:=Aa bd;simp only[World.size_alloc]at this;exact this) (by intro u bg;simp at bg;rcases bg with rfl|rfl|rfl<;>rfl) (by unfold maxLen;omega) (by omega) (by simp;omega) ?_)
    intro v' w3 bc M _ a6;have ag:some I.heap.size≠u4.ownBlock:=fun e=>by have:=((Aa aq).lt _ e.symm).2;omega
    have bz:w3.cell? ⟨I.heap.size,0,none⟩=some (.int .u8 (F:Int)):=M.cell (by simp) ag;have cg:w3.cell? ⟨I.heap.size,1,none⟩=some (.int .i64 ts):=M.cell (by simp) ag;have ce:w3.cell? ⟨I.heap.size,2,none⟩=some (.int .i64 E):=M.cell (by simp) ag
    have al:Hid (w3.ownsRow (w.heap.size+2) 244 3 v' (acc++ [(F,ts,E)]).length (tvs (acc++ [(F,ts,E)]))):=by
     rw[Uj,VE];exact bc
    have ba:=Ab ((Aa ax).grown M (by simp;omega) (fun g e=>by have:=Aa ai g e;omega));have av:=Ab ((Aa ah).grown (Aa ac) M (fun g e=>by have:=Aa ai g e;exact⟨by omega,by omega,by omega,.inl e⟩))
    have bw:Hid (Pas (fun g=>v'.ownBlock=some g) w3 (w.heap.size+1) w.heap.size (w.heap.size+2) b o n G bs ay):=(Aa ah).turn (Aa av) M (fun e=>by have:=Aa ai _ e.symm;omega) (fun g H=>by
     rcases a6 with h|h
     . exact .inl (by rw[<-h];exact H)
     . refine .inr ?_;have a3:v'.ownBlock=some g:=H;rw[h]at a3;have:=VM a3
       simp only[World.size_alloc]at this ⊢;omega)
    clear bc M a6 ag av ah ax a5 bd bj a1 aq;go_wp2_with fail
    refine(AE F ts E w3 a7 cd).mono ?_;rintro e cv ⟨rfl,ae⟩;have b7:=Ab (Hv (Aa al) ae);have cm:=Ab (Hq (Aa ba) ae (Aa ba).size);have b5:=Ab ((Aa bw).grown (Aa a0 _ (fun e=>by have:=((Aa al).lt _ e).1;omega) (fun e=>by have:=((Aa al).lt _ e).1;omega)) ae (fun j e=>by cases e));clear ae bz cg ce;go_wp2;go_roundw
    case rel=>exact⟨k+a7,bm,ay,acc++ [(F,ts,E)],by omega,by go_num,Aa ch,by omega,by simp;omega,by omega,Aa b7,Aa b5,Aa cm⟩
    case measure=>simp[intOf];omega
  . obtain rfl:n=k:=by omega
    have e:acc=T:=by
     have:=Aa aw
     rw[TP bs fuel n (by omega),XA]at this;exact this
    have ak:=Pa (Aa Y) (show w.heap.size<=w.heap.size+2 by omega);rw[e,<-Aa bi]at ak;have cn:=Ab ak;clear O af ab ak;go_wp2;go_ret2;exact⟨u4,rfl,Aa cn,Aa an⟩
theorem TokIn.ofOwn {w:World}{B n:Nat}{v:Value}{l:List Tk}(F:w.ownsRow B 244 3 v n (tvs l)):l.length=n/\∃a c,v=.slice a n c/\TokIn w a l:=by
 have hn:l.length=n:=by have:=F.1;rw[Ui]at this;omega
 refine⟨hn, ?_⟩
 rcases F.2 with ⟨E,G⟩|⟨g,cap,cur,E,_⟩
 . subst G;exact⟨none,0,E,.inl (WV hn)⟩
 . subst E;exact⟨_,_,rfl,TokIn.own F⟩
end Go.Proofs.YtleocpdblhbimaaGreatDoor
