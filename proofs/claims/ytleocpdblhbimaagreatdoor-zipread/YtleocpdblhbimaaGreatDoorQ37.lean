import Derived.Test.YtleocpdblhbimaaGreatDoorQ36
import Derived.Laws.CopyRow
import Derived.Test.YtleocpdblhbimaaGreatDoorQ24
import Derived.Deep.CutBlock
set_option linter.unusedSimpArgs false
set_option maxHeartbeats 4000000
namespace Go.Proofs.YtleocpdblhbimaaGreatDoor
open Go.RowKit
set_option linter.unusedVariables false
set_option maxRecDepth 100000
theorem Y4:(Tryz.prog.info? 297).map (·.size)=some 286:=by kernel_rfl
theorem OM:(Tryz.prog.info? 298).map (·.size)=some 30:=by kernel_rfl
theorem QI (a:Option Addr)(F Z:Nat)(ts:List Tk)(w:World)(ak:ts.length=F)(ao:F<=3000)(aa:∀t∈ts,VT t)(I:TokIn w a ts):
 Calls Tryz.prog 211 #[.slice a F Z] w fun e w'=>e=.returned (.tuple #[.agg (iv (symC (itsOf ts))).toArray,.agg (iv (farC (itsOf ts))).toArray])/\Below w.heap.size w w':=by
 have al:∀b o,a=some ⟨b,o,none⟩->ts≠ []->b<w.heap.size:=by
  intro b o e ax
  rcases I with h|⟨a1,a2,ap,ar,_⟩
  . exact absurd h ax
  . rw[ap]at e;have:=VM e;cases this;exact ar
 have aw:=Ab I;have ag:=Ab aa;have ah:=Ab ak;clear I aa ak;go_enter Tryz.func211,Tryz.ntmps211
 go_wp2_with fail
 have hi:=Gb ts;refine(BU (KJ w.heap.size w.heap.size (w.heap.size+1)) (fun g=>g<w.heap.size) w.heap.size 238 239 240 #[.pointer (some ⟨w.heap.size,0,none⟩)] #[.pointer (some ⟨w.heap.size+1,0,none⟩)] #[] a F Z ts _ (QJ w.heap.size w.heap.size (w.heap.size+1) (itsOf ts) (Ka (Aa ag)) (by rw[Aa ah]at hi;omega)) (Aa ah) ao (Aa ag) ((Aa aw).alloc _|>.alloc _) al (by simp;omega) ?_ (fun g aq=>by simp at aq;omega)).mono ?_
 . refine⟨⟨by omega,by omega⟩,by omega,⟨by omega,by omega⟩, ?_, ?_⟩
   . exact(Below.heap_alloc _ _ _ (by simp)).trans ((heap_alloc_new _ _).trans (by kernel_rfl))
   . have e:w.heap.size+1=(w.alloc (.cells (iv (List.replicate 286 0)).toArray 297)).heap.size:=by simp
     rw[e];exact(heap_alloc_new _ _).trans (by kernel_rfl)
 rintro e ay ⟨rfl,G,ai,hK⟩;have ab:=G.s;have am:=G.f;have af:Below w.heap.size w ay:=((((Below.refl w.heap.size w).alloc (VB _) _).alloc (by simp) _)).trans ai;have as:=Ab af;have T:=Li (itsOf ts);have U:=Mo (itsOf ts);clear G ai hK al af hi;obtain⟨xs,O⟩:=exq (symC (itsOf ts));obtain⟨ys,H⟩:=exq (farC (itsOf ts));rw[O]at ab T;rw[H]at am U;have au:=Ab O;have a0:=Ab H;clear O H;have az:(Tryz.prog.info? 297).map (·.size)=some (iv xs).length:=by rw[Y4];simp[T]
 have av:(Tryz.prog.info? 298).map (·.size)=some (iv ys).length:=by rw[OM];simp[U]
 have ac:(Tryz.prog.info? 297).map (·.size)=some (iv xs).toArray.size:=by rw[Y4];simp[T]
 have ae:(Tryz.prog.info? 298).map (·.size)=some (iv ys).toArray.size:=by rw[OM];simp[U]
 have Y:=Tryz.underlying297;have an:=Tryz.underlying298;go_wp2;refine wp_region_held_drew (S:=fun w'=>ARow 297 w' w.heap.size xs/\ARow 298 w' (w.heap.size+1) ys) (by kernel_rfl) ⟨ab,am⟩ (fun E=> ?_);refine wpAnyH_take (i:=0) (oi:= {dst:=some 9,op:=.load 297 (.tmp 2),type:=297,pos:= "dynamic.go:71",after:= #[],guard:=none}) (v:=_) rfl (by kernel_rfl) (by kernel_rfl) (by kernel_rfl) (fun _ _ _ h=>h) (yieldsIf_load_mid (by rfl) _ _ rfl _ _ rfl _ _ (fun _ h=>h.1.range) Y rfl az) E ?_;simp only[Act.put,VA,VC,VD];refine wpAnyH_take (i:=1) (oi:= {dst:=some 10,op:=.load 298 (.tmp 3),type:=298,pos:= "dynamic.go:71",after:= #[],guard:=none}) (v:=_) rfl (by kernel_rfl) (by kernel_rfl) (by kernel_rfl) (fun _ _ _ h=>h) (yieldsIf_load_mid (by rfl) _ _ rfl _ _ rfl _ _ (fun _ h=>h.2.range) an rfl av) E ?_;simp only[Act.put,VA,VC,VD];refine rdH (i:=2) fun K hK=> ?_
 refine Ei rfl 297 (.tmp 2) (.tmp 9) rfl w.heap.size xs rfl rfl E.1 ac ?_;simp only[Act.put];refine hK.out _ _ E (fun M=> ?_);clear hK K E;refine rdH (i:=3) fun K hK=> ?_
 refine Ei rfl 298 (.tmp 3) (.tmp 10) rfl (w.heap.size+1) ys rfl rfl M.2 ae ?_;simp only[Act.put];refine hK.out _ _ M (fun aj=> ?_);clear hK K M;refine wpAnyH_done (by kernel_rfl) ?_ _;go_wp2;refine bodyPost_ret (v:=.tuple #[.agg (iv xs).toArray,.agg (iv ys).toArray]) ?_ rfl ⟨by rw[Aa au,Aa a0],(Aa as).drew⟩;exact Ln rfl _ _ w.heap.size (w.heap.size+1) _ _ rfl rfl (aj.1.load Y rfl ac) (aj.2.load an rfl ae)
theorem Ib (a:Option Addr)(F Z:Nat)(l:List Int)(m E:Nat)(w:World)(aq:l.length=F)(am:RowIn .i64 w a l)(T:GoodW l m)(ao:E<=F)(n:Nat)(ah:Hid (Gu (lensD l m) E F=n)):
 Calls Tryz.prog 212 #[.slice a F Z,.int .i64 (m:Int),.int .i64 (E:Int)] w fun e w'=>∃g,e=.returned (.slice (some ⟨g,0,none⟩) n F)/\IsLens l m (lensD l m)/\w.heap.size<=g/\g<w'.heap.size/\Row .i64 w' g 0 (trimL (lensD l m) E)/\Below w.heap.size w w':=by
 have ar:=T.len;go_enter Tryz.func212,Tryz.ntmps212
 go_wp2_with fail
 refine(FZ a F Z l m w aq am T).mono ?_;rintro e aj ⟨g,s,rfl,U,ab,O,ai,ac⟩;have I:=Z15 U;rw[I]at ah;have ag:Hid (IsLens l m (lensD l m)):=Ab (by rw[I];exact U);have au:=Ab I;have ax:=Ab O;have ae:=Ab ai;have a0:=Ab ab;have Y:∀j,j<F->aj.cell? ⟨g,j,none⟩=some (.int .i64 (s.getD j 0)):=fun j af=>(O.at_ j (by omega)).1
 have ap:=Ab Y;have ak:=O.lt
 have al:Hid (Row .i64 aj g 0 (trimL (lensD l m) E)):=fun j af=>by
  rw[WG,I,Oo];refine Y j ?_;rw[I,Cg]at af;have:=Ju s E s.length
  omega
 clear U I O ai ab am T Y;go_wp2;go_loop [9] (fun v=>∃k:Nat,k<=F/\E<=k/\v=.int .i64 (k:Int)/\Hid (Gu s E k=n)) (fun v=>(intOf v).toNat)
 case atStart=>exact⟨F,VB _,ao,rfl,ah⟩
 case round=>
  obtain⟨k,as,ay,rfl,H⟩:=hrel
  by_cases aa:E<k
  . obtain⟨q,rfl⟩:∃q,k=q+1:=⟨k-1,by omega⟩
    have c:=Aa ap q (by omega);have an:(E:Int)<((q+1:Nat):Int):=by omega
    have aw:(((q+1:Nat):Int)-1).toNat=q:=by omega
    have az:(0:Int)<=((q+1:Nat):Int)-1:=by omega
    have av:((q+1:Nat):Int)-1<(F:Int):=by omega
    by_cases G:s.getD q 0=0
    . rw[G]at c;have M:Hid (Gu s E q=n):=Ab (by have:=Aa H;rw[Gu,if_pos ⟨aa,G⟩]at this;exact this);clear G H;go_wp2;go_round
      case rel=>exact⟨q,by omega,by omega,by go_num,M⟩
      case measure=>simp[intOf]
    . have M:Hid (q+1=n):=Ab (by have:=Aa H;rw[Gu,if_neg (fun h=>G h.2)]at this;exact this);have hb:(s.getD q 0==0)=false:=by rw[beq_eq_false_iff_ne];exact G
      generalize s.getD q 0=x at c hb;clear G H;go_wp2;go_ret;exact⟨g,by rw[<-Aa M];rfl,Aa ag,ac,ak,Aa al,Aa ae⟩
  . have M:Hid (k=n):=Ab (by
     have:=Aa H
     cases k with
     |zero=>rw[Gu]at this;exact this
     |succ k=>rw[Gu,if_neg (fun h=>aa h.1)]at this;exact this)
    have an:¬(E:Int)<(k:Int):=by omega
    clear H;go_wp2;go_ret;exact⟨g,by rw[<-Aa M];rfl,Aa ag,ac,ak,Aa al,Aa ae⟩
theorem BT (No:Nat->Prop)(B O:Nat)(a:Option Addr)(T am:Nat)(ts:List Tk)(S:List Bool)(E ai ab ak G aj Z al:Nat)(M I:List Int)(ag ac af aa ae ah:Nat)(F W H:World)(h:RIs No B F O S)(bb:F.heap.size<=W.heap.size)(U:Below F.heap.size F H)
 (au:CIs (fun g=>W.heap.size<=g\/g=E\/g=G) H ag ac af O (some ⟨E,ai,none⟩) ab ak M) (ay:CIs (fun g=>W.heap.size<=g\/g=E\/g=G) H aa ae ah O (some ⟨G,aj,none⟩) Z al I)
 (az:No E\/F.heap.size<=E) (a3:No G\/F.heap.size<=G) (ap:M.length=ab) (as:I.length=Z) (ax:Good M) (aq:Good I) (a6:Has M I (itsOf ts))
 (aw:ts.length=T) (ao:T<=3000) (an:∀t∈ts,VT t) (av:TokIn F a ts) (a4:∀b o,a=some ⟨b,o,none⟩->ts≠ []->No b) (a0:∀g,F.heap.size<=g->¬No g) (ba:S.length+60*T<=280000):
 Calls Tryz.prog 181 #[.slice a T am,.agg #[CV ag ac af,CV aa ae ah,.func (.func 147) #[.pointer (some ⟨O,0,none⟩)] #[]]] H fun e w'=>e=.returned (.tuple #[])/\Rp No B F O (S++putIs M I (itsOf ts)) w':=by
 have a7:=U.size;have hi:=Gb ts;have a8:=h.lt;have a9:=h.base;have hK:=Z3y (fun g=>(W.heap.size<=g\/g=E\/g=G)/\g<H.heap.size) B O S M I ag ac af aa ae ah E ai ab ak G aj Z al (itsOf ts) ap as ax aq a6 (Ka an) (by omega)
 have ar:PJ (fun g=>(W.heap.size<=g\/g=E\/g=G)/\g<H.heap.size) B O S M I ag ac af aa ae ah E ai ab ak G aj Z al No [] H:=by
  refine⟨?_,au.bound,ay.bound,fun g Y=>Y.2⟩;have e:S++putIs M I []=S:=by simp[putIs]
  rw[e];refine h.grow U (fun g e=> ?_)
  rcases e with e|⟨e|e|e,_⟩
  . exact .inl e
  . exact .inr (by omega)
  . rw[e];exact az
  . rw[e];exact a3
 refine(BU _ No B _ _ _ _ _ _ a T am ts H hK aw ao an (av.below U (VB _)) a4 (by omega) ar (fun g Y=>a0 g (by omega))).mono ?_;rintro e w' ⟨rfl,a5,a1,a2⟩;refine⟨rfl,a5.row.grow (Below.refl _ _) (fun g e=>.inl (.inl e)),(U.mono (by omega)).trans a1,fun g Y hn=>(a2 g (by omega) hn).trans (U.block g Y)⟩
theorem PM {ts:List Tk}(F:∀t∈ts,VT t):Has Ky Ir (itsOf ts):=by
 have hi:=Ka F;refine⟨fun k E=> ?_,fun k E=> ?_⟩
 . have h:k<286:=hi _ E;refine⟨by rw[Mj];omega, ?_⟩;rw[PP (by omega)]
   split
   . decide
   . split
     . decide
     . split<;>decide
 . have h:k<30:=hi _ E;exact⟨by rw[Fk];omega,by rw[Z0 (by omega)];decide⟩
theorem C7 (No:Nat->Prop)(B I:Nat)(a:Option Addr)(H am:Nat)(ts:List Tk)(S:List Bool)(w:World)(h:RIs No B w I S)(a2:ts.length=H)(az:H<=3000)(af:∀t∈ts,VT t)(ap:TokIn w a ts)(ay:∀b o,a=some ⟨b,o,none⟩->ts≠ []->No b)(ar:∀g,w.heap.size<=g->¬No g)(a9:S.length+60*H<=280000):
 Calls Tryz.prog 150 #[.pointer (some ⟨I,0,none⟩),.slice a H am] w fun e w'=>e=.returned (.tuple #[])/\Rp No B w I (S++Ha ts) w':=by
 have aw:=Ab (fun(W w3:World) (gc gl gr hc hl hr b1 b2:Nat) hz O M U hb1 hb2=>BT No B I a H am ts S b1 0 288 288 b2 0 32 32 Ky Ir gc gl gr hc hl hr w W w3 h hz O M U hb1 hb2 Mj Fk Mk Mi (PM af) a2 az af ap ay ar a9);obtain⟨F,ae⟩:=exq (Ky);obtain⟨G,ab⟩:=exq (Ir);have T:=Mj;have aa:=Fk;have ak:=Mk;have ag:=Mi;have ao:=Ab (K7 w);have al:Ha ts=putIs F G (itsOf ts):=by unfold Ha;rw[ae,ab]
 rw[al];simp only[ae,ab]at aw ao T aa ak ag;have a3:=Ab ak;have bd:=Ab ag;clear h af ap ay ar ae ab al ak ag;have ba:(Tryz.prog.info? 247).map (·.size)=some (iv F).toArray.size:=by rw[Ya];simp[T]
 have a1:(Tryz.prog.info? 248).map (·.size)=some (iv G).toArray.size:=by rw[CP];simp[aa]
 go_enter Tryz.func150,Tryz.ntmps150
 go_wp2_with fail
 refine(Aa ao).mono ?_;rintro e E ⟨rfl,aj⟩;have a5:=aj.size;have a8:=Ab aj;clear aj;have an:((E.alloc (.cells (iv (List.replicate 288 0)).toArray 247)).alloc (.cells (iv (List.replicate 32 0)).toArray 248)).heap[E.heap.size]? =some (.cells (iv (List.replicate 288 0)).toArray 247 (0,0)):=(Below.heap_alloc _ _ _ (by simp)).trans (heap_alloc_new _ _)
 have as:(((E.alloc (.cells (iv (List.replicate 288 0)).toArray 247)).alloc (.cells (iv (List.replicate 32 0)).toArray 248)).setRow E.heap.size (iv F).toArray).heap[E.heap.size+1]? =some (.cells (iv (List.replicate 32 0)).toArray 248 (0,0)):=by
  rw[Go.setRow_other _ _ _ _ (by omega)];have e:E.heap.size+1=(E.alloc (.cells (iv (List.replicate 288 0)).toArray 247)).heap.size:=by simp
  rw[e];exact heap_alloc_new _ _
 have au:=Ab an;have aq:=Ab as;have Y:=Ab (fun x y=>Jt w E x y 247 248 F G (Aa a8) (by simp));clear an as;go_upto_region 1 with (first|refine wpList_store_row rfl 247 (.tmp 4) (.tmp 8) rfl E.heap.size _ rfl rfl 247 (iv (List.replicate 288 0)).toArray (Aa au) ba (by simp[T]) (Cy F) ?_|refine wpList_store_row rfl 248 (.tmp 5) (.tmp 9) rfl (E.heap.size+1) _ rfl rfl 248 (iv (List.replicate 32 0)).toArray (Aa aq) a1 (by simp[aa]) (Cy G) ?_)
 simp only[Act.put];generalize Z:World.setRow (World.setRow (World.alloc (World.alloc _ _) _) _ _) _ _=W2;have ac:ARow 247 W2 E.heap.size F:=by rw[<-Z];exact(Aa Y _ _).1
 have ah:ARow 248 W2 (E.heap.size+1) G:=by rw[<-Z];exact(Aa Y _ _).2.1
 have ai:Below w.heap.size w W2:=by rw[<-Z];exact(Aa Y _ _).2.2
 have ax:=ai.size;have a4:=Ab (fun k=>Vd E.heap.size 0 288 288 (E.heap.size+1) 0 32 32 I F G (W2.drewN k) T aa (by decide) (by decide) ac.lt ah.lt ac.row ah.row (Aa a3) (Aa bd));have a6:=Ab ai;clear Z Y au aq ac ah ai;go_region_with (first|(go_at_call 182;refine(Aa a4 _).mono ?_;rintro e w3 ⟨gc,gl,gr,hc,hl,hr,rfl,M,U,O⟩;have a7:=Ab M;have bc:=Ab U;have bb:=Ab O;clear M U O)|(go_at_call 181;refine(Aa aw W2 w3 gc gl gr hc hl hr E.heap.size (E.heap.size+1) ax ((Ae (Aa a6) _).trans ((Aa bb).mono ax)) (Aa a7) (Aa bc) (.inr a5) (.inr (by omega))).mono ?_;rintro e be ⟨rfl,av⟩;have a0:=Ab av;clear av))
 all_goals try go_wp2
 all_goals go_end0
 all_goals exact⟨rfl,Aa a0⟩
theorem LW (is:List (Nat×Nat×Nat))(i:Nat×Nat×Nat):Yz (is++ [i])=Tb (Yz is) i.1:=by
 unfold Yz Cq;simp[List.foldl_append]
theorem Z3w (is:List (Nat×Nat×Nat))(k:Nat):(Yz is).getD k 0<=is.length/\0<=(Yz is).getD k 0:=by
 by_cases E:k<19
 . unfold Yz;rw[Gs _ _ k (by simpa using E),Iv];have F:=YI (a:=k) (l:=is.map Prod.fst);rw[WL]at F;omega
 . have:(Yz is).getD k 0=0:=by
    simp only[List.getD];rw[WJ (by rw[Ov];omega)];rfl
   omega
theorem V0 (T:TypeId)(F k:Nat)(n s:Int)(xs:List Int)(W:World)(G:T=321)(E:ARow T W F xs)(M:xs.length=19)(O:k<19)(H:0<=xs.getD k 0/\xs.getD k 0<=1000000):
 Calls Tryz.prog 244 #[.int .i64 (k:Int),.int .i64 n,.int .i64 s,.pointer (some ⟨F,0,none⟩)] W fun e w'=>e=.returned (.tuple #[])/\w'=W.setCell ⟨F,k,none⟩ (.int .i64 (xs.getD k 0+1)):=by
 have c:=E.cell k (by omega);have f:=E.frozen k;have I:(k:Int)<19:=by omega
 clear E G;generalize xs.getD k 0=x at*;go_enter Tryz.func244,Tryz.ntmps244
 go_wp2;go_end0
 exact⟨rfl,rfl⟩
theorem Z1z (E:Nat)(G:List (Nat×Nat×Nat))(T:∀i∈G,i.1<19)(U:G.length<=100000):
 Snk3 (fun is W=>ARow 321 W E (Yz is)) (fun W W'=>Below E W W') 244 #[.pointer (some ⟨E,0,none⟩)] G:=by
 refine⟨Gg Tryz.func244 (by kernel_rfl) rfl, ?_,fun W=>Below.refl _ _,fun q h=>h,fun W q=>Ae (Below.refl _ _) q,fun h k=>h.trans k⟩;intro is R i W H F;have O:=congrArg List.length H;rw[VE,VJ]at O;have M:=T i (by rw[<-H];simp);have I:=Z3w is i.1;have Y:=F.lt;refine(V0 _ E i.1 i.2.1 i.2.2 (Yz is) W rfl F (Ov is) M ⟨I.2,by omega⟩).mono ?_;rintro e W' ⟨rfl,rfl⟩;refine⟨rfl, ?_, ?_⟩
 . rw[LW];exact F.set i.1 _
 . exact(Below.refl E W).grown (Ad W E i.1 _) (by omega) (fun j e=>by rw[<-VM e];exact VB _)
theorem U9 (No:Nat->Prop)(B af I Y T U F:Nat)(a:Option Addr)(ab:Nat)(E:List Int)(k n s:Nat)(S:List Bool)(W:World)(ae:CIs No W Y T U F a 19 ab E)(ap:E.length=19)(M:Good E)(am:k<19)(ai:0<E.getD k 0)(al:n<65536)(aj:s<=16)(h:RIs No B W F S)(aw:S.length<=290000)(O:∀g,W.heap.size<=g->¬No g)
 (av:W.cell? ⟨af,0,none⟩=some (CV Y T U)) (ao:W.cell? ⟨I,0,none⟩=some (.pointer (some ⟨F,0,none⟩))) (Z:I<W.heap.size/\No I):
 Calls Tryz.prog 245 #[.int .i64 (k:Int),.int .i64 (n:Int),.int .i64 (s:Int),.pointer (some ⟨af,0,none⟩),.pointer (some ⟨I,0,none⟩)] W fun e w'=>e=.returned (.tuple #[])/\Rp No B W F (S++Z40 E (k,n,s)) w':=by
 have ac:=Pp E M k;have aq:=(M.ok k (by omega)).2;have ah:=Ab (Yo No No B Y T U F a 19 ab E k S W ae ap M am ai h (by omega) O);have an:=Ab (fun H (G:Rp No B W F (S++codeT E k) H)=>Dp No B F n s (S++codeT E k) H G.is al aj (by rw[VE,ac];omega) (fun g au=>O g (by have:=G.below.size;omega)));have ar:=Ab (fun H (G:Rp No B W F (S++codeT E k) H)=>G.kp.cell Z.1 Z.2 ao);clear ae h O ac aq M Z;go_enter Tryz.func245,Tryz.ntmps245
 go_wp2_with fail
 refine(Aa ah).mono ?_;rintro e H ⟨rfl,G⟩;have c1:=Aa ar H G;have aa:=Ab G;clear G;go_wp2_with fail
 refine(Aa an H (Aa aa)).mono ?_;rintro e as ⟨rfl,ag⟩;have ak:=Ab ag;clear ag;go_wp2;go_end0
 refine⟨rfl, ?_⟩;unfold Z40;rw[<-VS];exact(Aa aa).trans (Aa ak)
theorem Qr (x:Nat):∀f m,∀i∈He x f m,i.2.1<128/\i.2.2<=7
 |0,m,i,h=>by cases h
 |f+1,m,i,h=>by
  rw[He]at h;have ih:=Qr x f
  split at h
  . cases h
  . split at h
    . rcases WH.1 h with rfl|h
      . exact⟨Nat.zero_lt_succ _,VH _⟩
      . exact ih _ i h
    . split at h
      . rcases WH.1 h with rfl|h
        . constructor<;>simp only<;>omega
        . exact ih _ i h
      . split at h
        . rcases WH.1 h with rfl|h
          . constructor<;>simp only<;>omega
          . exact ih _ i h
        . rcases WH.1 h with rfl|h
          . constructor<;>simp only<;>omega
          . exact ih _ i h
theorem F6:∀(f:Nat) (l:List Int),∀i∈Xv f l,i.2.1<128/\i.2.2<=7
 |0,l,i,hi=>by cases hi
 |f+1,[],i,hi=>by cases hi
 |f+1,x::r,i,hi=>by
  have e:Xv (f+1) (x::r)=Qt x.toNat (Cp x r+1)++Xv f (r.drop (Cp x r)):=rfl;rw[e]at hi
  rcases WP.1 hi with hi|hi
  . unfold Qt at hi
    split at hi
    . rcases WH.1 hi with rfl|h
      . exact⟨Nat.zero_lt_succ _,VH _⟩
      . exact Qr _ _ _ i h
    . exact Qr _ _ _ i hi
  . exact F6 f _ i hi
structure LJ (No:Nat->Prop)(B gp gb gc gl gr rb:Nat)(a:Option Addr)(cap:Nat)(own:List Int)(S:List Bool)(is:List (Nat×Nat×Nat))(W:World):Prop where
 row:RIs No B W rb (S++putRs own is)
 c:CIs No W gc gl gr rb a 19 cap own
 p:W.cell? ⟨gp,0,none⟩=some (CV gc gl gr)
 b:W.cell? ⟨gb,0,none⟩=some (.pointer (some ⟨rb,0,none⟩))
 lp:gp<W.heap.size/\No gp
 lb:gb<W.heap.size/\No gb
 no:∀g,W.heap.size<=g->¬No g
theorem Z09 (No:Nat->Prop)(B T M af ac ae ab:Nat)(a:Option Addr)(Z:Nat)(F:List Int)(S:List Bool)(G:List Int)(I:Own G F)(aj:G.length<=1000)(ak:S.length<=280000):
 Snk3 (LJ No B T M af ac ae ab a Z F S) (fun W W'=>Below B W W'/\Kp No W W') 245 #[.pointer (some ⟨T,0,none⟩),.pointer (some ⟨M,0,none⟩)] (lenIs G):=by
 refine⟨Gg Tryz.func245 (by kernel_rfl) rfl, ?_,fun W=>⟨Below.refl _ _,Kp.refl _ _⟩,fun q h=>⟨h.row.drewN q,h.c.keep (VB _) (fun _ _ _=>rfl),h.p,h.b,h.lp,h.lb,h.no⟩,fun W q=>⟨Ae (Below.refl _ _) q,fun _ _ _=>rfl⟩,fun h k=>⟨h.1.trans k.1,h.2.trans k.2 h.1.size⟩⟩;intro is R i W O E;have Y:=I.has i (by rw[<-O];simp);have hr:=F6 G.length G i (by show i∈lenIs G;rw[<-O];simp);have ai:=(Lz F I.go (fun k=>(I.vo k).2) G.length G).1
 have al:(putRs F is).length<=7*G.length:=by
  have e:putRs F (lenIs G)=putRs F is++putRs F (i::R):=by rw[<-O,Qx]
  have ag:(putRs F (lenIs G)).length<=7*G.length:=ai;rw[e,VE]at ag;omega
 obtain⟨k,n,s⟩:=i;have ah:=I.lo;refine(U9 No B T M af ac ae ab a Z F k n s (S++putRs F is) W E.c I.lo I.go (by rw[<-ah];exact Y.1) Y.2 (by have:=hr.1;simp only at this;omega) (by have:=hr.2;simp only at this;omega) E.row (by rw[VE];omega) E.no E.p E.b E.lb).mono ?_;rintro e W' ⟨rfl,H⟩;have U:=H.below.size;have e:putRs F (is++ [(k,n,s)])=putRs F is++Z40 F (k,n,s):=by rw[Qx];simp[putRs]
 refine⟨rfl,⟨?_,E.c.keep U (fun g aa hn=>H.kp g aa hn),H.kp.cell E.lp.1 E.lp.2 E.p,H.kp.cell E.lb.1 E.lb.2 E.b,⟨VG E.lp.1 U,E.lp.2⟩,⟨VG E.lb.1 U,E.lb.2⟩,fun g aa=>E.no g (by omega)⟩,H.below,H.kp⟩;rw[e,<-VS];exact H.is
theorem X0 {j:Nat}(E:j<19):SE.getD j 0=((ord19.getD j 0:Nat):Int)/\ord19.getD j 0<19:=by
 have:(List.range 19).all (fun j=>SE.getD j 0==((ord19.getD j 0:Nat):Int)&&decide (ord19.getD j 0<19))=true:=by decide
 have:=WX.1 this j (by simpa using E)
 simpa using this
theorem Um (l:List Int)(n:Nat):Gu l n n=n:=by
 cases n with
 |zero=>rfl
 |succ n=>rw[Gu,if_neg (fun h=>by omega)]
theorem Yt (H G:Nat)(E F:List Int):Jp [(H,E),(G,F)] 2=E++F:=by simp[Jp]
theorem FG {w:World}{B n c E:Nat}{xs:List Int}(G:w.ownsRow B 3 1 (.slice (some ⟨E,0,none⟩) n c) n (iv xs))(H:xs.length=n):Row .i64 w E 0 xs:=by
 intro j F;rw[WG];have:=G.cellAt j (by omega)
 rw[this];simp[iv,List.getD,F]
theorem Z46 {w:World}{B e n c I:Nat}{xs:List Value}(H:w.ownsRow B e 1 (.slice (some ⟨I,0,none⟩) n c) n xs):n<=c:=by
 rcases H.2 with ⟨E,G⟩|⟨M,cap,cur,E,G,F⟩
 . cases E
 . cases E
   exact F.2.1
theorem Ti (No:Nat->Prop)(B E a1 I ej a6 U d1:Nat)(T O:List Int)(S:List Bool)(w:World)(h:RIs No B w E S)(ct:T.length=I)(c3:O.length=U)(g4:257<=I)(gx:I<=286)(hq:1<=U)(g5:U<=30)(ff:a1<w.heap.size)(di:a6<w.heap.size)(dz:Row .i64 w a1 0 T)(db:Row .i64 w a6 0 O)(a9:∀x∈T++O,0<=x/\x<=15)(g0:S.length<=277000)(dw:∀g,w.heap.size<=g->¬No g):
 Calls Tryz.prog 213 #[.pointer (some ⟨E,0,none⟩),.slice (some ⟨a1,0,none⟩) I ej,.slice (some ⟨a6,0,none⟩) U d1] w fun e w'=>e=.returned (.tuple #[])/\Own (T++O) (MX (T++O))/\Rp No B w E (S++Rw T O (MX (T++O))) w':=by
 have bz:=Ab h;have a0:=Ab ct;have bg:=Ab c3;have gi:=Ab dz;have f3:=Ab db;have a8:=Ab a9;have fd:=Ab dw;clear h ct c3 dz db a9 dw;obtain⟨all,a3⟩:=exq (T++O);rw[a3]at a8;have c5:all.length=I+U:=by rw[<-a3,VE,Aa a0,Aa bg]
 have ed:=Ab a3;have ag:=Ab c5;clear c5;rw[a3];clear a3;obtain⟨own,cn⟩:=exq (MX all);rw[cn];have fg:=Ab cn;clear cn;obtain⟨N,em⟩:=exq (I+U);have hk:258<=N/\N<=316:=by omega
 have ab:=Ab em;clear em;obtain⟨ax,bf⟩:=exq (SE);have gn:=Ab bf;have fu:=Ab (fun W=>by have:=D5 W;rw[bf]at this;exact this);have d9:ax.length=19:=by rw[<-bf];rfl
 have fe:(Tryz.prog.info? 321).map (·.size)=some (iv ax).toArray.size:=by rw[ON];simp[d9]
 clear bf;go_enter Tryz.func213,Tryz.ntmps213
 go_wp2_with fail
 refine(Vx (w.heap.size+1) 0 2 2 (fun j=>if j=0 then ej else d1) [(a1,T),(a6,O)] _ (by simp) ?_ ?_ ?_ ?_ (by decide)).mono ?_
 . intro j ak
   rcases(by omega:j=0\/j=1)with rfl|rfl
   . simp[Aa a0]
   . simp[Aa bg]
 . intro j ak
   rcases(by omega:j=0\/j=1)with rfl|rfl
   . exact .inr ⟨a1,0,rfl,by simp;omega,(((Aa gi).alloc ff _).alloc (by simp;omega) _)⟩
   . exact .inr ⟨a6,0,rfl,by simp;omega,(((Aa f3).alloc di _).alloc (by simp;omega) _)⟩
 . intro k f7;have ap:=Aa a0;have e2:=Aa bg
   rcases(by omega:k=0\/k=1\/k=2)with rfl|rfl|rfl
   . simp[Jp]
   . simp[Jp];omega
   . rw[Yt,VE];omega
 . have ap:=Aa a0;rw[Yt,VE];omega
 rw[Yt,Aa ed,Aa ag,Aa ab];rintro e bd ⟨v,rfl,bj,be⟩;obtain⟨g6,dj,rfl,fy,fj⟩:=Ba bj (by omega);have en:=FG bj (by rw[Aa ag,Aa ab]);have eg:=Z46 bj;have fr:=be.size;simp only[World.size_alloc]at fr fy;have ep:Below w.heap.size w bd:=(((Below.refl w.heap.size w).alloc (VB _) _).alloc (by simp) _).trans (be.mono (by simp;omega));have dq:bd.cell? ⟨w.heap.size,0,none⟩=some (.pointer (some ⟨E,0,none⟩)):=(be.cell (p:=⟨w.heap.size,0,none⟩) (by simp;omega)).trans (by simp);have da:=Ab en;have dc:=Ab ep;clear bj be en ep;go_wp2_with fail
 refine(Aa fu _).mono ?_;rintro e ac ⟨rfl,bv⟩;have ho:=bv.size;have cj:=Ab bv;have eh:(ac.alloc (.cells (iv (List.replicate 19 0)).toArray 321)).heap[ac.heap.size]? =some (.cells (iv (List.replicate 19 0)).toArray 321 (0,0)):=heap_alloc_new _ _;have cp:=Ab eh;clear bv eh;go_upto_region 3 with (refine wpList_store_row rfl 321 (.tmp 7) (.tmp 17) rfl ac.heap.size _ rfl rfl 321 (iv (List.replicate 19 0)).toArray (Aa cp) fe (by simp[d9]) (Cy ax) ?_)
 simp only[Act.put];generalize bc:World.setRow (World.alloc _ _) _ _=Z;have c8:ARow 321 Z ac.heap.size ax:=by rw[<-bc];exact setRow_heap _ _ _ _ _ _ (Aa cp)
 have cq:Below w.heap.size w Z:=by rw[<-bc];exact Bg (((Aa dc).trans ((Aa cj).mono (by omega))).alloc (by omega) _) (by omega) _
 have cg:Below bd.heap.size bd Z:=by rw[<-bc];exact Bg ((Aa cj).alloc (by omega) _) (by omega) _
 have hf:ac.heap.size<Z.heap.size:=by rw[<-bc];simp
 clear bc;have d6:Z.cell? ⟨w.heap.size,0,none⟩=some (.pointer (some ⟨E,0,none⟩)):=(cg.cell (p:=⟨w.heap.size,0,none⟩) (by show w.heap.size<_;omega)).trans dq;have ch:Hid (Row .i64 Z g6 0 all):=Ab ((Aa da).below cg fj);have cw:=Ab c8;have dv:=Ab cq;clear c8 cq cg dq cp cj dc da;go_wp2_with fail
 refine(Ja _ _ _ _ g6 0 N dj all _ (Z1z Z.heap.size (lenIs all) (Xu _ all (Aa a8)) ?_) (by rw[Aa ag,Aa ab]) (by omega) eg (Aa a8) ?_ ?_).mono ?_
 . have:=F5 all
   rw[Aa ag,Aa ab]at this;omega
 . intro W ai;exact((Aa ch).alloc (by omega) _).below ai (by omega)
 . exact(heap_alloc_new _ _).trans (by kernel_rfl)
 rintro e ay ⟨rfl,cy,av⟩;have f9:=av.size;simp only[World.size_alloc]at f9;have bo:Hid (Row .i64 ay g6 0 all):=Ab (((Aa ch).alloc (by omega) _).below av (by omega));have dg:Hid (ARow 321 ay ac.heap.size ax):=Ab ((Aa cw).keep ((av.block _ (by omega)).trans (Below.heap_alloc Z _ _ (by omega))));have c6:Hid (Below w.heap.size w ay):=Ab (((Aa dv).alloc (by omega) _).trans (av.mono (by omega)));have eo:ay.cell? ⟨w.heap.size,0,none⟩=some (.pointer (some ⟨E,0,none⟩)):=(av.cell (p:=⟨w.heap.size,0,none⟩) (by show w.heap.size<_;omega)).trans ((World.cell?_alloc_past _ _ _ (by show w.heap.size<_;omega)).trans d6);have cl:=Ab cy;clear cy av d6 cw dv ch;have dx:GoodW (Yz (lenIs all)) 7:=C0 (by rw[Aa ag,Aa ab];omega);have d2:=Ab (Ib (some ⟨Z.heap.size,0,none⟩) 19 19 (Yz (lenIs all)) 7 19 ay (Ov _) (.inr ⟨_,0,rfl,(Aa cl).lt,(Aa cl).row⟩) dx (VB _) 19 (Ab (Um _ _)));clear dx;go_wp2_with fail
 refine(Aa d2).mono ?_;rintro e G ⟨az,rfl,e1,g7,hx,bq,as⟩;have a2:=Z6g (by rw[Aa ag,Aa ab];omega) (Aa a8) e1;have e0:lensD (Yz (lenIs all)) 7=own:=Aa fg;rw[e0]at a2 bq;clear e1 e0 d2
 have ap:trimL own 19=own:=by
  unfold trimL;rw[a2.lo,Um];exact VV (by rw[a2.lo];exact VB _)
 rw[ap]at bq;clear ap;have ha:=as.size;have gt:Hid (ARow 321 G ac.heap.size ax):=Ab ((Aa dg).keep (as.block _ (by omega)));have ft:Hid (Row .i64 G g6 0 all):=Ab ((Aa bo).below as (by omega));have cm:Hid (Below w.heap.size w G):=Ab ((Aa c6).trans (as.mono (by omega)));have fo:G.cell? ⟨w.heap.size,0,none⟩=some (.pointer (some ⟨E,0,none⟩)):=(as.cell (p:=⟨w.heap.size,0,none⟩) (by show w.heap.size<_;omega)).trans eo;have aj:=Ab a2;have gq:=Ab bq;clear a2 bq as eo cl dg bo c6;obtain⟨F,bb⟩:∃F:Nat->Prop,F=fun g=>No g\/ (w.heap.size<=g/\g<G.heap.size):=⟨_,rfl⟩
 have cz:∀g,G.heap.size<=g->¬F g:=by
  intro g H e;rw[bb]at e
  rcases e with e|e
  . exact Aa fd g (by omega) e
  . omega
 have el:RIs F B G E S:=(Aa bz).grow (Aa cm) (fun g e=>by
  rw[bb]at e
  rcases e with e|e
  . exact .inl e
  . exact .inr e.1)
 have d7:∀g,w.heap.size<=g->g<G.heap.size->F g:=fun g aa ce=>by rw[bb];exact .inr ⟨aa,ce⟩
 have de:∀g,No g->F g:=fun g aa=>by rw[bb];exact .inl aa
 have ba:=Ab cz;have am:=Ab d7;have c4:=Ab de;have e8:=Ab el;clear cz d7 de el bb
 have b3:∀W,Kp F G W->(W.cell? ⟨w.heap.size,0,none⟩=some (.pointer (some ⟨E,0,none⟩)))/\(∀q,q<19->W.cell? ⟨ac.heap.size,q,none⟩=some (.int .i64 ((ord19.getD q 0:Nat):Int)))/\(∀q,q<19->W.cell? ⟨az,q,none⟩=some (.int .i64 (own.getD q 0))):=by
  intro W ai;refine⟨ai.cell (by omega) (Aa am _ (VB _) (by omega)) fo,fun q b0=> ?_,fun q b0=> ?_⟩
  . have:=(Aa gt).cell q (by omega)
    rw[<-Aa gn,(X0 b0).1]at this;exact ai.cell (by omega) (Aa am _ (by omega) (by omega)) this
  . have:=Aa gq q (by rw[(Aa aj).lo];exact b0)
    rw[WG]at this;exact ai.cell (by omega) (Aa am _ (by omega) (by omega)) this
 have bu:=Ab b3;obtain⟨e9,d8,dd⟩:=b3 G (Kp.refl _ _);have fq:=Ab d8;have gw:=Ab dd;clear b3 d8 dd e9;obtain⟨M,ck⟩:=exq (W6 own 19);have hs:4<=M/\M<=19:=by rw[<-ck];exact⟨MW own 19 (by decide),W5 own 19⟩
 have ei:=Ab ck;clear ck;go_upto_block 0 with (fail)
 go_cut [10] (fun v wc=>v=.int .i64 (M:Int)/\G=wc)
 case first=>
  go_wp2;go_loop [10] (fun v=>∃k:Nat,4<=k/\k<=19/\v=.int .i64 (k:Int)/\Hid (W6 own k=M)) (fun v=>(intOf v).toNat)
  case atStart=>exact⟨19,by decide,by decide,rfl,ei⟩
  case round=>
   obtain⟨k,hw,gu,rfl,aq⟩:=hrel
   by_cases ey:4<k
   . obtain⟨q,rfl⟩:∃q,k=q+1:=⟨k-1,by omega⟩
     have bn:=Aa fq q (by omega);have bk:=(X0 (j:=q) (by omega)).2;have ah:=Aa gw _ bk;have gv:(4:Int)<((q+1:Nat):Int):=by omega
     have hv:(((q+1:Nat):Int)-1).toNat=q:=by omega
     have ht:(0:Int)<=((q+1:Nat):Int)-1:=by omega
     have hp:((q+1:Nat):Int)-1<(19:Int):=by omega
     have fi:((ord19.getD q 0:Nat):Int)<19:=by omega
     by_cases ao:own.getD (ord19.getD q 0) 0=0
     . rw[ao]at ah;have a4:Hid (W6 own q=M):=Ab (by have:=Aa aq;rw[W6,if_pos ⟨ey,ao⟩]at this;exact this);clear ao aq;generalize ord19.getD q 0=b9 at*;go_wp2;go_round
       case rel=>exact⟨q,by omega,by omega,by go_num,a4⟩
       case measure=>simp[intOf]
     . have a4:Hid (q+1=M):=Ab (by have:=Aa aq;rw[W6,if_neg (fun h=>ao h.2)]at this;exact this);have hb:(own.getD (ord19.getD q 0) 0==0)=false:=by rw[beq_eq_false_iff_ne];exact ao
       generalize own.getD (ord19.getD q 0) 0=x at ah hb;generalize ord19.getD q 0=b9 at*;clear ao aq;go_wp2;go_meet
       exact⟨by rw[<-Aa a4];go_num,rfl⟩
   . have a4:Hid (k=M):=Ab (by
      have:=Aa aq
      cases k with
      |zero=>rw[W6]at this;exact this
      |succ k=>rw[W6,if_neg (fun h=>ey h.1)]at this;exact this)
     have gv:¬(4:Int)<(k:Int):=by omega
     clear aq;go_wp2;go_meet
     exact⟨by rw[<-Aa a4],rfl⟩
 case rest=>
  obtain⟨rfl,rfl⟩:=hcut;have he:=(Aa bz).base;have gz:=(Aa bz).lt;have b7:=Dp F B E (I-257) 5 S G (Aa e8) (by omega) (by decide) (by omega) (Aa ba);rw[show ((I-257:Nat):Int)=(I:Int)-257 by omega]at b7;have dl:=Ab b7;clear b7;go_wp2_with fail
  refine(Aa dl).mono ?_;rintro e dh ⟨rfl,a7⟩;have fh:=(Aa bu dh a7.kp).1;have b4:=Dp F B E (U-1) 5 (S++Al (I-257) 5) dh a7.is (by omega) (by decide) (by rw[VE,Ah];omega) (fun g H=>Aa ba g (by have:=a7.below.size;omega));rw[show ((U-1:Nat):Int)=(U:Int)-1 by omega]at b4;have eu:=Ab b4;have ew:=Ab a7;clear b4 a7 dl;go_wp2_with fail
  refine(Aa eu).mono ?_;rintro e eb ⟨rfl,dp⟩;have a5:=(Aa ew).trans dp;have fp:=(Aa bu eb a5.kp).1;have b8:=Dp F B E (M-4) 4 (S++Al (I-257) 5++Al (U-1) 5) eb a5.is (by omega) (by decide) (by rw[VE,VE,Ah,Ah];omega) (fun g H=>Aa ba g (by have:=a5.below.size;omega));rw[show ((M-4:Nat):Int)=(M:Int)-4 by omega]at b8;have c9:=Ab b8;have d5:=Ab a5;clear b8 dp a5 eu fh;go_wp2_with fail
  refine(Aa c9).mono ?_;rintro e w3 ⟨rfl,d3⟩;have co:=(Aa d5).trans d3;obtain⟨ar,bh⟩:=exq (S++Al (I-257) 5++Al (U-1) 5++Al (M-4) 4);rw[bh]at co;have hh:ar.length=S.length+14:=by rw[<-bh];simp[Ah]
  have fw:=Ab bh;have e6:=Ab co;clear d3 co c9 fp bh d5 ew;go_wp2;go_loopw [52] (fun v wr=>∃k:Nat,k<=M/\v=.int .i64 (k:Int)/\Hid (Rp F B G E (ar++(ord19.take k).flatMap (fun j=>Al (own.getD j 0).toNat 3)) wr)) (fun v _=>M-(intOf v).toNat)
  case atStart=>exact⟨0,VH _,rfl,Ab (by simpa using Aa e6)⟩
  case round=>
   obtain⟨k,f7,rfl,cd⟩:=hrel;have Y:=Aa cd;obtain⟨d0,bn,ah⟩:=Aa bu wr Y.kp
   by_cases g9:k<M
   . have ap:=bn k (by omega);have bk:=(X0 (j:=k) (by omega)).2;have e2:=ah _ bk;have bi:=(Aa aj).vo (ord19.getD k 0)
     have an:ar++(ord19.take (k+1)).flatMap (fun j=>Al (own.getD j 0).toNat 3)=ar++(ord19.take k).flatMap (fun j=>Al (own.getD j 0).toNat 3)++Al (own.getD (ord19.getD k 0) 0).toNat 3:=by
      have:ord19.take (k+1)=ord19.take k++ [ord19.getD k 0]:=by
       rw[XM];have f4:k<ord19.length:=by show k<19;omega
       simp[List.getD,f4]
      rw[this];simp
     have dn:=Pb own (ord19.take k);have fk:(ord19.take k).length<=19:=by rw[VL];exact Nat.min_le_right _ _
     obtain⟨dr,b5⟩:=exq (ar++(ord19.take k).flatMap (fun j=>Al (own.getD j 0).toNat 3));have g8:dr.length<=S.length+71:=by rw[<-b5,VE,dn];omega
     rw[b5]at an Y;obtain⟨b9,df⟩:=exq (ord19.getD k 0);rw[df]at ap bk e2 bi an;obtain⟨x,a9⟩:=WF bi.1;rw[a9]at e2 bi an;rw[WM]at an;have gj:=Ab (fun j=>Dp F B E x 3 dr (wr.drewN j) (Y.is.drewN j) (by omega) (by decide) (by omega) (fun g H=>Aa ba g (by have:=Y.below.size;have ce:wr.heap.size<=g:=H;omega)));have bo:=Ab (fun j=>Y.is.drew j);have gg:=Ab an;have al:=Ab Y;have fi:(b9:Int)<19:=by omega
     have hj:(k:Int)<(M:Int):=by omega
     have gu:(k:Int)<19:=by omega
     clear cd Y bn ah an dn fk b5 df a9 bi;go_wp2;go_region_with (go_at_call 147;refine(Aa gj _).mono ?_;rintro e hg ⟨rfl,d4⟩;have f6:=Ab ((Aa al).trans ((Aa bo _).trans d4));clear d4)
     all_goals try go_wp2
     all_goals go_roundw
     all_goals first|exact⟨k+1,by omega,by go_num,Ab (by rw[Aa gg];exact Aa f6)⟩|(simp[intOf];omega)
   . obtain rfl:k=M:=by omega
     have gd:=Y.below.size;have dt:=Sp az 0 E 19 19 own wr (Aa aj).lo (by decide) (by omega) (fun j ak=>by rw[WG];exact ah j (by rw[<-(Aa aj).lo];exact ak)) (Aa aj).go;have ek:=Ab dt;have al:=Ab Y;clear cd Y bn ah dt;go_wp2_with fail
     refine(Aa ek).mono ?_;rintro e ae ⟨gc,gl,gr,rfl,ds,bm⟩;have hu:=bm.size;have f8:ae.cell? ⟨w.heap.size,0,none⟩=some (.pointer (some ⟨E,0,none⟩)):=(bm.cell (p:=⟨w.heap.size,0,none⟩) (by show w.heap.size<_;omega)).trans d0;have e7:=Ab ds;have ee:=Ab bm;clear ds bm d0 ek;obtain⟨au,af⟩:∃au:Nat->Prop,au=fun g=>F g\/ (wr.heap.size<=g/\g<ae.heap.size+1):=⟨_,rfl⟩
     have hd:G.heap.size<=wr.heap.size:=gd;obtain⟨aw,bt⟩:=exq (ar++(ord19.take k).flatMap (fun j=>Al (own.getD j 0).toNat 3))
     have gy:aw.length<=278000:=by
      have aa:=Pb own (ord19.take k);have ce:(ord19.take k).length<=19:=by rw[VL];exact Nat.min_le_right _ _
      rw[<-bt,VE,aa];omega
     have du:S++Rw T O own=aw++putRs own (lenIs all):=by
      unfold Rw;rw[Aa a0,Aa bg,Aa ed,Aa ei,<-bt,<-Aa fw];simp[VS]
     rw[bt]at al;have fm:=Ab du;have f5:Hid (Row .i64 ae g6 0 all):=Ab (fun j ak=>(Aa ee).cell (p:=⟨g6,_,none⟩) (by show g6<_;omega)|>.trans ((Aa al).kp.cell (by omega) (Aa am g6 (by omega) (by omega)) (Aa ft j ak)));have bw:∀X:Obj,Below wr.heap.size wr (ae.alloc X):=fun X=>(Aa ee).alloc (by omega) X
     have cu:LJ au B ae.heap.size w.heap.size gc gl gr E (some ⟨az,0,none⟩) 19 own aw [] (ae.alloc (.cells #[CV gc gl gr] 138)):=by
      refine⟨?_, ?_,by simp,(World.cell?_alloc_past _ _ _ (by show w.heap.size<_;omega)).trans f8,⟨by simp, ?_⟩,⟨by simp;omega, ?_⟩, ?_⟩
      . have e:aw++putRs own []=aw:=by simp[putRs]
        rw[e];refine(Aa al).is.grow (bw _) (fun g e=> ?_);rw[af]at e
        rcases e with e|e
        . exact .inl e
        . exact .inr e.1
      . refine((Aa e7).bound.keep (by simp) (fun g H _=>Below.heap_alloc ae _ g H)).more (fun g hb=> ?_);rw[af]
        rcases hb with ⟨hb|hb,di⟩
        . exact .inr ⟨hb,by omega⟩
        . rw[hb];exact .inl (Aa am az (by omega) (by omega))
      . rw[af];exact .inr ⟨by omega,by omega⟩
      . rw[af];exact .inl (Aa am _ (VB _) (by omega))
      . intro g H e;simp only[World.size_alloc]at H;rw[af]at e
        rcases e with e|e
        . exact Aa ba g (by omega) e
        . omega
     have eq:au g6:=by rw[af];exact .inl (Aa am g6 (by omega) (by omega))
     have cv:∀g,F g->au g:=fun g H=>by rw[af];exact .inl H
     have fx:=Ab cu;have e4:=Ab eq;have dm:=Ab cv;have c7:=Ab bw;clear af cu eq cv bw bt du;go_wp2_with fail
     refine(Ja _ _ _ _ g6 0 N dj all _ (Z09 au B ae.heap.size w.heap.size gc gl gr E (some ⟨az,0,none⟩) 19 own aw all (Aa aj) (by rw[Aa ag,Aa ab];omega) (by omega)) (by rw[Aa ag,Aa ab]) (by omega) eg (Aa a8) ?_ (Aa fx)).mono ?_
     . intro W ai j ak;exact ai.2.cell (by simp;omega) (Aa e4) ((World.cell?_alloc_past _ _ _ (by show g6<_;omega)).trans (Aa f5 j ak))
     rintro e fn ⟨rfl,et,ci,dy⟩
     have gh:Hid (Rp No B w E (S++Rw T O own) fn):=by
      have e5:=ci.size;simp only[World.size_alloc]at e5;refine⟨?_, ?_, ?_⟩
      . rw[Aa fm];exact et.row.grow (Below.refl _ _) (fun g e=>.inl (Aa dm g (Aa c4 g e)))
      . exact((Aa cm).mono (by omega)).trans ((Aa al).below.trans (((Aa c7 _).mono (by omega)).trans ci))
      . intro g H hn;have aa:=Aa c4 g hn;rw[dy g (by simp;omega) (Aa dm g aa),(Aa c7 _).block g (by omega),(Aa al).kp g (by omega) aa];exact(Aa cm).block g H
     clear et ci dy;go_wp2;go_end0
     exact⟨rfl,Aa aj,Aa gh⟩
end Go.Proofs.YtleocpdblhbimaaGreatDoor
