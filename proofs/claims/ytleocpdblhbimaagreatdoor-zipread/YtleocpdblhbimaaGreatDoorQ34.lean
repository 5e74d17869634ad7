import Derived.Test.YtleocpdblhbimaaGreatDoorQ33
import Derived.Deep.CutBlock
set_option linter.unusedSimpArgs false
set_option linter.unusedVariables false
set_option maxRecDepth 100000
set_option maxHeartbeats 2000000
namespace Go.Proofs.YtleocpdblhbimaaGreatDoor
open Go.RowKit
theorem LW (is:List (Nat×Nat×Nat))(i:Nat×Nat×Nat):Yz (is++ [i])=Tb (Yz is) i.1:=by
 unfold Yz Cq;simp[List.foldl_append]
theorem Z3w (is:List (Nat×Nat×Nat))(k:Nat):(Yz is).getD k 0<=is.length/\0<=(Yz is).getD k 0:=by
 by_cases F:k<19
 . unfold Yz;rw[Gs _ _ k (by simpa using F),Iv];have E:=YI (a:=k) (l:=is.map Prod.fst);rw[WL]at E;omega
 . have:(Yz is).getD k 0=0:=by
    simp only[List.getD];rw[WJ (by rw[Ov];omega)];rfl
   omega
theorem V0 (T:TypeId)(F k:Nat)(n s:Int)(xs:List Int)(W:World)(G:T=321)(E:ARow T W F xs)(M:xs.length=19)(H:k<19)(O:0<=xs.getD k 0/\xs.getD k 0<=1000000):
 Calls Tryz.prog 244 #[.int .i64 (k:Int),.int .i64 n,.int .i64 s,.pointer (some ⟨F,0,none⟩)] W fun e w'=>e=.returned (.tuple #[])/\w'=W.setCell ⟨F,k,none⟩ (.int .i64 (xs.getD k 0+1)):=by
 have c:=E.cell k (by omega);have f:=E.frozen k;have I:(k:Int)<19:=by omega
 clear E G;generalize xs.getD k 0=x at*;go_enter Tryz.func244,Tryz.ntmps244
 go_wp2;go_end0
 exact⟨rfl,rfl⟩
theorem Z1z (E:Nat)(F:List (Nat×Nat×Nat))(O:∀i∈F,i.1<19)(U:F.length<=100000):
 Snk3 (fun is W=>ARow 321 W E (Yz is)) (fun W W'=>Below E W W') 244 #[.pointer (some ⟨E,0,none⟩)] F:=by
 refine⟨Gg Tryz.func244 (by kernel_rfl) rfl, ?_,fun W=>Below.refl _ _,fun q h=>h,fun W q=>Ae (Below.refl _ _) q,fun h k=>h.trans k⟩;intro is R i W H G;have M:=congrArg List.length H;rw[VE,VJ]at M;have I:=O i (by rw[<-H];simp);have T:=Z3w is i.1;have Y:=G.lt;refine(V0 _ E i.1 i.2.1 i.2.2 (Yz is) W rfl G (Ov is) I ⟨T.2,by omega⟩).mono ?_;rintro e W' ⟨rfl,rfl⟩;refine⟨rfl, ?_, ?_⟩
 . rw[LW];exact G.set i.1 _
 . exact(Below.refl E W).grown (Ad W E i.1 _) (by omega) (fun j e=>by rw[<-VM e];exact VB _)
theorem U9 (No:Nat->Prop)(B ae M O Y Z F:Nat)(a:Option Addr)(aa:Nat)(E:List Int)(k n s:Nat)(S:List Bool)(W:World)(ag:CIs No W O Y Z F a 19 aa E)(aj:E.length=19)(I:Good E)(al:k<19)(au:0<E.getD k 0)(ax:n<65536)(av:s<=16)(h:RIs No B W F S)(a2:S.length<=290000)(T:∀g,W.heap.size<=g->¬No g)
 (ay:W.cell? ⟨ae,0,none⟩=some (CV O Y Z)) (ak:W.cell? ⟨M,0,none⟩=some (.pointer (some ⟨F,0,none⟩))) (U:M<W.heap.size/\No M):
 Calls Tryz.prog 245 #[.int .i64 (k:Int),.int .i64 (n:Int),.int .i64 (s:Int),.pointer (some ⟨ae,0,none⟩),.pointer (some ⟨M,0,none⟩)] W fun e w'=>e=.returned (.tuple #[])/\Rp No B W F (S++Z40 E (k,n,s)) w':=by
 have ac:=Pp E I k;have ap:=(I.ok k (by omega)).2;have aw:=Ab (Yo No No B O Y Z F a 19 aa E k S W ag aj I al au h (by omega) T);have ar:=Ab (fun H (G:Rp No B W F (S++codeT E k) H)=>Dp No B F n s (S++codeT E k) H G.is ax av (by rw[VE,ac];omega) (fun g a1=>T g (by have:=G.below.size;omega)));have ao:=Ab (fun H (G:Rp No B W F (S++codeT E k) H)=>G.kp.cell U.1 U.2 ak);clear ag h T ac ap I U;go_enter Tryz.func245,Tryz.ntmps245
 go_wp2_with fail
 refine(Aa aw).mono ?_;rintro e H ⟨rfl,G⟩;have c1:=Aa ao H G;have ah:=Ab G;clear G;go_wp2_with fail
 refine(Aa ar H (Aa ah)).mono ?_;rintro e az ⟨rfl,af⟩;have ai:=Ab af;clear af;go_wp2;go_end0
 refine⟨rfl, ?_⟩;unfold Z40;rw[<-VS];exact(Aa ah).trans (Aa ai)
theorem Qr (x:Nat):∀f m,∀i∈He x f m,i.2.1<128/\i.2.2<=7
 |0,m,i,h=>by cases h
 |f+1,m,i,h=>by
  rw[He]at h;have ih:=Qr x f
  split at h
  . cases h
  . split at h
    . rcases WH.1 h with rfl|h
      . exact⟨Nat.zero_lt_succ _,VH _⟩
      . exact ih _ i h
    . split at h
      . rcases WH.1 h with rfl|h
        . constructor<;>simp only<;>omega
        . exact ih _ i h
      . split at h
        . rcases WH.1 h with rfl|h
          . constructor<;>simp only<;>omega
          . exact ih _ i h
        . rcases WH.1 h with rfl|h
          . constructor<;>simp only<;>omega
          . exact ih _ i h
theorem F6:∀(f:Nat) (l:List Int),∀i∈Xv f l,i.2.1<128/\i.2.2<=7
 |0,l,i,hi=>by cases hi
 |f+1,[],i,hi=>by cases hi
 |f+1,x::r,i,hi=>by
  have e:Xv (f+1) (x::r)=Qt x.toNat (Cp x r+1)++Xv f (r.drop (Cp x r)):=rfl;rw[e]at hi
  rcases WP.1 hi with hi|hi
  . unfold Qt at hi
    split at hi
    . rcases WH.1 hi with rfl|h
      . exact⟨Nat.zero_lt_succ _,VH _⟩
      . exact Qr _ _ _ i h
    . exact Qr _ _ _ i hi
  . exact F6 f _ i hi
structure LJ (No:Nat->Prop)(B gp gb gc gl gr rb:Nat)(a:Option Addr)(cap:Nat)(own:List Int)(S:List Bool)(is:List (Nat×Nat×Nat))(W:World):Prop where
 row:RIs No B W rb (S++putRs own is)
 c:CIs No W gc gl gr rb a 19 cap own
 p:W.cell? ⟨gp,0,none⟩=some (CV gc gl gr)
 b:W.cell? ⟨gb,0,none⟩=some (.pointer (some ⟨rb,0,none⟩))
 lp:gp<W.heap.size/\No gp
 lb:gb<W.heap.size/\No gb
 no:∀g,W.heap.size<=g->¬No g
theorem Z09 (No:Nat->Prop)(B O T Y ae ag ac:Nat)(a:Option Addr)(aa:Nat)(F:List Int)(S:List Bool)(G:List Int)(I:Own G F)(al:G.length<=1000)(ak:S.length<=280000):
 Snk3 (LJ No B O T Y ae ag ac a aa F S) (fun W W'=>Below B W W'/\Kp No W W') 245 #[.pointer (some ⟨O,0,none⟩),.pointer (some ⟨T,0,none⟩)] (lenIs G):=by
 refine⟨Gg Tryz.func245 (by kernel_rfl) rfl, ?_,fun W=>⟨Below.refl _ _,Kp.refl _ _⟩,fun q h=>⟨h.row.drewN q,h.c.keep (VB _) (fun _ _ _=>rfl),h.p,h.b,h.lp,h.lb,h.no⟩,fun W q=>⟨Ae (Below.refl _ _) q,fun _ _ _=>rfl⟩,fun h k=>⟨h.1.trans k.1,h.2.trans k.2 h.1.size⟩⟩;intro is R i W M E;have af:=I.has i (by rw[<-M];simp);have hr:=F6 G.length G i (by show i∈lenIs G;rw[<-M];simp);have ah:=(Lz F I.go (fun k=>(I.vo k).2) G.length G).1
 have ao:(putRs F is).length<=7*G.length:=by
  have e:putRs F (lenIs G)=putRs F is++putRs F (i::R):=by rw[<-M,Qx]
  have ai:(putRs F (lenIs G)).length<=7*G.length:=ah;rw[e,VE]at ai;omega
 obtain⟨k,n,s⟩:=i;have aj:=I.lo;refine(U9 No B O T Y ae ag ac a aa F k n s (S++putRs F is) W E.c I.lo I.go (by rw[<-aj];exact af.1) af.2 (by have:=hr.1;simp only at this;omega) (by have:=hr.2;simp only at this;omega) E.row (by rw[VE];omega) E.no E.p E.b E.lb).mono ?_;rintro e W' ⟨rfl,H⟩;have U:=H.below.size;have e:putRs F (is++ [(k,n,s)])=putRs F is++Z40 F (k,n,s):=by rw[Qx];simp[putRs]
 refine⟨rfl,⟨?_,E.c.keep U (fun g Z hn=>H.kp g Z hn),H.kp.cell E.lp.1 E.lp.2 E.p,H.kp.cell E.lb.1 E.lb.2 E.b,⟨VG E.lp.1 U,E.lp.2⟩,⟨VG E.lb.1 U,E.lb.2⟩,fun g Z=>E.no g (by omega)⟩,H.below,H.kp⟩;rw[e,<-VS];exact H.is
theorem X0 {j:Nat}(E:j<19):SE.getD j 0=((ord19.getD j 0:Nat):Int)/\ord19.getD j 0<19:=by
 have:(List.range 19).all (fun j=>SE.getD j 0==((ord19.getD j 0:Nat):Int)&&decide (ord19.getD j 0<19))=true:=by decide
 have:=WX.1 this j (by simpa using E)
 simpa using this
theorem Um (l:List Int)(n:Nat):Gu l n n=n:=by
 cases n with
 |zero=>rfl
 |succ n=>rw[Gu,if_neg (fun h=>by omega)]
theorem Yt (H G:Nat)(E F:List Int):Jp [(H,E),(G,F)] 2=E++F:=by simp[Jp]
theorem FG {w:World}{B n c E:Nat}{xs:List Int}(F:w.ownsRow B 3 1 (.slice (some ⟨E,0,none⟩) n c) n (iv xs))(H:xs.length=n):Row .i64 w E 0 xs:=by
 intro j G;rw[WG];have:=F.cellAt j (by omega)
 rw[this];simp[iv,List.getD,G]
theorem Z46 {w:World}{B e n c H:Nat}{xs:List Value}(G:w.ownsRow B e 1 (.slice (some ⟨H,0,none⟩) n c) n xs):n<=c:=by
 rcases G.2 with ⟨E,F⟩|⟨M,cap,cur,E,F,I⟩
 . cases E
 . cases E
   exact I.2.1
theorem Ti (No:Nat->Prop)(B E ba H e9 bb U dp:Nat)(O T:List Int)(S:List Bool)(w:World)(h:RIs No B w E S)(c8:O.length=H)(df:T.length=U)(ip:257<=H)(il:H<=286)(ib:1<=U)(h6:U<=30)(hs:ba<w.heap.size)(fu:bb<w.heap.size)(eu:Row .i64 w ba 0 O)(e4:Row .i64 w bb 0 T)(bi:∀x∈O++T,0<=x/\x<=15)(h9:S.length<=277000)(fk:∀g,w.heap.size<=g->¬No g):
 Calls Tryz.prog 213 #[.pointer (some ⟨E,0,none⟩),.slice (some ⟨ba,0,none⟩) H e9,.slice (some ⟨bb,0,none⟩) U dp] w fun e w'=>e=.returned (.tuple #[])/\Own (O++T) (MX (O++T))/\Rp No B w E (S++Rw O T (MX (O++T))) w':=by
 have c5:=Ab h;have a9:=Ab c8;have b3:=Ab df;have hq:=Ab eu;have gy:=Ab e4;have a4:=Ab bi;have g9:=Ab fk;clear h c8 df eu e4 bi fk;obtain⟨all,a8⟩:=exq (O++T);rw[a8]at a4;have et:all.length=H+U:=by rw[<-a8,VE,Aa a9,Aa b3]
 have ei:=Ab a8;have ac:=Ab et;clear et;rw[a8];clear a8;obtain⟨own,b9⟩:=exq (MX all);rw[b9];have f4:=Ab b9;clear b9;obtain⟨N,dt⟩:=exq (H+U);have h0:258<=N/\N<=316:=by omega
 have aa:=Ab dt;clear dt;obtain⟨ar,bo⟩:=exq (SE);have ho:=Ab bo;have f8:=Ab (fun W=>by have:=D5 W;rw[bo]at this;exact this);have dy:ar.length=19:=by rw[<-bo];rfl
 have ht:(Tryz.prog.info? 321).map (·.size)=some (iv ar).toArray.size:=by rw[ON];simp[dy]
 clear bo;go_enter Tryz.func213,Tryz.ntmps213
 go_wp2_with fail
 refine(Vx (w.heap.size+1) 0 2 2 (fun j=>if j=0 then e9 else dp) [(ba,O),(bb,T)] _ (by simp) ?_ ?_ ?_ ?_ (by decide)).mono ?_
 . intro j ai
   rcases(by omega:j=0\/j=1)with rfl|rfl
   . simp[Aa a9]
   . simp[Aa b3]
 . intro j ai
   rcases(by omega:j=0\/j=1)with rfl|rfl
   . exact .inr ⟨ba,0,rfl,by simp;omega,(((Aa hq).alloc hs _).alloc (by simp;omega) _)⟩
   . exact .inr ⟨bb,0,rfl,by simp;omega,(((Aa gy).alloc fu _).alloc (by simp;omega) _)⟩
 . intro k gw;have ax:=Aa a9;have e2:=Aa b3
   rcases(by omega:k=0\/k=1\/k=2)with rfl|rfl|rfl
   . simp[Jp]
   . simp[Jp];omega
   . rw[Yt,VE];omega
 . have ax:=Aa a9;rw[Yt,VE];omega
 rw[Yt,Aa ei,Aa ac,Aa aa];rintro e b5 ⟨v,rfl,b0,bq⟩;obtain⟨g6,dh,rfl,hv,gh⟩:=Ba b0 (by omega);have da:=FG b0 (by rw[Aa ac,Aa aa]);have fp:=Z46 b0;have ha:=bq.size;simp only[World.size_alloc]at ha hv;have fg:Below w.heap.size w b5:=(((Below.refl w.heap.size w).alloc (VB _) _).alloc (by simp) _).trans (bq.mono (by simp;omega));have en:b5.cell? ⟨w.heap.size,0,none⟩=some (.pointer (some ⟨E,0,none⟩)):=(bq.cell (p:=⟨w.heap.size,0,none⟩) (by simp;omega)).trans (by simp);have c9:=Ab da;have dd:=Ab fg;clear b0 bq da fg;go_wp2_with fail
 refine(Aa f8 _).mono ?_;rintro e ae ⟨rfl,cw⟩;have ie:=cw.size;have cd:=Ab cw;have ew:(ae.alloc (.cells (iv (List.replicate 19 0)).toArray 321)).heap[ae.heap.size]? =some (.cells (iv (List.replicate 19 0)).toArray 321 (0,0)):=heap_alloc_new _ _;have cz:=Ab ew;clear cw ew;go_upto_region 3 with (refine wpList_store_row rfl 321 (.tmp 7) (.tmp 17) rfl ae.heap.size _ rfl rfl 321 (iv (List.replicate 19 0)).toArray (Aa cz) ht (by simp[dy]) (Cy ar) ?_)
 simp only[Act.put];generalize bh:World.setRow (World.alloc _ _) _ _=Z;have dz:ARow 321 Z ae.heap.size ar:=by rw[<-bh];exact setRow_heap _ _ _ _ _ _ (Aa cz)
 have e5:Below w.heap.size w Z:=by rw[<-bh];exact Bg (((Aa dd).trans ((Aa cd).mono (by omega))).alloc (by omega) _) (by omega) _
 have ce:Below b5.heap.size b5 Z:=by rw[<-bh];exact Bg ((Aa cd).alloc (by omega) _) (by omega) _
 have h5:ae.heap.size<Z.heap.size:=by rw[<-bh];simp
 clear bh;have d8:Z.cell? ⟨w.heap.size,0,none⟩=some (.pointer (some ⟨E,0,none⟩)):=(ce.cell (p:=⟨w.heap.size,0,none⟩) (by show w.heap.size<_;omega)).trans en;have c7:Hid (Row .i64 Z g6 0 all):=Ab ((Aa c9).below ce gh);have ek:=Ab dz;have d6:=Ab e5;clear dz e5 ce en cz cd dd c9;go_wp2_with fail
 refine(Ja _ _ _ _ g6 0 N dh all _ (Z1z Z.heap.size (lenIs all) (Xu _ all (Aa a4)) ?_) (by rw[Aa ac,Aa aa]) (by omega) fp (Aa a4) ?_ ?_).mono ?_
 . have:=F5 all
   rw[Aa ac,Aa aa]at this;omega
 . intro W ap;exact((Aa c7).alloc (by omega) _).below ap (by omega)
 . exact(heap_alloc_new _ _).trans (by kernel_rfl)
 rintro e a5 ⟨rfl,dm,ay⟩;have gx:=ay.size;simp only[World.size_alloc]at gx;have bw:Hid (Row .i64 a5 g6 0 all):=Ab (((Aa c7).alloc (by omega) _).below ay (by omega));have fm:Hid (ARow 321 a5 ae.heap.size ar):=Ab ((Aa ek).keep ((ay.block _ (by omega)).trans (Below.heap_alloc Z _ _ (by omega))));have dx:Hid (Below w.heap.size w a5):=Ab (((Aa d6).alloc (by omega) _).trans (ay.mono (by omega)));have dv:a5.cell? ⟨w.heap.size,0,none⟩=some (.pointer (some ⟨E,0,none⟩)):=(ay.cell (p:=⟨w.heap.size,0,none⟩) (by show w.heap.size<_;omega)).trans ((World.cell?_alloc_past _ _ _ (by show w.heap.size<_;omega)).trans d8);have cu:=Ab dm;clear dm ay d8 ek d6 c7;have dq:GoodW (Yz (lenIs all)) 7:=C0 (by rw[Aa ac,Aa aa];omega);have ed:=Ab (Ib (some ⟨Z.heap.size,0,none⟩) 19 19 (Yz (lenIs all)) 7 19 a5 (Ov _) (.inr ⟨_,0,rfl,(Aa cu).lt,(Aa cu).row⟩) dq (VB _) 19 (Ab (Um _ _)));clear dq;go_wp2_with fail
 refine(Aa ed).mono ?_;rintro e G ⟨bj,rfl,em,ij,iq,bm,av⟩;have bg:=Z6g (by rw[Aa ac,Aa aa];omega) (Aa a4) em;have e0:lensD (Yz (lenIs all)) 7=own:=Aa f4;rw[e0]at bg bm;clear em e0 ed
 have ax:trimL own 19=own:=by
  unfold trimL;rw[bg.lo,Um];exact VV (by rw[bg.lo];exact VB _)
 rw[ax]at bm;clear ax;have ii:=av.size;have gi:Hid (ARow 321 G ae.heap.size ar):=Ab ((Aa fm).keep (av.block _ (by omega)));have gu:Hid (Row .i64 G g6 0 all):=Ab ((Aa bw).below av (by omega));have cg:Hid (Below w.heap.size w G):=Ab ((Aa dx).trans (av.mono (by omega)));have f3:G.cell? ⟨w.heap.size,0,none⟩=some (.pointer (some ⟨E,0,none⟩)):=(av.cell (p:=⟨w.heap.size,0,none⟩) (by show w.heap.size<_;omega)).trans dv;have aj:=Ab bg;have gv:=Ab bm;clear bg bm av dv cu fm bw dx;obtain⟨F,a7⟩:∃F:Nat->Prop,F=fun g=>No g\/ (w.heap.size<=g/\g<G.heap.size):=⟨_,rfl⟩
 have e6:∀g,G.heap.size<=g->¬F g:=by
  intro g I e;rw[a7]at e
  rcases e with e|e
  . exact Aa g9 g (by omega) e
  . omega
 have d5:RIs F B G E S:=(Aa c5).grow (Aa cg) (fun g e=>by
  rw[a7]at e
  rcases e with e|e
  . exact .inl e
  . exact .inr e.1)
 have di:∀g,w.heap.size<=g->g<G.heap.size->F g:=fun g af b8=>by rw[a7];exact .inr ⟨af,b8⟩
 have ff:∀g,No g->F g:=fun g af=>by rw[a7];exact .inl af
 have bc:=Ab e6;have al:=Ab di;have dl:=Ab ff;have fx:=Ab d5;clear e6 di ff d5 a7
 have ck:∀W,Kp F G W->(W.cell? ⟨w.heap.size,0,none⟩=some (.pointer (some ⟨E,0,none⟩)))/\(∀q,q<19->W.cell? ⟨ae.heap.size,q,none⟩=some (.int .i64 ((ord19.getD q 0:Nat):Int)))/\(∀q,q<19->W.cell? ⟨bj,q,none⟩=some (.int .i64 (own.getD q 0))):=by
  intro W ap;refine⟨ap.cell (by omega) (Aa al _ (VB _) (by omega)) f3,fun q b7=> ?_,fun q b7=> ?_⟩
  . have:=(Aa gi).cell q (by omega)
    rw[<-Aa ho,(X0 b7).1]at this;exact ap.cell (by omega) (Aa al _ (by omega) (by omega)) this
  . have:=Aa gv q (by rw[(Aa aj).lo];exact b7)
    rw[WG]at this;exact ap.cell (by omega) (Aa al _ (by omega) (by omega)) this
 have cp:=Ab ck;obtain⟨g8,fq,dc⟩:=ck G (Kp.refl _ _);have hh:=Ab fq;have g0:=Ab dc;clear ck fq dc g8;obtain⟨M,ct⟩:=exq (W6 own 19);have im:4<=M/\M<=19:=by rw[<-ct];exact⟨MW own 19 (by decide),W5 own 19⟩
 have dn:=Ab ct;clear ct;go_upto_block 0 with (fail)
 go_cut [10] (fun v wc=>v=.int .i64 (M:Int)/\G=wc)
 case first=>
  go_wp2;go_loop [10] (fun v=>∃k:Nat,4<=k/\k<=19/\v=.int .i64 (k:Int)/\Hid (W6 own k=M)) (fun v=>(intOf v).toNat)
  case atStart=>exact⟨19,by decide,by decide,rfl,dn⟩
  case round=>
   obtain⟨k,h3,g5,rfl,a1⟩:=hrel
   by_cases ep:4<k
   . obtain⟨q,rfl⟩:∃q,k=q+1:=⟨k-1,by omega⟩
     have b4:=Aa hh q (by omega);have bv:=(X0 (j:=q) (by omega)).2;have ao:=Aa g0 _ bv;have gg:(4:Int)<((q+1:Nat):Int):=by omega
     have ik:(((q+1:Nat):Int)-1).toNat=q:=by omega
     have ig:(0:Int)<=((q+1:Nat):Int)-1:=by omega
     have iu:((q+1:Nat):Int)-1<(19:Int):=by omega
     have hw:((ord19.getD q 0:Nat):Int)<19:=by omega
     by_cases a3:own.getD (ord19.getD q 0) 0=0
     . rw[a3]at ao;have bf:Hid (W6 own q=M):=Ab (by have:=Aa a1;rw[W6,if_pos ⟨ep,a3⟩]at this;exact this);clear a3 a1;generalize ord19.getD q 0=cm at*;go_wp2;go_round
       case rel=>exact⟨q,by omega,by omega,by go_num,bf⟩
       case measure=>simp[intOf]
     . have bf:Hid (q+1=M):=Ab (by have:=Aa a1;rw[W6,if_neg (fun h=>a3 h.2)]at this;exact this);have hb:(own.getD (ord19.getD q 0) 0==0)=false:=by rw[beq_eq_false_iff_ne];exact a3
       generalize own.getD (ord19.getD q 0) 0=x at ao hb;generalize ord19.getD q 0=cm at*;clear a3 a1;go_wp2;go_meet
       exact⟨by rw[<-Aa bf];go_num,rfl⟩
   . have bf:Hid (k=M):=Ab (by
      have:=Aa a1
      cases k with
      |zero=>rw[W6]at this;exact this
      |succ k=>rw[W6,if_neg (fun h=>ep h.1)]at this;exact this)
     have gg:¬(4:Int)<(k:Int):=by omega
     clear a1;go_wp2;go_meet
     exact⟨by rw[<-Aa bf],rfl⟩
 case rest=>
  obtain⟨rfl,rfl⟩:=hcut;have ir:=(Aa c5).base;have h8:=(Aa c5).lt;have ci:=Dp F B E (H-257) 5 S G (Aa fx) (by omega) (by decide) (by omega) (Aa bc);rw[show ((H-257:Nat):Int)=(H:Int)-257 by omega]at ci;have ds:=Ab ci;clear ci;go_wp2_with fail
  refine(Aa ds).mono ?_;rintro e d9 ⟨rfl,a6⟩;have gd:=(Aa cp d9 a6.kp).1;have c6:=Dp F B E (U-1) 5 (S++Al (H-257) 5) d9 a6.is (by omega) (by decide) (by rw[VE,Ah];omega) (fun g I=>Aa bc g (by have:=a6.below.size;omega));rw[show ((U-1:Nat):Int)=(U:Int)-1 by omega]at c6;have de:=Ab c6;have eg:=Ab a6;clear c6 a6 ds;go_wp2_with fail
  refine(Aa de).mono ?_;rintro e eb ⟨rfl,du⟩;have bd:=(Aa eg).trans du;have hk:=(Aa cp eb bd.kp).1;have co:=Dp F B E (M-4) 4 (S++Al (H-257) 5++Al (U-1) 5) eb bd.is (by omega) (by decide) (by rw[VE,VE,Ah,Ah];omega) (fun g I=>Aa bc g (by have:=bd.below.size;omega));rw[show ((M-4:Nat):Int)=(M:Int)-4 by omega]at co;have e7:=Ab co;have db:=Ab bd;clear co du bd de gd;go_wp2_with fail
  refine(Aa e7).mono ?_;rintro e w3 ⟨rfl,fe⟩;have cv:=(Aa db).trans fe;obtain⟨a2,bn⟩:=exq (S++Al (H-257) 5++Al (U-1) 5++Al (M-4) 4);rw[bn]at cv;have h4:a2.length=S.length+14:=by rw[<-bn];simp[Ah]
  have gn:=Ab bn;have hf:=Ab cv;clear fe cv e7 hk bn db eg;go_wp2;go_loopw [52] (fun v wr=>∃k:Nat,k<=M/\v=.int .i64 (k:Int)/\Hid (Rp F B G E (a2++(ord19.take k).flatMap (fun j=>Al (own.getD j 0).toNat 3)) wr)) (fun v _=>M-(intOf v).toNat)
  case atStart=>exact⟨0,VH _,rfl,Ab (by simpa using Aa hf)⟩
  case round=>
   obtain⟨k,gw,rfl,cn⟩:=hrel;have Y:=Aa cn;obtain⟨d0,b4,ao⟩:=Aa cp wr Y.kp
   by_cases h7:k<M
   . have ax:=b4 k (by omega);have bv:=(X0 (j:=k) (by omega)).2;have e2:=ao _ bv;have bz:=(Aa aj).vo (ord19.getD k 0)
     have aw:a2++(ord19.take (k+1)).flatMap (fun j=>Al (own.getD j 0).toNat 3)=a2++(ord19.take k).flatMap (fun j=>Al (own.getD j 0).toNat 3)++Al (own.getD (ord19.getD k 0) 0).toNat 3:=by
      have:ord19.take (k+1)=ord19.take k++ [ord19.getD k 0]:=by
       rw[XM];have f6:k<ord19.length:=by show k<19;omega
       simp[List.getD,f6]
      rw[this];simp
     have dj:=Pb own (ord19.take k);have g4:(ord19.take k).length<=19:=by rw[VL];exact Nat.min_le_right _ _
     obtain⟨dw,cy⟩:=exq (a2++(ord19.take k).flatMap (fun j=>Al (own.getD j 0).toNat 3));have h2:dw.length<=S.length+71:=by rw[<-cy,VE,dj];omega
     rw[cy]at aw Y;obtain⟨cm,fi⟩:=exq (ord19.getD k 0);rw[fi]at ax bv e2 bz aw;obtain⟨x,bi⟩:=WF bz.1;rw[bi]at e2 bz aw;rw[WM]at aw;have fw:=Ab (fun j=>Dp F B E x 3 dw (wr.drewN j) (Y.is.drewN j) (by omega) (by decide) (by omega) (fun g I=>Aa bc g (by have:=Y.below.size;have b8:wr.heap.size<=g:=I;omega)));have bw:=Ab (fun j=>Y.is.drew j);have hg:=Ab aw;have ak:=Ab Y;have hw:(cm:Int)<19:=by omega
     have hz:(k:Int)<(M:Int):=by omega
     have g5:(k:Int)<19:=by omega
     clear cn Y b4 ao aw dj g4 cy fi bi bz;go_wp2;go_region_with (go_at_call 147;refine(Aa fw _).mono ?_;rintro e ia ⟨rfl,ey⟩;have f9:=Ab ((Aa ak).trans ((Aa bw _).trans ey));clear ey)
     all_goals try go_wp2
     all_goals go_roundw
     all_goals first|exact⟨k+1,by omega,by go_num,Ab (by rw[Aa hg];exact Aa f9)⟩|(simp[intOf];omega)
   . obtain rfl:k=M:=by omega
     have f7:=Y.below.size;have e8:=Sp bj 0 E 19 19 own wr (Aa aj).lo (by decide) (by omega) (fun j ai=>by rw[WG];exact ao j (by rw[<-(Aa aj).lo];exact ai)) (Aa aj).go;have eo:=Ab e8;have ak:=Ab Y;clear cn Y b4 ao e8;go_wp2_with fail
     refine(Aa eo).mono ?_;rintro e ah ⟨gc,gl,gr,rfl,fo,bk⟩;have ic:=bk.size;have fy:ah.cell? ⟨w.heap.size,0,none⟩=some (.pointer (some ⟨E,0,none⟩)):=(bk.cell (p:=⟨w.heap.size,0,none⟩) (by show w.heap.size<_;omega)).trans d0;have gq:=Ab fo;have d7:=Ab bk;clear fo bk d0 eo;obtain⟨az,ag⟩:∃az:Nat->Prop,az=fun g=>F g\/ (wr.heap.size<=g/\g<ah.heap.size+1):=⟨_,rfl⟩
     have h1:G.heap.size<=wr.heap.size:=f7;obtain⟨au,bu⟩:=exq (a2++(ord19.take k).flatMap (fun j=>Al (own.getD j 0).toNat 3))
     have hx:au.length<=278000:=by
      have af:=Pb own (ord19.take k);have b8:(ord19.take k).length<=19:=by rw[VL];exact Nat.min_le_right _ _
      rw[<-bu,VE,af];omega
     have dr:S++Rw O T own=au++putRs own (lenIs all):=by
      unfold Rw;rw[Aa a9,Aa b3,Aa ei,Aa dn,<-bu,<-Aa gn];simp[VS]
     rw[bu]at ak;have f5:=Ab dr;have hj:Hid (Row .i64 ah g6 0 all):=Ab (fun j ai=>(Aa d7).cell (p:=⟨g6,_,none⟩) (by show g6<_;omega)|>.trans ((Aa ak).kp.cell (by omega) (Aa al g6 (by omega) (by omega)) (Aa gu j ai)));have cq:∀X:Obj,Below wr.heap.size wr (ah.alloc X):=fun X=>(Aa d7).alloc (by omega) X
     have eh:LJ az B ah.heap.size w.heap.size gc gl gr E (some ⟨bj,0,none⟩) 19 own au [] (ah.alloc (.cells #[CV gc gl gr] 138)):=by
      refine⟨?_, ?_,by simp,(World.cell?_alloc_past _ _ _ (by show w.heap.size<_;omega)).trans fy,⟨by simp, ?_⟩,⟨by simp;omega, ?_⟩, ?_⟩
      . have e:au++putRs own []=au:=by simp[putRs]
        rw[e];refine(Aa ak).is.grow (cq _) (fun g e=> ?_);rw[ag]at e
        rcases e with e|e
        . exact .inl e
        . exact .inr e.1
      . refine((Aa gq).bound.keep (by simp) (fun g I _=>Below.heap_alloc ah _ g I)).more (fun g hb=> ?_);rw[ag]
        rcases hb with ⟨hb|hb,fu⟩
        . exact .inr ⟨hb,by omega⟩
        . rw[hb];exact .inl (Aa al bj (by omega) (by omega))
      . rw[ag];exact .inr ⟨by omega,by omega⟩
      . rw[ag];exact .inl (Aa al _ (VB _) (by omega))
      . intro g I e;simp only[World.size_alloc]at I;rw[ag]at e
        rcases e with e|e
        . exact Aa bc g (by omega) e
        . omega
     have fj:az g6:=by rw[ag];exact .inl (Aa al g6 (by omega) (by omega))
     have e1:∀g,F g->az g:=fun g I=>by rw[ag];exact .inl I
     have gj:=Ab eh;have hp:=Ab fj;have ft:=Ab e1;have ej:=Ab cq;clear ag eh fj e1 cq bu dr;go_wp2_with fail
     refine(Ja _ _ _ _ g6 0 N dh all _ (Z09 az B ah.heap.size w.heap.size gc gl gr E (some ⟨bj,0,none⟩) 19 own au all (Aa aj) (by rw[Aa ac,Aa aa];omega) (by omega)) (by rw[Aa ac,Aa aa]) (by omega) fp (Aa a4) ?_ (Aa gj)).mono ?_
     . intro W ap j ai;exact ap.2.cell (by simp;omega) (Aa hp) ((World.cell?_alloc_past _ _ _ (by show g6<_;omega)).trans (Aa hj j ai))
     rintro e gz ⟨rfl,fh,cj,ee⟩
     have hu:Hid (Rp No B w E (S++Rw O T own) gz):=by
      have g7:=cj.size;simp only[World.size_alloc]at g7;refine⟨?_, ?_, ?_⟩
      . rw[Aa f5];exact fh.row.grow (Below.refl _ _) (fun g e=>.inl (Aa ft g (Aa dl g e)))
      . exact((Aa cg).mono (by omega)).trans ((Aa ak).below.trans (((Aa ej _).mono (by omega)).trans cj))
      . intro g I hn;have af:=Aa dl g hn;rw[ee g (by simp;omega) (Aa ft g af),(Aa ej _).block g (by omega),(Aa ak).kp g (by omega) af];exact(Aa cg).block g I
     clear fh cj ee;go_wp2;go_end0
     exact⟨rfl,Aa aj,Aa hu⟩
theorem Z2b {w w':World}{a:Option Addr}{ts:List Tk}(F:TokIn w a ts)(U:w.heap.size<=w'.heap.size)(H:∀b o,a=some ⟨b,o,none⟩->ts≠ []->b<w.heap.size->w'.heap[b]? =w.heap[b]?):TokIn w' a ts:=by
 by_cases e:ts= []
 . exact .inl e
 . rcases F with F|⟨b,o,rfl,hb,I⟩
   . exact absurd F e
   . have E:=H b o rfl e hb;refine .inr ⟨b,o,rfl,by omega,fun j O=> ?_⟩;obtain⟨M,G,T⟩:=I j O;exact⟨(World.cell?_of_block (w:=w) (a:=⟨b,_,none⟩) E).trans M,(World.cell?_of_block (w:=w) (a:=⟨b,_,none⟩) E).trans G,(World.cell?_of_block (w:=w) (a:=⟨b,_,none⟩) E).trans T⟩
theorem BM {w w':World}{b o:Nat}{l:List Int}(E:Row .i64 w b o l)(G:w'.heap[b]? =w.heap[b]?):Row .i64 w' b o l:=fun j F=>(World.cell?_of_block (w:=w) (a:=⟨b,_,none⟩) G).trans (E j F)
structure PlanIs (w:World)(a:Option Addr)(len b1 n1 b2 n2:Nat)(ts:List Tk)(l1 l2:List Int):Prop where
 tl:ts.length=len
 tm:len<=3000
 tv:∀t∈ts,VT t
 tok:TokIn w a ts
 d:Dyn ts l1 l2
 k1:l1.length=n1
 k2:l2.length=n2
 m1:b1<w.heap.size
 m2:b2<w.heap.size
 r1:Row .i64 w b1 0 l1
 r2:Row .i64 w b2 0 l2
theorem PlanIs.keep {w w':World}{a:Option Addr}{U F O G M:Nat}{ts:List Tk}{I T:List Int}(E:PlanIs w a U F O G M ts I T)(H:w.heap.size<=w'.heap.size)(Y:∀b o,a=some ⟨b,o,none⟩->ts≠ []->b<w.heap.size->w'.heap[b]? =w.heap[b]?)(aa:w'.heap[F]? =w.heap[F]?)(Z:w'.heap[G]? =w.heap[G]?):PlanIs w' a U F O G M ts I T:=
 ⟨E.tl,E.tm,E.tv,Z2b E.tok H Y,E.d,E.k1,E.k2,VG E.m1 H,VG E.m2 H,BM E.r1 aa,BM E.r2 Z⟩
theorem PlanIs.below {w w':World}{a:Option Addr}{U H O M I:Nat}{ts:List Tk}{G T:List Int}(F:PlanIs w a U H O M I ts G T)(E:Below w.heap.size w w'):PlanIs w' a U H O M I ts G T:=
 F.keep E.size (fun b o _ _ hb=>E.block b hb) (E.block _ F.m1) (E.block _ F.m2)
theorem Z43 {E F:List Int}{ts:List Tk}(d:Dyn ts E F):∀x∈E++F,0<=x/\x<=15:=by
 intro x G
 rcases WP.1 G with h|h
 . exact CY d.ga x h
 . exact CY d.gb x h
theorem Qz (No:Nat->Prop)(B aa:Nat)(a:Option Addr)(af ak T ac ai U ae ah:Nat)(ts:List Tk)(F E:List Int)(S:List Bool)(w:World)(h:RIs No B w aa S)(H:PlanIs w a af T ac U ae ts F E)(aw:∀b o,a=some ⟨b,o,none⟩->ts≠ []->No b)(a3:No T)(a2:No U)(b0:∀g,w.heap.size<=g->¬No g)(b9:S.length+60*af<=277000):
 Calls Tryz.prog 186 #[.agg #[.slice a af ak,.slice (some ⟨T,0,none⟩) ac ai,.slice (some ⟨U,0,none⟩) ae ah],.pointer (some ⟨aa,0,none⟩)] w fun e w'=>e=.returned (.tuple #[])/\Own (F++E) (MX (F++E))/\Rp No B w aa (S++Ga F E ts) w':=by
 obtain⟨M,ao⟩:∃M:Nat->Prop,M=fun g=>No g\/g=w.heap.size:=⟨_,rfl⟩
 have a7:M w.heap.size:=by rw[ao];exact .inr rfl
 have Y:∀g,No g->M g:=fun g e=>by rw[ao];exact .inl e
 have ay:∀g,w.heap.size<g->¬M g:=by
  intro g aj e;rw[ao]at e
  rcases e with e|e
  . exact b0 g (by omega) e
  . omega
 have a9:∀X:Obj,RIs M B (w.alloc X) aa S:=fun X=>h.grow ((Below.refl w.heap.size w).alloc (VB _) X) (fun g e=>by
  rw[ao]at e
  rcases e with e|e
  . exact .inl e
  . exact .inr (by omega))
 have k1:=H.k1;have k2:=H.k2;have d:=H.d;have la:=d.la;have la2:=d.la2;have lb:=d.lb;have lb2:=d.lb2;have a5:=Ab (fun X:Obj=>Ti M B aa T ac ai U ae ah F E S (w.alloc X) (a9 X) k1 k2 (by omega) (by omega) (by omega) (by omega) (by have:=H.m1;simp;omega) (by have:=H.m2;simp;omega) (H.r1.alloc H.m1 X) (H.r2.alloc H.m2 X) (Z43 d) (by omega) (fun g aj=>ay g (by simp at aj;omega)));have bi:=Ab (fun(X:Obj) (O:World) (bo:List Bool) (I:Rp M B (w.alloc X) aa bo O)=>(H.below ((Below.refl w.heap.size w).alloc (VB _) X)).keep I.below.size (fun b o ea a1 hb=>I.kp b hb (Y b (aw b o ea a1))) (I.kp T (by have:=H.m1;simp;omega) (Y _ a3)) (I.kp U (by have:=H.m2;simp;omega) (Y _ a2)));have bq:Hid (∀b o,a=some ⟨b,o,none⟩->ts≠ []->M b):=fun b o e a1=>Y b (aw b o e a1)
 have bg:=Ab ay;have av:=Ab Y;have au:=Ab a7;have bb:=Ab (Y _ a3);have bm:=Ab (Y _ a2);have bz:Hid (Good F/\Good E/\Has F E (itsOf ts)/\1<=F.length/\1<=E.length):=⟨d.ga,d.gb,d.has,by omega,by omega⟩
 have ba:S++Ga F E ts=S++Rw F E (MX (F++E))++putIs F E (itsOf ts):=by unfold Ga;rw[VS]
 rw[ba]
 have ax:Hid (Own (F++E) (MX (F++E))->(Rw F E (MX (F++E))).length<=2400):=fun bw=>by
  have:=J4 bw
  omega
 obtain⟨bk,a6⟩:=exq (Rw F E (MX (F++E)));rw[a6]at a5 ax ⊢;have b8:=h.lt;have b7:=h.base;clear ao a7 Y ay a9 k1 k2 d la la2 lb lb2 ba a6 aw a3 a2 H h;go_enter Tryz.func186,Tryz.ntmps186
 go_wp2_with fail
 refine(Aa a5 _).mono ?_;rintro e O ⟨rfl,az,I⟩;have b5:=Aa ax az;have bh:=Ab az;clear az ax;have a8:=I.below.size;simp only[World.size_alloc]at a8;have G:=Aa bi _ O _ I;have bc:O.cell? ⟨w.heap.size,0,none⟩=some (.slice a af ak):=I.kp.cell (by simp) (Aa au) (by simp);have x1:O.cell? ⟨w.heap.size,1,none⟩=some (.slice (some ⟨T,0,none⟩) ac ai):=I.kp.cell (by simp) (Aa au) (by simp);have x2:O.cell? ⟨w.heap.size,2,none⟩=some (.slice (some ⟨U,0,none⟩) ae ah):=I.kp.cell (by simp) (Aa au) (by simp);have Z:=Aa bz;have bd:=Ab (fun k=>Vd T 0 ac ai U 0 ae ah aa F E (O.drewN k) G.k1 G.k2 (by rw[<-G.k1];exact Z.2.2.2.1) (by rw[<-G.k2];exact Z.2.2.2.2) G.m1 G.m2 G.r1 G.r2 Z.1 Z.2.1);have b4:=Ab (fun(w3:World) (gc gl gr hc hl hr:Nat) al ar ap=>BT M B aa a af ak ts (S++bk) T 0 ac ai U 0 ae ah F E gc gl gr hc hl hr O O w3 I.is (VB _) al ar ap (.inl (Aa bb)) (.inl (Aa bm)) G.k1 G.k2 Z.1 Z.2.1 Z.2.2.1 G.tl G.tm G.tv G.tok (Aa bq) (fun g aj=>Aa bg g (by omega)) (by rw[VE];omega));have bn:=Ab I;clear I G Z;go_wp2;go_region_with (first|(go_at_call 182;refine(Aa bd _).mono ?_;rintro e w3 ⟨gc,gl,gr,hc,hl,hr,rfl,ar,ap,al⟩;have bj:=Ab ar;have bf:=Ab ap;have b3:=Ab al;have ce:w3.cell? ⟨w.heap.size,0,none⟩=some (.slice a af ak):=(al.cell (p:=⟨w.heap.size,0,none⟩) a8).trans bc;clear ar ap al)|(go_at_call 181;refine(Aa b4 w3 gc gl gr hc hl hr ((Ae (Below.refl _ _) _).trans (Aa b3)) (Aa bj) (Aa bf)).mono ?_;rintro e cd ⟨rfl,ag⟩;have bv:=Ab ag;clear ag))
 all_goals try go_wp2
 all_goals go_end0
 all_goals refine⟨rfl,Aa bh, ?_⟩
 all_goals (
  have a4:=Aa bn;have ag:=Aa bv;have bu:Below B w (w.alloc (.cells #[.slice a af ak,.slice (some ⟨T,0,none⟩) ac ai,.slice (some ⟨U,0,none⟩) ae ah] 256)):=(Below.refl B w).alloc (by omega) _;exact⟨ag.is.grow (Below.refl _ _) (fun g e=>.inl (Aa av g e)),bu.trans (a4.below.trans ag.below),fun g aj hn=>(ag.kp g (by omega) (Aa av g hn)).trans ((a4.kp g (by simp;omega) (Aa av g hn)).trans (Below.heap_alloc w _ g aj))⟩)
theorem RIs.empty {No:Nat->Prop}{B:Nat}{w:World}{b:Nat}(E:B<=b)(G:¬No b)(F:w.heap[b]? =some (.cells #[.slice none 0 0,.int .i64 0] 179 (0,0))):RIs No B w b []:=
 ⟨E,G,.slice none 0 0,[],F,World.ownsRow_nil _ _ _ _,(fun g e=>by cases e),(fun j=>by simp),rfl⟩
theorem C9 {ts:List Tk}{E F:List Int}(d:Dyn ts E F)(H:∀t∈ts,VT t)(G:Own (E++F) (MX (E++F))):(Ga E F ts).length<=2300+60*ts.length:=by
 have O:=J4 G;have I:=Lp E F d.ga d.gb (itsOf ts) d.has (Ka H);have U:=Gb ts;have T:=d.la2;have M:=d.lb2;unfold Ga;rw[VE];omega
theorem Nx (a:Option Addr)(O al U M ar ag ae ay:Nat)(ts:List Tk)(G F:List Int)(w:World)(E:PlanIs w a O U M ag ae ts G F):
 Calls Tryz.prog 185 #[.agg #[.slice a O al,.slice (some ⟨U,0,none⟩) M ar,.slice (some ⟨ag,0,none⟩) ae ay]] w fun e w'=>e=.returned (.int .i64 ((Ga G F ts).length:Nat))/\Own (G++F) (MX (G++F))/\Below w.heap.size w w':=by
 have tm:=E.tm;have m1:=E.m1;have m2:=E.m2;have ah:∀X Y:Obj,Below w.heap.size w ((w.alloc X).alloc Y):=fun X Y=>((Below.refl w.heap.size w).alloc (VB _) X).alloc (by simp) Y
 have a1:∀X:Obj,RIs (fun g=>g<w.heap.size+1) (w.heap.size+1) ((w.alloc X).alloc (.cells #[.slice none 0 0,.int .i64 0] 179)) (w.heap.size+1) []:=fun X=>RIs.empty (VB _) (by simp) (by
  have e:w.heap.size+1=(w.alloc X).heap.size:=by simp
  rw[e];exact heap_alloc_new _ _)
 have a2:=Ab (fun X:Obj=>Qz (fun g=>g<w.heap.size+1) (w.heap.size+1) (w.heap.size+1) a O al U M ar ag ae ay ts G F [] ((w.alloc X).alloc (.cells #[.slice none 0 0,.int .i64 0] 179)) (a1 X) (E.below (ah _ _)) (fun b o ea a8=>by
  rcases E.tok with h|⟨bj,bi,a9,ac,_⟩
  . exact absurd h a8
  . rw[a9]at ea;cases ea;omega) (by omega) (by omega) (fun g a4=>by simp at a4;omega) (by simp;omega))
 have ax:=Ab (fun ba=>C9 E.d E.tv ba);have bd:=Ab E.tl;have a3:=Ab ah;clear ah a1 E m1 m2;obtain⟨Z,aw⟩:=exq (Ga G F ts);rw[aw]at a2 ax ⊢;clear aw;go_enter Tryz.func185,Tryz.ntmps185
 go_wp2_with fail
 refine(Aa a2 _).mono ?_;rintro e I ⟨rfl,T,ai⟩;have ao:=Aa ax T;rw[Aa bd]at ao;have bc:=Ab T;have bg:Hid (Below w.heap.size w I):=Ab ((Aa a3 _ _).trans (ai.below.mono (by omega)));have aa:=ai.is;rw[List.nil_append]at aa;obtain⟨ov,bs,aj,ac,bf,bb,ak⟩:=aa.ex;have c0:I.cell? ⟨w.heap.size+1,0,none⟩=some ov:=Ac aj;have au:I.cell? ⟨w.heap.size+1,1,none⟩=some (.int .i64 (freeN Z.length:Nat)):=Ac aj;obtain⟨bh,cc,a7⟩:∃a c,ov=.slice a bs.length c:=An ac;have H:=congrArg List.length ak;rw[Af,Dr]at H;have av:=Pk Z.length;subst a7;obtain⟨a6,af⟩:=exq (Z.length);obtain⟨L,az⟩:=exq (bs.length);obtain⟨bk,ap⟩:=exq (freeN a6);rw[af]at H av ao au;rw[az]at H c0;rw[ap]at H av au;have a5:=Ab af;clear aj ac bf bb ak aa ai T af az ap;go_wp2;go_quiet (fail)
 go_wp2;go_ret;refine⟨?_,Aa bc,Ae (Aa bg) _⟩;rw[Aa a5];go_num
theorem Qe {w:World}{E:Nat}{T:TypeId}{x y I:Value}(F:w.heap[E]? =some (.cells #[x,y,I] T (0,0)))(u v t:Value):
 (((w.setCell ⟨E,0,none⟩ u).setCell ⟨E,1,none⟩ v).setCell ⟨E,2,none⟩ t).heap[E]? =some (.cells #[u,v,t] T (0,0))/\(∀j,j<w.heap.size->j≠E->(((w.setCell ⟨E,0,none⟩ u).setCell ⟨E,1,none⟩ v).setCell ⟨E,2,none⟩ t).heap[j]? =w.heap[j]?)/\(((w.setCell ⟨E,0,none⟩ u).setCell ⟨E,1,none⟩ v).setCell ⟨E,2,none⟩ t).heap.size=w.heap.size/\∀ {B:Nat} {G:World},Below B G w->B<=E->Below B G (((w.setCell ⟨E,0,none⟩ u).setCell ⟨E,1,none⟩ v).setCell ⟨E,2,none⟩ t):=by
 have g1:=Ad w E 0 u;have g2:=Ad (w.setCell ⟨E,0,none⟩ u) E 1 v;have g3:=Ad ((w.setCell ⟨E,0,none⟩ u).setCell ⟨E,1,none⟩ v) E 2 t;have H:=Aj (Aj g1 g2) g3;have Y:E<w.heap.size:=(VK.1 F).1;refine⟨?_,fun j O U=>H.block j O (fun e=>U (VM e)),by simp,fun M hb=>M.grown H (by omega) (fun j e=>by rw[<-VM e];exact hb)⟩
 . rw[heap_setCell_same _ _ 2 _ _ _ (heap_setCell_same _ _ 1 _ _ _ (heap_setCell_same _ _ 0 _ _ _ F))];rfl
structure ShA (W2:World)(l:List Int)(m least g:Nat)(w':World):Prop where
 lens:IsLens l m (lensD l m)
 lo:W2.heap.size<=g
 hi:g<w'.heap.size
 row:Row .i64 w' g 0 (trimL (lensD l m) least)
 bel:Below W2.heap.size W2 w'
theorem ShA.keep {I:World}{l:List Int}{m H G:Nat}{W w':World}(E:ShA I l m H G W)(F:Below W.heap.size W w'):ShA I l m H G w':=
 ⟨E.lens,E.lo,VG E.hi F.size,E.row.below F E.hi,E.bel.trans (F.mono E.bel.size)⟩
theorem B7 (a:Option Addr)(O ac:Nat)(ts:List Tk)(w:World)(a9:ts.length=O)(bm:O<=3000)(aj:∀t∈ts,VT t)(a4:TokIn w a ts):
 Calls Tryz.prog 183 #[.slice a O ac] w fun e w'=>∃b1 n1 b2 n2,e=.returned (.agg #[.slice a O ac,.slice (some ⟨b1,0,none⟩) n1 286,.slice (some ⟨b2,0,none⟩) n2 30])/\PlanIs w' a O b1 n1 b2 n2 ts (TS ts) (Z1n ts)/\w.heap.size<=b1/\w.heap.size<=b2/\Below w.heap.size w w':=by
 have bh:=Ab (fun X:Obj=>QI a O ac ts (w.alloc X) a9 bm aj (a4.alloc X));have ah:=A5 (ts:=ts) (by omega);have az:=L9 (ts:=ts) (by omega);have al:=Li (itsOf ts);have ay:=Mo (itsOf ts);have ak:Hid (IsLens (symC (itsOf ts)) 15 (lensD (symC (itsOf ts)) 15)->IsLens (farC (itsOf ts)) 15 (lensD (farC (itsOf ts)) 15)->Dyn ts (TS ts) (Z1n ts)):=fun bb U=>Z76 aj (by omega) bb U
 have dc:=Ab a9;have dm:=Ab aj;have bk:=Ab a4;obtain⟨n1,cg⟩:=exq (Gu (lensD (symC (itsOf ts)) 15) 257 286);obtain⟨n2,b8⟩:=exq (Gu (lensD (farC (itsOf ts)) 15) 1 30);have bg:=Ab cg;have a7:=Ab b8;have bf:trimL (lensD (symC (itsOf ts)) 15) 257=TS ts:=rfl;have ba:trimL (lensD (farC (itsOf ts)) 15) 1=Z1n ts:=rfl;have aw:Hid (∀Z aa,IsLens (symC (itsOf ts)) 15 Z->IsLens (farC (itsOf ts)) 15 aa->Z.length=286/\aa.length=30):=fun Z aa bb U=>⟨by have:=(Jd ah bb).2.1;omega,by have:=(Jd az U).2.1;omega⟩
 obtain⟨G,b3⟩:=exq (symC (itsOf ts));obtain⟨I,b7⟩:=exq (farC (itsOf ts));rw[b3]at bh ah al ak bg bf aw;rw[b7]at bh az ay ak a7 ba aw;have dh:=Ab ah;have co:=Ab az;have bq:=Ab bf;have ci:=Ab ba;clear a4 aj a9 ah az cg b8 bf ba b3 b7;have c9:(Tryz.prog.info? 297).map (·.size)=some (iv G).toArray.size:=by rw[Y4];simp[al]
 have cw:(Tryz.prog.info? 298).map (·.size)=some (iv I).toArray.size:=by rw[OM];simp[ay]
 go_enter Tryz.func183,Tryz.ntmps183
 go_wp2_with fail
 refine(Aa bh _).mono ?_;rintro e F ⟨rfl,av⟩;have db:=av.size;simp only[World.size_alloc]at db;have b9:F.heap[w.heap.size]? =some (.cells #[.slice none 0 0,.slice none 0 0,.slice none 0 0] 256 (0,0)):=(av.block _ (by simp)).trans (heap_alloc_new _ _);have df:=Ab b9;have c7:Hid (Below w.heap.size w F):=Ab (((Below.refl w.heap.size w).alloc (VB _) _).trans (av.mono (by simp)));clear av b9;have Z:((F.alloc (.cells (iv (List.replicate 286 0)).toArray 297)).alloc (.cells (iv (List.replicate 30 0)).toArray 298)).heap[F.heap.size]? =some (.cells (iv (List.replicate 286 0)).toArray 297 (0,0)):=(Below.heap_alloc _ _ _ (by simp)).trans (heap_alloc_new _ _)
 have aa:(((F.alloc (.cells (iv (List.replicate 286 0)).toArray 297)).alloc (.cells (iv (List.replicate 30 0)).toArray 298)).setRow F.heap.size (iv G).toArray).heap[F.heap.size+1]? =some (.cells (iv (List.replicate 30 0)).toArray 298 (0,0)):=by
  rw[Go.setRow_other _ _ _ _ (by omega)];have e:F.heap.size+1=(F.alloc (.cells (iv (List.replicate 286 0)).toArray 297)).heap.size:=by simp
  rw[e];exact heap_alloc_new _ _
 have cd:=Ab Z;have ce:=Ab aa;have ax:=Ab (fun x y=>Jt w F x y 297 298 G I (Aa c7) (by simp));have bu:=Ab (fun x y=>Jt F F x y 297 298 G I (Below.refl _ _) (by simp));clear Z aa;go_upto_region 2 with (first|refine wpList_store_row rfl 297 (.tmp 3) (.tmp 8) rfl F.heap.size _ rfl rfl 297 (iv (List.replicate 286 0)).toArray (Aa cd) c9 (by simp[al]) (Cy G) ?_|refine wpList_store_row rfl 298 (.tmp 4) (.tmp 9) rfl (F.heap.size+1) _ rfl rfl 298 (iv (List.replicate 30 0)).toArray (Aa ce) cw (by simp[ay]) (Cy I) ?_)
 simp only[Act.put];generalize ag:World.setRow (World.setRow (World.alloc (World.alloc _ _) _) _ _) _ _=W2;have ae:ARow 297 W2 F.heap.size G:=by rw[<-ag];exact(Aa ax _ _).1
 have Y:ARow 298 W2 (F.heap.size+1) I:=by rw[<-ag];exact(Aa ax _ _).2.1
 have ai:Below w.heap.size w W2:=by rw[<-ag];exact(Aa ax _ _).2.2
 have au:W2.heap[w.heap.size]? =some (.cells #[.slice none 0 0,.slice none 0 0,.slice none 0 0] 256 (0,0)):=by rw[<-ag];exact((Aa bu _ _).2.2.block _ (by omega)).trans (Aa df)
 have dv:=ai.size;have l1:=ae.lt;have l2:=Y.lt;have bz:=Ab (fun(W:World) (E:Below W2.heap.size W2 W)=>Ib (some ⟨F.heap.size,0,none⟩) 286 286 G 15 257 W al (.inr ⟨_,0,rfl,VG l1 E.size,ae.row.below E l1⟩) (Aa dh) (by decide) n1 bg);have b5:=Ab (fun(W:World) (E:Below W2.heap.size W2 W)=>Ib (some ⟨F.heap.size+1,0,none⟩) 30 30 I 15 1 W ay (.inr ⟨_,0,rfl,VG l2 E.size,Y.row.below E l2⟩) (Aa co) (by decide) n2 a7);have bo:=Ab ai;have bc:=Ab au;have bn:w.heap.size<W2.heap.size:=by omega
 clear ag ax bu cd ce ae Y ai au l1 l2
 have a5:=Ab (fun(W:World) (E:Below W2.heap.size W2 W)=>(Aa bz W E).mono (fun e w' (h:∃g,e=.returned (.slice (some ⟨g,0,none⟩) n1 286)/\IsLens G 15 (lensD G 15)/\W.heap.size<=g/\g<w'.heap.size/\Row .i64 w' g 0 (trimL (lensD G 15) 257)/\Below W.heap.size W w')=>(show (∃g,e=.returned (.slice (some ⟨g,0,none⟩) n1 286)/\ShA W2 G 15 257 g w'/\Below W.heap.size W w') from by
  obtain⟨g,ap,U,a8,bd,a3,af⟩:=h;exact⟨g,ap,⟨U,VU E.size a8,bd,a3,E.trans (af.mono E.size)⟩,af⟩)))
 have a2:=Ab (fun(W:World) (E:Below W2.heap.size W2 W)=>(Aa b5 W E).mono (fun e w' (h:∃g,e=.returned (.slice (some ⟨g,0,none⟩) n2 30)/\IsLens I 15 (lensD I 15)/\W.heap.size<=g/\g<w'.heap.size/\Row .i64 w' g 0 (trimL (lensD I 15) 1)/\Below W.heap.size W w')=>(show (∃g,e=.returned (.slice (some ⟨g,0,none⟩) n2 30)/\ShA W2 I 15 1 g w'/\Below W.heap.size W w') from by
  obtain⟨g,ap,U,a8,bd,a3,af⟩:=h;exact⟨g,ap,⟨U,VU E.size a8,bd,a3,E.trans (af.mono E.size)⟩,af⟩)))
 have cm:=Ab (fun(k:Nat)=>Aa a5 (W2.drewN k) (Ae (Below.refl _ _) k));have cp:=Ab (fun(k:Nat)=>Aa a2 (W2.drewN k) (Ae (Below.refl _ _) k));have dj:=Ab (fun(W:World) (g:Nat) (h:ShA W2 I 15 1 g W)=>Aa a5 W h.bel);have ck:=Ab (fun(W:World) (g:Nat) (h:ShA W2 G 15 257 g W)=>Aa a2 W h.bel)
 have bw:Hid (∀W',Below W2.heap.size W2 W'->(W'.cell? ⟨w.heap.size,0,none⟩=some (.slice none 0 0)/\W'.cell? ⟨w.heap.size,1,none⟩=some (.slice none 0 0)/\W'.cell? ⟨w.heap.size,2,none⟩=some (.slice none 0 0))/\W'.frozen? ⟨w.heap.size,0,none⟩=false/\W'.frozen? ⟨w.heap.size,1,none⟩=false/\W'.frozen? ⟨w.heap.size,2,none⟩=false):=fun W' E=>by
  have d:W'.heap[w.heap.size]? =some (.cells #[.slice none 0 0,.slice none 0 0,.slice none 0 0] 256 (0,0)):=(E.block _ bn).trans (Aa bc);exact⟨⟨Ac d,Ac d,Ac d⟩,frozen_of_row W' w.heap.size 0 _ _ d,frozen_of_row W' w.heap.size 1 _ _ d,frozen_of_row W' w.heap.size 2 _ _ d⟩
 have cz:Hid (∀W' ga gb,ShA W2 G 15 257 ga W'->ShA W2 I 15 1 gb W'->W'.heap[w.heap.size]? =some (.cells #[.slice none 0 0,.slice none 0 0,.slice none 0 0] 256 (0,0))/\PlanIs W' a O ga n1 gb n2 ts (TS ts) (Z1n ts)/\w.heap.size<=ga/\w.heap.size<=gb/\Below w.heap.size w W'/\w.heap.size≠ga/\w.heap.size≠gb):=fun W' ga gb T E=>by
  have ap:=T.lo;have e2:=E.lo;have b0:=Aa aw _ _ T.lens E.lens;have b4:Below w.heap.size w W':=(Aa bo).trans (T.bel.mono (by omega));have bv:=T.row;have bj:=E.row;rw[Aa bq]at bv;rw[Aa ci]at bj;refine⟨(T.bel.block _ bn).trans (Aa bc),⟨Aa dc,bm,Aa dm,(Aa bk).below b4 (VB _),Aa ak T.lens E.lens, ?_, ?_,T.hi,E.hi,bv,bj⟩,by omega,by omega,b4,by omega,by omega⟩
  . rw[<-Aa bq,Cg,b0.1];exact Aa bg
  . rw[<-Aa ci,Cg,b0.2];exact Aa a7
 clear bz b5 a5 a2 bo bc aw ak;generalize c6:F.heap.size+1=dt at*;generalize c5:F.heap.size=ds at*;clear c5 c6;go_region_with (first|(go_at_call 212;refine(Aa dj _ _ (Aa a6)).mono ?_;rintro e ar ⟨ga,rfl,H,M⟩;have ao:=Ab H;have bi:=Ab ((Aa a6).keep M);obtain⟨⟨cu,k1,k2⟩,de,dd,cv⟩:=Aa bw ar H.bel;clear H M a6)|(go_at_call 212;refine(Aa ck _ _ (Aa ao)).mono ?_;rintro e ar ⟨gb,rfl,H,M⟩;have bi:=Ab H;have c8:=Ab ((Aa ao).keep M);obtain⟨⟨cu,k1,k2⟩,de,dd,cv⟩:=Aa bw ar H.bel;clear H M ao)|(go_at_call 212;refine(Aa cm _).mono ?_;rintro e dq ⟨ga,rfl,H,M⟩;have ao:=Ab H;clear H M)|(go_at_call 212;refine(Aa cp _).mono ?_;rintro e dp ⟨gb,rfl,H,M⟩;have a6:=Ab H;clear H M))
 all_goals try go_wp2
 obtain⟨cn,a1,cj,di,da,dl,cq⟩:=Aa cz ar ga gb (Aa c8) (Aa bi);obtain⟨ae,Y,ai,au⟩:=Qe cn (.slice a O ac) (.slice (some ⟨ga,0,none⟩) n1 286) (.slice (some ⟨gb,0,none⟩) n2 30);refine bodyPost_ret (v:=.agg #[.slice a O ac,.slice (some ⟨ga,0,none⟩) n1 286,.slice (some ⟨gb,0,none⟩) n2 30]) ?_ rfl ⟨ga,n1,gb,n2,rfl,a1.keep (by omega) (fun b o ea ct hb=> ?_) (Y ga a1.m1 (fun e=>dl e.symm)) (Y gb a1.m2 (fun e=>cq e.symm)),cj,di,au da (VB _)⟩
 . exact results_cell_row rfl _ _ _ _ _ _ _ rfl ae Tryz.underlying256 rfl (by kernel_rfl)
 . rcases Aa bk with h|⟨du,dn,cy,dr,_⟩
   . exact absurd h ct
   . rw[cy]at ea
     cases ea
     exact Y b hb (by omega)
end Go.Proofs.YtleocpdblhbimaaGreatDoor
