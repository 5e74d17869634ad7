import Derived.Test.YtleocpdblhbimaaGreatDoorQ33
import Derived.Deep.CutBlock
set_option linter.unusedSimpArgs false
set_option maxHeartbeats 2000000
namespace Go.Proofs.YtleocpdblhbimaaGreatDoor
open Go.RowKit
set_option linter.unusedVariables false
set_option maxRecDepth 100000
theorem LW (is:List (Nat×Nat×Nat))(i:Nat×Nat×Nat):Yz (is++ [i])=Tb (Yz is) i.1:=by
 unfold Yz Cq;simp[List.foldl_append]
theorem Z3w (is:List (Nat×Nat×Nat))(k:Nat):(Yz is).getD k 0<=is.length/\0<=(Yz is).getD k 0:=by
 by_cases F:k<19
 . unfold Yz;rw[Gs _ _ k (by simpa using F),Iv];have E:=YI (a:=k) (l:=is.map Prod.fst);rw[WL]at E;omega
 . have:(Yz is).getD k 0=0:=by
    simp only[List.getD];rw[WJ (by rw[Ov];omega)];rfl
   omega
theorem V0 (T:TypeId)(E k:Nat)(n s:Int)(xs:List Int)(W:World)(G:T=321)(F:ARow T W E xs)(M:xs.length=19)(O:k<19)(I:0<=xs.getD k 0/\xs.getD k 0<=1000000):
 Calls Tryz.prog 244 #[.int .i64 (k:Int),.int .i64 n,.int .i64 s,.pointer (some ⟨E,0,none⟩)] W fun e w'=>e=.returned (.tuple #[])/\w'=W.setCell ⟨E,k,none⟩ (.int .i64 (xs.getD k 0+1)):=by
 have c:=F.cell k (by omega);have f:=F.frozen k;have H:(k:Int)<19:=by omega
 clear F G;generalize xs.getD k 0=x at*;go_enter Tryz.func244,Tryz.ntmps244
 go_wp2;go_end0
 exact⟨rfl,rfl⟩
theorem Z1z (E:Nat)(F:List (Nat×Nat×Nat))(M:∀i∈F,i.1<19)(U:F.length<=100000):
 Snk3 (fun is W=>ARow 321 W E (Yz is)) (fun W W'=>Below E W W') 244 #[.pointer (some ⟨E,0,none⟩)] F:=by
 refine⟨Gg Tryz.func244 (by kernel_rfl) rfl, ?_,fun W=>Below.refl _ _,fun q h=>h,fun W q=>Ae (Below.refl _ _) q,fun h k=>h.trans k⟩;intro is R i W H G;have I:=congrArg List.length H;rw[VE,VJ]at I;have O:=M i (by rw[<-H];simp);have T:=Z3w is i.1;have Y:=G.lt;refine(V0 _ E i.1 i.2.1 i.2.2 (Yz is) W rfl G (Ov is) O ⟨T.2,by omega⟩).mono ?_;rintro e W' ⟨rfl,rfl⟩;refine⟨rfl, ?_, ?_⟩
 . rw[LW];exact G.set i.1 _
 . exact(Below.refl E W).grown (Ad W E i.1 _) (by omega) (fun j e=>by rw[<-VM e];exact VB _)
theorem U9 (No:Nat->Prop)(B aa M U T O F:Nat)(a:Option Addr)(ae:Nat)(E:List Int)(k n s:Nat)(S:List Bool)(W:World)(ag:CIs No W U T O F a 19 ae E)(au:E.length=19)(I:Good E)(av:k<19)(al:0<E.getD k 0)(aj:n<65536)(ao:s<=16)(h:RIs No B W F S)(az:S.length<=290000)(Z:∀g,W.heap.size<=g->¬No g)
 (a1:W.cell? ⟨aa,0,none⟩=some (CV U T O)) (ar:W.cell? ⟨M,0,none⟩=some (.pointer (some ⟨F,0,none⟩))) (Y:M<W.heap.size/\No M):
 Calls Tryz.prog 245 #[.int .i64 (k:Int),.int .i64 (n:Int),.int .i64 (s:Int),.pointer (some ⟨aa,0,none⟩),.pointer (some ⟨M,0,none⟩)] W fun e w'=>e=.returned (.tuple #[])/\Rp No B W F (S++Z40 E (k,n,s)) w':=by
 have af:=Pp E I k;have ak:=(I.ok k (by omega)).2;have ap:=Ab (Yo No No B U T O F a 19 ae E k S W ag au I av al h (by omega) Z);have ai:=Ab (fun H (G:Rp No B W F (S++codeT E k) H)=>Dp No B F n s (S++codeT E k) H G.is aj ao (by rw[VE,af];omega) (fun g ay=>Z g (by have:=G.below.size;omega)));have aw:=Ab (fun H (G:Rp No B W F (S++codeT E k) H)=>G.kp.cell Y.1 Y.2 ar);clear ag h Z af ak I Y;go_enter Tryz.func245,Tryz.ntmps245
 go_wp2_with fail
 refine(Aa ap).mono ?_;rintro e H ⟨rfl,G⟩;have c1:=Aa aw H G;have ac:=Ab G;clear G;go_wp2_with fail
 refine(Aa ai H (Aa ac)).mono ?_;rintro e a2 ⟨rfl,ah⟩;have ax:=Ab ah;clear ah;go_wp2;go_end0
 refine⟨rfl, ?_⟩;unfold Z40;rw[<-VS];exact(Aa ac).trans (Aa ax)
theorem Qr (x:Nat):∀f m,∀i∈He x f m,i.2.1<128/\i.2.2<=7
 |0,m,i,h=>by cases h
 |f+1,m,i,h=>by
  rw[He]at h;have ih:=Qr x f
  split at h
  . cases h
  . split at h
    . rcases WH.1 h with rfl|h
      . exact⟨Nat.zero_lt_succ _,VH _⟩
      . exact ih _ i h
    . split at h
      . rcases WH.1 h with rfl|h
        . constructor<;>simp only<;>omega
        . exact ih _ i h
      . split at h
        . rcases WH.1 h with rfl|h
          . constructor<;>simp only<;>omega
          . exact ih _ i h
        . rcases WH.1 h with rfl|h
          . constructor<;>simp only<;>omega
          . exact ih _ i h
theorem F6:∀(f:Nat) (l:List Int),∀i∈Xv f l,i.2.1<128/\i.2.2<=7
 |0,l,i,hi=>by cases hi
 |f+1,[],i,hi=>by cases hi
 |f+1,x::r,i,hi=>by
  have e:Xv (f+1) (x::r)=Qt x.toNat (Cp x r+1)++Xv f (r.drop (Cp x r)):=rfl;rw[e]at hi
  rcases WP.1 hi with hi|hi
  . unfold Qt at hi
    split at hi
    . rcases WH.1 hi with rfl|h
      . exact⟨Nat.zero_lt_succ _,VH _⟩
      . exact Qr _ _ _ i h
    . exact Qr _ _ _ i hi
  . exact F6 f _ i hi
structure LJ (No:Nat->Prop)(B gp gb gc gl gr rb:Nat)(a:Option Addr)(cap:Nat)(own:List Int)(S:List Bool)(is:List (Nat×Nat×Nat))(W:World):Prop where
 row:RIs No B W rb (S++putRs own is)
 c:CIs No W gc gl gr rb a 19 cap own
 p:W.cell? ⟨gp,0,none⟩=some (CV gc gl gr)
 b:W.cell? ⟨gb,0,none⟩=some (.pointer (some ⟨rb,0,none⟩))
 lp:gp<W.heap.size/\No gp
 lb:gb<W.heap.size/\No gb
 no:∀g,W.heap.size<=g->¬No g
theorem Z09 (No:Nat->Prop)(B M T ae aa Z Y:Nat)(a:Option Addr)(ag:Nat)(F:List Int)(S:List Bool)(G:List Int)(I:Own G F)(ao:G.length<=1000)(ak:S.length<=280000):
 Snk3 (LJ No B M T ae aa Z Y a ag F S) (fun W W'=>Below B W W'/\Kp No W W') 245 #[.pointer (some ⟨M,0,none⟩),.pointer (some ⟨T,0,none⟩)] (lenIs G):=by
 refine⟨Gg Tryz.func245 (by kernel_rfl) rfl, ?_,fun W=>⟨Below.refl _ _,Kp.refl _ _⟩,fun q h=>⟨h.row.drewN q,h.c.keep (VB _) (fun _ _ _=>rfl),h.p,h.b,h.lp,h.lb,h.no⟩,fun W q=>⟨Ae (Below.refl _ _) q,fun _ _ _=>rfl⟩,fun h k=>⟨h.1.trans k.1,h.2.trans k.2 h.1.size⟩⟩;intro is R i W U E;have af:=I.has i (by rw[<-U];simp);have hr:=F6 G.length G i (by show i∈lenIs G;rw[<-U];simp);have ah:=(Lz F I.go (fun k=>(I.vo k).2) G.length G).1
 have al:(putRs F is).length<=7*G.length:=by
  have e:putRs F (lenIs G)=putRs F is++putRs F (i::R):=by rw[<-U,Qx]
  have aj:(putRs F (lenIs G)).length<=7*G.length:=ah;rw[e,VE]at aj;omega
 obtain⟨k,n,s⟩:=i;have ai:=I.lo;refine(U9 No B M T ae aa Z Y a ag F k n s (S++putRs F is) W E.c I.lo I.go (by rw[<-ai];exact af.1) af.2 (by have:=hr.1;simp only at this;omega) (by have:=hr.2;simp only at this;omega) E.row (by rw[VE];omega) E.no E.p E.b E.lb).mono ?_;rintro e W' ⟨rfl,H⟩;have O:=H.below.size;have e:putRs F (is++ [(k,n,s)])=putRs F is++Z40 F (k,n,s):=by rw[Qx];simp[putRs]
 refine⟨rfl,⟨?_,E.c.keep O (fun g ac hn=>H.kp g ac hn),H.kp.cell E.lp.1 E.lp.2 E.p,H.kp.cell E.lb.1 E.lb.2 E.b,⟨VG E.lp.1 O,E.lp.2⟩,⟨VG E.lb.1 O,E.lb.2⟩,fun g ac=>E.no g (by omega)⟩,H.below,H.kp⟩;rw[e,<-VS];exact H.is
theorem X0 {j:Nat}(E:j<19):SE.getD j 0=((ord19.getD j 0:Nat):Int)/\ord19.getD j 0<19:=by
 have:(List.range 19).all (fun j=>SE.getD j 0==((ord19.getD j 0:Nat):Int)&&decide (ord19.getD j 0<19))=true:=by decide
 have:=WX.1 this j (by simpa using E)
 simpa using this
theorem Um (l:List Int)(n:Nat):Gu l n n=n:=by
 cases n with
 |zero=>rfl
 |succ n=>rw[Gu,if_neg (fun h=>by omega)]
theorem Yt (H G:Nat)(F E:List Int):Jp [(H,F),(G,E)] 2=F++E:=by simp[Jp]
theorem FG {w:World}{B n c E:Nat}{xs:List Int}(G:w.ownsRow B 3 1 (.slice (some ⟨E,0,none⟩) n c) n (iv xs))(H:xs.length=n):Row .i64 w E 0 xs:=by
 intro j F;rw[WG];have:=G.cellAt j (by omega)
 rw[this];simp[iv,List.getD,F]
theorem Z46 {w:World}{B e n c F:Nat}{xs:List Value}(I:w.ownsRow B e 1 (.slice (some ⟨F,0,none⟩) n c) n xs):n<=c:=by
 rcases I.2 with ⟨E,H⟩|⟨M,cap,cur,E,H,G⟩
 . cases E
 . cases E
   exact G.2.1
theorem Ti (No:Nat->Prop)(B E bd I e5 a6 O en:Nat)(T U:List Int)(S:List Bool)(w:World)(h:RIs No B w E S)(dh:T.length=I)(d7:U.length=O)(ik:257<=I)(ic:I<=286)(ia:1<=O)(ig:O<=30)(gn:bd<w.heap.size)(di:a6<w.heap.size)(eb:Row .i64 w bd 0 T)(dn:Row .i64 w a6 0 U)(bb:∀x∈T++U,0<=x/\x<=15)(il:S.length<=277000)(fo:∀g,w.heap.size<=g->¬No g):
 Calls Tryz.prog 213 #[.pointer (some ⟨E,0,none⟩),.slice (some ⟨bd,0,none⟩) I e5,.slice (some ⟨a6,0,none⟩) O en] w fun e w'=>e=.returned (.tuple #[])/\Own (T++U) (MX (T++U))/\Rp No B w E (S++Rw T U (MX (T++U))) w':=by
 have cd:=Ab h;have bh:=Ab dh;have b5:=Ab d7;have ha:=Ab eb;have g0:=Ab dn;have a7:=Ab bb;have gz:=Ab fo;clear h dh d7 eb dn bb fo;obtain⟨all,a9⟩:=exq (T++U);rw[a9]at a7;have fe:all.length=I+O:=by rw[<-a9,VE,Aa bh,Aa b5]
 have e1:=Ab a9;have ah:=Ab fe;clear fe;rw[a9];clear a9;obtain⟨own,cw⟩:=exq (MX all);rw[cw];have gq:=Ab cw;clear cw;obtain⟨N,dt⟩:=exq (I+O);have ir:258<=N/\N<=316:=by omega
 have ag:=Ab dt;clear dt;obtain⟨az,bv⟩:=exq (SE);have f7:=Ab bv;have hj:=Ab (fun W=>by have:=D5 W;rw[bv]at this;exact this);have fg:az.length=19:=by rw[<-bv];rfl
 have gy:(Tryz.prog.info? 321).map (·.size)=some (iv az).toArray.size:=by rw[ON];simp[fg]
 clear bv;go_enter Tryz.func213,Tryz.ntmps213
 go_wp2_with fail
 refine(Vx (w.heap.size+1) 0 2 2 (fun j=>if j=0 then e5 else en) [(bd,T),(a6,U)] _ (by simp) ?_ ?_ ?_ ?_ (by decide)).mono ?_
 . intro j aj
   rcases(by omega:j=0\/j=1)with rfl|rfl
   . simp[Aa bh]
   . simp[Aa b5]
 . intro j aj
   rcases(by omega:j=0\/j=1)with rfl|rfl
   . exact .inr ⟨bd,0,rfl,by simp;omega,(((Aa ha).alloc gn _).alloc (by simp;omega) _)⟩
   . exact .inr ⟨a6,0,rfl,by simp;omega,(((Aa g0).alloc di _).alloc (by simp;omega) _)⟩
 . intro k f9;have aw:=Aa bh;have e2:=Aa b5
   rcases(by omega:k=0\/k=1\/k=2)with rfl|rfl|rfl
   . simp[Jp]
   . simp[Jp];omega
   . rw[Yt,VE];omega
 . have aw:=Aa bh;rw[Yt,VE];omega
 rw[Yt,Aa e1,Aa ah,Aa ag];rintro e b3 ⟨v,rfl,b4,bn⟩;obtain⟨g6,d5,rfl,gv,hh⟩:=Ba b4 (by omega);have e7:=FG b4 (by rw[Aa ah,Aa ag]);have dp:=Z46 b4;have hq:=bn.size;simp only[World.size_alloc]at hq gv;have et:Below w.heap.size w b3:=(((Below.refl w.heap.size w).alloc (VB _) _).alloc (by simp) _).trans (bn.mono (by simp;omega));have d8:b3.cell? ⟨w.heap.size,0,none⟩=some (.pointer (some ⟨E,0,none⟩)):=(bn.cell (p:=⟨w.heap.size,0,none⟩) (by simp;omega)).trans (by simp);have dq:=Ab e7;have ek:=Ab et;clear b4 bn e7 et;go_wp2_with fail
 refine(Aa hj _).mono ?_;rintro e aa ⟨rfl,b8⟩;have h7:=b8.size;have c7:=Ab b8;have e4:(aa.alloc (.cells (iv (List.replicate 19 0)).toArray 321)).heap[aa.heap.size]? =some (.cells (iv (List.replicate 19 0)).toArray 321 (0,0)):=heap_alloc_new _ _;have cv:=Ab e4;clear b8 e4;go_upto_region 3 with (refine wpList_store_row rfl 321 (.tmp 7) (.tmp 17) rfl aa.heap.size _ rfl rfl 321 (iv (List.replicate 19 0)).toArray (Aa cv) gy (by simp[fg]) (Cy az) ?_)
 simp only[Act.put];generalize bi:World.setRow (World.alloc _ _) _ _=Z;have ed:ARow 321 Z aa.heap.size az:=by rw[<-bi];exact setRow_heap _ _ _ _ _ _ (Aa cv)
 have db:Below w.heap.size w Z:=by rw[<-bi];exact Bg (((Aa ek).trans ((Aa c7).mono (by omega))).alloc (by omega) _) (by omega) _
 have co:Below b3.heap.size b3 Z:=by rw[<-bi];exact Bg ((Aa c7).alloc (by omega) _) (by omega) _
 have hz:aa.heap.size<Z.heap.size:=by rw[<-bi];simp
 clear bi;have de:Z.cell? ⟨w.heap.size,0,none⟩=some (.pointer (some ⟨E,0,none⟩)):=(co.cell (p:=⟨w.heap.size,0,none⟩) (by show w.heap.size<_;omega)).trans d8;have cq:Hid (Row .i64 Z g6 0 all):=Ab ((Aa dq).below co hh);have du:=Ab ed;have dc:=Ab db;clear ed db co d8 cv c7 ek dq;go_wp2_with fail
 refine(Ja _ _ _ _ g6 0 N d5 all _ (Z1z Z.heap.size (lenIs all) (Xu _ all (Aa a7)) ?_) (by rw[Aa ah,Aa ag]) (by omega) dp (Aa a7) ?_ ?_).mono ?_
 . have:=F5 all
   rw[Aa ah,Aa ag]at this;omega
 . intro W ao;exact((Aa cq).alloc (by omega) _).below ao (by omega)
 . exact(heap_alloc_new _ _).trans (by kernel_rfl)
 rintro e bg ⟨rfl,fk,ay⟩;have hs:=ay.size;simp only[World.size_alloc]at hs;have bm:Hid (Row .i64 bg g6 0 all):=Ab (((Aa cq).alloc (by omega) _).below ay (by omega));have df:Hid (ARow 321 bg aa.heap.size az):=Ab ((Aa du).keep ((ay.block _ (by omega)).trans (Below.heap_alloc Z _ _ (by omega))));have e9:Hid (Below w.heap.size w bg):=Ab (((Aa dc).alloc (by omega) _).trans (ay.mono (by omega)));have c8:bg.cell? ⟨w.heap.size,0,none⟩=some (.pointer (some ⟨E,0,none⟩)):=(ay.cell (p:=⟨w.heap.size,0,none⟩) (by show w.heap.size<_;omega)).trans ((World.cell?_alloc_past _ _ _ (by show w.heap.size<_;omega)).trans de);have cj:=Ab fk;clear fk ay de du dc cq;have dx:GoodW (Yz (lenIs all)) 7:=C0 (by rw[Aa ah,Aa ag];omega);have ff:=Ab (Ib (some ⟨Z.heap.size,0,none⟩) 19 19 (Yz (lenIs all)) 7 19 bg (Ov _) (.inr ⟨_,0,rfl,(Aa cj).lt,(Aa cj).row⟩) dx (VB _) 19 (Ab (Um _ _)));clear dx;go_wp2_with fail
 refine(Aa ff).mono ?_;rintro e F ⟨bj,rfl,dj,im,ij,bk,a2⟩;have a4:=Z6g (by rw[Aa ah,Aa ag];omega) (Aa a7) dj;have e0:lensD (Yz (lenIs all)) 7=own:=Aa gq;rw[e0]at a4 bk;clear dj e0 ff
 have aw:trimL own 19=own:=by
  unfold trimL;rw[a4.lo,Um];exact VV (by rw[a4.lo];exact VB _)
 rw[aw]at bk;clear aw;have h9:=a2.size;have g9:Hid (ARow 321 F aa.heap.size az):=Ab ((Aa df).keep (a2.block _ (by omega)));have g4:Hid (Row .i64 F g6 0 all):=Ab ((Aa bm).below a2 (by omega));have cp:Hid (Below w.heap.size w F):=Ab ((Aa e9).trans (a2.mono (by omega)));have hv:F.cell? ⟨w.heap.size,0,none⟩=some (.pointer (some ⟨E,0,none⟩)):=(a2.cell (p:=⟨w.heap.size,0,none⟩) (by show w.heap.size<_;omega)).trans c8;have ak:=Ab a4;have ht:=Ab bk;clear a4 bk a2 c8 cj df bm e9;obtain⟨G,ba⟩:∃G:Nat->Prop,G=fun g=>No g\/ (w.heap.size<=g/\g<F.heap.size):=⟨_,rfl⟩
 have e6:∀g,F.heap.size<=g->¬G g:=by
  intro g H e;rw[ba]at e
  rcases e with e|e
  . exact Aa gz g (by omega) e
  . omega
 have em:RIs G B F E S:=(Aa cd).grow (Aa cp) (fun g e=>by
  rw[ba]at e
  rcases e with e|e
  . exact .inl e
  . exact .inr e.1)
 have da:∀g,w.heap.size<=g->g<F.heap.size->G g:=fun g af cn=>by rw[ba];exact .inr ⟨af,cn⟩
 have eu:∀g,No g->G g:=fun g af=>by rw[ba];exact .inl af
 have bf:=Ab e6;have al:=Ab da;have fu:=Ab eu;have g7:=Ab em;clear e6 da eu em ba
 have ci:∀W,Kp G F W->(W.cell? ⟨w.heap.size,0,none⟩=some (.pointer (some ⟨E,0,none⟩)))/\(∀q,q<19->W.cell? ⟨aa.heap.size,q,none⟩=some (.int .i64 ((ord19.getD q 0:Nat):Int)))/\(∀q,q<19->W.cell? ⟨bj,q,none⟩=some (.int .i64 (own.getD q 0))):=by
  intro W ao;refine⟨ao.cell (by omega) (Aa al _ (VB _) (by omega)) hv,fun q cm=> ?_,fun q cm=> ?_⟩
  . have:=(Aa g9).cell q (by omega)
    rw[<-Aa f7,(X0 cm).1]at this;exact ao.cell (by omega) (Aa al _ (by omega) (by omega)) this
  . have:=Aa ht q (by rw[(Aa ak).lo];exact cm)
    rw[WG]at this;exact ao.cell (by omega) (Aa al _ (by omega) (by omega)) this
 have cg:=Ab ci;obtain⟨f6,dd,dv⟩:=ci F (Kp.refl _ _);have f5:=Ab dd;have gx:=Ab dv;clear ci dd dv f6;obtain⟨M,ce⟩:=exq (W6 own 19);have h8:4<=M/\M<=19:=by rw[<-ce];exact⟨MW own 19 (by decide),W5 own 19⟩
 have ft:=Ab ce;clear ce;go_upto_block 0 with (fail)
 go_cut [10] (fun v wc=>v=.int .i64 (M:Int)/\F=wc)
 case first=>
  go_wp2;go_loop [10] (fun v=>∃k:Nat,4<=k/\k<=19/\v=.int .i64 (k:Int)/\Hid (W6 own k=M)) (fun v=>(intOf v).toNat)
  case atStart=>exact⟨19,by decide,by decide,rfl,ft⟩
  case round=>
   obtain⟨k,h3,ho,rfl,a3⟩:=hrel
   by_cases fi:4<k
   . obtain⟨q,rfl⟩:∃q,k=q+1:=⟨k-1,by omega⟩
     have bq:=Aa f5 q (by omega);have b0:=(X0 (j:=q) (by omega)).2;have ai:=Aa gx _ b0;have gi:(4:Int)<((q+1:Nat):Int):=by omega
     have iq:(((q+1:Nat):Int)-1).toNat=q:=by omega
     have h4:(0:Int)<=((q+1:Nat):Int)-1:=by omega
     have ip:((q+1:Nat):Int)-1<(19:Int):=by omega
     have g5:((ord19.getD q 0:Nat):Int)<19:=by omega
     by_cases a1:own.getD (ord19.getD q 0) 0=0
     . rw[a1]at ai;have a8:Hid (W6 own q=M):=Ab (by have:=Aa a3;rw[W6,if_pos ⟨fi,a1⟩]at this;exact this);clear a1 a3;generalize ord19.getD q 0=c6 at*;go_wp2;go_round
       case rel=>exact⟨q,by omega,by omega,by go_num,a8⟩
       case measure=>simp[intOf]
     . have a8:Hid (q+1=M):=Ab (by have:=Aa a3;rw[W6,if_neg (fun h=>a1 h.2)]at this;exact this);have hb:(own.getD (ord19.getD q 0) 0==0)=false:=by rw[beq_eq_false_iff_ne];exact a1
       generalize own.getD (ord19.getD q 0) 0=x at ai hb;generalize ord19.getD q 0=c6 at*;clear a1 a3;go_wp2;go_meet
       exact⟨by rw[<-Aa a8];go_num,rfl⟩
   . have a8:Hid (k=M):=Ab (by
      have:=Aa a3
      cases k with
      |zero=>rw[W6]at this;exact this
      |succ k=>rw[W6,if_neg (fun h=>fi h.1)]at this;exact this)
     have gi:¬(4:Int)<(k:Int):=by omega
     clear a3;go_wp2;go_meet
     exact⟨by rw[<-Aa a8],rfl⟩
 case rest=>
  obtain⟨rfl,rfl⟩:=hcut;have ie:=(Aa cd).base;have ib:=(Aa cd).lt;have ck:=Dp G B E (I-257) 5 S F (Aa g7) (by omega) (by decide) (by omega) (Aa bf);rw[show ((I-257:Nat):Int)=(I:Int)-257 by omega]at ck;have fp:=Ab ck;clear ck;go_wp2_with fail
  refine(Aa fp).mono ?_;rintro e eo ⟨rfl,a5⟩;have fx:=(Aa cg eo a5.kp).1;have b7:=Dp G B E (O-1) 5 (S++Al (I-257) 5) eo a5.is (by omega) (by decide) (by rw[VE,Ah];omega) (fun g H=>Aa bf g (by have:=a5.below.size;omega));rw[show ((O-1:Nat):Int)=(O:Int)-1 by omega]at b7;have dy:=Ab b7;have dr:=Ab a5;clear b7 a5 fp;go_wp2_with fail
  refine(Aa dy).mono ?_;rintro e e8 ⟨rfl,ey⟩;have bc:=(Aa dr).trans ey;have gh:=(Aa cg e8 bc.kp).1;have c5:=Dp G B E (M-4) 4 (S++Al (I-257) 5++Al (O-1) 5) e8 bc.is (by omega) (by decide) (by rw[VE,VE,Ah,Ah];omega) (fun g H=>Aa bf g (by have:=bc.below.size;omega));rw[show ((M-4:Nat):Int)=(M:Int)-4 by omega]at c5;have fh:=Ab c5;have d9:=Ab bc;clear c5 ey bc dy fx;go_wp2_with fail
  refine(Aa fh).mono ?_;rintro e w3 ⟨rfl,ej⟩;have cy:=(Aa d9).trans ej;obtain⟨av,bo⟩:=exq (S++Al (I-257) 5++Al (O-1) 5++Al (M-4) 4);rw[bo]at cy;have hx:av.length=S.length+14:=by rw[<-bo];simp[Ah]
  have hp:=Ab bo;have f8:=Ab cy;clear ej cy fh gh bo d9 dr;go_wp2;go_loopw [52] (fun v wr=>∃k:Nat,k<=M/\v=.int .i64 (k:Int)/\Hid (Rp G B F E (av++(ord19.take k).flatMap (fun j=>Al (own.getD j 0).toNat 3)) wr)) (fun v _=>M-(intOf v).toNat)
  case atStart=>exact⟨0,VH _,rfl,Ab (by simpa using Aa f8)⟩
  case round=>
   obtain⟨k,f9,rfl,cu⟩:=hrel;have Y:=Aa cu;obtain⟨d0,bq,ai⟩:=Aa cg wr Y.kp
   by_cases h5:k<M
   . have aw:=bq k (by omega);have b0:=(X0 (j:=k) (by omega)).2;have e2:=ai _ b0;have bw:=(Aa ak).vo (ord19.getD k 0)
     have ar:av++(ord19.take (k+1)).flatMap (fun j=>Al (own.getD j 0).toNat 3)=av++(ord19.take k).flatMap (fun j=>Al (own.getD j 0).toNat 3)++Al (own.getD (ord19.getD k 0) 0).toNat 3:=by
      have:ord19.take (k+1)=ord19.take k++ [ord19.getD k 0]:=by
       rw[XM];have gj:k<ord19.length:=by show k<19;omega
       simp[List.getD,gj]
      rw[this];simp
     have eg:=Pb own (ord19.take k);have hk:(ord19.take k).length<=19:=by rw[VL];exact Nat.min_le_right _ _
     obtain⟨fj,b9⟩:=exq (av++(ord19.take k).flatMap (fun j=>Al (own.getD j 0).toNat 3));have h1:fj.length<=S.length+71:=by rw[<-b9,VE,eg];omega
     rw[b9]at ar Y;obtain⟨c6,ew⟩:=exq (ord19.getD k 0);rw[ew]at aw b0 e2 bw ar;obtain⟨x,bb⟩:=WF bw.1;rw[bb]at e2 bw ar;rw[WM]at ar;have hf:=Ab (fun j=>Dp G B E x 3 fj (wr.drewN j) (Y.is.drewN j) (by omega) (by decide) (by omega) (fun g H=>Aa bf g (by have:=Y.below.size;have cn:wr.heap.size<=g:=H;omega)));have bm:=Ab (fun j=>Y.is.drew j);have hw:=Ab ar;have ap:=Ab Y;have g5:(c6:Int)<19:=by omega
     have ii:(k:Int)<(M:Int):=by omega
     have ho:(k:Int)<19:=by omega
     clear cu Y bq ai ar eg hk b9 ew bb bw;go_wp2;go_region_with (go_at_call 147;refine(Aa hf _).mono ?_;rintro e h0 ⟨rfl,ei⟩;have hu:=Ab ((Aa ap).trans ((Aa bm _).trans ei));clear ei)
     all_goals try go_wp2
     all_goals go_roundw
     all_goals first|exact⟨k+1,by omega,by go_num,Ab (by rw[Aa hw];exact Aa hu)⟩|(simp[intOf];omega)
   . obtain rfl:k=M:=by omega
     have gg:=Y.below.size;have dz:=Sp bj 0 E 19 19 own wr (Aa ak).lo (by decide) (by omega) (fun j aj=>by rw[WG];exact ai j (by rw[<-(Aa ak).lo];exact aj)) (Aa ak).go;have ee:=Ab dz;have ap:=Ab Y;clear cu Y bq ai dz;go_wp2_with fail
     refine(Aa ee).mono ?_;rintro e ac ⟨gc,gl,gr,rfl,dm,bu⟩;have iu:=bu.size;have gd:ac.cell? ⟨w.heap.size,0,none⟩=some (.pointer (some ⟨E,0,none⟩)):=(bu.cell (p:=⟨w.heap.size,0,none⟩) (by show w.heap.size<_;omega)).trans d0;have fy:=Ab dm;have ep:=Ab bu;clear dm bu d0 ee;obtain⟨ax,ae⟩:∃ax:Nat->Prop,ax=fun g=>G g\/ (wr.heap.size<=g/\g<ac.heap.size+1):=⟨_,rfl⟩
     have h6:F.heap.size<=wr.heap.size:=gg;obtain⟨au,bz⟩:=exq (av++(ord19.take k).flatMap (fun j=>Al (own.getD j 0).toNat 3))
     have h2:au.length<=278000:=by
      have af:=Pb own (ord19.take k);have cn:(ord19.take k).length<=19:=by rw[VL];exact Nat.min_le_right _ _
      rw[<-bz,VE,af];omega
     have dw:S++Rw T U own=au++putRs own (lenIs all):=by
      unfold Rw;rw[Aa bh,Aa b5,Aa e1,Aa ft,<-bz,<-Aa hp];simp[VS]
     rw[bz]at ap;have fw:=Ab dw;have g8:Hid (Row .i64 ac g6 0 all):=Ab (fun j aj=>(Aa ep).cell (p:=⟨g6,_,none⟩) (by show g6<_;omega)|>.trans ((Aa ap).kp.cell (by omega) (Aa al g6 (by omega) (by omega)) (Aa g4 j aj)));have ct:∀X:Obj,Below wr.heap.size wr (ac.alloc X):=fun X=>(Aa ep).alloc (by omega) X
     have d6:LJ ax B ac.heap.size w.heap.size gc gl gr E (some ⟨bj,0,none⟩) 19 own au [] (ac.alloc (.cells #[CV gc gl gr] 138)):=by
      refine⟨?_, ?_,by simp,(World.cell?_alloc_past _ _ _ (by show w.heap.size<_;omega)).trans gd,⟨by simp, ?_⟩,⟨by simp;omega, ?_⟩, ?_⟩
      . have e:au++putRs own []=au:=by simp[putRs]
        rw[e];refine(Aa ap).is.grow (ct _) (fun g e=> ?_);rw[ae]at e
        rcases e with e|e
        . exact .inl e
        . exact .inr e.1
      . refine((Aa fy).bound.keep (by simp) (fun g H _=>Below.heap_alloc ac _ g H)).more (fun g hb=> ?_);rw[ae]
        rcases hb with ⟨hb|hb,di⟩
        . exact .inr ⟨hb,by omega⟩
        . rw[hb];exact .inl (Aa al bj (by omega) (by omega))
      . rw[ae];exact .inr ⟨by omega,by omega⟩
      . rw[ae];exact .inl (Aa al _ (VB _) (by omega))
      . intro g H e;simp only[World.size_alloc]at H;rw[ae]at e
        rcases e with e|e
        . exact Aa bf g (by omega) e
        . omega
     have eh:ax g6:=by rw[ae];exact .inl (Aa al g6 (by omega) (by omega))
     have fm:∀g,G g->ax g:=fun g H=>by rw[ae];exact .inl H
     have gu:=Ab d6;have hg:=Ab eh;have c9:=Ab fm;have ds:=Ab ct;clear ae d6 eh fm ct bz dw;go_wp2_with fail
     refine(Ja _ _ _ _ g6 0 N d5 all _ (Z09 ax B ac.heap.size w.heap.size gc gl gr E (some ⟨bj,0,none⟩) 19 own au all (Aa ak) (by rw[Aa ah,Aa ag];omega) (by omega)) (by rw[Aa ah,Aa ag]) (by omega) dp (Aa a7) ?_ (Aa gu)).mono ?_
     . intro W ao j aj;exact ao.2.cell (by simp;omega) (Aa hg) ((World.cell?_alloc_past _ _ _ (by show g6<_;omega)).trans (Aa g8 j aj))
     rintro e f4 ⟨rfl,dl,cz,fq⟩
     have f3:Hid (Rp No B w E (S++Rw T U own) f4):=by
      have gw:=cz.size;simp only[World.size_alloc]at gw;refine⟨?_, ?_, ?_⟩
      . rw[Aa fw];exact dl.row.grow (Below.refl _ _) (fun g e=>.inl (Aa c9 g (Aa fu g e)))
      . exact((Aa cp).mono (by omega)).trans ((Aa ap).below.trans (((Aa ds _).mono (by omega)).trans cz))
      . intro g H hn;have af:=Aa fu g hn;rw[fq g (by simp;omega) (Aa c9 g af),(Aa ds _).block g (by omega),(Aa ap).kp g (by omega) af];exact(Aa cp).block g H
     clear dl cz fq;go_wp2;go_end0
     exact⟨rfl,Aa ak,Aa f3⟩
theorem Z2b {w w':World}{a:Option Addr}{ts:List Tk}(F:TokIn w a ts)(U:w.heap.size<=w'.heap.size)(H:∀b o,a=some ⟨b,o,none⟩->ts≠ []->b<w.heap.size->w'.heap[b]? =w.heap[b]?):TokIn w' a ts:=by
 by_cases e:ts= []
 . exact .inl e
 . rcases F with F|⟨b,o,rfl,hb,T⟩
   . exact absurd F e
   . have E:=H b o rfl e hb;refine .inr ⟨b,o,rfl,by omega,fun j I=> ?_⟩;obtain⟨G,O,M⟩:=T j I;exact⟨(World.cell?_of_block (w:=w) (a:=⟨b,_,none⟩) E).trans G,(World.cell?_of_block (w:=w) (a:=⟨b,_,none⟩) E).trans O,(World.cell?_of_block (w:=w) (a:=⟨b,_,none⟩) E).trans M⟩
theorem BM {w w':World}{b o:Nat}{l:List Int}(E:Row .i64 w b o l)(F:w'.heap[b]? =w.heap[b]?):Row .i64 w' b o l:=fun j G=>(World.cell?_of_block (w:=w) (a:=⟨b,_,none⟩) F).trans (E j G)
structure PlanIs (w:World)(a:Option Addr)(len b1 n1 b2 n2:Nat)(ts:List Tk)(l1 l2:List Int):Prop where
 tl:ts.length=len
 tm:len<=3000
 tv:∀t∈ts,VT t
 tok:TokIn w a ts
 d:Dyn ts l1 l2
 k1:l1.length=n1
 k2:l2.length=n2
 m1:b1<w.heap.size
 m2:b2<w.heap.size
 r1:Row .i64 w b1 0 l1
 r2:Row .i64 w b2 0 l2
theorem PlanIs.keep {w w':World}{a:Option Addr}{I G T F M:Nat}{ts:List Tk}{O U:List Int}(E:PlanIs w a I G T F M ts O U)(H:w.heap.size<=w'.heap.size)(Y:∀b o,a=some ⟨b,o,none⟩->ts≠ []->b<w.heap.size->w'.heap[b]? =w.heap[b]?)(Z:w'.heap[G]? =w.heap[G]?)(aa:w'.heap[F]? =w.heap[F]?):PlanIs w' a I G T F M ts O U:=
 ⟨E.tl,E.tm,E.tv,Z2b E.tok H Y,E.d,E.k1,E.k2,VG E.m1 H,VG E.m2 H,BM E.r1 Z,BM E.r2 aa⟩
theorem PlanIs.below {w w':World}{a:Option Addr}{G U M O H:Nat}{ts:List Tk}{I T:List Int}(F:PlanIs w a G U M O H ts I T)(E:Below w.heap.size w w'):PlanIs w' a G U M O H ts I T:=
 F.keep E.size (fun b o _ _ hb=>E.block b hb) (E.block _ F.m1) (E.block _ F.m2)
theorem Z43 {F E:List Int}{ts:List Tk}(d:Dyn ts F E):∀x∈F++E,0<=x/\x<=15:=by
 intro x G
 rcases WP.1 G with h|h
 . exact CY d.ga x h
 . exact CY d.gb x h
theorem Qz (No:Nat->Prop)(B Y:Nat)(a:Option Addr)(ae aj T ac ah U af ag:Nat)(ts:List Tk)(E F:List Int)(S:List Bool)(w:World)(h:RIs No B w Y S)(H:PlanIs w a ae T ac U af ts E F)(ay:∀b o,a=some ⟨b,o,none⟩->ts≠ []->No b)(av:No T)(au:No U)(bz:∀g,w.heap.size<=g->¬No g)(cd:S.length+60*ae<=277000):
 Calls Tryz.prog 186 #[.agg #[.slice a ae aj,.slice (some ⟨T,0,none⟩) ac ah,.slice (some ⟨U,0,none⟩) af ag],.pointer (some ⟨Y,0,none⟩)] w fun e w'=>e=.returned (.tuple #[])/\Own (E++F) (MX (E++F))/\Rp No B w Y (S++Ga E F ts) w':=by
 obtain⟨M,ao⟩:∃M:Nat->Prop,M=fun g=>No g\/g=w.heap.size:=⟨_,rfl⟩
 have a9:M w.heap.size:=by rw[ao];exact .inr rfl
 have aa:∀g,No g->M g:=fun g e=>by rw[ao];exact .inl e
 have az:∀g,w.heap.size<g->¬M g:=by
  intro g al e;rw[ao]at e
  rcases e with e|e
  . exact bz g (by omega) e
  . omega
 have a4:∀X:Obj,RIs M B (w.alloc X) Y S:=fun X=>h.grow ((Below.refl w.heap.size w).alloc (VB _) X) (fun g e=>by
  rw[ao]at e
  rcases e with e|e
  . exact .inl e
  . exact .inr (by omega))
 have k1:=H.k1;have k2:=H.k2;have d:=H.d;have la:=d.la;have la2:=d.la2;have lb:=d.lb;have lb2:=d.lb2;have a7:=Ab (fun X:Obj=>Ti M B Y T ac ah U af ag E F S (w.alloc X) (a4 X) k1 k2 (by omega) (by omega) (by omega) (by omega) (by have:=H.m1;simp;omega) (by have:=H.m2;simp;omega) (H.r1.alloc H.m1 X) (H.r2.alloc H.m2 X) (Z43 d) (by omega) (fun g al=>az g (by simp at al;omega)));have bk:=Ab (fun(X:Obj) (O:World) (bi:List Bool) (I:Rp M B (w.alloc X) Y bi O)=>(H.below ((Below.refl w.heap.size w).alloc (VB _) X)).keep I.below.size (fun b o ea ax hb=>I.kp b hb (aa b (ay b o ea ax))) (I.kp T (by have:=H.m1;simp;omega) (aa _ av)) (I.kp U (by have:=H.m2;simp;omega) (aa _ au)));have bh:Hid (∀b o,a=some ⟨b,o,none⟩->ts≠ []->M b):=fun b o e ax=>aa b (ay b o e ax)
 have bg:=Ab az;have aw:=Ab aa;have a2:=Ab a9;have bm:=Ab (aa _ av);have bv:=Ab (aa _ au);have bd:Hid (Good E/\Good F/\Has E F (itsOf ts)/\1<=E.length/\1<=F.length):=⟨d.ga,d.gb,d.has,by omega,by omega⟩
 have a6:S++Ga E F ts=S++Rw E F (MX (E++F))++putIs E F (itsOf ts):=by unfold Ga;rw[VS]
 rw[a6]
 have a3:Hid (Own (E++F) (MX (E++F))->(Rw E F (MX (E++F))).length<=2400):=fun bj=>by
  have:=J4 bj
  omega
 obtain⟨bo,a8⟩:=exq (Rw E F (MX (E++F)));rw[a8]at a7 a3 ⊢;have b8:=h.lt;have b5:=h.base;clear ao a9 aa az a4 k1 k2 d la la2 lb lb2 a6 a8 ay av au H h;go_enter Tryz.func186,Tryz.ntmps186
 go_wp2_with fail
 refine(Aa a7 _).mono ?_;rintro e O ⟨rfl,a1,I⟩;have ce:=Aa a3 a1;have b4:=Ab a1;clear a1 a3;have a5:=I.below.size;simp only[World.size_alloc]at a5;have G:=Aa bk _ O _ I;have bf:O.cell? ⟨w.heap.size,0,none⟩=some (.slice a ae aj):=I.kp.cell (by simp) (Aa a2) (by simp);have x1:O.cell? ⟨w.heap.size,1,none⟩=some (.slice (some ⟨T,0,none⟩) ac ah):=I.kp.cell (by simp) (Aa a2) (by simp);have x2:O.cell? ⟨w.heap.size,2,none⟩=some (.slice (some ⟨U,0,none⟩) af ag):=I.kp.cell (by simp) (Aa a2) (by simp);have Z:=Aa bd;have b3:=Ab (fun k=>Vd T 0 ac ah U 0 af ag Y E F (O.drewN k) G.k1 G.k2 (by rw[<-G.k1];exact Z.2.2.2.1) (by rw[<-G.k2];exact Z.2.2.2.2) G.m1 G.m2 G.r1 G.r2 Z.1 Z.2.1);have b0:=Ab (fun(w3:World) (gc gl gr hc hl hr:Nat) ak ar ap=>BT M B Y a ae aj ts (S++bo) T 0 ac ah U 0 af ag E F gc gl gr hc hl hr O O w3 I.is (VB _) ak ar ap (.inl (Aa bm)) (.inl (Aa bv)) G.k1 G.k2 Z.1 Z.2.1 Z.2.2.1 G.tl G.tm G.tv G.tok (Aa bh) (fun g al=>Aa bg g (by omega)) (by rw[VE];omega));have bu:=Ab I;clear I G Z;go_wp2;go_region_with (first|(go_at_call 182;refine(Aa b3 _).mono ?_;rintro e w3 ⟨gc,gl,gr,hc,hl,hr,rfl,ar,ap,ak⟩;have bb:=Ab ar;have bq:=Ab ap;have bn:=Ab ak;have b9:w3.cell? ⟨w.heap.size,0,none⟩=some (.slice a ae aj):=(ak.cell (p:=⟨w.heap.size,0,none⟩) a5).trans bf;clear ar ap ak)|(go_at_call 181;refine(Aa b0 w3 gc gl gr hc hl hr ((Ae (Below.refl _ _) _).trans (Aa bn)) (Aa bb) (Aa bq)).mono ?_;rintro e b7 ⟨rfl,ai⟩;have bc:=Ab ai;clear ai))
 all_goals try go_wp2
 all_goals go_end0
 all_goals refine⟨rfl,Aa b4, ?_⟩
 all_goals (
  have ba:=Aa bu;have ai:=Aa bc;have bw:Below B w (w.alloc (.cells #[.slice a ae aj,.slice (some ⟨T,0,none⟩) ac ah,.slice (some ⟨U,0,none⟩) af ag] 256)):=(Below.refl B w).alloc (by omega) _;exact⟨ai.is.grow (Below.refl _ _) (fun g e=>.inl (Aa aw g e)),bw.trans (ba.below.trans ai.below),fun g al hn=>(ai.kp g (by omega) (Aa aw g hn)).trans ((ba.kp g (by simp;omega) (Aa aw g hn)).trans (Below.heap_alloc w _ g al))⟩)
theorem RIs.empty {No:Nat->Prop}{B:Nat}{w:World}{b:Nat}(G:B<=b)(F:¬No b)(E:w.heap[b]? =some (.cells #[.slice none 0 0,.int .i64 0] 179 (0,0))):RIs No B w b []:=
 ⟨G,F,.slice none 0 0,[],E,World.ownsRow_nil _ _ _ _,(fun g e=>by cases e),(fun j=>by simp),rfl⟩
theorem C9 {ts:List Tk}{E F:List Int}(d:Dyn ts E F)(G:∀t∈ts,VT t)(H:Own (E++F) (MX (E++F))):(Ga E F ts).length<=2300+60*ts.length:=by
 have M:=J4 H;have T:=Lp E F d.ga d.gb (itsOf ts) d.has (Ka G);have O:=Gb ts;have I:=d.la2;have U:=d.lb2;unfold Ga;rw[VE];omega
theorem Nx (a:Option Addr)(af ay T ac ax ae ag al:Nat)(ts:List Tk)(F G:List Int)(w:World)(E:PlanIs w a af T ac ae ag ts F G):
 Calls Tryz.prog 185 #[.agg #[.slice a af ay,.slice (some ⟨T,0,none⟩) ac ax,.slice (some ⟨ae,0,none⟩) ag al]] w fun e w'=>e=.returned (.int .i64 ((Ga F G ts).length:Nat))/\Own (F++G) (MX (F++G))/\Below w.heap.size w w':=by
 have tm:=E.tm;have m1:=E.m1;have m2:=E.m2;have M:∀X Z:Obj,Below w.heap.size w ((w.alloc X).alloc Z):=fun X Z=>((Below.refl w.heap.size w).alloc (VB _) X).alloc (by simp) Z
 have av:∀X:Obj,RIs (fun g=>g<w.heap.size+1) (w.heap.size+1) ((w.alloc X).alloc (.cells #[.slice none 0 0,.int .i64 0] 179)) (w.heap.size+1) []:=fun X=>RIs.empty (VB _) (by simp) (by
  have e:w.heap.size+1=(w.alloc X).heap.size:=by simp
  rw[e];exact heap_alloc_new _ _)
 have au:=Ab (fun X:Obj=>Qz (fun g=>g<w.heap.size+1) (w.heap.size+1) (w.heap.size+1) a af ay T ac ax ae ag al ts F G [] ((w.alloc X).alloc (.cells #[.slice none 0 0,.int .i64 0] 179)) (av X) (E.below (M _ _)) (fun b o ea ba=>by
  rcases E.tok with h|⟨bj,bk,a3,ah,_⟩
  . exact absurd h ba
  . rw[a3]at ea;cases ea;omega) (by omega) (by omega) (fun g a6=>by simp at a6;omega) (by simp;omega))
 have ak:=Ab (fun bb=>C9 E.d E.tv bb);have a9:=Ab E.tl;have bd:=Ab M;clear M av E m1 m2;obtain⟨U,ao⟩:=exq (Ga F G ts);rw[ao]at au ak ⊢;clear ao;go_enter Tryz.func185,Tryz.ntmps185
 go_wp2_with fail
 refine(Aa au _).mono ?_;rintro e O ⟨rfl,ai,aj⟩;have a2:=Aa ak ai;rw[Aa a9]at a2;have bg:=Ab ai;have a4:Hid (Below w.heap.size w O):=Ab ((Aa bd _ _).trans (aj.below.mono (by omega)));have aa:=aj.is;rw[List.nil_append]at aa;obtain⟨ov,bs,I,ah,a8,a7,ap⟩:=aa.ex;have c0:O.cell? ⟨w.heap.size+1,0,none⟩=some ov:=Ac I;have az:O.cell? ⟨w.heap.size+1,1,none⟩=some (.int .i64 (freeN U.length:Nat)):=Ac I;obtain⟨bh,cc,a5⟩:∃a c,ov=.slice a bs.length c:=An ah;have H:=congrArg List.length ap;rw[Af,Dr]at H;have ar:=Pk U.length;subst a5;obtain⟨bf,Y⟩:=exq (U.length);obtain⟨L,a1⟩:=exq (bs.length);obtain⟨bi,aw⟩:=exq (freeN bf);rw[Y]at H ar a2 az;rw[a1]at H c0;rw[aw]at H ar az;have bc:=Ab Y;clear I ah a8 a7 ap aa aj ai Y a1 aw;go_wp2;go_quiet (fail)
 go_wp2;go_ret;refine⟨?_,Aa bg,Ae (Aa a4) _⟩;rw[Aa bc];go_num
theorem Qe {w:World}{E:Nat}{T:TypeId}{x y O:Value}(H:w.heap[E]? =some (.cells #[x,y,O] T (0,0)))(u v t:Value):
 (((w.setCell ⟨E,0,none⟩ u).setCell ⟨E,1,none⟩ v).setCell ⟨E,2,none⟩ t).heap[E]? =some (.cells #[u,v,t] T (0,0))/\(∀j,j<w.heap.size->j≠E->(((w.setCell ⟨E,0,none⟩ u).setCell ⟨E,1,none⟩ v).setCell ⟨E,2,none⟩ t).heap[j]? =w.heap[j]?)/\(((w.setCell ⟨E,0,none⟩ u).setCell ⟨E,1,none⟩ v).setCell ⟨E,2,none⟩ t).heap.size=w.heap.size/\∀ {B:Nat} {F:World},Below B F w->B<=E->Below B F (((w.setCell ⟨E,0,none⟩ u).setCell ⟨E,1,none⟩ v).setCell ⟨E,2,none⟩ t):=by
 have g1:=Ad w E 0 u;have g2:=Ad (w.setCell ⟨E,0,none⟩ u) E 1 v;have g3:=Ad ((w.setCell ⟨E,0,none⟩ u).setCell ⟨E,1,none⟩ v) E 2 t;have G:=Aj (Aj g1 g2) g3;have Y:E<w.heap.size:=(VK.1 H).1;refine⟨?_,fun j M I=>G.block j M (fun e=>I (VM e)),by simp,fun U hb=>U.grown G (by omega) (fun j e=>by rw[<-VM e];exact hb)⟩
 . rw[heap_setCell_same _ _ 2 _ _ _ (heap_setCell_same _ _ 1 _ _ _ (heap_setCell_same _ _ 0 _ _ _ H))];rfl
structure ShA (W2:World)(l:List Int)(m least g:Nat)(w':World):Prop where
 lens:IsLens l m (lensD l m)
 lo:W2.heap.size<=g
 hi:g<w'.heap.size
 row:Row .i64 w' g 0 (trimL (lensD l m) least)
 bel:Below W2.heap.size W2 w'
theorem ShA.keep {I:World}{l:List Int}{m H G:Nat}{W w':World}(E:ShA I l m H G W)(F:Below W.heap.size W w'):ShA I l m H G w':=
 ⟨E.lens,E.lo,VG E.hi F.size,E.row.below F E.hi,E.bel.trans (F.mono E.bel.size)⟩
theorem B7 (a:Option Addr)(O ac:Nat)(ts:List Tk)(w:World)(bb:ts.length=O)(b0:O<=3000)(ai:∀t∈ts,VT t)(a8:TokIn w a ts):
 Calls Tryz.prog 183 #[.slice a O ac] w fun e w'=>∃b1 n1 b2 n2,e=.returned (.agg #[.slice a O ac,.slice (some ⟨b1,0,none⟩) n1 286,.slice (some ⟨b2,0,none⟩) n2 30])/\PlanIs w' a O b1 n1 b2 n2 ts (TS ts) (Z1n ts)/\w.heap.size<=b1/\w.heap.size<=b2/\Below w.heap.size w w':=by
 have bh:=Ab (fun X:Obj=>QI a O ac ts (w.alloc X) bb b0 ai (a8.alloc X));have av:=A5 (ts:=ts) (by omega);have ap:=L9 (ts:=ts) (by omega);have ak:=Li (itsOf ts);have al:=Mo (itsOf ts);have ay:Hid (IsLens (symC (itsOf ts)) 15 (lensD (symC (itsOf ts)) 15)->IsLens (farC (itsOf ts)) 15 (lensD (farC (itsOf ts)) 15)->Dyn ts (TS ts) (Z1n ts)):=fun a5 T=>Z76 ai (by omega) a5 T
 have di:=Ab bb;have cz:=Ab ai;have bq:=Ab a8;obtain⟨n1,b5⟩:=exq (Gu (lensD (symC (itsOf ts)) 15) 257 286);obtain⟨n2,b4⟩:=exq (Gu (lensD (farC (itsOf ts)) 15) 1 30);have a9:=Ab b5;have ba:=Ab b4;have a3:trimL (lensD (symC (itsOf ts)) 15) 257=TS ts:=rfl;have bg:trimL (lensD (farC (itsOf ts)) 15) 1=Z1n ts:=rfl;have az:Hid (∀aa Z,IsLens (symC (itsOf ts)) 15 aa->IsLens (farC (itsOf ts)) 15 Z->aa.length=286/\Z.length=30):=fun aa Z a5 T=>⟨by have:=(Jd av a5).2.1;omega,by have:=(Jd ap T).2.1;omega⟩
 obtain⟨H,ce⟩:=exq (symC (itsOf ts));obtain⟨I,bn⟩:=exq (farC (itsOf ts));rw[ce]at bh av ak ay a9 a3 az;rw[bn]at bh ap al ay ba bg az;have cv:=Ab av;have de:=Ab ap;have b9:=Ab a3;have ci:=Ab bg;clear a8 ai bb av ap b5 b4 a3 bg ce bn;have c9:(Tryz.prog.info? 297).map (·.size)=some (iv H).toArray.size:=by rw[Y4];simp[ak]
 have c7:(Tryz.prog.info? 298).map (·.size)=some (iv I).toArray.size:=by rw[OM];simp[al]
 go_enter Tryz.func183,Tryz.ntmps183
 go_wp2_with fail
 refine(Aa bh _).mono ?_;rintro e F ⟨rfl,aw⟩;have dl:=aw.size;simp only[World.size_alloc]at dl;have bw:F.heap[w.heap.size]? =some (.cells #[.slice none 0 0,.slice none 0 0,.slice none 0 0] 256 (0,0)):=(aw.block _ (by simp)).trans (heap_alloc_new _ _);have c8:=Ab bw;have c6:Hid (Below w.heap.size w F):=Ab (((Below.refl w.heap.size w).alloc (VB _) _).trans (aw.mono (by simp)));clear aw bw;have aa:((F.alloc (.cells (iv (List.replicate 286 0)).toArray 297)).alloc (.cells (iv (List.replicate 30 0)).toArray 298)).heap[F.heap.size]? =some (.cells (iv (List.replicate 286 0)).toArray 297 (0,0)):=(Below.heap_alloc _ _ _ (by simp)).trans (heap_alloc_new _ _)
 have Z:(((F.alloc (.cells (iv (List.replicate 286 0)).toArray 297)).alloc (.cells (iv (List.replicate 30 0)).toArray 298)).setRow F.heap.size (iv H).toArray).heap[F.heap.size+1]? =some (.cells (iv (List.replicate 30 0)).toArray 298 (0,0)):=by
  rw[Go.setRow_other _ _ _ _ (by omega)];have e:F.heap.size+1=(F.alloc (.cells (iv (List.replicate 286 0)).toArray 297)).heap.size:=by simp
  rw[e];exact heap_alloc_new _ _
 have bz:=Ab aa;have cg:=Ab Z;have ao:=Ab (fun x y=>Jt w F x y 297 298 H I (Aa c6) (by simp));have bk:=Ab (fun x y=>Jt F F x y 297 298 H I (Below.refl _ _) (by simp));clear aa Z;go_upto_region 2 with (first|refine wpList_store_row rfl 297 (.tmp 3) (.tmp 8) rfl F.heap.size _ rfl rfl 297 (iv (List.replicate 286 0)).toArray (Aa bz) c9 (by simp[ak]) (Cy H) ?_|refine wpList_store_row rfl 298 (.tmp 4) (.tmp 9) rfl (F.heap.size+1) _ rfl rfl 298 (iv (List.replicate 30 0)).toArray (Aa cg) c7 (by simp[al]) (Cy I) ?_)
 simp only[Act.put];generalize ag:World.setRow (World.setRow (World.alloc (World.alloc _ _) _) _ _) _ _=W2;have af:ARow 297 W2 F.heap.size H:=by rw[<-ag];exact(Aa ao _ _).1
 have Y:ARow 298 W2 (F.heap.size+1) I:=by rw[<-ag];exact(Aa ao _ _).2.1
 have au:Below w.heap.size w W2:=by rw[<-ag];exact(Aa ao _ _).2.2
 have ar:W2.heap[w.heap.size]? =some (.cells #[.slice none 0 0,.slice none 0 0,.slice none 0 0] 256 (0,0)):=by rw[<-ag];exact((Aa bk _ _).2.2.block _ (by omega)).trans (Aa c8)
 have dt:=au.size;have l1:=af.lt;have l2:=Y.lt;have b8:=Ab (fun(W:World) (E:Below W2.heap.size W2 W)=>Ib (some ⟨F.heap.size,0,none⟩) 286 286 H 15 257 W ak (.inr ⟨_,0,rfl,VG l1 E.size,af.row.below E l1⟩) (Aa cv) (by decide) n1 a9);have cd:=Ab (fun(W:World) (E:Below W2.heap.size W2 W)=>Ib (some ⟨F.heap.size+1,0,none⟩) 30 30 I 15 1 W al (.inr ⟨_,0,rfl,VG l2 E.size,Y.row.below E l2⟩) (Aa de) (by decide) n2 ba);have bu:=Ab au;have a6:=Ab ar;have b3:w.heap.size<W2.heap.size:=by omega
 clear ag ao bk bz cg af Y au ar l1 l2
 have bc:=Ab (fun(W:World) (E:Below W2.heap.size W2 W)=>(Aa b8 W E).mono (fun e w' (h:∃g,e=.returned (.slice (some ⟨g,0,none⟩) n1 286)/\IsLens H 15 (lensD H 15)/\W.heap.size<=g/\g<w'.heap.size/\Row .i64 w' g 0 (trimL (lensD H 15) 257)/\Below W.heap.size W w')=>(show (∃g,e=.returned (.slice (some ⟨g,0,none⟩) n1 286)/\ShA W2 H 15 257 g w'/\Below W.heap.size W w') from by
  obtain⟨g,aj,T,a1,bd,a7,ae⟩:=h;exact⟨g,aj,⟨T,VU E.size a1,bd,a7,E.trans (ae.mono E.size)⟩,ae⟩)))
 have a2:=Ab (fun(W:World) (E:Below W2.heap.size W2 W)=>(Aa cd W E).mono (fun e w' (h:∃g,e=.returned (.slice (some ⟨g,0,none⟩) n2 30)/\IsLens I 15 (lensD I 15)/\W.heap.size<=g/\g<w'.heap.size/\Row .i64 w' g 0 (trimL (lensD I 15) 1)/\Below W.heap.size W w')=>(show (∃g,e=.returned (.slice (some ⟨g,0,none⟩) n2 30)/\ShA W2 I 15 1 g w'/\Below W.heap.size W w') from by
  obtain⟨g,aj,T,a1,bd,a7,ae⟩:=h;exact⟨g,aj,⟨T,VU E.size a1,bd,a7,E.trans (ae.mono E.size)⟩,ae⟩)))
 have df:=Ab (fun(k:Nat)=>Aa bc (W2.drewN k) (Ae (Below.refl _ _) k));have cu:=Ab (fun(k:Nat)=>Aa a2 (W2.drewN k) (Ae (Below.refl _ _) k));have cj:=Ab (fun(W:World) (g:Nat) (h:ShA W2 I 15 1 g W)=>Aa bc W h.bel);have cy:=Ab (fun(W:World) (g:Nat) (h:ShA W2 H 15 257 g W)=>Aa a2 W h.bel)
 have bj:Hid (∀W',Below W2.heap.size W2 W'->(W'.cell? ⟨w.heap.size,0,none⟩=some (.slice none 0 0)/\W'.cell? ⟨w.heap.size,1,none⟩=some (.slice none 0 0)/\W'.cell? ⟨w.heap.size,2,none⟩=some (.slice none 0 0))/\W'.frozen? ⟨w.heap.size,0,none⟩=false/\W'.frozen? ⟨w.heap.size,1,none⟩=false/\W'.frozen? ⟨w.heap.size,2,none⟩=false):=fun W' E=>by
  have d:W'.heap[w.heap.size]? =some (.cells #[.slice none 0 0,.slice none 0 0,.slice none 0 0] 256 (0,0)):=(E.block _ b3).trans (Aa a6);exact⟨⟨Ac d,Ac d,Ac d⟩,frozen_of_row W' w.heap.size 0 _ _ d,frozen_of_row W' w.heap.size 1 _ _ d,frozen_of_row W' w.heap.size 2 _ _ d⟩
 have cw:Hid (∀W' ga gb,ShA W2 H 15 257 ga W'->ShA W2 I 15 1 gb W'->W'.heap[w.heap.size]? =some (.cells #[.slice none 0 0,.slice none 0 0,.slice none 0 0] 256 (0,0))/\PlanIs W' a O ga n1 gb n2 ts (TS ts) (Z1n ts)/\w.heap.size<=ga/\w.heap.size<=gb/\Below w.heap.size w W'/\w.heap.size≠ga/\w.heap.size≠gb):=fun W' ga gb U E=>by
  have aj:=U.lo;have e2:=E.lo;have bv:=Aa az _ _ U.lens E.lens;have bm:Below w.heap.size w W':=(Aa bu).trans (U.bel.mono (by omega));have bo:=U.row;have bi:=E.row;rw[Aa b9]at bo;rw[Aa ci]at bi;refine⟨(U.bel.block _ b3).trans (Aa a6),⟨Aa di,b0,Aa cz,(Aa bq).below bm (VB _),Aa ay U.lens E.lens, ?_, ?_,U.hi,E.hi,bo,bi⟩,by omega,by omega,bm,by omega,by omega⟩
  . rw[<-Aa b9,Cg,bv.1];exact Aa a9
  . rw[<-Aa ci,Cg,bv.2];exact Aa ba
 clear b8 cd bc a2 bu a6 az ay;generalize dj:F.heap.size+1=dn at*;generalize cq:F.heap.size=dr at*;clear cq dj;go_region_with (first|(go_at_call 212;refine(Aa cj _ _ (Aa bf)).mono ?_;rintro e ax ⟨ga,rfl,G,M⟩;have ah:=Ab G;have b7:=Ab ((Aa bf).keep M);obtain⟨⟨ck,k1,k2⟩,dc,db,dm⟩:=Aa bj ax G.bel;clear G M bf)|(go_at_call 212;refine(Aa cy _ _ (Aa ah)).mono ?_;rintro e ax ⟨gb,rfl,G,M⟩;have b7:=Ab G;have co:=Ab ((Aa ah).keep M);obtain⟨⟨ck,k1,k2⟩,dc,db,dm⟩:=Aa bj ax G.bel;clear G M ah)|(go_at_call 212;refine(Aa df _).mono ?_;rintro e dv ⟨ga,rfl,G,M⟩;have ah:=Ab G;clear G M)|(go_at_call 212;refine(Aa cu _).mono ?_;rintro e dp ⟨gb,rfl,G,M⟩;have bf:=Ab G;clear G M))
 all_goals try go_wp2
 obtain⟨cn,a4,ct,dh,cp,da,dd⟩:=Aa cw ax ga gb (Aa co) (Aa b7);obtain⟨af,Y,au,ar⟩:=Qe cn (.slice a O ac) (.slice (some ⟨ga,0,none⟩) n1 286) (.slice (some ⟨gb,0,none⟩) n2 30);refine bodyPost_ret (v:=.agg #[.slice a O ac,.slice (some ⟨ga,0,none⟩) n1 286,.slice (some ⟨gb,0,none⟩) n2 30]) ?_ rfl ⟨ga,n1,gb,n2,rfl,a4.keep (by omega) (fun b o ea cm hb=> ?_) (Y ga a4.m1 (fun e=>da e.symm)) (Y gb a4.m2 (fun e=>dd e.symm)),ct,dh,ar cp (VB _)⟩
 . exact results_cell_row rfl _ _ _ _ _ _ _ rfl af Tryz.underlying256 rfl (by kernel_rfl)
 . rcases Aa bq with h|⟨ds,du,c5,dq,_⟩
   . exact absurd h cm
   . rw[c5]at ea
     cases ea
     exact Y b hb (by omega)
end Go.Proofs.YtleocpdblhbimaaGreatDoor
