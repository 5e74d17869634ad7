import Derived.Test.YtleocpdblhbimaaGreatDoorQ34
import Derived.Deep.OwnRows
import Derived.Deep.CutBlock
set_option linter.unusedSimpArgs false
set_option maxHeartbeats 2000000
namespace Go.Proofs.YtleocpdblhbimaaGreatDoor
open Go.RowKit
set_option linter.unusedVariables false
set_option maxRecDepth 100000
theorem Pas.weaken {No No':Nat->Prop}{w:World}{p G F b o n I H:Nat}{bs:List Nat}(E:Pas No' w p G F b o n I bs H)(O:∀g,No g->No' g):Pas No w p G F b o n I bs H:=
 ⟨E.pst,E.grp,fun es clock hb x M g U T=>E.shun es clock hb x M g U (O g T),E.row,E.size⟩
theorem Pas.more {No No':Nat->Prop}{w:World}{p G F b o n I H:Nat}{bs:List Nat}(E:Pas No w p G F b o n I bs H)(M:∀g,No' g->No g\/w.heap.size<=g):Pas No' w p G F b o n I bs H:=by
 obtain⟨D,O,_⟩:=E.grp;exact⟨E.pst,E.grp,E.shun.reno O M,E.row,E.size⟩
theorem Geo.more {No No':Nat->Prop}{B p F G b:Nat}{bs:List Nat}(E:Geo No B p F G b bs)(H:¬No' p)(I:¬No' F):Geo No' B p F G b bs:=⟨E.bB,E.pB,E.mB,E.pm,E.pb,H,I,E.len,E.byte⟩
theorem OE:(Tryz.prog.info? 244).map (·.size)=some 3:=by kernel_rfl
theorem T4 {H:Func}{p:Tmp}(O:H.results= #[.cell p 244])(G:Array Value)(w:World)(E:Nat)(F:Array Value)(I:F.size=3)(T:G.getD p undef=.pointer (some ⟨E,0,none⟩))(M:w.heap[E]? =some (.cells F 244 (0,0))):
 (results H G).run Tryz.prog w=.ok (.agg F) w:=by
 have hl:(loadVar 244 ⟨E,0,none⟩).run Tryz.prog w=.ok (.agg F) w:=run_loadVar_row w E _ _ _ _ _ M Tryz.underlying244 rfl (by rw[I];exact OE);have U:G[p]?.getD undef=.pointer (some ⟨E,0,none⟩):=by simpa using T
 simp only[results,O];simp[U,asAddr,hl]
theorem S7 {w:World}{E:Nat}{x y G a b c:Value}(F:w.heap[E]? =some (.cells #[x,y,G] 244 (0,0))):(((w.setCell ⟨E,0,none⟩ a).setCell ⟨E,1,none⟩ b).setCell ⟨E,2,none⟩ c).heap[E]? =some (.cells #[a,b,c] 244 (0,0)):=by
 rw[heap_setCell_same _ E 2 _ _ _ (heap_setCell_same _ E 1 _ _ _ (heap_setCell_same w E 0 _ _ _ F))];rfl
theorem LT (w:World)(E:Nat)(a b c:Value):w.grownBy (((w.setCell ⟨E,0,none⟩ a).setCell ⟨E,1,none⟩ b).setCell ⟨E,2,none⟩ c) (some E):=
 Aj (Aj (Ad w E 0 a) (Ad _ E 1 b)) (Ad _ E 2 c)
theorem KT (No:Nat->Prop)(B p H G b o n O ao k:Nat)(bs:List Nat)(w:World)(I:Geo No B p H G b bs)(ay:bs.length=n)(a4:n<=O)(Z:Pas No w p H G b o n O bs ao)(b3:ao<=k)(b8:k<n)(aw:∀g,w.heap.size<=g->¬No g)(T:Nat)(ts af:Int)(bm:Hid (Qd bs k=(T,ts,af))):
 Calls Tryz.prog 178 #[.pointer (some ⟨p,0,none⟩),.int .i64 (k:Int)] w fun e w'=>e=.returned (.agg #[.int .u8 (T:Int),.int .i64 ts,.int .i64 af])/\(∃ae,ae<=k+1/\Pas No w' p H G b o n O bs ae)/\Below B w w'/\Kp No w w':=by
 have bw:=Ab I;have bc:=Ab Z;have bz:=Ab aw;have ce:=Ab ay;have hn:=I.len;have ax:B<=w.heap.size:=VU I.pB (YX Z.pst.lt);have ai:Hid (Geo (fun g=>No g\/g=w.heap.size) B p H G b bs):=I.more (by rintro (h|h);exact I.nop h;have:=Z.pst.lt;omega) (by rintro (h|h);exact I.nom h;have:=Z.grp.lt.2;omega);have bj:Hid (Pas (fun g=>No g\/g=w.heap.size) (w.alloc (.cells #[.int .u8 0,.int .i64 0,.int .i64 0] 244)) p H G b o n O bs ao):=(Z.more (No':=fun g=>No g\/g=w.heap.size) (by rintro g (h|h);exact .inl h;exact .inr (by omega))).grown (Aa ai) (World.grownBy_alloc w _ none) (fun j e=>by cases e)
 have a5:Hid (∀g,(w.alloc (.cells #[.int .u8 0,.int .i64 0,.int .i64 0] 244)).heap.size<=g->¬(No g\/g=w.heap.size)):=by
  intro g Y;simp at Y
  rintro (h|h)
  . exact aw g (by omega) h
  . omega
 have bb:=Ab ((Below.refl B w).alloc ax (.cells #[.int .u8 0,.int .i64 0,.int .i64 0] 244));have bn:(w.alloc (.cells #[.int .u8 0,.int .i64 0,.int .i64 0] 244)).heap[w.heap.size]? =some (.cells #[.int .u8 0,.int .i64 0,.int .i64 0] 244 (0,0)):=heap_alloc_new w _;have bd:=Ab bn;clear I Z aw bn;obtain⟨n1,f1,ac⟩:∃n1 f1,lng bs k=(n1,f1):=⟨_,_,rfl⟩
 obtain⟨n2,f2,ah⟩:∃n2 f2,lng bs (k+1)=(n2,f2):=⟨_,_,rfl⟩
 have b5:=Ab ac;have bq:=Ab ah
 have E:Qd bs k=if n1=0 then (bs.getD k 0,0,0)else if n1<n2 then (bs.getD k 0,0,0)else (0,(n1:Int),(f1:Int)):=by
  unfold Qd;rw[ac,ah]
 rw[Aa bm]at E;clear ac ah bm;go_enter Tryz.func178,Tryz.ntmps178
 go_wp2_with fail
 refine(Rj _ B p H G b o n O ao k bs _ (Aa ai) ay a4 (Aa bj) b3 (by omega) (Aa a5) n1 f1 b5).mono ?_;rintro e F ⟨rfl,⟨bg,cm,al⟩,a1,ap⟩;have b7:=a1.size;simp only[World.size_alloc]at b7;have U:F.heap[w.heap.size]? =some (.cells #[.int .u8 0,.int .i64 0,.int .i64 0] 244 (0,0)):=(ap w.heap.size (by simp) (.inr rfl)).trans (Aa bd);have bi:=Ab al;have a2:=Ab ((Aa bb).trans a1);have bh:Hid (Kp No w F):=((Kp.refl No w).grown (World.grownBy_alloc w (.cells #[.int .u8 0,.int .i64 0,.int .i64 0] 244) none) (VB _) (fun j e=>by cases e)).trans (ap.weaken (fun g h=>.inl h)) (by simp);have c0:=al.pst.cell0;have a3:=al.row k (by omega);clear al a1 ap bj a5 bb bd;have r0:F.cell? ⟨w.heap.size,0,none⟩=some (.int .u8 0):=Ac U;have r1:F.cell? ⟨w.heap.size,1,none⟩=some (.int .i64 0):=Ac U;have r2:F.cell? ⟨w.heap.size,2,none⟩=some (.int .i64 0):=Ac U;have a7:∀j,F.frozen? ⟨w.heap.size,j,none⟩=false:=fun j=>frozen_of_row F _ j _ _ U
 have av:Hid (∀(W:World) (aj:Nat) (x y z:Value),aj<=k+1->Pas (fun g=>No g\/g=w.heap.size) W p H G b o n O bs aj->Below B w W->Kp No w W->w.heap.size<=W.heap.size->
  (∃ae,ae<=k+1/\Pas No (((W.setCell ⟨w.heap.size,0,none⟩ x).setCell ⟨w.heap.size,1,none⟩ y).setCell ⟨w.heap.size,2,none⟩ z) p H G b o n O bs ae)/\Below B w (((W.setCell ⟨w.heap.size,0,none⟩ x).setCell ⟨w.heap.size,1,none⟩ y).setCell ⟨w.heap.size,2,none⟩ z)/\Kp No w (((W.setCell ⟨w.heap.size,0,none⟩ x).setCell ⟨w.heap.size,1,none⟩ y).setCell ⟨w.heap.size,2,none⟩ z)):=by
  intro W aj x y z b9 cd bu bo b4;have Y:=LT W w.heap.size x y z;have I:=Aa bw;have cj:=(Aa bc).pst.lt;have ck:=(Aa bc).grp.lt.2;refine⟨⟨aj,b9,(cd.grown (Aa ai) Y (fun j e=> ?_)).weaken (fun g h=>.inl h)⟩,bu.grown Y (VU ax b4) (fun j e=>by cases e;exact ax), ?_⟩
  . cases e
    have:=I.bB
    exact⟨by omega,by omega,by omega,.inl (.inr rfl)⟩
  . intro g ac ah;rw[Y.block g (by omega) (fun e=>by simp at e;omega)];exact bo g ac ah
 by_cases ar:n1=0
 . rw[if_pos ar]at E;generalize bs.getD k 0=x at*;obtain⟨rfl,rfl,rfl⟩:T=x/\ts=0/\af=0:=by simpa using E
   subst ar;have ag:=Ab (S7 (a:=.int .u8 (T:Int)) (b:=.int .i64 0) (c:=.int .i64 0) U);go_wp2;exact bodyPost_ret (T4 rfl _ _ _ _ rfl rfl (Aa ag)) rfl ⟨rfl,Aa av F bg _ _ _ (by omega) (Aa bi) (Aa a2) (Aa bh) (by omega)⟩
 . rw[if_neg ar]at E;have ci:((n1:Int)==0)=false:=by rw[beq_eq_false_iff_ne];omega
   have bv:k+1<=n:=b8;clear c0 a3 r0 r1 r2 a7;go_wp2_with fail
   have b0:Hid (∀g,F.heap.size<=g->¬(No g\/g=w.heap.size)):=by
    intro g Y;rintro (h|h)
    . exact Aa bz g (by omega) h
    . omega
   refine(Rj _ B p H G b o n O bg (k+1) bs F (Aa ai) ay a4 (Aa bi) (by omega) bv (Aa b0) n2 f2 bq).mono ?_;rintro e M ⟨rfl,⟨bk,ba,ak⟩,au,az⟩;have cg:=au.size;have aa:M.heap[w.heap.size]? =some (.cells #[.int .u8 0,.int .i64 0,.int .i64 0] 244 (0,0)):=(az w.heap.size (by omega) (.inr rfl)).trans U;have a9:=Ab ak;have bf:=Ab ((Aa a2).trans au);have a8:Hid (Kp No w M):=(Aa bh).trans (az.weaken (fun g h=>.inl h)) (by omega);have c0:=ak.pst.cell0;have a3:=ak.row k (by omega);clear ak au az;have r0:M.cell? ⟨w.heap.size,0,none⟩=some (.int .u8 0):=Ac aa;have r1:M.cell? ⟨w.heap.size,1,none⟩=some (.int .i64 0):=Ac aa;have r2:M.cell? ⟨w.heap.size,2,none⟩=some (.int .i64 0):=Ac aa;have a7:∀j,M.frozen? ⟨w.heap.size,j,none⟩=false:=fun j=>frozen_of_row M _ j _ _ aa
   by_cases a6:n1<n2
   . rw[if_pos a6]at E;generalize bs.getD k 0=x at*;obtain⟨rfl,rfl,rfl⟩:T=x/\ts=0/\af=0:=by simpa using E
     have ag:=Ab (S7 (a:=.int .u8 (T:Int)) (b:=.int .i64 0) (c:=.int .i64 0) aa);go_wp2;exact bodyPost_ret (T4 rfl _ _ _ _ rfl rfl (Aa ag)) rfl ⟨rfl,Aa av M bk _ _ _ ba (Aa a9) (Aa bf) (Aa a8) (by omega)⟩
   . rw[if_neg a6]at E
     obtain⟨rfl,rfl,rfl⟩:0=T/\(n1:Int)=ts/\(f1:Int)=af:=by
      simp only[YD]at E;exact⟨E.1.symm,E.2.1.symm,E.2.2.symm⟩
     have ag:=Ab (S7 (a:=.int .u8 0) (b:=.int .i64 (n1:Int)) (c:=.int .i64 (f1:Int)) aa);go_wp2;exact bodyPost_ret (T4 rfl _ _ _ _ rfl rfl (Aa ag)) rfl ⟨rfl,Aa av M bk _ _ _ ba (Aa a9) (Aa bf) (Aa a8) (by omega)⟩
theorem Pas.turn {No No':Nat->Prop}{W M:World}{p E G b o n I H:Nat}{bs:List Nat}{r:Option Nat}(O:Pas No W p E G b o n I bs H)(F:Pas No M p E G b o n I bs H)(U:W.grownBy M r)(Y:some E≠r)(T:∀g,No' g->No g\/W.heap.size<=g):Pas No' M p E G b o n I bs H:=
 ⟨F.pst,F.grp,(O.more T).shun.kept U O.grp.lt.2 Y,F.row,F.size⟩
theorem Zs (W:World)(x y F:Value)(t:TypeId):∀j u,[x,y,F][j]? =some u->(W.alloc (.cells #[x,y,F] t)).cell? ((⟨W.heap.size,0,none⟩:Addr).add j)=some u:=by
 intro j u E;have e:(⟨W.heap.size,0,none⟩:Addr).add j=⟨W.heap.size,j,none⟩:=by unfold Addr.add;split<;>simp_all
 rw[e,World.cell?_alloc_at _ _ _ _ rfl]
 match j,E with
 |0,E=>simpa using E
 |1,E=>simpa using E
 |2,E=>simpa using E
theorem R4 (a:Option Addr)(E:Nat)(w:World):Calls Tryz.prog 149 #[.slice a 0 E] w fun e w'=>e=.returned (.tuple #[.slice none 0 0,.int .i64 0])/\Below w.heap.size w w':=by
 have F:=Ab (((Below.refl w.heap.size w).alloc (VB _) (.map #[] 0)).alloc (by simp) (.cells #[.slice a 0 E,.map (some w.heap.size),.int .i64 0] 292));go_enter Tryz.func149,Tryz.ntmps149
 go_wp2_with fail
 refine(Rf a 0 E w).mono ?_;rintro e I ⟨rfl,rfl⟩;go_wp2;go_loop [4,6] (fun H G=>H=.slice none 0 0/\G=.int .i64 0) (fun _ _=>0)
 case atStart=>exact⟨rfl,rfl⟩
 case round=>
  obtain⟨rfl,rfl⟩:=hrel;go_wp2;go_ret2;exact⟨rfl,Aa F⟩
theorem R3 (b o n G:Nat)(bs:List Nat)(w:World)(cp:bs.length=n)(c6:n<=3000)(ck:n<=G)(cu:b<w.heap.size)(bk:Bytes w b o bs)(av:∀j,bs.getD j 0<256):
 Calls Tryz.prog 149 #[.slice (some ⟨b,o,none⟩) n G] w fun e w'=>∃v,e=.returned (.tuple #[v,.int .i64 0])/\w'.ownsRow w.heap.size 244 3 v (Gi bs).length (tvs (Gi bs))/\Below w.heap.size w w':=by
 obtain⟨b4,hi,cn,cz,cd⟩:=info_parts CO;have a8:=Ab cp;have da:=Ab av;have bj:Hid (∀No:Nat->Prop,¬No (w.heap.size+1)->¬No w.heap.size->Geo No w.heap.size (w.heap.size+1) w.heap.size (w.heap.size+2) b bs):=fun No cj b5=>⟨cu,by omega,VB _,by omega,by omega,cj,b5,by omega,av⟩
 have bz:Hid (Pas (fun g=>(Value.slice none 0 0).ownBlock=some g) ((w.alloc (.map #[] 0)).alloc (.cells #[.slice (some ⟨b,o,none⟩) n G,.map (some w.heap.size),.int .i64 0] 292)) (w.heap.size+1) w.heap.size (w.heap.size+2) b o n G bs 0):=by
  have H:=World.grownBy_alloc (w.alloc (.map #[] 0)) (.cells #[.slice (some ⟨b,o,none⟩) n G,.map (some w.heap.size),.int .i64 0] 292) none;refine⟨?_,(Grp.made w (w.heap.size+2) bs (by omega)).kept H (fun j e=>by cases e),(World.Shuns_made w _).kept H (by simp) (by simp), ?_,by simp⟩
  . have:=heap_alloc_new (w.alloc (.map #[] 0)) (.cells #[.slice (some ⟨b,o,none⟩) n G,.map (some w.heap.size),.int .i64 0] 292)
    rw[World.size_alloc]at this;exact this
  . exact(bk.grown (World.grownBy_alloc w _ none) (by simp)).grown H (by simp)
 have a7:=Ab (((Below.refl w.heap.size w).alloc (VB _) (.map #[] 0)).alloc (by simp) (.cells #[.slice (some ⟨b,o,none⟩) n G,.map (some w.heap.size),.int .i64 0] 292));clear bk av;go_enter Tryz.func149,Tryz.ntmps149
 go_wp2_with fail
 refine(Rf (some ⟨b,o,none⟩) n G w).mono ?_;rintro e bi ⟨rfl,ap⟩;have bw:Hid (Pas (fun g=>(Value.slice none 0 0).ownBlock=some g) bi (w.heap.size+1) w.heap.size (w.heap.size+2) b o n G bs 0):=by rw[ap];exact Aa bz
 have bm:Hid (Below w.heap.size w bi):=by rw[ap];exact Aa a7
 clear ap bz a7;have b8:Hid (∀l,l=Gi bs->l=Gi bs):=fun l h=>h
 generalize O:Gi bs=T at*;have bv:=Ab O;clear O b8;go_wp2;go_loopw [4,6] (fun bc ao wr=>∃(k fuel kn:Nat) (acc:List Tk),k<=n/\ao=.int .i64 (k:Int)/\acc++tks bs fuel k=T/\n<=k+fuel/\acc.length<=k/\kn<=k/\wr.ownsRow (w.heap.size+2) 244 3 bc acc.length (tvs acc)/\Pas (fun g=>bc.ownBlock=some g) wr (w.heap.size+1) w.heap.size (w.heap.size+2) b o n G bs kn/\Below w.heap.size w wr) (fun _ ao _=>n-(intOf ao).toNat)
 case atStart=>exact⟨0,n,0,[],VH _,rfl,by rw[<-Aa bv];simp[Gi,Aa a8],by omega,VB _,VB _,World.ownsRow_nil _ _ _ _,Aa bw,Aa bm⟩
 case round=>
  obtain⟨k,fuel,kn,acc,c8,rfl,O,c9,dh,co,U,ae,ag⟩:=hrel;have a2:=Ab O;have Z:=Ab U;have bu:=Ab ae;have ak:=Ab ag;have df:=ag.size;have dj:=ae.size;clear O
  by_cases b7:k<n
  . obtain⟨bb,ba,dd⟩:=TN bs fuel k (by omega) (by omega);have dc:=Oq bs k (by omega);have ax:=Uo bs k (by omega);have ai:=Z36 ax;have di:=Z5y ax;obtain⟨F,ts,E,ah⟩:∃F ts E,Qd bs k=(F,ts,E):=⟨_,_,_,rfl⟩
    have b9:=Ab ah;have cv:max ts 1=((wid (Qd bs k):Nat):Int):=by rw[ah]at ai ⊢;exact ai
    have ct:Hid ((acc++ [(F,ts,E)])++tks bs bb (k+wid (Qd bs k))=T):=by
     rw[<-Aa a2,ba,ah,VS];rfl
    generalize wid (Qd bs k)=a6 at*
    have cg:Hid (∀g,wr.heap.size<=g->¬(u4.ownBlock=some g)):=fun g H e=>by
     have:=(U.lt g e).2
     omega
    have ac:∀g,u4.ownBlock=some g->w.heap.size+2<=g:=fun g e=>(U.lt g e).1
    have aw:=Ab ac;have aa:Hid (Geo (fun g=>u4.ownBlock=some g) w.heap.size (w.heap.size+1) w.heap.size (w.heap.size+2) b bs):=Aa bj _ (fun e=>by have:=ac _ e;omega) (fun e=>by have:=ac _ e;omega);clear U ae ag ai ax ba ah ac;go_wp2_with fail
    refine(KT _ w.heap.size (w.heap.size+1) w.heap.size (w.heap.size+2) b o n G kn k bs wr (Aa aa) (Aa a8) ck (Aa bu) co b7 (Aa cg) F ts E b9).mono ?_;rintro e I ⟨rfl,⟨bg,db,a3⟩,ar,bf⟩;have de:=ar.size;have a9:=Ab a3;have bd:=Ab ((Aa ak).trans ar);have al:Hid (I.ownsRow (w.heap.size+2) 244 3 u4 acc.length (tvs acc)):=Au (Aa Z) (fun g H=>bf g ((Aa Z).lt g H).2 H);clear a3 ar bf bu Z ak bw bm;have bh:=Ab (((Aa al).alloc (.cells #[.int .u8 (F:Int),.int .i64 ts,.int .i64 E] 244)).alloc (.cells #[.int .u8 (F:Int),.int .i64 ts,.int .i64 E] 244));have aj:=Ab (((Aa a9).grown (Aa aa) (World.grownBy_alloc I (.cells #[.int .u8 (F:Int),.int .i64 ts,.int .i64 E] 244) none) (fun j e=>by cases e)).grown (Aa aa) (World.grownBy_alloc _ (.cells #[.int .u8 (F:Int),.int .i64 ts,.int .i64 E] 244) none) (fun j e=>by cases e));have a4:=Ab (((Aa bd).alloc (by omega) (.cells #[.int .u8 (F:Int),.int .i64 ts,.int .i64 E] 244)).alloc (by simp;omega) (.cells #[.int .u8 (F:Int),.int .i64 ts,.int .i64 E] 244));have bq:=Ab (Zs (I.alloc (.cells #[.int .u8 (F:Int),.int .i64 ts,.int .i64 E] 244)) (.int .u8 (F:Int)) (.int .i64 ts) (.int .i64 E) 244);go_wp2_with (at_builtin;refine wpList_append_own_at _ rfl _ _ 215 rfl (w.heap.size+2) 244 b4 _ 3 24 Tryz.underlying215 hi cn cz cd rfl (by decide) u4 acc.length (tvs acc) rfl (Aa bh) ⟨I.heap.size+1,0,none⟩ 1 1 [.int .u8 (F:Int),.int .i64 ts,.int .i64 E] rfl rfl (by have:=Aa bq;simp only[World.size_alloc]at this;exact this) (by intro u a5;simp at a5;rcases a5 with rfl|rfl|rfl<;>rfl) (by unfold maxLen;omega) (by omega) (by simp;omega) ?_)
    intro v' w3 az M _ bn;have Y:some I.heap.size≠u4.ownBlock:=fun e=>by have:=((Aa al).lt _ e.symm).2;omega
    have c5:w3.cell? ⟨I.heap.size,0,none⟩=some (.int .u8 (F:Int)):=M.cell (by simp) Y;have b3:w3.cell? ⟨I.heap.size,1,none⟩=some (.int .i64 ts):=M.cell (by simp) Y;have cm:w3.cell? ⟨I.heap.size,2,none⟩=some (.int .i64 E):=M.cell (by simp) Y
    have ay:Hid (w3.ownsRow (w.heap.size+2) 244 3 v' (acc++ [(F,ts,E)]).length (tvs (acc++ [(F,ts,E)]))):=by
     rw[Uj,VE];exact az
    have bo:=Ab ((Aa a4).grown M (by simp;omega) (fun g e=>by have:=Aa aw g e;omega));have b0:=Ab ((Aa aj).grown (Aa aa) M (fun g e=>by have:=Aa aw g e;exact⟨by omega,by omega,by omega,.inl e⟩))
    have cw:Hid (Pas (fun g=>v'.ownBlock=some g) w3 (w.heap.size+1) w.heap.size (w.heap.size+2) b o n G bs bg):=(Aa aj).turn (Aa b0) M (fun e=>by have:=Aa aw _ e.symm;omega) (fun g H=>by
     rcases bn with h|h
     . exact .inl (by rw[<-h];exact H)
     . refine .inr ?_;have a1:v'.ownBlock=some g:=H;rw[h]at a1;have:=VM a1
       simp only[World.size_alloc]at this ⊢;omega)
    clear az M bn Y b0 aj a4 bh bq a9 bd al;go_wp2_with fail
    refine(AE F ts E w3 a6 cv).mono ?_;rintro e c7 ⟨rfl,af⟩;have ce:=Ab (Hv (Aa ay) af);have cq:=Ab (Hq (Aa bo) af (Aa bo).size);have ci:=Ab ((Aa cw).grown (Aa bj _ (fun e=>by have:=((Aa ay).lt _ e).1;omega) (fun e=>by have:=((Aa ay).lt _ e).1;omega)) af (fun j e=>by cases e));clear af c5 b3 cm;go_wp2;go_roundw
    case rel=>exact⟨k+a6,bb,bg,acc++ [(F,ts,E)],by omega,by go_num,Aa ct,by omega,by simp;omega,by omega,Aa ce,Aa ci,Aa cq⟩
    case measure=>simp[intOf];omega
  . obtain rfl:n=k:=by omega
    have e:acc=T:=by
     have:=Aa a2
     rw[TP bs fuel n (by omega),XA]at this;exact this
    have au:=Pa (Aa Z) (show w.heap.size<=w.heap.size+2 by omega);rw[e,<-Aa bv]at au;have cy:=Ab au;clear U ae ag au;go_wp2;go_ret2;exact⟨u4,rfl,Aa cy,Aa ak⟩
theorem TokIn.ofOwn {w:World}{B n:Nat}{v:Value}{l:List Tk}(E:w.ownsRow B 244 3 v n (tvs l)):l.length=n/\∃a c,v=.slice a n c/\TokIn w a l:=by
 have hn:l.length=n:=by have:=E.1;rw[Ui]at this;omega
 refine⟨hn, ?_⟩
 rcases E.2 with ⟨F,G⟩|⟨g,cap,cur,F,_⟩
 . subst G;exact⟨none,0,F,.inl (WV hn)⟩
 . subst F;exact⟨_,_,rfl,TokIn.own E⟩
theorem Ec (w:World)(R G F E:Obj):((((w.alloc R).alloc G).alloc F).alloc E).drew.heap[w.heap.size]? =some R/\((((w.alloc R).alloc G).alloc F).alloc E).drew.heap[w.heap.size+1]? =some G/\((((w.alloc R).alloc G).alloc F).alloc E).drew.heap[w.heap.size+1+1]? =some F/\((((w.alloc R).alloc G).alloc F).alloc E).drew.heap[w.heap.size+1+1+1]? =some E/\Below w.heap.size w ((((w.alloc R).alloc G).alloc F).alloc E).drew:=by
 refine⟨?_, ?_, ?_, ?_,Ae (((((Below.refl w.heap.size w).alloc (VB _) _).alloc (by simp) _).alloc (by simp;omega) _).alloc (by simp;omega) _) 1⟩
 all_goals (simp only[World.alloc,World.drew,YC,YV];simp[WT])
structure EvSt (w:World)(N:Nat)(W:World)(g3 ga gb:Nat):Prop where
 lo:w.heap.size<g3/\w.heap.size<ga/\w.heap.size<gb
 ne:g3≠ga/\g3≠gb/\ga≠gb
 blk:W.heap[g3]? =some (.cells #[.slice none 0 0,.slice (some ⟨ga,0,none⟩) 257 257,.slice (some ⟨gb,0,none⟩) 1 1] 256 (0,0))
 ra:W.heap[ga]? =some (.cells (madeCells #[Value.int .i64 0] N) 3 (0,0))
 rb:W.heap[gb]? =some (.cells (madeCells #[Value.int .i64 0] 1) 3 (0,0))
 res:W.heap[w.heap.size]? =some (.cells #[.slice none 0 0,.slice none 0 0,.slice none 0 0] 256 (0,0))
 bel:Below w.heap.size w W
theorem Z1p (a:Option Addr)(M cd:Nat)(bs:List Nat)(w:World)(bw:bs.length=M)(cq:M<=3000)(bu:BytesIn w a bs)(af:∀j,bs.getD j 0<256):
 Calls Tryz.prog 184 #[.slice a M cd] w fun e w'=>∃F c1 b1 b2,e=.returned (.agg #[.slice F M c1,.slice (some ⟨b1,0,none⟩) 257 257,.slice (some ⟨b2,0,none⟩) 1 1])/\PlanIs w' F M b1 257 b2 1 (Gf bs) Ks Sc/\w.heap.size<=b1/\w.heap.size<=b2/\(∀b o,F=some ⟨b,o,none⟩->Gf bs≠ []->w.heap.size<=b)/\Below w.heap.size w w':=by
 obtain⟨b9,hi,cv,dd,cj⟩:=info_parts CO;obtain⟨N,a6⟩:∃N:Nat,N=257:=⟨_,rfl⟩
 have c7:∀W:World,(Instr.makeSlice 76 (.int .i64 257) (.int .i64 257)).run Tryz.prog W=.ok (.slice (some ⟨W.heap.size,0,none⟩) 257 257) (W.alloc (.cells (madeCells #[.int .i64 0] N) 3)):=fun W=>by rw[a6];exact run_make_row' (P:=Tryz.prog) 76 3 (.int .i64 0) 8 Tryz.underlying76 Bv rfl .i64 .i64 257 (by decide) (by decide) W
 have cg:∀W:World,(Instr.makeSlice 76 (.int .i64 1) (.int .i64 1)).run Tryz.prog W=.ok (.slice (some ⟨W.heap.size,0,none⟩) 1 1) (W.alloc (.cells (madeCells #[.int .i64 0] 1) 3)):=fun W=>run_make_row' (P:=Tryz.prog) 76 3 (.int .i64 0) 8 Tryz.underlying76 Bv rfl .i64 .i64 1 (by decide) (by decide) W
 have db:=Ab a6;have aj:=Ab bw;have cw:=Ab bu;have a4:=Ab af;clear bw bu af a6;go_enter Tryz.func184,Tryz.ntmps184
 go_upto_region 1 with (fail)
 go_cut [3] (fun v wc=>∃g3 ga gb,v=.pointer (some ⟨g3,0,none⟩)/\Hid (EvSt w N wc g3 ga gb))
 case first=>
  go_big_region
  all_goals go_wp2_with fail
  all_goals go_meet
  all_goals first
   |exact⟨w.heap.size+1,w.heap.size+1+1,w.heap.size+1+1+1,rfl,Ab ⟨⟨by omega,by omega,by omega⟩,⟨by omega,by omega,by omega⟩,(Ec w _ _ _ _).2.1,(Ec w _ _ _ _).2.2.1,(Ec w _ _ _ _).2.2.2.1,(Ec w _ _ _ _).1,(Ec w _ _ _ _).2.2.2.2⟩⟩
   |exact⟨w.heap.size+1,w.heap.size+1+1+1,w.heap.size+1+1,rfl,Ab ⟨⟨by omega,by omega,by omega⟩,⟨by omega,by omega,by omega⟩,(Ec w _ _ _ _).2.1,(Ec w _ _ _ _).2.2.2.1,(Ec w _ _ _ _).2.2.1,(Ec w _ _ _ _).1,(Ec w _ _ _ _).2.2.2.2⟩⟩
   |exact⟨w.heap.size+1+1,w.heap.size+1,w.heap.size+1+1+1,rfl,Ab ⟨⟨by omega,by omega,by omega⟩,⟨by omega,by omega,by omega⟩,(Ec w _ _ _ _).2.2.1,(Ec w _ _ _ _).2.1,(Ec w _ _ _ _).2.2.2.1,(Ec w _ _ _ _).1,(Ec w _ _ _ _).2.2.2.2⟩⟩
   |exact⟨w.heap.size+1+1,w.heap.size+1+1+1,w.heap.size+1,rfl,Ab ⟨⟨by omega,by omega,by omega⟩,⟨by omega,by omega,by omega⟩,(Ec w _ _ _ _).2.2.1,(Ec w _ _ _ _).2.2.2.1,(Ec w _ _ _ _).2.1,(Ec w _ _ _ _).1,(Ec w _ _ _ _).2.2.2.2⟩⟩
   |exact⟨w.heap.size+1+1+1,w.heap.size+1,w.heap.size+1+1,rfl,Ab ⟨⟨by omega,by omega,by omega⟩,⟨by omega,by omega,by omega⟩,(Ec w _ _ _ _).2.2.2.1,(Ec w _ _ _ _).2.1,(Ec w _ _ _ _).2.2.1,(Ec w _ _ _ _).1,(Ec w _ _ _ _).2.2.2.2⟩⟩
   |exact⟨w.heap.size+1+1+1,w.heap.size+1+1,w.heap.size+1,rfl,Ab ⟨⟨by omega,by omega,by omega⟩,⟨by omega,by omega,by omega⟩,(Ec w _ _ _ _).2.2.2.1,(Ec w _ _ _ _).2.2.1,(Ec w _ _ _ _).2.1,(Ec w _ _ _ _).1,(Ec w _ _ _ _).2.2.2.2⟩⟩
 case rest=>
  obtain⟨g3,ga,gb,rfl,ag⟩:=hcut;have Z:=Aa ag;have d7:=Z.lo;have T:=Z.ne;have de:=Z.bel.size;have cy:=(VK.1 Z.res).1;have d6:=(VK.1 Z.blk).1;have la:=(VK.1 Z.ra).1;have lb:=(VK.1 Z.rb).1;clear c7 cg Z;generalize wc=I at*;go_wp2;go_loopw [12] (fun v wr=>∃k:Nat,k<=M/\v=.int .i64 (k:Int)/\Hid (∃ov,wr.heap[g3]? =some (.cells #[ov,.slice (some ⟨ga,0,none⟩) 257 257,.slice (some ⟨gb,0,none⟩) 1 1] 256 (0,0))/\wr.ownsRow I.heap.size 244 3 ov k (tvs (Gf (bs.take k)))/\(∀j,j<I.heap.size->j≠g3->wr.heap[j]? =I.heap[j]?)/\Below w.heap.size w wr/\I.heap.size<=wr.heap.size)) (fun v _=>M-(intOf v).toNat)
  case atStart=>exact⟨0,VH _,rfl,Ab ⟨.slice none 0 0,(Aa ag).blk,World.ownsRow_nil _ _ _ _,fun j _ _=>rfl,(Aa ag).bel,VB _⟩⟩
  case round=>
   obtain⟨k,dh,rfl,hr⟩:=hrel;obtain⟨ov,ac,U,ae,ap,dv⟩:=Aa hr
   by_cases bh:k<M
   . obtain⟨b,o,rfl,hb,bc⟩:=Dz (Aa cw) (by rw[Aa aj];omega);have cb:=(ap.cell (p:=⟨b,o+k,none⟩) hb).trans (bc k (by rw[Aa aj];exact bh));have af:=Aa a4 k
     have a2:Gf (bs.take (k+1))=Gf (bs.take k)++ [(bs.getD k 0,0,0)]:=by
      have ck:k<bs.length:=by rw[Aa aj];exact bh
      have e:bs.take (k+1)=bs.take k++ [bs.getD k 0]:=by
       rw[XM];simp[List.getD,ck]
      rw[e];simp[Gf]
     obtain⟨x,bn⟩:=exq (bs.getD k 0);rw[bn]at cb af a2;have b5:=Ab a2;have c0:wr.cell? ⟨g3,0,none⟩=some ov:=Ac ac;have f0:=frozen_of_row wr g3 0 _ _ ac;have dx:(k:Int)<(M:Int):=by omega
     have ba:=Ab (U.alloc (.cells #[.int .u8 (x:Int),.int .i64 0,.int .i64 0] 244));have b0:=Ab (Zs wr (.int .u8 (x:Int)) (.int .i64 0) (.int .i64 0) 244);have a9:∀g,ov.ownBlock=some g->I.heap.size<=g/\g<wr.heap.size:=fun g e=>U.lt g e
     have ax:=Ab a9;have ai:=Ab ac;have bz:=Ab ae;have az:=Ab ap;clear hr ac U ae ap a2 bc bn a9;go_wp2_with (at_builtin;refine wpList_append_own_at _ rfl _ _ 215 rfl I.heap.size 244 b9 _ 3 24 Tryz.underlying215 hi cv dd cj rfl (by decide) ov k (tvs (Gf (bs.take k))) rfl (Aa ba) ⟨wr.heap.size,0,none⟩ 1 1 [.int .u8 (x:Int),.int .i64 0,.int .i64 0] rfl rfl (Aa b0) (by intro u bb;simp at bb;rcases bb with rfl|rfl|rfl<;>rfl) (by unfold maxLen;omega) (by omega) (by simp;omega) ?_)
     intro v' w3 au ao _ c5;have bq:=ao.size;simp only[World.size_alloc]at bq;have O:w3.heap[g3]? =some (.cells #[ov,.slice (some ⟨ga,0,none⟩) 257 257,.slice (some ⟨gb,0,none⟩) 1 1] 256 (0,0)):=(ao.block g3 (by simp;omega) (fun e=>by have:=Aa ax g3 e.symm;omega)).trans ((Below.heap_alloc wr _ g3 (by omega)).trans (Aa ai));have eb:w3.cell? ⟨g3,0,none⟩=some ov:=Ac O;have ds:=frozen_of_row w3 g3 0 _ _ O
     have av:Hid (∃ov,(w3.setCell ⟨g3,0,none⟩ v').heap[g3]? =some (.cells #[ov,.slice (some ⟨ga,0,none⟩) 257 257,.slice (some ⟨gb,0,none⟩) 1 1] 256 (0,0))/\(w3.setCell ⟨g3,0,none⟩ v').ownsRow I.heap.size 244 3 ov (k+1) (tvs (Gf (bs.take (k+1))))/\(∀j,j<I.heap.size->j≠g3->(w3.setCell ⟨g3,0,none⟩ v').heap[j]? =I.heap[j]?)/\Below w.heap.size w (w3.setCell ⟨g3,0,none⟩ v')/\I.heap.size<=(w3.setCell ⟨g3,0,none⟩ v').heap.size):=by
      have aw:=Ad w3 g3 0 v';have bo:=aw.size;refine⟨v', ?_, ?_, ?_, ?_,by omega⟩
      . rw[heap_setCell_same _ g3 0 _ _ _ O];rfl
      . rw[Aa b5,Uj];refine au.kept aw ?_
        cases af:v'.ownBlock with
        |none=>exact .inl rfl
        |some g=>
         refine .inr (fun e=> ?_);have:=(au.lt g af).1
         cases e
         omega
      . intro j aa T;rw[aw.block j (by omega) (fun e=>T (VM e)),ao.block j (by simp;omega) (fun e=>by have:=Aa ax j e.symm;omega),Below.heap_alloc wr _ j (by omega)];exact Aa bz j aa T
      . have b1:=(Aa az).alloc (by omega) (.cells #[.int .u8 (x:Int),.int .i64 0,.int .i64 0] 244);have b2:=b1.grown ao (by simp;omega) (fun g e=>by have:=Aa ax g e;omega);exact b2.grown aw (by omega) (fun g e=>by have:=VM e;omega)
     obtain⟨d8,d9,c6,_,_⟩:=Ba au (by omega);subst c6;clear au ao c5 O c0 f0 cb ba b0 ax ai bz az b5 bq;go_wp2;go_roundw
     case rel=>exact⟨k+1,by omega,by go_num,av⟩
     case measure=>simp[intOf];omega
   . obtain rfl:k=M:=by omega
     have e:bs.take k=bs:=VV (by rw[Aa aj];exact VB _);rw[e]at U;obtain⟨F,c1,rfl⟩:=An U;have bf:wr.heap[ga]? =some (.cells (madeCells #[Value.int .i64 0] N) 3 (0,0)):=(ae ga la (fun e=>T.1 e.symm)).trans (Aa ag).ra;have bv:wr.heap[gb]? =some (.cells (madeCells #[Value.int .i64 0] 1) 3 (0,0)):=(ae gb lb (fun e=>T.2.1 e.symm)).trans (Aa ag).rb;have bg:wr.heap[w.heap.size]? =some (.cells #[.slice none 0 0,.slice none 0 0,.slice none 0 0] 256 (0,0)):=(ae _ cy (by omega)).trans (Aa ag).res;obtain⟨E,a1⟩:∃E:List Int,E=List.replicate 257 8:=⟨_,rfl⟩
     have b3:E.length=257:=by rw[a1];simp
     have bi:∀j,j<257->E.getD j 0=8:=fun j aa=>by rw[a1];simp only[List.getD];rw[List.getElem?_replicate,if_pos aa];rfl
     have c8:=Ab a1;have a8:=Ab bi;have dp:wr.cell? ⟨g3,1,none⟩=some (.slice (some ⟨ga,0,none⟩) 257 257):=Ac ac
     have cz:Hid (ARow 3 wr ga (E.take 0++List.replicate (E.length-0) 0)):=Ab (by
      rw[List.take_zero,List.nil_append,b3];unfold ARow;rw[bf,Aa db]
      congr 2
      exact Array.toList_inj.1 (Rh 257))
     have a3:Hid (TokIn wr F (Gf bs)/\∀b o,F=some ⟨b,o,none⟩->Gf bs≠ []->I.heap.size<=b/\b<wr.heap.size):=by
      obtain⟨di,df,c2,e2,co⟩:=TokIn.ofOwn U
      cases e2
      refine⟨co,fun b o e _=> ?_⟩;subst e;exact U.lt b rfl
     have ai:=Ab ac;have dc:=Ab bv;have ct:=Ab bg;have az:=Ab ap;clear hr ac U ae ap e bf bv bg a1 bi;generalize wr=H at*;go_wp2;go_loopw [27] (fun v wr=>∃q:Nat,q<=257/\v=.int .i64 (q:Int)/\Hid (ARow 3 wr ga (E.take q++List.replicate (E.length-q) 0)/\(∀j,j<H.heap.size->j≠ga->wr.heap[j]? =H.heap[j]?)/\Below w.heap.size w wr/\H.heap.size<=wr.heap.size)) (fun v _=>257-(intOf v).toNat)
     case atStart=>exact⟨0,by decide,rfl,Ab ⟨Aa cz,fun j _ _=>rfl,Aa az,VB _⟩⟩
     case round=>
      obtain⟨q,dj,rfl,hr⟩:=hrel;obtain⟨G,ah,ak,ed⟩:=Aa hr;have O:wr.heap[g3]? =some (.cells #[.slice F k c1,.slice (some ⟨ga,0,none⟩) 257 257,.slice (some ⟨gb,0,none⟩) 1 1] 256 (0,0)):=(ah g3 (by omega) T.1).trans (Aa ai);have x1:wr.cell? ⟨g3,1,none⟩=some (.slice (some ⟨ga,0,none⟩) 257 257):=Ac O
      by_cases cu:q<257
      . have ce:(E.take q++List.replicate (E.length-q) 0).length=257:=by simp;omega
        have c:=G.cell q (by omega);have f:=G.frozen q
        have ci:Hid (ARow 3 (wr.setCell ⟨ga,q,none⟩ (.int .i64 8)) ga (E.take (q+1)++List.replicate (E.length-(q+1)) 0)/\(∀j,j<H.heap.size->j≠ga->(wr.setCell ⟨ga,q,none⟩ (.int .i64 8)).heap[j]? =H.heap[j]?)/\Below w.heap.size w (wr.setCell ⟨ga,q,none⟩ (.int .i64 8))/\H.heap.size<=(wr.setCell ⟨ga,q,none⟩ (.int .i64 8)).heap.size):=by
         have a7:=Ad wr ga q (.int .i64 8);have bo:=a7.size;refine⟨?_,fun j aa hn=>(a7.block j (by omega) (fun e=>hn (VM e))).trans (ah j aa hn),ak.grown a7 (by omega) (fun j e=>by have:=VM e;omega),by omega⟩;have:=G.set q 8
         have bd:(8:Int)=E.getD q 0:=(Aa a8 q cu).symm;rw[bd,Xn E q (by omega)]at this;rw[bd];exact this
        have dw:(q:Int)<257:=by omega
        clear hr G ah ak ce O;generalize (E.take q++List.replicate (E.length-q) 0).getD q 0=old at c;go_wp2;go_roundw
        case rel=>exact⟨q+1,by omega,by go_num,ci⟩
        case measure=>simp[intOf];omega
      . obtain rfl:q=257:=by omega
        rw[VV (by omega),b3,XW]at G;simp only[ZI,XA]at G;have cp:=G.cell 255 (by omega);have cn:=G.cell 256 (by omega);have dl:=G.frozen 255;have dy:=G.frozen 256;rw[Aa a8 255 (by decide)]at cp;rw[Aa a8 256 (by decide)]at cn;have dn:=Ab G;have du:=Ab ah;have dz:=Ab ak;have d5:=Ab O;have dt:(⟨ga,256,none⟩:Addr)≠⟨ga,255,none⟩:=by intro h;injection h;omega
        have da:Hid (ARow 3 ((wr.setCell ⟨ga,255,none⟩ (.int .i64 9)).setCell ⟨ga,256,none⟩ (.int .i64 9)).drew ga Ks/\(∀j,j<H.heap.size->j≠ga->((wr.setCell ⟨ga,255,none⟩ (.int .i64 9)).setCell ⟨ga,256,none⟩ (.int .i64 9)).drew.heap[j]? =H.heap[j]?)/\Below w.heap.size w ((wr.setCell ⟨ga,255,none⟩ (.int .i64 9)).setCell ⟨ga,256,none⟩ (.int .i64 9)).drew/\H.heap.size<=((wr.setCell ⟨ga,255,none⟩ (.int .i64 9)).setCell ⟨ga,256,none⟩ (.int .i64 9)).drew.heap.size):=by
         have g1:=Ad wr ga 255 (.int .i64 9);have g2:=Ad (wr.setCell ⟨ga,255,none⟩ (.int .i64 9)) ga 256 (.int .i64 9);have a5:=Aj g1 g2;have bo:=a5.size;refine⟨?_,fun j aa hn=>(a5.block j (by omega) (fun e=>hn (VM e))).trans (ah j aa hn),Ae (ak.grown a5 (by omega) (fun j e=>by have:=VM e;omega)) 1,by show H.heap.size<=(World.setCell _ _ _).heap.size;omega⟩;have:=(G.set 255 9).set 256 9
         have b8:(E.set 255 9).set 256 9=Ks:=by rw[Aa c8];decide+kernel
         rw[b8]at this;exact this
        clear hr G ah ak O;generalize wr=w6 at*;go_upto_region 12 with (fail)
        go_cut [] (fun wc=>ARow 3 wc ga Ks/\(∀j,j<H.heap.size->j≠ga->wc.heap[j]? =H.heap[j]?)/\Below w.heap.size w wc/\H.heap.size<=wc.heap.size)
        case first=>
         go_big_region
         all_goals go_wp2_with fail
         all_goals go_meet
         all_goals exact Aa da
        case rest=>
         obtain⟨bk,al,b4,dq⟩:=hcut;have ar:wc.heap[g3]? =some (.cells #[.slice F k c1,.slice (some ⟨ga,0,none⟩) 257 257,.slice (some ⟨gb,0,none⟩) 1 1] 256 (0,0)):=(al g3 (by omega) T.1).trans (Aa ai);have Y:wc.heap[w.heap.size]? =some (.cells #[.slice none 0 0,.slice none 0 0,.slice none 0 0] 256 (0,0)):=(al _ (by omega) (by omega)).trans (Aa ct);have dm:wc.cell? ⟨g3,0,none⟩=some (.slice F k c1):=Ac ar;have y1:wc.cell? ⟨g3,1,none⟩=some (.slice (some ⟨ga,0,none⟩) 257 257):=Ac ar;have y2:wc.cell? ⟨g3,2,none⟩=some (.slice (some ⟨gb,0,none⟩) 1 1):=Ac ar;have r0:wc.cell? ⟨w.heap.size,0,none⟩=some (.slice none 0 0):=Ac Y;have r1:wc.cell? ⟨w.heap.size,1,none⟩=some (.slice none 0 0):=Ac Y;have r2:wc.cell? ⟨w.heap.size,2,none⟩=some (.slice none 0 0):=Ac Y;have f0:=frozen_of_row wc w.heap.size 0 _ _ Y;have f1:=frozen_of_row wc w.heap.size 1 _ _ Y;have f2:=frozen_of_row wc w.heap.size 2 _ _ Y;obtain⟨bj,ay,dr,bm⟩:=Qe Y (.slice F k c1) (.slice (some ⟨ga,0,none⟩) 257 257) (.slice (some ⟨gb,0,none⟩) 1 1)
         have av:Hid (PlanIs (((wc.setCell ⟨w.heap.size,0,none⟩ (.slice F k c1)).setCell ⟨w.heap.size,1,none⟩ (.slice (some ⟨ga,0,none⟩) 257 257)).setCell ⟨w.heap.size,2,none⟩ (.slice (some ⟨gb,0,none⟩) 1 1)) F k ga 257 gb 1 (Gf bs) Ks Sc/\Below w.heap.size w (((wc.setCell ⟨w.heap.size,0,none⟩ (.slice F k c1)).setCell ⟨w.heap.size,1,none⟩ (.slice (some ⟨ga,0,none⟩) 257 257)).setCell ⟨w.heap.size,2,none⟩ (.slice (some ⟨gb,0,none⟩) 1 1))):=by
          refine⟨⟨by rw[Oc,Aa aj],cq,DF (Aa a4), ?_,DE (Aa a4),Mp,Sb,by omega,by omega, ?_, ?_⟩,bm b4 (VB _)⟩
          . refine Z2b (Aa a3).1 (by omega) (fun b o ea c9 hb=> ?_);have:=(Aa a3).2 b o ea c9
            rw[ay b (by omega) (by omega)];exact al b (by omega) (by omega)
          . exact BM bk.row (ay ga (by omega) (by omega))
          . have cm:ARow 3 wc gb Sc:=by
             unfold ARow;rw[al gb (by omega) (fun e=>T.2.2 e.symm),Aa dc]
             congr 2
             exact Array.toList_inj.1 (Rh 1)
            exact BM cm.row (ay gb (by omega) (by omega))
         have b7:=Ab bj;clear bk al b4 ar Y bj ay bm;go_wp2;refine bodyPost_ret (v:=.agg #[.slice F k c1,.slice (some ⟨ga,0,none⟩) 257 257,.slice (some ⟨gb,0,none⟩) 1 1]) ?_ rfl ⟨F,c1,ga,gb,rfl,(Aa av).1,by omega,by omega,fun b o e hn=>by have:=(Aa a3).2 b o e hn;omega,(Aa av).2⟩;exact results_cell_row rfl _ _ _ _ _ _ _ rfl (Aa b7) Tryz.underlying256 rfl (by kernel_rfl)
theorem EP (a:Option Addr)(n F:Nat)(bs:List Nat)(w:World)(M:bs.length=n)(T:n<=3000)(aa:n<=F)(ac:BytesIn w a bs)(O:∀j,bs.getD j 0<256)(G:Nat)(I:Hid ((Gi bs).length=G)):
 Calls Tryz.prog 149 #[.slice a n F] w fun e w'=>∃E c1,e=.returned (.tuple #[.slice E G c1,.int .i64 0])/\TokIn w' E (Gi bs)/\(∀b o,E=some ⟨b,o,none⟩->Gi bs≠ []->w.heap.size<=b/\b<w'.heap.size)/\Below w.heap.size w w':=by
 by_cases U:n=0
 . subst U;obtain rfl:bs= []:=WV M;obtain rfl:0=G:=Aa I;refine(R4 a F w).mono ?_;rintro e w' ⟨rfl,h⟩;exact⟨none,0,rfl,.inl rfl,(fun b o e=>by cases e),h⟩
 . obtain⟨b,o,rfl,hb,Z⟩:=Dz ac (by omega);refine(R3 b o n F bs w M T aa hb Z O).mono ?_;rintro e w' ⟨v,rfl,H,h⟩;obtain⟨ae,E,c1,rfl,Y⟩:=TokIn.ofOwn H;rw[Aa I]at H ⊢;refine⟨E,c1,rfl,Y,fun b o e _=> ?_,h⟩;subst e;exact H.lt b rfl
theorem W4 (No:Nat->Prop)(B G:Nat)(S:List Bool)(w:World)(U:RIs No B w G S)(au:∀g,w.heap.size<=g->¬No g)(a:Option Addr)(F ai I Y ag O aa ae:Nat)(ts:List Tk)(H T:List Int)(W:World)(E:PlanIs W a F I Y O aa ts H T)(M:Below w.heap.size w W)(aj:w.heap.size<=I)(aw:w.heap.size<=O)(av:∀b o,a=some ⟨b,o,none⟩->ts≠ []->No b\/w.heap.size<=b)(al:S.length+60*F<=277000):
 Calls Tryz.prog 186 #[.agg #[.slice a F ai,.slice (some ⟨I,0,none⟩) Y ag,.slice (some ⟨O,0,none⟩) aa ae],.pointer (some ⟨G,0,none⟩)] W fun e w'=>e=.returned (.tuple #[])/\(Ga H T ts).length<=2300+60*F/\Rp No B w G (S++Ga H T ts) w':=by
 have a1:=M.size;have ax:=U.base;have ay:=U.lt;have m1:=E.m1;have m2:=E.m2;refine(Qz (fun g=>No g\/ (w.heap.size<=g/\g<W.heap.size)) B G a F ai I Y ag O aa ae ts H T S W (U.grow M (fun g e=>by rcases e with e|e;exact .inl e;exact .inr e.1)) E (fun b o e ah=> ?_) (.inr ⟨aj,m1⟩) (.inr ⟨aw,m2⟩) (fun g af e=> ?_) al).mono ?_
 . rcases av b o e ah with Z|Z
   . exact .inl Z
   . rcases E.tok with ak|⟨az,a2,ap,ar,_⟩
     . exact absurd ak ah
     . rw[ap]at e
       cases e
       exact .inr ⟨Z,ar⟩
 . rcases e with e|e
   . exact au g (by omega) e
   . omega
 . rintro e w' ⟨rfl,ao,ac⟩;refine⟨rfl, ?_,ac.is.grow (Below.refl _ _) (fun g e=>.inl (.inl e)),(M.mono (by omega)).trans ac.below,fun g af hn=>(ac.kp g (by omega) (.inl hn)).trans (M.block g af)⟩;have:=C9 E.d E.tv ao
   rw[E.tl]at this;exact this
theorem Tj (No:Nat->Prop)(B a2:Nat)(a H:Option Addr)(n cd G U:Nat)(bs:List Nat)(S:List Bool)(w:World)(h:RIs No B w a2 S)(bi:bs.length=n)(di:n<=3000)(b8:BytesIn w a bs)(ag:∀j,bs.getD j 0<256)(bd:TokIn w H (Gi bs))(bq:(Gi bs).length=G)(eo:G<=n)(b9:∀b o,H=some ⟨b,o,none⟩->Gi bs≠ []->No b)(cz:∀g,w.heap.size<=g->¬No g)(d5:S.length+60*n<=277000):
 Calls Tryz.prog 151 #[.pointer (some ⟨a2,0,none⟩),.slice a n cd,.slice H G U] w fun e w'=>e=.returned (.tuple #[])/\(IK bs).length<=2300+60*n/\Rp No B w a2 (S++IK bs) w':=by
 have ek:=h.lt;have eh:=h.base;have az:=Ab (B7 H G U (Gi bs) w bq (by omega) (Wz ag (by omega)) bd);have ak:=Ab (fun W (aa:Below w.heap.size w W)=>Z1p a n cd bs W bi di (b8.below aa (VB _)) ag);have dh:=Ab h;have cj:=Ab b9;have d9:=Ab cz;have ed:=Ab bd;have du:=Ab bi;have d6:=Ab bq;have cp:IK bs=if (Ga Ks Sc (Gf bs)).length<(Ga (TS (Gi bs)) (Z1n (Gi bs)) (Gi bs)).length then Ga Ks Sc (Gf bs)else Ga (TS (Gi bs)) (Z1n (Gi bs)) (Gi bs):=by unfold IK;congr
 have ac:=Ab cp;have bh:=Ab (DE ag);have dv:=Ab (DF ag);have dr:=Ab (Wz ag (by omega:bs.length<=3000));clear h b9 cz bd b8 ag bi bq cp;obtain⟨ts,b3⟩:=exq (Gi bs);obtain⟨es,bk⟩:=exq (Gf bs);obtain⟨al,dd⟩:=exq (TS ts);obtain⟨ah,b5⟩:=exq (Z1n ts);rw[b3]at az cj ed ac d6 dr;rw[bk]at ak ac bh dv;rw[dd]at az ac;rw[b5]at az ac;have em:es.length=n:=by rw[<-bk,Oc];exact Aa du
 obtain⟨ar,co⟩:=exq (Ks);obtain⟨ai,cm⟩:=exq (Sc);rw[co]at ak ac bh;rw[cm]at ak ac bh;clear b3 bk dd b5 co cm;go_enter Tryz.func151,Tryz.ntmps151
 go_wp2_with fail
 refine(Aa az).mono ?_;rintro e a4 ⟨b1,n1,b2,n2,rfl,db,dz,a6,bj⟩;have c7:=Ab db;have bm:=Ab bj;have cy:=bj.size;clear db bj az;go_wp2_with fail
 refine(Aa ak _ ((Aa bm).alloc cy _)).mono ?_;rintro e M ⟨T,Z,O,I,rfl,cg,dt,dm,bn,ay⟩;have dy:=ay.size;simp only[World.size_alloc]at dy dt dm bn;have ct:Hid (PlanIs M H G b1 n1 b2 n2 ts al ah):=Ab (((Aa c7).below ((Below.refl a4.heap.size a4).alloc (VB _) _)).below ay);have b4:M.heap[a4.heap.size]? =some (.cells #[.slice H G U,.slice (some ⟨b1,0,none⟩) n1 286,.slice (some ⟨b2,0,none⟩) n2 30] 256 (0,0)):=(ay.block _ (by simp)).trans (heap_alloc_new _ _);have c8:Hid (Below w.heap.size w M):=Ab (((Aa bm).alloc cy _).trans (ay.mono (by simp;omega)));have cu:=Ab cg;have b0:=Ab bn;have b7:=Ab b4;clear cg ay c7 bm ak bn b4;have c9:=Ab (fun d7 l1 c1 x1 y1 eb x2 y2 eg bu dn dq (W:World) hP aa k1 k2 ka kS=>W4 No B a2 S w (Aa dh) (Aa d9) d7 l1 c1 x1 y1 eb x2 y2 eg bu dn dq W hP aa k1 k2 ka kS);obtain⟨cw,bz⟩:=exq ((Ga ar ai es).length);obtain⟨da,bw⟩:=exq ((Ga al ah ts).length);go_upto_region 2 with (fail)
 generalize ba:M.alloc _=E;have ds:M.heap.size<E.heap.size:=by rw[<-ba];simp
 have ax:E.heap[M.heap.size]? =some (.cells #[.slice T n Z,.slice (some ⟨O,0,none⟩) 257 257,.slice (some ⟨I,0,none⟩) 1 1] 256 (0,0)):=by rw[<-ba];exact heap_alloc_new _ _
 have aw:Below M.heap.size M E:=by rw[<-ba];exact(Below.refl M.heap.size M).alloc (VB _) _
 have aj:=(aw.block _ (by omega)).trans (Aa b7);have dc:=Ab ((Aa ct).below aw);have c5:=Ab ((Aa cu).below aw);have cq:=Ab ((Aa c8).trans (aw.mono (by omega)));clear ba aw ct cu c8 b7;generalize dl:M.heap.size=Y at*;generalize dw:a4.heap.size=g6 at*;have lt7:Y<E.heap.size:=ds;have df:g6<E.heap.size:=by omega
 have ei:g6≠Y:=by omega
 clear dl dw;have bg:Hid (∀W,Below E.heap.size E W->W.heap[g6]? =some (.cells #[.slice H G U,.slice (some ⟨b1,0,none⟩) n1 286,.slice (some ⟨b2,0,none⟩) n2 30] 256 (0,0))/\W.heap[Y]? =some (.cells #[.slice T n Z,.slice (some ⟨O,0,none⟩) 257 257,.slice (some ⟨I,0,none⟩) 1 1] 256 (0,0))):=fun W aa=>⟨(aa.block _ df).trans aj,(aa.block _ lt7).trans ax⟩
 have bf:E.cell? ⟨g6,0,none⟩=some (.slice H G U):=Ac aj;have x1:E.cell? ⟨g6,1,none⟩=some (.slice (some ⟨b1,0,none⟩) n1 286):=Ac aj;have x2:E.cell? ⟨g6,2,none⟩=some (.slice (some ⟨b2,0,none⟩) n2 30):=Ac aj;have cn:E.cell? ⟨Y,0,none⟩=some (.slice T n Z):=Ac ax;have y1:E.cell? ⟨Y,1,none⟩=some (.slice (some ⟨O,0,none⟩) 257 257):=Ac ax;have y2:E.cell? ⟨Y,2,none⟩=some (.slice (some ⟨I,0,none⟩) 1 1):=Ac ax;clear aj ax;have bo:=Ab (fun k=>Nx T n Z O 257 257 I 1 1 es ar ai (E.drewN k) ((Aa c5).below (Ae (Below.refl _ _) k)));have bc:=Ab (fun(W:World) (aa:Below E.heap.size E W)=>Nx H G U b1 n1 286 b2 n2 30 ts al ah W ((Aa dc).below aa));rw[bz]at bo;rw[bw]at bc;have ck:=Ab bz;have cv:=Ab bw;clear bz bw;go_cut [16] (fun v wc=>v=.bool (decide (cw<da))/\Hid (Below E.heap.size E wc))
 case first=>
  go_region_with (first|(go_at_call 185;refine(Aa bc _ (Aa a9)).mono ?_;rintro e ej ⟨rfl,dj,a6⟩;have de:=Ab ((Aa a9).trans (a6.mono (Aa a9).size));clear dj a6)|(go_at_call 185;refine(Aa bo _).mono ?_;rintro e a8 ⟨rfl,dx,ce⟩;have a9:=Ab ((Ae (Below.refl E.heap.size E) _).trans ce);obtain⟨F,ae⟩:=Aa bg a8 (Aa a9);have u0:a8.cell? ⟨g6,0,none⟩=some (.slice H G U):=Ac F;have u1:a8.cell? ⟨g6,1,none⟩=some (.slice (some ⟨b1,0,none⟩) n1 286):=Ac F;have u2:a8.cell? ⟨g6,2,none⟩=some (.slice (some ⟨b2,0,none⟩) n2 30):=Ac F;clear dx ce F ae))
  all_goals go_wp2_with fail
  all_goals go_meet
  all_goals exact⟨rfl,de⟩
 case rest=>
  obtain⟨rfl,au⟩:=hcut;obtain⟨F,ae⟩:=Aa bg wc (Aa au);have d8:=(Aa cq).size;have en:=(Aa au).size;have ci:=Ab ((Aa cq).trans ((Aa au).mono d8));clear bf x1 x2 cn y1 y2 bo bc bg
  by_cases af:cw<da
  . have av:=decide_eq_true af;rw[av];have bv:Hid (IK bs=Ga ar ai es):=Ab (by rw[Aa ac,Aa ck,Aa cv,if_pos af]);obtain⟨bu,a5,ee,c6⟩:=Qe F (.slice T n Z) (.slice (some ⟨O,0,none⟩) 257 257) (.slice (some ⟨I,0,none⟩) 1 1)
    have a3:Hid (PlanIs (((wc.setCell ⟨g6,0,none⟩ (.slice T n Z)).setCell ⟨g6,1,none⟩ (.slice (some ⟨O,0,none⟩) 257 257)).setCell ⟨g6,2,none⟩ (.slice (some ⟨I,0,none⟩) 1 1)) T n O 257 I 1 es ar ai/\Below w.heap.size w (((wc.setCell ⟨g6,0,none⟩ (.slice T n Z)).setCell ⟨g6,1,none⟩ (.slice (some ⟨O,0,none⟩) 257 257)).setCell ⟨g6,2,none⟩ (.slice (some ⟨I,0,none⟩) 1 1))):=by
     have bb:=(Aa c5).below (Aa au);refine⟨bb.keep (by omega) (fun b o ea ao hb=> ?_) (a5 O bb.m1 (by omega)) (a5 I bb.m2 (by omega)),c6 (Aa ci) (by omega)⟩;have:=Aa b0 b o ea ao
     exact a5 b hb (by omega)
    have bf:wc.cell? ⟨g6,0,none⟩=some (.slice H G U):=Ac F;have x1:wc.cell? ⟨g6,1,none⟩=some (.slice (some ⟨b1,0,none⟩) n1 286):=Ac F;have x2:wc.cell? ⟨g6,2,none⟩=some (.slice (some ⟨b2,0,none⟩) n2 30):=Ac F;have f0:=frozen_of_row wc g6 0 _ _ F;have f1:=frozen_of_row wc g6 1 _ _ F;have f2:=frozen_of_row wc g6 2 _ _ F;have cn:wc.cell? ⟨Y,0,none⟩=some (.slice T n Z):=Ac ae;have y1:wc.cell? ⟨Y,1,none⟩=some (.slice (some ⟨O,0,none⟩) 257 257):=Ac ae;have y2:wc.cell? ⟨Y,2,none⟩=some (.slice (some ⟨I,0,none⟩) 1 1):=Ac ae;clear bu a5 ee c6 F ae av af;go_wp2_with fail
    refine(Aa c9 T n Z O 257 257 I 1 1 es ar ai _ (Aa a3).1 (Aa a3).2 (by omega) (by omega) (fun b o e ao=>.inr (by have:=Aa b0 b o e ao;omega)) d5).mono ?_;rintro e dp ⟨rfl,ap,a1⟩;have a7:=Ab (And.intro ap a1);clear ap a1;go_wp2;go_end0
    rw[Aa bv];exact⟨rfl,Aa a7⟩
  . have av:=decide_eq_false af;rw[av];have bv:Hid (IK bs=Ga al ah ts):=Ab (by rw[Aa ac,Aa ck,Aa cv,if_neg af]);have a3:=Ab ((Aa dc).below (Aa au));have bf:wc.cell? ⟨g6,0,none⟩=some (.slice H G U):=Ac F;have x1:wc.cell? ⟨g6,1,none⟩=some (.slice (some ⟨b1,0,none⟩) n1 286):=Ac F;have x2:wc.cell? ⟨g6,2,none⟩=some (.slice (some ⟨b2,0,none⟩) n2 30):=Ac F;clear F ae av af;go_wp2_with fail
    refine(Aa c9 H G U b1 n1 286 b2 n2 30 ts al ah _ (Aa a3) (Aa ci) dz a6 (fun b o e ao=>.inl (Aa cj b o e ao)) (by omega)).mono ?_;rintro e dp ⟨rfl,ap,a1⟩;have a7:=Ab (And.intro ap a1);clear ap a1;go_wp2;go_end0
    rw[Aa bv];exact⟨rfl,by have:=(Aa a7).1;omega,(Aa a7).2⟩
end Go.Proofs.YtleocpdblhbimaaGreatDoor
