import Derived.Test.YtieianhejdcgdaaGreatDoorQ33
set_option linter.unusedSimpArgs false
set_option maxHeartbeats 2000000
namespace Go.Proofs.YtieianhejdcgdaaGreatDoor
open Go.RowKit
set_option linter.unusedVariables false
set_option maxRecDepth 100000
structure ShA (W2:World)(l:List Int)(m least g:Nat)(w':World):Prop where
 lens:IsLens l m (lensD l m)
 lo:W2.heap.size<=g
 hi:g<w'.heap.size
 row:Row .i64 w' g 0 (trimL (lensD l m) least)
 bel:Below W2.heap.size W2 w'
theorem ShA.keep {W2:World}{l:List Int}{m least g:Nat}{W w':World}(h:ShA W2 l m least g W)(hB:Below W.heap.size W w'):ShA W2 l m least g w':=
 ⟨h.lens,h.lo,VK h.hi hB.size,h.row.below hB h.hi,h.bel.trans (hB.mono h.bel.size)⟩
theorem Zq (a:Option Addr)(len cap:Nat)(ts:List Tk)(w:World)(hl:ts.length=len)(hlen:len<=3000)(hV:∀t∈ts,VT t)(hT:TokIn w a ts):
 Calls Tryz.prog 191 #[.slice a len cap] w fun e w'=>∃b1 n1 b2 n2,e=.returned (.agg #[.slice a len cap,.slice (some ⟨b1,0,none⟩) n1 286,.slice (some ⟨b2,0,none⟩) n2 30])/\PlanIs w' a len b1 n1 b2 n2 ts (JP ts) (NR ts)/\w.heap.size<=b1/\w.heap.size<=b2/\Below w.heap.size w w':=by
 have HCT:=Ab (fun X:Obj=>OM a len cap ts (w.alloc X) hl hlen hV (hT.alloc X));have hgA:=Zk (ts:=ts) (by omega);have hgB:=I2 (ts:=ts) (by omega);have hlA:=Kx (itsOf ts);have hlB:=Ma (itsOf ts);have HD:Hid (IsLens (symC (itsOf ts)) 15 (lensD (symC (itsOf ts)) 15)->IsLens (farC (itsOf ts)) 15 (lensD (farC (itsOf ts)) 15)->Dyn ts (JP ts) (NR ts)):=fun h1 h2=>Z1a hV (by omega) h1 h2
 have HTL:=Ab hl;have HTV:=Ab hV;have HTK:=Ab hT;obtain⟨n1,hn1⟩:∃n1,Gv (lensD (symC (itsOf ts)) 15) 257 286=n1:=⟨_,rfl⟩
 obtain⟨n2,hn2⟩:∃n2,Gv (lensD (farC (itsOf ts)) 15) 1 30=n2:=⟨_,rfl⟩
 have HN1:=Ab hn1;have HN2:=Ab hn2;have hsD:trimL (lensD (symC (itsOf ts)) 15) 257=JP ts:=rfl;have hfD:trimL (lensD (farC (itsOf ts)) 15) 1=NR ts:=rfl;have HLL:Hid (∀A1 A2,IsLens (symC (itsOf ts)) 15 A1->IsLens (farC (itsOf ts)) 15 A2->A1.length=286/\A2.length=30):=fun A1 A2 h1 h2=>⟨by have:=(Ir hgA h1).2.1;omega,by have:=(Ir hgB h2).2.1;omega⟩
 obtain⟨FA,hFA⟩:∃FA,symC (itsOf ts)=FA:=⟨_,rfl⟩
 obtain⟨FB,hFB⟩:∃FB,farC (itsOf ts)=FB:=⟨_,rfl⟩
 rw[hFA]at HCT hgA hlA HD HN1 hsD HLL;rw[hFB]at HCT hgB hlB HD HN2 hfD HLL;have HGA:=Ab hgA;have HGB:=Ab hgB;have HSD:=Ab hsD;have HFD:=Ab hfD;clear hT hV hl hgA hgB hn1 hn2 hsD hfD hFA hFB;have hi1:(Tryz.prog.info? 301).map (·.size)=some (iv FA).toArray.size:=by rw[T9];simp[hlA]
 have hi2:(Tryz.prog.info? 302).map (·.size)=some (iv FB).toArray.size:=by rw[MT];simp[hlB]
 go_enter Tryz.func191,Tryz.ntmps191
 go_wp2_with fail
 refine(Aa HCT _).mono ?_;rintro e w1 ⟨rfl,hB1⟩;have hz1:=hB1.size;simp only[World.size_alloc]at hz1;have hbl:w1.heap[w.heap.size]? =some (.cells #[.slice none 0 0,.slice none 0 0,.slice none 0 0] 260 (0,0)):=(hB1.block _ (by simp)).trans (heap_alloc_new _ _);have HBL:=Ab hbl;have HB1:Hid (Below w.heap.size w w1):=Ab (((Below.refl w.heap.size w).alloc (VC _) _).trans (hB1.mono (by simp)));clear hB1 hbl;have A1:((w1.alloc (.cells (iv (List.replicate 286 0)).toArray 301)).alloc (.cells (iv (List.replicate 30 0)).toArray 302)).heap[w1.heap.size]? =some (.cells (iv (List.replicate 286 0)).toArray 301 (0,0)):=(Below.heap_alloc _ _ _ (by simp)).trans (heap_alloc_new _ _)
 have A2:(((w1.alloc (.cells (iv (List.replicate 286 0)).toArray 301)).alloc (.cells (iv (List.replicate 30 0)).toArray 302)).setRow w1.heap.size (iv FA).toArray).heap[w1.heap.size+1]? =some (.cells (iv (List.replicate 30 0)).toArray 302 (0,0)):=by
  rw[Go.setRow_other _ _ _ _ (by omega)];have e:w1.heap.size+1=(w1.alloc (.cells (iv (List.replicate 286 0)).toArray 301)).heap.size:=by simp
  rw[e];exact heap_alloc_new _ _
 have HA1:=Ab A1;have HA2:=Ab A2;have HT:=Ab (fun x y=>Jh w w1 x y 301 302 FA FB (Aa HB1) (by simp));have HT1:=Ab (fun x y=>Jh w1 w1 x y 301 302 FA FB (Below.refl _ _) (by simp));clear A1 A2;go_upto_region 2 with (first|refine wpList_store_row rfl 301 (.tmp 3) (.tmp 8) rfl w1.heap.size _ rfl rfl 301 (iv (List.replicate 286 0)).toArray (Aa HA1) hi1 (by simp[hlA]) (Cr FA) ?_|refine wpList_store_row rfl 302 (.tmp 4) (.tmp 9) rfl (w1.heap.size+1) _ rfl rfl 302 (iv (List.replicate 30 0)).toArray (Aa HA2) hi2 (by simp[hlB]) (Cr FB) ?_)
 simp only[Act.put];generalize hW2:World.setRow (World.setRow (World.alloc (World.alloc _ _) _) _ _) _ _=W2;have t1:ARow 301 W2 w1.heap.size FA:=by rw[<-hW2];exact(Aa HT _ _).1
 have t2:ARow 302 W2 (w1.heap.size+1) FB:=by rw[<-hW2];exact(Aa HT _ _).2.1
 have t3:Below w.heap.size w W2:=by rw[<-hW2];exact(Aa HT _ _).2.2
 have t4:W2.heap[w.heap.size]? =some (.cells #[.slice none 0 0,.slice none 0 0,.slice none 0 0] 260 (0,0)):=by rw[<-hW2];exact((Aa HT1 _ _).2.2.block _ (by omega)).trans (Aa HBL)
 have hzW:=t3.size;have l1:=t1.lt;have l2:=t2.lt;have HL1:=Ab (fun(W:World) (hB:Below W2.heap.size W2 W)=>Hq (some ⟨w1.heap.size,0,none⟩) 286 286 FA 15 257 W hlA (.inr ⟨_,0,rfl,VK l1 hB.size,t1.row.below hB l1⟩) (Aa HGA) (by decide) n1 HN1);have HL2:=Ab (fun(W:World) (hB:Below W2.heap.size W2 W)=>Hq (some ⟨w1.heap.size+1,0,none⟩) 30 30 FB 15 1 W hlB (.inr ⟨_,0,rfl,VK l2 hB.size,t2.row.below hB l2⟩) (Aa HGB) (by decide) n2 HN2);have HT3:=Ab t3;have HT4:=Ab t4;have lw:w.heap.size<W2.heap.size:=by omega
 clear hW2 HT HT1 HA1 HA2 t1 t2 t3 t4 l1 l2
 have HA0:=Ab (fun(W:World) (hB:Below W2.heap.size W2 W)=>(Aa HL1 W hB).mono (fun e w' (h:∃g,e=.returned (.slice (some ⟨g,0,none⟩) n1 286)/\IsLens FA 15 (lensD FA 15)/\W.heap.size<=g/\g<w'.heap.size/\Row .i64 w' g 0 (trimL (lensD FA 15) 257)/\Below W.heap.size W w')=>(show (∃g,e=.returned (.slice (some ⟨g,0,none⟩) n1 286)/\ShA W2 FA 15 257 g w'/\Below W.heap.size W w') from by
  obtain⟨g,e1,h2,h3,h4,h5,h6⟩:=h;exact⟨g,e1,⟨h2,VX hB.size h3,h4,h5,hB.trans (h6.mono hB.size)⟩,h6⟩)))
 have HB0:=Ab (fun(W:World) (hB:Below W2.heap.size W2 W)=>(Aa HL2 W hB).mono (fun e w' (h:∃g,e=.returned (.slice (some ⟨g,0,none⟩) n2 30)/\IsLens FB 15 (lensD FB 15)/\W.heap.size<=g/\g<w'.heap.size/\Row .i64 w' g 0 (trimL (lensD FB 15) 1)/\Below W.heap.size W w')=>(show (∃g,e=.returned (.slice (some ⟨g,0,none⟩) n2 30)/\ShA W2 FB 15 1 g w'/\Below W.heap.size W w') from by
  obtain⟨g,e1,h2,h3,h4,h5,h6⟩:=h;exact⟨g,e1,⟨h2,VX hB.size h3,h4,h5,hB.trans (h6.mono hB.size)⟩,h6⟩)))
 have HAf:=Ab (fun(k:Nat)=>Aa HA0 (W2.drewN k) (Af (Below.refl _ _) k));have HBf:=Ab (fun(k:Nat)=>Aa HB0 (W2.drewN k) (Af (Below.refl _ _) k));have HAs:=Ab (fun(W:World) (g:Nat) (h:ShA W2 FB 15 1 g W)=>Aa HA0 W h.bel);have HBs:=Ab (fun(W:World) (g:Nat) (h:ShA W2 FA 15 257 g W)=>Aa HB0 W h.bel)
 have HCS:Hid (∀W',Below W2.heap.size W2 W'->(W'.cell? ⟨w.heap.size,0,none⟩=some (.slice none 0 0)/\W'.cell? ⟨w.heap.size,1,none⟩=some (.slice none 0 0)/\W'.cell? ⟨w.heap.size,2,none⟩=some (.slice none 0 0))/\W'.frozen? ⟨w.heap.size,0,none⟩=false/\W'.frozen? ⟨w.heap.size,1,none⟩=false/\W'.frozen? ⟨w.heap.size,2,none⟩=false):=fun W' hB=>by
  have d:W'.heap[w.heap.size]? =some (.cells #[.slice none 0 0,.slice none 0 0,.slice none 0 0] 260 (0,0)):=(hB.block _ lw).trans (Aa HT4);exact⟨⟨Ac d,Ac d,Ac d⟩,frozen_of_row W' w.heap.size 0 _ _ d,frozen_of_row W' w.heap.size 1 _ _ d,frozen_of_row W' w.heap.size 2 _ _ d⟩
 have HZ:Hid (∀W' ga gb,ShA W2 FA 15 257 ga W'->ShA W2 FB 15 1 gb W'->W'.heap[w.heap.size]? =some (.cells #[.slice none 0 0,.slice none 0 0,.slice none 0 0] 260 (0,0))/\PlanIs W' a len ga n1 gb n2 ts (JP ts) (NR ts)/\w.heap.size<=ga/\w.heap.size<=gb/\Below w.heap.size w W'/\w.heap.size≠ga/\w.heap.size≠gb):=fun W' ga gb hA hB=>by
  have e1:=hA.lo;have e2:=hB.lo;have ll:=Aa HLL _ _ hA.lens hB.lens;have bw:Below w.heap.size w W':=(Aa HT3).trans (hA.bel.mono (by omega));have rA:=hA.row;have rB:=hB.row;rw[Aa HSD]at rA;rw[Aa HFD]at rB;refine⟨(hA.bel.block _ lw).trans (Aa HT4),⟨Aa HTL,hlen,Aa HTV,(Aa HTK).below bw (VC _),Aa HD hA.lens hB.lens, ?_, ?_,hA.hi,hB.hi,rA,rB⟩,by omega,by omega,bw,by omega,by omega⟩
  . rw[<-Aa HSD,Bz,ll.1];exact Aa HN1
  . rw[<-Aa HFD,Bz,ll.2];exact Aa HN2
 clear HL1 HL2 HA0 HB0 HT3 HT4 HLL HD;generalize hp2:w1.heap.size+1=p2 at*;generalize hp1:w1.heap.size=p1 at*;clear hp1 hp2;go_region_with (first|(go_at_call 220;refine(Aa HAs _ _ (Aa SB)).mono ?_;rintro e wz ⟨ga,rfl,hza,hzb⟩;have SA:=Ab hza;have SZ:=Ab ((Aa SB).keep hzb);obtain⟨⟨k0,k1,k2⟩,k3,k4,k5⟩:=Aa HCS wz hza.bel;clear hza hzb SB)|(go_at_call 220;refine(Aa HBs _ _ (Aa SA)).mono ?_;rintro e wz ⟨gb,rfl,hza,hzb⟩;have SZ:=Ab hza;have SY:=Ab ((Aa SA).keep hzb);obtain⟨⟨k0,k1,k2⟩,k3,k4,k5⟩:=Aa HCS wz hza.bel;clear hza hzb SA)|(go_at_call 220;refine(Aa HAf _).mono ?_;rintro e wa ⟨ga,rfl,hza,hzb⟩;have SA:=Ab hza;clear hza hzb)|(go_at_call 220;refine(Aa HBf _).mono ?_;rintro e wb ⟨gb,rfl,hza,hzb⟩;have SB:=Ab hza;clear hza hzb))
 all_goals try go_wp2
 obtain⟨z0,z1,z2,z3,z4,z5,z6⟩:=Aa HZ wz ga gb (Aa SY) (Aa SZ);obtain⟨t1,t2,t3,t4⟩:=Qb z0 (.slice a len cap) (.slice (some ⟨ga,0,none⟩) n1 286) (.slice (some ⟨gb,0,none⟩) n2 30);refine bodyPost_ret (v:=.agg #[.slice a len cap,.slice (some ⟨ga,0,none⟩) n1 286,.slice (some ⟨gb,0,none⟩) n2 30]) ?_ rfl ⟨ga,n1,gb,n2,rfl,z1.keep (by omega) (fun b o ea hne hb=> ?_) (t2 ga z1.m1 (fun e=>z5 e.symm)) (t2 gb z1.m2 (fun e=>z6 e.symm)),z2,z3,t4 z4 (VC _)⟩
 . exact results_cell_row rfl _ _ _ _ _ _ _ rfl t1 Tryz.underlying260 rfl (by kernel_rfl)
 . rcases Aa HTK with h|⟨b',o',e',hb',_⟩
   . exact absurd h hne
   . rw[e']at ea
     cases ea
     exact t2 b hb (by omega)
theorem Pas.weaken {No No':Nat->Prop}{w:World}{p mb base b o n cap kn:Nat}{bs:List Nat}(h:Pas No' w p mb base b o n cap bs kn)(hn:∀g,No g->No' g):Pas No w p mb base b o n cap bs kn:=
 ⟨h.pst,h.grp,fun es clock hb x hx g hg hN=>h.shun es clock hb x hx g hg (hn g hN),h.row,h.size⟩
theorem Pas.more {No No':Nat->Prop}{w:World}{p mb base b o n cap kn:Nat}{bs:List Nat}(h:Pas No w p mb base b o n cap bs kn)(hn:∀g,No' g->No g\/w.heap.size<=g):Pas No' w p mb base b o n cap bs kn:=by
 obtain⟨D,hD,_⟩:=h.grp;exact⟨h.pst,h.grp,h.shun.reno hD hn,h.row,h.size⟩
theorem Geo.more {No No':Nat->Prop}{B p mb base b:Nat}{bs:List Nat}(G:Geo No B p mb base b bs)(h1:¬No' p)(h2:¬No' mb):Geo No' B p mb base b bs:=⟨G.bB,G.pB,G.mB,G.pm,G.pb,h1,h2,G.len,G.byte⟩
theorem ML:(Tryz.prog.info? 248).map (·.size)=some 3:=by kernel_rfl
theorem Q7 {fn:Func}{p:Tmp}(h:fn.results= #[.cell p 248])(tmps:Array Value)(w:World)(g:Nat)(cs:Array Value)(hcs:cs.size=3)(hp:tmps.getD p undef=.pointer (some ⟨g,0,none⟩))(hA:w.heap[g]? =some (.cells cs 248 (0,0))):
 (results fn tmps).run Tryz.prog w=.ok (.agg cs) w:=by
 have hl:(loadVar 248 ⟨g,0,none⟩).run Tryz.prog w=.ok (.agg cs) w:=run_loadVar_row w g _ _ _ _ _ hA Tryz.underlying248 rfl (by rw[hcs];exact ML);have hp':tmps[p]?.getD undef=.pointer (some ⟨g,0,none⟩):=by simpa using hp
 simp only[results,h];simp[hp',asAddr,hl]
theorem Q4 {w:World}{g:Nat}{x y z a b c:Value}(h:w.heap[g]? =some (.cells #[x,y,z] 248 (0,0))):(((w.setCell ⟨g,0,none⟩ a).setCell ⟨g,1,none⟩ b).setCell ⟨g,2,none⟩ c).heap[g]? =some (.cells #[a,b,c] 248 (0,0)):=by
 rw[heap_setCell_same _ g 2 _ _ _ (heap_setCell_same _ g 1 _ _ _ (heap_setCell_same w g 0 _ _ _ h))];rfl
theorem KD (w:World)(g:Nat)(a b c:Value):w.grownBy (((w.setCell ⟨g,0,none⟩ a).setCell ⟨g,1,none⟩ b).setCell ⟨g,2,none⟩ c) (some g):=
 Aj (Aj (Ad w g 0 a) (Ad _ g 1 b)) (Ad _ g 2 c)
theorem JC (No:Nat->Prop)(B p mb base b o n cap kn k:Nat)(bs:List Nat)(w:World)(G:Geo No B p mb base b bs)(hl:bs.length=n)(hcap:n<=cap)(hP:Pas No w p mb base b o n cap bs kn)(hk:kn<=k)(hkn:k<n)(hNo:∀g,w.heap.size<=g->¬No g)(tb:Nat)(ts tf:Int)(ht:Hid (Od bs k=(tb,ts,tf))):
 Calls Tryz.prog 186 #[.pointer (some ⟨p,0,none⟩),.int .i64 (k:Int)] w fun e w'=>e=.returned (.agg #[.int .u8 (tb:Int),.int .i64 ts,.int .i64 tf])/\(∃kn',kn'<=k+1/\Pas No w' p mb base b o n cap bs kn')/\Below B w w'/\Kp No w w':=by
 have HG:=Ab G;have HP:=Ab hP;have HN:=Ab hNo;have HL:=Ab hl;have hn:=G.len;have hBw:B<=w.heap.size:=VX G.pB (YU hP.pst.lt);have HGa:Hid (Geo (fun g=>No g\/g=w.heap.size) B p mb base b bs):=G.more (by rintro (h|h);exact G.nop h;have:=hP.pst.lt;omega) (by rintro (h|h);exact G.nom h;have:=hP.grp.lt.2;omega);have HPa:Hid (Pas (fun g=>No g\/g=w.heap.size) (w.alloc (.cells #[.int .u8 0,.int .i64 0,.int .i64 0] 248)) p mb base b o n cap bs kn):=(hP.more (No':=fun g=>No g\/g=w.heap.size) (by rintro g (h|h);exact .inl h;exact .inr (by omega))).grown (Aa HGa) (World.grownBy_alloc w _ none) (fun j e=>by cases e)
 have HNa:Hid (∀g,(w.alloc (.cells #[.int .u8 0,.int .i64 0,.int .i64 0] 248)).heap.size<=g->¬(No g\/g=w.heap.size)):=by
  intro g hg;simp at hg
  rintro (h|h)
  . exact hNo g (by omega) h
  . omega
 have HBa:=Ab ((Below.refl B w).alloc hBw (.cells #[.int .u8 0,.int .i64 0,.int .i64 0] 248));have hra:(w.alloc (.cells #[.int .u8 0,.int .i64 0,.int .i64 0] 248)).heap[w.heap.size]? =some (.cells #[.int .u8 0,.int .i64 0,.int .i64 0] 248 (0,0)):=heap_alloc_new w _;have HRa:=Ab hra;clear G hP hNo hra;obtain⟨n1,f1,h1⟩:∃n1 f1,lng bs k=(n1,f1):=⟨_,_,rfl⟩
 obtain⟨n2,f2,h2⟩:∃n2 f2,lng bs (k+1)=(n2,f2):=⟨_,_,rfl⟩
 have H1:=Ab h1;have H2:=Ab h2
 have ht':Od bs k=if n1=0 then (bs.getD k 0,0,0)else if n1<n2 then (bs.getD k 0,0,0)else (0,(n1:Int),(f1:Int)):=by
  unfold Od;rw[h1,h2]
 rw[Aa ht]at ht';clear h1 h2 ht;go_enter Tryz.func186,Tryz.ntmps186
 go_wp2_with fail
 refine(Ra _ B p mb base b o n cap kn k bs _ (Aa HGa) hl hcap (Aa HPa) hk (by omega) (Aa HNa) n1 f1 H1).mono ?_;rintro e w1 ⟨rfl,⟨kn1,hk1,hP1⟩,hB1,hK1⟩;have hz1:=hB1.size;simp only[World.size_alloc]at hz1;have hr1:w1.heap[w.heap.size]? =some (.cells #[.int .u8 0,.int .i64 0,.int .i64 0] 248 (0,0)):=(hK1 w.heap.size (by simp) (.inr rfl)).trans (Aa HRa);have HP1:=Ab hP1;have HB1:=Ab ((Aa HBa).trans hB1);have HK1:Hid (Kp No w w1):=((Kp.refl No w).grown (World.grownBy_alloc w (.cells #[.int .u8 0,.int .i64 0,.int .i64 0] 248) none) (VC _) (fun j e=>by cases e)).trans (hK1.weaken (fun g h=>.inl h)) (by simp);have c0:=hP1.pst.cell0;have bk:=hP1.row k (by omega);clear hP1 hB1 hK1 HPa HNa HBa HRa;have r0:w1.cell? ⟨w.heap.size,0,none⟩=some (.int .u8 0):=Ac hr1;have r1:w1.cell? ⟨w.heap.size,1,none⟩=some (.int .i64 0):=Ac hr1;have r2:w1.cell? ⟨w.heap.size,2,none⟩=some (.int .i64 0):=Ac hr1;have fr:∀j,w1.frozen? ⟨w.heap.size,j,none⟩=false:=fun j=>frozen_of_row w1 _ j _ _ hr1
 have FIN:Hid (∀(W:World) (kq:Nat) (x y z:Value),kq<=k+1->Pas (fun g=>No g\/g=w.heap.size) W p mb base b o n cap bs kq->Below B w W->Kp No w W->w.heap.size<=W.heap.size->
  (∃kn',kn'<=k+1/\Pas No (((W.setCell ⟨w.heap.size,0,none⟩ x).setCell ⟨w.heap.size,1,none⟩ y).setCell ⟨w.heap.size,2,none⟩ z) p mb base b o n cap bs kn')/\Below B w (((W.setCell ⟨w.heap.size,0,none⟩ x).setCell ⟨w.heap.size,1,none⟩ y).setCell ⟨w.heap.size,2,none⟩ z)/\Kp No w (((W.setCell ⟨w.heap.size,0,none⟩ x).setCell ⟨w.heap.size,1,none⟩ y).setCell ⟨w.heap.size,2,none⟩ z)):=by
  intro W kq x y z hq hPq hBq hKq hsq;have hg:=KD W w.heap.size x y z;have G:=Aa HG;have hp0:=(Aa HP).pst.lt;have hm0:=(Aa HP).grp.lt.2;refine⟨⟨kq,hq,(hPq.grown (Aa HGa) hg (fun j e=> ?_)).weaken (fun g h=>.inl h)⟩,hBq.grown hg (VX hBw hsq) (fun j e=>by cases e;exact hBw), ?_⟩
  . cases e
    have:=G.bB
    exact⟨by omega,by omega,by omega,.inl (.inr rfl)⟩
  . intro g h1 h2;rw[hg.block g (by omega) (fun e=>by simp at e;omega)];exact hKq g h1 h2
 by_cases hn1:n1=0
 . rw[if_pos hn1]at ht';generalize bs.getD k 0=x at*;obtain⟨rfl,rfl,rfl⟩:tb=x/\ts=0/\tf=0:=by simpa using ht'
   subst hn1;have HR:=Ab (Q4 (a:=.int .u8 (tb:Int)) (b:=.int .i64 0) (c:=.int .i64 0) hr1);go_wp2;exact bodyPost_ret (Q7 rfl _ _ _ _ rfl rfl (Aa HR)) rfl ⟨rfl,Aa FIN w1 kn1 _ _ _ (by omega) (Aa HP1) (Aa HB1) (Aa HK1) (by omega)⟩
 . rw[if_neg hn1]at ht';have hb1:((n1:Int)==0)=false:=by rw[beq_eq_false_iff_ne];omega
   have hk3:k+1<=n:=hkn;clear c0 bk r0 r1 r2 fr;go_wp2_with fail
   have HNb:Hid (∀g,w1.heap.size<=g->¬(No g\/g=w.heap.size)):=by
    intro g hg;rintro (h|h)
    . exact Aa HN g (by omega) h
    . omega
   refine(Ra _ B p mb base b o n cap kn1 (k+1) bs w1 (Aa HGa) hl hcap (Aa HP1) (by omega) hk3 (Aa HNb) n2 f2 H2).mono ?_;rintro e w2 ⟨rfl,⟨kn2,hk2,hP2⟩,hB2,hK2⟩;have hz2:=hB2.size;have hr2:w2.heap[w.heap.size]? =some (.cells #[.int .u8 0,.int .i64 0,.int .i64 0] 248 (0,0)):=(hK2 w.heap.size (by omega) (.inr rfl)).trans hr1;have HP2:=Ab hP2;have HB2:=Ab ((Aa HB1).trans hB2);have HK2:Hid (Kp No w w2):=(Aa HK1).trans (hK2.weaken (fun g h=>.inl h)) (by omega);have c0:=hP2.pst.cell0;have bk:=hP2.row k (by omega);clear hP2 hB2 hK2;have r0:w2.cell? ⟨w.heap.size,0,none⟩=some (.int .u8 0):=Ac hr2;have r1:w2.cell? ⟨w.heap.size,1,none⟩=some (.int .i64 0):=Ac hr2;have r2:w2.cell? ⟨w.heap.size,2,none⟩=some (.int .i64 0):=Ac hr2;have fr:∀j,w2.frozen? ⟨w.heap.size,j,none⟩=false:=fun j=>frozen_of_row w2 _ j _ _ hr2
   by_cases hn2:n1<n2
   . rw[if_pos hn2]at ht';generalize bs.getD k 0=x at*;obtain⟨rfl,rfl,rfl⟩:tb=x/\ts=0/\tf=0:=by simpa using ht'
     have HR:=Ab (Q4 (a:=.int .u8 (tb:Int)) (b:=.int .i64 0) (c:=.int .i64 0) hr2);go_wp2;exact bodyPost_ret (Q7 rfl _ _ _ _ rfl rfl (Aa HR)) rfl ⟨rfl,Aa FIN w2 kn2 _ _ _ hk2 (Aa HP2) (Aa HB2) (Aa HK2) (by omega)⟩
   . rw[if_neg hn2]at ht'
     obtain⟨rfl,rfl,rfl⟩:0=tb/\(n1:Int)=ts/\(f1:Int)=tf:=by
      simp only[YW]at ht';exact⟨ht'.1.symm,ht'.2.1.symm,ht'.2.2.symm⟩
     have HR:=Ab (Q4 (a:=.int .u8 0) (b:=.int .i64 (n1:Int)) (c:=.int .i64 (f1:Int)) hr2);go_wp2;exact bodyPost_ret (Q7 rfl _ _ _ _ rfl rfl (Aa HR)) rfl ⟨rfl,Aa FIN w2 kn2 _ _ _ hk2 (Aa HP2) (Aa HB2) (Aa HK2) (by omega)⟩
theorem Pas.turn {No No':Nat->Prop}{W w3:World}{p mb base b o n cap kn:Nat}{bs:List Nat}{r:Option Nat}(h:Pas No W p mb base b o n cap bs kn)(h3:Pas No w3 p mb base b o n cap bs kn)(hg:W.grownBy w3 r)(hr:some mb≠r)(hn:∀g,No' g->No g\/W.heap.size<=g):Pas No' w3 p mb base b o n cap bs kn:=
 ⟨h3.pst,h3.grp,(h.more hn).shun.kept hg h.grp.lt.2 hr,h3.row,h3.size⟩
theorem Zb (W:World)(x y z:Value)(t:TypeId):∀j u,[x,y,z][j]? =some u->(W.alloc (.cells #[x,y,z] t)).cell? ((⟨W.heap.size,0,none⟩:Addr).add j)=some u:=by
 intro j u hj;have e:(⟨W.heap.size,0,none⟩:Addr).add j=⟨W.heap.size,j,none⟩:=by unfold Addr.add;split<;>simp_all
 rw[e,World.cell?_alloc_at _ _ _ _ rfl]
 match j,hj with
 |0,hj=>simpa using hj
 |1,hj=>simpa using hj
 |2,hj=>simpa using hj
theorem P4 (a:Option Addr)(cap:Nat)(w:World):Calls Tryz.prog 157 #[.slice a 0 cap] w fun e w'=>e=.returned (.tuple #[.slice none 0 0,.int .i64 0])/\Below w.heap.size w w':=by
 have HB:=Ab (((Below.refl w.heap.size w).alloc (VC _) (.map #[] 0)).alloc (by simp) (.cells #[.slice a 0 cap,.map (some w.heap.size),.int .i64 0] 296));go_enter Tryz.func157,Tryz.ntmps157
 go_wp2_with fail
 refine(Qx a 0 cap w).mono ?_;rintro e w1 ⟨rfl,rfl⟩;go_wp2;go_loop [4,6] (fun v4 v6=>v4=.slice none 0 0/\v6=.int .i64 0) (fun _ _=>0)
 case atStart=>exact⟨rfl,rfl⟩
 case round=>
  obtain⟨rfl,rfl⟩:=hrel;go_wp2;go_ret2;exact⟨rfl,Aa HB⟩
theorem O9 (b o n cap:Nat)(bs:List Nat)(w:World)(hl:bs.length=n)(hn:n<=3000)(hcap:n<=cap)(hb:b<w.heap.size)(hB:Bytes w b o bs)(hx:∀j,bs.getD j 0<256):
 Calls Tryz.prog 157 #[.slice (some ⟨b,o,none⟩) n cap] w fun e w'=>∃v,e=.returned (.tuple #[v,.int .i64 0])/\w'.ownsRow w.heap.size 248 3 v (Dm bs).length (tvs (Dm bs))/\Below w.heap.size w w':=by
 obtain⟨i0,hi,hz0,hz1,hz2⟩:=info_parts BK;have HL:=Ab hl;have HX:=Ab hx;have HGg:Hid (∀No:Nat->Prop,¬No (w.heap.size+1)->¬No w.heap.size->Geo No w.heap.size (w.heap.size+1) w.heap.size (w.heap.size+2) b bs):=fun No h1 h2=>⟨hb,by omega,VC _,by omega,by omega,h1,h2,by omega,hx⟩
 have HP0:Hid (Pas (fun g=>(Value.slice none 0 0).ownBlock=some g) ((w.alloc (.map #[] 0)).alloc (.cells #[.slice (some ⟨b,o,none⟩) n cap,.map (some w.heap.size),.int .i64 0] 296)) (w.heap.size+1) w.heap.size (w.heap.size+2) b o n cap bs 0):=by
  have hg:=World.grownBy_alloc (w.alloc (.map #[] 0)) (.cells #[.slice (some ⟨b,o,none⟩) n cap,.map (some w.heap.size),.int .i64 0] 296) none;refine⟨?_,(Grp.made w (w.heap.size+2) bs (by omega)).kept hg (fun j e=>by cases e),(World.Shuns_made w _).kept hg (by simp) (by simp), ?_,by simp⟩
  . have:=heap_alloc_new (w.alloc (.map #[] 0)) (.cells #[.slice (some ⟨b,o,none⟩) n cap,.map (some w.heap.size),.int .i64 0] 296)
    rw[World.size_alloc]at this;exact this
  . exact(hB.grown (World.grownBy_alloc w _ none) (by simp)).grown hg (by simp)
 have HB0:=Ab (((Below.refl w.heap.size w).alloc (VC _) (.map #[] 0)).alloc (by simp) (.cells #[.slice (some ⟨b,o,none⟩) n cap,.map (some w.heap.size),.int .i64 0] 296));clear hB hx;go_enter Tryz.func157,Tryz.ntmps157
 go_wp2_with fail
 refine(Qx (some ⟨b,o,none⟩) n cap w).mono ?_;rintro e w1 ⟨rfl,hw1⟩;have HP1:Hid (Pas (fun g=>(Value.slice none 0 0).ownBlock=some g) w1 (w.heap.size+1) w.heap.size (w.heap.size+2) b o n cap bs 0):=by rw[hw1];exact Aa HP0
 have HB1:Hid (Below w.heap.size w w1):=by rw[hw1];exact Aa HB0
 clear hw1 HP0 HB0;have HT:Hid (∀l,l=Dm bs->l=Dm bs):=fun l h=>h
 generalize hT:Dm bs=T at*;have HTT:=Ab hT;clear hT HT;go_wp2;go_loopw [4,6] (fun v4 v6 wr=>∃(k fuel kn:Nat) (acc:List Tk),k<=n/\v6=.int .i64 (k:Int)/\acc++tks bs fuel k=T/\n<=k+fuel/\acc.length<=k/\kn<=k/\wr.ownsRow (w.heap.size+2) 248 3 v4 acc.length (tvs acc)/\Pas (fun g=>v4.ownBlock=some g) wr (w.heap.size+1) w.heap.size (w.heap.size+2) b o n cap bs kn/\Below w.heap.size w wr) (fun _ v6 _=>n-(intOf v6).toNat)
 case atStart=>exact⟨0,n,0,[],VM _,rfl,by rw[<-Aa HTT];simp[Dm,Aa HL],by omega,VC _,VC _,World.ownsRow_nil _ _ _ _,Aa HP1,Aa HB1⟩
 case round=>
  obtain⟨k,fuel,kn,acc,hk,rfl,hT,hf,hak,hkn,hO,hP,hBr⟩:=hrel;have hT2:=Ab hT;have HO:=Ab hO;have HP:=Ab hP;have HBr:=Ab hBr;have hzr:=hBr.size;have hsz2:=hP.size;clear hT
  by_cases hlt:k<n
  . obtain⟨fuel',hs1,hs2⟩:=QX bs fuel k (by omega) (by omega);have hw:=Ku bs k (by omega);have hright:=Tx bs k (by omega);have hmx:=Z1k hright;have hwle:=Z4m hright;obtain⟨tb,ts,tf,ht⟩:∃tb ts tf,Od bs k=(tb,ts,tf):=⟨_,_,_,rfl⟩
    have HTk:=Ab ht;have hmx':max ts 1=((wid (Od bs k):Nat):Int):=by rw[ht]at hmx ⊢;exact hmx
    have HTn:Hid ((acc++ [(tb,ts,tf)])++tks bs fuel' (k+wid (Od bs k))=T):=by
     rw[<-Aa hT2,hs1,ht,VJ];rfl
    generalize wid (Od bs k)=wd at*
    have HNo:Hid (∀g,wr.heap.size<=g->¬(u4.ownBlock=some g)):=fun g hg e=>by
     have:=(hO.lt g e).2
     omega
    have hnob:∀g,u4.ownBlock=some g->w.heap.size+2<=g:=fun g e=>(hO.lt g e).1
    have HNob:=Ab hnob;have HG:Hid (Geo (fun g=>u4.ownBlock=some g) w.heap.size (w.heap.size+1) w.heap.size (w.heap.size+2) b bs):=Aa HGg _ (fun e=>by have:=hnob _ e;omega) (fun e=>by have:=hnob _ e;omega);clear hO hP hBr hmx hright hs1 ht hnob;go_wp2_with fail
    refine(JC _ w.heap.size (w.heap.size+1) w.heap.size (w.heap.size+2) b o n cap kn k bs wr (Aa HG) (Aa HL) hcap (Aa HP) hkn hlt (Aa HNo) tb ts tf HTk).mono ?_;rintro e w2 ⟨rfl,⟨kn2,hk2,hP2⟩,hB2,hK2⟩;have hz2':=hB2.size;have HP2:=Ab hP2;have HB2:=Ab ((Aa HBr).trans hB2);have HO2:Hid (w2.ownsRow (w.heap.size+2) 248 3 u4 acc.length (tvs acc)):=Ar (Aa HO) (fun g hg=>hK2 g ((Aa HO).lt g hg).2 hg);clear hP2 hB2 hK2 HP HO HBr HP1 HB1;have HOw:=Ab (((Aa HO2).alloc (.cells #[.int .u8 (tb:Int),.int .i64 ts,.int .i64 tf] 248)).alloc (.cells #[.int .u8 (tb:Int),.int .i64 ts,.int .i64 tf] 248));have HPw:=Ab (((Aa HP2).grown (Aa HG) (World.grownBy_alloc w2 (.cells #[.int .u8 (tb:Int),.int .i64 ts,.int .i64 tf] 248) none) (fun j e=>by cases e)).grown (Aa HG) (World.grownBy_alloc _ (.cells #[.int .u8 (tb:Int),.int .i64 ts,.int .i64 tf] 248) none) (fun j e=>by cases e));have HBw:=Ab (((Aa HB2).alloc (by omega) (.cells #[.int .u8 (tb:Int),.int .i64 ts,.int .i64 tf] 248)).alloc (by simp;omega) (.cells #[.int .u8 (tb:Int),.int .i64 ts,.int .i64 tf] 248));have HCw:=Ab (Zb (w2.alloc (.cells #[.int .u8 (tb:Int),.int .i64 ts,.int .i64 tf] 248)) (.int .u8 (tb:Int)) (.int .i64 ts) (.int .i64 tf) 248);go_wp2_with (at_builtin;refine wpList_append_own_at _ rfl _ _ 219 rfl (w.heap.size+2) 248 i0 _ 3 24 Tryz.underlying219 hi hz0 hz1 hz2 rfl (by decide) u4 acc.length (tvs acc) rfl (Aa HOw) ⟨w2.heap.size+1,0,none⟩ 1 1 [.int .u8 (tb:Int),.int .i64 ts,.int .i64 tf] rfl rfl (by have:=Aa HCw;simp only[World.size_alloc]at this;exact this) (by intro u hu;simp at hu;rcases hu with rfl|rfl|rfl<;>rfl) (by unfold maxLen;omega) (by omega) (by simp;omega) ?_)
    intro v' w3 hO3 hgrow _ hspot;have hne:some w2.heap.size≠u4.ownBlock:=fun e=>by have:=((Aa HO2).lt _ e.symm).2;omega
    have q0:w3.cell? ⟨w2.heap.size,0,none⟩=some (.int .u8 (tb:Int)):=hgrow.cell (by simp) hne;have q1:w3.cell? ⟨w2.heap.size,1,none⟩=some (.int .i64 ts):=hgrow.cell (by simp) hne;have q2:w3.cell? ⟨w2.heap.size,2,none⟩=some (.int .i64 tf):=hgrow.cell (by simp) hne
    have HO3:Hid (w3.ownsRow (w.heap.size+2) 248 3 v' (acc++ [(tb,ts,tf)]).length (tvs (acc++ [(tb,ts,tf)]))):=by
     rw[Ts,VB];exact hO3
    have HB3:=Ab ((Aa HBw).grown hgrow (by simp;omega) (fun g e=>by have:=Aa HNob g e;omega));have HP3a:=Ab ((Aa HPw).grown (Aa HG) hgrow (fun g e=>by have:=Aa HNob g e;exact⟨by omega,by omega,by omega,.inl e⟩))
    have HP3:Hid (Pas (fun g=>v'.ownBlock=some g) w3 (w.heap.size+1) w.heap.size (w.heap.size+2) b o n cap bs kn2):=(Aa HPw).turn (Aa HP3a) hgrow (fun e=>by have:=Aa HNob _ e.symm;omega) (fun g hg=>by
     rcases hspot with h|h
     . exact .inl (by rw[<-h];exact hg)
     . refine .inr ?_;have hg':v'.ownBlock=some g:=hg;rw[h]at hg';have:=VN hg'
       simp only[World.size_alloc]at this ⊢;omega)
    clear hO3 hgrow hspot hne HP3a HPw HBw HOw HCw HP2 HB2 HO2;go_wp2_with fail
    refine(W5 tb ts tf w3 wd hmx').mono ?_;rintro e w4 ⟨rfl,hg4⟩;have HO4:=Ab (Lg (Aa HO3) hg4);have HB4:=Ab (Nl (Aa HB3) hg4 (Aa HB3).size);have HP4:=Ab ((Aa HP3).grown (Aa HGg _ (fun e=>by have:=((Aa HO3).lt _ e).1;omega) (fun e=>by have:=((Aa HO3).lt _ e).1;omega)) hg4 (fun j e=>by cases e));clear hg4 q0 q1 q2;go_wp2;go_roundw
    case rel=>exact⟨k+wd,fuel',kn2,acc++ [(tb,ts,tf)],by omega,by go_num,Aa HTn,by omega,by simp;omega,by omega,Aa HO4,Aa HP4,Aa HB4⟩
    case measure=>simp[intOf];omega
  . obtain rfl:n=k:=by omega
    have e:acc=T:=by
     have:=Aa hT2
     rw[QY bs fuel n (by omega),WO]at this;exact this
    have HO5:=Wo (Aa HO) (show w.heap.size<=w.heap.size+2 by omega);rw[e,<-Aa HTT]at HO5;have HO6:=Ab HO5;clear hO hP hBr HO5;go_wp2;go_ret2;exact⟨u4,rfl,Aa HO6,Aa HBr⟩
theorem TokIn.ofOwn {w:World}{B n:Nat}{v:Value}{l:List Tk}(h:w.ownsRow B 248 3 v n (tvs l)):l.length=n/\∃a c,v=.slice a n c/\TokIn w a l:=by
 have hn:l.length=n:=by have:=h.1;rw[Tr]at this;omega
 refine⟨hn, ?_⟩
 rcases h.2 with ⟨h1,h2⟩|⟨g,cap,cur,h1,_⟩
 . subst h2;exact⟨none,0,h1,.inl (WP hn)⟩
 . subst h1;exact⟨_,_,rfl,TokIn.own h⟩
end Go.Proofs.YtieianhejdcgdaaGreatDoor
