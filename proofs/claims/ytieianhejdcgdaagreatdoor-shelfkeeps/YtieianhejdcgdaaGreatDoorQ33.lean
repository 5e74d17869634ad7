import Derived.Test.YtieianhejdcgdaaGreatDoorQ32
import Derived.Deep.CutBlock
set_option linter.unusedSimpArgs false
set_option maxHeartbeats 1000000
namespace Go.Proofs.YtieianhejdcgdaaGreatDoor
open Go.RowKit
set_option linter.unusedVariables false
set_option maxRecDepth 100000
theorem R9 {j:Nat}(h:j<19):PZ.getD j 0=((ord19.getD j 0:Nat):Int)/\ord19.getD j 0<19:=by
 have:(List.range 19).all (fun j=>PZ.getD j 0==((ord19.getD j 0:Nat):Int)&&decide (ord19.getD j 0<19))=true:=by decide
 have:=WS.1 this j (by simpa using h)
 simpa using this
theorem Tv (l:List Int)(n:Nat):Gv l n n=n:=by
 cases n with
 |zero=>rfl
 |succ n=>rw[Gv,if_neg (fun h=>by omega)]
theorem Xy (b1 b2:Nat)(l1 l2:List Int):Pp [(b1,l1),(b2,l2)] 2=l1++l2:=by simp[Pp]
theorem DP {w:World}{B n c g:Nat}{xs:List Int}(h:w.ownsRow B 3 1 (.slice (some ⟨g,0,none⟩) n c) n (iv xs))(hl:xs.length=n):Row .i64 w g 0 xs:=by
 intro j hj;rw[WI];have:=h.cellAt j (by omega)
 rw[this];simp[iv,List.getD,hj]
theorem Z2o {w:World}{B e n c g:Nat}{xs:List Value}(h:w.ownsRow B e 1 (.slice (some ⟨g,0,none⟩) n c) n xs):n<=c:=by
 rcases h.2 with ⟨h1,h2⟩|⟨g',cap,cur,h1,h2,h3⟩
 . cases h1
 . cases h1
   exact h3.2.1
theorem Sx (No:Nat->Prop)(B rb b1 n1 c1 b2 n2 c2:Nat)(l1 l2:List Int)(S:List Bool)(w:World)(h:RIs No B w rb S)(hl1:l1.length=n1)(hl2:l2.length=n2)(h1a:257<=n1)(h1b:n1<=286)(h2a:1<=n2)(h2b:n2<=30)(hb1:b1<w.heap.size)(hb2:b2<w.heap.size)(hR1:Row .i64 w b1 0 l1)(hR2:Row .i64 w b2 0 l2)(hx:∀x∈l1++l2,0<=x/\x<=15)(hS:S.length<=277000)(hNo:∀g,w.heap.size<=g->¬No g):
 Calls Tryz.prog 221 #[.pointer (some ⟨rb,0,none⟩),.slice (some ⟨b1,0,none⟩) n1 c1,.slice (some ⟨b2,0,none⟩) n2 c2] w fun e w'=>e=.returned (.tuple #[])/\Own (l1++l2) (N4 (l1++l2))/\Rp No B w rb (S++Jv l1 l2 (N4 (l1++l2))) w':=by
 have HH:=Ab h;have HL1:=Ab hl1;have HL2:=Ab hl2;have HR1:=Ab hR1;have HR2:=Ab hR2;have HX:=Ab hx;have HNo:=Ab hNo;clear h hl1 hl2 hR1 hR2 hx hNo;obtain⟨all,hall⟩:∃all,l1++l2=all:=⟨_,rfl⟩
 rw[hall]at HX;have hal:all.length=n1+n2:=by rw[<-hall,VB,Aa HL1,Aa HL2]
 have HALL:=Ab hall;have HAL:=Ab hal;clear hal;rw[hall];clear hall;obtain⟨own,hown⟩:∃own,N4 all=own:=⟨_,rfl⟩
 rw[hown];have HOWN:=Ab hown;clear hown;obtain⟨N,hN⟩:∃N,n1+n2=N:=⟨_,rfl⟩
 have hN2:258<=N/\N<=316:=by omega
 have HN:=Ab hN;clear hN;obtain⟨OZ,hOZ⟩:∃OZ,PZ=OZ:=⟨_,rfl⟩
 have HOZ:=Ab hOZ;have HOR:=Ab (fun W=>by have:=B7 W;rw[hOZ]at this;exact this);have hozl:OZ.length=19:=by rw[<-hOZ];rfl
 have hiO:(Tryz.prog.info? 325).map (·.size)=some (iv OZ).toArray.size:=by rw[MU];simp[hozl]
 clear hOZ;go_enter Tryz.func221,Tryz.ntmps221
 go_wp2_with fail
 refine(GF (w.heap.size+1) 0 2 2 (fun j=>if j=0 then c1 else c2) [(b1,l1),(b2,l2)] _ (by simp) ?_ ?_ ?_ ?_ (by decide)).mono ?_
 . intro j hj
   rcases(by omega:j=0\/j=1)with rfl|rfl
   . simp[Aa HL1]
   . simp[Aa HL2]
 . intro j hj
   rcases(by omega:j=0\/j=1)with rfl|rfl
   . exact .inr ⟨b1,0,rfl,by simp;omega,(((Aa HR1).alloc hb1 _).alloc (by simp;omega) _)⟩
   . exact .inr ⟨b2,0,rfl,by simp;omega,(((Aa HR2).alloc hb2 _).alloc (by simp;omega) _)⟩
 . intro k hk;have e1:=Aa HL1;have e2:=Aa HL2
   rcases(by omega:k=0\/k=1\/k=2)with rfl|rfl|rfl
   . simp[Pp]
   . simp[Pp];omega
   . rw[Xy,VB];omega
 . have e1:=Aa HL1;rw[Xy,VB];omega
 rw[Xy,Aa HALL,Aa HAL,Aa HN];rintro e wA ⟨v,rfl,hO,hBA⟩;obtain⟨g6,c6,rfl,hg61,hg62⟩:=Bt hO (by omega);have hRA:=DP hO (by rw[Aa HAL,Aa HN]);have hcA:=Z2o hO;have hzA:=hBA.size;simp only[World.size_alloc]at hzA hg61;have hBwA:Below w.heap.size w wA:=(((Below.refl w.heap.size w).alloc (VC _) _).alloc (by simp) _).trans (hBA.mono (by simp;omega));have c0A:wA.cell? ⟨w.heap.size,0,none⟩=some (.pointer (some ⟨rb,0,none⟩)):=(hBA.cell (p:=⟨w.heap.size,0,none⟩) (by simp;omega)).trans (by simp);have HRA:=Ab hRA;have HBA:=Ab hBwA;clear hO hBA hRA hBwA;go_wp2_with fail
 refine(Aa HOR _).mono ?_;rintro e wB ⟨rfl,hBB⟩;have hzB:=hBB.size;have HBB:=Ab hBB;have A1:(wB.alloc (.cells (iv (List.replicate 19 0)).toArray 325)).heap[wB.heap.size]? =some (.cells (iv (List.replicate 19 0)).toArray 325 (0,0)):=heap_alloc_new _ _;have HA1:=Ab A1;clear hBB A1;go_upto_region 3 with (refine wpList_store_row rfl 325 (.tmp 7) (.tmp 17) rfl wB.heap.size _ rfl rfl 325 (iv (List.replicate 19 0)).toArray (Aa HA1) hiO (by simp[hozl]) (Cr OZ) ?_)
 simp only[Act.put];generalize hWC:World.setRow (World.alloc _ _) _ _=wC;have tO:ARow 325 wC wB.heap.size OZ:=by rw[<-hWC];exact setRow_heap _ _ _ _ _ _ (Aa HA1)
 have tB:Below w.heap.size w wC:=by rw[<-hWC];exact Av (((Aa HBA).trans ((Aa HBB).mono (by omega))).alloc (by omega) _) (by omega) _
 have tAB:Below wA.heap.size wA wC:=by rw[<-hWC];exact Av ((Aa HBB).alloc (by omega) _) (by omega) _
 have hzC:wB.heap.size<wC.heap.size:=by rw[<-hWC];simp
 clear hWC;have c0C:wC.cell? ⟨w.heap.size,0,none⟩=some (.pointer (some ⟨rb,0,none⟩)):=(tAB.cell (p:=⟨w.heap.size,0,none⟩) (by show w.heap.size<_;omega)).trans c0A;have HRC:Hid (Row .i64 wC g6 0 all):=Ab ((Aa HRA).below tAB hg62);have HTO:=Ab tO;have HTB:=Ab tB;clear tO tB tAB c0A HA1 HBB HBA HRA;go_wp2_with fail
 refine(Ip _ _ _ _ g6 0 N c6 all _ (Z07 wC.heap.size (lenIs all) (Xa _ all (Aa HX)) ?_) (by rw[Aa HAL,Aa HN]) (by omega) hcA (Aa HX) ?_ ?_).mono ?_
 . have:=D3 all
   rw[Aa HAL,Aa HN]at this;omega
 . intro W hW;exact((Aa HRC).alloc (by omega) _).below hW (by omega)
 . exact(heap_alloc_new _ _).trans (by kernel_rfl)
 rintro e wD ⟨rfl,hJD,hBD⟩;have hzD:=hBD.size;simp only[World.size_alloc]at hzD;have HRD:Hid (Row .i64 wD g6 0 all):=Ab (((Aa HRC).alloc (by omega) _).below hBD (by omega));have HTD:Hid (ARow 325 wD wB.heap.size OZ):=Ab ((Aa HTO).keep ((hBD.block _ (by omega)).trans (Below.heap_alloc wC _ _ (by omega))));have HBD:Hid (Below w.heap.size w wD):=Ab (((Aa HTB).alloc (by omega) _).trans (hBD.mono (by omega)));have c0D:wD.cell? ⟨w.heap.size,0,none⟩=some (.pointer (some ⟨rb,0,none⟩)):=(hBD.cell (p:=⟨w.heap.size,0,none⟩) (by show w.heap.size<_;omega)).trans ((World.cell?_alloc_past _ _ _ (by show w.heap.size<_;omega)).trans c0C);have HJD:=Ab hJD;clear hJD hBD c0C HTO HTB HRC;have hgood:GoodW (Yf (lenIs all)) 7:=Zu (by rw[Aa HAL,Aa HN];omega);have HLO:=Ab (Hq (some ⟨wC.heap.size,0,none⟩) 19 19 (Yf (lenIs all)) 7 19 wD (Ov _) (.inr ⟨_,0,rfl,(Aa HJD).lt,(Aa HJD).row⟩) hgood (VC _) 19 (Ab (Tv _ _)));clear hgood;go_wp2_with fail
 refine(Aa HLO).mono ?_;rintro e wE ⟨g9,rfl,hI,hg91,hg92,hRE,hBE⟩;have hOwn:=Z0w (by rw[Aa HAL,Aa HN];omega) (Aa HX) hI;have e0:lensD (Yf (lenIs all)) 7=own:=Aa HOWN;rw[e0]at hOwn hRE;clear hI e0 HLO
 have e1:trimL own 19=own:=by
  unfold trimL;rw[hOwn.lo,Tv];exact VP (by rw[hOwn.lo];exact VC _)
 rw[e1]at hRE;clear e1;have hzE:=hBE.size;have HTE:Hid (ARow 325 wE wB.heap.size OZ):=Ab ((Aa HTD).keep (hBE.block _ (by omega)));have HRWE:Hid (Row .i64 wE g6 0 all):=Ab ((Aa HRD).below hBE (by omega));have HBE:Hid (Below w.heap.size w wE):=Ab ((Aa HBD).trans (hBE.mono (by omega)));have c0E:wE.cell? ⟨w.heap.size,0,none⟩=some (.pointer (some ⟨rb,0,none⟩)):=(hBE.cell (p:=⟨w.heap.size,0,none⟩) (by show w.heap.size<_;omega)).trans c0D;have HOW:=Ab hOwn;have HRO:=Ab hRE;clear hOwn hRE hBE c0D HJD HTD HRD HBD;obtain⟨No1,hNo1⟩:∃No1:Nat->Prop,No1=fun g=>No g\/ (w.heap.size<=g/\g<wE.heap.size):=⟨_,rfl⟩
 have hno1:∀g,wE.heap.size<=g->¬No1 g:=by
  intro g hg e;rw[hNo1]at e
  rcases e with e|e
  . exact Aa HNo g (by omega) e
  . omega
 have hr1:RIs No1 B wE rb S:=(Aa HH).grow (Aa HBE) (fun g e=>by
  rw[hNo1]at e
  rcases e with e|e
  . exact .inl e
  . exact .inr e.1)
 have hin1:∀g,w.heap.size<=g->g<wE.heap.size->No1 g:=fun g h1 h2=>by rw[hNo1];exact .inr ⟨h1,h2⟩
 have hle1:∀g,No g->No1 g:=fun g h1=>by rw[hNo1];exact .inl h1
 have HN1:=Ab hno1;have HI1:=Ab hin1;have HE1:=Ab hle1;have HRI:=Ab hr1;clear hno1 hin1 hle1 hr1 hNo1
 have hCO:∀W,Kp No1 wE W->(W.cell? ⟨w.heap.size,0,none⟩=some (.pointer (some ⟨rb,0,none⟩)))/\(∀q,q<19->W.cell? ⟨wB.heap.size,q,none⟩=some (.int .i64 ((ord19.getD q 0:Nat):Int)))/\(∀q,q<19->W.cell? ⟨g9,q,none⟩=some (.int .i64 (own.getD q 0))):=by
  intro W hW;refine⟨hW.cell (by omega) (Aa HI1 _ (VC _) (by omega)) c0E,fun q hq=> ?_,fun q hq=> ?_⟩
  . have:=(Aa HTE).cell q (by omega)
    rw[<-Aa HOZ,(R9 hq).1]at this;exact hW.cell (by omega) (Aa HI1 _ (by omega) (by omega)) this
  . have:=Aa HRO q (by rw[(Aa HOW).lo];exact hq)
    rw[WI]at this;exact hW.cell (by omega) (Aa HI1 _ (by omega) (by omega)) this
 have HCO:=Ab hCO;obtain⟨cE0,cE1,cE2⟩:=hCO wE (Kp.refl _ _);have HC1:=Ab cE1;have HC2:=Ab cE2;clear hCO cE1 cE2 cE0;obtain⟨M,hM⟩:∃M,Wq own 19=M:=⟨_,rfl⟩
 have hM2:4<=M/\M<=19:=by rw[<-hM];exact⟨R8 own 19 (by decide),Wp own 19⟩
 have HM:=Ab hM;clear hM;go_upto_block 0 with (fail)
 go_cut [10] (fun v wc=>v=.int .i64 (M:Int)/\wE=wc)
 case first=>
  go_wp2;go_loop [10] (fun v=>∃k:Nat,4<=k/\k<=19/\v=.int .i64 (k:Int)/\Hid (Wq own k=M)) (fun v=>(intOf v).toNat)
  case atStart=>exact⟨19,by decide,by decide,rfl,HM⟩
  case round=>
   obtain⟨k,hk4,hk19,rfl,ht⟩:=hrel
   by_cases h4:4<k
   . obtain⟨q,rfl⟩:∃q,k=q+1:=⟨k-1,by omega⟩
     have d1:=Aa HC1 q (by omega);have ho:=(R9 (j:=q) (by omega)).2;have d2:=Aa HC2 _ ho;have h4I:(4:Int)<((q+1:Nat):Int):=by omega
     have i1:(((q+1:Nat):Int)-1).toNat=q:=by omega
     have i2:(0:Int)<=((q+1:Nat):Int)-1:=by omega
     have i3:((q+1:Nat):Int)-1<(19:Int):=by omega
     have hoI:((ord19.getD q 0:Nat):Int)<19:=by omega
     by_cases h0:own.getD (ord19.getD q 0) 0=0
     . rw[h0]at d2;have HT:Hid (Wq own q=M):=Ab (by have:=Aa ht;rw[Wq,if_pos ⟨h4,h0⟩]at this;exact this);clear h0 ht;generalize ord19.getD q 0=oq at*;go_wp2;go_round
       case rel=>exact⟨q,by omega,by omega,by go_num,HT⟩
       case measure=>simp[intOf]
     . have HT:Hid (q+1=M):=Ab (by have:=Aa ht;rw[Wq,if_neg (fun h=>h0 h.2)]at this;exact this);have hb:(own.getD (ord19.getD q 0) 0==0)=false:=by rw[beq_eq_false_iff_ne];exact h0
       generalize own.getD (ord19.getD q 0) 0=x at d2 hb;generalize ord19.getD q 0=oq at*;clear h0 ht;go_wp2;go_meet
       exact⟨by rw[<-Aa HT];go_num,rfl⟩
   . have HT:Hid (k=M):=Ab (by
      have:=Aa ht
      cases k with
      |zero=>rw[Wq]at this;exact this
      |succ k=>rw[Wq,if_neg (fun h=>h4 h.1)]at this;exact this)
     have h4I:¬(4:Int)<(k:Int):=by omega
     clear ht;go_wp2;go_meet
     exact⟨by rw[<-Aa HT],rfl⟩
 case rest=>
  obtain⟨rfl,rfl⟩:=hcut;have hrb:=(Aa HH).base;have hrl:=(Aa HH).lt;have P1:=Dl No1 B rb (n1-257) 5 S wE (Aa HRI) (by omega) (by decide) (by omega) (Aa HN1);rw[show ((n1-257:Nat):Int)=(n1:Int)-257 by omega]at P1;have HP1:=Ab P1;clear P1;go_wp2_with fail
  refine(Aa HP1).mono ?_;rintro e w1 ⟨rfl,q1⟩;have c01:=(Aa HCO w1 q1.kp).1;have P2:=Dl No1 B rb (n2-1) 5 (S++Ah (n1-257) 5) w1 q1.is (by omega) (by decide) (by rw[VB,Ae];omega) (fun g hg=>Aa HN1 g (by have:=q1.below.size;omega));rw[show ((n2-1:Nat):Int)=(n2:Int)-1 by omega]at P2;have HP2:=Ab P2;have HQ1:=Ab q1;clear P2 q1 HP1;go_wp2_with fail
  refine(Aa HP2).mono ?_;rintro e w2 ⟨rfl,q2⟩;have q2':=(Aa HQ1).trans q2;have c02:=(Aa HCO w2 q2'.kp).1;have P3:=Dl No1 B rb (M-4) 4 (S++Ah (n1-257) 5++Ah (n2-1) 5) w2 q2'.is (by omega) (by decide) (by rw[VB,VB,Ae,Ae];omega) (fun g hg=>Aa HN1 g (by have:=q2'.below.size;omega));rw[show ((M-4:Nat):Int)=(M:Int)-4 by omega]at P3;have HP3:=Ab P3;have HQ2:=Ab q2';clear P3 q2 q2' HP2 c01;go_wp2_with fail
  refine(Aa HP3).mono ?_;rintro e w3 ⟨rfl,q3⟩;have q3':=(Aa HQ2).trans q3;obtain⟨S3,hS3⟩:∃S3,S++Ah (n1-257) 5++Ah (n2-1) 5++Ah (M-4) 4=S3:=⟨_,rfl⟩
  rw[hS3]at q3';have hl3:S3.length=S.length+14:=by rw[<-hS3];simp[Ae]
  have HS3:=Ab hS3;have HQ3:=Ab q3';clear q3 q3' HP3 c02 hS3 HQ2 HQ1;go_wp2;go_loopw [52] (fun v wr=>∃k:Nat,k<=M/\v=.int .i64 (k:Int)/\Hid (Rp No1 B wE rb (S3++(ord19.take k).flatMap (fun j=>Ah (own.getD j 0).toNat 3)) wr)) (fun v _=>M-(intOf v).toNat)
  case atStart=>exact⟨0,VM _,rfl,Ab (by simpa using Aa HQ3)⟩
  case round=>
   obtain⟨k,hk,rfl,hst⟩:=hrel;have hp:=Aa hst;obtain⟨d0,d1,d2⟩:=Aa HCO wr hp.kp
   by_cases hlt:k<M
   . have e1:=d1 k (by omega);have ho:=(R9 (j:=k) (by omega)).2;have e2:=d2 _ ho;have hv:=(Aa HOW).vo (ord19.getD k 0)
     have hstep:S3++(ord19.take (k+1)).flatMap (fun j=>Ah (own.getD j 0).toNat 3)=S3++(ord19.take k).flatMap (fun j=>Ah (own.getD j 0).toNat 3)++Ah (own.getD (ord19.getD k 0) 0).toNat 3:=by
      have:ord19.take (k+1)=ord19.take k++ [ord19.getD k 0]:=by
       rw[XH];have hk2:k<ord19.length:=by show k<19;omega
       simp[List.getD,hk2]
      rw[this];simp
     have hlen:=Oz own (ord19.take k);have htk:(ord19.take k).length<=19:=by rw[VL];exact Nat.min_le_right _ _
     obtain⟨S4,hS4⟩:∃S4,S3++(ord19.take k).flatMap (fun j=>Ah (own.getD j 0).toNat 3)=S4:=⟨_,rfl⟩
     have hl4:S4.length<=S.length+71:=by rw[<-hS4,VB,hlen];omega
     rw[hS4]at hstep hp;obtain⟨oq,hoq⟩:∃oq,ord19.getD k 0=oq:=⟨_,rfl⟩
     rw[hoq]at e1 ho e2 hv hstep;obtain⟨x,hx⟩:=WD hv.1;rw[hx]at e2 hv hstep;rw[WL]at hstep;have HPT:=Ab (fun j=>Dl No1 B rb x 3 S4 (wr.drewN j) (hp.is.drewN j) (by omega) (by decide) (by omega) (fun g hg=>Aa HN1 g (by have:=hp.below.size;have h2:wr.heap.size<=g:=hg;omega)));have HRD:=Ab (fun j=>hp.is.drew j);have HST:=Ab hstep;have HP:=Ab hp;have hoI:(oq:Int)<19:=by omega
     have hkI:(k:Int)<(M:Int):=by omega
     have hk19:(k:Int)<19:=by omega
     clear hst hp d1 d2 hstep hlen htk hS4 hoq hx hv;go_wp2;go_region_with (go_at_call 155;refine(Aa HPT _).mono ?_;rintro e w4 ⟨rfl,hR⟩;have HR:=Ab ((Aa HP).trans ((Aa HRD _).trans hR));clear hR)
     all_goals try go_wp2
     all_goals go_roundw
     all_goals first|exact⟨k+1,by omega,by go_num,Ab (by rw[Aa HST];exact Aa HR)⟩|(simp[intOf];omega)
   . obtain rfl:k=M:=by omega
     have hz3:=hp.below.size;have hCD:=Sc g9 0 rb 19 19 own wr (Aa HOW).lo (by decide) (by omega) (fun j hj=>by rw[WI];exact d2 j (by rw[<-(Aa HOW).lo];exact hj)) (Aa HOW).go;have HCD:=Ab hCD;have HP:=Ab hp;clear hst hp d1 d2 hCD;go_wp2_with fail
     refine(Aa HCD).mono ?_;rintro e wF ⟨gc,gl,gr,rfl,hC,hBF⟩;have hzF:=hBF.size;have c0F:wF.cell? ⟨w.heap.size,0,none⟩=some (.pointer (some ⟨rb,0,none⟩)):=(hBF.cell (p:=⟨w.heap.size,0,none⟩) (by show w.heap.size<_;omega)).trans d0;have HC:=Ab hC;have HBF:=Ab hBF;clear hC hBF d0 HCD;obtain⟨No2,hNo2⟩:∃No2:Nat->Prop,No2=fun g=>No1 g\/ (wr.heap.size<=g/\g<wF.heap.size+1):=⟨_,rfl⟩
     have hz2:wE.heap.size<=wr.heap.size:=hz3;obtain⟨SK,hSK⟩:∃SK,S3++(ord19.take k).flatMap (fun j=>Ah (own.getD j 0).toNat 3)=SK:=⟨_,rfl⟩
     have hlK:SK.length<=278000:=by
      have h1:=Oz own (ord19.take k);have h2:(ord19.take k).length<=19:=by rw[VL];exact Nat.min_le_right _ _
      rw[<-hSK,VB,h1];omega
     have hgE:S++Jv l1 l2 own=SK++putRs own (lenIs all):=by
      unfold Jv;rw[Aa HL1,Aa HL2,Aa HALL,Aa HM,<-hSK,<-Aa HS3];simp[VJ]
     rw[hSK]at HP;have HGE:=Ab hgE;have HRF:Hid (Row .i64 wF g6 0 all):=Ab (fun j hj=>(Aa HBF).cell (p:=⟨g6,_,none⟩) (by show g6<_;omega)|>.trans ((Aa HP).kp.cell (by omega) (Aa HI1 g6 (by omega) (by omega)) (Aa HRWE j hj)));have hBX:∀X:Obj,Below wr.heap.size wr (wF.alloc X):=fun X=>(Aa HBF).alloc (by omega) X
     have hJ0:LJ No2 B wF.heap.size w.heap.size gc gl gr rb (some ⟨g9,0,none⟩) 19 own SK [] (wF.alloc (.cells #[CV gc gl gr] 143)):=by
      refine⟨?_, ?_,by simp,(World.cell?_alloc_past _ _ _ (by show w.heap.size<_;omega)).trans c0F,⟨by simp, ?_⟩,⟨by simp;omega, ?_⟩, ?_⟩
      . have e:SK++putRs own []=SK:=by simp[putRs]
        rw[e];refine(Aa HP).is.grow (hBX _) (fun g e=> ?_);rw[hNo2]at e
        rcases e with e|e
        . exact .inl e
        . exact .inr e.1
      . refine((Aa HC).bound.keep (by simp) (fun g hg _=>Below.heap_alloc wF _ g hg)).more (fun g hb=> ?_);rw[hNo2]
        rcases hb with ⟨hb|hb,hb2⟩
        . exact .inr ⟨hb,by omega⟩
        . rw[hb];exact .inl (Aa HI1 g9 (by omega) (by omega))
      . rw[hNo2];exact .inr ⟨by omega,by omega⟩
      . rw[hNo2];exact .inl (Aa HI1 _ (VC _) (by omega))
      . intro g hg e;simp only[World.size_alloc]at hg;rw[hNo2]at e
        rcases e with e|e
        . exact Aa HN1 g (by omega) e
        . omega
     have hin2:No2 g6:=by rw[hNo2];exact .inl (Aa HI1 g6 (by omega) (by omega))
     have hle2:∀g,No1 g->No2 g:=fun g hg=>by rw[hNo2];exact .inl hg
     have HJ0:=Ab hJ0;have HIN2:=Ab hin2;have HLE2:=Ab hle2;have HBX:=Ab hBX;clear hNo2 hJ0 hin2 hle2 hBX hSK hgE;go_wp2_with fail
     refine(Ip _ _ _ _ g6 0 N c6 all _ (RS No2 B wF.heap.size w.heap.size gc gl gr rb (some ⟨g9,0,none⟩) 19 own SK all (Aa HOW) (by rw[Aa HAL,Aa HN];omega) (by omega)) (by rw[Aa HAL,Aa HN]) (by omega) hcA (Aa HX) ?_ (Aa HJ0)).mono ?_
     . intro W hW j hj;exact hW.2.cell (by simp;omega) (Aa HIN2) ((World.cell?_alloc_past _ _ _ (by show g6<_;omega)).trans (Aa HRF j hj))
     rintro e wG ⟨rfl,hJG,hBG,hKG⟩
     have HFIN:Hid (Rp No B w rb (S++Jv l1 l2 own) wG):=by
      have hz4:=hBG.size;simp only[World.size_alloc]at hz4;refine⟨?_, ?_, ?_⟩
      . rw[Aa HGE];exact hJG.row.grow (Below.refl _ _) (fun g e=>.inl (Aa HLE2 g (Aa HE1 g e)))
      . exact((Aa HBE).mono (by omega)).trans ((Aa HP).below.trans (((Aa HBX _).mono (by omega)).trans hBG))
      . intro g hg hn;have h1:=Aa HE1 g hn;rw[hKG g (by simp;omega) (Aa HLE2 g h1),(Aa HBX _).block g (by omega),(Aa HP).kp g (by omega) h1];exact(Aa HBE).block g hg
     clear hJG hBG hKG;go_wp2;go_end0
     exact⟨rfl,Aa HOW,Aa HFIN⟩
theorem Z0m {w w':World}{a:Option Addr}{ts:List Tk}(h:TokIn w a ts)(hs:w.heap.size<=w'.heap.size)(hk:∀b o,a=some ⟨b,o,none⟩->ts≠ []->b<w.heap.size->w'.heap[b]? =w.heap[b]?):TokIn w' a ts:=by
 by_cases e:ts= []
 . exact .inl e
 . rcases h with h|⟨b,o,rfl,hb,hT⟩
   . exact absurd h e
   . have hbl:=hk b o rfl e hb;refine .inr ⟨b,o,rfl,by omega,fun j hj=> ?_⟩;obtain⟨h1,h2,h3⟩:=hT j hj;exact⟨(World.cell?_of_block (w:=w) (a:=⟨b,_,none⟩) hbl).trans h1,(World.cell?_of_block (w:=w) (a:=⟨b,_,none⟩) hbl).trans h2,(World.cell?_of_block (w:=w) (a:=⟨b,_,none⟩) hbl).trans h3⟩
theorem Z8 {w w':World}{b o:Nat}{l:List Int}(h:Row .i64 w b o l)(hk:w'.heap[b]? =w.heap[b]?):Row .i64 w' b o l:=fun j hj=>(World.cell?_of_block (w:=w) (a:=⟨b,_,none⟩) hk).trans (h j hj)
structure PlanIs (w:World)(a:Option Addr)(len b1 n1 b2 n2:Nat)(ts:List Tk)(l1 l2:List Int):Prop where
 tl:ts.length=len
 tm:len<=3000
 tv:∀t∈ts,VT t
 tok:TokIn w a ts
 d:Dyn ts l1 l2
 k1:l1.length=n1
 k2:l2.length=n2
 m1:b1<w.heap.size
 m2:b2<w.heap.size
 r1:Row .i64 w b1 0 l1
 r2:Row .i64 w b2 0 l2
theorem PlanIs.keep {w w':World}{a:Option Addr}{len b1 n1 b2 n2:Nat}{ts:List Tk}{l1 l2:List Int}(h:PlanIs w a len b1 n1 b2 n2 ts l1 l2)(hs:w.heap.size<=w'.heap.size)(hk:∀b o,a=some ⟨b,o,none⟩->ts≠ []->b<w.heap.size->w'.heap[b]? =w.heap[b]?)(e1:w'.heap[b1]? =w.heap[b1]?)(e2:w'.heap[b2]? =w.heap[b2]?):PlanIs w' a len b1 n1 b2 n2 ts l1 l2:=
 ⟨h.tl,h.tm,h.tv,Z0m h.tok hs hk,h.d,h.k1,h.k2,VK h.m1 hs,VK h.m2 hs,Z8 h.r1 e1,Z8 h.r2 e2⟩
theorem PlanIs.below {w w':World}{a:Option Addr}{len b1 n1 b2 n2:Nat}{ts:List Tk}{l1 l2:List Int}(h:PlanIs w a len b1 n1 b2 n2 ts l1 l2)(hB:Below w.heap.size w w'):PlanIs w' a len b1 n1 b2 n2 ts l1 l2:=
 h.keep hB.size (fun b o _ _ hb=>hB.block b hb) (hB.block _ h.m1) (hB.block _ h.m2)
theorem Z2m {l1 l2:List Int}{ts:List Tk}(d:Dyn ts l1 l2):∀x∈l1++l2,0<=x/\x<=15:=by
 intro x hx
 rcases VZ.1 hx with h|h
 . exact Pg d.ga x h
 . exact Pg d.gb x h
theorem Qt (No:Nat->Prop)(B rb:Nat)(a:Option Addr)(len cap b1 n1 c1 b2 n2 c2:Nat)(ts:List Tk)(l1 l2:List Int)(S:List Bool)(w:World)(h:RIs No B w rb S)(hP:PlanIs w a len b1 n1 b2 n2 ts l1 l2)(hTn:∀b o,a=some ⟨b,o,none⟩->ts≠ []->No b)(hn1:No b1)(hn2:No b2)(hNo:∀g,w.heap.size<=g->¬No g)(hS:S.length+60*len<=277000):
 Calls Tryz.prog 194 #[.agg #[.slice a len cap,.slice (some ⟨b1,0,none⟩) n1 c1,.slice (some ⟨b2,0,none⟩) n2 c2],.pointer (some ⟨rb,0,none⟩)] w fun e w'=>e=.returned (.tuple #[])/\Own (l1++l2) (N4 (l1++l2))/\Rp No B w rb (S++Gb l1 l2 ts) w':=by
 obtain⟨No1,hNo1⟩:∃No1:Nat->Prop,No1=fun g=>No g\/g=w.heap.size:=⟨_,rfl⟩
 have hbox:No1 w.heap.size:=by rw[hNo1];exact .inr rfl
 have hle:∀g,No g->No1 g:=fun g e=>by rw[hNo1];exact .inl e
 have hno1:∀g,w.heap.size<g->¬No1 g:=by
  intro g hg e;rw[hNo1]at e
  rcases e with e|e
  . exact hNo g (by omega) e
  . omega
 have hr1:∀X:Obj,RIs No1 B (w.alloc X) rb S:=fun X=>h.grow ((Below.refl w.heap.size w).alloc (VC _) X) (fun g e=>by
  rw[hNo1]at e
  rcases e with e|e
  . exact .inl e
  . exact .inr (by omega))
 have k1:=hP.k1;have k2:=hP.k2;have d:=hP.d;have la:=d.la;have la2:=d.la2;have lb:=d.lb;have lb2:=d.lb2;have HPL:=Ab (fun X:Obj=>Sx No1 B rb b1 n1 c1 b2 n2 c2 l1 l2 S (w.alloc X) (hr1 X) k1 k2 (by omega) (by omega) (by omega) (by omega) (by have:=hP.m1;simp;omega) (by have:=hP.m2;simp;omega) (hP.r1.alloc hP.m1 X) (hP.r2.alloc hP.m2 X) (Z2m d) (by omega) (fun g hg=>hno1 g (by simp at hg;omega)));have HPK:=Ab (fun(X:Obj) (w1:World) (S1:List Bool) (hR:Rp No1 B (w.alloc X) rb S1 w1)=>(hP.below ((Below.refl w.heap.size w).alloc (VC _) X)).keep hR.below.size (fun b o ea hne hb=>hR.kp b hb (hle b (hTn b o ea hne))) (hR.kp b1 (by have:=hP.m1;simp;omega) (hle _ hn1)) (hR.kp b2 (by have:=hP.m2;simp;omega) (hle _ hn2)));have HTN:Hid (∀b o,a=some ⟨b,o,none⟩->ts≠ []->No1 b):=fun b o e hne=>hle b (hTn b o e hne)
 have HN1:=Ab hno1;have HLE:=Ab hle;have HBX:=Ab hbox;have HB1:=Ab (hle _ hn1);have HB2:=Ab (hle _ hn2);have HG:Hid (Good l1/\Good l2/\Has l1 l2 (itsOf ts)/\1<=l1.length/\1<=l2.length):=⟨d.ga,d.gb,d.has,by omega,by omega⟩
 have hPE:S++Gb l1 l2 ts=S++Jv l1 l2 (N4 (l1++l2))++putIs l1 l2 (itsOf ts):=by unfold Gb;rw[VJ]
 rw[hPE]
 have hHL:Hid (Own (l1++l2) (N4 (l1++l2))->(Jv l1 l2 (N4 (l1++l2))).length<=2400):=fun ho=>by
  have:=E9 ho
  omega
 obtain⟨HD,hHD⟩:∃HD,Jv l1 l2 (N4 (l1++l2))=HD:=⟨_,rfl⟩
 rw[hHD]at HPL hHL ⊢;have hrb:=h.lt;have hba:=h.base;clear hNo1 hbox hle hno1 hr1 k1 k2 d la la2 lb lb2 hPE hHD hTn hn1 hn2 hP h;go_enter Tryz.func194,Tryz.ntmps194
 go_wp2_with fail
 refine(Aa HPL _).mono ?_;rintro e w1 ⟨rfl,hOw,hR⟩;have hH:=Aa hHL hOw;have HOw:=Ab hOw;clear hOw hHL;have hz:=hR.below.size;simp only[World.size_alloc]at hz;have hP1:=Aa HPK _ w1 _ hR;have x0:w1.cell? ⟨w.heap.size,0,none⟩=some (.slice a len cap):=hR.kp.cell (by simp) (Aa HBX) (by simp);have x1:w1.cell? ⟨w.heap.size,1,none⟩=some (.slice (some ⟨b1,0,none⟩) n1 c1):=hR.kp.cell (by simp) (Aa HBX) (by simp);have x2:w1.cell? ⟨w.heap.size,2,none⟩=some (.slice (some ⟨b2,0,none⟩) n2 c2):=hR.kp.cell (by simp) (Aa HBX) (by simp);have hgd:=Aa HG;have HPT:=Ab (fun k=>Uh b1 0 n1 c1 b2 0 n2 c2 rb l1 l2 (w1.drewN k) hP1.k1 hP1.k2 (by rw[<-hP1.k1];exact hgd.2.2.2.1) (by rw[<-hP1.k2];exact hgd.2.2.2.2) hP1.m1 hP1.m2 hP1.r1 hP1.r2 hgd.1 hgd.2.1);have HPS:=Ab (fun(w3:World) (gc gl gr hc hl hr:Nat) hB3 hC1 hC2=>AJ No1 B rb a len cap ts (S++HD) b1 0 n1 c1 b2 0 n2 c2 l1 l2 gc gl gr hc hl hr w1 w1 w3 hR.is (VC _) hB3 hC1 hC2 (.inl (Aa HB1)) (.inl (Aa HB2)) hP1.k1 hP1.k2 hgd.1 hgd.2.1 hgd.2.2.1 hP1.tl hP1.tm hP1.tv hP1.tok (Aa HTN) (fun g hg=>Aa HN1 g (by omega)) (by rw[VB];omega));have HR:=Ab hR;clear hR hP1 hgd;go_wp2;go_region_with (first|(go_at_call 190;refine(Aa HPT _).mono ?_;rintro e w3 ⟨gc,gl,gr,hc,hl,hr,rfl,hC1,hC2,hB3⟩;have HC1:=Ab hC1;have HC2:=Ab hC2;have HB3:=Ab hB3;have y0:w3.cell? ⟨w.heap.size,0,none⟩=some (.slice a len cap):=(hB3.cell (p:=⟨w.heap.size,0,none⟩) hz).trans x0;clear hC1 hC2 hB3)|(go_at_call 189;refine(Aa HPS w3 gc gl gr hc hl hr ((Af (Below.refl _ _) _).trans (Aa HB3)) (Aa HC1) (Aa HC2)).mono ?_;rintro e w4 ⟨rfl,hR4⟩;have HR4:=Ab hR4;clear hR4))
 all_goals try go_wp2
 all_goals go_end0
 all_goals refine⟨rfl,Aa HOw, ?_⟩
 all_goals (
  have hR1:=Aa HR;have hR4:=Aa HR4;have hbx:Below B w (w.alloc (.cells #[.slice a len cap,.slice (some ⟨b1,0,none⟩) n1 c1,.slice (some ⟨b2,0,none⟩) n2 c2] 260)):=(Below.refl B w).alloc (by omega) _;exact⟨hR4.is.grow (Below.refl _ _) (fun g e=>.inl (Aa HLE g e)),hbx.trans (hR1.below.trans hR4.below),fun g hg hn=>(hR4.kp g (by omega) (Aa HLE g hn)).trans ((hR1.kp g (by simp;omega) (Aa HLE g hn)).trans (Below.heap_alloc w _ g hg))⟩)
theorem RIs.empty {No:Nat->Prop}{B:Nat}{w:World}{b:Nat}(hb:B<=b)(hn:¬No b)(h:w.heap[b]? =some (.cells #[.slice none 0 0,.int .i64 0] 184 (0,0))):RIs No B w b []:=
 ⟨hb,hn,.slice none 0 0,[],h,World.ownsRow_nil _ _ _ _,(fun g e=>by cases e),(fun j=>by simp),rfl⟩
theorem A7 {ts:List Tk}{l1 l2:List Int}(d:Dyn ts l1 l2)(hv:∀t∈ts,VT t)(ho:Own (l1++l2) (N4 (l1++l2))):(Gb l1 l2 ts).length<=2300+60*ts.length:=by
 have h1:=E9 ho;have h2:=Le l1 l2 d.ga d.gb (itsOf ts) d.has (Hr hv);have h3:=Gd ts;have h4:=d.la2;have h5:=d.lb2;unfold Gb;rw[VB];omega
theorem Np (a:Option Addr)(len cap b1 n1 c1 b2 n2 c2:Nat)(ts:List Tk)(l1 l2:List Int)(w:World)(hP:PlanIs w a len b1 n1 b2 n2 ts l1 l2):
 Calls Tryz.prog 193 #[.agg #[.slice a len cap,.slice (some ⟨b1,0,none⟩) n1 c1,.slice (some ⟨b2,0,none⟩) n2 c2]] w fun e w'=>e=.returned (.int .i64 ((Gb l1 l2 ts).length:Nat))/\Own (l1++l2) (N4 (l1++l2))/\Below w.heap.size w w':=by
 have tm:=hP.tm;have m1:=hP.m1;have m2:=hP.m2;have hB0:∀X Y:Obj,Below w.heap.size w ((w.alloc X).alloc Y):=fun X Y=>((Below.refl w.heap.size w).alloc (VC _) X).alloc (by simp) Y
 have hR0:∀X:Obj,RIs (fun g=>g<w.heap.size+1) (w.heap.size+1) ((w.alloc X).alloc (.cells #[.slice none 0 0,.int .i64 0] 184)) (w.heap.size+1) []:=fun X=>RIs.empty (VC _) (by simp) (by
  have e:w.heap.size+1=(w.alloc X).heap.size:=by simp
  rw[e];exact heap_alloc_new _ _)
 have HPP:=Ab (fun X:Obj=>Qt (fun g=>g<w.heap.size+1) (w.heap.size+1) (w.heap.size+1) a len cap b1 n1 c1 b2 n2 c2 ts l1 l2 [] ((w.alloc X).alloc (.cells #[.slice none 0 0,.int .i64 0] 184)) (hR0 X) (hP.below (hB0 _ _)) (fun b o ea hne=>by
  rcases hP.tok with h|⟨b',o',e1,h2,_⟩
  . exact absurd h hne
  . rw[e1]at ea;cases ea;omega) (by omega) (by omega) (fun g hg=>by simp at hg;omega) (by simp;omega))
 have HLB:=Ab (fun ho=>A7 hP.d hP.tv ho);have HTL:=Ab hP.tl;have HB0:=Ab hB0;clear hB0 hR0 hP m1 m2;obtain⟨PB,hPB⟩:∃PB,Gb l1 l2 ts=PB:=⟨_,rfl⟩
 rw[hPB]at HPP HLB ⊢;clear hPB;go_enter Tryz.func193,Tryz.ntmps193
 go_wp2_with fail
 refine(Aa HPP _).mono ?_;rintro e w1 ⟨rfl,hOw,hR⟩;have hlb:=Aa HLB hOw;rw[Aa HTL]at hlb;have HOw:=Ab hOw;have HBF:Hid (Below w.heap.size w w1):=Ab ((Aa HB0 _ _).trans (hR.below.mono (by omega)));have hris:=hR.is;rw[XG]at hris;obtain⟨ov,bs,h1,h2,h3,h4,h5⟩:=hris.ex;have c0:w1.cell? ⟨w.heap.size+1,0,none⟩=some ov:=Ac h1;have c1':w1.cell? ⟨w.heap.size+1,1,none⟩=some (.int .i64 (freeN PB.length:Nat)):=Ac h1;obtain⟨a',cc,hv⟩:∃a c,ov=.slice a bs.length c:=Ao h2;have hRl:=congrArg List.length h5;rw[Ag,Cm]at hRl;have hfl:=Jq PB.length;subst hv;obtain⟨PL,hPL⟩:∃PL,PB.length=PL:=⟨_,rfl⟩
 obtain⟨L,hL⟩:∃L,bs.length=L:=⟨_,rfl⟩
 obtain⟨fr,hfr⟩:∃fr,freeN PL=fr:=⟨_,rfl⟩
 rw[hPL]at hRl hfl hlb c1';rw[hL]at hRl c0;rw[hfr]at hRl hfl c1';have HPLen:=Ab hPL;clear h1 h2 h3 h4 h5 hris hR hOw hPL hL hfr;go_wp2;go_quiet (fail)
 go_wp2;go_ret;refine⟨?_,Aa HOw,Af (Aa HBF) _⟩;rw[Aa HPLen];go_num
theorem Qb {w:World}{g:Nat}{T:TypeId}{x y z:Value}(h:w.heap[g]? =some (.cells #[x,y,z] T (0,0)))(u v t:Value):
 (((w.setCell ⟨g,0,none⟩ u).setCell ⟨g,1,none⟩ v).setCell ⟨g,2,none⟩ t).heap[g]? =some (.cells #[u,v,t] T (0,0))/\(∀j,j<w.heap.size->j≠g->(((w.setCell ⟨g,0,none⟩ u).setCell ⟨g,1,none⟩ v).setCell ⟨g,2,none⟩ t).heap[j]? =w.heap[j]?)/\(((w.setCell ⟨g,0,none⟩ u).setCell ⟨g,1,none⟩ v).setCell ⟨g,2,none⟩ t).heap.size=w.heap.size/\∀ {B:Nat} {w0:World},Below B w0 w->B<=g->Below B w0 (((w.setCell ⟨g,0,none⟩ u).setCell ⟨g,1,none⟩ v).setCell ⟨g,2,none⟩ t):=by
 have g1:=Ad w g 0 u;have g2:=Ad (w.setCell ⟨g,0,none⟩ u) g 1 v;have g3:=Ad ((w.setCell ⟨g,0,none⟩ u).setCell ⟨g,1,none⟩ v) g 2 t;have gg:=Aj (Aj g1 g2) g3;have hlt:g<w.heap.size:=(VG.1 h).1;refine⟨?_,fun j hj2 hj=>gg.block j hj2 (fun e=>hj (VN e)),by simp,fun hB hb=>hB.grown gg (by omega) (fun j e=>by rw[<-VN e];exact hb)⟩
 . rw[heap_setCell_same _ _ 2 _ _ _ (heap_setCell_same _ _ 1 _ _ _ (heap_setCell_same _ _ 0 _ _ _ h))];rfl
end Go.Proofs.YtieianhejdcgdaaGreatDoor
