import Derived.Test.YtleocpdblhbimaaGreatDoorQ48
import Derived.Deep.RegionHeld3
set_option linter.unusedSimpArgs false
set_option maxHeartbeats 8000000
namespace Go.Proofs.YtleocpdblhbimaaGreatDoor
open Go.RowKit
set_option linter.unusedVariables false
set_option maxRecDepth 100000
theorem Xf (No:Nat->Prop)(B b n2:Nat)(bs:List Nat)(u:US)(w:World)(h:UIs No B w b (rowB bs n2) u)(hl:bs.length=n2)(hn2:n2<=25000)(hp:u.p<=8*n2)(ho:u.out.length<=3000)(hks:u.ks.length<=200000)(hNo:∀g,w.heap.size<=g->¬No g)(l:Nat)(x1 x2 x3:US)(hg1:uget (rowB bs n2) 1 u=(l,x1))(hg2:uget (rowB bs n2) 2 x1=(2,x2))(he2:x2.e=0)(LA LB:List Int)(hop:Hc (rowB bs n2) x2=((LA,LB),x3))(he3:x3.e=0)(V:US)(hut:utok (rowB bs n2) LA LB (rowB bs n2).length x3=V)(hV:V.e=0):
 Calls Tryz.prog 61 #[.pointer (some ⟨b,0,none⟩)] w fun e w'=>e=.returned (.bool (decide (l=1)))/\UUp No B w b (rowB bs n2) (ukept 2 V) w':=by
 obtain⟨i0,hi,hz0,hz1,hz2⟩:=info_parts Cc;have hN:=Ai bs n2;have hrl:(rowB bs n2).length<=200000:=by omega
 have hp0:u.p<=(rowB bs n2).length:=by omega
 obtain⟨q2,q2l,q2o,q2k,q2e⟩:=Ax hg2 he2;obtain⟨q1,q1l,q1o,q1k,_⟩:=Ax hg1 q2e;obtain⟨m0,n0,c0,v1,v2,v3,us,S0,L0,hTD⟩:=Gt hop he3;have HGA:Hid (Good LA):=Ab (Cn (by rw[hTD.ea];exact hTD.ca));have HGB:Hid (Good LB):=Ab (Cn (by rw[hTD.ec];exact hTD.cc));obtain⟨t1,t2,t3,t4⟩:=Ps hTD q2l;have hx3p:x3.p<=(rowB bs n2).length/\1<=x3.p:=⟨t2,by omega⟩
 have hx3o:x3.out.length<=3000:=by rw[t3,q2o,q1o];exact ho
 have hx3k:x3.ks=u.ks:=t4.trans (q2k.trans q1k);have HTD:=Ab hTD;clear hTD t1 t2 t3 t4 hop;have H:=Ab h;have HNo:=Ab hNo;have HG1:=Ab hg1;have HG2:=Ab hg2;have HUT:=Ab hut
 have hl2:l<2:=by
  have:=J8 (rowB bs n2) 1 u
  rw[hg1]at this;exact this
 obtain⟨hx3l,hx3g⟩:=hx3p;clear h hNo hg1 hg2 hut q1 q2 q2k q1k q2o q1o;go_enter Tryz.func61,Tryz.ntmps61
 go_wp2_with fail
 refine(Gw No B b 1 _ u w (Aa H) (by omega) hrl hp0 l x1 (Aa HG1)).mono ?_;rintro e w1 ⟨rfl,hU1⟩;have U1:=Ab hU1;clear hU1;go_wp2_with fail
 refine(Gw No B b 2 _ x1 w1 (Aa U1).is (by omega) hrl q1l 2 x2 (Aa HG2)).mono ?_;rintro e w2 ⟨rfl,hU2⟩;have U2:=Ab ((Aa U1).trans hU2);clear hU2;obtain⟨_,_,c42,_⟩:=(Aa U2).is.cell;rw[he2]at c42;go_wp2_with fail
 refine(Z0h No B b n2 bs x2 w2 (Aa U2).is hl hn2 (by omega) LA LB x3 m0 n0 c0 v1 v2 v3 us S0 L0 (Aa HTD)).mono ?_;rintro e w3 ⟨aA,cA,aB,cB,rfl,hRA,hRB,hU3⟩;have U3:=Ab ((Aa U2).trans hU3);have RA:=Ab hRA;have RB:=Ab hRB;obtain⟨nA,hlA⟩:∃nA,LA.length=nA:=⟨_,rfl⟩
 obtain⟨nB,hlB⟩:∃nB,LB.length=nB:=⟨_,rfl⟩
 rw[hlA,hlB];clear hRA hRB hU3;obtain⟨_,_,c43,_⟩:=(Aa U3).is.cell;rw[he3]at c43;clear U1 U2 c42;go_wp2_with fail
 refine(Yw w3).mono ?_;rintro e w4 ⟨g1,s1,g2,s2,rfl,hg1,hg2,hP1,hP2,hB4,hg1b,hg2b⟩;have hz34:=hB4.size;have HP1:=Ab hP1;have HP2:=Ab hP2;have HB4:=Ab hB4;clear hP1 hP2 hB4;have RA4:=Ab ((Aa RA).below (Aa HB4) (VC _));go_wp2_with fail
 refine(Et aA nA cA LA w4 hlA (Aa RA4) (Aa HGA)).mono ?_;rintro e w5 ⟨mA,kA,rfl,hmA,hMA,hB5⟩;have hz45:=hB5.size;have HMA:=Ab hMA;have HB5:=Ab hB5;have hmA2:=hMA.lt;clear hMA hB5;have RB5:=Ab (((Aa RB).below (Aa HB4) (VC _)).below (Aa HB5) (VC _));go_wp2_with fail
 refine(Et aB nB cB LB w5 hlB (Aa RB5) (Aa HGB)).mono ?_;rintro e w6 ⟨mB,kB,rfl,hmB,hMB,hB6⟩;have hz56:=hB6.size;have HMB:=Ab hMB;have hmB2:=hMB.lt;have HMA6:=Ab (Fh (Aa HMA) hB6 hmA2);have HP16:=Ab (Ej (Ej (Aa HP1) (Aa HB5) hg1b) hB6 (by omega));have HP26:=Ab (Ej (Ej (Aa HP2) (Aa HB5) hg2b) hB6 (by omega));have hB36:Below w3.heap.size w3 w6:=(Aa HB4).trans (((Aa HB5).mono (by omega)).trans (hB6.mono (by omega)));have V6:Hid (UUp No B w b (rowB bs n2) x3 w6):=Ab ((Aa U3).trans (((UUp.refl (Aa U3).is.opened).newer (VC _) hB36).closed));obtain⟨N,hNN⟩:∃N,w3.heap.size=N:=⟨_,rfl⟩
 obtain⟨M,hMM⟩:∃M,w6.heap.size=M:=⟨_,rfl⟩
 have hbN:b<N:=by have:=(Aa U3).is.lt;omega
 have I6:Hid (UIs (N2 No N M) B w6 b (rowB bs n2) x3):=Ab ((((Aa U3).is.opened).newer hB36).more (fun e=>by rcases e with e|e;exact(Aa V6).is.no e;omega) (fun g hg=>by rw[hNN];rcases hg with e|e;exact .inl (.inl e);exact .inl (.inr e.1)));rw[hNN]at hg1 hg2 hz34;rw[hMM]at hz56 hmB2;have hwN:w.heap.size<=N:=by have:=(Aa U3).below.size;omega
 clear hMB hB6 hB36 HB4 HB5 HMA HP1 HP2 RA RB RA4 RB5 U3 c43;go_wp2;go_loopw [14] (fun v14 wr=>∃(F:Nat) (x:US),Hid (utok (rowB bs n2) LA LB F x=V)/\Hid ((rowB bs n2).length<x.p+F)/\Hid (x.p<=(rowB bs n2).length)/\Hid (x.out.length<=3000)/\Hid (x.ks=u.ks)/\Hid (UUp (N2 No N M) B w6 b (rowB bs n2) x wr)) (fun _ wr=>KA n2 b wr)
 case atStart=>exact⟨(rowB bs n2).length,x3,HUT,Ab (by omega),Ab hx3l,Ab hx3o,Ab hx3k,Ab (UUp.refl (Aa I6))⟩
 case round=>
  obtain⟨F,x,hT,hF,hpx,hox,hkx,hW⟩:=hrel;have hxe:x.e=0:=T9 (by rw[Aa hT];exact hV);obtain⟨_,_,c4x,_⟩:=(Aa hW).is.cell;rw[hxe]at c4x
  cases F with
  |zero=>exact absurd (Aa hF) (by have:=Aa hpx;omega)
  |succ F=>
   obtain⟨t,y,hTk,hrw⟩:=Ji (row:=rowB bs n2) (a:=LA) (b:=LB) (F:=F) (u:=x) (by rw[Aa hT];exact hV);rw[Aa hT]at hrw;obtain⟨a1,a2,a3,a4,a5⟩:=hTk.ahead;have HAH:Hid ((rowB bs n2).length<y.p+F/\y.p<=(rowB bs n2).length/\y.out.length<=3000/\y.ks=u.ks/\x.p<y.p):=Ab ⟨by have:=Aa hF;omega,a2,a5 (Aa hox),a4.trans (Aa hkx),by omega⟩;have HPA:=Ab (Fp (N2 No N M) B b mA kA n2 LA bs x wr (Aa hW).is (Aa HGA) hl hn2 (by have:=Aa hpx;omega) ((Aa hW).book2 (by rw[hlA];exact Aa HMA6) (by omega) (by omega)) (by omega));clear a1 a2 a3 a4 a5 hT hF hpx hkx
   cases hTk with
   |stop _ h1 h2=>
    rw[h1]at HPA;have hVy:V=y:=by rw[hrw];rfl
    clear hrw;subst hVy;go_wp2_with fail
    refine(Aa HPA).mono ?_;rintro e w7 ⟨rfl,hU7⟩;have W7:=Ab ((Aa hW).trans hU7);clear hU7 hW;obtain⟨_,_,c47,_⟩:=(Aa W7).is.cell;rw[hV]at c47;have WV:=Ab ((Aa V6).trans (Aa W7).closed2);have HKS:Hid (V.ks.length<=200000):=Ab (by rw[(Aa HAH).2.2.2.1];exact hks);obtain⟨ov,kv,_,c3,hh,hov,hkv,hap,hn1,hn2⟩:=(Aa WV).is.rows;obtain⟨KL,hKL⟩:∃KL,(V).ks.length=KL:=⟨_,rfl⟩
    have hKV:=hkv;rw[hKL]at hkv;obtain⟨ka,kc,rfl⟩:=As hkv;have hsz9:=(Aa WV).below.size;have hbl9:=(Aa WV).is.lt;have hKL2:KL<=200000:=by have:=Aa HKS;omega
    have HKV:=Ab hkv;have HKV2:=Ab hKV;have HOV:=Ab hov;have HH:=Ab hh;have HAP:=Ab hap;have HN1:=Ab hn1;have HN2:=Ab hn2;have HKL:=Ab hKL;have HIS:=Ab (Aa WV).is;clear hkv hKV hov hh hap hn1 hn2 hKL;go_wp2_with (at_builtin;refine wpList_append_own_at _ rfl (.tmp 239) (.tmp 241) 76 rfl (b+1) 3 i0 (.int .i64 0) 1 8 Tryz.underlying76 hi hz0 hz1 hz2 rfl (by decide) _ KL (i64s (V).ks) rfl ((Aa HKV).alloc _) ⟨w7.heap.size,0,none⟩ 1 1 [.int .i64 (2)] rfl rfl (cell_one_new _ _ _) (Fd rfl) (by unfold maxLen;omega) (by omega) (by simp;omega) ?_)
    intro v' wK hO3 hgrow _ hspot;obtain⟨q3,f3,hFIN⟩:=UIs.keepK (k:=2) (X:=.cells #[.int .i64 (2)] 3) (Aa HIS).base (Aa HIS).no (Aa HH) (Aa HOV) (Aa HKV2) (Aa HAP) (Aa HN1) (Aa HN2) (fun g hg=>Aa HNo g (by omega)) (by rw[Aa HKL];exact hO3) hgrow (by simpa using hspot);obtain⟨g9,c9,rfl,_,_⟩:=Be hO3 (by omega);have HFIN:=Ab ((Aa WV).trans hFIN);clear hO3 hgrow hspot hFIN;go_wp2;go_ret;exact⟨by rw[R7];rfl,Aa HFIN⟩
   |byte c x' h1 h2 h3 h4=>
    rw[h1]at HPA;simp only[if_true]at hrw;have hrw2:=Ab hrw.symm;have hsay:Hy c x'= {x' with out:=x'.out++ [c]}:=by unfold Hy;rw[if_pos h2,if_neg h4]
    have HSAY:=Ab hsay;have hxo:x'.out.length<=3000:=by have:=(Bt h1 h2).2.2.1;rw[this];exact Aa hox
    have hcI:(c:Int)<256:=by omega
    have hc2:((c:Int)==256)=false:=by rw[beq_eq_false_iff_ne];omega
    clear hrw hsay h1;go_wp2_with fail
    refine(Aa HPA).mono ?_;rintro e w7 ⟨rfl,hU7⟩;have W7:=Ab ((Aa hW).trans hU7);clear hU7;obtain⟨_,_,c47,_⟩:=(Aa W7).is.cell;rw[h2]at c47;go_wp2_with fail
    refine(Qg (N2 No N M) B b c _ x' w7 (Aa W7).is hxo (fun g hg=>by have:=(Aa W7).below.size;intro e;rcases e with e|e;exact Aa HNo g (by omega) e;omega)).mono ?_;rintro e w8 ⟨rfl,hU8⟩;rw[Aa HSAY]at hU8;have W8:=Ab ((Aa W7).trans hU8);clear hU8;go_wp2;go_roundw
    case rel=>
     obtain⟨b1,b2,b3,b4,b5⟩:=Aa HAH;exact⟨F,_,hrw2,Ab b1,Ab b2,Ab b3,Ab b4,W8⟩
    case measure=>
     rw[Ef (Aa hW).is,Ef (Aa W8).is];obtain⟨b1,b2,b3,b4,b5⟩:=Aa HAH;rw[hN]at b2;simp only at b2 b5 ⊢
     omega
   |same k n0 f d0 x1 x2 x3 x4 _ h1 h2 h3 h4 h5 h6 h7 h8 h9 h10 h11 h12 h13 h14=>
    rw[h1]at HPA;simp only[if_true]at hrw;have hrw2:=Ab hrw.symm;obtain⟨q,hq⟩:∃q,k-257=q:=⟨_,rfl⟩
    rw[hq]at h5 h13;obtain⟨sb,hsb⟩:∃sb,(samesL.getD q (0,0)).2=sb:=⟨_,rfl⟩
    obtain⟨s0,hs0⟩:∃s0,(samesL.getD q (0,0)).1=s0:=⟨_,rfl⟩
    obtain⟨fb,hfb⟩:∃fb,(farsL.getD f (0,0)).2=fb:=⟨_,rfl⟩
    obtain⟨f0,hf0⟩:∃f0,(farsL.getD f (0,0)).1=f0:=⟨_,rfl⟩
    have hss:=Qh q (by omega);have hfs:=Uq f (by omega);rw[hsb,hs0]at hss;rw[hfb,hf0]at hfs;obtain⟨hsb5,hs0b⟩:=hss;obtain⟨hfb5,hf0b,hf01⟩:=hfs;rw[hsb]at h5;rw[hs0,hf0]at h13;rw[hfb]at h10;rw[hf0]at h12;have p1:=Bt h1 h2;have p2:=Ax h5 h6;have p3:=Bt h7 h8;have p4:=Ax h10 h11;have hx1o:x1.out.length<=3000:=by rw[p1.2.2.1];exact Aa hox
    have hx4o:x4.out.length<=3000:=by rw[p4.2.2.1,p3.2.2.1,p2.2.2.1];exact hx1o
    have hx1p:=p1.2.1;have hx2p:=p2.2.1;have hx3p:=p3.2.1;have hx4p:=p4.2.1
    have hn32:n0<32:=by
     have h15:=J8 (rowB bs n2) sb x1;rw[h5]at h15;exact VG h15 (WC (VU (by decide) hsb5) (by decide))
    have hd32:d0<8192:=by
     have h15:=J8 (rowB bs n2) fb x3;rw[h10]at h15;exact VG h15 (WC (VU (by decide) hfb5) (by decide))
    have hk1:(257:Int)<=(k:Int):=by omega
    have hk2:(k:Int)-257<29:=by omega
    have hk3:¬(k:Int)<256:=by omega
    have hk4:¬(285:Int)<(k:Int):=by omega
    have hk5:(k:Int)<286:=by omega
    have hk6:((k:Int)==256)=false:=by rw[beq_eq_false_iff_ne];omega
    have hkw:IntKind.i64.wrap ((k:Int)-257)=(k:Int)-257:=by simp[IntKind.wrap,IntKind.signed,IntKind.bits];omega
    have hkn:((k:Int)-257).toNat=q:=by omega
    have hsw:IntKind.i64.wrap ((s0:Int)+(n0:Int))=(s0:Int)+(n0:Int):=by simp[IntKind.wrap,IntKind.signed,IntKind.bits];omega
    have hfw:IntKind.i64.wrap ((f0:Int)+(d0:Int))=(f0:Int)+(d0:Int):=by simp[IntKind.wrap,IntKind.signed,IntKind.bits];omega
    have HSB:=Ab hsb;have HS0:=Ab hs0;have HFB:=Ab hfb;have HF0:=Ab hf0;have H13:=Ab h13;clear hrw h13 p1 p2 p3 p4 hsb hs0 hfb hf0;go_wp2_with fail
    refine(Aa HPA).mono ?_;rintro e w7 ⟨rfl,hU7⟩;have W7:=Ab ((Aa hW).trans hU7);clear hU7;obtain⟨_,_,c47,_⟩:=(Aa W7).is.cell;rw[h2]at c47;have hPq:=(Aa W7).prs (Aa HP16) (by omega) hg1 (by omega) q (by show q<29;omega);rw[Aa HS0,Aa HSB]at hPq;obtain⟨cs1,cs2⟩:=hPq;have hg17:g1<w7.heap.size:=by have:=(Aa W7).below.size;omega
    have HGT:=Ab (fun i=>Gw (N2 No N M) B b sb _ x1 (w7.drewN i) ((UUp.refl (Aa W7).is).drewN i).is (by omega) hrl hx1p n0 x2 h5);have HGD:=Ab (fun i=>(UUp.refl (Aa W7).is).drewN i);have hN2:N2 No N M g1:=.inr ⟨hg1,by omega⟩;have HN2:=Ab hN2;clear hN2;go_wp2;go_region_held3 (fun w'=>w'.cell? ⟨g1,q*2,none⟩=some (.int .i64 (s0:Int))/\w'.cell? ⟨g1,q*2+1,none⟩=some (.int .i64 (sb:Int))) (first|assumption|exact⟨by assumption,by assumption⟩) (first|(go_at_call 91;refine(Aa HGT _).mono ?_;rintro e w8 ⟨rfl,hU8⟩;have hkp8:=((Aa HGD _).trans hU8).kp g1 hg17 (Aa HN2);have cd1:=(World.cell?_of_block (a:=⟨g1,q*2,none⟩) hkp8).trans cs1;have cd2:=(World.cell?_of_block (a:=⟨g1,q*2+1,none⟩) hkp8).trans cs2;have W8:=Ab ((Aa W7).trans ((Aa HGD _).trans hU8));clear hU8 hkp8))
    have HPB:=Ab (Fp (N2 No N M) B b mB kB n2 LB bs x2 w8 (Aa W8).is (Aa HGB) hl hn2 (by omega) ((Aa W8).book2 (by rw[hlB];exact Aa HMB) (by omega) (by omega)) (by omega));rw[h7]at HPB;clear HGT HGD cs1 cs2 cd1 cd2 W7 c47 HPA;go_wp2_with fail
    refine(Aa HPB).mono ?_;rintro e w9 ⟨rfl,hU9⟩;have W9:=Ab ((Aa W8).trans hU9);clear hU9;obtain⟨_,_,c49,_⟩:=(Aa W9).is.cell;rw[h8]at c49;have hPf:=(Aa W9).prs (Aa HP26) (by omega) hg2 (by omega) f (by show f<30;omega);rw[Aa HF0,Aa HFB]at hPf;obtain⟨cf1,cf2⟩:=hPf;have hg29:g2<w9.heap.size:=by have:=(Aa W9).below.size;omega
    have hf1:¬(29:Int)<(f:Int):=by omega
    have hf2:(f:Int)<30:=by omega
    have HGT2:=Ab (fun i=>Gw (N2 No N M) B b fb _ x3 (w9.drewN i) ((UUp.refl (Aa W9).is).drewN i).is (by omega) hrl hx3p d0 x4 h10);have HGD2:=Ab (fun i=>(UUp.refl (Aa W9).is).drewN i);have HN22:Hid (N2 No N M g2):=Ab (.inr ⟨hg2,by omega⟩);go_wp2;go_region_held3 (fun w'=>w'.cell? ⟨g2,f*2,none⟩=some (.int .i64 (f0:Int))/\w'.cell? ⟨g2,f*2+1,none⟩=some (.int .i64 (fb:Int))) (first|assumption|exact⟨by assumption,by assumption⟩) (first|(go_at_call 91;refine(Aa HGT2 _).mono ?_;rintro e wA ⟨rfl,hUA⟩;have hkpA:=((Aa HGD2 _).trans hUA).kp g2 hg29 (Aa HN22);have cg1:=(World.cell?_of_block (a:=⟨g2,f*2,none⟩) hkpA).trans cf1;have cg2:=(World.cell?_of_block (a:=⟨g2,f*2+1,none⟩) hkpA).trans cf2;have WA:=Ab ((Aa W9).trans ((Aa HGD2 _).trans hUA));clear hUA hkpA))
    clear HGT2 HGD2 cf1 cf2 cg1 cg2 W9 W8 c49 HPB;obtain⟨_,_,c4A,_⟩:=(Aa WA).is.cell;rw[h11]at c4A;obtain⟨ovA,kvA,c2A,_,_,hovA,_⟩:=(Aa WA).is.rows;obtain⟨oA,ocA,rfl⟩:=As hovA;clear hovA;obtain⟨d,hd⟩:∃d,f0+d0=d:=⟨_,rfl⟩
    obtain⟨n,hn⟩:∃n,s0+n0=n:=⟨_,rfl⟩
    have hdI:(f0:Int)+(d0:Int)=(d:Int):=by omega
    have hnI:(s0:Int)+(n0:Int)=(n:Int):=by omega
    have H13':Hid (ucopy d n x4=y):=Ab (by rw[<-hd,<-hn];exact Aa H13);have hd12:d<=x4.out.length:=by rw[<-hd];exact h12
    have hd1:1<=d:=by omega
    obtain⟨LO,hLO⟩:∃LO,x4.out.length=LO:=⟨_,rfl⟩
    rw[hLO]at c2A hd12 hx4o;have hdL:¬(LO:Int)<(d:Int):=by omega
    have HLO:=Ab hLO;have hnb:n<=300:=by omega
    clear hLO H13 hd hn h12;rw[hdI,hnI];go_wp2;go_loopw [18] (fun v18 wr=>∃(j:Nat) (z:US),j<=n/\v18=.int .i64 (j:Int)/\Hid (ucopy d (n-j) z=y)/\Hid (z.out.length<=3000)/\Hid (d<=z.out.length)/\Hid (UUp (N2 No N M) B w6 b (rowB bs n2) z wr)) (fun v18 _=>n-(intOf v18).toNat)
    case atStart=>exact⟨0,x4,VK _,rfl,H13',Ab (by rw[Aa HLO];exact hx4o),Ab (by rw[Aa HLO];exact hd12),WA⟩
    case round=>
     obtain⟨j,z,hj,rfl,hcp,hzo,hdz,hZ⟩:=hrel;have hze:z.e=0:=He (by rw[Aa hcp];exact h14);obtain⟨_,_,c4z,_⟩:=(Aa hZ).is.cell;rw[hze]at c4z
     by_cases hjn:j<n
     . obtain⟨ovz,kvz,c2z,_,_,hovz,_⟩:=(Aa hZ).is.rows;obtain⟨LZ,hLZ⟩:∃LZ,z.out.length=LZ:=⟨_,rfl⟩
       have hdz2:=Aa hdz;have hzo2:=Aa hzo;rw[hLZ]at hovz hdz2 hzo2;obtain⟨gz,cz,rfl,hgz1,hgz2⟩:=Be hovz (by omega);obtain⟨r,hr⟩:∃r,LZ-d=r:=⟨_,rfl⟩
       obtain⟨ch,hch⟩:∃ch,z.out.getD r 0=ch:=⟨_,rfl⟩
       have cx:wr.cell? ⟨gz,r,none⟩=some (.int .u8 (ch:Int)):=by
        rw[hovz.cellAt r (by omega),<-hch];have:r<z.out.length:=by omega
        simp[u8s,List.getD,this]
       have hcp2:ucopy d (n-(j+1)) (Hy ch z)=y:=by
        have h20:=Aa hcp;rw[show n-j=(n-(j+1))+1 by omega,ucopy,if_pos hze,hLZ,hr,hch]at h20;exact h20
       obtain⟨_,hz3,hsay⟩:=Nq (He (by rw[hcp2];exact h14));have HCP2:=Ab hcp2;have HSAY:=Ab hsay;have HSY:=Ab (fun i=>Qg (N2 No N M) B b ch _ z (wr.drewN i) ((UUp.refl (Aa hZ).is).drewN i).is (Aa hzo) (fun g hg=>by have h21:=(Aa hZ).below.size;have h22:wr.heap.size<=g:=hg;intro e;rcases e with e|e;exact Aa HNo g (by omega) e;omega));have HSD:=Ab (fun i=>(UUp.refl (Aa hZ).is).drewN i);have hjI:(j:Int)<(n:Int):=by omega
       have hb1:(d:Int)<=(LZ:Int):=by omega
       have hb2:(0:Int)<(d:Int):=by omega
       have hb3:(LZ:Int)-(d:Int)<(LZ:Int):=by omega
       have hwz:IntKind.i64.wrap ((LZ:Int)-(d:Int))=(LZ:Int)-(d:Int):=by simp[IntKind.wrap,IntKind.signed,IntKind.bits];omega
       have htz:((LZ:Int)-(d:Int)).toNat=r:=by omega
       have HLZ:=Ab hLZ;clear hovz hcp2 hsay hch hLZ;go_wp2;go_region_with (go_at_call 93;refine(Aa HSY _).mono ?_;rintro e wB ⟨rfl,hUB⟩;have WB:=Ab ((Aa hZ).trans ((Aa HSD _).trans hUB));clear hUB)
       all_goals try go_wp2
       all_goals
        go_roundw
        case rel=>
         refine⟨j+1,Hy ch z,by omega,by go_num,HCP2,Ab ?_,Ab ?_,WB⟩
         . rw[Aa HSAY];show (z.out++ [ch]).length<=3000;rw[VB,Aa HLZ];simp only[VJ,WO];have:=Aa HLZ;omega
         . rw[Aa HSAY];show d<=(z.out++ [ch]).length;rw[VB,Aa HLZ];omega
        case measure=>simp[intOf];omega
     . have hjn2:j=n:=by omega
       subst hjn2
       have hzy:z=y:=by
        have h20:=Aa hcp;rw[XM,ucopy]at h20;exact h20
       subst hzy;have hjI:¬(j:Int)<(j:Int):=by omega
       go_wp2;go_roundw
       case rel=>
        obtain⟨b1,b2,b3,b4,b5⟩:=Aa HAH;exact⟨F,z,hrw2,Ab b1,Ab b2,Ab b3,Ab b4,hZ⟩
       case measure=>
        rw[Ef (Aa hW).is,Ef (Aa hZ).is];obtain⟨b1,b2,b3,b4,b5⟩:=Aa HAH;rw[hN]at b2;omega
theorem SL (No:Nat->Prop)(B b n2:Nat)(bs:List Nat)(u:US)(w:World)(h:UIs No B w b (rowB bs n2) u)(hl:bs.length=n2)(hn2:n2<=25000)(hp:u.p<=8*n2)(ho:u.out.length<=3000)(hks:u.ks.length<=200000)(hNo:∀g,w.heap.size<=g->¬No g)(t:Bool)(v:US)(hB:Blk1R (rowB bs n2) u t v):
 Calls Tryz.prog 61 #[.pointer (some ⟨b,0,none⟩)] w fun e w'=>e=.returned (.bool t)/\UUp No B w b (rowB bs n2) v w':=by
 cases hB with
 |stored l x1 x2 h1 h2 h3 h4=>exact F9 No B b n2 bs u w h hn2 hp ho hks hNo l x1 x2 h1 h2 h3 h4
 |coded l k x1 x2 x3 LA LB h1 h2 h3 h4 h5 h6 h7=>
  rcases h4 with h4|h4
  . subst h4;unfold uopen at h5;rw[if_pos rfl]at h5;have e1:=(XA h5).1;have e2:=(XA h5).2;exact R5 No B b n2 bs u w h hl hn2 hp ho hks hNo l x1 x2 x3 h1 h2 h3 LA LB ⟨(XA e1).1,(XA e1).2,e2⟩ h6 _ rfl h7
  . subst h4;unfold uopen at h5;rw[if_neg (by decide),if_pos rfl]at h5;exact Xf No B b n2 bs u w h hl hn2 hp ho hks hNo l x1 x2 x3 h1 h2 h3 LA LB h5 h6 _ rfl h7
theorem UIs.fresh (No:Nat->Prop)(B:Nat)(w:World)(row:List Bool)(hB:B<=w.heap.size)(hn:¬No w.heap.size):
 UIs No B (w.alloc (.cells #[.string (text row),.int .i64 0,.slice none 0 0,.slice none 0 0,.int .i64 0] 110)) w.heap.size row ⟨0,[],[],0⟩:=
 ⟨hB,hn,.slice none 0 0,.slice none 0 0,heap_alloc_new _ _,World.ownsRow_nil _ _ _ _,World.ownsRow_nil _ _ _ _,.inl rfl,(fun g e=>by cases e),(fun g e=>by cases e)⟩
theorem J7 (a:Option Addr)(n2 cap:Nat)(bs:List Nat)(w:World)(hl:bs.length=n2)(hn2:n2<=25000)(hby:BytesIn w a bs)(hv:∀j,bs.getD j 0<256)(U:US)(hU:Mp (rowB bs n2)=U)(he:U.e=0)(hk:U.ks.length<=200000):
 Calls Tryz.prog 39 #[.slice a n2 cap] w fun e w'=>∃ov kv,e=.returned (.tuple #[ov,.int .i64 (((U.p+7)/8:Nat):Int),kv,.int .i64 0])/\w'.ownsRow w.heap.size 5 1 ov U.out.length (u8s U.out)/\w'.ownsRow w.heap.size 3 1 kv U.ks.length (i64s U.ks)/\Below w.heap.size w w':=by
 have HRO:=Ab (IE a n2 cap bs w hl hv hn2 hby);have hN:=Ai bs n2;have HU:Hid (Ci (rowB bs n2) ((rowB bs n2).length+1) ⟨0,[],[],0⟩=U):=Ab hU;clear hby hv hU;go_enter Tryz.func39,Tryz.ntmps39
 go_wp2_with fail
 refine(Aa HRO).mono ?_;rintro e w1 ⟨rfl,hB1⟩;have HB1:=Ab hB1;have hz1:=hB1.size;clear hB1;have I2:Hid (UIs (fun g=>g<w.heap.size) w.heap.size (w1.alloc (.cells #[.string (text (rowB bs n2)),.int .i64 0,.slice none 0 0,.slice none 0 0,.int .i64 0] 110)) w1.heap.size (rowB bs n2) ⟨0,[],[],0⟩):=Ab (UIs.fresh _ _ w1 _ hz1 (by omega));have B2:=Ab ((Aa HB1).alloc hz1 (.cells #[.string (text (rowB bs n2)),.int .i64 0,.slice none 0 0,.slice none 0 0,.int .i64 0] 110));generalize text (rowB bs n2)=TX at*;go_wp2;obtain⟨W2,hW2⟩:∃W2,w1.alloc (.cells #[.string TX,.int .i64 0,.slice none 0 0,.slice none 0 0,.int .i64 0] 110)=W2:=⟨_,rfl⟩
 obtain⟨b,hb⟩:∃b,w1.heap.size=b:=⟨_,rfl⟩
 rw[hW2]at I2 B2 ⊢;rw[hb]at I2 ⊢;have hbw:w.heap.size<=b:=by omega
 have hz2:=(Aa B2).size;clear hW2 HRO;go_loopw [12] (fun _ wr=>∃(F:Nat) (x:US),Hid (Ci (rowB bs n2) F x=U)/\Hid ((rowB bs n2).length<x.p+F)/\Hid (x.p<=(rowB bs n2).length)/\Hid (x.out.length<=3000)/\Hid (UUp (fun g=>g<w.heap.size) w.heap.size W2 b (rowB bs n2) x wr)) (fun _ wr=>KA n2 b wr)
 case atStart=>exact⟨(rowB bs n2).length+1,⟨0,[],[],0⟩,HU,Ab (by simp only;omega),Ab (VK _),Ab (VK _),Ab (UUp.refl (Aa I2))⟩
 case round=>
  obtain⟨F,x,hT,hF,hpx,hox,hW⟩:=hrel
  cases F with
  |zero=>exact absurd (Aa hF) (by have:=Aa hpx;omega)
  |succ F=>
   obtain⟨t,y,hBk,hrw⟩:=Hf (row:=rowB bs n2) (F:=F) (u:=x) (by rw[Aa hT];exact he);obtain⟨a1,a2,a3,a4,a5⟩:=hBk.ahead
   have hxk:x.ks.length<=200000:=by
    have h1:=To (row:=rowB bs n2) (F:=F+1) (u:=x) (by rw[Aa hT];exact he);rw[Aa hT]at h1;omega
   rw[Aa hT]at hrw;have HBK:=Ab (SL (fun g=>g<w.heap.size) w.heap.size b n2 bs x wr (Aa hW).is hl hn2 (by have:=Aa hpx;omega) (Aa hox) hxk (fun g hg=>by have:=(Aa hW).below.size;omega) t y hBk);have HAH:Hid ((rowB bs n2).length<y.p+F/\y.p<=(rowB bs n2).length/\y.out.length<=3000/\x.p<y.p):=Ab ⟨by have:=Aa hF;omega,a2,a5 (Aa hox),by omega⟩;have hye:=a3;have HRW:=Ab hrw.symm;clear a1 a2 a3 a4 a5 hT hF hpx hrw hBk
   cases t with
   |false=>
    go_wp2_with fail
    refine(Aa HBK).mono ?_;rintro e w3 ⟨rfl,hU3⟩;have W3:=Ab ((Aa hW).trans hU3);clear hU3;obtain⟨_,_,c43,_⟩:=(Aa W3).is.cell;rw[hye]at c43;go_wp2;go_roundw
    case rel=>
     obtain⟨b1,b2,b3,b4⟩:=Aa HAH;exact⟨F,y,Ab (by have:=Aa HRW;simpa using this),Ab b1,Ab b2,Ab b3,W3⟩
    case measure=>
     rw[Ef (Aa hW).is,Ef (Aa W3).is];obtain⟨b1,b2,b3,b4⟩:=Aa HAH;rw[hN]at b2;omega
   |true=>
    have hyU:y=U:=by have:=Aa HRW;simpa using this
    subst hyU;clear HRW;go_wp2_with fail
    refine(Aa HBK).mono ?_;rintro e w3 ⟨rfl,hU3⟩;have W3:=Ab ((Aa hW).trans hU3);clear hU3 HBK;obtain⟨_,c13,c43,_⟩:=(Aa W3).is.cell;rw[hye]at c43;obtain⟨ov,kv,c23,c33,_,hov,hkv,_⟩:=(Aa W3).is.rows;have HOV:=Ab (Lj hov (B':=w.heap.size) (by omega));have HKV:=Ab (Lj hkv (B':=w.heap.size) (by omega));have HB3:=Ab ((Aa B2).trans (Aa W3).below);have hpb:y.p<=200000:=by have:=(Aa HAH).2.1;omega
    obtain⟨oa,oc,rfl⟩:=As hov;obtain⟨ka,kc,rfl⟩:=As hkv;have hp7:Hid (((y.p:Int)+7)/8=(((y.p+7)/8:Nat):Int)):=Ab (by omega);clear hov hkv HAH;go_wp2;go_region
    all_goals go_wp2
    refine bodyPost_ret (v:=.tuple #[.slice oa y.out.length oc,.int .i64 (((y.p:Int)+7)/8),.slice ka y.ks.length kc,.int .i64 0]) ?_ rfl ⟨_,_,by rw[Aa hp7],(Aa HOV).drew,(Aa HKV).drew,(Aa HB3).drew⟩
    first|rfl|kernel_rfl
end Go.Proofs.YtleocpdblhbimaaGreatDoor
