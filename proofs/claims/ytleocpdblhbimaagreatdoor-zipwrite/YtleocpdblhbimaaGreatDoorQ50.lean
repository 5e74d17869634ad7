import Derived.Deep.RegionHeld3
import Derived.Shelf.Strings.SlTrimAscii
set_option linter.unusedSimpArgs false
set_option maxHeartbeats 8000000
namespace Go.Proofs.YtleocpdblhbimaaGreatDoor
open Go.RowKit
set_option linter.unusedVariables false
set_option maxRecDepth 100000
theorem R5 (No:Nat->Prop)(B b n2:Nat)(bs:List Nat)(u:US)(w:World)(h:UIs No B w b (rowB bs n2) u)(hl:bs.length=n2)(hn2:n2<=25000)(hp:u.p<=8*n2)(ho:u.out.length<=3000)(hks:u.ks.length<=200000)(hNo:∀g,w.heap.size<=g->¬No g)(l:Nat)(x1 x2 x3:US)(hg1:uget (rowB bs n2) 1 u=(l,x1))(hg2:uget (rowB bs n2) 2 x1=(1,x2))(he2:x2.e=0)(LA LB:List Int)(hop:Mb=LA/\Ja=LB/\x2=x3)(he3:x3.e=0)(V:US)(hut:utok (rowB bs n2) LA LB (rowB bs n2).length x3=V)(hV:V.e=0):
 Calls Tryz.prog 61 #[.pointer (some ⟨b,0,none⟩)] w fun e w'=>e=.returned (.bool (decide (l=1)))/\UUp No B w b (rowB bs n2) (ukept 1 V) w':=by
 obtain⟨i0,hi,hz0,hz1,hz2⟩:=info_parts Cc;have hN:=Ai bs n2;have hrl:(rowB bs n2).length<=200000:=by omega
 have hp0:u.p<=(rowB bs n2).length:=by omega
 obtain⟨q2,q2l,q2o,q2k,q2e⟩:=Ax hg2 he2;obtain⟨q1,q1l,q1o,q1k,_⟩:=Ax hg1 q2e;obtain⟨hLA,hLB,rfl⟩:=hop;have HGA:Hid (Good LA):=Ab (by rw[<-hLA];exact Z24);have HGB:Hid (Good LB):=Ab (by rw[<-hLB];exact Z22);have hlA:LA.length=288:=by rw[<-hLA];rfl
 have hlB:LB.length=32:=by rw[<-hLB];rfl
 have hx3p:x2.p<=(rowB bs n2).length/\1<=x2.p:=⟨q2l,by omega⟩
 have hx3o:x2.out.length<=3000:=by rw[q2o,q1o];exact ho
 have hx3k:x2.ks=u.ks:=q2k.trans q1k;obtain⟨x3,hx3⟩:∃x3,x2=x3:=⟨_,rfl⟩
 rw[hx3]at he3 hut hx3p hx3o hx3k;have HX3:=Ab hx3;clear hx3;have H:=Ab h;have HNo:=Ab hNo;have HG1:=Ab hg1;have HG2:=Ab hg2;have HUT:=Ab hut
 have hl2:l<2:=by
  have:=J8 (rowB bs n2) 1 u
  rw[hg1]at this;exact this
 obtain⟨hx3l,hx3g⟩:=hx3p;clear h hNo hg1 hg2 hut q1 q2 q2k q1k q2o q1o;go_enter Tryz.func61,Tryz.ntmps61
 go_wp2_with fail
 refine(Gw No B b 1 _ u w (Aa H) (by omega) hrl hp0 l x1 (Aa HG1)).mono ?_;rintro e w1 ⟨rfl,hU1⟩;have U1:=Ab hU1;clear hU1;go_wp2_with fail
 refine(Gw No B b 2 _ x1 w1 (Aa U1).is (by omega) hrl q1l 1 x2 (Aa HG2)).mono ?_;rintro e w2 ⟨rfl,hU2⟩;have U2:=Ab ((Aa U1).trans hU2);clear hU2;obtain⟨_,_,c42,_⟩:=(Aa U2).is.cell;rw[he2]at c42;go_wp2_with fail
 refine(LN w2).mono ?_;rintro e w3 ⟨gA,cA,gB,rfl,hgA,hgB,hRA,hRB,hB3⟩;rw[hLA]at hRA;rw[hLB]at hRB;have U3:Hid (UUp No B w b (rowB bs n2) x3 w3):=Ab (by rw[<-Aa HX3];exact(Aa U2).trans (((UUp.refl (Aa U2).is.opened).newer (VC _) hB3).closed));obtain⟨aA,haA⟩:∃aA,some (⟨gA,0,none⟩:Addr)=aA:=⟨_,rfl⟩
 obtain⟨aB,haB⟩:∃aB,some (⟨gB,0,none⟩:Addr)=aB:=⟨_,rfl⟩
 rw[haA]at hRA;rw[haB]at hRB;rw[haA,haB];obtain⟨nA,hnA⟩:∃nA,288=nA:=⟨_,rfl⟩
 obtain⟨nB,hnB⟩:∃nB,32=nB:=⟨_,rfl⟩
 rw[hnA]at hlA;rw[hnB]at hlB;have RA:=Ab hRA;have RB:=Ab hRB;clear hRA hRB hB3 hgA hgB haA haB hLA hLB;rw[show (288:Nat)=nA from hnA,show (32:Nat)=nB from hnB];clear hnA hnB;obtain⟨_,_,c43,_⟩:=(Aa U3).is.cell;rw[he3]at c43;clear U1 U2 c42;go_wp2_with fail
 refine(Yw w3).mono ?_;rintro e w4 ⟨g1,s1,g2,s2,rfl,hg1,hg2,hP1,hP2,hB4,hg1b,hg2b⟩;have hz34:=hB4.size;have HP1:=Ab hP1;have HP2:=Ab hP2;have HB4:=Ab hB4;clear hP1 hP2 hB4;have RA4:=Ab ((Aa RA).below (Aa HB4) (VC _));go_wp2_with fail
 refine(Et aA nA cA LA w4 hlA (Aa RA4) (Aa HGA)).mono ?_;rintro e w5 ⟨mA,kA,rfl,hmA,hMA,hB5⟩;have hz45:=hB5.size;have HMA:=Ab hMA;have HB5:=Ab hB5;have hmA2:=hMA.lt;clear hMA hB5;have RB5:=Ab (((Aa RB).below (Aa HB4) (VC _)).below (Aa HB5) (VC _));go_wp2_with fail
 refine(Et aB nB nB LB w5 hlB (Aa RB5) (Aa HGB)).mono ?_;rintro e w6 ⟨mB,kB,rfl,hmB,hMB,hB6⟩;have hz56:=hB6.size;have HMB:=Ab hMB;have hmB2:=hMB.lt;have HMA6:=Ab (Fh (Aa HMA) hB6 hmA2);have HP16:=Ab (Ej (Ej (Aa HP1) (Aa HB5) hg1b) hB6 (by omega));have HP26:=Ab (Ej (Ej (Aa HP2) (Aa HB5) hg2b) hB6 (by omega));have hB36:Below w3.heap.size w3 w6:=(Aa HB4).trans (((Aa HB5).mono (by omega)).trans (hB6.mono (by omega)));have V6:Hid (UUp No B w b (rowB bs n2) x3 w6):=Ab ((Aa U3).trans (((UUp.refl (Aa U3).is.opened).newer (VC _) hB36).closed));obtain⟨N,hNN⟩:∃N,w3.heap.size=N:=⟨_,rfl⟩
 obtain⟨M,hMM⟩:∃M,w6.heap.size=M:=⟨_,rfl⟩
 have hbN:b<N:=by have:=(Aa U3).is.lt;omega
 have I6:Hid (UIs (N2 No N M) B w6 b (rowB bs n2) x3):=Ab ((((Aa U3).is.opened).newer hB36).more (fun e=>by rcases e with e|e;exact(Aa V6).is.no e;omega) (fun g hg=>by rw[hNN];rcases hg with e|e;exact .inl (.inl e);exact .inl (.inr e.1)));rw[hNN]at hg1 hg2 hz34;rw[hMM]at hz56 hmB2;have hwN:w.heap.size<=N:=by have:=(Aa U3).below.size;omega
 clear hMB hB6 hB36 HB4 HB5 HMA HP1 HP2 RA RB RA4 RB5 U3 c43;go_wp2;go_loopw [14] (fun v14 wr=>∃(F:Nat) (x:US),Hid (utok (rowB bs n2) LA LB F x=V)/\Hid ((rowB bs n2).length<x.p+F)/\Hid (x.p<=(rowB bs n2).length)/\Hid (x.out.length<=3000)/\Hid (x.ks=u.ks)/\Hid (UUp (N2 No N M) B w6 b (rowB bs n2) x wr)) (fun _ wr=>KA n2 b wr)
 case atStart=>exact⟨(rowB bs n2).length,x3,HUT,Ab (by omega),Ab hx3l,Ab hx3o,Ab hx3k,Ab (UUp.refl (Aa I6))⟩
 case round=>
  obtain⟨F,x,hT,hF,hpx,hox,hkx,hW⟩:=hrel;have hxe:x.e=0:=T9 (by rw[Aa hT];exact hV);obtain⟨_,_,c4x,_⟩:=(Aa hW).is.cell;rw[hxe]at c4x
  cases F with
  |zero=>exact absurd (Aa hF) (by have:=Aa hpx;omega)
  |succ F=>
   obtain⟨t,y,hTk,hrw⟩:=Ji (row:=rowB bs n2) (a:=LA) (b:=LB) (F:=F) (u:=x) (by rw[Aa hT];exact hV);rw[Aa hT]at hrw;obtain⟨a1,a2,a3,a4,a5⟩:=hTk.ahead;have HAH:Hid ((rowB bs n2).length<y.p+F/\y.p<=(rowB bs n2).length/\y.out.length<=3000/\y.ks=u.ks/\x.p<y.p):=Ab ⟨by have:=Aa hF;omega,a2,a5 (Aa hox),a4.trans (Aa hkx),by omega⟩;have HPA:=Ab (Fp (N2 No N M) B b mA kA n2 LA bs x wr (Aa hW).is (Aa HGA) hl hn2 (by have:=Aa hpx;omega) ((Aa hW).book2 (by rw[hlA];exact Aa HMA6) (by omega) (by omega)) (by omega));clear a1 a2 a3 a4 a5 hT hF hpx hkx
   cases hTk with
   |stop _ h1 h2=>
    rw[h1]at HPA;have hVy:V=y:=by rw[hrw];rfl
    clear hrw;subst hVy;go_wp2_with fail
    refine(Aa HPA).mono ?_;rintro e w7 ⟨rfl,hU7⟩;have W7:=Ab ((Aa hW).trans hU7);clear hU7 hW;obtain⟨_,_,c47,_⟩:=(Aa W7).is.cell;rw[hV]at c47;have WV:=Ab ((Aa V6).trans (Aa W7).closed2);have HKS:Hid (V.ks.length<=200000):=Ab (by rw[(Aa HAH).2.2.2.1];exact hks);obtain⟨ov,kv,_,c3,hh,hov,hkv,hap,hn1,hn2⟩:=(Aa WV).is.rows;obtain⟨KL,hKL⟩:∃KL,(V).ks.length=KL:=⟨_,rfl⟩
    have hKV:=hkv;rw[hKL]at hkv;obtain⟨ka,kc,rfl⟩:=As hkv;have hsz9:=(Aa WV).below.size;have hbl9:=(Aa WV).is.lt;have hKL2:KL<=200000:=by have:=Aa HKS;omega
    have HKV:=Ab hkv;have HKV2:=Ab hKV;have HOV:=Ab hov;have HH:=Ab hh;have HAP:=Ab hap;have HN1:=Ab hn1;have HN2:=Ab hn2;have HKL:=Ab hKL;have HIS:=Ab (Aa WV).is;clear hkv hKV hov hh hap hn1 hn2 hKL;go_wp2_with (at_builtin;refine wpList_append_own_at _ rfl (.tmp 239) (.tmp 241) 76 rfl (b+1) 3 i0 (.int .i64 0) 1 8 Tryz.underlying76 hi hz0 hz1 hz2 rfl (by decide) _ KL (i64s (V).ks) rfl ((Aa HKV).alloc _) ⟨w7.heap.size,0,none⟩ 1 1 [.int .i64 (1)] rfl rfl (cell_one_new _ _ _) (Fd rfl) (by unfold maxLen;omega) (by omega) (by simp;omega) ?_)
    intro v' wK hO3 hgrow _ hspot;obtain⟨q3,f3,hFIN⟩:=UIs.keepK (k:=1) (X:=.cells #[.int .i64 (1)] 3) (Aa HIS).base (Aa HIS).no (Aa HH) (Aa HOV) (Aa HKV2) (Aa HAP) (Aa HN1) (Aa HN2) (fun g hg=>Aa HNo g (by omega)) (by rw[Aa HKL];exact hO3) hgrow (by simpa using hspot);obtain⟨g9,c9,rfl,_,_⟩:=Be hO3 (by omega);have HFIN:=Ab ((Aa WV).trans hFIN);clear hO3 hgrow hspot hFIN;go_wp2;go_ret;exact⟨by rw[R7];rfl,Aa HFIN⟩
   |byte c x' h1 h2 h3 h4=>
    rw[h1]at HPA;simp only[if_true]at hrw;have hrw2:=Ab hrw.symm;have hsay:Hy c x'= {x' with out:=x'.out++ [c]}:=by unfold Hy;rw[if_pos h2,if_neg h4]
    have HSAY:=Ab hsay;have hxo:x'.out.length<=3000:=by have:=(Bt h1 h2).2.2.1;rw[this];exact Aa hox
    have hcI:(c:Int)<256:=by omega
    have hc2:((c:Int)==256)=false:=by rw[beq_eq_false_iff_ne];omega
    clear hrw hsay h1;go_wp2_with fail
    refine(Aa HPA).mono ?_;rintro e w7 ⟨rfl,hU7⟩;have W7:=Ab ((Aa hW).trans hU7);clear hU7;obtain⟨_,_,c47,_⟩:=(Aa W7).is.cell;rw[h2]at c47;go_wp2_with fail
    refine(Qg (N2 No N M) B b c _ x' w7 (Aa W7).is hxo (fun g hg=>by have:=(Aa W7).below.size;intro e;rcases e with e|e;exact Aa HNo g (by omega) e;omega)).mono ?_;rintro e w8 ⟨rfl,hU8⟩;rw[Aa HSAY]at hU8;have W8:=Ab ((Aa W7).trans hU8);clear hU8;go_wp2;go_roundw
    case rel=>
     obtain⟨b1,b2,b3,b4,b5⟩:=Aa HAH;exact⟨F,_,hrw2,Ab b1,Ab b2,Ab b3,Ab b4,W8⟩
    case measure=>
     rw[Ef (Aa hW).is,Ef (Aa W8).is];obtain⟨b1,b2,b3,b4,b5⟩:=Aa HAH;rw[hN]at b2;simp only at b2 b5 ⊢
     omega
   |same k n0 f d0 x1 x2 x3 x4 _ h1 h2 h3 h4 h5 h6 h7 h8 h9 h10 h11 h12 h13 h14=>
    rw[h1]at HPA;simp only[if_true]at hrw;have hrw2:=Ab hrw.symm;obtain⟨q,hq⟩:∃q,k-257=q:=⟨_,rfl⟩
    rw[hq]at h5 h13;obtain⟨sb,hsb⟩:∃sb,(samesL.getD q (0,0)).2=sb:=⟨_,rfl⟩
    obtain⟨s0,hs0⟩:∃s0,(samesL.getD q (0,0)).1=s0:=⟨_,rfl⟩
    obtain⟨fb,hfb⟩:∃fb,(farsL.getD f (0,0)).2=fb:=⟨_,rfl⟩
    obtain⟨f0,hf0⟩:∃f0,(farsL.getD f (0,0)).1=f0:=⟨_,rfl⟩
    have hss:=Qh q (by omega);have hfs:=Uq f (by omega);rw[hsb,hs0]at hss;rw[hfb,hf0]at hfs;obtain⟨hsb5,hs0b⟩:=hss;obtain⟨hfb5,hf0b,hf01⟩:=hfs;rw[hsb]at h5;rw[hs0,hf0]at h13;rw[hfb]at h10;rw[hf0]at h12;have p1:=Bt h1 h2;have p2:=Ax h5 h6;have p3:=Bt h7 h8;have p4:=Ax h10 h11;have hx1o:x1.out.length<=3000:=by rw[p1.2.2.1];exact Aa hox
    have hx4o:x4.out.length<=3000:=by rw[p4.2.2.1,p3.2.2.1,p2.2.2.1];exact hx1o
    have hx1p:=p1.2.1;have hx2p:=p2.2.1;have hx3p:=p3.2.1;have hx4p:=p4.2.1
    have hn32:n0<32:=by
     have h15:=J8 (rowB bs n2) sb x1;rw[h5]at h15;exact VG h15 (WC (VU (by decide) hsb5) (by decide))
    have hd32:d0<8192:=by
     have h15:=J8 (rowB bs n2) fb x3;rw[h10]at h15;exact VG h15 (WC (VU (by decide) hfb5) (by decide))
    have hk1:(257:Int)<=(k:Int):=by omega
    have hk2:(k:Int)-257<29:=by omega
    have hk3:¬(k:Int)<256:=by omega
    have hk4:¬(285:Int)<(k:Int):=by omega
    have hk5:(k:Int)<286:=by omega
    have hk6:((k:Int)==256)=false:=by rw[beq_eq_false_iff_ne];omega
    have hkw:IntKind.i64.wrap ((k:Int)-257)=(k:Int)-257:=by simp[IntKind.wrap,IntKind.signed,IntKind.bits];omega
    have hkn:((k:Int)-257).toNat=q:=by omega
    have hsw:IntKind.i64.wrap ((s0:Int)+(n0:Int))=(s0:Int)+(n0:Int):=by simp[IntKind.wrap,IntKind.signed,IntKind.bits];omega
    have hfw:IntKind.i64.wrap ((f0:Int)+(d0:Int))=(f0:Int)+(d0:Int):=by simp[IntKind.wrap,IntKind.signed,IntKind.bits];omega
    have HSB:=Ab hsb;have HS0:=Ab hs0;have HFB:=Ab hfb;have HF0:=Ab hf0;have H13:=Ab h13;clear hrw h13 p1 p2 p3 p4 hsb hs0 hfb hf0;go_wp2_with fail
    refine(Aa HPA).mono ?_;rintro e w7 ⟨rfl,hU7⟩;have W7:=Ab ((Aa hW).trans hU7);clear hU7;obtain⟨_,_,c47,_⟩:=(Aa W7).is.cell;rw[h2]at c47;have hPq:=(Aa W7).prs (Aa HP16) (by omega) hg1 (by omega) q (by show q<29;omega);rw[Aa HS0,Aa HSB]at hPq;obtain⟨cs1,cs2⟩:=hPq;have hg17:g1<w7.heap.size:=by have:=(Aa W7).below.size;omega
    have HGT:=Ab (fun i=>Gw (N2 No N M) B b sb _ x1 (w7.drewN i) ((UUp.refl (Aa W7).is).drewN i).is (by omega) hrl hx1p n0 x2 h5);have HGD:=Ab (fun i=>(UUp.refl (Aa W7).is).drewN i);have hN2:N2 No N M g1:=.inr ⟨hg1,by omega⟩;have HN2:=Ab hN2;clear hN2;go_wp2;go_region_held3 (fun w'=>w'.cell? ⟨g1,q*2,none⟩=some (.int .i64 (s0:Int))/\w'.cell? ⟨g1,q*2+1,none⟩=some (.int .i64 (sb:Int))) (first|assumption|exact⟨by assumption,by assumption⟩) (first|(go_at_call 91;refine(Aa HGT _).mono ?_;rintro e w8 ⟨rfl,hU8⟩;have hkp8:=((Aa HGD _).trans hU8).kp g1 hg17 (Aa HN2);have cd1:=(World.cell?_of_block (a:=⟨g1,q*2,none⟩) hkp8).trans cs1;have cd2:=(World.cell?_of_block (a:=⟨g1,q*2+1,none⟩) hkp8).trans cs2;have W8:=Ab ((Aa W7).trans ((Aa HGD _).trans hU8));clear hU8 hkp8))
    have HPB:=Ab (Fp (N2 No N M) B b mB kB n2 LB bs x2 w8 (Aa W8).is (Aa HGB) hl hn2 (by omega) ((Aa W8).book2 (by rw[hlB];exact Aa HMB) (by omega) (by omega)) (by omega));rw[h7]at HPB;clear HGT HGD cs1 cs2 cd1 cd2 W7 c47 HPA;go_wp2_with fail
    refine(Aa HPB).mono ?_;rintro e w9 ⟨rfl,hU9⟩;have W9:=Ab ((Aa W8).trans hU9);clear hU9;obtain⟨_,_,c49,_⟩:=(Aa W9).is.cell;rw[h8]at c49;have hPf:=(Aa W9).prs (Aa HP26) (by omega) hg2 (by omega) f (by show f<30;omega);rw[Aa HF0,Aa HFB]at hPf;obtain⟨cf1,cf2⟩:=hPf;have hg29:g2<w9.heap.size:=by have:=(Aa W9).below.size;omega
    have hf1:¬(29:Int)<(f:Int):=by omega
    have hf2:(f:Int)<30:=by omega
    have HGT2:=Ab (fun i=>Gw (N2 No N M) B b fb _ x3 (w9.drewN i) ((UUp.refl (Aa W9).is).drewN i).is (by omega) hrl hx3p d0 x4 h10);have HGD2:=Ab (fun i=>(UUp.refl (Aa W9).is).drewN i);have HN22:Hid (N2 No N M g2):=Ab (.inr ⟨hg2,by omega⟩);go_wp2;go_region_held3 (fun w'=>w'.cell? ⟨g2,f*2,none⟩=some (.int .i64 (f0:Int))/\w'.cell? ⟨g2,f*2+1,none⟩=some (.int .i64 (fb:Int))) (first|assumption|exact⟨by assumption,by assumption⟩) (first|(go_at_call 91;refine(Aa HGT2 _).mono ?_;rintro e wA ⟨rfl,hUA⟩;have hkpA:=((Aa HGD2 _).trans hUA).kp g2 hg29 (Aa HN22);have cg1:=(World.cell?_of_block (a:=⟨g2,f*2,none⟩) hkpA).trans cf1;have cg2:=(World.cell?_of_block (a:=⟨g2,f*2+1,none⟩) hkpA).trans cf2;have WA:=Ab ((Aa W9).trans ((Aa HGD2 _).trans hUA));clear hUA hkpA))
    clear HGT2 HGD2 cf1 cf2 cg1 cg2 W9 W8 c49 HPB;obtain⟨_,_,c4A,_⟩:=(Aa WA).is.cell;rw[h11]at c4A;obtain⟨ovA,kvA,c2A,_,_,hovA,_⟩:=(Aa WA).is.rows;obtain⟨oA,ocA,rfl⟩:=As hovA;clear hovA;obtain⟨d,hd⟩:∃d,f0+d0=d:=⟨_,rfl⟩
    obtain⟨n,hn⟩:∃n,s0+n0=n:=⟨_,rfl⟩
    have hdI:(f0:Int)+(d0:Int)=(d:Int):=by omega
    have hnI:(s0:Int)+(n0:Int)=(n:Int):=by omega
    have H13':Hid (ucopy d n x4=y):=Ab (by rw[<-hd,<-hn];exact Aa H13);have hd12:d<=x4.out.length:=by rw[<-hd];exact h12
    have hd1:1<=d:=by omega
    obtain⟨LO,hLO⟩:∃LO,x4.out.length=LO:=⟨_,rfl⟩
    rw[hLO]at c2A hd12 hx4o;have hdL:¬(LO:Int)<(d:Int):=by omega
    have HLO:=Ab hLO;have hnb:n<=300:=by omega
    clear hLO H13 hd hn h12;rw[hdI,hnI];go_wp2;go_loopw [18] (fun v18 wr=>∃(j:Nat) (z:US),j<=n/\v18=.int .i64 (j:Int)/\Hid (ucopy d (n-j) z=y)/\Hid (z.out.length<=3000)/\Hid (d<=z.out.length)/\Hid (UUp (N2 No N M) B w6 b (rowB bs n2) z wr)) (fun v18 _=>n-(intOf v18).toNat)
    case atStart=>exact⟨0,x4,VK _,rfl,H13',Ab (by rw[Aa HLO];exact hx4o),Ab (by rw[Aa HLO];exact hd12),WA⟩
    case round=>
     obtain⟨j,z,hj,rfl,hcp,hzo,hdz,hZ⟩:=hrel;have hze:z.e=0:=He (by rw[Aa hcp];exact h14);obtain⟨_,_,c4z,_⟩:=(Aa hZ).is.cell;rw[hze]at c4z
     by_cases hjn:j<n
     . obtain⟨ovz,kvz,c2z,_,_,hovz,_⟩:=(Aa hZ).is.rows;obtain⟨LZ,hLZ⟩:∃LZ,z.out.length=LZ:=⟨_,rfl⟩
       have hdz2:=Aa hdz;have hzo2:=Aa hzo;rw[hLZ]at hovz hdz2 hzo2;obtain⟨gz,cz,rfl,hgz1,hgz2⟩:=Be hovz (by omega);obtain⟨r,hr⟩:∃r,LZ-d=r:=⟨_,rfl⟩
       obtain⟨ch,hch⟩:∃ch,z.out.getD r 0=ch:=⟨_,rfl⟩
       have cx:wr.cell? ⟨gz,r,none⟩=some (.int .u8 (ch:Int)):=by
        rw[hovz.cellAt r (by omega),<-hch];have:r<z.out.length:=by omega
        simp[u8s,List.getD,this]
       have hcp2:ucopy d (n-(j+1)) (Hy ch z)=y:=by
        have h20:=Aa hcp;rw[show n-j=(n-(j+1))+1 by omega,ucopy,if_pos hze,hLZ,hr,hch]at h20;exact h20
       obtain⟨_,hz3,hsay⟩:=Nq (He (by rw[hcp2];exact h14));have HCP2:=Ab hcp2;have HSAY:=Ab hsay;have HSY:=Ab (fun i=>Qg (N2 No N M) B b ch _ z (wr.drewN i) ((UUp.refl (Aa hZ).is).drewN i).is (Aa hzo) (fun g hg=>by have h21:=(Aa hZ).below.size;have h22:wr.heap.size<=g:=hg;intro e;rcases e with e|e;exact Aa HNo g (by omega) e;omega));have HSD:=Ab (fun i=>(UUp.refl (Aa hZ).is).drewN i);have hjI:(j:Int)<(n:Int):=by omega
       have hb1:(d:Int)<=(LZ:Int):=by omega
       have hb2:(0:Int)<(d:Int):=by omega
       have hb3:(LZ:Int)-(d:Int)<(LZ:Int):=by omega
       have hwz:IntKind.i64.wrap ((LZ:Int)-(d:Int))=(LZ:Int)-(d:Int):=by simp[IntKind.wrap,IntKind.signed,IntKind.bits];omega
       have htz:((LZ:Int)-(d:Int)).toNat=r:=by omega
       have HLZ:=Ab hLZ;clear hovz hcp2 hsay hch hLZ;go_wp2;go_region_with (go_at_call 93;refine(Aa HSY _).mono ?_;rintro e wB ⟨rfl,hUB⟩;have WB:=Ab ((Aa hZ).trans ((Aa HSD _).trans hUB));clear hUB)
       all_goals try go_wp2
       all_goals
        go_roundw
        case rel=>
         refine⟨j+1,Hy ch z,by omega,by go_num,HCP2,Ab ?_,Ab ?_,WB⟩
         . rw[Aa HSAY];show (z.out++ [ch]).length<=3000;rw[VB,Aa HLZ];simp only[VJ,WO];have:=Aa HLZ;omega
         . rw[Aa HSAY];show d<=(z.out++ [ch]).length;rw[VB,Aa HLZ];omega
        case measure=>simp[intOf];omega
     . have hjn2:j=n:=by omega
       subst hjn2
       have hzy:z=y:=by
        have h20:=Aa hcp;rw[XM,ucopy]at h20;exact h20
       subst hzy;have hjI:¬(j:Int)<(j:Int):=by omega
       go_wp2;go_roundw
       case rel=>
        obtain⟨b1,b2,b3,b4,b5⟩:=Aa HAH;exact⟨F,z,hrw2,Ab b1,Ab b2,Ab b3,Ab b4,hZ⟩
       case measure=>
        rw[Ef (Aa hW).is,Ef (Aa hZ).is];obtain⟨b1,b2,b3,b4,b5⟩:=Aa HAH;rw[hN]at b2;omega
theorem Xf (No:Nat->Prop)(B b n2:Nat)(bs:List Nat)(u:US)(w:World)(h:UIs No B w b (rowB bs n2) u)(hl:bs.length=n2)(hn2:n2<=25000)(hp:u.p<=8*n2)(ho:u.out.length<=3000)(hks:u.ks.length<=200000)(hNo:∀g,w.heap.size<=g->¬No g)(l:Nat)(x1 x2 x3:US)(hg1:uget (rowB bs n2) 1 u=(l,x1))(hg2:uget (rowB bs n2) 2 x1=(2,x2))(he2:x2.e=0)(LA LB:List Int)(hop:Hc (rowB bs n2) x2=((LA,LB),x3))(he3:x3.e=0)(V:US)(hut:utok (rowB bs n2) LA LB (rowB bs n2).length x3=V)(hV:V.e=0):
 Calls Tryz.prog 61 #[.pointer (some ⟨b,0,none⟩)] w fun e w'=>e=.returned (.bool (decide (l=1)))/\UUp No B w b (rowB bs n2) (ukept 2 V) w':=by
 obtain⟨i0,hi,hz0,hz1,hz2⟩:=info_parts Cc;have hN:=Ai bs n2;have hrl:(rowB bs n2).length<=200000:=by omega
 have hp0:u.p<=(rowB bs n2).length:=by omega
 obtain⟨q2,q2l,q2o,q2k,q2e⟩:=Ax hg2 he2;obtain⟨q1,q1l,q1o,q1k,_⟩:=Ax hg1 q2e;obtain⟨m0,n0,c0,v1,v2,v3,us,S0,L0,hTD⟩:=Gt hop he3;have HGA:Hid (Good LA):=Ab (Cn (by rw[hTD.ea];exact hTD.ca));have HGB:Hid (Good LB):=Ab (Cn (by rw[hTD.ec];exact hTD.cc));obtain⟨t1,t2,t3,t4⟩:=Ps hTD q2l;have hx3p:x3.p<=(rowB bs n2).length/\1<=x3.p:=⟨t2,by omega⟩
 have hx3o:x3.out.length<=3000:=by rw[t3,q2o,q1o];exact ho
 have hx3k:x3.ks=u.ks:=t4.trans (q2k.trans q1k);have HTD:=Ab hTD;clear hTD t1 t2 t3 t4 hop;have H:=Ab h;have HNo:=Ab hNo;have HG1:=Ab hg1;have HG2:=Ab hg2;have HUT:=Ab hut
 have hl2:l<2:=by
  have:=J8 (rowB bs n2) 1 u
  rw[hg1]at this;exact this
 obtain⟨hx3l,hx3g⟩:=hx3p;clear h hNo hg1 hg2 hut q1 q2 q2k q1k q2o q1o;go_enter Tryz.func61,Tryz.ntmps61
 go_wp2_with fail
 refine(Gw No B b 1 _ u w (Aa H) (by omega) hrl hp0 l x1 (Aa HG1)).mono ?_;rintro e w1 ⟨rfl,hU1⟩;have U1:=Ab hU1;clear hU1;go_wp2_with fail
 refine(Gw No B b 2 _ x1 w1 (Aa U1).is (by omega) hrl q1l 2 x2 (Aa HG2)).mono ?_;rintro e w2 ⟨rfl,hU2⟩;have U2:=Ab ((Aa U1).trans hU2);clear hU2;obtain⟨_,_,c42,_⟩:=(Aa U2).is.cell;rw[he2]at c42;go_wp2_with fail
 refine(Z0h No B b n2 bs x2 w2 (Aa U2).is hl hn2 (by omega) LA LB x3 m0 n0 c0 v1 v2 v3 us S0 L0 (Aa HTD)).mono ?_;rintro e w3 ⟨aA,cA,aB,cB,rfl,hRA,hRB,hU3⟩;have U3:=Ab ((Aa U2).trans hU3);have RA:=Ab hRA;have RB:=Ab hRB;obtain⟨nA,hlA⟩:∃nA,LA.length=nA:=⟨_,rfl⟩
 obtain⟨nB,hlB⟩:∃nB,LB.length=nB:=⟨_,rfl⟩
 rw[hlA,hlB];clear hRA hRB hU3;obtain⟨_,_,c43,_⟩:=(Aa U3).is.cell;rw[he3]at c43;clear U1 U2 c42;go_wp2_with fail
 refine(Yw w3).mono ?_;rintro e w4 ⟨g1,s1,g2,s2,rfl,hg1,hg2,hP1,hP2,hB4,hg1b,hg2b⟩;have hz34:=hB4.size;have HP1:=Ab hP1;have HP2:=Ab hP2;have HB4:=Ab hB4;clear hP1 hP2 hB4;have RA4:=Ab ((Aa RA).below (Aa HB4) (VC _));go_wp2_with fail
 refine(Et aA nA cA LA w4 hlA (Aa RA4) (Aa HGA)).mono ?_;rintro e w5 ⟨mA,kA,rfl,hmA,hMA,hB5⟩;have hz45:=hB5.size;have HMA:=Ab hMA;have HB5:=Ab hB5;have hmA2:=hMA.lt;clear hMA hB5;have RB5:=Ab (((Aa RB).below (Aa HB4) (VC _)).below (Aa HB5) (VC _));go_wp2_with fail
 refine(Et aB nB cB LB w5 hlB (Aa RB5) (Aa HGB)).mono ?_;rintro e w6 ⟨mB,kB,rfl,hmB,hMB,hB6⟩;have hz56:=hB6.size;have HMB:=Ab hMB;have hmB2:=hMB.lt;have HMA6:=Ab (Fh (Aa HMA) hB6 hmA2);have HP16:=Ab (Ej (Ej (Aa HP1) (Aa HB5) hg1b) hB6 (by omega));have HP26:=Ab (Ej (Ej (Aa HP2) (Aa HB5) hg2b) hB6 (by omega));have hB36:Below w3.heap.size w3 w6:=(Aa HB4).trans (((Aa HB5).mono (by omega)).trans (hB6.mono (by omega)));have V6:Hid (UUp No B w b (rowB bs n2) x3 w6):=Ab ((Aa U3).trans (((UUp.refl (Aa U3).is.opened).newer (VC _) hB36).closed));obtain⟨N,hNN⟩:∃N,w3.heap.size=N:=⟨_,rfl⟩
 obtain⟨M,hMM⟩:∃M,w6.heap.size=M:=⟨_,rfl⟩
 have hbN:b<N:=by have:=(Aa U3).is.lt;omega
 have I6:Hid (UIs (N2 No N M) B w6 b (rowB bs n2) x3):=Ab ((((Aa U3).is.opened).newer hB36).more (fun e=>by rcases e with e|e;exact(Aa V6).is.no e;omega) (fun g hg=>by rw[hNN];rcases hg with e|e;exact .inl (.inl e);exact .inl (.inr e.1)));rw[hNN]at hg1 hg2 hz34;rw[hMM]at hz56 hmB2;have hwN:w.heap.size<=N:=by have:=(Aa U3).below.size;omega
 clear hMB hB6 hB36 HB4 HB5 HMA HP1 HP2 RA RB RA4 RB5 U3 c43;go_wp2;go_loopw [14] (fun v14 wr=>∃(F:Nat) (x:US),Hid (utok (rowB bs n2) LA LB F x=V)/\Hid ((rowB bs n2).length<x.p+F)/\Hid (x.p<=(rowB bs n2).length)/\Hid (x.out.length<=3000)/\Hid (x.ks=u.ks)/\Hid (UUp (N2 No N M) B w6 b (rowB bs n2) x wr)) (fun _ wr=>KA n2 b wr)
 case atStart=>exact⟨(rowB bs n2).length,x3,HUT,Ab (by omega),Ab hx3l,Ab hx3o,Ab hx3k,Ab (UUp.refl (Aa I6))⟩
 case round=>
  obtain⟨F,x,hT,hF,hpx,hox,hkx,hW⟩:=hrel;have hxe:x.e=0:=T9 (by rw[Aa hT];exact hV);obtain⟨_,_,c4x,_⟩:=(Aa hW).is.cell;rw[hxe]at c4x
  cases F with
  |zero=>exact absurd (Aa hF) (by have:=Aa hpx;omega)
  |succ F=>
   obtain⟨t,y,hTk,hrw⟩:=Ji (row:=rowB bs n2) (a:=LA) (b:=LB) (F:=F) (u:=x) (by rw[Aa hT];exact hV);rw[Aa hT]at hrw;obtain⟨a1,a2,a3,a4,a5⟩:=hTk.ahead;have HAH:Hid ((rowB bs n2).length<y.p+F/\y.p<=(rowB bs n2).length/\y.out.length<=3000/\y.ks=u.ks/\x.p<y.p):=Ab ⟨by have:=Aa hF;omega,a2,a5 (Aa hox),a4.trans (Aa hkx),by omega⟩;have HPA:=Ab (Fp (N2 No N M) B b mA kA n2 LA bs x wr (Aa hW).is (Aa HGA) hl hn2 (by have:=Aa hpx;omega) ((Aa hW).book2 (by rw[hlA];exact Aa HMA6) (by omega) (by omega)) (by omega));clear a1 a2 a3 a4 a5 hT hF hpx hkx
   cases hTk with
   |stop _ h1 h2=>
    rw[h1]at HPA;have hVy:V=y:=by rw[hrw];rfl
    clear hrw;subst hVy;go_wp2_with fail
    refine(Aa HPA).mono ?_;rintro e w7 ⟨rfl,hU7⟩;have W7:=Ab ((Aa hW).trans hU7);clear hU7 hW;obtain⟨_,_,c47,_⟩:=(Aa W7).is.cell;rw[hV]at c47;have WV:=Ab ((Aa V6).trans (Aa W7).closed2);have HKS:Hid (V.ks.length<=200000):=Ab (by rw[(Aa HAH).2.2.2.1];exact hks);obtain⟨ov,kv,_,c3,hh,hov,hkv,hap,hn1,hn2⟩:=(Aa WV).is.rows;obtain⟨KL,hKL⟩:∃KL,(V).ks.length=KL:=⟨_,rfl⟩
    have hKV:=hkv;rw[hKL]at hkv;obtain⟨ka,kc,rfl⟩:=As hkv;have hsz9:=(Aa WV).below.size;have hbl9:=(Aa WV).is.lt;have hKL2:KL<=200000:=by have:=Aa HKS;omega
    have HKV:=Ab hkv;have HKV2:=Ab hKV;have HOV:=Ab hov;have HH:=Ab hh;have HAP:=Ab hap;have HN1:=Ab hn1;have HN2:=Ab hn2;have HKL:=Ab hKL;have HIS:=Ab (Aa WV).is;clear hkv hKV hov hh hap hn1 hn2 hKL;go_wp2_with (at_builtin;refine wpList_append_own_at _ rfl (.tmp 239) (.tmp 241) 76 rfl (b+1) 3 i0 (.int .i64 0) 1 8 Tryz.underlying76 hi hz0 hz1 hz2 rfl (by decide) _ KL (i64s (V).ks) rfl ((Aa HKV).alloc _) ⟨w7.heap.size,0,none⟩ 1 1 [.int .i64 (2)] rfl rfl (cell_one_new _ _ _) (Fd rfl) (by unfold maxLen;omega) (by omega) (by simp;omega) ?_)
    intro v' wK hO3 hgrow _ hspot;obtain⟨q3,f3,hFIN⟩:=UIs.keepK (k:=2) (X:=.cells #[.int .i64 (2)] 3) (Aa HIS).base (Aa HIS).no (Aa HH) (Aa HOV) (Aa HKV2) (Aa HAP) (Aa HN1) (Aa HN2) (fun g hg=>Aa HNo g (by omega)) (by rw[Aa HKL];exact hO3) hgrow (by simpa using hspot);obtain⟨g9,c9,rfl,_,_⟩:=Be hO3 (by omega);have HFIN:=Ab ((Aa WV).trans hFIN);clear hO3 hgrow hspot hFIN;go_wp2;go_ret;exact⟨by rw[R7];rfl,Aa HFIN⟩
   |byte c x' h1 h2 h3 h4=>
    rw[h1]at HPA;simp only[if_true]at hrw;have hrw2:=Ab hrw.symm;have hsay:Hy c x'= {x' with out:=x'.out++ [c]}:=by unfold Hy;rw[if_pos h2,if_neg h4]
    have HSAY:=Ab hsay;have hxo:x'.out.length<=3000:=by have:=(Bt h1 h2).2.2.1;rw[this];exact Aa hox
    have hcI:(c:Int)<256:=by omega
    have hc2:((c:Int)==256)=false:=by rw[beq_eq_false_iff_ne];omega
    clear hrw hsay h1;go_wp2_with fail
    refine(Aa HPA).mono ?_;rintro e w7 ⟨rfl,hU7⟩;have W7:=Ab ((Aa hW).trans hU7);clear hU7;obtain⟨_,_,c47,_⟩:=(Aa W7).is.cell;rw[h2]at c47;go_wp2_with fail
    refine(Qg (N2 No N M) B b c _ x' w7 (Aa W7).is hxo (fun g hg=>by have:=(Aa W7).below.size;intro e;rcases e with e|e;exact Aa HNo g (by omega) e;omega)).mono ?_;rintro e w8 ⟨rfl,hU8⟩;rw[Aa HSAY]at hU8;have W8:=Ab ((Aa W7).trans hU8);clear hU8;go_wp2;go_roundw
    case rel=>
     obtain⟨b1,b2,b3,b4,b5⟩:=Aa HAH;exact⟨F,_,hrw2,Ab b1,Ab b2,Ab b3,Ab b4,W8⟩
    case measure=>
     rw[Ef (Aa hW).is,Ef (Aa W8).is];obtain⟨b1,b2,b3,b4,b5⟩:=Aa HAH;rw[hN]at b2;simp only at b2 b5 ⊢
     omega
   |same k n0 f d0 x1 x2 x3 x4 _ h1 h2 h3 h4 h5 h6 h7 h8 h9 h10 h11 h12 h13 h14=>
    rw[h1]at HPA;simp only[if_true]at hrw;have hrw2:=Ab hrw.symm;obtain⟨q,hq⟩:∃q,k-257=q:=⟨_,rfl⟩
    rw[hq]at h5 h13;obtain⟨sb,hsb⟩:∃sb,(samesL.getD q (0,0)).2=sb:=⟨_,rfl⟩
    obtain⟨s0,hs0⟩:∃s0,(samesL.getD q (0,0)).1=s0:=⟨_,rfl⟩
    obtain⟨fb,hfb⟩:∃fb,(farsL.getD f (0,0)).2=fb:=⟨_,rfl⟩
    obtain⟨f0,hf0⟩:∃f0,(farsL.getD f (0,0)).1=f0:=⟨_,rfl⟩
    have hss:=Qh q (by omega);have hfs:=Uq f (by omega);rw[hsb,hs0]at hss;rw[hfb,hf0]at hfs;obtain⟨hsb5,hs0b⟩:=hss;obtain⟨hfb5,hf0b,hf01⟩:=hfs;rw[hsb]at h5;rw[hs0,hf0]at h13;rw[hfb]at h10;rw[hf0]at h12;have p1:=Bt h1 h2;have p2:=Ax h5 h6;have p3:=Bt h7 h8;have p4:=Ax h10 h11;have hx1o:x1.out.length<=3000:=by rw[p1.2.2.1];exact Aa hox
    have hx4o:x4.out.length<=3000:=by rw[p4.2.2.1,p3.2.2.1,p2.2.2.1];exact hx1o
    have hx1p:=p1.2.1;have hx2p:=p2.2.1;have hx3p:=p3.2.1;have hx4p:=p4.2.1
    have hn32:n0<32:=by
     have h15:=J8 (rowB bs n2) sb x1;rw[h5]at h15;exact VG h15 (WC (VU (by decide) hsb5) (by decide))
    have hd32:d0<8192:=by
     have h15:=J8 (rowB bs n2) fb x3;rw[h10]at h15;exact VG h15 (WC (VU (by decide) hfb5) (by decide))
    have hk1:(257:Int)<=(k:Int):=by omega
    have hk2:(k:Int)-257<29:=by omega
    have hk3:¬(k:Int)<256:=by omega
    have hk4:¬(285:Int)<(k:Int):=by omega
    have hk5:(k:Int)<286:=by omega
    have hk6:((k:Int)==256)=false:=by rw[beq_eq_false_iff_ne];omega
    have hkw:IntKind.i64.wrap ((k:Int)-257)=(k:Int)-257:=by simp[IntKind.wrap,IntKind.signed,IntKind.bits];omega
    have hkn:((k:Int)-257).toNat=q:=by omega
    have hsw:IntKind.i64.wrap ((s0:Int)+(n0:Int))=(s0:Int)+(n0:Int):=by simp[IntKind.wrap,IntKind.signed,IntKind.bits];omega
    have hfw:IntKind.i64.wrap ((f0:Int)+(d0:Int))=(f0:Int)+(d0:Int):=by simp[IntKind.wrap,IntKind.signed,IntKind.bits];omega
    have HSB:=Ab hsb;have HS0:=Ab hs0;have HFB:=Ab hfb;have HF0:=Ab hf0;have H13:=Ab h13;clear hrw h13 p1 p2 p3 p4 hsb hs0 hfb hf0;go_wp2_with fail
    refine(Aa HPA).mono ?_;rintro e w7 ⟨rfl,hU7⟩;have W7:=Ab ((Aa hW).trans hU7);clear hU7;obtain⟨_,_,c47,_⟩:=(Aa W7).is.cell;rw[h2]at c47;have hPq:=(Aa W7).prs (Aa HP16) (by omega) hg1 (by omega) q (by show q<29;omega);rw[Aa HS0,Aa HSB]at hPq;obtain⟨cs1,cs2⟩:=hPq;have hg17:g1<w7.heap.size:=by have:=(Aa W7).below.size;omega
    have HGT:=Ab (fun i=>Gw (N2 No N M) B b sb _ x1 (w7.drewN i) ((UUp.refl (Aa W7).is).drewN i).is (by omega) hrl hx1p n0 x2 h5);have HGD:=Ab (fun i=>(UUp.refl (Aa W7).is).drewN i);have hN2:N2 No N M g1:=.inr ⟨hg1,by omega⟩;have HN2:=Ab hN2;clear hN2;go_wp2;go_region_held3 (fun w'=>w'.cell? ⟨g1,q*2,none⟩=some (.int .i64 (s0:Int))/\w'.cell? ⟨g1,q*2+1,none⟩=some (.int .i64 (sb:Int))) (first|assumption|exact⟨by assumption,by assumption⟩) (first|(go_at_call 91;refine(Aa HGT _).mono ?_;rintro e w8 ⟨rfl,hU8⟩;have hkp8:=((Aa HGD _).trans hU8).kp g1 hg17 (Aa HN2);have cd1:=(World.cell?_of_block (a:=⟨g1,q*2,none⟩) hkp8).trans cs1;have cd2:=(World.cell?_of_block (a:=⟨g1,q*2+1,none⟩) hkp8).trans cs2;have W8:=Ab ((Aa W7).trans ((Aa HGD _).trans hU8));clear hU8 hkp8))
    have HPB:=Ab (Fp (N2 No N M) B b mB kB n2 LB bs x2 w8 (Aa W8).is (Aa HGB) hl hn2 (by omega) ((Aa W8).book2 (by rw[hlB];exact Aa HMB) (by omega) (by omega)) (by omega));rw[h7]at HPB;clear HGT HGD cs1 cs2 cd1 cd2 W7 c47 HPA;go_wp2_with fail
    refine(Aa HPB).mono ?_;rintro e w9 ⟨rfl,hU9⟩;have W9:=Ab ((Aa W8).trans hU9);clear hU9;obtain⟨_,_,c49,_⟩:=(Aa W9).is.cell;rw[h8]at c49;have hPf:=(Aa W9).prs (Aa HP26) (by omega) hg2 (by omega) f (by show f<30;omega);rw[Aa HF0,Aa HFB]at hPf;obtain⟨cf1,cf2⟩:=hPf;have hg29:g2<w9.heap.size:=by have:=(Aa W9).below.size;omega
    have hf1:¬(29:Int)<(f:Int):=by omega
    have hf2:(f:Int)<30:=by omega
    have HGT2:=Ab (fun i=>Gw (N2 No N M) B b fb _ x3 (w9.drewN i) ((UUp.refl (Aa W9).is).drewN i).is (by omega) hrl hx3p d0 x4 h10);have HGD2:=Ab (fun i=>(UUp.refl (Aa W9).is).drewN i);have HN22:Hid (N2 No N M g2):=Ab (.inr ⟨hg2,by omega⟩);go_wp2;go_region_held3 (fun w'=>w'.cell? ⟨g2,f*2,none⟩=some (.int .i64 (f0:Int))/\w'.cell? ⟨g2,f*2+1,none⟩=some (.int .i64 (fb:Int))) (first|assumption|exact⟨by assumption,by assumption⟩) (first|(go_at_call 91;refine(Aa HGT2 _).mono ?_;rintro e wA ⟨rfl,hUA⟩;have hkpA:=((Aa HGD2 _).trans hUA).kp g2 hg29 (Aa HN22);have cg1:=(World.cell?_of_block (a:=⟨g2,f*2,none⟩) hkpA).trans cf1;have cg2:=(World.cell?_of_block (a:=⟨g2,f*2+1,none⟩) hkpA).trans cf2;have WA:=Ab ((Aa W9).trans ((Aa HGD2 _).trans hUA));clear hUA hkpA))
    clear HGT2 HGD2 cf1 cf2 cg1 cg2 W9 W8 c49 HPB;obtain⟨_,_,c4A,_⟩:=(Aa WA).is.cell;rw[h11]at c4A;obtain⟨ovA,kvA,c2A,_,_,hovA,_⟩:=(Aa WA).is.rows;obtain⟨oA,ocA,rfl⟩:=As hovA;clear hovA;obtain⟨d,hd⟩:∃d,f0+d0=d:=⟨_,rfl⟩
    obtain⟨n,hn⟩:∃n,s0+n0=n:=⟨_,rfl⟩
    have hdI:(f0:Int)+(d0:Int)=(d:Int):=by omega
    have hnI:(s0:Int)+(n0:Int)=(n:Int):=by omega
    have H13':Hid (ucopy d n x4=y):=Ab (by rw[<-hd,<-hn];exact Aa H13);have hd12:d<=x4.out.length:=by rw[<-hd];exact h12
    have hd1:1<=d:=by omega
    obtain⟨LO,hLO⟩:∃LO,x4.out.length=LO:=⟨_,rfl⟩
    rw[hLO]at c2A hd12 hx4o;have hdL:¬(LO:Int)<(d:Int):=by omega
    have HLO:=Ab hLO;have hnb:n<=300:=by omega
    clear hLO H13 hd hn h12;rw[hdI,hnI];go_wp2;go_loopw [18] (fun v18 wr=>∃(j:Nat) (z:US),j<=n/\v18=.int .i64 (j:Int)/\Hid (ucopy d (n-j) z=y)/\Hid (z.out.length<=3000)/\Hid (d<=z.out.length)/\Hid (UUp (N2 No N M) B w6 b (rowB bs n2) z wr)) (fun v18 _=>n-(intOf v18).toNat)
    case atStart=>exact⟨0,x4,VK _,rfl,H13',Ab (by rw[Aa HLO];exact hx4o),Ab (by rw[Aa HLO];exact hd12),WA⟩
    case round=>
     obtain⟨j,z,hj,rfl,hcp,hzo,hdz,hZ⟩:=hrel;have hze:z.e=0:=He (by rw[Aa hcp];exact h14);obtain⟨_,_,c4z,_⟩:=(Aa hZ).is.cell;rw[hze]at c4z
     by_cases hjn:j<n
     . obtain⟨ovz,kvz,c2z,_,_,hovz,_⟩:=(Aa hZ).is.rows;obtain⟨LZ,hLZ⟩:∃LZ,z.out.length=LZ:=⟨_,rfl⟩
       have hdz2:=Aa hdz;have hzo2:=Aa hzo;rw[hLZ]at hovz hdz2 hzo2;obtain⟨gz,cz,rfl,hgz1,hgz2⟩:=Be hovz (by omega);obtain⟨r,hr⟩:∃r,LZ-d=r:=⟨_,rfl⟩
       obtain⟨ch,hch⟩:∃ch,z.out.getD r 0=ch:=⟨_,rfl⟩
       have cx:wr.cell? ⟨gz,r,none⟩=some (.int .u8 (ch:Int)):=by
        rw[hovz.cellAt r (by omega),<-hch];have:r<z.out.length:=by omega
        simp[u8s,List.getD,this]
       have hcp2:ucopy d (n-(j+1)) (Hy ch z)=y:=by
        have h20:=Aa hcp;rw[show n-j=(n-(j+1))+1 by omega,ucopy,if_pos hze,hLZ,hr,hch]at h20;exact h20
       obtain⟨_,hz3,hsay⟩:=Nq (He (by rw[hcp2];exact h14));have HCP2:=Ab hcp2;have HSAY:=Ab hsay;have HSY:=Ab (fun i=>Qg (N2 No N M) B b ch _ z (wr.drewN i) ((UUp.refl (Aa hZ).is).drewN i).is (Aa hzo) (fun g hg=>by have h21:=(Aa hZ).below.size;have h22:wr.heap.size<=g:=hg;intro e;rcases e with e|e;exact Aa HNo g (by omega) e;omega));have HSD:=Ab (fun i=>(UUp.refl (Aa hZ).is).drewN i);have hjI:(j:Int)<(n:Int):=by omega
       have hb1:(d:Int)<=(LZ:Int):=by omega
       have hb2:(0:Int)<(d:Int):=by omega
       have hb3:(LZ:Int)-(d:Int)<(LZ:Int):=by omega
       have hwz:IntKind.i64.wrap ((LZ:Int)-(d:Int))=(LZ:Int)-(d:Int):=by simp[IntKind.wrap,IntKind.signed,IntKind.bits];omega
       have htz:((LZ:Int)-(d:Int)).toNat=r:=by omega
       have HLZ:=Ab hLZ;clear hovz hcp2 hsay hch hLZ;go_wp2;go_region_with (go_at_call 93;refine(Aa HSY _).mono ?_;rintro e wB ⟨rfl,hUB⟩;have WB:=Ab ((Aa hZ).trans ((Aa HSD _).trans hUB));clear hUB)
       all_goals try go_wp2
       all_goals
        go_roundw
        case rel=>
         refine⟨j+1,Hy ch z,by omega,by go_num,HCP2,Ab ?_,Ab ?_,WB⟩
         . rw[Aa HSAY];show (z.out++ [ch]).length<=3000;rw[VB,Aa HLZ];simp only[VJ,WO];have:=Aa HLZ;omega
         . rw[Aa HSAY];show d<=(z.out++ [ch]).length;rw[VB,Aa HLZ];omega
        case measure=>simp[intOf];omega
     . have hjn2:j=n:=by omega
       subst hjn2
       have hzy:z=y:=by
        have h20:=Aa hcp;rw[XM,ucopy]at h20;exact h20
       subst hzy;have hjI:¬(j:Int)<(j:Int):=by omega
       go_wp2;go_roundw
       case rel=>
        obtain⟨b1,b2,b3,b4,b5⟩:=Aa HAH;exact⟨F,z,hrw2,Ab b1,Ab b2,Ab b3,Ab b4,hZ⟩
       case measure=>
        rw[Ef (Aa hW).is,Ef (Aa hZ).is];obtain⟨b1,b2,b3,b4,b5⟩:=Aa HAH;rw[hN]at b2;omega
theorem CH (b o len cap:Nat)(xs:List Nat)(w:World)(hl:xs.length=len)(hx:∀j,xs.getD j 0<256)(hm:len<=25000)(hb:b<w.heap.size)(hX:Bytes w b o xs):
 Calls Tryz.prog 60 #[.slice (some ⟨b,o,none⟩) len cap] w fun e w'=>e=.returned (.string (text (rowB xs len)))/\Below w.heap.size w w':=by
 have HX:=Ab hX;have HL:=Ab hl;have Hx:=Ab hx;clear hX hl hx;go_enter Tryz.func60,Tryz.ntmps60
 go_wp2;go_loopw [9] (fun i wr=>∃q:Nat,q<=len/\i=.int .i64 q/\IsB wr w.heap.size (Lib.byteCells ((rowB xs q).map chr))/\Below w.heap.size w wr) (fun i _=>len-(intOf i).toNat)
 case atStart=>exact⟨0,VK _,rfl,IsB.new w,(Below.refl _ _).alloc (VC _) _⟩
 case round=>
  obtain⟨q,hq,rfl,hI,hB⟩:=hrel;have HI:=Ab hI;have HB:=Ab hB;have hzr:=hB.size
  by_cases hlt:q<len
  . have c:=(hB.cell (p:=⟨b,o+q,none⟩) hb).trans (Aa HX q (by rw[Aa HL];exact hlt));have hx1:=Aa Hx q;have H2:Hid (rowB xs (q+1)=rowB xs q++Ah (xs.getD q 0) 8):=rfl;have HLN:=Ab (Ai xs q);generalize xs.getD q 0=x at*;clear hI hB;go_wp2;go_loopw [13] (fun i wq=>∃k:Nat,k<=8/\i=.int .i64 k/\IsB wq w.heap.size (Lib.byteCells ((rowB xs q++Ah x k).map chr))/\Below w.heap.size w wq) (fun i _=>8-(intOf i).toNat)
    case atStart=>exact⟨0,VK _,rfl,by simpa[Ah]using Aa HI,Aa HB⟩
    case round=>
     obtain⟨k,hk,rfl,hI,hB⟩:=hrel;have HI2:=Ab hI;have HB2:=Ab hB;clear hI hB
     by_cases hlt2:k<8
     . have hbl:(Lib.byteCells ((rowB xs q++Ah x k).map chr)).length<=1000000:=by
        rw[Lib.byteCells_length,WG,VB,Aa HLN,Ae];omega
       have H3:Hid (Ah x (k+1)=Ah x k++ [x.testBit k]):=rfl;go_wp2_with fail
       refine(Vg _ _ _ _ (Aa HI2) hbl).mono ?_;rintro e w3 ⟨rfl,hI3,hB3⟩;have HI3:=Ab hI3;have HB3:=Ab ((Aa HB2).trans hB3);clear hI3 hB3;go_wp2;go_roundw
       case rel=>exact⟨k+1,by omega,by go_num,by rw[Aa H3,<-VH,<-FD _ _ _ (Z2f x k hx1)];exact Aa HI3,Aa HB3⟩
       case measure=>simp[intOf];omega
     . obtain rfl:k=8:=by omega
       go_wp2;go_roundw
       case rel=>exact⟨q+1,by omega,by go_num,by rw[Aa H2];exact Aa HI2,Aa HB2⟩
       case measure=>simp[intOf];omega
  . obtain rfl:q=len:=by omega
    clear hI hB;go_wp2_with fail
    refine(Tx _ _ _ (Aa HI) hzr).mono ?_;rintro e w5 ⟨rfl,hB5⟩;have HB5:=Ab ((Aa HB).trans hB5);clear hB5;go_wp2;go_ret;exact⟨rfl,Aa HB5⟩
theorem IE (a:Option Addr)(len cap:Nat)(xs:List Nat)(w:World)(hl:xs.length=len)(hx:∀j,xs.getD j 0<256)(hm:len<=25000)(hX:BytesIn w a xs):
 Calls Tryz.prog 60 #[.slice a len cap] w fun e w'=>e=.returned (.string (text (rowB xs len)))/\Below w.heap.size w w':=by
 rcases hX with rfl|⟨b,o,rfl,hb,hX⟩
 . obtain rfl:len=0:=by simp at hl;omega
   exact CI a cap w
 . exact CH b o len cap xs w hl hx hm hb hX
theorem SL (No:Nat->Prop)(B b n2:Nat)(bs:List Nat)(u:US)(w:World)(h:UIs No B w b (rowB bs n2) u)(hl:bs.length=n2)(hn2:n2<=25000)(hp:u.p<=8*n2)(ho:u.out.length<=3000)(hks:u.ks.length<=200000)(hNo:∀g,w.heap.size<=g->¬No g)(t:Bool)(v:US)(hB:Blk1R (rowB bs n2) u t v):
 Calls Tryz.prog 61 #[.pointer (some ⟨b,0,none⟩)] w fun e w'=>e=.returned (.bool t)/\UUp No B w b (rowB bs n2) v w':=by
 cases hB with
 |stored l x1 x2 h1 h2 h3 h4=>exact F9 No B b n2 bs u w h hn2 hp ho hks hNo l x1 x2 h1 h2 h3 h4
 |coded l k x1 x2 x3 LA LB h1 h2 h3 h4 h5 h6 h7=>
  rcases h4 with h4|h4
  . subst h4;unfold uopen at h5;rw[if_pos rfl]at h5;have e1:=(XA h5).1;have e2:=(XA h5).2;exact R5 No B b n2 bs u w h hl hn2 hp ho hks hNo l x1 x2 x3 h1 h2 h3 LA LB ⟨(XA e1).1,(XA e1).2,e2⟩ h6 _ rfl h7
  . subst h4;unfold uopen at h5;rw[if_neg (by decide),if_pos rfl]at h5;exact Xf No B b n2 bs u w h hl hn2 hp ho hks hNo l x1 x2 x3 h1 h2 h3 LA LB h5 h6 _ rfl h7
theorem UIs.fresh (No:Nat->Prop)(B:Nat)(w:World)(row:List Bool)(hB:B<=w.heap.size)(hn:¬No w.heap.size):
 UIs No B (w.alloc (.cells #[.string (text row),.int .i64 0,.slice none 0 0,.slice none 0 0,.int .i64 0] 110)) w.heap.size row ⟨0,[],[],0⟩:=
 ⟨hB,hn,.slice none 0 0,.slice none 0 0,heap_alloc_new _ _,World.ownsRow_nil _ _ _ _,World.ownsRow_nil _ _ _ _,.inl rfl,(fun g e=>by cases e),(fun g e=>by cases e)⟩
theorem J7 (a:Option Addr)(n2 cap:Nat)(bs:List Nat)(w:World)(hl:bs.length=n2)(hn2:n2<=25000)(hby:BytesIn w a bs)(hv:∀j,bs.getD j 0<256)(U:US)(hU:Mp (rowB bs n2)=U)(he:U.e=0)(hk:U.ks.length<=200000):
 Calls Tryz.prog 39 #[.slice a n2 cap] w fun e w'=>∃ov kv,e=.returned (.tuple #[ov,.int .i64 (((U.p+7)/8:Nat):Int),kv,.int .i64 0])/\w'.ownsRow w.heap.size 5 1 ov U.out.length (u8s U.out)/\w'.ownsRow w.heap.size 3 1 kv U.ks.length (i64s U.ks)/\Below w.heap.size w w':=by
 have HRO:=Ab (IE a n2 cap bs w hl hv hn2 hby);have hN:=Ai bs n2;have HU:Hid (Ci (rowB bs n2) ((rowB bs n2).length+1) ⟨0,[],[],0⟩=U):=Ab hU;clear hby hv hU;go_enter Tryz.func39,Tryz.ntmps39
 go_wp2_with fail
 refine(Aa HRO).mono ?_;rintro e w1 ⟨rfl,hB1⟩;have HB1:=Ab hB1;have hz1:=hB1.size;clear hB1;have I2:Hid (UIs (fun g=>g<w.heap.size) w.heap.size (w1.alloc (.cells #[.string (text (rowB bs n2)),.int .i64 0,.slice none 0 0,.slice none 0 0,.int .i64 0] 110)) w1.heap.size (rowB bs n2) ⟨0,[],[],0⟩):=Ab (UIs.fresh _ _ w1 _ hz1 (by omega));have B2:=Ab ((Aa HB1).alloc hz1 (.cells #[.string (text (rowB bs n2)),.int .i64 0,.slice none 0 0,.slice none 0 0,.int .i64 0] 110));generalize text (rowB bs n2)=TX at*;go_wp2;obtain⟨W2,hW2⟩:∃W2,w1.alloc (.cells #[.string TX,.int .i64 0,.slice none 0 0,.slice none 0 0,.int .i64 0] 110)=W2:=⟨_,rfl⟩
 obtain⟨b,hb⟩:∃b,w1.heap.size=b:=⟨_,rfl⟩
 rw[hW2]at I2 B2 ⊢;rw[hb]at I2 ⊢;have hbw:w.heap.size<=b:=by omega
 have hz2:=(Aa B2).size;clear hW2 HRO;go_loopw [12] (fun _ wr=>∃(F:Nat) (x:US),Hid (Ci (rowB bs n2) F x=U)/\Hid ((rowB bs n2).length<x.p+F)/\Hid (x.p<=(rowB bs n2).length)/\Hid (x.out.length<=3000)/\Hid (UUp (fun g=>g<w.heap.size) w.heap.size W2 b (rowB bs n2) x wr)) (fun _ wr=>KA n2 b wr)
 case atStart=>exact⟨(rowB bs n2).length+1,⟨0,[],[],0⟩,HU,Ab (by simp only;omega),Ab (VK _),Ab (VK _),Ab (UUp.refl (Aa I2))⟩
 case round=>
  obtain⟨F,x,hT,hF,hpx,hox,hW⟩:=hrel
  cases F with
  |zero=>exact absurd (Aa hF) (by have:=Aa hpx;omega)
  |succ F=>
   obtain⟨t,y,hBk,hrw⟩:=Hf (row:=rowB bs n2) (F:=F) (u:=x) (by rw[Aa hT];exact he);obtain⟨a1,a2,a3,a4,a5⟩:=hBk.ahead
   have hxk:x.ks.length<=200000:=by
    have h1:=To (row:=rowB bs n2) (F:=F+1) (u:=x) (by rw[Aa hT];exact he);rw[Aa hT]at h1;omega
   rw[Aa hT]at hrw;have HBK:=Ab (SL (fun g=>g<w.heap.size) w.heap.size b n2 bs x wr (Aa hW).is hl hn2 (by have:=Aa hpx;omega) (Aa hox) hxk (fun g hg=>by have:=(Aa hW).below.size;omega) t y hBk);have HAH:Hid ((rowB bs n2).length<y.p+F/\y.p<=(rowB bs n2).length/\y.out.length<=3000/\x.p<y.p):=Ab ⟨by have:=Aa hF;omega,a2,a5 (Aa hox),by omega⟩;have hye:=a3;have HRW:=Ab hrw.symm;clear a1 a2 a3 a4 a5 hT hF hpx hrw hBk
   cases t with
   |false=>
    go_wp2_with fail
    refine(Aa HBK).mono ?_;rintro e w3 ⟨rfl,hU3⟩;have W3:=Ab ((Aa hW).trans hU3);clear hU3;obtain⟨_,_,c43,_⟩:=(Aa W3).is.cell;rw[hye]at c43;go_wp2;go_roundw
    case rel=>
     obtain⟨b1,b2,b3,b4⟩:=Aa HAH;exact⟨F,y,Ab (by have:=Aa HRW;simpa using this),Ab b1,Ab b2,Ab b3,W3⟩
    case measure=>
     rw[Ef (Aa hW).is,Ef (Aa W3).is];obtain⟨b1,b2,b3,b4⟩:=Aa HAH;rw[hN]at b2;omega
   |true=>
    have hyU:y=U:=by have:=Aa HRW;simpa using this
    subst hyU;clear HRW;go_wp2_with fail
    refine(Aa HBK).mono ?_;rintro e w3 ⟨rfl,hU3⟩;have W3:=Ab ((Aa hW).trans hU3);clear hU3 HBK;obtain⟨_,c13,c43,_⟩:=(Aa W3).is.cell;rw[hye]at c43;obtain⟨ov,kv,c23,c33,_,hov,hkv,_⟩:=(Aa W3).is.rows;have HOV:=Ab (Lj hov (B':=w.heap.size) (by omega));have HKV:=Ab (Lj hkv (B':=w.heap.size) (by omega));have HB3:=Ab ((Aa B2).trans (Aa W3).below);have hpb:y.p<=200000:=by have:=(Aa HAH).2.1;omega
    obtain⟨oa,oc,rfl⟩:=As hov;obtain⟨ka,kc,rfl⟩:=As hkv;have hp7:Hid (((y.p:Int)+7)/8=(((y.p+7)/8:Nat):Int)):=Ab (by omega);clear hov hkv HAH;go_wp2;go_region
    all_goals go_wp2
    refine bodyPost_ret (v:=.tuple #[.slice oa y.out.length oc,.int .i64 (((y.p:Int)+7)/8),.slice ka y.ks.length kc,.int .i64 0]) ?_ rfl ⟨_,_,by rw[Aa hp7],(Aa HOV).drew,(Aa HKV).drew,(Aa HB3).drew⟩
    first|rfl|kernel_rfl
end Go.Proofs.YtleocpdblhbimaaGreatDoor
namespace Go.Proofs.YtleocpdblhbimaaGreatDoor
open Go.RowKit
set_option linter.unusedVariables false
def Z5h (w:World)(bs:List Nat)(n:Nat)(e:Ending)(w':World):Prop:=
 Below w.heap.size w w'/\(((Db (rowB bs n)).e=0/\∃ov kv,e=.returned (.tuple #[ov,.int .i64 ((((Db (rowB bs n)).p+7)/8:Nat):Int),kv,.int .i64 0])/\w'.ownsRow (w.heap.size+1) 5 1 ov (Db (rowB bs n)).out.length (u8s (Db (rowB bs n)).out)/\w'.ownsRow (w.heap.size+1) 3 1 kv (Db (rowB bs n)).ks.length (i64s (Db (rowB bs n)).ks))\/ ((Db (rowB bs n)).e≠0/\e=.returned (.tuple #[.slice none 0 0,.int .i64 0,.slice none 0 0,.int .i64 (Db (rowB bs n)).e])))
def Z2z:Prop:=
 (∀(a:Option Addr) (n cap:Nat) (bs:List Nat) (w:World),bs.length=n->n<=6000->BytesIn w a bs->(∀j,bs.getD j 0<256)->Calls Tryz.prog 166 #[.slice a n cap] w fun e w'=>Z5h w bs n e w')/\
 (∀(a:Option Addr) (n cap:Nat) (w:World),6000<n->n<=9223372036854775807->Calls Tryz.prog 166 #[.slice a n cap] w fun e w'=>e=.returned (.tuple #[.slice none 0 0,.int .i64 0,.slice none 0 0,.int .i64 2])/\w'=w)
end Go.Proofs.YtleocpdblhbimaaGreatDoor
namespace Go.Proofs.YtleocpdblhbimaaGreatDoor
open Go.RowKit
set_option linter.unusedVariables false
set_option maxRecDepth 100000
theorem EOf.ok {x:En}(h:EOf x)(hv:Ks x.f=0):EOk x:=by
 obtain⟨hn,hp⟩:=h.num hv;have h2:=(Hu hv).2.1;refine⟨⟨hn.st.1,by have:=hn.st.2;omega⟩,⟨hn.nd.1,by have:=hn.nd.2;omega⟩,by have:=hn.nm;omega,by have:=hn.pl;omega,hn.cr,hn.mt, ?_⟩;obtain⟨out,ho,(⟨q1,q2,q3⟩|⟨q1,q2,q3⟩)⟩:=h.pk
 . have hu:=QE ho (Z2r _) (Cv (Ir _)) (by rw[Cd];exact h2) [] 0;rw[WZ,XL]at hu;unfold unpF;rw[q2,q3,if_neg (by decide),if_pos rfl,if_pos ⟨by omega,hu.2.1,hu.2.2⟩,hu.1]
 . unfold unpF;rw[q2,q3,if_pos rfl]
theorem Ti (l:List En)(hE:Nh (l.map En.f)=0)(ho:∀x∈l,EOf x)(hn:(Ba l).length<=12000):
 (∀x∈l,EOk x)/\Id (Ba l)=0/\Hk (Ba l)=l.map En.f:=by
 have hv:∀x∈l,Ks x.f=0:=fun x hx=>(Jv hE).2 x.f (XJ hx)
 have hk:∀x∈l,EOk x:=fun x hx=>(ho x hx).ok (hv x hx)
 refine⟨hk,IK l hk hE ?_ hn⟩;unfold Qb;rw[WT];intro x hx;exact decide_eq_true (ho x hx).cr
theorem SM:∀(l:List En),(Ba l).length=22+(Ar l).length+(Am 0 l).length:=fun l=>by
 unfold Ba;rw[VB,VB,Mg];omega
def Z37:Go.Shelf.Ren:=⟨fun|160=>59|232=>83|231=>82|227=>84|234=>86|233=>85|236=>88|235=>87|228=>116|271=>119|151=>118|197=>117|120=>157|152=>156|260=>155|137=>191|119=>192|224=>189|225=>188|217=>187|266=>214|n=>n,fun|9=>9|4=>4|3=>3|5=>5|117=>143|116=>142|0=>0|124=>146|21=>21|105=>183|46=>66|119=>261|139=>264|138=>263|n=>n,fun|3=>1|4=>2|n=>n⟩
theorem Z0g:Go.Proofs.Lays.n160 Tryz.prog Z37:= {
 mixed:=by kernel_rfl
 f119:=Tryz.func192.trans (congrArg some (by kernel_rfl))
 f120:=Tryz.func157.trans (congrArg some (by kernel_rfl))
 f137:=Tryz.func191.trans (congrArg some (by kernel_rfl))
 f151:=Tryz.func118.trans (congrArg some (by kernel_rfl))
 f152:=Tryz.func156.trans (congrArg some (by kernel_rfl))
 f160:=Tryz.func59.trans (congrArg some (by kernel_rfl))
 f197:=Tryz.func117.trans (congrArg some (by kernel_rfl))
 f217:=Tryz.func187.trans (congrArg some (by kernel_rfl))
 f224:=Tryz.func189.trans (congrArg some (by kernel_rfl))
 f225:=Tryz.func188.trans (congrArg some (by kernel_rfl))
 f227:=Tryz.func84.trans (congrArg some (by kernel_rfl))
 f228:=Tryz.func116.trans (congrArg some (by kernel_rfl))
 f231:=Tryz.func82.trans (congrArg some (by kernel_rfl))
 f232:=Tryz.func83.trans (congrArg some (by kernel_rfl))
 f233:=Tryz.func85.trans (congrArg some (by kernel_rfl))
 f234:=Tryz.func86.trans (congrArg some (by kernel_rfl))
 f235:=Tryz.func87.trans (congrArg some (by kernel_rfl))
 f236:=Tryz.func88.trans (congrArg some (by kernel_rfl))
 f260:=Tryz.func155.trans (congrArg some (by kernel_rfl))
 f266:=Tryz.func214.trans (congrArg some (by kernel_rfl))
 f271:=Tryz.func119.trans (congrArg some (by kernel_rfl))
 t0:=Tryz.underlying0
 a0:=Tryz.isAgg0
 z0:=Tryz.sizeOf0
 v0:=Tryz.zeroValue0
 t3:=Tryz.underlying3
 a3:=Tryz.isAgg3
 z3:=Tryz.sizeOf3
 v3:=Tryz.zeroValue3
 t4:=Tryz.underlying4
 a4:=Tryz.isAgg4
 z4:=Tryz.sizeOf4
 v4:=Tryz.zeroValue4
 t5:=Tryz.underlying5
 a5:=Tryz.isAgg5
 z5:=Tryz.sizeOf5
 v5:=Tryz.zeroValue5
 t9:=Tryz.underlying9
 a9:=Tryz.isAgg9
 z9:=Tryz.sizeOf9
 v9:=Tryz.zeroValue9
 t21:=Tryz.underlying21
 a21:=Tryz.isAgg21
 z21:=Tryz.sizeOf21
 v21:=Tryz.zeroValue21
 t46:=Tryz.underlying66
 a46:=Tryz.isAgg66
 z46:=Tryz.sizeOf66
 v46:=Tryz.zeroValue66
 t105:=Tryz.underlying183
 a105:=Tryz.isAgg183
 z105:=Tryz.sizeOf183
 v105:=Tryz.zeroValue183
 t116:=Tryz.underlying142
 a116:=Tryz.isAgg142
 z116:=Tryz.sizeOf142
 t117:=Tryz.underlying143
 a117:=Tryz.isAgg143
 z117:=Tryz.sizeOf143
 v117:=Tryz.zeroValue143
 t119:=Tryz.underlying261
 a119:=Tryz.isAgg261
 z119:=Tryz.sizeOf261
 t124:=Tryz.underlying146
 a124:=Tryz.isAgg146
 z124:=Tryz.sizeOf146
 v124:=Tryz.zeroValue146
 t138:=Tryz.underlying263
 a138:=Tryz.isAgg263
 z138:=Tryz.sizeOf263
 v138:=Tryz.zeroValue263
 t139:=Tryz.underlying264
 a139:=Tryz.isAgg264
 z139:=Tryz.sizeOf264
 v139:=Tryz.zeroValue264
 g3:=by kernel_rfl
 g4:=by kernel_rfl}
theorem GE:(Tryz.prog.info? 142).map (fun i=>(i.zero,i.size))=some (some (.agg (Array.replicate 256 (.bool false))),256):=by kernel_rfl
theorem trimS (p:List UInt8)(w:World)(hp:p.length<=maxLen):
 Calls Tryz.prog 59 #[.string (B p),.string (B Gx)] w fun e w'=>e=.returned (.string (B (Lib.trimS p Gx)))/\Below w.heap.size w w':=
 Any.strings_Trim_laid Z0g GE (B p) (B Gx) w (by rw[Ha];exact hp) (by decide) (ascii_of_all (l:=Gx) (by decide))
theorem QH {p:List UInt8}(h0:p≠ [])(h1:p≠ [46])(h2:p≠ [46,46]):okP p=true↔Lib.trimS p Gx= []:=by
 rw[OS];simp[okP,h0,h1,h2]
theorem CQ (s:List UInt8)(w:World)(hs:s.length<=maxLen):
 Calls Tryz.prog 37 #[.string (B s)] w fun e w'=>∃v,e=.returned (.tuple #[v,.int .i64 (Jz s:Nat)])/\SRow w' w.heap.size v (Z13 s)/\Below w.heap.size w w'/\(Jz s≠0->v=.slice none 0 0):=by
 have hsz:=Ha s;unfold maxLen at hs
 by_cases h40:40<s.length
 . have HE:=Ab (D6 h40);have h40':40<(B s).size:=by rw[hsz];omega
   have hms:(B s).size<=9223372036854775807:=by rw[hsz];omega
   clear hsz h40 hs;generalize B s=t at*;go_enter Tryz.func37,Tryz.ntmps37
   go_wp2;go_ret2;rw[Ov (by rw[Aa HE];decide),Aa HE];exact⟨_,rfl,SRow.nil _ _,Below.refl _ _,fun _=>rfl⟩
 . have hsp:=Yu (B s) w (by rw[hsz];omega);rw[MG]at hsp;have h40':(B s).size<=40:=by rw[hsz];omega
   have h41:=X0 (s:=s) (by omega);have HR:=Ab (SRow.new w (spl s) (by unfold maxLen;omega));have HE:=Ab (fun p hp hb=>AQ (s:=s) (p:=p) (by omega) hp hb);have HO:=Ab (LV (l:=s) (by omega));have hmem:∀p∈spl s,p.length<=s.length:=TA s;obtain⟨L,hL⟩:∃L,(spl s).length=L:=⟨_,rfl⟩
   rw[hL]at hsp HR h41;have HL:=Ab hL
   have HC:Hid (∀j (hj:j<(spl s).length) (W:World),Below (w.heap.size+1) (w.alloc (.cells (So (spl s)).toArray 9)) W->W.cell? ⟨w.heap.size,j,none⟩=some (.string (B ((spl s)[j]'hj)))):=by
    intro j hj W hW;rw[hW.cell (p:=⟨w.heap.size,j,none⟩) (Nat.lt_succ_self _),World.cell?_alloc_at _ _ _ _ rfl];simp[So,hj]
   have hs40:s.length<=40:=by omega
   clear hL hsz h40 hs;generalize B s=t at*;go_enter Tryz.func37,Tryz.ntmps37
   go_wp2_with (go_at_call 58;refine hsp.mono ?_;rintro e w' ⟨rfl,hw⟩;rw[hw])
   clear hsp;go_loopw [6,14] (fun _ i wr=>∃k:Nat,k<=L/\i=.int .i64 k/\Hid (∀j (hj:j<(spl s).length),j<k->okP ((spl s)[j]'hj)=true)/\Hid (Below (w.heap.size+1) (w.alloc (.cells (So (spl s)).toArray 9)) wr)) (fun _ i _=>L-(intOf i).toNat)
   case atStart=>exact⟨0,VK _,rfl,fun j _ hj=>absurd hj (by omega),Below.refl _ _⟩
   case round=>
    obtain⟨k,hk,rfl,HN,HB⟩:=hrel
    by_cases hlt:k<L
    . have hlt':k<(spl s).length:=by rw[Aa HL];exact hlt
      have hcell:=(Aa HC) k hlt' wr (Aa HB);have hz:=(Aa HB).size;have hlen:=hmem _ (WK hlt');have HM:=Ab (WK hlt');have HQ:=Ab (fun h=>(Aa HE) _ (Aa HM) h)
      have HN2:Hid (okP ((spl s)[k]'hlt')=true->∀j (hj:j<(spl s).length),j<k+1->okP ((spl s)[j]'hj)=true):=by
       intro h j hj hjk
       by_cases e:j=k
       . subst e;exact h
       . exact(Aa HN) j hj (by omega)
      generalize (spl s)[k]'hlt'=q at*;have hz2:w.heap.size+1<=wr.heap.size:=by simp at hz;omega
      clear HM
      have BAD:∀W,Hid (Below (w.heap.size+1) (w.alloc (.cells (So (spl s)).toArray 9)) W)->Hid (okP q=false)->Hid (SRow W w.heap.size (.slice none 0 0) (Z13 s)/\Jz s=1/\Below w.heap.size w W):=by
       intro W h1 h2;have he:=(Aa HQ) (Aa h2)
       refine⟨?_,he,(Mn w _).trans ((Aa h1).mono (Nat.le_succ _))⟩;rw[Ov (by rw[he];decide)];exact SRow.nil _ _
      by_cases h0:q= []
      . subst h0;have hcell2:wr.cell? ⟨w.heap.size,k,none⟩=some (.string ⟨#[]⟩):=hcell;have HX:=BAD wr HB rfl;clear hcell BAD;go_wp2;go_ret2;obtain⟨x1,x2,x3⟩:=Aa HX;rw[x2];exact⟨_,rfl,x1,x3,fun _=>rfl⟩
      by_cases h1:q= [46]
      . subst h1;have hcell2:wr.cell? ⟨w.heap.size,k,none⟩=some (.string ⟨#[46]⟩):=hcell;have HX:=BAD wr HB rfl;clear hcell BAD;go_wp2;go_ret2;obtain⟨x1,x2,x3⟩:=Aa HX;rw[x2];exact⟨_,rfl,x1,x3,fun _=>rfl⟩
      by_cases h2:q= [46,46]
      . subst h2;have hcell2:wr.cell? ⟨w.heap.size,k,none⟩=some (.string ⟨#[46,46]⟩):=hcell;have HX:=BAD wr HB rfl;clear hcell BAD;go_wp2;go_ret2;obtain⟨x1,x2,x3⟩:=Aa HX;rw[x2];exact⟨_,rfl,x1,x3,fun _=>rfl⟩
      have HOK:=Ab (QH h0 h1 h2);have e0:=Vr (B q) h0;have e1:=W6 (B q) [46] h1;have e2:=W6 (B q) [46,46] h2;have cT:=trimS q wr (by unfold maxLen;omega);clear h0 h1 h2;generalize B q=qb at*
      by_cases ht:Lib.trimS q Gx= []
      . have HO2:=Ab ((Aa HOK).2 ht);have hB:B (Lib.trimS q Gx)=⟨#[]⟩:=by rw[ht];rfl
        rw[hB]at cT;clear ht hB HOK BAD;go_wp2_with (go_at_call 59;refine cT.mono ?_;rintro e w1 ⟨rfl,hb1⟩;have HB1:=Ab ((Aa HB).trans (hb1.mono hz2));clear hb1)
        go_roundw
        case rel=>exact⟨k+1,by omega,by go_num,(Aa HN2) (Aa HO2),Aa HB1⟩
        case measure=>simp[intOf];omega
      . have HO2:Hid (okP q=false):=by
         cases ho:okP q with
         |false=>rfl
         |true=>exact absurd ((Aa HOK).1 ho) ht
        have et:=Vr (B (Lib.trimS q Gx)) ht;clear ht HOK;generalize B (Lib.trimS q Gx)=tb at*;have HBAD:=Ab BAD;clear BAD;go_wp2_with (go_at_call 59;refine cT.mono ?_;rintro e w1 ⟨rfl,hb1⟩;have HB1:=Ab ((Aa HB).trans (hb1.mono hz2));clear hb1)
        go_ret2;obtain⟨x1,x2,x3⟩:=Aa ((Aa HBAD) w1 HB1 HO2);rw[x2];exact⟨_,rfl,x1,x3,fun _=>rfl⟩
    . obtain rfl:k=L:=by omega
      have HZ:Hid (Jz s=0):=(Aa HO) (by
       rw[WT];intro p hp;obtain⟨j,hj,rfl⟩:=List.mem_iff_getElem.1 hp;exact(Aa HN) j hj (by rw[Aa HL]at hj;exact hj))
      go_wp2;go_ret2;rw[IO (Aa HZ),Aa HZ];refine⟨_,rfl, ?_,(Mn w _).trans ((Aa HB).mono (Nat.le_succ _)),fun h=>absurd rfl h⟩;exact(Aa HR).below (by simpa using Aa HB)
end Go.Proofs.YtleocpdblhbimaaGreatDoor
