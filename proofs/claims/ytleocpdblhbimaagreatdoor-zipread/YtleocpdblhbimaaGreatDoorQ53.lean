import Derived.Test.YtleocpdblhbimaaGreatDoorQ52
import Derived.Deep.RegionHeld3
import Derived.Test.YtleocpdblhbimaaGreatDoorQ11
set_option linter.unusedSimpArgs false
set_option maxHeartbeats 8000000
namespace Go.Proofs.YtleocpdblhbimaaGreatDoor
open Go.RowKit
set_option linter.unusedVariables false
set_option maxRecDepth 100000
theorem O4 (No:Nat->Prop)(B b n2:Nat)(bs:List Nat)(u:US)(w:World)(h:UIs No B w b (rowB bs n2) u)(hl:bs.length=n2)(hn2:n2<=25000)(hp:u.p<=8*n2)(ho:u.out.length<=3000)(hks:u.ks.length<=200000)(hNo:∀g,w.heap.size<=g->¬No g)(l k:Nat)(x1 x2 x3:US)(hg1:uget (rowB bs n2) 1 u=(l,x1))(hg2:uget (rowB bs n2) 2 x1=(k,x2))(he2:x2.e=0)(hk:k=1\/k=2)(LA LB:List Int)(hop:uopen (rowB bs n2) k x2=((LA,LB),x3))(V:US)(hut:utok (rowB bs n2) LA LB (rowB bs n2).length x3=V)(RR:Bool×US)(hRR:(if x3.e≠0 then (true,x3)else (decide (l=1),ukept k V))=RR):
 Calls Tryz.prog 61 #[.pointer (some ⟨b,0,none⟩)] w fun e w'=>BkA No B w b (rowB bs n2) RR e w':=by
 have HRR:=Ab hRR;clear hRR;obtain⟨i0,hi,hz0,hz1,hz2⟩:=info_parts Bv;have hN:=Af bs n2;have hrl:(rowB bs n2).length<=200000:=by omega
 have hp0:u.p<=(rowB bs n2).length:=by omega
 obtain⟨q2,q2l,q2o,q2k,q2e⟩:=Bn hg2 he2;obtain⟨q1,q1l,q1o,q1k,_⟩:=Bn hg1 q2e
 have hgood:x3.e=0->Good LA/\Good LB/\x3.p<=(rowB bs n2).length/\1<=x3.p/\x3.out.length<=3000/\x3.ks=u.ks:=fun he3=>by
  rcases hk with rfl|rfl
  . unfold uopen at hop;rw[if_pos rfl]at hop;obtain⟨hh,rfl⟩:=VN hop;obtain⟨rfl,rfl⟩:=VN hh;exact⟨PO,PN,q2l,by omega,by rw[q2o,q1o];exact ho,q2k.trans q1k⟩
  . unfold uopen at hop;rw[if_neg (by decide),if_pos rfl]at hop;obtain⟨m0,n0,c0,v1,v2,v3,us,S0,L0,hTD⟩:=Hd hop he3;obtain⟨t1,t2,t3,t4⟩:=Pu hTD q2l;exact⟨Ch (by rw[hTD.ea];exact hTD.ca),Ch (by rw[hTD.ec];exact hTD.cc),t2,by omega,by rw[t3,q2o,q1o];exact ho,t4.trans (q2k.trans q1k)⟩
 have H:=Ab h;have HNo:=Ab hNo;have HG1:=Ab hg1;have HG2:=Ab hg2;have HGD:=Ab hgood;have HOP:=Ab hop;have HUT:=Ab hut;have HKS:=Ab hks;have hp1:=q1l;have hx2p:x2.p<=8*n2:=by omega
 clear h hNo hg1 hg2 hgood hop hut q1 q2 q2k q1k q2o q1o hks;go_enter Tryz.func61,Tryz.ntmps61
 go_wp2_with fail
 refine(Hm No B b 1 _ u w (Aa H) (by omega) hrl hp0 l x1 (Aa HG1)).mono ?_;rintro e w1 ⟨rfl,hU1⟩;have U1:=Ab hU1;clear hU1;go_wp2_with fail
 refine(Hm No B b 2 _ x1 w1 (Aa U1).is (by omega) hrl hp1 k x2 (Aa HG2)).mono ?_;rintro e w2 ⟨rfl,hU2⟩;have U2:=Ab ((Aa U1).trans hU2);clear hU2 U1;obtain⟨_,_,c42,_⟩:=(Aa U2).is.cell;rw[he2]at c42;clear HG1 HG2 H;go_upto_block 0 with fail
 go_cut [3,4,5,6] (fun v3 v4 v5 v6 wc=>∃aA nA cA aB nB cB,v3=.int .i64 (l:Int)/\v4=.int .i64 (k:Int)/\v5=.slice aA nA cA/\v6=.slice aB nB cB/\Hid (UUp No B w b (rowB bs n2) x3 wc)/\Hid (x3.e=0->LA.length=nA/\LB.length=nB/\RowIn .i64 wc aA LA/\RowIn .i64 wc aB LB))
 case first=>
  rcases hk with rfl|rfl
  . have hop:=Aa HOP;unfold uopen at hop;rw[if_pos rfl]at hop;obtain⟨hh,hx⟩:=VN hop;obtain⟨hA,hB⟩:=VN hh;have HX:=Ab hx;have HA:=Ab hA;have HB:=Ab hB;clear hop hh hx hA hB HOP HGD HUT;go_wp2_with fail
    refine(PI w2).mono ?_;rintro e w3 ⟨gA,cA,gB,rfl,hgA,hgB,hRA,hRB,hB3⟩;have U3:Hid (UUp No B w b (rowB bs n2) x3 w3):=Ab (by rw[<-Aa HX];exact(Aa U2).trans (((UUp.refl (Aa U2).is.opened).newer (VB _) hB3).closed));have HR:Hid (x3.e=0->LA.length=288/\LB.length=32/\RowIn .i64 w3 (some ⟨gA,0,none⟩) LA/\RowIn .i64 w3 (some ⟨gB,0,none⟩) LB):=Ab (fun _=>by rw[<-Aa HA,<-Aa HB];exact⟨rfl,rfl,hRA,hRB⟩);clear hRA hRB hB3 HX HA HB;go_wp2;go_meet
    exact⟨_,_,_,_,_,_,rfl,rfl,rfl,rfl,U3,HR⟩
  . have hop:=Aa HOP;unfold uopen at hop;rw[if_neg (by decide),if_pos rfl]at hop;have HTL:=Ab (TJ No B b n2 bs x2 w2 (Aa U2).is hl hn2 hx2p _ hop);clear hop HOP HGD HUT;go_wp2_with fail
    refine(Aa HTL).mono ?_;rintro e w3 ⟨hU3,hRR⟩;have U3:=Ab ((Aa U2).trans hU3);clear hU3 HTL
    rcases hRR with ⟨hne,rfl⟩|⟨a1,c1,a2,c2,hze,rfl,hR1,hR2⟩
    . have HR:Hid (x3.e=0->LA.length=0/\LB.length=0/\RowIn .i64 w3 none LA/\RowIn .i64 w3 none LB):=Ab (fun h0=>absurd h0 hne);clear hne;go_wp2;go_meet
      exact⟨_,_,_,_,_,_,rfl,rfl,rfl,rfl,U3,HR⟩
    . have HR:=Ab (And.intro hR1 hR2);clear hze hR1 hR2;go_wp2;go_meet
      exact⟨_,_,_,_,_,_,rfl,rfl,rfl,rfl,U3,Ab (fun _=>⟨rfl,rfl,(Aa HR).1,(Aa HR).2⟩)⟩
 case rest=>
 rename World=>w3
 obtain⟨aA,nA,cA,aB,nB,cB,rfl,rfl,rfl,rfl,U3,HR⟩:=hcut;obtain⟨_,_,c43,_⟩:=(Aa U3).is.cell;clear U2 c42 HOP hx2p
 by_cases he3:x3.e≠0
 . have hne:(x3.e !=0)=true:=by simp only[bne_iff_ne,ne_eq];exact he3
   have HF:Hid (BkA No B w b (rowB bs n2) RR (.returned (.bool true)) w3):=Ab (by rw[<-Aa HRR,if_pos he3];exact⟨rfl,Aa U3⟩);clear he3 HGD HR HUT HRR;generalize x3.e=ue at*;go_wp2;go_ret;exact Aa HF
 have he0:x3.e=0:=by omega
 have HRV:Hid ((decide (l=1),ukept k V)=RR):=Ab (by rw[<-Aa HRR,if_neg he3]);obtain⟨hlA,hlB,hRA,hRB⟩:=Aa HR he0;obtain⟨hGA,hGB,hx3l,hx3g,hx3o,hx3k⟩:=Aa HGD he0;have RA:=Ab hRA;have RB:=Ab hRB;have HGA:=Ab hGA;have HGB:=Ab hGB;rw[he0]at c43;clear he3 HR HGD hRA hRB hGA hGB HRR;go_wp2_with fail
 refine(LS w3).mono ?_;rintro e w4 ⟨g1,s1,g2,s2,rfl,hg1,hg2,hP1,hP2,hB4,hg1b,hg2b⟩;have hz34:=hB4.size;have HP1:=Ab hP1;have HP2:=Ab hP2;have HB4:=Ab hB4;clear hP1 hP2 hB4;have RA4:=Ab ((Aa RA).below (Aa HB4) (VB _));go_wp2_with fail
 refine(Jm aA nA cA LA w4 hlA (Aa RA4) (Aa HGA)).mono ?_;rintro e w5 ⟨mA,kA,rfl,hmA,hMA,hB5⟩;have hz45:=hB5.size;have HMA:=Ab hMA;have HB5:=Ab hB5;have hmA2:=hMA.lt;clear hMA hB5;have RB5:=Ab (((Aa RB).below (Aa HB4) (VB _)).below (Aa HB5) (VB _));go_wp2_with fail
 refine(Jm aB nB cB LB w5 hlB (Aa RB5) (Aa HGB)).mono ?_;rintro e w6 ⟨mB,kB,rfl,hmB,hMB,hB6⟩;have hz56:=hB6.size;have HMB:=Ab hMB;have hmB2:=hMB.lt;have HMA6:=Ab (Wc (Aa HMA) hB6 hmA2);have HP16:=Ab (Lr (Lr (Aa HP1) (Aa HB5) hg1b) hB6 (by omega));have HP26:=Ab (Lr (Lr (Aa HP2) (Aa HB5) hg2b) hB6 (by omega));have hB36:Below w3.heap.size w3 w6:=(Aa HB4).trans (((Aa HB5).mono (by omega)).trans (hB6.mono (by omega)));have V6:Hid (UUp No B w b (rowB bs n2) x3 w6):=Ab ((Aa U3).trans (((UUp.refl (Aa U3).is.opened).newer (VB _) hB36).closed));obtain⟨N,hNN⟩:∃N,w3.heap.size=N:=⟨_,rfl⟩
 obtain⟨M,hMM⟩:∃M,w6.heap.size=M:=⟨_,rfl⟩
 have hbN:b<N:=by have:=(Aa U3).is.lt;omega
 have I6:Hid (UIs (N2 No N M) B w6 b (rowB bs n2) x3):=Ab ((((Aa U3).is.opened).newer hB36).more (fun e=>by rcases e with e|e;exact(Aa V6).is.no e;omega) (fun g hg=>by rw[hNN];rcases hg with e|e;exact .inl (.inl e);exact .inl (.inr e.1)));rw[hNN]at hg1 hg2 hz34;rw[hMM]at hz56 hmB2;have hwN:w.heap.size<=N:=by have:=(Aa U3).below.size;omega
 have HNN:Hid (∀W:World,w6.heap.size<=W.heap.size->∀g,W.heap.size<=g->¬N2 No N M g):=Ab (fun W hW g hg e=>by
  rcases e with e|e
  . exact Aa HNo g (by omega) e
  . omega)
 have HI0:Hid (TkI (rowB bs n2) u.ks (rowB bs n2).length x3):=Ab ⟨fun _=>by omega,hx3l,hx3o,hx3k⟩;have HAb:Hid (∀(W:World) (x:US),UUp (N2 No N M) B w6 b (rowB bs n2) x W->x.p<=(rowB bs n2).length->Calls Tryz.prog 98 #[.pointer (some ⟨b,0,none⟩),.map (some mA)] W fun e w'=>e=.returned (.int .i64 ((uplace LA (rowB bs n2) x).1:Int))/\UUp (N2 No N M) B W b (rowB bs n2) (uplace LA (rowB bs n2) x).2 w'):=Ab (fun W x hW hx=>Km (N2 No N M) B b mA kA n2 LA bs x W hW.is (Aa HGA) hl hn2 (by omega) (hW.book2 (by rw[hlA];exact Aa HMA6) (by omega) (by omega)) (by omega));have HBb:Hid (∀(W:World) (x:US),UUp (N2 No N M) B w6 b (rowB bs n2) x W->x.p<=(rowB bs n2).length->Calls Tryz.prog 98 #[.pointer (some ⟨b,0,none⟩),.map (some mB)] W fun e w'=>e=.returned (.int .i64 ((uplace LB (rowB bs n2) x).1:Int))/\UUp (N2 No N M) B W b (rowB bs n2) (uplace LB (rowB bs n2) x).2 w'):=Ab (fun W x hW hx=>Km (N2 No N M) B b mB kB n2 LB bs x W hW.is (Aa HGB) hl hn2 (by omega) (hW.book2 (by rw[hlB];exact Aa HMB) (by omega) (by omega)) (by omega));clear hMB hB6 hB36 HB4 HB5 HMA HP1 HP2 RA RB RA4 RB5 U3 c43 hx3l hx3g hx3o hx3k HGA HGB HMA6 HMB;go_upto_block 3 with fail
 go_cut [3,4] (fun v3 v4 wc=>v3=.int .i64 (l:Int)/\v4=.int .i64 (k:Int)/\Hid (UUp No B w b (rowB bs n2) V wc)/\Hid (V.ks=u.ks))
 case first=>
  have HEND:Hid (∀(W:World) (x:US),x=V->x.ks=u.ks->UUp (N2 No N M) B w6 b (rowB bs n2) x W->UUp No B w b (rowB bs n2) V W/\V.ks=u.ks):=Ab (fun W x hx hk hW=>by subst hx;exact⟨(Aa V6).trans hW.closed2,hk⟩);clear he2 hmA hmB he0;go_wp2_with fail
  go_loopw [14] (fun v14 wr=>∃(F:Nat) (x:US),Hid (utok (rowB bs n2) LA LB F x=V)/\Hid (TkI (rowB bs n2) u.ks F x)/\Hid (UUp (N2 No N M) B w6 b (rowB bs n2) x wr)) (fun _ wr=>Z16 n2 b wr)
  case atStart=>exact⟨(rowB bs n2).length,x3,HUT,HI0,Ab (UUp.refl (Aa I6))⟩
  case round=>
   obtain⟨F,x,hT,hI,hW⟩:=hrel;obtain⟨_,_,c4x,_⟩:=(Aa hW).is.cell;clear HUT HI0 I6
   by_cases hxe:x.e≠0
   . have hb0:(x.e==0)=false:=by rw[beq_eq_false_iff_ne];exact hxe
     have hF9:=Aa HEND wr x (by have:=Aa hT;rw[SR _ _ _ _ _ hxe]at this;exact this) (Aa hI).2.2.2 (Aa hW);have HF9:=Ab hF9;clear hF9 hxe hT hI;generalize x.e=ue at*;go_wp2;go_meet
     exact⟨rfl,rfl,Ab (Aa HF9).1,Ab (Aa HF9).2⟩
   have hx0:x.e=0:=by omega
   rw[hx0]at c4x;obtain⟨iF,ip,io,ik⟩:=Aa hI;have iF0:=iF hx0
   cases F with
   |zero=>exact absurd iF0 (by omega)
   |succ F=>
   obtain⟨kk,y1,e1⟩:∃kk y1,uplace LA (rowB bs n2) x=(kk,y1):=⟨_,_,rfl⟩
   have o1:=Wp LA (rowB bs n2) x ip;rw[e1]at o1;obtain⟨o1o,o1k,o1g,o1p⟩:=o1;simp only at o1o o1k o1g o1p
   have hTT:=Aa hT;have HPA:=Ab (Aa HAb wr x (Aa hW) ip);rw[e1]at HPA;have hy1o:y1.out.length<=3000:=by rw[o1o];exact io
   have hy1k:y1.ks=u.ks:=o1k.trans ik
   by_cases hy1:y1.e≠0
   . have hne:(y1.e !=0)=true:=by simp only[bne_iff_ne,ne_eq];exact hy1
     have hVy:y1=V:=by rw[<-hTT,Nb hx0 e1 (false,y1) (by rw[if_pos (Or.inl hy1)])];rfl
     clear hTT hT hI iF iF0;go_wp2_with fail
     refine(Aa HPA).mono ?_;rintro e w7 ⟨rfl,hU7⟩;have HF9:=Ab (Aa HEND w7 y1 hVy hy1k ((Aa hW).trans hU7));obtain⟨_,_,c47,_⟩:=hU7.is.cell;clear hU7 hVy hy1 HPA;generalize y1.e=ue at*;go_wp2;go_meet
     exact⟨rfl,rfl,Ab (Aa HF9).1,Ab (Aa HF9).2⟩
   have hy0:y1.e=0:=by omega
   have hg:=(Cn e1 hy0).1
   by_cases hk256:kk=256
   . subst hk256;have hVy:y1=V:=by rw[<-hTT,Nb hx0 e1 (false,y1) (by rw[if_pos (Or.inr rfl)])];rfl
     clear hTT hT hI iF iF0;go_wp2_with fail
     refine(Aa HPA).mono ?_;rintro e w7 ⟨rfl,hU7⟩;have HF9:=Ab (Aa HEND w7 y1 hVy hy1k ((Aa hW).trans hU7));obtain⟨_,_,c47,_⟩:=hU7.is.cell;rw[hy0]at c47;clear hU7 hVy HPA;go_wp2;go_meet
     exact⟨rfl,rfl,Ab (Aa HF9).1,Ab (Aa HF9).2⟩
   have hkn:((kk:Int)==256)=false:=by rw[beq_eq_false_iff_ne];omega
   have hne5:¬(y1.e≠0\/kk=256):=by omega
   by_cases hk1:kk<256
   . have hT2:utok (rowB bs n2) LA LB F (Fd kk y1)=V:=by rw[<-hTT,Nb hx0 e1 (true,Fd kk y1) (by rw[if_neg hne5,if_pos hk1])];rfl
     have HT2:=Ab hT2;have so:=BA kk y1;have HI2:Hid (TkI (rowB bs n2) u.ks F (Fd kk y1)):=Ab ⟨fun _=>by rw[so.2.2];omega,by rw[so.2.2];exact o1p,so.1 hy1o,so.2.1.trans hy1k⟩;have HSP:=Ab so.2.2;have hkI:(kk:Int)<256:=by omega
     clear hTT hT hI iF iF0 hT2 so hne5 e1;go_wp2_with fail
     refine(Aa HPA).mono ?_;rintro e w7 ⟨rfl,hU7⟩;have W7:=Ab ((Aa hW).trans hU7);clear hU7 HPA;obtain⟨_,_,c47,_⟩:=(Aa W7).is.cell;rw[hy0]at c47;have hz7:=(Aa W7).below.size;go_wp2_with fail
     refine(S8 (N2 No N M) B b kk _ y1 w7 (Aa W7).is hy1o (Aa HNN w7 hz7)).mono ?_;rintro e w8 ⟨rfl,hU8⟩;have W8:=Ab ((Aa W7).trans hU8);clear hU8;go_wp2;go_roundw
     case rel=>exact⟨F,_,HT2,HI2,W8⟩
     case measure=>
      rw[Jz (Aa hW).is,Jz (Aa W8).is,Aa HSP];omega
   have hk3:¬(kk:Int)<256:=by omega
   by_cases hk2:285<kk
   . have hVy:Am 8 y1=V:=by rw[<-hTT,Nb hx0 e1 (false,Am 8 y1) (by rw[if_neg hne5,if_neg hk1,if_pos hk2])];rfl
     have uo:=Om 8 y1;have HKV:Hid ((Am 8 y1).ks=u.ks):=Ab (uo.2.1.trans hy1k);have HVY:=Ab hVy;have hkI:(285:Int)<(kk:Int):=by omega
     clear hTT hT hI iF iF0 hVy uo hne5 e1;go_wp2_with fail
     refine(Aa HPA).mono ?_;rintro e w7 ⟨rfl,hU7⟩;have W7:=Ab ((Aa hW).trans hU7);clear hU7 HPA;obtain⟨_,_,c47,_⟩:=(Aa W7).is.cell;rw[hy0]at c47;have HWR:=Ab (Dn (N2 No N M) B b (rowB bs n2) y1 8 w7 (Aa W7).is);go_wp2_with fail
     refine(Aa HWR).mono ?_;rintro e w8 ⟨rfl,hU8⟩;have HF9:=Ab (Aa HEND w8 _ (Aa HVY) (Aa HKV) ((Aa W7).trans hU8));clear hU8;go_wp2;go_meet
     exact⟨rfl,rfl,Ab (Aa HF9).1,Ab (Aa HF9).2⟩
   refine TM (No:=No) (B:=B) (hs4:=w4.heap.size) (hs5:=w5.heap.size) (N:=N) (M:=M) (w6:=w6) (ks:=u.ks) (LA:=LA) (LB:=LB) (V:=V) (x:=x) (F:=F) (y1:=y1) (kk:=kk) hl hn2 hg1 hg2 hg1b hg2b hz45 hz56 hMM hbN HP16 HP26 HNN HPA HBb hx0 hI hT e1 hy0 (by omega) (by omega) hW ?_ ?_
   . intro v14 v15 v16 v17 v18 v118 v119 v120 v121 v122 v123 v124 v125 v126 v127 v128 v129 v130 v131 v132 v133 v134 v135 v136 v137 v138 v139 v140 v141 v142 v143 v144 v145 v146 v147 v148 v149 v150 v151 v152 v153 v154 v155 v156 v157 v158 v159 v160 v161 v162 v163 v164 v165 v166 v167 v168 v169 v170 v171 v172 v173 v174 v175 v176 v177 v178 v179 v180 v181 v182 v183 v184 v185 v186 v187 v188 v189 v190 v191 v192 v193 v194 v195 v196 v197 v198 v199 v200 v201 v202 v203 v204 v205 v206 v207 v208 v209 v210 v211 v212 v213 v214 v215 v216 v217 v218 v219 v220 v221 v222 v223 v224 v225 v226 v227 v228 v229 v230 v231 v232 v233 v234 w' Y hY1 hY2 hY3 hY4;dsimp only;go_roundw
     case rel=>exact⟨F,Y,hY1,hY2,hY4⟩
     case measure=>
      rw[Jz (Aa hW).is,Jz (Aa hY4).is];have:=Aa hY3
      have:=(Aa hY2).2.1
      omega
   . intro v14 v15 v16 v17 v18 v118 v119 v120 v121 v122 v123 v124 v125 v126 v127 v128 v129 v130 v131 v132 v133 v134 v135 v136 v137 v138 v139 v140 v141 v142 v143 v144 v145 v146 v147 v148 v149 v150 v151 v152 v153 v154 v155 v156 v157 v158 v159 v160 v161 v162 v163 v164 v165 v166 v167 v168 v169 v170 v171 v172 v173 v174 v175 v176 v177 v178 v179 v180 v181 v182 v183 v184 v185 v186 v187 v188 v189 v190 v191 v192 v193 v194 v195 v196 v197 v198 v199 v200 v201 v202 v203 v204 v205 v206 v207 v208 v209 v210 v211 v212 v213 v214 v215 v216 v217 v218 v219 v220 v221 v222 v223 v224 v225 v226 v227 v228 v229 v230 v231 v232 v233 v234 w' y hy1 hy2 hy3;have HF9:=Ab (Aa HEND w' y hy1 hy2 hy3);dsimp only;go_wp2_with fail
     go_meet
     exact⟨rfl,rfl,Ab (Aa HF9).1,Ab (Aa HF9).2⟩
 case rest=>
  rename World=>wT
  obtain⟨rfl,rfl,hU,hVk⟩:=hcut;obtain⟨ov,kv,_,c3,hh,hov,hkv,hap,hn1,hn2'⟩:=(Aa hU).is.rows;obtain⟨KL,hKL⟩:∃KL,V.ks.length=KL:=⟨_,rfl⟩
  have hKV:=hkv;rw[hKL]at hkv;obtain⟨ka,kc,rfl⟩:=An hkv;have hsz9:=(Aa hU).below.size;have hbl9:=(Aa hU).is.lt;have hKL2:KL<=200000:=by rw[<-hKL,Aa hVk];exact Aa HKS
  have HKV:=Ab hkv;have HKV2:=Ab hKV;have HOV:=Ab hov;have HH:=Ab hh;have HAP:=Ab hap;have HN1:=Ab hn1;have HN2:=Ab hn2';have HKL:=Ab hKL;have HIS:=Ab (Aa hU).is;clear hkv hKV hov hh hap hn1 hn2' hKL;go_wp2_with (at_builtin;refine wpList_append_own_at _ rfl (.tmp 239) (.tmp 241) 76 rfl (b+1) 3 i0 (.int .i64 0) 1 8 Tryz.underlying76 hi hz0 hz1 hz2 rfl (by decide) _ KL (i64s V.ks) rfl ((Aa HKV).alloc _) ⟨wT.heap.size,0,none⟩ 1 1 [.int .i64 (k:Int)] rfl rfl (cell_one_new _ _ _) (Bc rfl) (by unfold maxLen;omega) (by omega) (by simp;omega) ?_)
  intro v' wK hO3 hgrow _ hspot;obtain⟨q3,f3,hFIN⟩:=UIs.keepK (k:=k) (X:=.cells #[.int .i64 (k:Int)] 3) (Aa HIS).base (Aa HIS).no (Aa HH) (Aa HOV) (Aa HKV2) (Aa HAP) (Aa HN1) (Aa HN2) (fun g hg=>Aa HNo g (by omega)) (by rw[Aa HKL];exact hO3) hgrow (by simpa using hspot);obtain⟨g9,c9,rfl,_,_⟩:=Ba hO3 (by omega);have HFIN:=Ab ((Aa hU).trans hFIN);clear hO3 hgrow hspot hFIN;go_wp2;go_ret;rw[<-Aa HRV];exact⟨by rw[RM];rfl,Aa HFIN⟩
theorem JJ (No:Nat->Prop)(B b n2:Nat)(bs:List Nat)(u:US)(w:World)(h:UIs No B w b (rowB bs n2) u)(hl:bs.length=n2)(hn2:n2<=25000)(hp:u.p<=8*n2)(ho:u.out.length<=3000)(hks:u.ks.length<=200000)(hNo:∀g,w.heap.size<=g->¬No g)(R:Bool×US)(hR:Eh (rowB bs n2) u=R):
 Calls Tryz.prog 61 #[.pointer (some ⟨b,0,none⟩)] w fun e w'=>BkA No B w b (rowB bs n2) R e w':=by
 obtain⟨l,x1,h1⟩:∃l x1,uget (rowB bs n2) 1 u=(l,x1):=⟨_,_,rfl⟩
 obtain⟨k,x2,h2⟩:∃k x2,uget (rowB bs n2) 2 x1=(k,x2):=⟨_,_,rfl⟩
 unfold Eh at hR;simp only[h1,h2]at hR
 by_cases he:x2.e≠0
 . rw[if_pos he]at hR;subst hR;exact JH No B b n2 bs u w h hn2 hp l k x1 x2 h1 h2 he
 rw[if_neg he]at hR;have he2:x2.e=0:=by omega
 by_cases hk0:k=0
 . rw[if_pos hk0]at hR;subst hk0 hR;exact RH No B b n2 bs u w h hn2 hp ho hks hNo l x1 x2 h1 h2 he2 _ rfl
 rw[if_neg hk0]at hR
 by_cases hk3:3<=k
 . have h5:uopen (rowB bs n2) k x2=(([],[]),Am 4 x2):=by unfold uopen;rw[if_neg (by omega),if_neg (by omega)]
   rw[h5]at hR;simp only at hR
   rw[if_pos (Bm (by decide))]at hR;subst hR;exact JI No B b n2 bs u w h hn2 hp l k x1 x2 h1 h2 he2 hk3
 . obtain⟨LA,LB,x3,h5⟩:∃LA LB x3,uopen (rowB bs n2) k x2=((LA,LB),x3):=⟨_,_,_,rfl⟩
   rw[h5]at hR;exact O4 No B b n2 bs u w h hl hn2 hp ho hks hNo l k x1 x2 x3 h1 h2 he2 (by omega) LA LB h5 _ rfl R hR
theorem UIs.fresh (No:Nat->Prop)(B:Nat)(w:World)(row:List Bool)(hB:B<=w.heap.size)(hn:¬No w.heap.size):
 UIs No B (w.alloc (.cells #[.string (text row),.int .i64 0,.slice none 0 0,.slice none 0 0,.int .i64 0] 110)) w.heap.size row ⟨0,[],[],0⟩:=
 ⟨hB,hn,.slice none 0 0,.slice none 0 0,heap_alloc_new _ _,World.ownsRow_nil _ _ _ _,World.ownsRow_nil _ _ _ _,.inl rfl,(fun g e=>by cases e),(fun g e=>by cases e)⟩
def UpA (w:World)(U:US)(e:Ending)(w':World):Prop:=Below w.heap.size w w'/\((U.e=0/\∃ov kv,e=.returned (.tuple #[ov,.int .i64 (((U.p+7)/8:Nat):Int),kv,.int .i64 0])/\w'.ownsRow w.heap.size 5 1 ov U.out.length (u8s U.out))\/ (U.e≠0/\e=.returned (.tuple #[.slice none 0 0,.int .i64 0,.slice none 0 0,.int .i64 U.e])))
theorem Wq (a:Option Addr)(n2 cap:Nat)(bs:List Nat)(w:World)(hl:bs.length=n2)(hn2:n2<=25000)(hby:BytesIn w a bs)(hv:∀j,bs.getD j 0<256)(U:US)(hU:Oh (rowB bs n2)=U):
 Calls Tryz.prog 39 #[.slice a n2 cap] w fun e w'=>UpA w U e w':=by
 have HRO:=Ab (LX a n2 cap bs w hl hv hn2 hby);have hN:=Af bs n2;have HU:Hid (Dc (rowB bs n2) ((rowB bs n2).length+1) ⟨0,[],[],0⟩=U):=Ab hU;clear hby hv hU;go_enter Tryz.func39,Tryz.ntmps39
 go_wp2_with fail
 refine(Aa HRO).mono ?_;rintro e w1 ⟨rfl,hB1⟩;have HB1:=Ab hB1;have hz1:=hB1.size;clear hB1;have I2:Hid (UIs (fun g=>g<w.heap.size) w.heap.size (w1.alloc (.cells #[.string (text (rowB bs n2)),.int .i64 0,.slice none 0 0,.slice none 0 0,.int .i64 0] 110)) w1.heap.size (rowB bs n2) ⟨0,[],[],0⟩):=Ab (UIs.fresh _ _ w1 _ hz1 (by omega));have B2:=Ab ((Aa HB1).alloc hz1 (.cells #[.string (text (rowB bs n2)),.int .i64 0,.slice none 0 0,.slice none 0 0,.int .i64 0] 110));generalize text (rowB bs n2)=TX at*;go_wp2;obtain⟨W2,hW2⟩:∃W2,w1.alloc (.cells #[.string TX,.int .i64 0,.slice none 0 0,.slice none 0 0,.int .i64 0] 110)=W2:=⟨_,rfl⟩
 obtain⟨b,hb⟩:∃b,w1.heap.size=b:=⟨_,rfl⟩
 rw[hW2]at I2 B2 ⊢;rw[hb]at I2 ⊢;have hbw:w.heap.size<=b:=by omega
 have hz2:=(Aa B2).size;clear hW2 HRO;go_loopw [12] (fun _ wr=>∃(F:Nat) (x:US),Hid (Dc (rowB bs n2) F x=U)/\Hid ((rowB bs n2).length<x.p+F/\x.p<=(rowB bs n2).length/\x.out.length<=3000/\x.ks.length<=x.p)/\Hid (UUp (fun g=>g<w.heap.size) w.heap.size W2 b (rowB bs n2) x wr)) (fun _ wr=>Z16 n2 b wr)
 case atStart=>exact⟨(rowB bs n2).length+1,⟨0,[],[],0⟩,HU,Ab ⟨by simp only;omega,VH _,VH _,VH _⟩,Ab (UUp.refl (Aa I2))⟩
 case round=>
  obtain⟨F,x,hT,hX,hW⟩:=hrel
  cases F with
  |zero=>exact absurd (Aa hX).1 (by have:=(Aa hX).2.1;omega)
  |succ F=>
   obtain⟨t,y,hBR⟩:∃t y,Eh (rowB bs n2) x=(t,y):=⟨_,_,rfl⟩
   have HBK:Hid (Calls Tryz.prog 61 #[.pointer (some ⟨b,0,none⟩)] wr fun e w'=>e=.returned (.bool t)/\UUp (fun g=>g<w.heap.size) w.heap.size wr b (rowB bs n2) y w'):=Ab (JJ (fun g=>g<w.heap.size) w.heap.size b n2 bs x wr (Aa hW).is hl hn2 (by have:=(Aa hX).2.1;omega) (Aa hX).2.2.1 (by have h1:=(Aa hX).2.1;have h2:=(Aa hX).2.2.2;omega) (fun g hg=>by have:=(Aa hW).below.size;omega) (t,y) hBR);have hrw:Dc (rowB bs n2) (F+1) x=if t=false/\y.e=0 then Dc (rowB bs n2) F y else y:=by rw[Dc,hBR]
   rw[Aa hT]at hrw
   by_cases hye:y.e=0
   . have hg:=Qb (row:=rowB bs n2) (u:=x) (by rw[hBR];exact hye);rw[hBR]at hg;obtain⟨a1,a2,a3,a4,a5⟩:=hg.ahead;simp only at a1 a2 a4 a5
     obtain⟨i1,i2,i3,i4⟩:=Aa hX;have HAH:Hid (((rowB bs n2).length<y.p+F/\y.p<=(rowB bs n2).length/\y.out.length<=3000/\y.ks.length<=y.p)/\x.p<y.p):=Ab ⟨⟨by omega,a2,a5 i3,by omega⟩,by omega⟩;have HRW:=Ab hrw.symm;clear a1 a2 a3 a4 a5 hT hX hrw hg i1 i2 i3 i4 hBR
     cases t with
     |false=>
      go_wp2_with fail
      refine(Aa HBK).mono ?_;rintro e w3 ⟨rfl,hU3⟩;have W3:=Ab ((Aa hW).trans hU3);clear hU3;obtain⟨_,_,c43,_⟩:=(Aa W3).is.cell;rw[hye]at c43;go_wp2;go_roundw
      case rel=>exact⟨F,y,Ab (by have:=Aa HRW;simpa[hye]using this),Ab (Aa HAH).1,W3⟩
      case measure=>
       rw[Jz (Aa hW).is,Jz (Aa W3).is];have b2:=(Aa HAH).1.2.1;have b4:=(Aa HAH).2;rw[hN]at b2;omega
     |true=>
      have hyU:y=U:=by have:=Aa HRW;simpa using this
      subst hyU;clear HRW;go_wp2_with fail
      refine(Aa HBK).mono ?_;rintro e w3 ⟨rfl,hU3⟩;have W3:=Ab ((Aa hW).trans hU3);clear hU3 HBK;obtain⟨_,c13,c43,_⟩:=(Aa W3).is.cell;rw[hye]at c43;obtain⟨ov,kv,c23,c33,_,hov,hkv,_⟩:=(Aa W3).is.rows;have HOV:=Ab (Pa hov (B':=w.heap.size) (by omega));have HB3:=Ab ((Aa B2).trans (Aa W3).below);have hpb:y.p<=200000:=by have:=(Aa HAH).1.2.1;omega
      obtain⟨oa,oc,rfl⟩:=An hov;obtain⟨ka,kc,rfl⟩:=An hkv;have hp7:Hid (((y.p:Int)+7)/8=(((y.p+7)/8:Nat):Int)):=Ab (by omega);clear hov hkv HAH;go_wp2;go_region
      all_goals go_wp2
      refine bodyPost_ret (v:=.tuple #[.slice oa y.out.length oc,.int .i64 (((y.p:Int)+7)/8),.slice ka y.ks.length kc,.int .i64 0]) ?_ rfl ⟨(Aa HB3).drew,.inl ⟨hye,_,_,by rw[Aa hp7],(Aa HOV).drew⟩⟩
      first|rfl|kernel_rfl
   . have hyU:y=U:=by rw[hrw,if_neg (fun h=>hye h.2)]
     subst hyU;have hb0:(y.e==0)=false:=by rw[beq_eq_false_iff_ne];exact hye
     have hne:(y.e !=0)=true:=by simp only[bne_iff_ne,ne_eq];exact hye
     have HF:Hid (∀W,UUp (fun g=>g<w.heap.size) w.heap.size W2 b (rowB bs n2) y W->UpA w y (.returned (.tuple #[.slice none 0 0,.int .i64 0,.slice none 0 0,.int .i64 y.e])) W.drew):=Ab (fun W h=>⟨((Aa B2).trans h.below).drew,.inr ⟨hye,rfl⟩⟩);clear hT hX hrw hBR hye
     cases t
     all_goals
      go_wp2_with fail
      refine(Aa HBK).mono ?_;rintro e w3 ⟨rfl,hU3⟩;have W3:=Ab ((Aa hW).trans hU3);clear hU3 HBK;obtain⟨_,_,c43,_⟩:=(Aa W3).is.cell;have HFF:=Ab (Aa HF w3 (Aa W3));clear HF;generalize y.e=ue at*;go_wp2;go_region
      all_goals go_wp2
      refine bodyPost_ret (v:=.tuple #[.slice none 0 0,.int .i64 0,.slice none 0 0,.int .i64 ue]) ?_ rfl (Aa HFF)
      first|rfl|kernel_rfl
theorem Z39:UnC True:=by
 intro W a n c pk hl hn hby hv _;refine(Wq a n c pk W hl (by omega) hby (Er hv) _ rfl).mono ?_;rintro e w' ⟨hB,(⟨h0,ov,kv,rfl,ho⟩|⟨h0,rfl⟩)⟩
 . obtain⟨oa,oc,rfl,k1,k2,k3,k4⟩:=Ve ho;exact⟨hB,.inl ⟨h0,oa,oc,kv,rfl,⟨oa,oc,rfl,k2,k1⟩,k4⟩⟩
 . exact⟨hB,.inr ⟨h0,rfl⟩⟩
end Go.Proofs.YtleocpdblhbimaaGreatDoor
