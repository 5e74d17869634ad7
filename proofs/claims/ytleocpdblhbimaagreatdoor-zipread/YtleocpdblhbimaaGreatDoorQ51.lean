import Derived.Test.YtleocpdblhbimaaGreatDoorQ50
import Derived.Deep.CutBlock
import Derived.Deep.DeepCutAuto
import Derived.Test.YtleocpdblhbimaaGreatDoorQ44
set_option linter.unusedSimpArgs false
set_option maxHeartbeats 8000000
namespace Go.Proofs.YtleocpdblhbimaaGreatDoor
open Go.RowKit
set_option linter.unusedVariables false
set_option maxRecDepth 100000
def TdA (No:Nat->Prop)(B:Nat)(w:World)(b:Nat)(row:List Bool)(R:(List Int×List Int)×US)(e:Ending)(w':World):Prop:=
 UUp No B w b row R.2 w'/\((R.2.e≠0/\e=.returned (.tuple #[.slice none 0 0,.slice none 0 0]))\/∃a1 c1 a2 c2,R.2.e=0/\e=.returned (.tuple #[.slice a1 R.1.1.length c1,.slice a2 R.1.2.length c2])/\RowIn .i64 w' a1 R.1.1/\RowIn .i64 w' a2 R.1.2)
theorem SX (row:List Bool)(l:List Int)(k:Nat)(u:US):1<=(ukind row l k u).2.1/\(ukind row l k u).2.1<=138:=by
 unfold ukind;have h2:=Fu row 2 u;have h3:=Fu row 3 u;have h7:=Fu row 7 u
 split
 . split
   . exact⟨VB _,by show 1<=138;decide⟩
   . exact⟨by dsimp only;omega,by dsimp only;omega⟩
 . split
   . exact⟨by dsimp only;omega,by dsimp only;omega⟩
   . split
     . exact⟨by dsimp only;omega,by dsimp only;omega⟩
     . exact⟨VB _,by show 1<=138;decide⟩
theorem TB (row:List Bool)(l:List Int)(k:Nat)(u:US)(h:u.p<=row.length):(ukind row l k u).2.2.p<=row.length:=by
 unfold ukind
 split
 . split
   . show (Am 8 u).p<=_;rw[Wl];exact h
   . exact Gn row 2 u h
 . split
   . exact Gn row 3 u h
   . split
     . exact Gn row 7 u h
     . exact h
theorem TJ (No:Nat->Prop)(B b n2:Nat)(bs:List Nat)(u:US)(w:World)(h:UIs No B w b (rowB bs n2) u)(hl:bs.length=n2)(hn2:n2<=25000)(hp:u.p<=8*n2)(R:(List Int×List Int)×US)(hR:Db (rowB bs n2) u=R):
 Calls Tryz.prog 95 #[.pointer (some ⟨b,0,none⟩)] w fun e w'=>TdA No B w b (rowB bs n2) R e w':=by
 have hN:=Af bs n2;have hrl:(rowB bs n2).length<=200000:=by omega
 have hp0:u.p<=(rowB bs n2).length:=by omega
 obtain⟨m0,u1,e1⟩:∃m0 u1,uget (rowB bs n2) 5 u=(m0,u1):=⟨_,_,rfl⟩
 obtain⟨n0,u2,e2⟩:∃n0 u2,uget (rowB bs n2) 5 u1=(n0,u2):=⟨_,_,rfl⟩
 obtain⟨c0,u3,e3⟩:∃c0 u3,uget (rowB bs n2) 4 u2=(c0,u3):=⟨_,_,rfl⟩
 have hp1:=Gn _ 5 u hp0;rw[e1]at hp1;have hp2:=Gn _ 5 u1 hp1;rw[e2]at hp2;have hp3:=Gn _ 4 u2 hp2;rw[e3]at hp3;have hm0:=Fu (rowB bs n2) 5 u;rw[e1]at hm0;have hn0:=Fu (rowB bs n2) 5 u1;rw[e2]at hn0;have hc0:=Fu (rowB bs n2) 4 u2;rw[e3]at hc0;simp only at hp1 hp2 hp3 hm0 hn0 hc0
 obtain⟨uw,huw⟩:∃uw,(if 286<m0+257\/30<n0+1 then Am 8 u3 else u3)=uw:=⟨_,rfl⟩
 have hpw:uw.p<=(rowB bs n2).length:=by
  rw[<-huw]
  split
  . rw[Wl];exact hp3
  . exact hp3
 obtain⟨S,us,hs⟩:∃S us,usmall (rowB bs n2) (ord19.take (c0+4)) (List.replicate 19 0) uw=(S,us):=⟨_,_,rfl⟩
 have hR2:Ke (rowB bs n2) (m0+257) (n0+1) (S,us)=R:=by
  rw[<-hR];unfold Db;simp only[e1,e2,e3];unfold Gk;rw[huw,hs]
 have hbe:us.e=0->¬(286<m0+257\/30<n0+1):=fun h0 hx=>by
  rw[if_pos hx]at huw;have h5:=congrArg (fun z=>z.2.e) hs;simp only at h5
  rw[h0]at h5;have h6:=Ld h5;rw[<-huw]at h6;exact Bm (by decide) h6
 have HUW:=Ab huw;have HS:=Ab hs;have HR2:=Ab hR2;have HBE:=Ab hbe;have H:=Ab h;have HE1:=Ab e1;have HE2:=Ab e2;have HE3:=Ab e3;obtain⟨i0,hi,hz0,hz1,hz2⟩:=info_parts Bv;clear h hR huw hs hR2 hbe e1 e2 e3;go_enter Tryz.func95,Tryz.ntmps95
 go_wp2_with fail
 refine(Hm No B b 5 _ u w (Aa H) (by omega) hrl hp0 m0 u1 (Aa HE1)).mono ?_;rintro e w1 ⟨rfl,hU1⟩;have U1:=Ab hU1;clear hU1;go_wp2_with fail
 refine(Hm No B b 5 _ u1 w1 (Aa U1).is (by omega) hrl hp1 n0 u2 (Aa HE2)).mono ?_;rintro e w2 ⟨rfl,hU2⟩;have U2:=Ab ((Aa U1).trans hU2);clear hU2;go_wp2_with fail
 refine(Hm No B b 4 _ u2 w2 (Aa U2).is (by omega) hrl hp2 c0 u3 (Aa HE3)).mono ?_;rintro e w3 ⟨rfl,hU3⟩;have U3:=Ab ((Aa U2).trans hU3);clear hU3 U1 U2 H HE1 HE2 HE3;obtain⟨bt,hbt⟩:∃bt,decide (286<m0+257\/30<n0+1)=bt:=⟨_,rfl⟩
 have HBT:=Ab hbt;clear hbt;go_upto_region 2 with fail
 go_cut [29] (fun v29 wc=>v29=.bool bt/\wc=w3)
 case first=>
  by_cases hb1:286<m0+257
  . have hq1:(286:Int)<(m0:Int)+257:=by omega
    have hb:bt=true:=by rw[<-Aa HBT];exact decide_eq_true (.inl hb1)
    subst hb;go_wp2;go_meet
    exact⟨rfl,rfl⟩
  . have hq1:¬(286:Int)<(m0:Int)+257:=by omega
    by_cases hb2:30<n0+1
    . have hq2:(30:Int)<(n0:Int)+1:=by omega
      have hb:bt=true:=by rw[<-Aa HBT];exact decide_eq_true (.inr hb2)
      subst hb;go_wp2;go_meet
      exact⟨rfl,rfl⟩
    . have hq2:¬(30:Int)<(n0:Int)+1:=by omega
      have hb:bt=false:=by rw[<-Aa HBT];exact decide_eq_false (by omega)
      subst hb;go_wp2;go_meet
      exact⟨rfl,rfl⟩
 case rest=>
 obtain⟨rfl,hwq⟩:=hcut;obtain rfl:w3=wc:=hwq.symm;clear hwq;go_upto_if 29 with (fail)
 go_cut [4] (fun v4 wc=>v4=.int .i64 ((m0:Int)+257)/\Hid (UUp No B w b (rowB bs n2) uw wc))
 case first=>
  cases bt with
  |true=>
   have HWR:=Ab (Dn No B b (rowB bs n2) u3 8 w3 (Aa U3).is);have HX:Hid (Am 8 u3=uw):=Ab (by rw[<-Aa HUW,if_pos (of_decide_eq_true (Aa HBT))]);go_wp2_with fail
   refine(Aa HWR).mono ?_;rintro e w4 ⟨rfl,hU4⟩;have U4:=Ab ((Aa U3).trans hU4);rw[Aa HX]at U4;clear hU4;go_wp2;go_meet
   exact⟨rfl,U4⟩
  |false=>
   have HX:Hid (u3=uw):=Ab (by rw[<-Aa HUW,if_neg (of_decide_eq_false (Aa HBT))]);rw[Aa HX]at U3;go_wp2;go_meet
   exact⟨rfl,U3⟩
 case rest=>
  rename World=>wP
  obtain⟨rfl,hUW⟩:=hcut;clear U3 HUW;obtain⟨N,hNs⟩:∃N,wP.heap.size=N:=⟨_,rfl⟩
  have V3:Hid (UUp (N1 No N) B wP b (rowB bs n2) uw wP):=Ab (by rw[<-hNs];exact UUp.refl (Aa hUW).is.opened);have hc16:c0<16:=hc0;go_wp2_with (at_make;refine wpList_make_full _ rfl _ _ 76 rfl N 3 i0 (.int .i64 0) 1 Tryz.underlying76 hi hz0 hz1 _ _ _ _ 19 rfl rfl rfl rfl (by rw[hz2];omega) (by unfold maxLen;omega) (by omega) ?_)
  intro w4 hown1 hgrow1;have e0:(madeCells #[Value.int .i64 0] 19).toList=iv (List.replicate 19 0):=by rw[CC];rfl
  rw[e0]at hown1;have B4:Hid (Below N wP w4):=Ab (by rw[<-hNs];exact(Below.refl wP.heap.size wP).grown hgrow1 (VB _) (fun j h=>by cases h));have HO4:=Ab hown1;have hg7:=(hown1.lt N rfl).2;clear hown1 hgrow1 e0;have hcI:(c0:Int)+4<=19:=by omega
  have HG33:Hid ((w4.alloc (.cells Z2k 3)).heap[w4.heap.size]? =some (.cells Z2k 3 (0,0))):=Ab (heap_alloc_new _ _);have V5:Hid (UUp (N1 No N) B wP b (rowB bs n2) uw (w4.alloc (.cells Z2k 3))):=Ab ((Aa V3).newer (by omega) ((Aa B4).alloc (by have:=(Aa B4).size;omega) _));have HO5:=Ab ((Aa HO4).alloc (.cells Z2k 3));have hg33:N<w4.heap.size:=hg7;go_wp2;go_loopw [9,37] (fun _ v37 wr=>∃(j:Nat) (s:List Int) (uj:US),j<=c0+4/\v37=.int .i64 (j:Int)/\Hid (usmall (rowB bs n2) ((ord19.take (c0+4)).drop j) s uj=(S,us))/\Hid (s.length=19)/\Hid (UUp (N1 No N) B wP b (rowB bs n2) uj wr)/\Hid (wr.ownsRow N 3 1 (.slice (some ⟨N,0,none⟩) 19 19) 19 (iv s))/\Hid (wr.heap[w4.heap.size]? =some (.cells Z2k 3 (0,0)))/\Hid (uj.p<=(rowB bs n2).length)) (fun _ v37 _=>19-(intOf v37).toNat)
  case atStart=>exact⟨0,List.replicate 19 0,uw,VH _,rfl,Ab (by rw[List.drop_zero];exact Aa HS),Ab (by simp),V5,HO5,HG33,Ab hpw⟩
  case round=>
   obtain⟨j,s,uj,hj,rfl,hS,hsl,hV,hO,hG,hpj⟩:=hrel
   by_cases hlt:j<c0+4
   . obtain⟨r,x,hgx⟩:∃r x,uget (rowB bs n2) 3 uj=(r,x):=⟨_,_,rfl⟩
     have ho:=Z0k (j:=j) (by omega);have c1:wr.cell? ⟨w4.heap.size,j,none⟩=some (.int .i64 ((ord19.getD j 0:Nat):Int)):=(Ac (Aa hG)).trans (Z49 (by omega))
     have HS2:Hid (usmall (rowB bs n2) ((ord19.take (c0+4)).drop (j+1)) (s.set (ord19.getD j 0) (r:Int)) x=(S,us)):=Ab (by
      have:=Aa hS
      rw[Z0i hlt (by omega),usmall,hgx]at this;exact this)
     have HPX:Hid (x.p<=(rowB bs n2).length):=Ab (by have:=Gn (rowB bs n2) 3 uj (Aa hpj);rw[hgx]at this;exact this);have hoI:(ord19.getD j 0:Int)<19:=by omega
     generalize ord19.getD j 0=q at*;clear hS;go_wp2_with fail
     refine(Hm (N1 No N) B b 3 _ uj wr (Aa hV).is (by omega) hrl (Aa hpj) r x hgx).mono ?_;rintro e w6 ⟨rfl,hU6⟩;have O6:=Ab (hU6.own (Aa hO));have G6:Hid (w6.heap[w4.heap.size]? =some (.cells Z2k 3 (0,0))):=Ab ((hU6.kp _ (VK.1 (Aa hG)).1 (.inr (YX hg33))).trans (Aa hG));have V6:=Ab ((Aa hV).trans hU6);clear hU6;have hql:q<s.length:=by rw[Aa hsl];exact ho
     have c2:=(Aa O6).cellAt q (by omega);rw[show (iv s)[q]? =some (.int .i64 (s.getD q 0)) by simp[iv,List.getD,hql]]at c2;have f2:=(Aa O6).frozenAt q;generalize s.getD q 0=old at*;go_wp2;go_roundw
     case rel=>
      have hst:=(Aa O6).stored q (.int .i64 (r:Int));have hb7:Below N w6 (w6.setCell ⟨N,q,none⟩ (.int .i64 (r:Int))):=(Below.refl N w6).setCell (VB _) _;refine⟨j+1,s.set q (r:Int),x,by omega,by go_num,HS2,Ab (by rw[XS];exact Aa hsl),Ab ((Aa V6).newer (by omega) hb7),Ab ?_,Ab ?_,HPX⟩
      . have e:iv (s.set q (r:Int))=(iv s).set q (.int .i64 (r:Int)):=by rw[iv,List.map_set]
        rw[e];exact hst.1
      . rw[heap_setCell_other w6 _ _ _ (by show w4.heap.size≠N;omega)];exact Aa G6
     case measure=>simp[intOf];omega
   . obtain rfl:j=c0+4:=by omega
     have hSS:=Aa hS;rw[XR (by rw[VL];omega),usmall]at hSS;obtain⟨rfl,rfl⟩:=VN hSS;have hsl19:=Aa hsl;have hRS:Hid (RowIn .i64 wr (some ⟨N,0,none⟩) s):=Ab (RowIn.iv (Aa hO));obtain⟨uc,huc⟩:∃uc,Qa (s,uj)=uc:=⟨_,rfl⟩
     obtain⟨c40,c41,c44,cfr⟩:=(Aa hV).is.cell;have HUC:=Ab huc;have hrs:=(Aa hV).below.size;clear hS hSS c40 c41 cfr huc hG HO4 HO5 HG33 V5 B4 V3;obtain⟨be,hbe⟩:∃be,((uj.e==0)&&(errL s !=0))=be:=⟨_,rfl⟩
     have HBEE:=Ab hbe;clear hbe;go_upto_region 10 with fail
     go_cut [56] (fun v56 wc=>v56=.bool be/\wc=wr)
     case first=>
      by_cases h0:uj.e=0
      . rw[h0]at c44;have hbb:(errL s !=0)=be:=by have:=Aa HBEE;rw[h0]at this;simpa using this
        have HCL:=Ab (Ff (some ⟨N,0,none⟩) 19 19 s wr hsl19 (by omega) (Aa hRS));generalize errL s=el at*;go_wp2_with fail
        refine(Aa HCL).mono ?_;rintro e w6 ⟨rfl,hw6⟩;obtain rfl:wr=w6:=hw6.symm;clear hw6;go_wp2;go_meet
        exact⟨rfl,rfl⟩
      . have hb0:(uj.e==0)=false:=by rw[beq_eq_false_iff_ne];exact h0
        have hbb:be=false:=by rw[<-Aa HBEE,hb0];rfl
        subst hbb;generalize uj.e=ue at*;go_wp2;go_meet
        exact⟨rfl,rfl⟩
     case rest=>
     obtain⟨rfl,hwq⟩:=hcut;obtain rfl:wr=wc:=hwq.symm;clear hwq;go_upto_if 56 with (fail)
     go_cut [7] (fun v7 wc=>v7=.slice (some ⟨N,0,none⟩) 19 19/\Hid (UUp (N1 No N) B wP b (rowB bs n2) uc wc)/\Hid (RowIn .i64 wc (some ⟨N,0,none⟩) s))
     case first=>
      cases be with
      |true=>
       have hx:=Aa HBEE;rw[ZM,beq_iff_eq,bne_iff_ne]at hx;have HWR:=Ab (Dn (N1 No N) B b (rowB bs n2) uj 8 wr (Aa hV).is);have HX:Hid (Am 8 uj=uc):=Ab (by rw[<-Aa HUC];unfold Qa;rw[if_pos hx]);clear hx;go_wp2_with fail
       refine(Aa HWR).mono ?_;rintro e w6 ⟨rfl,hU6⟩;have V6:=Ab ((Aa hV).trans hU6);have R6:=Ab (hU6.rows (Aa hRS) (fun g o e=>by cases e;exact VB _));rw[Aa HX]at V6;clear hU6;go_wp2;go_meet
       exact⟨rfl,V6,R6⟩
      |false=>
       have hx:¬(uj.e=0/\errL s≠0):=fun hx=>by
        have:=Aa HBEE
        rw[hx.1]at this;simp[hx.2]at this
       have HX:Hid (uj=uc):=Ab (by rw[<-Aa HUC];unfold Qa;rw[if_neg hx]);rw[Aa HX]at hV;clear hx;go_wp2;go_meet
       exact⟨rfl,hV,hRS⟩
     case rest=>
     rename World=>wQ
     obtain⟨rfl,hVQ,hRQ⟩:=hcut;clear hV hRS hO c44;obtain⟨_,_,c4q,_⟩:=(Aa hVQ).is.cell;have HCLO:Hid (∀W v,UUp (N1 No N) B wP b (rowB bs n2) v W->UUp No B w b (rowB bs n2) v W):=Ab (fun W v hv=>(Aa hUW).trans hv.closed)
     by_cases hc0':uc.e≠0
     . have hne:(uc.e !=0)=true:=by simp only[bne_iff_ne,ne_eq];exact hc0'
       have HF:Hid (TdA No B w b (rowB bs n2) R (.returned (.tuple #[.slice none 0 0,.slice none 0 0])) wQ):=Ab (by
        have hRR:R=(([],[]),uc):=by rw[<-Aa HR2];unfold Ke;rw[Aa HUC,if_pos hc0']
        rw[hRR];exact⟨Aa HCLO _ _ (Aa hVQ),.inl ⟨hc0',rfl⟩⟩)
       generalize uc.e=ue at*;go_wp2;go_ret2;exact Aa HF
     have hce:uc.e=0:=by omega
     rw[hce]at c4q
     have hks:uj.e=0/\errL s=0/\uc=uj:=by
      have hq:=Aa HUC;unfold Qa at hq
      by_cases hx:uj.e=0/\errL s≠0
      . rw[if_pos hx]at hq;rw[<-hq]at hce;exact absurd hce (Bm (by decide))
      . rw[if_neg hx]at hq;dsimp only at hq;refine⟨by rw[hq];exact hce, ?_,hq.symm⟩
        by_cases h5:errL s=0
        . exact h5
        . exact absurd ⟨by rw[hq];exact hce,h5⟩ hx
     obtain⟨hje,hjs,rfl⟩:=hks;have hmn:=Aa HBE hje;have hGS:=Ch hjs;have HGS:=Ab hGS;obtain⟨tot,htot⟩:∃tot,m0+257+(n0+1)=tot:=⟨_,rfl⟩
     have HTOT:=Ab htot;have htb:tot<=316/\257<=tot:=by omega
     obtain⟨L,v,hLv⟩:∃L v,ulens (rowB bs n2) s tot tot [] uc=(L,v):=⟨_,_,rfl⟩
     have HRR:Hid (R=Gl (m0+257) (L,v)):=Ab (by
      rw[<-Aa HR2];unfold Ke;rw[Aa HUC,if_neg (fun hx=>hx hce),htot,hLv])
     have HLV:=Ab hLv;have hrsQ:=(Aa hVQ).below.size;clear hLv HBE HR2 HUC HBEE hc0' htot;go_wp2_with fail
     refine(Jm (some ⟨N,0,none⟩) 19 19 s wQ hsl19 (Aa hRQ) hGS).mono ?_;rintro e w7 ⟨mb,nn,rfl,hmb,hMB,hB7⟩;have V7:=Ab ((Aa hVQ).newer (by omega) (hB7.mono (by omega)));rw[show 19=s.length from hsl19.symm]at hMB;have M7:=Ab hMB;have hmbN:N<=mb:=by omega
     have hmbb:mb≠b:=by have:=(Aa hVQ).is.lt;omega
     have hms:=(hMB.lt)
     clear hMB hB7;go_wp2;go_loopw [11,12,13,14] (fun v11 _ _ _ wr=>∃(l:List Int) (F:Nat) (uj:US),l.length<=460/\Hid (ulens (rowB bs n2) s tot F l uj=(L,v))/\Hid (uj.e=0->tot<=l.length+F/\l.length<=tot)/\Hid (UUp (N1 No N) B wP b (rowB bs n2) uj wr)/\Hid (wr.ownsRow N 3 1 v11 l.length (iv l))/\Hid (Em wr mb nn (Fg s s.length))/\Hid (uj.p<=(rowB bs n2).length)) (fun v11 _ _ _ _=>1000-Z8l v11)
     case atStart=>exact⟨[],tot,uc,by simp,HLV,Ab (fun _=>⟨by simp,by simp⟩),V7,Ab (World.ownsRow_nil _ _ _ _),M7,hpj⟩
     case round=>
      obtain⟨l,F,uj,hl460,hL,hF,hV,hO,hM,hpj⟩:=hrel;obtain⟨aL,cL,rfl⟩:=MT (Aa hO);obtain⟨_,_,c4u,_⟩:=(Aa hV).is.cell;obtain⟨LN,hLN⟩:∃LN,l.length=LN:=⟨_,rfl⟩
      by_cases hgo:l.length<tot/\uj.e=0
      . obtain⟨hlt,huj⟩:=hgo;obtain⟨hF2,hle2⟩:=Aa hF huj;rw[huj]at c4u
        cases F with
        |zero=>exact absurd hF2 (by omega)
        |succ F=>
         obtain⟨k,x,ek⟩:∃k x,uplace s (rowB bs n2) uj=(k,x):=⟨_,_,rfl⟩
         obtain⟨vv,tm,y,eky⟩:∃vv tm y,ukind (rowB bs n2) l k x=(vv,tm,y):=⟨_,_,_,rfl⟩
         have htm:=SX (rowB bs n2) l k x;rw[eky]at htm;simp only at htm
         obtain⟨z,hz⟩:∃z,(if y.e=0/\tot<l.length+tm then Am 8 y else y)=z:=⟨_,rfl⟩
         have HNX:Hid (ulens (rowB bs n2) s tot F (l++List.replicate tm vv) z=(L,v)):=Ab (by
          have h1:=Aa hL;rw[ulens,if_pos ⟨hlt,huj⟩]at h1;unfold ustep Td at h1;rw[ek]at h1;simp only[eky,hz]at h1;exact h1)
         have hpx:=SV s (rowB bs n2) uj (Aa hpj);rw[ek]at hpx;simp only at hpx
         have hpy:=TB (rowB bs n2) l k x hpx;rw[eky]at hpy;simp only at hpy
         have hpz:z.p<=(rowB bs n2).length:=by
          rw[<-hz]
          split
          . rw[Wl];exact hpy
          . exact hpy
         have HZ0:Hid (z.e=0->l.length+tm<=tot):=Ab (fun h1=>by
          rw[<-hz]at h1
          by_cases hx:y.e=0/\tot<l.length+tm
          . rw[if_pos hx]at h1;exact absurd h1 (Bm (by decide))
          . rw[if_neg hx]at h1
            by_cases h2:tot<l.length+tm
            . exact absurd ⟨h1,h2⟩ hx
            . omega)
         have HPL:=Ab (Km (N1 No N) B b mb nn n2 s bs uj wr (Aa hV).is (Aa HGS) hl hn2 (by have:=Aa hpj;omega) (Aa hM) hmbb);rw[ek]at HPL;have hT0:=Aa HTOT;have hltI:(LN:Int)<(m0:Int)+257+((n0:Int)+1):=by omega
         have HLN:=Ab hLN;have HEKY:=Ab eky;have HZ:=Ab hz;rw[hLN]at hO hlt hle2 hF2 hl460 ⊢;clear hL hF ek eky hz hLN hT0;go_wp2_with fail
         refine(Aa HPL).mono ?_;rintro e w8 ⟨rfl,hU8⟩;have V8:=Ab ((Aa hV).trans hU8);have O8:=Ab (hU8.own (Aa hO));have M8:=Ab (hU8.book (Aa hM) hmbN);clear hU8 HPL hV hO hM;go_upto_block 4 with fail
         go_cut [13,14] (fun v13 v14 wc=>v13=.int .i64 vv/\v14=.int .i64 (tm:Int)/\Hid (UUp (N1 No N) B wP b (rowB bs n2) y wc)/\Hid (wc.ownsRow N 3 1 (.slice aL LN cL) LN (iv l))/\Hid (Em wc mb nn (Fg s s.length)))
         case first=>
          by_cases h16:k=16
          . subst h16
            by_cases hl0:LN=0
            . have hk:(vv,tm,y)=((16:Int),1,Am 8 x):=by rw[<-Aa HEKY];unfold ukind;rw[if_pos rfl,if_pos (by rw[Aa HLN];exact hl0)]
              obtain⟨rfl,hk2⟩:=VN hk;obtain⟨rfl,rfl⟩:=VN hk2;have hl0I:((LN:Int)==0)=true:=by rw[beq_iff_eq];omega
              have HWR:=Ab (Dn (N1 No N) B b (rowB bs n2) x 8 w8 (Aa V8).is);clear hk hk2 HEKY HZ HZ0 HNX hl0;go_wp2_with fail
              refine(Aa HWR).mono ?_;rintro e w9 ⟨rfl,hU9⟩;have V9:=Ab ((Aa V8).trans hU9);have O9:=Ab (hU9.own (Aa O8));have M9:=Ab (hU9.book (Aa M8) hmbN);clear hU9;go_wp2;go_meet
              exact⟨rfl,rfl,V9,O9,M9⟩
            . obtain⟨r,y',e2⟩:∃r y,uget (rowB bs n2) 2 x=(r,y):=⟨_,_,rfl⟩
              have hk:(vv,tm,y)=(l.getD (l.length-1) 0,3+r,y'):=by rw[<-Aa HEKY];unfold ukind;rw[if_pos rfl,if_neg (by rw[Aa HLN];exact hl0),e2]
              obtain⟨hvv,hk2⟩:=VN hk;obtain⟨rfl,rfl⟩:=VN hk2;obtain⟨gL,cL',eL,hgL,hgL2⟩:=Ba (Aa O8) (by omega)
              cases eL
              obtain⟨q,hq⟩:∃q,LN=q+1:=⟨LN-1,by omega⟩
              have cl8:w8.cell? ⟨gL,q,none⟩=some (.int .i64 vv):=by
               rw[(Aa O8).cellAt q (by omega),hvv,Aa HLN,hq,YA];have:q<l.length:=by rw[Aa HLN];omega
               simp[iv,List.getD,this]
              have hl0I:((LN:Int)==0)=false:=by rw[beq_eq_false_iff_ne];omega
              have e1:((LN:Int)-1).toNat=q:=by omega
              have hM1:1<=LN:=by omega
              have hc1:(1:Int)<=(LN:Int):=by omega
              have hc2:¬(LN:Int)<=(LN:Int)-1:=by omega
              have hc3:(LN:Int)-1<(LN:Int):=by omega
              have hw1:IntKind.i64.wrap ((LN:Int)-1)=(LN:Int)-1:=by simp[IntKind.wrap,IntKind.signed,IntKind.bits];omega
              have HGT:=Ab (fun i=>Hm (N1 No N) B b 2 _ x (w8.drewN i) ((UUp.refl (Aa V8).is).drewN i).is (by omega) hrl hpx r y e2);have hr2:r<=135:=by omega
              have hw3:IntKind.i64.wrap (3+(r:Int))=3+(r:Int):=by simp[IntKind.wrap,IntKind.signed,IntKind.bits];omega
              have HGD:=Ab (fun i=>(UUp.refl (Aa V8).is).drewN i);clear hk hk2 HEKY HZ HZ0 HNX hq hvv e2;go_wp2;go_region_held3 (fun w'=>w'.cell? ⟨gL,q,none⟩=some (.int .i64 vv)) (first|assumption|simp[*]) (first|(go_at_call 91;refine(Aa HGT _).mono ?_;rintro e w9 ⟨rfl,hU9⟩;have V9:=Ab ((Aa V8).trans ((Aa HGD _).trans hU9));have O9:=Ab (((Aa HGD _).trans hU9).own (Aa O8));have M9:=Ab (((Aa HGD _).trans hU9).book (Aa M8) hmbN);have cl9:=(World.cell?_of_block (a:=⟨gL,q,none⟩) (((Aa HGD _).trans hU9).kp gL hgL2 (.inr hgL))).trans cl8;clear hU9))
              go_wp2;go_meet
              exact⟨rfl,by simp,V9,O9,M9⟩
          have k16:((k:Int)==16)=false:=by rw[beq_eq_false_iff_ne];omega
          by_cases h17:k=17
          . subst h17;clear k16;obtain⟨r,y',e2⟩:∃r y,uget (rowB bs n2) 3 x=(r,y):=⟨_,_,rfl⟩
            have hk:(vv,tm,y)=((0:Int),3+r,y'):=by rw[<-Aa HEKY];unfold ukind;simp only[e2];rfl
            obtain⟨rfl,hk2⟩:=VN hk;obtain⟨rfl,rfl⟩:=VN hk2;have HGT:=Ab (Hm (N1 No N) B b 3 _ x w8 (Aa V8).is (by omega) hrl hpx r y e2);have hr2:r<=135:=by omega
            clear hk hk2 HEKY HZ HZ0 HNX e2;go_wp2_with fail
            refine(Aa HGT).mono ?_;rintro e w9 ⟨rfl,hU9⟩;have V9:=Ab ((Aa V8).trans hU9);have O9:=Ab (hU9.own (Aa O8));have M9:=Ab (hU9.book (Aa M8) hmbN);clear hU9;go_wp2;go_meet
            exact⟨rfl,by simp,V9,O9,M9⟩
          have k17:((k:Int)==17)=false:=by rw[beq_eq_false_iff_ne];omega
          by_cases h18:k=18
          . subst h18;clear k16 k17;obtain⟨r,y',e2⟩:∃r y,uget (rowB bs n2) 7 x=(r,y):=⟨_,_,rfl⟩
            have hk:(vv,tm,y)=((0:Int),11+r,y'):=by rw[<-Aa HEKY];unfold ukind;simp only[e2];rfl
            obtain⟨rfl,hk2⟩:=VN hk;obtain⟨rfl,rfl⟩:=VN hk2;have HGT:=Ab (Hm (N1 No N) B b 7 _ x w8 (Aa V8).is (by omega) hrl hpx r y e2);have hr2:r<=135:=by omega
            clear hk hk2 HEKY HZ HZ0 HNX e2;go_wp2_with fail
            refine(Aa HGT).mono ?_;rintro e w9 ⟨rfl,hU9⟩;have V9:=Ab ((Aa V8).trans hU9);have O9:=Ab (hU9.own (Aa O8));have M9:=Ab (hU9.book (Aa M8) hmbN);clear hU9;go_wp2;go_meet
            exact⟨rfl,by simp,V9,O9,M9⟩
          have k18:((k:Int)==18)=false:=by rw[beq_eq_false_iff_ne];omega
          have hk:(vv,tm,y)=((k:Int),1,x):=by rw[<-Aa HEKY];unfold ukind;rw[if_neg h16,if_neg h17,if_neg h18]
          obtain⟨rfl,hk2⟩:=VN hk;obtain⟨rfl,rfl⟩:=VN hk2;clear hk hk2 HEKY HZ HZ0 HNX;go_wp2;go_meet
          exact⟨rfl,rfl,V8,O8,M8⟩
         case rest=>
         rename World=>wS
         obtain⟨rfl,rfl,V9,O9,M9⟩:=hcut;clear V8 O8 M8 HEKY;obtain⟨_,_,c4y,_⟩:=(Aa V9).is.cell;obtain⟨bz,hbz⟩:∃bz,((y.e==0)&&decide (tot<LN+tm))=bz:=⟨_,rfl⟩
         have HBZ:=Ab hbz;have hT0:=Aa HTOT;clear hbz;go_upto_region 27 with fail
         go_cut [131] (fun v131 wc=>v131=.bool bz/\wc=wS)
         case first=>
          by_cases h0:y.e=0
          . rw[h0]at c4y;have hb9:decide (tot<LN+tm)=bz:=by have:=Aa HBZ;rw[h0]at this;simpa using this
            have hb8:decide ((m0:Int)+257+((n0:Int)+1)<(LN:Int)+(tm:Int))=bz:=by
             rw[<-hb9,decide_eq_decide];omega
            clear hb9 HBZ HZ HZ0 HNX;go_wp2;go_meet
            exact⟨by first|rfl|rw[hb8],rfl⟩
          . have hb0:(y.e==0)=false:=by rw[beq_eq_false_iff_ne];exact h0
            have hbb:bz=false:=by rw[<-Aa HBZ,hb0];rfl
            subst hbb;clear HBZ HZ HZ0 HNX;generalize y.e=ye at*;go_wp2;go_meet
            exact⟨rfl,rfl⟩
         case rest=>
         obtain⟨rfl,hwq⟩:=hcut;obtain rfl:wS=wc:=hwq.symm;clear hwq;go_upto_if 131 with (fail)
         go_cut [11] (fun v11 wc=>v11=.slice aL LN cL/\Hid (UUp (N1 No N) B wP b (rowB bs n2) z wc)/\Hid (wc.ownsRow N 3 1 (.slice aL LN cL) LN (iv l))/\Hid (Em wc mb nn (Fg s s.length)))
         case first=>
          cases bz with
          |true=>
           have hx:=Aa HBZ;rw[ZM,beq_iff_eq,decide_eq_true_iff]at hx;have HWR:=Ab (Dn (N1 No N) B b (rowB bs n2) y 8 wS (Aa V9).is);have HX:Hid (Am 8 y=z):=Ab (by rw[<-Aa HZ,Aa HLN,if_pos hx]);clear hx HBZ HZ HZ0 HNX;go_wp2_with fail
           refine(Aa HWR).mono ?_;rintro e w6 ⟨rfl,hU6⟩;have V6:=Ab ((Aa V9).trans hU6);have O6:=Ab (hU6.own (Aa O9));have M6:=Ab (hU6.book (Aa M9) hmbN);rw[Aa HX]at V6;clear hU6;go_wp2;go_meet
           exact⟨rfl,V6,O6,M6⟩
          |false=>
           have hx:¬(y.e=0/\tot<LN+tm):=fun hx=>by
            have:=Aa HBZ
            rw[hx.1,decide_eq_true hx.2]at this
            cases this
           have HX:Hid (y=z):=Ab (by rw[<-Aa HZ,Aa HLN,if_neg hx]);rw[Aa HX]at V9;clear hx HBZ HZ HZ0 HNX;go_wp2;go_meet
           exact⟨rfl,V9,O9,M9⟩
         case rest=>
         rename World=>wT
         obtain⟨rfl,V9,O9,M9⟩:=hcut;have hys:=(Aa V9).below.size;have hNy:N<=wT.heap.size:=by omega
         have hLb:LN<=316:=by omega
         clear HBZ HZ c4y c4u;go_wp2_with fail
         refine(Fp vv tm wT (by omega) (by omega)).mono ?_;rintro e wz ⟨rfl,hRz,hBz,hgz⟩;have Vz:=Ab ((Aa V9).newer (by omega) (hBz.mono hNy));have Oz:=Ab (Au (Aa O9) (fun g hg=>hBz.block g ((Aa O9).lt g hg).2));have Mz:=Ab (Wc (Aa M9) hBz (Aa M9).lt);have hzs:=hBz.size;have RZ:Hid (∀j u,(iv (List.replicate tm vv))[j]? =some u->wz.cell? ((⟨wT.heap.size+1,0,none⟩:Addr).add j)=some u):=Ab (C2 hRz);clear hRz hBz;go_wp2_with (at_builtin;refine wpList_append_own_at _ rfl (.tmp 134) (.tmp 138) 76 rfl N 3 i0 (.int .i64 0) 1 8 Tryz.underlying76 hi hz0 hz1 hz2 rfl (by decide) _ LN (iv l) rfl (Aa Oz) ⟨wT.heap.size+1,0,none⟩ tm tm (iv (List.replicate tm vv)) rfl (by simp) (Aa RZ) (OC _) (by unfold maxLen;omega) (by omega) (by omega) ?_)
         intro v' wa hOa hgrow _ _;have ea:iv (l++List.replicate tm vv)=iv l++iv (List.replicate tm vv):=by rw[iv,iv,iv,WU]
         have hBa:Below N wz wa:=(Below.refl N wz).grown hgrow (by omega) (fun g e=>((Aa Oz).lt g e).1);have Va:=Ab ((Aa Vz).newer (by omega) hBa);have Ma:Hid (Em wa mb nn (Fg s s.length)):=Ab ((Aa Mz).kept hgrow (FO (Aa Oz) (Aa Mz)));have Oa:Hid (wa.ownsRow N 3 1 v' (l++List.replicate tm vv).length (iv (l++List.replicate tm vv))):=Ab (by rw[VE,XD,ea,Aa HLN];first|exact hOa|(rw[Z6z];exact hOa));clear hOa hgrow hBa;have hLN9:=Aa HLN;have HLL:Hid ((l++List.replicate tm vv).length=LN+tm):=Ab (by rw[VE,XD,hLN9]);clear hLN9;go_wp2;go_roundw
         case rel=>
          refine⟨l++List.replicate tm vv,F,z,by rw[Aa HLL];omega,HNX,Ab (fun hze=> ?_),Va,Oa,Ma,Ab hpz⟩;have h5:=Aa HZ0 hze;rw[Aa HLN]at h5;rw[Aa HLL];omega
         case measure=>
          rw[Z45 (Aa Oa),Aa HLL];show 1000-(LN+tm)<1000-LN
          omega
      . have hex:L=l/\v=uj:=by
         have h1:=Aa hL
         cases F with
         |zero=>rw[ulens]at h1;exact⟨(VN h1).1.symm,(VN h1).2.symm⟩
         |succ F=>rw[ulens,if_neg hgo]at h1;exact⟨(VN h1).1.symm,(VN h1).2.symm⟩
        obtain⟨rfl,rfl⟩:=hex
        by_cases hve:v.e≠0
        . have hne:(v.e !=0)=true:=by simp only[bne_iff_ne,ne_eq];exact hve
          have hne2:(v.e==0)=false:=by rw[beq_eq_false_iff_ne];exact hve
          have HF:Hid (TdA No B w b (rowB bs n2) R (.returned (.tuple #[.slice none 0 0,.slice none 0 0])) wr):=Ab (by
           have hRR:R=(([],[]),v):=by rw[Aa HRR];unfold Gl;rw[if_pos hve]
           rw[hRR];exact⟨Aa HCLO _ _ (Aa hV),.inl ⟨hve,rfl⟩⟩)
          rw[hLN];have HT0:=Aa HTOT;clear hve hgo hL hF;generalize v.e=ue at*
          by_cases hlt2:LN<tot
          . have hltI:(LN:Int)<(m0:Int)+257+((n0:Int)+1):=by omega
            go_wp2;go_ret2;exact Aa HF
          . have hltI:¬(LN:Int)<(m0:Int)+257+((n0:Int)+1):=by omega
            go_wp2;go_ret2;exact Aa HF
        . have hv0:v.e=0:=by omega
          have hLe:L.length=tot:=by
           have h5:=(Aa hF hv0).2;have h6:¬L.length<tot:=fun h7=>hgo ⟨h7,hv0⟩
           omega
          have hT0:=Aa HTOT;rw[hv0]at c4u;obtain⟨gL,cL',eL,hgL,hgL2⟩:=Ba (Aa hO) (by omega)
          cases eL
          have c256:wr.cell? ⟨gL,256,none⟩=some (.int .i64 (L.getD 256 0)):=by
           rw[(Aa hO).cellAt 256 (by omega)];have:256<L.length:=by omega
           simp[iv,List.getD,this]
          have hcap:L.length<=cL:=by
           rcases(Aa hO).2 with ⟨h0,_⟩|⟨_,_,_,h1,_,_,h3,_⟩
           . cases h0
           . cases h1;exact h3
          have hRow:Row .i64 wr gL 0 L:=by
           rcases RowIn.iv (Aa hO)with h0|⟨b',o',e1,_,h3⟩
           . rw[h0]at hLe;simp at hLe;omega
           . cases e1;exact h3
          obtain⟨M,hM0⟩:∃M,m0+257=M:=⟨_,rfl⟩
          have hMI:(m0:Int)+257=(M:Int):=by omega
          have hRA:Hid (RowIn .i64 wr (some ⟨gL,0,none⟩) (L.take M)):=Ab (.inr ⟨gL,0,rfl,hgL2,fun j hj=>by
           rw[VL]at hj;have:=hRow j (by omega)
           rw[this,List.getD,List.getD,List.getElem?_take,if_pos (by omega)]⟩)
          have hRC:Hid (RowIn .i64 wr (some ⟨gL,M,none⟩) (L.drop M)):=Ab (.inr ⟨gL,M,rfl,hgL2,fun j hj=>by
           rw[VQ]at hj;have:=hRow (M+j) (by omega)
           rw[WG]at this;rw[this,List.getD,List.getD,XJ]⟩)
          have hlA:(L.take M).length=M:=by rw[VL];omega
          have hlC:(L.drop M).length=n0+1:=by rw[VQ];omega
          have HRB:Hid ((L.getD 256 0=0\/errL (L.take M)≠0\/errL (L.drop M)≠0)->R=(([],[]),Am 8 v)):=Ab (fun hx=>by rw[Aa HRR];unfold Gl;rw[if_neg (fun h7=>h7 hv0),hM0,if_pos hx]);have HRG:Hid (¬(L.getD 256 0=0\/errL (L.take M)≠0\/errL (L.drop M)≠0)->R=((L.take M,L.drop M),v)):=Ab (fun hx=>by rw[Aa HRR];unfold Gl;rw[if_neg (fun h7=>h7 hv0),hM0,if_neg hx]);have HWR:=Ab (Dn (N1 No N) B b (rowB bs n2) v 8 wr (Aa hV).is);have HC1:=Ab (Ff (some ⟨gL,0,none⟩) M cL (L.take M) wr hlA (by omega) (Aa hRA));have HC2:=Ab (Ff (some ⟨gL,M,none⟩) (n0+1) (cL-M) (L.drop M) wr hlC (by omega) (Aa hRC));have hltI:¬(LN:Int)<(M:Int)+((n0:Int)+1):=by omega
          have hsub:LN-M=n0+1:=by omega
          have h257:(256:Int)<(LN:Int):=by omega
          have hML:(M:Int)<=(LN:Int):=by omega
          have hMc:(M:Int)<=(cL:Int):=by omega
          have hMn:M<=LN:=by omega
          have hcM:¬cL=M:=by omega
          have hcL:LN<=cL:=by omega
          have HV0:=Ab hv0;rw[hLN];obtain⟨x256,hx256⟩:∃x,L.getD 256 0=x:=⟨_,rfl⟩
          obtain⟨ea,hea⟩:∃x,errL (L.take M)=x:=⟨_,rfl⟩
          obtain⟨ec,hec⟩:∃x,errL (L.drop M)=x:=⟨_,rfl⟩
          rw[hx256]at c256 HRB HRG;rw[hea]at HC1 HRB HRG;rw[hec]at HC2 HRB HRG;have HLA:=Ab hlA;have HLC:=Ab hlC;clear hRow hcap hlA hlC hve hgo hL hF hx256 hea hec hLe hLN hv0 hT0 HRR HLV hGS
          by_cases k1:x256=0
          . subst k1;have HR5:=Ab (Aa HRB (.inl rfl));go_wp2_with fail
            refine(Aa HWR).mono ?_;rintro e wB ⟨rfl,hUB⟩;have HF:Hid (TdA No B w b (rowB bs n2) R (.returned (.tuple #[.slice none 0 0,.slice none 0 0])) wB):=Ab (by rw[Aa HR5];exact⟨Aa HCLO _ _ ((Aa hV).trans hUB),.inl ⟨Bm (by decide),rfl⟩⟩);clear hUB;go_wp2;go_ret2;exact Aa HF
          have k1b:(x256==0)=false:=by rw[beq_eq_false_iff_ne];exact k1
          by_cases k2:ea=0
          . subst k2
            by_cases k3:ec=0
            . subst k3;have HR5:=Ab (Aa HRG (by intro hx;rcases hx with hx|hx|hx;exact k1 hx;exact hx rfl;exact hx rfl));clear k1;go_wp2_with fail
              refine(Aa HC1).mono ?_;rintro e w9 ⟨rfl,hw9⟩;obtain rfl:wr=w9:=hw9.symm;clear hw9;go_wp2_with fail
              refine(Aa HC2).mono ?_;rintro e w10 ⟨rfl,hw10⟩;obtain rfl:wr=w10:=hw10.symm;clear hw10;go_wp2;go_region
              all_goals go_wp2
              go_ret2;rw[Aa HR5];refine⟨(Aa HCLO _ _ (Aa hV)).drewN 1,.inr ⟨some ⟨gL,0,none⟩,cL,some ⟨gL,M,none⟩,cL-M,Aa HV0, ?_, ?_, ?_⟩⟩
              . rw[Aa HLA,Aa HLC,<-hsub];rfl
              . exact Aa hRA
              . exact Aa hRC
            . have k3b:(ec !=0)=true:=by simp only[bne_iff_ne,ne_eq];exact k3
              have HR5:=Ab (Aa HRB (.inr (.inr k3)));clear k1;go_wp2_with fail
              refine(Aa HC1).mono ?_;rintro e w9 ⟨rfl,hw9⟩;obtain rfl:wr=w9:=hw9.symm;clear hw9;go_wp2_with fail
              refine(Aa HC2).mono ?_;rintro e w10 ⟨rfl,hw10⟩;obtain rfl:wr=w10:=hw10.symm;clear hw10;go_wp2_with fail
              refine(Aa HWR).mono ?_;rintro e wB ⟨rfl,hUB⟩;have HF:Hid (TdA No B w b (rowB bs n2) R (.returned (.tuple #[.slice none 0 0,.slice none 0 0])) wB):=Ab (by rw[Aa HR5];exact⟨Aa HCLO _ _ ((Aa hV).trans hUB),.inl ⟨Bm (by decide),rfl⟩⟩);clear hUB;go_wp2;go_ret2;exact Aa HF
          . have k2b:(ea !=0)=true:=by simp only[bne_iff_ne,ne_eq];exact k2
            have HR5:=Ab (Aa HRB (.inr (.inl k2)));clear k1;go_wp2_with fail
            refine(Aa HC1).mono ?_;rintro e w9 ⟨rfl,hw9⟩;obtain rfl:wr=w9:=hw9.symm;clear hw9;go_wp2_with fail
            refine(Aa HWR).mono ?_;rintro e wB ⟨rfl,hUB⟩;have HF:Hid (TdA No B w b (rowB bs n2) R (.returned (.tuple #[.slice none 0 0,.slice none 0 0])) wB):=Ab (by rw[Aa HR5];exact⟨Aa HCLO _ _ ((Aa hV).trans hUB),.inl ⟨Bm (by decide),rfl⟩⟩);clear hUB;go_wp2;go_ret2;exact Aa HF
theorem Rb {w:World}{b e size n:Nat}{v:Value}{xs:List Value}(h:w.ownsRow (b+1) e size v n xs):v.ownBlock=none\/v.ownBlock≠some b:=by
 cases hx:v.ownBlock with
 |none=>exact .inl rfl
 |some g=>
  refine .inr (fun e=> ?_);have:=(h.lt g hx).1
  cases e
  omega
theorem UIs.keepK {No:Nat->Prop}{B b k:Nat}{w w3:World}{row:List Bool}{u:US}{ov kv v':Value}{X:Obj}(hbb:B<=b)(hbn:¬No b)(hh:w.heap[b]? =some (.cells (ucells row u ov kv) 110 (0,0)))
 (hov:w.ownsRow (b+1) 5 1 ov u.out.length (u8s u.out)) (hkv:w.ownsRow (b+1) 3 1 kv u.ks.length (i64s u.ks)) (hap:ov.ownBlock=none\/ov.ownBlock≠kv.ownBlock) (hn1:∀g,ov.ownBlock=some g->¬No g) (hn2:∀g,kv.ownBlock=some g->¬No g) (hNo:∀g,w.heap.size<=g->¬No g)
 (hO3:w3.ownsRow (b+1) 3 1 v' (u.ks.length+1) (i64s u.ks++ [.int .i64 (k:Int)])) (hgrow:(w.alloc X).grownBy w3 kv.ownBlock) (hspot:v'.ownBlock=kv.ownBlock\/v'.ownBlock=some (w.heap.size+1)):
 w3.cell? ⟨b,3,none⟩=some kv/\w3.frozen? ⟨b,3,none⟩=false/\UUp No B w b row (ukept k u) (w3.setCell ⟨b,3,none⟩ v'):=by
 have hbl:b<w.heap.size:=(VK.1 hh).1;have hVb:=Rb hkv
 have hgb:w3.heap[b]? =some (.cells (ucells row u ov kv) 110 (0,0)):=by
  rw[hgrow.block b (by simp;omega) (fun e=>by rcases hVb with h|h;rw[h]at e;cases e;exact h e.symm)];exact(Below.heap_alloc w _ b hbl).trans hh
 have hgw:∀g,g<w.heap.size->kv.ownBlock≠some g->w3.heap[g]? =w.heap[g]? :=fun g hg hne=>by
  rw[hgrow.block g (by simp;omega) (fun e=>hne e.symm)];exact Below.heap_alloc w _ g hg
 have hsz:=hgrow.size;have hset:=Ad w3 b 3 v';simp only[World.size_alloc]at hsz
 have ho3:w3.ownsRow (b+1) 5 1 ov u.out.length (u8s u.out):=Au hov (fun g hg=>hgw g (hov.lt g hg).2 (fun e=>by
  rcases hap with h|h
  . rw[h]at hg;cases hg
  . exact h (by rw[hg];exact e.symm)))
 refine⟨Ac hgb,frozen_of_row w3 b 3 _ _ hgb,⟨⟨hbb,hbn,ov,v', ?_,ho3.kept hset (Rb hov), ?_, ?_,hn1, ?_⟩, ?_, ?_⟩⟩
 . rw[heap_setCell_same w3 b 3 _ _ _ hgb];rfl
 . have:=hO3.kept hset (Rb hO3)
   show (w3.setCell ⟨b,3,none⟩ v').ownsRow (b+1) 3 1 v' (u.ks++ [k]).length (i64s (u.ks++ [k]))
   have e:i64s (u.ks++ [k])=i64s u.ks++ [.int .i64 (k:Int)]:=by simp[i64s]
   rw[e,VE];exact this
 . rcases hspot with h|h
   . rw[h];exact hap
   . cases hx:ov.ownBlock with
     |none=>exact .inl rfl
     |some g=>
      refine .inr (fun e=> ?_);rw[h]at e;have:=(hov.lt _ hx).2
      cases e
      omega
 . intro g hg
   rcases hspot with h|h
   . exact hn2 g (by rw[<-h];exact hg)
   . rw[h]at hg
     cases hg
     exact hNo _ (by omega)
 . have h1:Below B w w3:=((Below.refl B w).alloc (by omega) X).grown hgrow (by simp;omega) (fun g e=>by have:=(hkv.lt g e).1;omega);exact h1.setCell hbb _
 . intro g hg hn;rw[heap_setCell_other w3 _ _ _ (fun e=>hbn (by have:g=b:=e;rw[<-this];exact hn))];exact hgw g hg (fun e=>hn2 g e hn)
def N2 (No:Nat->Prop)(N M:Nat):Nat->Prop:=fun g=>No g\/ (N<=g/\g<M)
theorem UUp.closed2 {No:Nat->Prop}{B b N M:Nat}{w0 w:World}{row:List Bool}{u:US}(h:UUp (N2 No N M) B w0 b row u w):UUp No B w0 b row u w:=
 ⟨h.is.more (fun e=>h.is.no (.inl e)) (fun g hg=>.inl (.inl hg)),h.below,h.kp.weaken (fun g hg=>.inl hg)⟩
theorem UUp.prs {No:Nat->Prop}{B b N M g:Nat}{w w':World}{row:List Bool}{u:US}{l:List (Nat×Nat)}(h:UUp (N2 No N M) B w b row u w')(ho:Prs w g l)(hg:g<w.heap.size)(hN:N<=g)(hM:g<M):Prs w' g l:=by
 have hk:=h.kp g hg (.inr ⟨hN,hM⟩);intro j hj;have:=ho j hj
 exact⟨(World.cell?_of_block (a:=⟨g,j*2,none⟩) hk).trans this.1,(World.cell?_of_block (a:=⟨g,j*2+1,none⟩) hk).trans this.2⟩
theorem UUp.book2 {No:Nat->Prop}{B b N M mb nn:Nat}{w w':World}{row:List Bool}{u:US}{D:DataW Unit}(h:UUp (N2 No N M) B w b row u w')(hM:Em w mb nn D)(hm:N<=mb)(hm2:mb<M):Em w' mb nn D:=by
 have hlt:=hM.lt;obtain⟨es,clock,hb,F,hs,hD⟩:=hM;exact⟨es,clock,(h.kp mb hlt (.inr ⟨hm,hm2⟩)).trans hb,F,hs,hD⟩
theorem Lr {w w':World}{B g:Nat}{l:List (Nat×Nat)}(h:Prs w g l)(hB:Below B w w')(hg:g<B):Prs w' g l:=fun j hj=>
 ⟨(hB.cell (p:=⟨g,j*2,none⟩) hg).trans (h j hj).1,(hB.cell (p:=⟨g,j*2+1,none⟩) hg).trans (h j hj).2⟩
def Z16 (n b:Nat)(w:World):Nat:=8*n+1-((w.cell? ⟨b,1,none⟩).map (fun x=>(intOf x).toNat)).getD 0
theorem Jz {No:Nat->Prop}{B b n:Nat}{w:World}{row:List Bool}{u:US}(h:UIs No B w b row u):Z16 n b w=8*n+1-u.p:=by
 unfold Z16;rw[h.cell.2.1];simp[intOf]
end Go.Proofs.YtleocpdblhbimaaGreatDoor
