import Derived.Test.YtleocpdblhbimaaGreatDoorQ51
import Derived.Deep.RegionHeld3
set_option linter.unusedSimpArgs false
set_option maxHeartbeats 8000000
namespace Go.Proofs.YtleocpdblhbimaaGreatDoor
open Go.RowKit
set_option linter.unusedVariables false
set_option maxRecDepth 100000
theorem Zo (row:List Bool)(n:Nat)(u:US):(uget row n u).2.out=u.out/\(uget row n u).2.ks=u.ks/\u.p<=(uget row n u).2.p:=by
 unfold uget
 split
 . split
   . exact⟨rfl,rfl,VB _⟩
   . exact⟨rfl,rfl,ZS _ _⟩
 . exact⟨rfl,rfl,VB _⟩
theorem Om (x:Int)(u:US):(Am x u).out=u.out/\(Am x u).ks=u.ks/\(Am x u).p=u.p:=by
 unfold Am
 split<;>exact⟨rfl,rfl,rfl⟩
theorem BA (c:Nat)(u:US):(u.out.length<=3000->(Fd c u).out.length<=3000)/\(Fd c u).ks=u.ks/\(Fd c u).p=u.p:=by
 unfold Fd
 split
 . split
   . exact⟨fun h=>h,rfl,rfl⟩
   . rename_i h3
     exact⟨fun h=>by show (u.out++ [c]).length<=3000;rw[VE];simp only[VJ,WE];omega,rfl,rfl⟩
 . exact⟨fun h=>h,rfl,rfl⟩
theorem Wp (l:List Int)(row:List Bool)(u:US)(h:u.p<=row.length):(uplace l row u).2.out=u.out/\(uplace l row u).2.ks=u.ks/\u.p<=(uplace l row u).2.p/\(uplace l row u).2.p<=row.length:=by
 unfold uplace
 split
 . exact⟨rfl,rfl,ZS _ _,Xp l row u.p h⟩
 . exact⟨rfl,rfl,VB _,h⟩
theorem EI (row:List Bool)(k:Nat)(u:US)(h:u.e≠0):ustore row k u=u:=by
 cases k with
 |zero=>rfl
 |succ k=>rw[ustore,if_neg h]
theorem RM (l:Nat):((l:Int)==1)=decide (l=1):=by
 by_cases e:l=1
 . subst e;rfl
 . rw[decide_eq_false e,beq_eq_false_iff_ne];omega
def BkA (No:Nat->Prop)(B:Nat)(w:World)(b:Nat)(row:List Bool)(R:Bool×US)(e:Ending)(w':World):Prop:=e=.returned (.bool R.1)/\UUp No B w b row R.2 w'
theorem JH (No:Nat->Prop)(B b n2:Nat)(bs:List Nat)(u:US)(w:World)(h:UIs No B w b (rowB bs n2) u)(hn2:n2<=25000)(hp:u.p<=8*n2)(l k:Nat)(x1 x2:US)(hg1:uget (rowB bs n2) 1 u=(l,x1))(hg2:uget (rowB bs n2) 2 x1=(k,x2))(he2:x2.e≠0):
 Calls Tryz.prog 61 #[.pointer (some ⟨b,0,none⟩)] w fun e w'=>BkA No B w b (rowB bs n2) (true,x2) e w':=by
 have hN:=Af bs n2;have hrl:(rowB bs n2).length<=200000:=by omega
 have hp0:u.p<=(rowB bs n2).length:=by omega
 have hp1:=Gn _ 1 u hp0;rw[hg1]at hp1;have H:=Ab h;have HG1:=Ab hg1;have HG2:=Ab hg2;clear h hg1 hg2;go_enter Tryz.func61,Tryz.ntmps61
 go_wp2_with fail
 refine(Hm No B b 1 _ u w (Aa H) (by omega) hrl hp0 l x1 (Aa HG1)).mono ?_;rintro e w1 ⟨rfl,hU1⟩;have U1:=Ab hU1;clear hU1;go_wp2_with fail
 refine(Hm No B b 2 _ x1 w1 (Aa U1).is (by omega) hrl hp1 k x2 (Aa HG2)).mono ?_;rintro e w2 ⟨rfl,hU2⟩;have U2:=Ab ((Aa U1).trans hU2);clear hU2 U1;obtain⟨_,_,c42,_⟩:=(Aa U2).is.cell;have hne:(x2.e !=0)=true:=by simp only[bne_iff_ne,ne_eq];exact he2
 have HF:Hid (BkA No B w b (rowB bs n2) (true,x2) (.returned (.bool true)) w2):=Ab ⟨rfl,Aa U2⟩;clear he2 H HG1 HG2;generalize x2.e=ue at*;go_wp2;go_ret;exact Aa HF
theorem JI (No:Nat->Prop)(B b n2:Nat)(bs:List Nat)(u:US)(w:World)(h:UIs No B w b (rowB bs n2) u)(hn2:n2<=25000)(hp:u.p<=8*n2)(l k:Nat)(x1 x2:US)(hg1:uget (rowB bs n2) 1 u=(l,x1))(hg2:uget (rowB bs n2) 2 x1=(k,x2))(he2:x2.e=0)(hk:3<=k):
 Calls Tryz.prog 61 #[.pointer (some ⟨b,0,none⟩)] w fun e w'=>BkA No B w b (rowB bs n2) (true,Am 4 x2) e w':=by
 have hN:=Af bs n2;have hrl:(rowB bs n2).length<=200000:=by omega
 have hp0:u.p<=(rowB bs n2).length:=by omega
 have hp1:=Gn _ 1 u hp0;rw[hg1]at hp1;have H:=Ab h;have HG1:=Ab hg1;have HG2:=Ab hg2;have hk0:((k:Int)==0)=false:=by rw[beq_eq_false_iff_ne];omega
 have hk1:((k:Int)==1)=false:=by rw[beq_eq_false_iff_ne];omega
 have hk2:((k:Int)==2)=false:=by rw[beq_eq_false_iff_ne];omega
 clear h hg1 hg2 hk;go_enter Tryz.func61,Tryz.ntmps61
 go_wp2_with fail
 refine(Hm No B b 1 _ u w (Aa H) (by omega) hrl hp0 l x1 (Aa HG1)).mono ?_;rintro e w1 ⟨rfl,hU1⟩;have U1:=Ab hU1;clear hU1;go_wp2_with fail
 refine(Hm No B b 2 _ x1 w1 (Aa U1).is (by omega) hrl hp1 k x2 (Aa HG2)).mono ?_;rintro e w2 ⟨rfl,hU2⟩;have U2:=Ab ((Aa U1).trans hU2);clear hU2 U1;obtain⟨_,_,c42,_⟩:=(Aa U2).is.cell;have HWR:=Ab (Dn No B b (rowB bs n2) x2 4 w2 (Aa U2).is);have hue:(Am 4 x2).e=4:=by unfold Am;rw[if_pos he2]
 rw[he2]at c42;clear he2 H HG1 HG2;go_wp2_with fail
 refine(Aa HWR).mono ?_;rintro e w3 ⟨rfl,hU3⟩;have U3:=Ab ((Aa U2).trans hU3);clear hU3;obtain⟨_,_,c43,_⟩:=(Aa U3).is.cell;rw[hue]at c43;have HF:Hid (BkA No B w b (rowB bs n2) (true,Am 4 x2) (.returned (.bool true)) w3):=Ab ⟨rfl,Aa U3⟩;clear hue c42;go_wp2;go_ret;exact Aa HF
theorem RH (No:Nat->Prop)(B b n2:Nat)(bs:List Nat)(u:US)(w:World)(h:UIs No B w b (rowB bs n2) u)(hn2:n2<=25000)(hp:u.p<=8*n2)(ho:u.out.length<=3000)(hks:u.ks.length<=200000)(hNo:∀g,w.heap.size<=g->¬No g)(l:Nat)(x1 x2:US)(hg1:uget (rowB bs n2) 1 u=(l,x1))(hg2:uget (rowB bs n2) 2 x1=(0,x2))(he2:x2.e=0)(V:US)(hV:ustored (rowB bs n2) x2=V):
 Calls Tryz.prog 61 #[.pointer (some ⟨b,0,none⟩)] w fun e w'=>BkA No B w b (rowB bs n2) (decide (l=1),ukept 0 V) e w':=by
 obtain⟨i0,hi,hz0,hz1,hz2⟩:=info_parts Bv;have hN:=Af bs n2;have hrl:(rowB bs n2).length<=200000:=by omega
 have hp0:u.p<=(rowB bs n2).length:=by omega
 obtain⟨q2,q2l,q2o,q2k,q2e⟩:=Bn hg2 he2;obtain⟨q1,q1l,q1o,q1k,_⟩:=Bn hg1 q2e;obtain⟨r1,y1,e1⟩:∃r y,uget (rowB bs n2) 16 {x2 with p:=(x2.p+7)/8*8}=(r,y):=⟨_,_,rfl⟩
 obtain⟨r2,y2,e2⟩:∃r y,uget (rowB bs n2) 16 y1=(r,y):=⟨_,_,rfl⟩
 obtain⟨y3,e3⟩:∃y,(if y2.e=0/\r1+r2≠65535 then Am 4 y2 else y2)=y:=⟨_,rfl⟩
 have hst:ustore (rowB bs n2) r1 y3=V:=by rw[<-hV];unfold ustored;simp only[e1,e2,e3]
 have hpa:({x2 with p:=(x2.p+7)/8*8}:US).p<=(rowB bs n2).length:=by show (x2.p+7)/8*8<=_;omega
 have hp1:=Gn _ 16 _ hpa;rw[e1]at hp1;have hp2:=Gn _ 16 y1 hp1;rw[e2]at hp2;have o1:=Zo (rowB bs n2) 16 {x2 with p:=(x2.p+7)/8*8};rw[e1]at o1;have o2:=Zo (rowB bs n2) 16 y1;rw[e2]at o2
 have o3:y3.out=y2.out/\y3.ks=y2.ks/\y3.p=y2.p:=by
  rw[<-e3]
  split
  . exact Om 4 y2
  . exact⟨rfl,rfl,rfl⟩
 have hr1:=Fu (rowB bs n2) 16 {x2 with p:=(x2.p+7)/8*8};rw[e1]at hr1;have hr2:=Fu (rowB bs n2) 16 y1;rw[e2]at hr2;simp only at hp1 hp2 o1 o2 hr1 hr2
 have hy3p:y3.p<=(rowB bs n2).length:=by rw[o3.2.2];exact hp2
 have hy3o:y3.out.length<=3000:=by rw[o3.1,o2.1,o1.1,q2o,q1o];exact ho
 have hy3k:y3.ks=u.ks:=by rw[o3.2.1,o2.2.1,o1.2.1,q2k,q1k]
 have H:=Ab h;have HNo:=Ab hNo;have HG1:=Ab hg1;have HG2:=Ab hg2;have HE1:=Ab e1;have HE2:=Ab e2;have HE3:=Ab e3;have HST:=Ab hst;have HKS:=Ab hks;have hr1':r1<65536:=hr1;have hr2':r2<65536:=hr2;obtain⟨bt,hbt⟩:∃bt,((y2.e==0)&&decide (r1+r2≠65535))=bt:=⟨_,rfl⟩
 have HBT:=Ab hbt;clear h hNo hg1 hg2 hV q1 q2 q2k q1k q2o q1o o1 o2 o3 hks e1 e2 e3 hst hr1 hr2 hbt;go_enter Tryz.func61,Tryz.ntmps61
 go_wp2_with fail
 refine(Hm No B b 1 _ u w (Aa H) (by omega) hrl hp0 l x1 (Aa HG1)).mono ?_;rintro e w1 ⟨rfl,hU1⟩;have U1:=Ab hU1;clear hU1;go_wp2_with fail
 refine(Hm No B b 2 _ x1 w1 (Aa U1).is (by omega) hrl q1l 0 x2 (Aa HG2)).mono ?_;rintro e w2 ⟨rfl,hU2⟩;have U2:=Ab ((Aa U1).trans hU2);clear hU2;obtain⟨_,c12,c42,f2⟩:=(Aa U2).is.cell;rw[he2]at c42;have hpI:Hid (((x2.p:Int)+7)/8*8=(((x2.p+7)/8*8:Nat):Int)):=Ab (by omega);have U3:=Ab ((Aa U2).trans ((Aa U2).is.setP ((x2.p+7)/8*8)));go_wp2_with fail
 rw[Aa hpI];refine(Hm No B b 16 _ {x2 with p:=(x2.p+7)/8*8} _ (Aa U3).is (by omega) hrl hpa r1 y1 (Aa HE1)).mono ?_;rintro e w4 ⟨rfl,hU4⟩;have U4:=Ab ((Aa U3).trans hU4);clear hU4;go_wp2_with fail
 refine(Hm No B b 16 _ y1 w4 (Aa U4).is (by omega) hrl hp1 r2 y2 (Aa HE2)).mono ?_;rintro e w5 ⟨rfl,hU5⟩;have U5:=Ab ((Aa U4).trans hU5);clear hU5;obtain⟨_,_,c45,_⟩:=(Aa U5).is.cell;clear U1 U2 U3 U4 c12 c42 f2 HE1 HE2 HG1 HG2 H;go_upto_region 9 with fail
 go_cut [58] (fun v58 wc=>v58=.bool bt/\wc=w5)
 case first=>
  by_cases h0:y2.e=0
  . rw[h0]at c45
    have hbb:((r1:Int)+(r2:Int)!=65535)=bt:=by
     have:=Aa HBT
     rw[h0]at this;rw[<-this]
     by_cases h6:r1+r2=65535
     . rw[bne_eq_false_iff_eq.2 (by omega),decide_eq_false (by omega)];rfl
     . rw[bne_iff_ne.2 (by omega),decide_eq_true h6];rfl
    clear HBT HE3 HST;go_wp2;go_meet
    exact⟨rfl,rfl⟩
  . have hb0:(y2.e==0)=false:=by rw[beq_eq_false_iff_ne];exact h0
    have hbb:bt=false:=by rw[<-Aa HBT,hb0];rfl
    subst hbb;clear HBT HE3 HST;generalize y2.e=ue at*;go_wp2;go_meet
    exact⟨rfl,rfl⟩
 case rest=>
 obtain⟨rfl,hwq⟩:=hcut;obtain rfl:w5=wc:=hwq.symm;clear hwq;go_upto_if 58 with (fail)
 go_cut [7] (fun v7 wc=>v7=.int .i64 (r1:Int)/\Hid (UUp No B w b (rowB bs n2) y3 wc))
 case first=>
  cases bt with
  |true=>
   have hx:=Aa HBT;rw[ZM,beq_iff_eq,decide_eq_true_iff]at hx;have HWR:=Ab (Dn No B b (rowB bs n2) y2 4 w5 (Aa U5).is);have HX:Hid (Am 4 y2=y3):=Ab (by rw[<-Aa HE3,if_pos hx]);clear hx HBT HE3 HST;go_wp2_with fail
   refine(Aa HWR).mono ?_;rintro e w6 ⟨rfl,hU6⟩;have U6:=Ab ((Aa U5).trans hU6);rw[Aa HX]at U6;clear hU6;go_wp2;go_meet
   exact⟨rfl,U6⟩
  |false=>
   have hx:¬(y2.e=0/\r1+r2≠65535):=fun hx=>by
    have:=Aa HBT
    rw[hx.1,decide_eq_true hx.2]at this
    cases this
   have HX:Hid (y2=y3):=Ab (by rw[<-Aa HE3,if_neg hx]);rw[Aa HX]at U5;clear hx HBT HE3 HST;go_wp2;go_meet
   exact⟨rfl,U5⟩
 case rest=>
 rename World=>wP
 obtain⟨rfl,hUP⟩:=hcut;clear U5 c45 HBT HE3;go_upto_block 1 with (fail)
 go_cut [3] (fun v3 wc=>v3=.int .i64 (l:Int)/\Hid (UUp No B w b (rowB bs n2) V wc)/\Hid (V.ks=u.ks))
 case first=>
  go_wp2_with fail
  go_loopw [9] (fun v9 wr=>∃(i:Nat) (x:US),i<=r1/\v9=.int .i64 (i:Int)/\Hid (ustore (rowB bs n2) (r1-i) x=V)/\Hid (x.p<=(rowB bs n2).length)/\Hid (x.out.length<=3000)/\Hid (x.ks=u.ks)/\Hid (UUp No B w b (rowB bs n2) x wr)) (fun v9 _=>r1-(intOf v9).toNat)
  case atStart=>exact⟨0,y3,VH _,rfl,HST,Ab hy3p,Ab hy3o,Ab hy3k,hUP⟩
  case round=>
   obtain⟨i,x,hir,rfl,hst,hpx,hox,hkx,hU⟩:=hrel;obtain⟨_,_,c4x,_⟩:=(Aa hU).is.cell
   by_cases hxe:x.e=0
   . rw[hxe]at c4x
     by_cases hlt:i<r1
     . obtain⟨r,y,hgr⟩:∃r y,uget (rowB bs n2) 8 x=(r,y):=⟨_,_,rfl⟩
       have hst2:ustore (rowB bs n2) (r1-(i+1)) (Fd r y)=V:=by
        have:=Aa hst
        rw[show r1-i=(r1-(i+1))+1 by omega,ustore,if_pos hxe,hgr]at this;exact this
       have hyp:=Gn (rowB bs n2) 8 x (Aa hpx);have hyo:=Zo (rowB bs n2) 8 x;have hr8:=Fu (rowB bs n2) 8 x;rw[hgr]at hyp hyo hr8;simp only at hyp hyo hr8
       have hr8':r<256:=hr8;have hyo2:y.out.length<=3000:=by rw[hyo.1];exact Aa hox
       have HSO:=Ab (BA r y);have HST2:=Ab hst2;have HYK:Hid (y.ks=u.ks):=Ab (hyo.2.1.trans (Aa hkx));have hltI:(i:Int)<(r1:Int):=by omega
       clear hst2 hyo hr8 hst;go_wp2_with fail
       refine(Hm No B b 8 _ x wr (Aa hU).is (by omega) hrl (Aa hpx) r y hgr).mono ?_;rintro e w6 ⟨rfl,hU6⟩;have U6:=Ab ((Aa hU).trans hU6);clear hU6;go_wp2_with fail
       refine(S8 No B b r _ y w6 (Aa U6).is hyo2 (fun g hg=>Aa HNo g (by have:=(Aa U6).below.size;omega))).mono ?_;rintro e w7 ⟨rfl,hU7⟩;have U7:=Ab ((Aa U6).trans hU7);clear hU7;go_wp2;go_roundw
       case rel=>exact⟨i+1,Fd r y,by omega,by go_num,HST2,Ab (by rw[(Aa HSO).2.2];exact hyp),Ab ((Aa HSO).1 hyo2),Ab ((Aa HSO).2.1.trans (Aa HYK)),U7⟩
       case measure=>simp[intOf];omega
     . have hi:i=r1:=by omega
       subst hi
       have hxV:x=V:=by
        have:=Aa hst
        rw[XW,ustore]at this;exact this
       subst hxV;go_wp2;go_meet
       exact⟨rfl,hU,hkx⟩
   . have hxV:x=V:=by
      have:=Aa hst
      rw[EI _ _ _ hxe]at this;exact this
     subst hxV;have hb0:(x.e==0)=false:=by rw[beq_eq_false_iff_ne];exact hxe
     generalize x.e=ue at*
     by_cases hlt:i<r1
     . have hltI:(i:Int)<(r1:Int):=by omega
       go_wp2;go_meet
       exact⟨rfl,hU,hkx⟩
     . have hltI:¬(i:Int)<(r1:Int):=by omega
       go_wp2;go_meet
       exact⟨rfl,hU,hkx⟩
 case rest=>
  rename World=>wT
  obtain⟨rfl,hU,hVk⟩:=hcut;obtain⟨ov,kv,_,c3,hh,hov,hkv,hap,hn1,hn2⟩:=(Aa hU).is.rows;obtain⟨KL,hKL⟩:∃KL,V.ks.length=KL:=⟨_,rfl⟩
  have hKV:=hkv;rw[hKL]at hkv;obtain⟨ka,kc,rfl⟩:=An hkv;have hsz9:=(Aa hU).below.size;have hbl9:=(Aa hU).is.lt;have hKL2:KL<=200000:=by rw[<-hKL,Aa hVk];exact Aa HKS
  have HKV:=Ab hkv;have HKV2:=Ab hKV;have HOV:=Ab hov;have HH:=Ab hh;have HAP:=Ab hap;have HN1:=Ab hn1;have HN2:=Ab hn2;have HKL:=Ab hKL;have HIS:=Ab (Aa hU).is;clear hkv hKV hov hh hap hn1 hn2 hKL;go_wp2_with (at_builtin;refine wpList_append_own_at _ rfl (.tmp 82) (.tmp 84) 76 rfl (b+1) 3 i0 (.int .i64 0) 1 8 Tryz.underlying76 hi hz0 hz1 hz2 rfl (by decide) _ KL (i64s V.ks) rfl ((Aa HKV).alloc _) ⟨wT.heap.size,0,none⟩ 1 1 [.int .i64 (0)] rfl rfl (cell_one_new _ _ _) (Bc rfl) (by unfold maxLen;omega) (by omega) (by simp;omega) ?_)
  intro v' wK hO3 hgrow _ hspot;obtain⟨q3,f3,hFIN⟩:=UIs.keepK (k:=0) (X:=.cells #[.int .i64 (0)] 3) (Aa HIS).base (Aa HIS).no (Aa HH) (Aa HOV) (Aa HKV2) (Aa HAP) (Aa HN1) (Aa HN2) (fun g hg=>Aa HNo g (by omega)) (by rw[Aa HKL];exact hO3) hgrow (by simpa using hspot);obtain⟨g9,c9,rfl,_,_⟩:=Ba hO3 (by omega);have HFIN:=Ab ((Aa hU).trans hFIN);clear hO3 hgrow hspot hFIN;go_wp2;go_ret;exact⟨by rw[RM];rfl,Aa HFIN⟩
theorem KN (d k:Nat)(u:US)(h:u.e≠0):ucopy d k u=u:=by
 cases k with
 |zero=>rfl
 |succ k=>rw[ucopy,if_neg h]
theorem KM (d:Nat):∀(k:Nat) (u:US),(u.out.length<=3000->(ucopy d k u).out.length<=3000)/\(ucopy d k u).ks=u.ks/\(ucopy d k u).p=u.p
 |0,u=>⟨fun h=>h,rfl,rfl⟩
 |k+1,u=>by
  rw[ucopy]
  split
  . have h1:=BA (u.out.getD (u.out.length-d) 0) u;have h2:=KM d k (Fd (u.out.getD (u.out.length-d) 0) u);exact⟨fun h=>h2.1 (h1.1 h),h2.2.1.trans h1.2.1,h2.2.2.trans h1.2.2⟩
  . exact⟨fun h=>h,rfl,rfl⟩
theorem SR (row:List Bool)(a b:List Int)(F:Nat)(u:US)(h:u.e≠0):utok row a b F u=u:=by
 cases F with
 |zero=>rfl
 |succ F=>rw[utok,if_neg h]
theorem Nb {row:List Bool}{a b:List Int}{F kk:Nat}{x y1:US}(hx:x.e=0)(h:uplace a row x=(kk,y1))(R:Bool×US)(hR:(if y1.e≠0\/kk=256 then (false,y1)else if kk<256 then (true,Fd kk y1)else if 285<kk then (false,Am 8 y1)else EJ row b kk y1)=R):utok row a b (F+1) x=if R.1 then utok row a b F R.2 else R.2:=by
 have h1:Lb row a b x=R:=by rw[<-hR];unfold Lb;simp only[h]
 rw[utok,if_pos hx,h1]
def TkI (row:List Bool)(ks:List Nat)(F:Nat)(x:US):Prop:=(x.e=0->row.length<x.p+F)/\x.p<=row.length/\x.out.length<=3000/\x.ks=ks
def Fc:Code->List Code
 | .loop c=>c::Fc c
 | .seq a b=>Fc a++Fc b
 | .block _ c=>Fc c
 | .scope c=>Fc c
 | .cond _ a b=>Fc a++Fc b
 |_=> []
noncomputable def Z3e:Code:=((Tryz.f61.body.map Fc).getD []).getD 1 .skip
theorem TM {c1 c2 c3 c4 c5 c6 c7 c8 c9 c19 c20 c21 c22 c23 c24 c25 c26 c27 c28 c29 c30 c31 c32 c33 c34 c35 c36 c37 c38 c39 c40 c41 c42 c43 c44 c45 c46 c47 c48 c49 c50 c51 c52 c53 c54 c55 c56 c57 c58 c59 c60 c61 c62 c63 c64 c65 c66 c67 c68 c69 c70 c71 c72 c73 c74 c75 c76 c77 c78 c79 c80 c81 c82 c83 c84 c85 c86 c87 c88 c89 c90 c91 c92 c93 c94 c95 c96 c97 c98 c99 c100 c101 c102 c103 c104 c105 c106 c107 c108 c109 c110 c111 c112 c113 c114 c115 c116 c117 c235 c236 c237 c238 c239 c240 c241 c242 c243 c244 c245 c246:Value}{u14 u15 u16 u17 u18 u118 u119 u120 u121 u122 u123 u124 u125 u126 u127 u128 u129 u130 u131 u132 u133 u134 u135 u136 u137 u138 u139 u140 u141 u142 u143 u144 u145 u146 u147 u148 u149 u150 u151 u152 u153 u154 u155 u156 u157 u158 u159 u160 u161 u162 u163 u164 u165 u166 u167 u168 u169 u170 u171 u172 u173 u174 u175 u176 u177 u178 u179 u180 u181 u182 u183 u184 u185 u186 u187 u188 u189 u190 u191 u192 u193 u194 u195 u196 u197 u198 u199 u200 u201 u202 u203 u204 u205 u206 u207 u208 u209 u210 u211 u212 u213 u214 u215 u216 u217 u218 u219 u220 u221 u222 u223 u224 u225 u226 u227 u228 u229 u230 u231 u232 u233 u234:Value}{No:Nat->Prop}{B b n2 N M g1 s1 g2 s2 mA mB kk F hs4 hs5:Nat}{bs ks:List Nat}{LA LB:List Int}{V x y1:US}{w6 wr:World}{K1 K2:Act->World->Prop}{R:Ending->World->Prop}
 (hl:bs.length=n2) (hn2:n2<=25000) (hg1:N<=g1) (hg2:N<=g2) (hg1b:g1<hs4) (hg2b:g2<hs4) (hz45:hs4<=hs5) (hz56:hs5<=M) (hMM:w6.heap.size=M) (hbN:b<N) (HP16:Hid (Prs w6 g1 samesL)) (HP26:Hid (Prs w6 g2 farsL))
 (HNN:Hid (∀W:World,w6.heap.size<=W.heap.size->∀g,W.heap.size<=g->¬N2 No N M g))
 (HPA:Hid (Calls Tryz.prog 98 #[.pointer (some ⟨b,0,none⟩),.map (some mA)] wr fun e w'=>e=.returned (.int .i64 (kk:Int))/\UUp (N2 No N M) B wr b (rowB bs n2) y1 w'))
 (HBb:Hid (∀(W:World) (x:US),UUp (N2 No N M) B w6 b (rowB bs n2) x W->x.p<=(rowB bs n2).length->Calls Tryz.prog 98 #[.pointer (some ⟨b,0,none⟩),.map (some mB)] W fun e w'=>e=.returned (.int .i64 ((uplace LB (rowB bs n2) x).1:Int))/\UUp (N2 No N M) B W b (rowB bs n2) (uplace LB (rowB bs n2) x).2 w'))
 (hx0:x.e=0) (hI:Hid (TkI (rowB bs n2) ks (F+1) x)) (hT:Hid (utok (rowB bs n2) LA LB (F+1) x=V)) (e1:uplace LA (rowB bs n2) x=(kk,y1)) (hy0:y1.e=0) (hk7:257<=kk) (hk8:kk<=285) (hW:Hid (UUp (N2 No N M) B w6 b (rowB bs n2) x wr))
 (h1:∀(v14 v15 v16 v17 v18 v118 v119 v120 v121 v122 v123 v124 v125 v126 v127 v128 v129 v130 v131 v132 v133 v134 v135 v136 v137 v138 v139 v140 v141 v142 v143 v144 v145 v146 v147 v148 v149 v150 v151 v152 v153 v154 v155 v156 v157 v158 v159 v160 v161 v162 v163 v164 v165 v166 v167 v168 v169 v170 v171 v172 v173 v174 v175 v176 v177 v178 v179 v180 v181 v182 v183 v184 v185 v186 v187 v188 v189 v190 v191 v192 v193 v194 v195 v196 v197 v198 v199 v200 v201 v202 v203 v204 v205 v206 v207 v208 v209 v210 v211 v212 v213 v214 v215 v216 v217 v218 v219 v220 v221 v222 v223 v224 v225 v226 v227 v228 v229 v230 v231 v232 v233 v234:Value) (w':World) (Y:US),Hid (utok (rowB bs n2) LA LB F Y=V)->Hid (TkI (rowB bs n2) ks F Y)->Hid (x.p+1<=Y.p)->Hid (UUp (N2 No N M) B w6 b (rowB bs n2) Y w')->K1 ⟨#[.pointer (some ⟨b,0,none⟩),c1,c2,c3,c4,c5,c6,c7,c8,c9,.slice (some ⟨g1,0,none⟩) 29 s1,.slice (some ⟨g2,0,none⟩) 30 s2,.map (some mA),.map (some mB),v14,v15,v16,v17,v18,c19,c20,c21,c22,c23,c24,c25,c26,c27,c28,c29,c30,c31,c32,c33,c34,c35,c36,c37,c38,c39,c40,c41,c42,c43,c44,c45,c46,c47,c48,c49,c50,c51,c52,c53,c54,c55,c56,c57,c58,c59,c60,c61,c62,c63,c64,c65,c66,c67,c68,c69,c70,c71,c72,c73,c74,c75,c76,c77,c78,c79,c80,c81,c82,c83,c84,c85,c86,c87,c88,c89,c90,c91,c92,c93,c94,c95,c96,c97,c98,c99,c100,c101,c102,c103,c104,c105,c106,c107,c108,c109,c110,c111,c112,c113,c114,c115,c116,c117,v118,v119,v120,v121,v122,v123,v124,v125,v126,v127,v128,v129,v130,v131,v132,v133,v134,v135,v136,v137,v138,v139,v140,v141,v142,v143,v144,v145,v146,v147,v148,v149,v150,v151,v152,v153,v154,v155,v156,v157,v158,v159,v160,v161,v162,v163,v164,v165,v166,v167,v168,v169,v170,v171,v172,v173,v174,v175,v176,v177,v178,v179,v180,v181,v182,v183,v184,v185,v186,v187,v188,v189,v190,v191,v192,v193,v194,v195,v196,v197,v198,v199,v200,v201,v202,v203,v204,v205,v206,v207,v208,v209,v210,v211,v212,v213,v214,v215,v216,v217,v218,v219,v220,v221,v222,v223,v224,v225,v226,v227,v228,v229,v230,v231,v232,v233,v234,c235,c236,c237,c238,c239,c240,c241,c242,c243,c244,c245,c246],[]⟩ w')
 (h2:∀(v14 v15 v16 v17 v18 v118 v119 v120 v121 v122 v123 v124 v125 v126 v127 v128 v129 v130 v131 v132 v133 v134 v135 v136 v137 v138 v139 v140 v141 v142 v143 v144 v145 v146 v147 v148 v149 v150 v151 v152 v153 v154 v155 v156 v157 v158 v159 v160 v161 v162 v163 v164 v165 v166 v167 v168 v169 v170 v171 v172 v173 v174 v175 v176 v177 v178 v179 v180 v181 v182 v183 v184 v185 v186 v187 v188 v189 v190 v191 v192 v193 v194 v195 v196 v197 v198 v199 v200 v201 v202 v203 v204 v205 v206 v207 v208 v209 v210 v211 v212 v213 v214 v215 v216 v217 v218 v219 v220 v221 v222 v223 v224 v225 v226 v227 v228 v229 v230 v231 v232 v233 v234:Value) (w':World) (y:US),y=V->y.ks=ks->UUp (N2 No N M) B w6 b (rowB bs n2) y w'->K2 ⟨#[.pointer (some ⟨b,0,none⟩),c1,c2,c3,c4,c5,c6,c7,c8,c9,.slice (some ⟨g1,0,none⟩) 29 s1,.slice (some ⟨g2,0,none⟩) 30 s2,.map (some mA),.map (some mB),v14,v15,v16,v17,v18,c19,c20,c21,c22,c23,c24,c25,c26,c27,c28,c29,c30,c31,c32,c33,c34,c35,c36,c37,c38,c39,c40,c41,c42,c43,c44,c45,c46,c47,c48,c49,c50,c51,c52,c53,c54,c55,c56,c57,c58,c59,c60,c61,c62,c63,c64,c65,c66,c67,c68,c69,c70,c71,c72,c73,c74,c75,c76,c77,c78,c79,c80,c81,c82,c83,c84,c85,c86,c87,c88,c89,c90,c91,c92,c93,c94,c95,c96,c97,c98,c99,c100,c101,c102,c103,c104,c105,c106,c107,c108,c109,c110,c111,c112,c113,c114,c115,c116,c117,v118,v119,v120,v121,v122,v123,v124,v125,v126,v127,v128,v129,v130,v131,v132,v133,v134,v135,v136,v137,v138,v139,v140,v141,v142,v143,v144,v145,v146,v147,v148,v149,v150,v151,v152,v153,v154,v155,v156,v157,v158,v159,v160,v161,v162,v163,v164,v165,v166,v167,v168,v169,v170,v171,v172,v173,v174,v175,v176,v177,v178,v179,v180,v181,v182,v183,v184,v185,v186,v187,v188,v189,v190,v191,v192,v193,v194,v195,v196,v197,v198,v199,v200,v201,v202,v203,v204,v205,v206,v207,v208,v209,v210,v211,v212,v213,v214,v215,v216,v217,v218,v219,v220,v221,v222,v223,v224,v225,v226,v227,v228,v229,v230,v231,v232,v233,v234,c235,c236,c237,c238,c239,c240,c241,c242,c243,c244,c245,c246],[]⟩ w'):
 Code.wp Tryz.prog Z3e (Exit.then K1 (Exit.inBlock 3 (Exit.then K2 (bodyPost Tryz.prog Tryz.f61 R)))) ⟨#[.pointer (some ⟨b,0,none⟩),c1,c2,c3,c4,c5,c6,c7,c8,c9,.slice (some ⟨g1,0,none⟩) 29 s1,.slice (some ⟨g2,0,none⟩) 30 s2,.map (some mA),.map (some mB),u14,u15,u16,u17,u18,c19,c20,c21,c22,c23,c24,c25,c26,c27,c28,c29,c30,c31,c32,c33,c34,c35,c36,c37,c38,c39,c40,c41,c42,c43,c44,c45,c46,c47,c48,c49,c50,c51,c52,c53,c54,c55,c56,c57,c58,c59,c60,c61,c62,c63,c64,c65,c66,c67,c68,c69,c70,c71,c72,c73,c74,c75,c76,c77,c78,c79,c80,c81,c82,c83,c84,c85,c86,c87,c88,c89,c90,c91,c92,c93,c94,c95,c96,c97,c98,c99,c100,c101,c102,c103,c104,c105,c106,c107,c108,c109,c110,c111,c112,c113,c114,c115,c116,c117,u118,u119,u120,u121,u122,u123,u124,u125,u126,u127,u128,u129,u130,u131,u132,u133,u134,u135,u136,u137,u138,u139,u140,u141,u142,u143,u144,u145,u146,u147,u148,u149,u150,u151,u152,u153,u154,u155,u156,u157,u158,u159,u160,u161,u162,u163,u164,u165,u166,u167,u168,u169,u170,u171,u172,u173,u174,u175,u176,u177,u178,u179,u180,u181,u182,u183,u184,u185,u186,u187,u188,u189,u190,u191,u192,u193,u194,u195,u196,u197,u198,u199,u200,u201,u202,u203,u204,u205,u206,u207,u208,u209,u210,u211,u212,u213,u214,u215,u216,u217,u218,u219,u220,u221,u222,u223,u224,u225,u226,u227,u228,u229,u230,u231,u232,u233,u234,c235,c236,c237,c238,c239,c240,c241,c242,c243,c244,c245,c246],[]⟩ wr:=by
 have H1:=Ab h1;have H2:=Ab h2;clear h1 h2;have hN:=Af bs n2;have hrl:(rowB bs n2).length<=200000:=by omega
 obtain⟨_,_,c4x,_⟩:=(Aa hW).is.cell;rw[hx0]at c4x;obtain⟨iF,ip,io,ik⟩:=Aa hI;have iF0:=iF hx0;have o1:=Wp LA (rowB bs n2) x ip;rw[e1]at o1;obtain⟨o1o,o1k,o1g,o1p⟩:=o1;simp only at o1o o1k o1g o1p
 have hTT:=Aa hT;have hy1o:y1.out.length<=3000:=by rw[o1o];exact io
 have hy1k:y1.ks=ks:=o1k.trans ik;have hg:=(Cn e1 hy0).1;have hk256:¬kk=256:=by omega
 have hkn:((kk:Int)==256)=false:=by rw[beq_eq_false_iff_ne];omega
 have hne5:¬(y1.e≠0\/kk=256):=by omega
 have hk1:¬kk<256:=by omega
 have hk3:¬(kk:Int)<256:=by omega
 have hk2:¬285<kk:=by omega
 conv=>arg 2;whnf
 have hk5:(kk:Int)<286:=by omega
 have hk4:¬(285:Int)<(kk:Int):=by omega
 obtain⟨q,hq⟩:∃q,kk-257=q:=⟨_,rfl⟩
 obtain⟨sb,hsb⟩:∃sb,(samesL.getD q (0,0)).2=sb:=⟨_,rfl⟩
 obtain⟨s0,hs0⟩:∃s0,(samesL.getD q (0,0)).1=s0:=⟨_,rfl⟩
 have hss:=S9 q (by omega);rw[hsb,hs0]at hss;obtain⟨hsb5,hs0b⟩:=hss;obtain⟨n0,y2,e2⟩:∃n0 y2,uget (rowB bs n2) sb y1=(n0,y2):=⟨_,_,rfl⟩
 obtain⟨f,y3,e3⟩:∃f y3,uplace LB (rowB bs n2) y2=(f,y3):=⟨_,_,rfl⟩
 obtain⟨y4,e4⟩:∃y4,(if y3.e=0/\29<f then Am 8 y3 else y3)=y4:=⟨_,rfl⟩
 have hn0:=Fu (rowB bs n2) sb y1;have hp2:=Gn (rowB bs n2) sb y1 o1p;have o2:=Zo (rowB bs n2) sb y1;rw[e2]at hn0 hp2 o2;have o3:=Wp LB (rowB bs n2) y2 hp2;rw[e3]at o3
 have o4:y4.out=y3.out/\y4.ks=y3.ks/\y4.p=y3.p:=by
  rw[<-e4]
  split
  . exact Om 8 y3
  . exact⟨rfl,rfl,rfl⟩
 simp only at hn0 hp2 o2 o3
 have hn32:n0<32:=VG hn0 (VU (VO (by decide) hsb5) (by decide))
 have hus:EJ (rowB bs n2) LB kk y1=if y4.e≠0 then (false,y4)else (true,Z28 (rowB bs n2) (s0+n0) f y4):=by
  unfold EJ;rw[hq,hsb,hs0];simp only[e2,e3,e4]
 have hTS:=hTT;have hY4o:y4.out.length<=3000:=by rw[o4.1,o3.1,o2.1];exact hy1o
 have hY4k:y4.ks=ks:=o4.2.1.trans (o3.2.1.trans (o2.2.1.trans hy1k));have hY4p:y4.p<=(rowB bs n2).length:=by rw[o4.2.2];exact o3.2.2.2
 have hY4g:x.p+1<=y4.p:=by rw[o4.2.2];omega
 have HST:Hid (y4.e≠0->y4=V):=Ab (fun h4=>by rw[<-hTT,Nb hx0 e1 (false,y4) (by rw[if_neg hne5,if_neg hk1,if_neg hk2,hus,if_pos h4])];rfl);have HGO:Hid (¬y4.e≠0->utok (rowB bs n2) LA LB F (Z28 (rowB bs n2) (s0+n0) f y4)=V):=Ab (fun h4=>by rw[<-hTT,Nb hx0 e1 (true,Z28 (rowB bs n2) (s0+n0) f y4) (by rw[if_neg hne5,if_neg hk1,if_neg hk2,hus,if_neg h4])];rfl);have hk1':(257:Int)<=(kk:Int):=by omega
 have hk2':(kk:Int)-257<29:=by omega
 have hkw:IntKind.i64.wrap ((kk:Int)-257)=(kk:Int)-257:=by simp[IntKind.wrap,IntKind.signed,IntKind.bits];omega
 have hkn':((kk:Int)-257).toNat=q:=by omega
 have hsw:IntKind.i64.wrap ((s0:Int)+(n0:Int))=(s0:Int)+(n0:Int):=by simp[IntKind.wrap,IntKind.signed,IntKind.bits];omega
 have HSB:=Ab hsb;have HS0:=Ab hs0;have HE4:=Ab e4;have HE3:=Ab e3;have HE2:=Ab e2;have hq29:q<29:=by omega
 have hFp:=iF0;clear hTT hTS hT hI iF iF0 hne5 e1 hus o1k o1o o2 o3 o4 hsb hs0 e4 e3 e2 hn0 hq;go_wp2_with fail
 refine(Aa HPA).mono ?_;rintro e w7 ⟨rfl,hU7⟩;have W7:=Ab ((Aa hW).trans hU7);clear hU7 HPA;obtain⟨_,_,c47,_⟩:=(Aa W7).is.cell;rw[hy0]at c47;have hPq:=(Aa W7).prs (Aa HP16) (by omega) hg1 (by omega) q hq29;rw[Aa HS0,Aa HSB]at hPq;obtain⟨cs1,cs2⟩:=hPq;have hg17:g1<w7.heap.size:=by have:=(Aa W7).below.size;omega
 have HGT:=Ab (fun i=>Hm (N2 No N M) B b sb _ y1 (w7.drewN i) ((UUp.refl (Aa W7).is).drewN i).is (by omega) hrl o1p n0 y2 (Aa HE2));have HGD2:=Ab (fun i=>(UUp.refl (Aa W7).is).drewN i);have HN2:Hid (N2 No N M g1):=Ab (.inr ⟨hg1,by omega⟩);go_upto_region 32 with fail
 go_cut [15] (fun v15 wc=>v15=.int .i64 ((s0:Int)+(n0:Int))/\Hid (UUp (N2 No N M) B w6 b (rowB bs n2) y2 wc))
 case first=>
  go_wp2;go_region_held3 (fun w'=>w'.cell? ⟨g1,q*2,none⟩=some (.int .i64 (s0:Int))/\w'.cell? ⟨g1,q*2+1,none⟩=some (.int .i64 (sb:Int))) (first|assumption|exact⟨by assumption,by assumption⟩) (first|(go_at_call 91;refine(Aa HGT _).mono ?_;rintro e w8 ⟨rfl,hU8⟩;have hkp8:=((Aa HGD2 _).trans hU8).kp g1 hg17 (Aa HN2);have cd1:=(World.cell?_of_block (a:=⟨g1,q*2,none⟩) hkp8).trans cs1;have cd2:=(World.cell?_of_block (a:=⟨g1,q*2+1,none⟩) hkp8).trans cs2;have W8:=Ab ((Aa W7).trans ((Aa HGD2 _).trans hU8));clear hU8 hkp8))
  all_goals try go_wp2
  all_goals
   go_meet
   exact⟨rfl,W8⟩
 case rest=>
 rename World=>w8
 obtain⟨rfl,W8⟩:=hcut;have HPB:=Ab (Aa HBb w8 y2 (Aa W8) hp2);rw[Aa HE3]at HPB;clear HGT HGD2 cs1 cs2 W7 c47;go_wp2_with fail
 refine(Aa HPB).mono ?_;rintro e w9 ⟨rfl,hU9⟩;have W9:=Ab ((Aa W8).trans hU9);clear hU9 HPB W8;obtain⟨_,_,c49,_⟩:=(Aa W9).is.cell;obtain⟨bf,hbf⟩:∃bf,((y3.e==0)&&decide (29<f))=bf:=⟨_,rfl⟩
 have HBF:=Ab hbf;clear hbf;go_upto_region 34 with fail
 go_cut [171] (fun v171 wc=>v171=.bool bf/\wc=w9)
 case first=>
  by_cases h0:y3.e=0
  . rw[h0]at c49
    have hbb:decide ((29:Int)<(f:Int))=bf:=by
     have:=Aa HBF
     rw[h0]at this;rw[<-this];show _=decide _
     rw[decide_eq_decide];omega
    clear HBF HE4 HST HGO;go_wp2;go_meet
    exact⟨by first|rfl|rw[hbb],rfl⟩
  . have hb0:(y3.e==0)=false:=by rw[beq_eq_false_iff_ne];exact h0
    have hbb:bf=false:=by rw[<-Aa HBF,hb0];rfl
    subst hbb;clear HBF HE4 HST HGO;generalize y3.e=ue at*;go_wp2;go_meet
    exact⟨rfl,rfl⟩
 case rest=>
 obtain⟨rfl,hwq⟩:=hcut;obtain rfl:w9=wc:=hwq.symm;clear hwq;go_upto_if 171 with (fail)
 go_cut [16] (fun v16 wc=>v16=.int .i64 (f:Int)/\Hid (UUp (N2 No N M) B w6 b (rowB bs n2) y4 wc))
 case first=>
  cases bf with
  |true=>
   have hx:=Aa HBF;rw[ZM,beq_iff_eq,decide_eq_true_iff]at hx;have HWR:=Ab (Dn (N2 No N M) B b (rowB bs n2) y3 8 w9 (Aa W9).is);have HX:Hid (Am 8 y3=y4):=Ab (by rw[<-Aa HE4,if_pos hx]);clear hx HBF HE4 HST HGO;go_wp2_with fail
   refine(Aa HWR).mono ?_;rintro e wA ⟨rfl,hUA⟩;have WA:=Ab ((Aa W9).trans hUA);rw[Aa HX]at WA;clear hUA;go_wp2;go_meet
   exact⟨rfl,WA⟩
  |false=>
   have hx:¬(y3.e=0/\29<f):=fun hx=>by
    have:=Aa HBF
    rw[hx.1,decide_eq_true hx.2]at this
    cases this
   have HX:Hid (y3=y4):=Ab (by rw[<-Aa HE4,if_neg hx]);rw[Aa HX]at W9;clear hx HBF HE4 HST HGO;go_wp2;go_meet
   exact⟨rfl,W9⟩
 case rest=>
 rename World=>wA
 obtain⟨rfl,WA⟩:=hcut
 have HF29:Hid (y4.e=0->f<30):=Ab (fun h4=>by
  have h5:=Aa HE4
  by_cases h6:y3.e=0/\29<f
  . rw[if_pos h6]at h5;rw[<-h5]at h4;exact absurd h4 (Bm (by decide))
  . rw[if_neg h6]at h5;rw[<-h5]at h4;omega)
 clear W9 c49 HBF HE4;obtain⟨_,_,c4A,_⟩:=(Aa WA).is.cell
 by_cases h4:y4.e≠0
 . have hne:(y4.e !=0)=true:=by simp only[bne_iff_ne,ne_eq];exact h4
   have HF9:=Ab (And.intro (Aa HST h4) (And.intro hY4k (Aa WA)));clear h4 HST HGO HF29;generalize y4.e=ue at*;go_wp2;exact Aa H2 _ _ _ _ _ _ _ _ _ _ _ _ _ _ _ _ _ _ _ _ _ _ _ _ _ _ _ _ _ _ _ _ _ _ _ _ _ _ _ _ _ _ _ _ _ _ _ _ _ _ _ _ _ _ _ _ _ _ _ _ _ _ _ _ _ _ _ _ _ _ _ _ _ _ _ _ _ _ _ _ _ _ _ _ _ _ _ _ _ _ _ _ _ _ _ _ _ _ _ _ _ _ _ _ _ _ _ _ _ _ _ _ _ _ _ _ _ _ _ _ _ _ _ _ (Aa HF9).1 (Aa HF9).2.1 (Aa HF9).2.2
 have hT4:=Aa HGO h4;have h40:y4.e=0:=by omega
 have hf30:=Aa HF29 h40;rw[h40]at c4A;have hfs:=IB f hf30;obtain⟨fb,hfb⟩:∃fb,(farsL.getD f (0,0)).2=fb:=⟨_,rfl⟩
 obtain⟨f0,hf0⟩:∃f0,(farsL.getD f (0,0)).1=f0:=⟨_,rfl⟩
 rw[hfb,hf0]at hfs;obtain⟨hfb5,hf0b,hf01⟩:=hfs;obtain⟨d0,y5,e5⟩:∃d0 y5,uget (rowB bs n2) fb y4=(d0,y5):=⟨_,_,rfl⟩
 obtain⟨d,hd⟩:∃d,f0+d0=d:=⟨_,rfl⟩
 obtain⟨nn,hnn⟩:∃nn,s0+n0=nn:=⟨_,rfl⟩
 obtain⟨y6,e6⟩:∃y6,(if y5.e=0/\y5.out.length<d then Am 9 y5 else y5)=y6:=⟨_,rfl⟩
 obtain⟨Y,hY⟩:∃Y,ucopy d nn y6=Y:=⟨_,rfl⟩
 have hfar:Z28 (rowB bs n2) (s0+n0) f y4=Y:=by
  unfold Z28;rw[hfb,hf0,hnn];simp only[e5,hd,e6,hY]
 rw[hfar]at hT4;have hd0:=Fu (rowB bs n2) fb y4;have hp5:=Gn (rowB bs n2) fb y4 hY4p;have o5:=Zo (rowB bs n2) fb y4;rw[e5]at hd0 hp5 o5
 have o6:y6.out=y5.out/\y6.ks=y5.ks/\y6.p=y5.p:=by
  rw[<-e6]
  split
  . exact Om 9 y5
  . exact⟨rfl,rfl,rfl⟩
 simp only at hd0 hp5 o5
 have hd32:d0<8192:=VG hd0 (VU (VO (by decide) hfb5) (by decide));have oY:=KM d nn y6;rw[hY]at oY;have hy6o:y6.out.length<=3000:=by rw[o6.1,o5.1];exact hY4o
 have hy5o:y5.out.length<=3000:=by rw[o5.1];exact hY4o
 have hYp:Y.p<=(rowB bs n2).length:=by rw[oY.2.2,o6.2.2];exact hp5
 have hYg:x.p+1<=Y.p:=by rw[oY.2.2,o6.2.2];omega
 have hyd:y6.e=0->d<=y6.out.length:=fun h6=>by
  by_cases h7:y5.e=0/\y5.out.length<d
  . rw[if_pos h7]at e6;rw[<-e6]at h6;exact absurd h6 (Bm (by decide))
  . rw[if_neg h7]at e6;rw[<-e6]at h6 ⊢;omega
 have HTY:=Ab hT4;have HIY:Hid (TkI (rowB bs n2) ks F Y):=Ab ⟨fun _=>by omega,hYp,oY.1 hy6o,oY.2.1.trans (o6.2.1.trans (o5.2.1.trans hY4k))⟩;have HYD:=Ab hyd;have HE5:=Ab e5;have HE6:=Ab e6;have HY:=Ab hY;have HFB:=Ab hfb;have HF0:=Ab hf0;have hd1:1<=d:=by omega
 have hdb:d<=40000:=by omega
 have hnb:nn<=300:=by omega
 have hdI:(f0:Int)+(d0:Int)=(d:Int):=by omega
 have hnI:(s0:Int)+(n0:Int)=(nn:Int):=by omega
 have hfw:IntKind.i64.wrap ((f0:Int)+(d0:Int))=(f0:Int)+(d0:Int):=by simp[IntKind.wrap,IntKind.signed,IntKind.bits];omega
 have hdw:IntKind.i64.wrap (d:Int)=(d:Int):=by simp[IntKind.wrap,IntKind.signed,IntKind.bits];omega
 clear hfar hT4 o5 o6 oY hyd e5 e6 hY hfb hf0 hd hnn h4 HST HGO HF29 hd0 hkw hsw hkn';have hPf:=(Aa WA).prs (Aa HP26) (by omega) hg2 (by omega) f hf30;rw[Aa HF0,Aa HFB]at hPf;obtain⟨cf1,cf2⟩:=hPf;have hg29:g2<wA.heap.size:=by have:=(Aa WA).below.size;omega
 have hf2:(f:Int)<30:=by omega
 have HGT2:=Ab (fun i=>Hm (N2 No N M) B b fb _ y4 (wA.drewN i) ((UUp.refl (Aa WA).is).drewN i).is (by omega) hrl hY4p d0 y5 (Aa HE5));have HGD2:=Ab (fun i=>(UUp.refl (Aa WA).is).drewN i);have HN22:Hid (N2 No N M g2):=Ab (.inr ⟨hg2,by omega⟩);rw[hnI];go_upto_region 37 with fail
 go_cut [17] (fun v17 wc=>v17=.int .i64 (d:Int)/\Hid (UUp (N2 No N M) B w6 b (rowB bs n2) y5 wc))
 case first=>
  go_wp2;go_region_held3 (fun w'=>w'.cell? ⟨g2,f*2,none⟩=some (.int .i64 (f0:Int))/\w'.cell? ⟨g2,f*2+1,none⟩=some (.int .i64 (fb:Int))) (first|assumption|exact⟨by assumption,by assumption⟩) (first|(go_at_call 91;refine(Aa HGT2 _).mono ?_;rintro e wB ⟨rfl,hUB⟩;have hkpB:=((Aa HGD2 _).trans hUB).kp g2 hg29 (Aa HN22);have cg1:=(World.cell?_of_block (a:=⟨g2,f*2,none⟩) hkpB).trans cf1;have cg2:=(World.cell?_of_block (a:=⟨g2,f*2+1,none⟩) hkpB).trans cf2;have WB:=Ab ((Aa WA).trans ((Aa HGD2 _).trans hUB));clear hUB hkpB))
  all_goals try go_wp2
  all_goals
   go_meet
   exact⟨by first|rfl|rw[hdw]|rw[hdI],WB⟩
 case rest=>
 rename World=>wB
 obtain⟨rfl,WB⟩:=hcut;clear HGT2 HGD2 cf1 cf2 WA c4A;obtain⟨_,_,c4B,_⟩:=(Aa WB).is.cell;obtain⟨ovB,kvB,c2B,_,_,hovB,_⟩:=(Aa WB).is.rows;obtain⟨LO,hLO⟩:∃LO,y5.out.length=LO:=⟨_,rfl⟩
 rw[hLO]at hovB;obtain⟨oB,ocB,rfl⟩:=An hovB;obtain⟨bd,hbd⟩:∃bd,((y5.e==0)&&decide (LO<d))=bd:=⟨_,rfl⟩
 have HBD:=Ab hbd;have HLO:=Ab hLO;clear hbd hovB hLO;go_upto_region 38 with fail
 go_cut [205] (fun v205 wc=>v205=.bool bd/\wc=wB)
 case first=>
  by_cases h0:y5.e=0
  . rw[h0]at c4B
    have hbb:decide ((LO:Int)<(d:Int))=bd:=by
     have:=Aa HBD
     rw[h0]at this;rw[<-this];show _=decide _
     rw[decide_eq_decide];omega
    have hbc:decide (LO<d)=bd:=by rw[<-hbb,decide_eq_decide];omega
    clear HBD HE6;go_wp2;go_meet
    exact⟨by first|rfl|rw[hbb]|rw[hbc],rfl⟩
  . have hb0:(y5.e==0)=false:=by rw[beq_eq_false_iff_ne];exact h0
    have hbb:bd=false:=by rw[<-Aa HBD,hb0];rfl
    subst hbb;clear HBD HE6;generalize y5.e=ue at*;go_wp2;go_meet
    exact⟨rfl,rfl⟩
 case rest=>
 obtain⟨rfl,hwq⟩:=hcut;obtain rfl:wB=wc:=hwq.symm;clear hwq;go_upto_if 205 with (fail)
 go_cut [17] (fun v17 wc=>v17=.int .i64 (d:Int)/\Hid (UUp (N2 No N M) B w6 b (rowB bs n2) y6 wc))
 case first=>
  cases bd with
  |true=>
   have hx:=Aa HBD;rw[ZM,beq_iff_eq,decide_eq_true_iff]at hx;have HWR:=Ab (Dn (N2 No N M) B b (rowB bs n2) y5 9 wB (Aa WB).is);have HX:Hid (Am 9 y5=y6):=Ab (by rw[<-Aa HE6,Aa HLO,if_pos hx]);clear hx HBD HE6;go_wp2_with fail
   refine(Aa HWR).mono ?_;rintro e wC ⟨rfl,hUC⟩;have WC:=Ab ((Aa WB).trans hUC);rw[Aa HX]at WC;clear hUC;go_wp2;go_meet
   exact⟨rfl,WC⟩
  |false=>
   have hx:¬(y5.e=0/\LO<d):=fun hx=>by
    have:=Aa HBD
    rw[hx.1,decide_eq_true hx.2]at this
    cases this
   have HX:Hid (y5=y6):=Ab (by rw[<-Aa HE6,Aa HLO,if_neg hx]);rw[Aa HX]at WB;clear hx HBD HE6;go_wp2;go_meet
   exact⟨rfl,WB⟩
 case rest=>
 rename World=>wC
 obtain⟨rfl,WC⟩:=hcut;clear WB c4B c2B HBD HE6 HE5 HLO;go_wp2;go_loopw [18] (fun v18 wr=>∃(j:Nat) (z:US),j<=nn/\v18=.int .i64 (j:Int)/\Hid (ucopy d (nn-j) z=Y)/\Hid (z.out.length<=3000)/\Hid (z.e=0->d<=z.out.length)/\Hid (UUp (N2 No N M) B w6 b (rowB bs n2) z wr)) (fun v18 _=>nn-(intOf v18).toNat)
 case atStart=>exact⟨0,y6,VH _,rfl,HY,Ab hy6o,HYD,WC⟩
 case round=>
  obtain⟨j,z,hj,rfl,hcp,hzo,hdz,hZ⟩:=hrel;obtain⟨_,_,c4z,_⟩:=(Aa hZ).is.cell
  by_cases hze:z.e=0
  . rw[hze]at c4z
    by_cases hjn:j<nn
    . obtain⟨ovz,kvz,c2z,_,_,hovz,_⟩:=(Aa hZ).is.rows;obtain⟨LZ,hLZ⟩:∃LZ,z.out.length=LZ:=⟨_,rfl⟩
      have hdz2:=Aa hdz hze;have hzo2:=Aa hzo;rw[hLZ]at hovz hdz2 hzo2;obtain⟨gz,cz,rfl,hgz1,hgz2⟩:=Ba hovz (by omega);obtain⟨r,hr⟩:∃r,LZ-d=r:=⟨_,rfl⟩
      obtain⟨ch,hch⟩:∃ch,z.out.getD r 0=ch:=⟨_,rfl⟩
      have cx:wr.cell? ⟨gz,r,none⟩=some (.int .u8 (ch:Int)):=by
       rw[hovz.cellAt r (by omega),<-hch];have:r<z.out.length:=by omega
       simp[u8s,List.getD,this]
      have hcp2:ucopy d (nn-(j+1)) (Fd ch z)=Y:=by
       have h20:=Aa hcp;rw[show nn-j=(nn-(j+1))+1 by omega,ucopy,if_pos hze,hLZ,hr,hch]at h20;exact h20
      have HCP2:=Ab hcp2;have HSO:=Ab (BA ch z)
      have HSE:Hid ((Fd ch z).e=0->d<=(Fd ch z).out.length):=Ab (fun h5=>by
       obtain⟨_,_,h6⟩:=Ud h5;rw[h6];show d<=(z.out++ [ch]).length
       rw[VE,hLZ];omega)
      have HSY:=Ab (fun i=>S8 (N2 No N M) B b ch _ z (wr.drewN i) ((UUp.refl (Aa hZ).is).drewN i).is (Aa hzo) (Aa HNN (wr.drewN i) (Aa hZ).below.size));have HSD:=Ab (fun i=>(UUp.refl (Aa hZ).is).drewN i);have hjI:(j:Int)<(nn:Int):=by omega
      have hb1:(d:Int)<=(LZ:Int):=by omega
      have hb2:(0:Int)<(d:Int):=by omega
      have hb3:(LZ:Int)-(d:Int)<(LZ:Int):=by omega
      have hwz:IntKind.i64.wrap ((LZ:Int)-(d:Int))=(LZ:Int)-(d:Int):=by simp[IntKind.wrap,IntKind.signed,IntKind.bits];omega
      have htz:((LZ:Int)-(d:Int)).toNat=r:=by omega
      clear hovz hcp2 hch hLZ hcp hdz;go_wp2;go_region_with (go_at_call 93;refine(Aa HSY _).mono ?_;rintro e wD ⟨rfl,hUD⟩;have WD:=Ab ((Aa hZ).trans ((Aa HSD _).trans hUD));clear hUD)
      all_goals try go_wp2
      all_goals
       go_roundw
       case rel=>exact⟨j+1,Fd ch z,by omega,by go_num,HCP2,Ab ((Aa HSO).1 (Aa hzo)),HSE,WD⟩
       case measure=>simp[intOf];omega
    . have hjn2:j=nn:=by omega
      subst hjn2
      have HZY:Hid (z=Y):=Ab (by
       have h20:=Aa hcp;rw[XW,ucopy]at h20;exact h20)
      have hjI:¬(j:Int)<(j:Int):=by omega
      clear hcp hdz;go_wp2;exact Aa H1 _ _ _ _ _ _ _ _ _ _ _ _ _ _ _ _ _ _ _ _ _ _ _ _ _ _ _ _ _ _ _ _ _ _ _ _ _ _ _ _ _ _ _ _ _ _ _ _ _ _ _ _ _ _ _ _ _ _ _ _ _ _ _ _ _ _ _ _ _ _ _ _ _ _ _ _ _ _ _ _ _ _ _ _ _ _ _ _ _ _ _ _ _ _ _ _ _ _ _ _ _ _ _ _ _ _ _ _ _ _ _ _ _ _ _ _ _ _ _ _ _ _ _ z (Ab (by rw[Aa HZY];exact Aa HTY)) (Ab (by rw[Aa HZY];exact Aa HIY)) (Ab (by rw[Aa HZY];exact hYg)) hZ
  . have HZY:Hid (z=Y):=Ab (by
     have h20:=Aa hcp;rw[KN _ _ _ hze]at h20;exact h20)
    have hb0:(z.e==0)=false:=by rw[beq_eq_false_iff_ne];exact hze
    clear hcp hdz hze;generalize z.e=ue at*
    by_cases hjn:j<nn
    . have hjI:(j:Int)<(nn:Int):=by omega
      go_wp2;exact Aa H1 _ _ _ _ _ _ _ _ _ _ _ _ _ _ _ _ _ _ _ _ _ _ _ _ _ _ _ _ _ _ _ _ _ _ _ _ _ _ _ _ _ _ _ _ _ _ _ _ _ _ _ _ _ _ _ _ _ _ _ _ _ _ _ _ _ _ _ _ _ _ _ _ _ _ _ _ _ _ _ _ _ _ _ _ _ _ _ _ _ _ _ _ _ _ _ _ _ _ _ _ _ _ _ _ _ _ _ _ _ _ _ _ _ _ _ _ _ _ _ _ _ _ _ z (Ab (by rw[Aa HZY];exact Aa HTY)) (Ab (by rw[Aa HZY];exact Aa HIY)) (Ab (by rw[Aa HZY];exact hYg)) hZ
    . have hjI:¬(j:Int)<(nn:Int):=by omega
      go_wp2;exact Aa H1 _ _ _ _ _ _ _ _ _ _ _ _ _ _ _ _ _ _ _ _ _ _ _ _ _ _ _ _ _ _ _ _ _ _ _ _ _ _ _ _ _ _ _ _ _ _ _ _ _ _ _ _ _ _ _ _ _ _ _ _ _ _ _ _ _ _ _ _ _ _ _ _ _ _ _ _ _ _ _ _ _ _ _ _ _ _ _ _ _ _ _ _ _ _ _ _ _ _ _ _ _ _ _ _ _ _ _ _ _ _ _ _ _ _ _ _ _ _ _ _ _ _ _ z (Ab (by rw[Aa HZY];exact Aa HTY)) (Ab (by rw[Aa HZY];exact Aa HIY)) (Ab (by rw[Aa HZY];exact hYg)) hZ
end Go.Proofs.YtleocpdblhbimaaGreatDoor
