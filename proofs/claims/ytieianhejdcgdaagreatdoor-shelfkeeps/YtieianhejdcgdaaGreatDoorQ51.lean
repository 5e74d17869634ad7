import Derived.Test.YtieianhejdcgdaaGreatDoorQ50
import Derived.Test.YtieianhejdcgdaaGreatDoorRows
import Derived.ChangeMaps5
import Derived.SizedLaws
import Derived.LaidMore
import Derived.Lay
import Derived.SevenTiedAt
import Derived.Stop.Joined
set_option linter.unusedSimpArgs false
set_option maxHeartbeats 8000000
namespace Go.Proofs.YtieianhejdcgdaaGreatDoor
open Go.RowKit
set_option linter.unusedVariables false
set_option maxRecDepth 100000
structure LLs (w:World)(a:Option Addr)(n cap:Nat)(ls:List (List Fl)):Prop where
 len:ls.length=n
 room:n<=cap
 nil:a=none->cap=0
 big:n<=140737488355328
 at_:n=0\/∃b o vs,a=some ⟨b,o,none⟩/\Lists w b o vs ls
structure KSt (w:World)(D:Nat)(S T:List Nat)(hs:List (List Fl))(k:Nat)(g cap:Nat)(cur:List Value)(n:Nat)(W:World):Prop where
 bel:Below w.heap.size w W
 blk:∃s t,W.heap[D]? =some (.cells #[s,t] 52 (0,0))/\PIn W s S/\PIn W t T
 row:HRow W (D+1) g cap cur n hs
 ki:KI S T hs k
 le:w.heap.size<=D
theorem KSt.below {w W W':World}{D k g cap n:Nat}{S T:List Nat}{hs:List (List Fl)}{cur:List Value}(h:KSt w D S T hs k g cap cur n W)(hB:Below W.heap.size W W'):KSt w D S T hs k g cap cur n W':=by
 obtain⟨s,t,h1,h2,h3⟩:=h.blk;exact⟨h.bel.trans (hB.mono h.bel.size),⟨s,t,(hB.block D (VG.1 h1).1).trans h1,h2.below hB,h3.below hB⟩,h.row.below hB,h.ki,h.le⟩
theorem KSt.parts {w W:World}{D k g cap n:Nat}{S T:List Nat}{hs:List (List Fl)}{cur:List Value}(h:KSt w D S T hs k g cap cur n W):∃a1 c1 a2 c2,W.heap[D]? =some (.cells #[.slice a1 S.length c1,.slice a2 T.length c2] 52 (0,0))/\DIn W (.agg #[.slice a1 S.length c1,.slice a2 T.length c2]) S T:=by
 obtain⟨s,t,h1,h2,h3⟩:=h.blk;have h2':=h2;have h3':=h3;obtain⟨a1,c1,rfl,_⟩:=h2;obtain⟨a2,c2,rfl,_⟩:=h3;exact⟨a1,c1,a2,c2,h1,_,_,rfl,h2',h3'⟩
theorem KSt.put {w W:World}{D k k' g cap n:Nat}{S T S' T':List Nat}{hs:List (List Fl)}{cur:List Value}{u v:Value}(h:KSt w D S T hs k g cap cur n W)(hu:PIn W u S')(hv:PIn W v T'):
 Below w.heap.size w ((W.setCell ⟨D,0,none⟩ u).setCell ⟨D,1,none⟩ v)/\((W.setCell ⟨D,0,none⟩ u).setCell ⟨D,1,none⟩ v).heap[D]? =some (.cells #[u,v] 52 (0,0))/\PIn ((W.setCell ⟨D,0,none⟩ u).setCell ⟨D,1,none⟩ v) u S'/\PIn ((W.setCell ⟨D,0,none⟩ u).setCell ⟨D,1,none⟩ v) v T'/\HRow ((W.setCell ⟨D,0,none⟩ u).setCell ⟨D,1,none⟩ v) (D+1) g cap cur n hs:=by
 obtain⟨a1,c1,a2,c2,h1,_⟩:=h.parts;obtain⟨k1,k2,s,t,e,k3,k4⟩:=DIn.put h.bel h.le h1 hu hv
 cases e
 refine⟨k2,k1,k3,k4, ?_⟩;have hu0:∃a l c,u=.slice a l c:=by obtain⟨a,c,e,_⟩:=hu;exact⟨a,_,c,e⟩
 have hg1:=Ad W D 0 u;have hr1:=h.row.off hg1 (SlB.disk h1) (Nat.lt_succ_self D);have h4:=heap_setCell_same W D 0 _ _ u h1;obtain⟨a3,l3,c3,rfl⟩:=hu0;exact hr1.off (Ad _ D 1 v) (SlB.disk h4) (Nat.lt_succ_self D)
theorem KSt.app {w W W':World}{D k g cap n g' cap':Nat}{S T:List Nat}{hs hs':List (List Fl)}{cur cur':List Value}{n':Nat}{s t:Value}(hB:Below w.heap.size w W)(hd:W.heap[D]? =some (.cells #[s,t] 52 (0,0)))(hs1:PIn W s S)(ht1:PIn W t T)(hr:HRow W (D+1) g cap cur n hs)(hki:KI S T hs' k)(hle:w.heap.size<=D)(hr':HRow W' (D+1) g' cap' cur' n' hs')(hg:W.grownBy W' (some g)):KSt w D S T hs' k g' cap' cur' n' W':=by
 have hb:=hr.base;refine⟨hB.grown hg hB.size (fun g2 e=>by cases e;omega),⟨s,t,(hg.block D (VG.1 hd).1 (fun e=>by have:=VN e;omega)).trans hd,hs1.off hg hr.slb,ht1.off hg hr.slb⟩,hr',hki,hle⟩
theorem Z5k (np:Nat)(hnp:np<=9223372036854775807):∃m:Nat,m<=np/\m<=6/\∀w:World,(Builtin.min_ #[3,3] 3 #[.int .i64 np,.int .i64 6]).run Tryz.prog w=.ok (.int .i64 (m:Int)) w:=by
 refine⟨min np 6,by omega,by omega,fun w=> ?_⟩;simp[Builtin.min_,Builtin.min2]
 repeat' split
 all_goals omega
theorem RJ (a:Option Addr)(m n cap:Nat)(h:m<=n)(hn:n<=cap)(W:World):(Instr.slice 61 (.slice a n cap) none (some (.int .i64 (m:Int))) none).run Tryz.prog W=.ok (.slice a m cap) W:=by
 have hs:=Tryz.sizeOf22;have ht:=Tryz.underlying61;have h2:(m:Int)<=(cap:Int):=by omega
 cases a<;>simp[go_sem,ht,hs,h2]
theorem Z3s (S T:List Nat)(j:Nat):(S++T.take j).length<=S.length+T.length:=by
 rw[VB,VL];omega
theorem LLs.get {w W:World}{a:Option Addr}{n cap i:Nat}{ls:List (List Fl)}(h:LLs w a n cap ls)(hB:Below w.heap.size w W)(hi:i<n):∃b o x lx,a=some ⟨b,o,none⟩/\W.cell? ⟨b,o+i,none⟩=some x/\LIn W x lx:=by
 rcases h.at_ with e|⟨b,o,vs,e,hl⟩
 . omega
 . obtain⟨x,lx,_,_,h3,h4⟩:=(hl.below hB).get (k:=i) (by rw[hl.len,h.len];exact hi);exact⟨b,o,x,lx,e,h3,h4⟩
noncomputable def ctS (S T:List Nat)(t:Nat):List Nat:=(S++T.take t).take (rN (S++T.take t))
noncomputable def ctN (S T:List Nat)(t:Nat):Nat:=(S++T.take t).length-rN (S++T.take t)
theorem Z72 {S T:List Nat}{t:Nat}(hd:dskE S T=0)(ht:t<=T.length):cutE S T (t:Int)=0/\cutS S T (t:Int)=ctS S T t/\cutN S T (t:Int)=ctN S T t:=by
 have h0:cutE S T (t:Int)=0:=by unfold cutE;rw[if_neg (by simp[hd]),if_neg (by omega)]
 have hb:Z3t S T (t:Int)=S++T.take t:=rfl;exact⟨h0,by unfold cutS ctS;rw[if_pos h0,hb],by unfold cutN ctN;rw[if_pos h0,hb]⟩
theorem Z73 {S T:List Nat}{hs:List (List Fl)}{k t:Nat}(h:KI S T hs k)(ht:t<=T.length):(∀x∈ctS S T t,x<256)/\(ctS S T t).length<=40000/\dskE (ctS S T t) []=0/\S=(ctS S T t).take S.length/\rF (ctS S T t)=rF (S++T.take t)/\∃i:Nat,(hs.drop k)[i]? =some (rF (S++T.take t)):=by
 obtain⟨i,i1,i2,i3,i4⟩:=h.cut t ht;have hl:(S++T.take t).length<=40000:=by have:=Z3s S T t;have:=h.few;omega
 have hr:=Z6e (S++T.take t);refine⟨fun x hx=> ?_,by unfold ctS;rw[VL];omega, ?_, ?_, ?_,i-k, ?_⟩
 . rcases VZ.1 (VS hx)with hx|hx
   . exact h.v1 x hx
   . exact h.v2 x (VS hx)
 . have hw:Fj (ctS S T t) (rF (S++T.take t)):=by
    have e:(ctS S T t).length=rN (S++T.take t):=by unfold ctS;rw[VL];omega
    unfold Fj;rw[e];exact(Zy (S++T.take t)).self
   exact Nc (by unfold ctS;rw[VL];simp;omega) hw (by rw[WO];exact hw)
 . unfold ctS;rw[List.take_take,YC i4,WC (VC _),VP (VC _)]
 . exact(Ug (Zy (S++T.take t)).self).1
 . rw[XP,show k+(i-k)=i by omega,i3];simp[List.getD,i2]
theorem Z0f {C:List Nat}(h:dskE C []=0):addE C [] []=0\/addE C [] []=11:=by
 have hw:wrE []=0:=Vn Pm (fun f hf=>by cases hf);have hb:Ct (rF (C++ [])) []=0:=(Ya (Z51 _)).2.2.1
 by_cases h4:40000<C.length+([]:List Nat).length+(8+(wrL []).length)
 . exact .inr (Sm h hw hb h4)
 . exact .inl (Ye h hw hb h4)
theorem KC (g k n cap:Nat)(h:k<n)(hn:n<=cap)(W:World):(Instr.slice 61 (.slice (some ⟨g,0,none⟩) n cap) (some (.int .i64 (k:Int))) none none).run Tryz.prog W=.ok (.slice (some ⟨g,k,none⟩) (n-k) (cap-k)) W:=by
 have hs:=Tryz.sizeOf22;have ht:=Tryz.underlying61;have h1:(k:Int)<=(n:Int):=by omega
 have h2:¬cap=k:=by omega
 have e:(⟨g,0,none⟩:Addr).add k=⟨g,k,none⟩:=by rw[Sl,WI]
 simp[go_sem,ht,hs,h1,h2,e]
 try omega
theorem MF (a:Option Addr)(n cap:Nat)(safe cut:Int)(ls:List (List Fl))(w:World)(h:LLs w a n cap ls):
 Calls Tryz.prog 8 #[.slice a n cap,.int .i64 safe,.int .i64 cut] w fun e w'=>e=.returned (.bool true)/\Below w.heap.size w w':=by
 obtain⟨D,hD⟩:∃D,w.heap.size=D:=⟨_,rfl⟩
 have hbig:=h.big;obtain⟨m,hm1,hm2,hmin⟩:=Z5k n (by omega);have hsl:=RJ a m n cap hm1 h.room
 have HST:Hid (KSt w D [] [] [[]] 0 (D+1) 1 [.slice none 0 0] 1 ((w.alloc (.cells #[.slice none 0 0,.slice none 0 0] 52)).alloc (.cells #[.slice none 0 0] 22))):=Ab (by
  have hz:(w.alloc (.cells #[.slice none 0 0,.slice none 0 0] 52)).heap.size=D+1:=by simp[hD]
  refine⟨((Below.refl w.heap.size w).alloc (VC _) _).alloc (by simp) _,⟨.slice none 0 0,.slice none 0 0, ?_,PIn.nil _,PIn.nil _⟩,⟨?_,VC _,rfl,VC _,by unfold maxLen;omega,rfl,by decide, ?_, ?_⟩,KI.init,by omega⟩
  . refine(Below.heap_alloc _ _ _ (by rw[hz];omega)).trans ?_;rw[<-hD];exact heap_alloc_new _ _
  . have:=heap_alloc_new (w.alloc (.cells #[.slice none 0 0,.slice none 0 0] 52)) (.cells #[.slice none 0 0] 22)
    rw[hz]at this;exact this
  . intro j l hj;have hj0:j=0:=by have:=(WQ.1 hj).1;simp at this;omega
    subst hj0;simp at hj
    subst hj;exact⟨_,rfl,LIn.nil _⟩
  . intro u hu;rw[WK.1 hu];exact⟨_,_,_,rfl⟩)
 have HLL:=Ab h;clear h hbig;go_enter Tryz.func8,Tryz.ntmps8
 go_wp2;go_loopw [8,9,26] (fun v8 v9 v26 wr=>∃(S T:List Nat) (hs:List (List Fl)) (k g cp:Nat) (cur:List Value) (nn i:Nat),v8=.slice (some ⟨g,0,none⟩) nn cp/\v9=.int .i64 (k:Int)/\v26=.int .i64 (i:Int)/\i<=m/\nn<=i+1/\Hid (KSt w D S T hs k g cp cur nn wr)) (fun _ _ v26 _=>m-(intOf v26).toNat)
 case atStart=>exact⟨[],[],[[]],0,D+1,1,[.slice none 0 0],1,0,rfl,rfl,rfl,VM _,VC _,HST⟩
 case round=>
  obtain⟨S,T,hs,k,g,cp,cur,nn,i,rfl,rfl,rfl,hi,hnn,hst⟩:=hrel;clear HST;have hK:=Aa hst;have hfew:=hK.ki.few;obtain⟨a1,c1,a2,c2,hD0,hDD⟩:=hK.parts;obtain⟨n1,hn1⟩:∃n1,S.length=n1:=⟨_,rfl⟩
  obtain⟨n2,hn2⟩:∃n2,T.length=n2:=⟨_,rfl⟩
  rw[hn1,hn2]at hD0 hDD hfew;have d0:=Ac (i:=0) hD0;have d1:=Ac (i:=1) hD0
  by_cases hlt:i<m
  . obtain⟨b,o,x,lx,rfl,hx,hLx⟩:=(Aa HLL).get hK.bel (i:=i) (by omega);have HAD:=Ab (Yd _ x S T lx wr hDD hLx hK.ki.v1 hK.ki.v2 (by omega) (by omega));unfold DkA at HAD;obtain⟨ax,cx,hxs⟩:=hLx.shape;obtain⟨lk,hlk⟩:∃lk,lx.length=lk:=⟨_,rfl⟩
    rw[hlk]at hxs;subst hxs;obtain⟨E,hE⟩:∃E,addE S T lx=E:=⟨_,rfl⟩
    rw[hE]at HAD;have HE:=Ab hE;clear hD0 hDD hLx hlk hE hK;go_wp2_with fail
    refine(Aa HAD).mono ?_;rintro e w1 ⟨hB1,dd,rfl,hDd⟩;obtain⟨p1,q1,p2,q2,rfl,hq1,hq2,hp1,hp2⟩:=hDd.parts;obtain⟨m1,hm1'⟩:∃m1,(addS S T lx).length=m1:=⟨_,rfl⟩
    obtain⟨m2',hm2'⟩:∃m2',(addW S T lx).length=m2':=⟨_,rfl⟩
    rw[hm1',hm2']at hDd ⊢;rw[hm1']at hq1;rw[hm2']at hq2;have hA1:Below w1.heap.size w1 (w1.alloc (.cells #[.slice p1 m1 q1,.slice p2 m2' q2] 52)):=Aw (Below.refl _ _) _;have hBc:=hB1.trans (hA1.mono hB1.size);have hK1:=(Aa hst).below hBc
    by_cases hE0:¬E=0
    . have hEb:((E:Int)==0)=false:=by rw[beq_eq_false_iff_ne];omega
      have hEc:((E:Int)!=0)=true:=by rw[bne,hEb];rfl
      have HK1:=Ab hK1;clear hB1 hDd hA1 hBc hK1 hE0 hp1 hp2 HAD hm1' hm2';go_wp2;refine⟨⟨S,T,hs,k,g,cp,cur,nn,i+1,rfl,rfl,by go_num,by omega,by omega,HK1⟩, ?_⟩;simp[intOf]
      omega
    obtain rfl:E=0:=by omega
    obtain⟨z1,z2,z3,z4,z5,z6⟩:=Hf (Aa HE);have hki:=(Aa hst).ki.add (Aa HE);obtain⟨T',hT'⟩:∃T',T++Ga (wrL lx)=T':=⟨_,rfl⟩
    rw[hT']at z6 hki
    have hpu:PIn (w1.alloc (.cells #[.slice p1 m1 q1,.slice p2 m2' q2] 52)) (.slice p1 m1 q1) S:=by
     have h0:PIn w1 (.slice p1 m1 q1) (addS S T lx):=⟨p1,q1,by rw[hm1'],by rw[hm1'];exact hq1,hp1⟩
     rw[z5]at h0;exact h0.below hA1
    have hpv:PIn (w1.alloc (.cells #[.slice p1 m1 q1,.slice p2 m2' q2] 52)) (.slice p2 m2' q2) T':=by
     have h0:PIn w1 (.slice p2 m2' q2) (addW S T lx):=⟨p2,q2,by rw[hm2'],by rw[hm2'];exact hq2,hp2⟩
     rw[z6]at h0;exact h0.below hA1
    have hm2T:T'.length=m2':=by rw[<-hm2',z6]
    have hm1S:m1=n1:=by rw[<-hm1',z5,hn1]
    subst hm1S;obtain⟨a3,c3,a4,c4,hD1,_⟩:=hK1.parts;obtain⟨k1,k2,k3,k4,k5⟩:=hK1.put (k':=k) hpu hpv;rw[hn1,hn2]at hD1;have e0:=Ac (i:=0) hD1;have e1:=Ac (i:=1) hD1;have f0:=frozen_of_row _ D 0 _ _ hD1;have f1:=frozen_of_row _ D 1 _ _ hD1;have hfew':=hki.few;rw[hn1,hm2T]at hfew';have hdin:DIn (((w1.alloc (.cells #[.slice p1 m1 q1,.slice p2 m2' q2] 52)).setCell ⟨D,0,none⟩ (.slice p1 m1 q1)).setCell ⟨D,1,none⟩ (.slice p2 m2' q2)) (.agg #[.slice p1 m1 q1,.slice p2 m2' q2]) S T':=⟨_,_,rfl,k3,k4⟩
    have HFI:=Ab ((Iz _ S T' _ hdin hki.v1 hki.v2 (by omega) (by omega)).mono (fun e w' h=>Xj h));rw[hki.dsk]at HFI;have HW:Hid (KSt w D S T' hs k g cp cur nn (((w1.alloc (.cells #[.slice p1 m1 q1,.slice p2 m2' q2] 52)).setCell ⟨D,0,none⟩ (.slice p1 m1 q1)).setCell ⟨D,1,none⟩ (.slice p2 m2' q2))\/True):=Ab (.inr trivial);have HBL:=Ab k1;have HBK:=Ab k2;have HPU:=Ab k3;have HPV:=Ab k4;have HRW:=Ab k5;have HKI:=Ab hki;have HLE:=Ab (Aa hst).le;have HM2:=Ab hm2T;clear hB1 hDd hA1 hBc hK1 hp1 hp2 HAD hm1' hm2' z1 z2 z3 z4 z5 z6 hki hpu hpv hD1 k1 k2 k3 k4 k5 hdin hm2T hE0 HW hT';go_wp2_with fail
    refine(Aa HFI).mono ?_;rintro e w2 ⟨hB2,v3,l3,rfl,hL3,hl3,-⟩;have hl3':l3=rF (S++T'):=by simpa using hl3
    obtain⟨ad3,c3',hv3⟩:=hL3.shape;obtain⟨lk3,hlk3⟩:∃lk3,l3.length=lk3:=⟨_,rfl⟩
    rw[hlk3]at hv3;subst hv3;have hY:(w2.alloc (.cells #[.slice ad3 lk3 c3'] 22)).cell? ⟨w2.heap.size,0,none⟩=some (.slice ad3 lk3 c3'):=Ac (i:=0) (heap_alloc_new w2 _);have hAY:Below w2.heap.size w2 (w2.alloc (.cells #[.slice ad3 lk3 c3'] 22)):=Aw (Below.refl _ _) _;have hBY:=hB2.trans (hAY.mono hB2.size);have hRY:=(Aa HRW).below hBY;have hBw:=(Aa HBL).trans (hBY.mono (Aa HBL).size);have hDY:=(hBY.block D (VG.1 (Aa HBK)).1).trans (Aa HBK);have hUY:=(Aa HPU).below hBY;have hVY:=(Aa HPV).below hBY;have hLY:=hL3.below hAY;have hkn:KI S T' (hs++ [l3]) k:=by rw[hl3'];exact Aa HKI
    have HFN:Hid (∀g' cap' cur' w3,HRow w3 (D+1) g' cap' cur' (nn+1) (hs++ [l3])->(w2.alloc (.cells #[.slice ad3 lk3 c3'] 22)).grownBy w3 (some g)->KSt w D S T' (hs++ [l3]) k g' cap' cur' (nn+1) w3):=Ab (fun g' cap' cur' w3 h1 h2=>KSt.app hBw hDY hUY hVY hRY hkn (Aa HLE) h1 h2);have HRY:=Ab hRY;have HLY:=Ab hLY;have hRlen:hs.length=nn:=hRY.len;clear hB2 hL3 hl3 hAY hBY hRY hBw hDY hUY hVY hLY hkn HFI hlk3 hl3';go_wp2_with (refine Kr rfl (.tmp 47) (.tmp 49) rfl (Aa HRY) w2.heap.size (.slice ad3 lk3 c3') l3 rfl rfl hY (Aa HLY) (by omega) ?_)
    intro g' cap' cur' w3 hR3 hG3;have hK3:=Aa HFN g' cap' cur' w3 (Aa hR3) (Aa hG3);clear hR3 hG3 hY
    by_cases hsf:(i:Int)=safe
    . have hfew3:=hK3.ki.few;obtain⟨a5,c5,a6,c6,hD5,hDD5⟩:=hK3.parts;rw[hn1,Aa HM2]at hD5 hDD5 hfew3;have HFL:=Ab (F7 _ S T' w3 hDD5 hK3.ki.v1 hK3.ki.v2 (by omega) (by rw[Aa HM2];omega));unfold DkA at HFL;have hfl:flS S T'=S++T':=by unfold flS;rw[if_pos hK3.ki.dsk]
      rw[hK3.ki.dsk,hfl]at HFL;have g0:=Ac (i:=0) hD5;have g1:=Ac (i:=1) hD5;have HK3:=Ab hK3;subst hsf;clear hD5 hDD5 hfl hK3;go_wp2_with fail
      refine(Aa HFL).mono ?_;rintro e w4 ⟨hB4,dd,rfl,hD4⟩;obtain⟨s4,t4,rfl,hs4,ht4⟩:=hD4;have hK4:=(Aa HK3).below hB4;obtain⟨a7,c7,a8,c8,hD7,_⟩:=hK4.parts;obtain⟨y1,y2,y3,y4,y5⟩:=hK4.put (k':=nn) hs4 ht4;have hkf:=hK4.ki.flush;have hlen1:(hs++ [l3]).length-1=nn:=by simp[hRlen]
      rw[hlen1]at hkf;have hKF:KSt w D (S++T') [] (hs++ [l3]) nn g' cap' cur' (nn+1) ((w4.setCell ⟨D,0,none⟩ s4).setCell ⟨D,1,none⟩ t4):=⟨y1,⟨s4,t4,y2,y3,y4⟩,y5,hkf,hK4.le⟩
      obtain⟨r4,x4,rfl,-⟩:=id hs4;obtain⟨r5,x5,rfl,-⟩:=id ht4;rw[hn1,Aa HM2]at hD7;have j0:=Ac (i:=0) hD7;have j1:=Ac (i:=1) hD7;have o0:=frozen_of_row _ D 0 _ _ hD7;have o1:=frozen_of_row _ D 1 _ _ hD7;obtain⟨sl,hsll⟩:∃sl,(S++T').length=sl:=⟨_,rfl⟩
      rw[hsll]at hKF ⊢;simp only[VQ]at hKF ⊢;have HKF:=Ab hKF;have hws:IntKind.i64.wrap (((nn+1:Nat):Int)-1)=((nn:Nat):Int):=by simp[IntKind.wrap,IntKind.signed,IntKind.bits];omega
      clear hB4 hs4 ht4 hK4 hD7 y1 y2 y3 y4 y5 hkf hKF HFL hlen1 g0 g1;go_wp2;refine⟨⟨S++T',[],hs++ [l3],nn,g',cap',cur',nn+1,i+1,rfl, ?_,by go_num,by omega,by omega,HKF⟩, ?_⟩
      . first|rfl|(congr 1;omega)
      . simp[intOf]
        omega
    . have HK3:=Ab hK3;have hsb:((i:Int)==safe)=false:=by rw[beq_eq_false_iff_ne];exact hsf
      clear hK3 hsf;go_wp2;refine⟨⟨S,T',hs++ [l3],k,g',cap',cur',nn+1,i+1,rfl,rfl,by go_num,by omega,by omega,HK3⟩, ?_⟩;simp[intOf]
      omega
  . obtain rfl:m=i:=by omega
    have HK:=Ab hK
    have HCU:Hid (∀(W:World) (t:Nat),Below wr.heap.size wr W->t<n2+1->Calls Tryz.prog 24 #[.agg #[.slice a1 n1 c1,.slice a2 n2 c2],.int .i64 (t:Int)] W fun e w'=>Below W.heap.size W w'/\∃b1 m1 d1 b2 d2,e=.returned (.tuple #[.agg #[.slice b1 m1 d1,.slice b2 0 d2],.int .i64 ((ctN S T t:Nat):Int),.int .i64 0])/\PIn w' (.slice b1 m1 d1) (ctS S T t)/\PIn w' (.slice b2 0 d2) []):=Ab (fun W t hW ht=>by
     refine(OK _ (t:Int) S T W (hDD.below hW) hK.ki.v1 hK.ki.v2 (by omega) (by omega)).mono (fun e w' h=> ?_);obtain⟨z1,z2,z3⟩:=Z72 hK.ki.dsk (t:=t) (by omega);rw[z1,z2,z3]at h;obtain⟨hB,d,h3,h4⟩:=h;obtain⟨b1,d1,b2,d2,rfl,p1,p2,p3,p4⟩:=h4.parts;exact⟨hB,b1,_,d1,b2,d2,h3,⟨b1,d1,rfl,p1,p3⟩,⟨b2,d2,rfl,p2,p4⟩⟩)
    have HAT:=Ab (fun W=>PQ cut (n2+1) W (by omega) (by omega));have hw1:IntKind.i64.wrap ((n2:Int)+1)=((n2+1:Nat):Int):=by simp[IntKind.wrap,IntKind.signed,IntKind.bits];omega
    have hDl:D<wr.heap.size:=(VG.1 hD0).1;clear hst hDD hD0 hK;go_upto_region 20 with fail
    go_cut [15,16,17] (fun v15 v16 v17 wc=>∃(X t:Nat) (b1:Option Addr) (m1 d1:Nat) (b2:Option Addr) (d2:Nat),v15=.pointer (some ⟨X,0,none⟩)/\v16=.int .i64 ((ctN S T t:Nat):Int)/\v17=.int .i64 0/\t<=n2/\Hid (wc.heap[X]? =some (.cells #[.slice b1 m1 d1,.slice b2 0 d2] 52 (0,0))/\PIn wc (.slice b1 m1 d1) (ctS S T t)/\PIn wc (.slice b2 0 d2) []/\Below wr.heap.size wr wc))
    case first=>
     refine wp_region_held_drew (S:=fun W=>(W.cell? ⟨D,0,none⟩=some (.slice a1 n1 c1)/\W.cell? ⟨D,1,none⟩=some (.slice a2 n2 c2))/\Below wr.heap.size wr W) (by kernel_rfl) ⟨⟨d0,d1⟩,Af (Below.refl _ _) 1⟩ (fun hHeld=> ?_);refine wpAnyH_take (i:=0) (v:=.agg #[.slice a1 n1 c1,.slice a2 n2 c2]) rfl (by kernel_rfl) (by kernel_rfl) (by kernel_rfl) (fun _ _ _ h=>h) (Or.inl ⟨by rfl,fun W hS=>by have hc:=hS.1.1;have hc2:=hS.1.2;go_simp⟩) hHeld ?_;simp only[Act.put,VA,VD,VE];refine wpAnyH_take (i:=1) (v:=.int .i64 cut) rfl (by kernel_rfl) (by kernel_rfl) (by kernel_rfl) (fun _ _ _ h=>h) (Or.inl ⟨by rfl,fun W hS=>by go_simp⟩) hHeld ?_;simp only[Act.put,VA,VD,VE];refine wpAnyH_take (i:=2) (v:=.pointer (some ⟨D,1,none⟩)) rfl (by kernel_rfl) (by kernel_rfl) (by kernel_rfl) (fun _ _ _ h=>h) (Or.inl ⟨by rfl,fun W hS=>by go_simp⟩) hHeld ?_;simp only[Act.put,VA,VD,VE];refine wpAnyH_take (i:=3) (v:=.slice a2 n2 c2) rfl (by kernel_rfl) (by kernel_rfl) (by kernel_rfl) (fun _ _ _ h=>h) (Or.inl ⟨by rfl,fun W hS=>by have hc:=hS.1.2;go_simp⟩) hHeld ?_;simp only[Act.put,VA,VD,VE];refine wpAnyH_take (i:=4) (v:=.int .i64 (n2:Int)) rfl (by kernel_rfl) (by kernel_rfl) (by kernel_rfl) (fun _ _ _ h=>h) (Or.inl ⟨by rfl,fun W hS=>by go_simp⟩) hHeld ?_;simp only[Act.put,VA,VD,VE];refine wpAnyH_take (i:=5) (v:=.int .i64 ((n2+1:Nat):Int)) rfl (by kernel_rfl) (by kernel_rfl) (by kernel_rfl) (fun _ _ _ h=>h) (Or.inl ⟨by rfl,fun W hS=>by go_simp⟩) hHeld ?_;simp only[Act.put,VA,VD,VE];have hrr:∀W,Below wr.heap.size wr W->(W.cell? ⟨D,0,none⟩=some (.slice a1 n1 c1)/\W.cell? ⟨D,1,none⟩=some (.slice a2 n2 c2))/\Below wr.heap.size wr W:=fun W hW=>⟨⟨(hW.cell (p:=⟨D,0,none⟩) hDl).trans d0,(hW.cell (p:=⟨D,1,none⟩) hDl).trans d1⟩,hW⟩
     refine wpAnyH_ready (rs:= [6,12]) (by kernel_rfl) (by simp) (AllReadyH.cons rfl (fun K hK=> ?_) (AllReadyH.cons rfl (fun K hK=> ?_) AllReadyH.nil))
     . go_simp
       refine(Aa HAT _).mono ?_;rintro e wA ⟨t,rfl,ht,rfl⟩;dsimp only;refine hK.out _ _ hHeld (fun hHeldA=> ?_);clear hK K;refine wpAnyH_ready (rs:= [7,12]) (by kernel_rfl) (by simp) (AllReadyH.cons rfl (fun K hK=> ?_) (AllReadyH.cons rfl (fun K hK=> ?_) AllReadyH.nil))
       . go_simp
         refine(Aa HCU _ t hHeldA.2 ht).mono ?_;rintro e w4 ⟨hB4,b1,m1,d1',b2,d2',rfl,hpa,hpb⟩;have hBw4:Below wr.heap.size wr w4:=hHeldA.2.trans (hB4.mono hHeldA.2.size);dsimp only;refine hK.out _ _ (hrr _ hBw4) (fun hHeldC=> ?_);clear hK K;refine wpAnyH_take (i:=8) (v:=.tuple #[.agg #[.slice b1 m1 d1',.slice b2 0 d2'],.int .i64 ((ctN S T t:Nat):Int),.int .i64 0]) rfl (by kernel_rfl) (by kernel_rfl) (by kernel_rfl) (fun _ _ _ h=>h) (Or.inl ⟨by rfl,fun W hS=>by go_simp⟩) hHeldC ?_;simp only[Act.put,VA,VD,VE];refine wpAnyH_take (i:=9) (v:=.agg #[.slice b1 m1 d1',.slice b2 0 d2']) rfl (by kernel_rfl) (by kernel_rfl) (by kernel_rfl) (fun _ _ _ h=>h) (Or.inl ⟨by rfl,fun W hS=>by go_simp⟩) hHeldC ?_;simp only[Act.put,VA,VD,VE];refine wpAnyH_take (i:=10) (v:=.int .i64 ((ctN S T t:Nat):Int)) rfl (by kernel_rfl) (by kernel_rfl) (by kernel_rfl) (fun _ _ _ h=>h) (Or.inl ⟨by rfl,fun W hS=>by go_simp⟩) hHeldC ?_;simp only[Act.put,VA,VD,VE];refine wpAnyH_take (i:=11) (v:=.int .i64 0) rfl (by kernel_rfl) (by kernel_rfl) (by kernel_rfl) (fun _ _ _ h=>h) (Or.inl ⟨by rfl,fun W hS=>by go_simp⟩) hHeldC ?_;simp only[Act.put,VA,VD,VE];refine wpAnyH_ready (rs:= [12]) (by kernel_rfl) (by simp) (AllReadyH.cons rfl (fun K hK=> ?_) AllReadyH.nil);go_simp
         have hBD:Below wr.heap.size wr (w4.alloc (.cells #[.slice none 0 0,.slice none 0 0] 52)):=Aw hBw4 _;have hXD:(w4.alloc (.cells #[.slice none 0 0,.slice none 0 0] 52)).heap[w4.heap.size]? =some (.cells #[.slice none 0 0,.slice none 0 0] 52 (0,0)):=heap_alloc_new _ _;refine hK.out _ _ (hrr _ hBD) (fun hHeldD=> ?_);clear hK K;have HY1:=Ab (heap_alloc_new w4 (.cells #[.slice b1 m1 d1',.slice b2 0 d2'] 52));have HY2:=Ab (Aw hBw4 (.cells #[.slice b1 m1 d1',.slice b2 0 d2'] 52));have HY3:=Ab (hpa.below (Aw (Below.refl w4.heap.size w4) (.cells #[.slice b1 m1 d1',.slice b2 0 d2'] 52)));have HY4:=Ab (hpb.below (Aw (Below.refl w4.heap.size w4) (.cells #[.slice b1 m1 d1',.slice b2 0 d2'] 52)));have e0:=Ac (i:=0) hXD;have e1:=Ac (i:=1) hXD;have f0:=frozen_of_row _ (w4.heap.size) 0 _ _ hXD;have f1:=frozen_of_row _ (w4.heap.size) 1 _ _ hXD;refine wpAnyH_ready (rs:= [13]) (by kernel_rfl) (by simp) (AllReadyH.cons rfl (fun K hK=> ?_) AllReadyH.nil);go_simp
         refine hK.out _ _ (hrr _ (Aa HY2)) (fun hHeld13=> ?_);clear hK K;refine wpAnyH_ready (rs:= [14]) (by kernel_rfl) (by simp) (AllReadyH.cons rfl (fun K hK=> ?_) AllReadyH.nil);go_simp
         refine hK.out _ _ hHeld13 (fun hHeld14=> ?_);clear hK K;refine wpAnyH_ready (rs:= [15]) (by kernel_rfl) (by simp) (AllReadyH.cons rfl (fun K hK=> ?_) AllReadyH.nil);go_simp
         refine hK.out _ _ hHeld14 (fun hHeld15=> ?_);clear hK K;refine wpAnyH_done (by kernel_rfl) ?_ _;go_wp2_with fail
         go_meet
         exact⟨_,t,b1,m1,d1',b2,d2',rfl,rfl,rfl,by omega,Ab ⟨Aa HY1,Aa HY3,Aa HY4,Aa HY2⟩⟩
       . go_simp
         have hBD:Below wr.heap.size wr (wr.drew.alloc (.cells #[.slice none 0 0,.slice none 0 0] 52)):=Aw (Co (Below.refl wr.heap.size wr)) _;have hXD:(wr.drew.alloc (.cells #[.slice none 0 0,.slice none 0 0] 52)).heap[wr.drew.heap.size]? =some (.cells #[.slice none 0 0,.slice none 0 0] 52 (0,0)):=heap_alloc_new _ _;refine hK.out _ _ (hrr _ hBD) (fun hHeldD=> ?_);clear hK K;refine wpAnyH_ready (rs:= [7]) (by kernel_rfl) (by simp) (AllReadyH.cons rfl (fun K hK=> ?_) AllReadyH.nil);go_simp
         refine(Aa HCU _ t hHeldD.2 ht).mono ?_;rintro e w4 ⟨hB4,b1,m1,d1',b2,d2',rfl,hpa,hpb⟩;have hBw4:Below wr.heap.size wr w4:=hHeldD.2.trans (hB4.mono hHeldD.2.size);dsimp only;refine hK.out _ _ (hrr _ hBw4) (fun hHeldC=> ?_);clear hK K;refine wpAnyH_take (i:=8) (v:=.tuple #[.agg #[.slice b1 m1 d1',.slice b2 0 d2'],.int .i64 ((ctN S T t:Nat):Int),.int .i64 0]) rfl (by kernel_rfl) (by kernel_rfl) (by kernel_rfl) (fun _ _ _ h=>h) (Or.inl ⟨by rfl,fun W hS=>by go_simp⟩) hHeldC ?_;simp only[Act.put,VA,VD,VE];refine wpAnyH_take (i:=9) (v:=.agg #[.slice b1 m1 d1',.slice b2 0 d2']) rfl (by kernel_rfl) (by kernel_rfl) (by kernel_rfl) (fun _ _ _ h=>h) (Or.inl ⟨by rfl,fun W hS=>by go_simp⟩) hHeldC ?_;simp only[Act.put,VA,VD,VE];refine wpAnyH_take (i:=10) (v:=.int .i64 ((ctN S T t:Nat):Int)) rfl (by kernel_rfl) (by kernel_rfl) (by kernel_rfl) (fun _ _ _ h=>h) (Or.inl ⟨by rfl,fun W hS=>by go_simp⟩) hHeldC ?_;simp only[Act.put,VA,VD,VE];refine wpAnyH_take (i:=11) (v:=.int .i64 0) rfl (by kernel_rfl) (by kernel_rfl) (by kernel_rfl) (fun _ _ _ h=>h) (Or.inl ⟨by rfl,fun W hS=>by go_simp⟩) hHeldC ?_;simp only[Act.put,VA,VD,VE];have hX4:=(hB4.block wr.heap.size (VG.1 hXD).1).trans hXD;have hle:wr.heap.size<=wr.heap.size:=VC _;obtain⟨y1,y2,s',t',ye,y3,y4⟩:=DIn.put hBw4 hle hX4 hpa hpb
         cases ye
         have e0:=Ac (i:=0) hX4;have e1:=Ac (i:=1) hX4;have f0:=frozen_of_row _ (wr.heap.size) 0 _ _ hX4;have f1:=frozen_of_row _ (wr.heap.size) 1 _ _ hX4;have HY1:=Ab y1;have HY2:=Ab y2;have HY3:=Ab y3;have HY4:=Ab y4;clear y1 y2 y3 y4;refine wpAnyH_ready (rs:= [13]) (by kernel_rfl) (by simp) (AllReadyH.cons rfl (fun K hK=> ?_) AllReadyH.nil);go_simp
         refine hK.out _ _ (hrr _ (Aa HY2)) (fun hHeld13=> ?_);clear hK K;refine wpAnyH_ready (rs:= [14]) (by kernel_rfl) (by simp) (AllReadyH.cons rfl (fun K hK=> ?_) AllReadyH.nil);go_simp
         refine hK.out _ _ hHeld13 (fun hHeld14=> ?_);clear hK K;refine wpAnyH_ready (rs:= [15]) (by kernel_rfl) (by simp) (AllReadyH.cons rfl (fun K hK=> ?_) AllReadyH.nil);go_simp
         refine hK.out _ _ hHeld14 (fun hHeld15=> ?_);clear hK K;refine wpAnyH_done (by kernel_rfl) ?_ _;go_wp2_with fail
         go_meet
         exact⟨_,t,b1,m1,d1',b2,d2',rfl,rfl,rfl,by omega,Ab ⟨Aa HY1,Aa HY3,Aa HY4,Aa HY2⟩⟩
     . go_simp
       have hBD:Below wr.heap.size wr (wr.drew.alloc (.cells #[.slice none 0 0,.slice none 0 0] 52)):=Aw (Co (Below.refl wr.heap.size wr)) _;have hXD:(wr.drew.alloc (.cells #[.slice none 0 0,.slice none 0 0] 52)).heap[wr.drew.heap.size]? =some (.cells #[.slice none 0 0,.slice none 0 0] 52 (0,0)):=heap_alloc_new _ _;refine hK.out _ _ (hrr _ hBD) (fun hHeldD=> ?_);clear hK K;refine wpAnyH_ready (rs:= [6]) (by kernel_rfl) (by simp) (AllReadyH.cons rfl (fun K hK=> ?_) AllReadyH.nil);go_simp
       refine(Aa HAT _).mono ?_;rintro e wA ⟨t,rfl,ht,rfl⟩;dsimp only;refine hK.out _ _ hHeldD (fun hHeldA=> ?_);clear hK K;refine wpAnyH_ready (rs:= [7]) (by kernel_rfl) (by simp) (AllReadyH.cons rfl (fun K hK=> ?_) AllReadyH.nil);go_simp
       refine(Aa HCU _ t hHeldA.2 ht).mono ?_;rintro e w4 ⟨hB4,b1,m1,d1',b2,d2',rfl,hpa,hpb⟩;have hBw4:Below wr.heap.size wr w4:=hHeldA.2.trans (hB4.mono hHeldA.2.size);dsimp only;refine hK.out _ _ (hrr _ hBw4) (fun hHeldC=> ?_);clear hK K;refine wpAnyH_take (i:=8) (v:=.tuple #[.agg #[.slice b1 m1 d1',.slice b2 0 d2'],.int .i64 ((ctN S T t:Nat):Int),.int .i64 0]) rfl (by kernel_rfl) (by kernel_rfl) (by kernel_rfl) (fun _ _ _ h=>h) (Or.inl ⟨by rfl,fun W hS=>by go_simp⟩) hHeldC ?_;simp only[Act.put,VA,VD,VE];refine wpAnyH_take (i:=9) (v:=.agg #[.slice b1 m1 d1',.slice b2 0 d2']) rfl (by kernel_rfl) (by kernel_rfl) (by kernel_rfl) (fun _ _ _ h=>h) (Or.inl ⟨by rfl,fun W hS=>by go_simp⟩) hHeldC ?_;simp only[Act.put,VA,VD,VE];refine wpAnyH_take (i:=10) (v:=.int .i64 ((ctN S T t:Nat):Int)) rfl (by kernel_rfl) (by kernel_rfl) (by kernel_rfl) (fun _ _ _ h=>h) (Or.inl ⟨by rfl,fun W hS=>by go_simp⟩) hHeldC ?_;simp only[Act.put,VA,VD,VE];refine wpAnyH_take (i:=11) (v:=.int .i64 0) rfl (by kernel_rfl) (by kernel_rfl) (by kernel_rfl) (fun _ _ _ h=>h) (Or.inl ⟨by rfl,fun W hS=>by go_simp⟩) hHeldC ?_;simp only[Act.put,VA,VD,VE];have hX4:=(hB4.block wr.heap.size (VG.1 hXD).1).trans hXD;have hle:wr.heap.size<=wr.heap.size:=VC _;obtain⟨y1,y2,s',t',ye,y3,y4⟩:=DIn.put hBw4 hle hX4 hpa hpb
       cases ye
       have e0:=Ac (i:=0) hX4;have e1:=Ac (i:=1) hX4;have f0:=frozen_of_row _ (wr.heap.size) 0 _ _ hX4;have f1:=frozen_of_row _ (wr.heap.size) 1 _ _ hX4;have HY1:=Ab y1;have HY2:=Ab y2;have HY3:=Ab y3;have HY4:=Ab y4;clear y1 y2 y3 y4;refine wpAnyH_ready (rs:= [13]) (by kernel_rfl) (by simp) (AllReadyH.cons rfl (fun K hK=> ?_) AllReadyH.nil);go_simp
       refine hK.out _ _ (hrr _ (Aa HY2)) (fun hHeld13=> ?_);clear hK K;refine wpAnyH_ready (rs:= [14]) (by kernel_rfl) (by simp) (AllReadyH.cons rfl (fun K hK=> ?_) AllReadyH.nil);go_simp
       refine hK.out _ _ hHeld13 (fun hHeld14=> ?_);clear hK K;refine wpAnyH_ready (rs:= [15]) (by kernel_rfl) (by simp) (AllReadyH.cons rfl (fun K hK=> ?_) AllReadyH.nil);go_simp
       refine hK.out _ _ hHeld14 (fun hHeld15=> ?_);clear hK K;refine wpAnyH_done (by kernel_rfl) ?_ _;go_wp2_with fail
       go_meet
       exact⟨_,t,b1,m1,d1',b2,d2',rfl,rfl,rfl,by omega,Ab ⟨Aa HY1,Aa HY3,Aa HY4,Aa HY2⟩⟩
    case rest=>
     obtain⟨X,t,b1,m1,d1',b2,d2',rfl,rfl,rfl,ht,hcut⟩:=hcut;obtain⟨y1,y2,y3,y4⟩:=Aa hcut;obtain⟨c1',c2',c3',c4',c5',c6'⟩:=Z73 (Aa HK).ki (t:=t) (by omega);obtain⟨C,hC⟩:∃C,ctS S T t=C:=⟨_,rfl⟩
     obtain⟨L,hL⟩:∃L,ctN S T t=L:=⟨_,rfl⟩
     obtain⟨fz,hfz⟩:∃fz,rF (S++T.take t)=fz:=⟨_,rfl⟩
     rw[hC]at y2 c1' c2' c3' c4' c5';rw[hfz]at c5' c6';rw[hL];have hKc:=(Aa HK).below y4;have hm1C:C.length=m1:=by obtain⟨aa,cc,e,_⟩:=y2;cases e;rfl
     have HY1:=Ab y1;have HY2:=Ab y2;have HY3:=Ab y3;have HKc:=Ab hKc;have HC1:=Ab c1';have HC3:=Ab c3';have HC4:=Ab c4';have HC5:=Ab c5';have HC6:=Ab c6';have HC2:=Ab c2';have HM1:=Ab hm1C;have hLI:¬(L:Int)<0:=by omega
     clear hcut y1 y2 y3 y4 c1' c2' c3' c4' c5' c6' hC hL hfz hKc hm1C HCU HAT HK d0 d1;go_wp2_with fail
     refine(Q2 _).mono ?_;rintro e w2 ⟨rfl,hB2⟩;have hX2:=(hB2.block X (VG.1 (Aa HY1)).1).trans (Aa HY1);have hK2:=(Aa HKc).below hB2;have hpc:=(Aa HY2).below hB2;have hpw:=(Aa HY3).below hB2;obtain⟨a3,c3,a4,c4,hD3,hDD3⟩:=hK2.parts;rw[hn1,hn2]at hD3 hDD3;obtain⟨s9,t9,e9,hs9,_⟩:=hDD3
     cases e9
     have x0:=Ac (i:=0) hX2;have x1:=Ac (i:=1) hX2;have z0:=Ac (i:=0) hD3;have HPX:=Ab (DW hpc hs9 (Aa HC1) (Aa HC4));have hdc:DIn w2 (.agg #[.slice b1 m1 d1',.slice b2 0 d2']) C []:=⟨_,_,rfl,hpc,hpw⟩
     have HFI:=Ab ((Iz _ C [] w2 hdc (Aa HC1) (fun x hx=>by cases hx) (by rw[Aa HM1];have:=Aa HC2;rw[Aa HM1]at this;omega) (by decide)).mono (fun e w' h=>Xj h));rw[Aa HC3,WO,Aa HC5]at HFI;have HX2:=Ab hX2;have HK2:=Ab hK2;have HDC:=Ab hdc;clear hB2 hX2 hK2 hpc hpw hD3 hs9 hdc;go_wp2_with fail
     refine(Aa HPX).mono ?_;rintro e w3 ⟨rfl,rfl⟩;go_wp2_with fail
     refine(Aa HFI).mono ?_;rintro e w5 ⟨hB5,v5,l5,rfl,hL5,hl5,-⟩;have hl5':l5=fz:=by simpa using hl5
     subst hl5';obtain⟨ad5,uc5,hu5⟩:=hL5.shape;obtain⟨lk5,hlk5⟩:∃lk5,l5.length=lk5:=⟨_,rfl⟩
     rw[hlk5]at hu5;subst hu5;obtain⟨Y,hY⟩:∃Y,w5.heap.size=Y:=⟨_,rfl⟩
     have hA5:Below w5.heap.size w5 (w5.alloc (.cells #[.slice ad5 lk5 uc5] 22)):=Aw (Below.refl _ _) _;have hY5:(w5.alloc (.cells #[.slice ad5 lk5 uc5] 22)).cell? ⟨Y,0,none⟩=some (.slice ad5 lk5 uc5):=by rw[<-hY];exact Ac (i:=0) (heap_alloc_new w5 _)
     have hBc5:=hB5.trans (hA5.mono hB5.size);have hK5:=(Aa HK2).below hBc5;have hdc5:=(Aa HDC).below hBc5;have hX5:=(hBc5.block X (VG.1 (Aa HX2)).1).trans (Aa HX2);have hkn:k<nn:=by have:=hK5.ki.lt;rw[hK5.row.len]at this;exact this
     have hsl2:=KC g k nn cp hkn hK5.row.room;have HCF:=Ab (Nf g k (nn-k) (cp-k) Y _ _ (.slice ad5 lk5 uc5) l5 _ (hK5.row.lists k (by omega)) (by rw[VO,VL,hK5.row.csz,YC hK5.row.room]) (by omega) hY5 (by rw[World.size_alloc];omega) (hL5.below hA5) (Aa HC6));have HAD:=Ab (fun W (hW:Below (w5.alloc (.cells #[.slice ad5 lk5 uc5] 22)).heap.size (w5.alloc (.cells #[.slice ad5 lk5 uc5] 22)) W)=>Yd _ (.slice none 0 0) C [] [] W (hdc5.below hW) (LIn.nil W) (Aa HC1) (fun x hx=>by cases hx) (by have:=Aa HC2;omega) (by decide));unfold DkA at HAD
     have HXX:Hid (∀W,Below (w5.alloc (.cells #[.slice ad5 lk5 uc5] 22)).heap.size (w5.alloc (.cells #[.slice ad5 lk5 uc5] 22)) W->W.cell? ⟨X,0,none⟩=some (.slice b1 m1 d1')/\W.cell? ⟨X,1,none⟩=some (.slice b2 0 d2')):=Ab (fun W hW=>by
      have h:=(hW.block X (VG.1 hX5).1).trans hX5;exact⟨Ac (i:=0) h,Ac (i:=1) h⟩)
     have HBw:=Ab hK5.bel;have HN:=Ab (Z0f (Aa HC3));clear hB5 hL5 hl5 hA5 hBc5 hK5 hdc5 hX5 HFI hlk5 hY5 HKc HK2 HDC;go_wp2_with fail
     refine(Aa HCF).mono ?_;rintro e w6 ⟨rfl,hB6⟩;obtain⟨u0,u1⟩:=Aa HXX w6 hB6;have HAD6:=Ab (Aa HAD w6 hB6);have HB6:=Ab ((Aa HBw).trans (hB6.mono (Aa HBw).size));clear hB6;go_wp2_with fail
     refine(Aa HAD6).mono ?_;rintro e w7 ⟨hB7,dd,rfl,-⟩;have HB7:=Ab ((Aa HB6).trans (hB7.mono (Aa HB6).size));obtain⟨E,hE⟩:∃E,addE C [] []=E:=⟨_,rfl⟩
     rw[hE]at HN ⊢;clear hB7
     rcases Aa HN with hE0|hE0
     . subst hE0;go_wp2;go_ret;exact⟨rfl,Aa HB7⟩
     . subst hE0;go_wp2;go_ret;exact⟨rfl,Aa HB7⟩
end Go.Proofs.YtieianhejdcgdaaGreatDoor
namespace Go.Proofs.YtieianhejdcgdaaGreatDoor
set_option linter.unusedVariables false
set_option maxRecDepth 100000
theorem Og:joinedFacts Tryz.pinned.checked.prog 8 Tryz.f8 Rows.shelfKeepsSpec Rows.shelfKeepsRow=true:=by kernel_rfl
theorem Qj:Tryz.f8.isInstance Tryz.pinned.checked.prog Rows.shelfKeepsRow.origin Rows.shelfKeepsRow.targs:=of_decide_eq_true (by kernel_rfl)
theorem Qi:Tryz.f8.isWrapper Tryz.pinned.checked.prog Rows.shelfKeepsRow.wrapper Rows.shelfKeepsRow.mainSum:=by unfold Func.isWrapper;first|(rw[if_pos (by decide+kernel)];kernel_rfl)|(rw[if_neg (by decide+kernel)];exact⟨rfl,rfl⟩)
theorem Of:Tryz.pinned.checked.prog.funcNamed Rows.shelfKeepsRow.func=some 8:=by kernel_rfl
end Go.Proofs.YtieianhejdcgdaaGreatDoor
namespace Go.Proofs.YtieianhejdcgdaaGreatDoor
open Go.RowKit Go.ChangeShapes Go.WideShapes Go.ChangeAt Go.Deep
set_option linter.unusedVariables false
set_option maxRecDepth 100000
theorem Z3x:Tryz.prog.cellsOf 22=1:=by kernel_rfl
theorem Z42:Tryz.prog.bytesOf 22=24:=by kernel_rfl
theorem DZ {H:Type}{enc:TypeId×Value->H}{w:World}{fuel:Nat}{v:Value}{d:DataW H}{p:List MemPlace}
 (h:DataW.trod enc Tryz.prog w 0 (fun _=>true) true fuel 22 [v]=some (d,p)) (hw:∀n∈d.weights Tryz.prog 22,n<=140737488351232):∃l,LIn w v l:=by
 have hsz:(DataW.weightsEach Tryz.prog [22] [d]).all (· <=reachBytes)=true:=by
  rw[WS];intro n hn;have hn2:n∈d.weights Tryz.prog 22:=by simpa[DataW.weightsEach]using hn
  have:reachBytes=140737488351232:=rfl
  exact decide_eq_true (by rw[this];exact hw n hn2)
 obtain⟨a0,l0,c0,rfl⟩:∃a0 l0 c0,v=.slice a0 l0 c0:=by
  rcases open_slice Tryz.underlying22 h with ⟨hcs,_⟩|⟨a,len,cap,m,n,D,Pl,hcs,_⟩
  . simp at hcs;exact⟨_,_,_,hcs⟩
  . simp at hcs;exact⟨_,_,_,hcs⟩
 obtain⟨xs,h1,h2⟩:=EB h hsz (j:=0) rfl rfl;exact⟨_,Z0z h2 h1⟩
theorem DY {H:Type}{enc:TypeId×Value->H}{w:World}{fuel:Nat}{a0:Option Addr}{l0 c0:Nat}{d:DataW H}{p:List MemPlace}
 (h:DataW.trod enc Tryz.prog w 0 (fun _=>true) true fuel 61 [.slice a0 l0 c0]=some (d,p)) (hw:∀n∈d.weights Tryz.prog 61,n<=140737488351232):∃ls,LLs w a0 l0 c0 ls:=by
 rcases open_slice1 Tryz.underlying61 Z3x h with ⟨hcs,_⟩|⟨a,len,cap,m,n,V,D,Pl,hcs,_,hl,hm,hmm,hx1,hx⟩
 . simp at hcs
   obtain⟨rfl,rfl,rfl⟩:=hcs;exact⟨[],rfl,VC _,fun _=>rfl,by decide,.inl rfl⟩
 . simp at hcs
   obtain⟨rfl,rfl,rfl⟩:=hcs;simp only[if_true]at hmm;subst hmm;have hd1:=congrArg Prod.fst hx1;simp only at hd1
   have hcap:m*24<=140737488351232:=by
    apply hw
    rw[hd1];simp only[DataW.weights,Tryz.underlying61,Z42];refine VW.2 (.inl ?_);simp
    omega
   have each:∀i,i<l0->∃z:List Fl,LIn w (V i) z:=by
    intro i hi
    exact DZ (hx i (by omega)).2 (fun n hn=>hw n (by
     rw[hd1];simp only[DataW.weights,Tryz.underlying61];exact WF _ (VZ.2 (.inl (Gu (WY.2 ⟨i,List.mem_range.2 hi,rfl⟩) _ hn)))))
   obtain⟨f,hf⟩:=choose_lt each;refine⟨(List.range l0).map f,by simp,hl,fun e=>(by cases e),by omega, ?_⟩
   by_cases h0:l0=0
   . exact .inl h0
   . obtain⟨b,o,spot⟩:=a;have hc':=(hx 0 (by omega)).1;have hspot:spot=none:=by simpa[Addr.add]using World.cell?_spot hc'
     subst hspot;refine .inr ⟨b,o,(List.range l0).map V,rfl, ?_,fun j x hj=> ?_,fun j x l hj hl2=> ?_,by simp⟩
     . have:=World.block_lt_of_cell? _ _ hc'
       simpa[Addr.add]using this
     . have hj':j<l0:=by
        have:=(WQ.1 hj).1
        simpa using this
       simp[hj']at hj
       subst hj;have:=(hx j (by omega)).1
       rw[Sk]at this;exact this
     . have hj':j<l0:=by
        have:=(WQ.1 hj).1
        simpa using this
       simp[hj']at hj hl2
       subst hj;subst hl2;exact hf j hj'
end Go.Proofs.YtieianhejdcgdaaGreatDoor
