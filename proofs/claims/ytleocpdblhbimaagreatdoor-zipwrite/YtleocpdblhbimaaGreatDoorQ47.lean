import Derived.Test.YtleocpdblhbimaaGreatDoorQ46
import Derived.Deep.RegionHeld3
import Derived.Test.YtleocpdblhbimaaGreatDoorQ41
set_option linter.unusedSimpArgs false
set_option maxHeartbeats 4000000
namespace Go.Proofs.YtleocpdblhbimaaGreatDoor
open Go.RowKit
set_option linter.unusedVariables false
set_option maxRecDepth 100000
def N1 (No:Nat->Prop)(N:Nat):Nat->Prop:=fun g=>No g\/N<=g
theorem UIs.newer {No:Nat->Prop}{B b N:Nat}{w w':World}{row:List Bool}{u:US}(h:UIs (N1 No N) B w b row u)(hB:Below N w w'):UIs (N1 No N) B w' b row u:=by
 obtain⟨ov,kv,h1,h2,h3,h4,h5,h6⟩:=h.ex
 have hlt:∀g,¬N1 No N g->g<N:=fun g hg=>by
  by_cases e:g<N
  . exact e
  . exact absurd (.inr (by omega)) hg
 exact⟨h.base,h.no,ov,kv,(hB.block b (hlt b h.no)).trans h1,Dj h2 (fun g e=>hB.block g (hlt g (h5 g e))),Dj h3 (fun g e=>hB.block g (hlt g (h6 g e))),h4,h5,h6⟩
theorem UUp.newer {No:Nat->Prop}{B b N:Nat}{w0 w w':World}{row:List Bool}{u:US}(h:UUp (N1 No N) B w0 b row u w)(hN:w0.heap.size<=N)(hB:Below N w w'):UUp (N1 No N) B w0 b row u w':=by
 have hb:b<N:=by
  by_cases e:b<N
  . exact e
  . exact absurd (.inr (by omega)) h.is.no
 have:=h.is.base
 exact⟨h.is.newer hB,h.below.trans (hB.mono (by omega)),fun g hg hn=>(hB.block g (by omega)).trans (h.kp g hg hn)⟩
theorem UIs.opened {No:Nat->Prop}{B b:Nat}{w:World}{row:List Bool}{u:US}(h:UIs No B w b row u):UIs (N1 No w.heap.size) B w b row u:=
 h.more (fun e=>by rcases e with e|e;exact h.no e;have:=h.lt;omega) (fun g hg=>hg)
theorem UUp.closed {No:Nat->Prop}{B b N:Nat}{w0 w:World}{row:List Bool}{u:US}(h:UUp (N1 No N) B w0 b row u w):UUp No B w0 b row u w:=
 ⟨h.is.more (fun e=>h.is.no (.inl e)) (fun g hg=>.inl (.inl hg)),h.below,h.kp.weaken (fun g hg=>.inl hg)⟩
theorem UUp.own {No:Nat->Prop}{B b N e size n:Nat}{w w':World}{row:List Bool}{u:US}{v:Value}{xs:List Value}(h:UUp (N1 No N) B w b row u w')(ho:w.ownsRow N e size v n xs):w'.ownsRow N e size v n xs:=
 Dj ho (fun g hg=>h.kp g (ho.lt g hg).2 (.inr (ho.lt g hg).1))
theorem UUp.book {No:Nat->Prop}{B b N mb nn:Nat}{w w':World}{row:List Bool}{u:US}{D:DataW Unit}(h:UUp (N1 No N) B w b row u w')(hM:Dv w mb nn D)(hm:N<=mb):Dv w' mb nn D:=by
 have hlt:=hM.lt;obtain⟨es,clock,hb,F,hs,hD⟩:=hM;exact⟨es,clock,(h.kp mb hlt (.inr hm)).trans hb,F,hs,hD⟩
theorem Fh {w w':World}{B mb nn:Nat}{D:DataW Unit}(hM:Dv w mb nn D)(hB:Below B w w')(hm:mb<B):Dv w' mb nn D:=by
 obtain⟨es,clock,hb,F,hs,hD⟩:=hM;exact⟨es,clock,(hB.block mb hm).trans hb,F,hs,hD⟩
theorem QC {j:Nat}(h:j<19):ord19.getD j 0<19:=by
 have:∀j,j<19->ord19.getD j 0<19:=by decide
 exact this j h
def Z5d:Value->Nat
 | .slice _ n _=>n
 |_=>0
theorem Wd {w:World}{B e size n:Nat}{v:Value}{xs:List Value}(h:w.ownsRow B e size v n xs):Z5d v=n:=by
 rcases h.2 with ⟨h1,h2⟩|⟨g,cap,cur,h1,_⟩
 . rw[h1,h2];rfl
 . rw[h1];rfl
theorem IZ {w:World}{B e size n:Nat}{v:Value}{xs:List Value}(h:w.ownsRow B e size v n xs):∃a c,v=.slice a n c:=by
 rcases h.2 with ⟨h1,h2⟩|⟨g,cap,cur,h1,_⟩
 . exact⟨none,0,by rw[h1,h2]⟩
 . exact⟨_,_,h1⟩
theorem Jo {w:World}{B e size n mb nn:Nat}{v:Value}{xs:List Value}{D:DataW Unit}(h:w.ownsRow B e size v n xs)(hM:Dv w mb nn D):some mb≠v.ownBlock:=by
 intro e;obtain⟨es,clock,hb,_⟩:=hM
 rcases h.2 with ⟨h1,_⟩|⟨g,cap,cur,h1,_,h2,_⟩
 . rw[h1]at e;cases e
 . rw[h1]at e;have:mb=g:=VQ e
   subst this;rw[hb]at h2
   cases h2
theorem Z9 (n:Nat)(x:Int):iv (List.replicate n x)=List.replicate n (.int .i64 x):=by simp[iv]
def TJ:Array Value:= #[.int .i64 16,.int .i64 17,.int .i64 18,.int .i64 0,.int .i64 8,.int .i64 7,.int .i64 9,.int .i64 6,.int .i64 10,.int .i64 5,.int .i64 11,.int .i64 4,.int .i64 12,.int .i64 3,.int .i64 13,.int .i64 2,.int .i64 14,.int .i64 1,.int .i64 15]
theorem Z1a:TJ=(ord19.map fun n=>Value.int .i64 ((n:Nat):Int)).toArray:=rfl
theorem Z1b {j:Nat}(h:j<19):TJ[j]? =some (.int .i64 ((ord19.getD j 0:Nat):Int)):=by
 have hl:j<ord19.length:=h;rw[Z1a];simp[List.getD,hl]
theorem QB {j M:Nat}(h:j<M)(hM:M<=19):(ord19.take M).drop j=ord19.getD j 0::(ord19.take M).drop (j+1):=by
 have hl:ord19.length=19:=rfl;rw[WU (by rw[VM];omega)]
 congr 1
 rw[ZB,List.getD,VR (by omega)];rfl
theorem Z0h (No:Nat->Prop)(B b n2:Nat)(bs:List Nat)(u:US)(w:World)(h:UIs No B w b (rowB bs n2) u)(hl:bs.length=n2)(hn2:n2<=25000)(hp:u.p<=8*n2)(A C:List Int)(v:US)(m0 n0 c0:Nat)(u1 u2 u3 us:US)(S L:List Int)(hT:Told (rowB bs n2) u m0 n0 c0 u1 u2 u3 us S L A C v):
 Calls Tryz.prog 95 #[.pointer (some ⟨b,0,none⟩)] w fun e w'=>∃a1 c1 a2 c2,e=.returned (.tuple #[.slice a1 A.length c1,.slice a2 C.length c2])/\RowIn .i64 w' a1 A/\RowIn .i64 w' a2 C/\UUp No B w b (rowB bs n2) v w':=by
 have hN:=Ai bs n2;have hrl:(rowB bs n2).length<=200000:=by omega
 have hp0:u.p<=(rowB bs n2).length:=by omega
 have hp1:=Pt _ 5 u hp0;rw[hT.g1]at hp1;have hp2:=Pt _ 5 u1 hp1;rw[hT.g2]at hp2;have hp3:=Pt _ 4 u2 hp2;rw[hT.g3]at hp3;have hc0:=Vm (rowB bs n2) 4 u2;rw[hT.g3]at hc0;simp only at hp1 hp2 hp3 hc0
 have hm:=hT.hm;have hn:=hT.hn;have HT:=Ab hT;have H:=Ab h;obtain⟨i0,hi,hz0,hz1,hz2⟩:=info_parts Cc;clear h hT;go_enter Tryz.func95,Tryz.ntmps95
 go_wp2_with fail
 refine(Gw No B b 5 _ u w (Aa H) (by omega) hrl hp0 m0 u1 (Aa HT).g1).mono ?_;rintro e w1 ⟨rfl,hU1⟩;have U1:=Ab hU1;clear hU1;go_wp2_with fail
 refine(Gw No B b 5 _ u1 w1 (Aa U1).is (by omega) hrl hp1 n0 u2 (Aa HT).g2).mono ?_;rintro e w2 ⟨rfl,hU2⟩;have U2:=Ab ((Aa U1).trans hU2);clear hU2;go_wp2_with fail
 refine(Gw No B b 4 _ u2 w2 (Aa U2).is (by omega) hrl hp2 c0 u3 (Aa HT).g3).mono ?_;rintro e w3 ⟨rfl,hU3⟩;have U3:=Ab ((Aa U2).trans hU3);clear hU3 U1 U2 H;have hq1:¬(286:Int)<(m0:Int)+257:=by omega
 have hq2:¬(30:Int)<(n0:Int)+1:=by omega
 obtain⟨N,hNs⟩:∃N,w3.heap.size=N:=⟨_,rfl⟩
 have HNs:=Ab hNs;have V3:Hid (UUp (N1 No N) B w3 b (rowB bs n2) u3 w3):=Ab (by rw[<-hNs];exact UUp.refl (Aa U3).is.opened);go_wp2_with (at_make;refine wpList_make_full _ rfl _ _ 76 rfl N 3 i0 (.int .i64 0) 1 Tryz.underlying76 hi hz0 hz1 _ _ _ _ 19 rfl rfl rfl rfl (by rw[hz2];omega) (by unfold maxLen;omega) (by omega) ?_)
 intro w4 hown1 hgrow1;have e0:(madeCells #[Value.int .i64 0] 19).toList=iv (List.replicate 19 0):=by rw[Z2];rfl
 rw[e0]at hown1;have B4:Hid (Below N w3 w4):=Ab (by rw[<-hNs];exact(Below.refl w3.heap.size w3).grown hgrow1 (VC _) (fun j h=>by cases h));have HO4:=Ab hown1;have hg7:=(hown1.lt N rfl).2;clear hown1 hgrow1 e0;have hcI:(c0:Int)+4<=19:=by omega
 have HG33:Hid ((w4.alloc (.cells TJ 3)).heap[w4.heap.size]? =some (.cells TJ 3 (0,0))):=Ab (heap_alloc_new _ _);have V5:Hid (UUp (N1 No N) B w3 b (rowB bs n2) u3 (w4.alloc (.cells TJ 3))):=Ab ((Aa V3).newer (by omega) ((Aa B4).alloc (by have:=(Aa B4).size;omega) _));have HO5:=Ab ((Aa HO4).alloc (.cells TJ 3));have hg33:N<w4.heap.size:=hg7;go_wp2;go_loopw [37] (fun v37 wr=>∃(j:Nat) (s:List Int) (uj:US),j<=c0+4/\v37=.int .i64 (j:Int)/\Hid (usmall (rowB bs n2) ((ord19.take (c0+4)).drop j) s uj=(S,us))/\Hid (s.length=19)/\Hid (UUp (N1 No N) B w3 b (rowB bs n2) uj wr)/\Hid (wr.ownsRow N 3 1 (.slice (some ⟨N,0,none⟩) 19 19) 19 (iv s))/\Hid (wr.heap[w4.heap.size]? =some (.cells TJ 3 (0,0)))/\Hid (uj.p<=(rowB bs n2).length)) (fun v37 _=>19-(intOf v37).toNat)
 case atStart=>exact⟨0,List.replicate 19 0,u3,VK _,rfl,Ab (by rw[List.drop_zero];exact(Aa HT).sm),Ab (by simp),V5,HO5,HG33,Ab hp3⟩
 case round=>
  obtain⟨j,s,uj,hj,rfl,hS,hsl,hV,hO,hG,hpj⟩:=hrel
  by_cases hlt:j<c0+4
  . obtain⟨r,x,hgx⟩:∃r x,uget (rowB bs n2) 3 uj=(r,x):=⟨_,_,rfl⟩
    have ho:=QC (j:=j) (by omega);have c1:wr.cell? ⟨w4.heap.size,j,none⟩=some (.int .i64 ((ord19.getD j 0:Nat):Int)):=(Ac (Aa hG)).trans (Z1b (by omega))
    have HS2:Hid (usmall (rowB bs n2) ((ord19.take (c0+4)).drop (j+1)) (s.set (ord19.getD j 0) (r:Int)) x=(S,us)):=Ab (by
     have:=Aa hS
     rw[QB hlt (by omega),usmall,hgx]at this;exact this)
    have HPX:Hid (x.p<=(rowB bs n2).length):=Ab (by have:=Pt (rowB bs n2) 3 uj (Aa hpj);rw[hgx]at this;exact this);have hoI:(ord19.getD j 0:Int)<19:=by omega
    generalize ord19.getD j 0=q at*;clear hS;go_wp2_with fail
    refine(Gw (N1 No N) B b 3 _ uj wr (Aa hV).is (by omega) hrl (Aa hpj) r x hgx).mono ?_;rintro e w6 ⟨rfl,hU6⟩;have O6:=Ab (hU6.own (Aa hO));have G6:Hid (w6.heap[w4.heap.size]? =some (.cells TJ 3 (0,0))):=Ab ((hU6.kp _ (VL.1 (Aa hG)).1 (.inr (Nat.le_of_lt hg33))).trans (Aa hG));have V6:=Ab ((Aa hV).trans hU6);clear hU6;have hql:q<s.length:=by rw[Aa hsl];exact ho
    have c2:=(Aa O6).cellAt q (by omega);rw[show (iv s)[q]? =some (.int .i64 (s.getD q 0)) by simp[iv,List.getD,hql]]at c2;have f2:=(Aa O6).frozenAt q;generalize s.getD q 0=old at*;go_wp2;go_roundw
    case rel=>
     have hst:=(Aa O6).stored q (.int .i64 (r:Int));have hb7:Below N w6 (w6.setCell ⟨N,q,none⟩ (.int .i64 (r:Int))):=(Below.refl N w6).setCell (VC _) _;refine⟨j+1,s.set q (r:Int),x,by omega,by go_num,HS2,Ab (by rw[YD];exact Aa hsl),Ab ((Aa V6).newer (by omega) hb7),Ab ?_,Ab ?_,HPX⟩
     . have e:iv (s.set q (r:Int))=(iv s).set q (.int .i64 (r:Int)):=by rw[iv,List.map_set]
       rw[e];exact hst.1
     . rw[heap_setCell_other w6 _ _ _ (by show w4.heap.size≠N;omega)];exact Aa G6
    case measure=>simp[intOf];omega
  . 
    obtain rfl:j=c0+4:=by omega
    have hSS:=Aa hS;rw[XW (by rw[VM];omega),usmall]at hSS;obtain⟨rfl,rfl⟩:=XA hSS;have hGS:=Cn (Aa HT).cs;have HGS:=Ab hGS;obtain⟨c40,c41,c44,cfr⟩:=(Aa hV).is.cell;rw[(Aa HT).es]at c44;have hRS:Hid (RowIn .i64 wr (some ⟨N,0,none⟩) s):=Ab (RowIn.iv (Aa hO));have hcs:=(Aa HT).cs;have hsl19:=Aa hsl;clear hS hSS c40 c41 HO4 HO5 HG33 V5 B4 V3;go_wp2_with fail
    refine(Fb (some ⟨N,0,none⟩) 19 19 s wr hsl19 (by omega) (Aa hRS)).mono ?_;rintro e w6 ⟨rfl,rfl⟩;rw[hcs];go_wp2_with fail
    refine(Et (some ⟨N,0,none⟩) 19 19 s w6 hsl19 (Aa hRS) hGS).mono ?_;rintro e w7 ⟨mb,nn,rfl,hmb,hMB,hB7⟩;have hrs:=(Aa hV).below.size;have V7:=Ab ((Aa hV).newer (by omega) (hB7.mono (by omega)));rw[show 19=s.length from hsl19.symm]at hMB;have M7:=Ab hMB;have hmbN:N<=mb:=by omega
    have hmbb:mb≠b:=by have:=(Aa hV).is.lt;omega
    obtain⟨tot,htot⟩:∃tot,m0+257+(n0+1)=tot:=⟨_,rfl⟩
    have HTOT:=Ab htot;have htb:tot<=316/\257<=tot:=by omega
    have hms:=(hMB.lt)
    clear hMB hB7 hG hO;go_wp2;go_loopw [11] (fun v11 wr=>∃(l:List Int) (F:Nat) (uj:US),Hid (ulens (rowB bs n2) s tot F l uj=(L,v))/\Hid (tot<=l.length+F)/\Hid (l.length<=tot)/\Hid (uj.e=0)/\Hid (UUp (N1 No N) B w3 b (rowB bs n2) uj wr)/\Hid (wr.ownsRow N 3 1 v11 l.length (iv l))/\Hid (Dv wr mb nn (Ew s s.length))/\Hid (uj.p<=(rowB bs n2).length)) (fun v11 _=>400-Z5d v11)
    case atStart=>exact⟨[],tot,uj,Ab (by rw[<-htot];exact(Aa HT).ln),Ab (by simp),Ab (by simp),Ab (Aa HT).es,V7,Ab (World.ownsRow_nil _ _ _ _),M7,hpj⟩
    case round=>
     obtain⟨l,F,uj,hL,hF,hle,he,hV,hO,hM,hpj⟩:=hrel;obtain⟨aL,cL,rfl⟩:=IZ (Aa hO);obtain⟨_,_,c4u,_⟩:=(Aa hV).is.cell;rw[Aa he]at c4u
     by_cases hlt:l.length<tot
     . cases F with
       |zero=>exact absurd (Aa hF) (by omega)
       |succ F=>
        have hF2:=Aa hF;have hle2:=Aa hle;obtain⟨hRd,hrw⟩:=Kc (row:=rowB bs n2) (small:=s) (F:=F) hlt (Aa he) (by rw[Aa hL];exact(Aa HT).ev);rw[Aa hL,hRd.st]at hrw;obtain⟨k,x,ek⟩:∃k x,uplace s (rowB bs n2) uj=(k,x):=⟨_,_,rfl⟩
        have hle3:=hRd.le;have hke:=hRd.ke;rw[ek]at hrw hle3 hke;simp only at hrw hle3 hke
        have hxe:x.e=0:=FX hke;have hpx:=OK s (rowB bs n2) uj (Aa hpj);rw[ek]at hpx;simp only at hpx
        have hltI:(l.length:Int)<(m0:Int)+257+((n0:Int)+1):=by have:=Aa HTOT;omega
        have HPL:=Ab (Fp (N1 No N) B b mb nn n2 s bs uj wr (Aa hV).is (Aa HGS) hl hn2 (by have:=Aa hpj;omega) (Aa hM) hmbb);rw[ek]at HPL;have HTO2:=Aa HTOT;clear hRd ek;go_wp2_with fail
        refine(Aa HPL).mono ?_;rintro e w8 ⟨rfl,hU8⟩;have V8:=Ab ((Aa hV).trans hU8);have O8:=Ab (hU8.own (Aa hO));have M8:=Ab (hU8.book (Aa hM) hmbN);clear hU8
        by_cases h16:k=16
        . subst h16
          have hl0:l.length≠0:=by
           intro e0;unfold ukind at hke;rw[if_pos rfl,if_pos e0]at hke;exact absurd hke (Cs (by decide))
          obtain⟨vv,hvv⟩:∃vv,l.getD (l.length-1) 0=vv:=⟨_,rfl⟩
          obtain⟨r,y,e2⟩:∃r y,uget (rowB bs n2) 2 x=(r,y):=⟨_,_,rfl⟩
          have hkd:ukind (rowB bs n2) l 16 x=(vv,3+r,y):=by unfold ukind;rw[if_pos rfl,if_neg hl0,e2,hvv]
          rw[hkd]at hrw hle3 hke;simp only at hrw hle3 hke
          have ey:y.e=0:=hke;have HR:=Ab hrw.symm;have hr:=Vm (rowB bs n2) 2 x;rw[e2]at hr;replace hr:r<4:=hr;have py:=Pt (rowB bs n2) 2 x hpx;rw[e2]at py;replace py:y.p<=(rowB bs n2).length:=py;clear hkd hke hrw;obtain⟨gL,cL',eL,hgL,hgL2⟩:=Be (Aa O8) (by omega)
          cases eL
          obtain⟨q,hq⟩:∃q,l.length=q+1:=⟨l.length-1,by omega⟩
          obtain⟨M,hM0⟩:∃M,l.length=M:=⟨_,rfl⟩
          have hq2:q<316:=by omega
          have cl8:w8.cell? ⟨gL,q,none⟩=some (.int .i64 vv):=by
           rw[(Aa O8).cellAt q (by omega),<-hvv,hq,XT];have:q<l.length:=by omega
           simp[iv,List.getD,this]
          have hl0I:((M:Int)==0)=false:=by rw[beq_eq_false_iff_ne];omega
          have e1:((M:Int)-1).toNat=q:=by omega
          have hM1:1<=M:=by omega
          have hM2:M<=316:=by omega
          have hc1:(1:Int)<=(M:Int):=by omega
          have hc2:¬(M:Int)<=(M:Int)-1:=by omega
          have hc3:(M:Int)-1<(M:Int):=by omega
          have hw1:IntKind.i64.wrap ((M:Int)-1)=(M:Int)-1:=by simp[IntKind.wrap,IntKind.signed,IntKind.bits];omega
          have HGT:=Ab (fun i=>Gw (N1 No N) B b 2 _ x (w8.drewN i) ((UUp.refl (Aa V8).is).drewN i).is (by omega) hrl hpx r y e2);have HGD:=Ab (fun i=>(UUp.refl (Aa V8).is).drewN i);have HQ:=Ab hq;have HM0:=Ab hM0;clear hvv;rw[hM0]at O8 hle3 hlt hle2 hF2 hO hltI ⊢;clear hq hM0;have hgt:¬((m0:Int)+257+((n0:Int)+1)<(M:Int)+(3+(r:Int))):=by omega
          go_wp2;go_region_held3 (fun w'=>w'.cell? ⟨gL,q,none⟩=some (.int .i64 vv)) (first|assumption|simp[*]) (first|(go_at_call 91;refine(Aa HGT _).mono ?_;rintro e w9 ⟨rfl,hU9⟩;have V9:=Ab ((Aa V8).trans ((Aa HGD _).trans hU9));have O9:=Ab (((Aa HGD _).trans hU9).own (Aa O8));have M9:=Ab (((Aa HGD _).trans hU9).book (Aa M8) hmbN);have cl9:=(World.cell?_of_block (a:=⟨gL,q,none⟩) (((Aa HGD _).trans hU9).kp gL hgL2 (.inr hgL))).trans cl8;clear hU9))
          have hys:=(Aa V9).below.size;have hNy:N<=w9.heap.size:=by omega
          obtain⟨_,_,c4y,_⟩:=(Aa V9).is.cell;rw[ey]at c4y;have hgt:¬((m0:Int)+257+((n0:Int)+1)<(M:Int)+(3+(r:Int))):=by omega
          go_wp2_with fail
          refine(Cy vv (3+r) w9 (by omega) (by omega)).mono ?_;rintro e wz ⟨rfl,hRz,hBz,hgz⟩;have Vz:=Ab ((Aa V9).newer (by omega) (hBz.mono hNy));have Oz:=Ab (Dj (Aa O9) (fun g hg=>hBz.block g ((Aa O9).lt g hg).2));have Mz:=Ab (Fh (Aa M9) hBz (Aa M9).lt);have hzs:=hBz.size;have RZ:Hid (∀j u,(iv (List.replicate (3+r) vv))[j]? =some u->wz.cell? ((⟨w9.heap.size+1,0,none⟩:Addr).add j)=some u):=Ab (Il hRz);clear hRz hBz;go_wp2_with (at_builtin;refine wpList_append_own_at _ rfl (.tmp 134) (.tmp 138) 76 rfl N 3 i0 (.int .i64 0) 1 8 Tryz.underlying76 hi hz0 hz1 hz2 rfl (by decide) _ M (iv l) rfl (Aa Oz) ⟨w9.heap.size+1,0,none⟩ (3+r) (3+r) (iv (List.replicate (3+r) vv)) rfl (by simp) (Aa RZ) (Rb _) (by unfold maxLen;omega) (by omega) (by omega) ?_)
          intro v' wa hOa hgrow _ _;have ea:iv (l++List.replicate (3+r) vv)=iv l++iv (List.replicate (3+r) vv):=by rw[iv,iv,iv,WS]
          have hBa:Below N wz wa:=(Below.refl N wz).grown hgrow (by omega) (fun g e=>((Aa Oz).lt g e).1);have Va:=Ab ((Aa Vz).newer (by omega) hBa);have Ma:Hid (Dv wa mb nn (Ew s s.length)):=Ab ((Aa Mz).kept hgrow (Jo (Aa Oz) (Aa Mz)));have Oa:Hid (wa.ownsRow N 3 1 v' (l++List.replicate (3+r) vv).length (iv (l++List.replicate (3+r) vv))):=Ab (by rw[VB,VV,ea,Aa HM0];first|exact hOa|(rw[Z9];exact hOa));clear hOa hgrow hBa;have hM9:=Aa HM0;go_wp2;go_roundw
          case rel=>exact⟨l++List.replicate (3+r) vv,F,y,HR,Ab (by rw[VB,VV];omega),Ab (by rw[VB,VV];omega),Ab ey,Va,Oa,Ma,Ab py⟩
          case measure=>
           rw[Wd (Aa Oa),VB,VV];show 400-(l.length+(3+r))<400-l.length
           omega
        by_cases h17:k=17
        . subst h17;obtain⟨r,y,e2⟩:∃r y,uget (rowB bs n2) 3 x=(r,y):=⟨_,_,rfl⟩
          have hkd:ukind (rowB bs n2) l 17 x=(0,3+r,y):=by unfold ukind;rw[if_neg (by decide),if_pos rfl,e2]
          rw[hkd]at hrw hle3 hke;simp only at hrw hle3 hke
          have ey:y.e=0:=hke;have HR:=Ab hrw.symm;have hr:=Vm (rowB bs n2) 3 x;rw[e2]at hr;replace hr:r<8:=hr;have py:=Pt (rowB bs n2) 3 x hpx;rw[e2]at py;replace py:y.p<=(rowB bs n2).length:=py;clear hkd hke hrw;go_wp2_with fail
          refine(Gw (N1 No N) B b 3 _ x w8 (Aa V8).is (by omega) hrl hpx r y e2).mono ?_;rintro e w9 ⟨rfl,hU9⟩;have V9:=Ab ((Aa V8).trans hU9);have O9:=Ab (hU9.own (Aa O8));have M9:=Ab (hU9.book (Aa M8) hmbN);clear hU9;have hys:=(Aa V9).below.size;have hNy:N<=w9.heap.size:=by omega
          obtain⟨_,_,c4y,_⟩:=(Aa V9).is.cell;rw[ey]at c4y;have hgt:¬((m0:Int)+257+((n0:Int)+1)<(l.length:Int)+(3+(r:Int))):=by omega
          go_wp2_with fail
          refine(Cy 0 (3+r) w9 (by omega) (by omega)).mono ?_;rintro e wz ⟨rfl,hRz,hBz,hgz⟩;have Vz:=Ab ((Aa V9).newer (by omega) (hBz.mono hNy));have Oz:=Ab (Dj (Aa O9) (fun g hg=>hBz.block g ((Aa O9).lt g hg).2));have Mz:=Ab (Fh (Aa M9) hBz (Aa M9).lt);have hzs:=hBz.size;have RZ:Hid (∀j u,(iv (List.replicate (3+r) 0))[j]? =some u->wz.cell? ((⟨w9.heap.size+1,0,none⟩:Addr).add j)=some u):=Ab (Il hRz);clear hRz hBz;go_wp2_with (at_builtin;refine wpList_append_own_at _ rfl (.tmp 134) (.tmp 138) 76 rfl N 3 i0 (.int .i64 0) 1 8 Tryz.underlying76 hi hz0 hz1 hz2 rfl (by decide) _ l.length (iv l) rfl (Aa Oz) ⟨w9.heap.size+1,0,none⟩ (3+r) (3+r) (iv (List.replicate (3+r) 0)) rfl (by simp) (Aa RZ) (Rb _) (by unfold maxLen;omega) (by omega) (by omega) ?_)
          intro v' wa hOa hgrow _ _;have ea:iv (l++List.replicate (3+r) 0)=iv l++iv (List.replicate (3+r) 0):=by rw[iv,iv,iv,WS]
          have hBa:Below N wz wa:=(Below.refl N wz).grown hgrow (by omega) (fun g e=>((Aa Oz).lt g e).1);have Va:=Ab ((Aa Vz).newer (by omega) hBa);have Ma:Hid (Dv wa mb nn (Ew s s.length)):=Ab ((Aa Mz).kept hgrow (Jo (Aa Oz) (Aa Mz)));have Oa:Hid (wa.ownsRow N 3 1 v' (l++List.replicate (3+r) 0).length (iv (l++List.replicate (3+r) 0))):=Ab (by rw[VB,VV,ea];first|exact hOa|(rw[Z9];exact hOa));clear hOa hgrow hBa;go_wp2;go_roundw
          case rel=>exact⟨l++List.replicate (3+r) 0,F,y,HR,Ab (by rw[VB,VV];omega),Ab (by rw[VB,VV];omega),Ab ey,Va,Oa,Ma,Ab py⟩
          case measure=>
           rw[Wd (Aa Oa),VB,VV];show 400-(l.length+(3+r))<400-l.length
           omega
        by_cases h18:k=18
        . subst h18;obtain⟨r,y,e2⟩:∃r y,uget (rowB bs n2) 7 x=(r,y):=⟨_,_,rfl⟩
          have hkd:ukind (rowB bs n2) l 18 x=(0,11+r,y):=by unfold ukind;rw[if_neg (by decide),if_neg (by decide),if_pos rfl,e2]
          rw[hkd]at hrw hle3 hke;simp only at hrw hle3 hke
          have ey:y.e=0:=hke;have HR:=Ab hrw.symm;have hr:=Vm (rowB bs n2) 7 x;rw[e2]at hr;replace hr:r<128:=hr;have py:=Pt (rowB bs n2) 7 x hpx;rw[e2]at py;replace py:y.p<=(rowB bs n2).length:=py;clear hkd hke hrw;go_wp2_with fail
          refine(Gw (N1 No N) B b 7 _ x w8 (Aa V8).is (by omega) hrl hpx r y e2).mono ?_;rintro e w9 ⟨rfl,hU9⟩;have V9:=Ab ((Aa V8).trans hU9);have O9:=Ab (hU9.own (Aa O8));have M9:=Ab (hU9.book (Aa M8) hmbN);clear hU9;have hys:=(Aa V9).below.size;have hNy:N<=w9.heap.size:=by omega
          obtain⟨_,_,c4y,_⟩:=(Aa V9).is.cell;rw[ey]at c4y;have hgt:¬((m0:Int)+257+((n0:Int)+1)<(l.length:Int)+(11+(r:Int))):=by omega
          go_wp2_with fail
          refine(Cy 0 (11+r) w9 (by omega) (by omega)).mono ?_;rintro e wz ⟨rfl,hRz,hBz,hgz⟩;have Vz:=Ab ((Aa V9).newer (by omega) (hBz.mono hNy));have Oz:=Ab (Dj (Aa O9) (fun g hg=>hBz.block g ((Aa O9).lt g hg).2));have Mz:=Ab (Fh (Aa M9) hBz (Aa M9).lt);have hzs:=hBz.size;have RZ:Hid (∀j u,(iv (List.replicate (11+r) 0))[j]? =some u->wz.cell? ((⟨w9.heap.size+1,0,none⟩:Addr).add j)=some u):=Ab (Il hRz);clear hRz hBz;go_wp2_with (at_builtin;refine wpList_append_own_at _ rfl (.tmp 134) (.tmp 138) 76 rfl N 3 i0 (.int .i64 0) 1 8 Tryz.underlying76 hi hz0 hz1 hz2 rfl (by decide) _ l.length (iv l) rfl (Aa Oz) ⟨w9.heap.size+1,0,none⟩ (11+r) (11+r) (iv (List.replicate (11+r) 0)) rfl (by simp) (Aa RZ) (Rb _) (by unfold maxLen;omega) (by omega) (by omega) ?_)
          intro v' wa hOa hgrow _ _;have ea:iv (l++List.replicate (11+r) 0)=iv l++iv (List.replicate (11+r) 0):=by rw[iv,iv,iv,WS]
          have hBa:Below N wz wa:=(Below.refl N wz).grown hgrow (by omega) (fun g e=>((Aa Oz).lt g e).1);have Va:=Ab ((Aa Vz).newer (by omega) hBa);have Ma:Hid (Dv wa mb nn (Ew s s.length)):=Ab ((Aa Mz).kept hgrow (Jo (Aa Oz) (Aa Mz)));have Oa:Hid (wa.ownsRow N 3 1 v' (l++List.replicate (11+r) 0).length (iv (l++List.replicate (11+r) 0))):=Ab (by rw[VB,VV,ea];first|exact hOa|(rw[Z9];exact hOa));clear hOa hgrow hBa;go_wp2;go_roundw
          case rel=>exact⟨l++List.replicate (11+r) 0,F,y,HR,Ab (by rw[VB,VV];omega),Ab (by rw[VB,VV];omega),Ab ey,Va,Oa,Ma,Ab py⟩
          case measure=>
           rw[Wd (Aa Oa),VB,VV];show 400-(l.length+(11+r))<400-l.length
           omega
        . have hkd:ukind (rowB bs n2) l k x=((k:Int),1,x):=by unfold ukind;rw[if_neg h16,if_neg h17,if_neg h18]
          rw[hkd]at hrw hle3 hke;simp only at hrw hle3 hke
          have ey:x.e=0:=hke;have HR:=Ab hrw.symm;have py:=hpx;have k16:((k:Int)==16)=false:=by rw[beq_eq_false_iff_ne];omega
          have k17:((k:Int)==17)=false:=by rw[beq_eq_false_iff_ne];omega
          have k18:((k:Int)==18)=false:=by rw[beq_eq_false_iff_ne];omega
          clear hkd hke hrw;have hys:=(Aa V8).below.size;have hNy:N<=w8.heap.size:=by omega
          obtain⟨_,_,c4y,_⟩:=(Aa V8).is.cell;rw[ey]at c4y;have hgt:¬((m0:Int)+257+((n0:Int)+1)<(l.length:Int)+(1)):=by omega
          go_wp2_with fail
          refine(Cy (k:Int) (1) w8 (by omega) (by omega)).mono ?_;rintro e wz ⟨rfl,hRz,hBz,hgz⟩;have Vz:=Ab ((Aa V8).newer (by omega) (hBz.mono hNy));have Oz:=Ab (Dj (Aa O8) (fun g hg=>hBz.block g ((Aa O8).lt g hg).2));have Mz:=Ab (Fh (Aa M8) hBz (Aa M8).lt);have hzs:=hBz.size;have RZ:Hid (∀j u,(iv (List.replicate (1) (k:Int)))[j]? =some u->wz.cell? ((⟨w8.heap.size+1,0,none⟩:Addr).add j)=some u):=Ab (Il hRz);clear hRz hBz;go_wp2_with (at_builtin;refine wpList_append_own_at _ rfl (.tmp 134) (.tmp 138) 76 rfl N 3 i0 (.int .i64 0) 1 8 Tryz.underlying76 hi hz0 hz1 hz2 rfl (by decide) _ l.length (iv l) rfl (Aa Oz) ⟨w8.heap.size+1,0,none⟩ (1) (1) (iv (List.replicate (1) (k:Int))) rfl (by simp) (Aa RZ) (Rb _) (by unfold maxLen;omega) (by omega) (by omega) ?_)
          intro v' wa hOa hgrow _ _;have ea:iv (l++List.replicate (1) (k:Int))=iv l++iv (List.replicate (1) (k:Int)):=by rw[iv,iv,iv,WS]
          have hBa:Below N wz wa:=(Below.refl N wz).grown hgrow (by omega) (fun g e=>((Aa Oz).lt g e).1);have Va:=Ab ((Aa Vz).newer (by omega) hBa);have Ma:Hid (Dv wa mb nn (Ew s s.length)):=Ab ((Aa Mz).kept hgrow (Jo (Aa Oz) (Aa Mz)));have Oa:Hid (wa.ownsRow N 3 1 v' (l++List.replicate (1) (k:Int)).length (iv (l++List.replicate (1) (k:Int)))):=Ab (by rw[VB,VV,ea];first|exact hOa|(rw[Z9];exact hOa));clear hOa hgrow hBa;go_wp2;go_roundw
          case rel=>exact⟨l++List.replicate (1) (k:Int),F,x,HR,Ab (by rw[VB,VV];omega),Ab (by rw[VB,VV];omega),Ab ey,Va,Oa,Ma,Ab py⟩
          case measure=>
           rw[Wd (Aa Oa),VB,VV];show 400-(l.length+(1))<400-l.length
           omega
     . have hLe:l.length=tot:=by have:=Aa hle;omega
       have hLL:L=l/\v=uj:=by
        have h1:=Aa hL
        cases F with
        |zero=>rw[ulens]at h1;exact⟨(XA h1).1.symm,(XA h1).2.symm⟩
        |succ F=>rw[ulens,if_neg (fun h2=>hlt h2.1)]at h1;exact⟨(XA h1).1.symm,(XA h1).2.symm⟩
       obtain⟨rfl,rfl⟩:=hLL;obtain⟨gL,cL',eL,hgL,hgL2⟩:=Be (Aa hO) (by omega)
       cases eL
       have h256:=(Aa HT).l256
       have c256:wr.cell? ⟨gL,256,none⟩=some (.int .i64 (L.getD 256 0)):=by
        rw[(Aa hO).cellAt 256 (by omega)];have:256<L.length:=by omega
        simp[iv,List.getD,this]
       have hne0:(L.getD 256 0==0)=false:=by rw[beq_eq_false_iff_ne];exact h256
       generalize L.getD 256 0=x256 at*
       have hcap:L.length<=cL:=by
        rcases(Aa hO).2 with ⟨h0,_⟩|⟨_,_,_,h1,_,_,h3,_⟩
        . cases h0
        . cases h1;exact h3
       have hRow:Row .i64 wr gL 0 L:=by
        rcases RowIn.iv (Aa hO)with h0|⟨b',o',e1,_,h3⟩
        . rw[h0]at hLe;simp at hLe;omega
        . cases e1;exact h3
       obtain⟨M,hM0⟩:∃M,m0+257=M:=⟨_,rfl⟩
       have hMI:(m0:Int)+257=(M:Int):=by omega
       have hRA:Hid (RowIn .i64 wr (some ⟨gL,0,none⟩) (L.take M)):=Ab (.inr ⟨gL,0,rfl,hgL2,fun j hj=>by
        rw[VM]at hj;have:=hRow j (by omega)
        rw[this,List.getD,List.getD,List.getElem?_take,if_pos (by omega)]⟩)
       have hRC:Hid (RowIn .i64 wr (some ⟨gL,M,none⟩) (L.drop M)):=Ab (.inr ⟨gL,M,rfl,hgL2,fun j hj=>by
        rw[VN]at hj;have:=hRow (M+j) (by omega)
        rw[WI]at this;rw[this,List.getD,List.getD,YF]⟩)
       have hlA:(L.take M).length=M:=by rw[VM];omega
       have hlC:(L.drop M).length=n0+1:=by rw[VN];omega
       have ca:=(Aa HT).ca;have cc:=(Aa HT).cc;have ea:=(Aa HT).ea;have ec:=(Aa HT).ec;rw[hM0]at ca cc ea ec;have hltI:¬(L.length:Int)<(M:Int)+((n0:Int)+1):=by omega
       have hLI:(L.length:Int)=(M:Int)+((n0:Int)+1):=by omega
       have hsub:L.length-M=n0+1:=by omega
       have h257:(256:Int)<(L.length:Int):=by omega
       have hML:(M:Int)<=(L.length:Int):=by omega
       have hMc:(M:Int)<=(cL:Int):=by omega
       have hMn:M<=L.length:=by omega
       have HEA:=Ab ea;have HEC:=Ab ec;clear hRow ea ec hL hF hle;generalize L.length=LL at*;go_wp2_with fail
       refine(Fb (some ⟨gL,0,none⟩) M cL (L.take M) wr hlA (by omega) (Aa hRA)).mono ?_;rintro e w9 ⟨rfl,rfl⟩;rw[ca];go_wp2_with fail
       refine(Fb (some ⟨gL,M,none⟩) _ (cL-M) (L.drop M) w9 (by rw[hlC];omega) (by omega) (Aa hRC)).mono ?_;rintro e w10 ⟨rfl,rfl⟩;rw[cc];go_wp2;go_region
       all_goals go_wp2
       go_ret2;have hW:UUp No B w b (rowB bs n2) v w10:=(Aa U3).trans (Aa hV).closed;refine⟨some ⟨gL,0,none⟩,cL,some ⟨gL,M,none⟩,cL-M, ?_, ?_, ?_,hW.drewN 1⟩
       . rw[Aa HEA,Aa HEC,hlA,hlC,show n0+1=tot-M by omega];rfl
       . rw[Aa HEA];exact Aa hRA
       . rw[Aa HEC];exact Aa hRC
theorem Qs {w:World}{b e size n:Nat}{v:Value}{xs:List Value}(h:w.ownsRow (b+1) e size v n xs):v.ownBlock=none\/v.ownBlock≠some b:=by
 cases hx:v.ownBlock with
 |none=>exact .inl rfl
 |some g=>
  refine .inr (fun e=> ?_);have:=(h.lt g hx).1
  cases e
  omega
theorem UIs.keepK {No:Nat->Prop}{B b k:Nat}{w w3:World}{row:List Bool}{u:US}{ov kv v':Value}{X:Obj}(hbb:B<=b)(hbn:¬No b)(hh:w.heap[b]? =some (.cells (ucells row u ov kv) 110 (0,0)))
 (hov:w.ownsRow (b+1) 5 1 ov u.out.length (u8s u.out)) (hkv:w.ownsRow (b+1) 3 1 kv u.ks.length (i64s u.ks)) (hap:ov.ownBlock=none\/ov.ownBlock≠kv.ownBlock) (hn1:∀g,ov.ownBlock=some g->¬No g) (hn2:∀g,kv.ownBlock=some g->¬No g) (hNo:∀g,w.heap.size<=g->¬No g)
 (hO3:w3.ownsRow (b+1) 3 1 v' (u.ks.length+1) (i64s u.ks++ [.int .i64 (k:Int)])) (hgrow:(w.alloc X).grownBy w3 kv.ownBlock) (hspot:v'.ownBlock=kv.ownBlock\/v'.ownBlock=some (w.heap.size+1)):
 w3.cell? ⟨b,3,none⟩=some kv/\w3.frozen? ⟨b,3,none⟩=false/\UUp No B w b row (ukept k u) (w3.setCell ⟨b,3,none⟩ v'):=by
 have hbl:b<w.heap.size:=(VL.1 hh).1;have hVb:=Qs hkv
 have hgb:w3.heap[b]? =some (.cells (ucells row u ov kv) 110 (0,0)):=by
  rw[hgrow.block b (by simp;omega) (fun e=>by rcases hVb with h|h;rw[h]at e;cases e;exact h e.symm)];exact(Below.heap_alloc w _ b hbl).trans hh
 have hgw:∀g,g<w.heap.size->kv.ownBlock≠some g->w3.heap[g]? =w.heap[g]? :=fun g hg hne=>by
  rw[hgrow.block g (by simp;omega) (fun e=>hne e.symm)];exact Below.heap_alloc w _ g hg
 have hsz:=hgrow.size;have hset:=Ad w3 b 3 v';simp only[World.size_alloc]at hsz
 have ho3:w3.ownsRow (b+1) 5 1 ov u.out.length (u8s u.out):=Dj hov (fun g hg=>hgw g (hov.lt g hg).2 (fun e=>by
  rcases hap with h|h
  . rw[h]at hg;cases hg
  . exact h (by rw[hg];exact e.symm)))
 refine⟨Ac hgb,frozen_of_row w3 b 3 _ _ hgb,⟨⟨hbb,hbn,ov,v', ?_,ho3.kept hset (Qs hov), ?_, ?_,hn1, ?_⟩, ?_, ?_⟩⟩
 . rw[heap_setCell_same w3 b 3 _ _ _ hgb];rfl
 . have:=hO3.kept hset (Qs hO3)
   show (w3.setCell ⟨b,3,none⟩ v').ownsRow (b+1) 3 1 v' (u.ks++ [k]).length (i64s (u.ks++ [k]))
   have e:i64s (u.ks++ [k])=i64s u.ks++ [.int .i64 (k:Int)]:=by simp[i64s]
   rw[e,VB];exact this
 . rcases hspot with h|h
   . rw[h];exact hap
   . cases hx:ov.ownBlock with
     |none=>exact .inl rfl
     |some g=>
      refine .inr (fun e=> ?_);rw[h]at e;have:=(hov.lt _ hx).2
      cases e
      omega
 . intro g hg
   rcases hspot with h|h
   . exact hn2 g (by rw[<-h];exact hg)
   . rw[h]at hg
     cases hg
     exact hNo _ (by omega)
 . have h1:Below B w w3:=((Below.refl B w).alloc (by omega) X).grown hgrow (by simp;omega) (fun g e=>by have:=(hkv.lt g e).1;omega);exact h1.setCell hbb _
 . intro g hg hn;rw[heap_setCell_other w3 _ _ _ (fun e=>hbn (by have:g=b:=e;rw[<-this];exact hn))];exact hgw g hg (fun e=>hn2 g e hn)
end Go.Proofs.YtleocpdblhbimaaGreatDoor
