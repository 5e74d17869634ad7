import Derived.Test.YtleocpdblhbimaaGreatDoorQ36
import Derived.Laws.CopyRow
import Derived.Test.YtleocpdblhbimaaGreatDoorQ24
import Derived.Deep.CutBlock
set_option linter.unusedSimpArgs false
set_option maxHeartbeats 4000000
namespace Go.Proofs.YtleocpdblhbimaaGreatDoor
open Go.RowKit
set_option linter.unusedVariables false
set_option maxRecDepth 100000
theorem Y4:(Tryz.prog.info? 297).map (·.size)=some 286:=by kernel_rfl
theorem OM:(Tryz.prog.info? 298).map (·.size)=some 30:=by kernel_rfl
theorem QI (a:Option Addr)(len cap:Nat)(ts:List Tk)(w:World)(hl:ts.length=len)(hlen:len<=3000)(hV:∀t∈ts,VT t)(hT:TokIn w a ts):
 Calls Tryz.prog 211 #[.slice a len cap] w fun e w'=>e=.returned (.tuple #[.agg (iv (symC (itsOf ts))).toArray,.agg (iv (farC (itsOf ts))).toArray])/\Below w.heap.size w w':=by
 have hTn:∀b o,a=some ⟨b,o,none⟩->ts≠ []->b<w.heap.size:=by
  intro b o e hne
  rcases hT with h|⟨b',o',h1,h2,_⟩
  . exact absurd h hne
  . rw[h1]at e;have:=VM e;cases this;exact h2
 have HT:=Ab hT;have HV:=Ab hV;have HL:=Ab hl;clear hT hV hl;go_enter Tryz.func211,Tryz.ntmps211
 go_wp2_with fail
 have hi:=Gb ts;refine(BU (KJ w.heap.size w.heap.size (w.heap.size+1)) (fun g=>g<w.heap.size) w.heap.size 238 239 240 #[.pointer (some ⟨w.heap.size,0,none⟩)] #[.pointer (some ⟨w.heap.size+1,0,none⟩)] #[] a len cap ts _ (QJ w.heap.size w.heap.size (w.heap.size+1) (itsOf ts) (Ka (Aa HV)) (by rw[Aa HL]at hi;omega)) (Aa HL) hlen (Aa HV) ((Aa HT).alloc _|>.alloc _) hTn (by simp;omega) ?_ (fun g hg=>by simp at hg;omega)).mono ?_
 . refine⟨⟨by omega,by omega⟩,by omega,⟨by omega,by omega⟩, ?_, ?_⟩
   . exact(Below.heap_alloc _ _ _ (by simp)).trans ((heap_alloc_new _ _).trans (by kernel_rfl))
   . have e:w.heap.size+1=(w.alloc (.cells (iv (List.replicate 286 0)).toArray 297)).heap.size:=by simp
     rw[e];exact(heap_alloc_new _ _).trans (by kernel_rfl)
 rintro e w1 ⟨rfl,hJ,hB,hK⟩;have hs:=hJ.s;have hf:=hJ.f;have hBw:Below w.heap.size w w1:=((((Below.refl w.heap.size w).alloc (VB _) _).alloc (by simp) _)).trans hB;have HB:=Ab hBw;have hls:=Li (itsOf ts);have hlf:=Mo (itsOf ts);clear hJ hB hK hTn hBw hi;obtain⟨xs,hxs⟩:∃xs,symC (itsOf ts)=xs:=⟨_,rfl⟩
 obtain⟨ys,hys⟩:∃ys,farC (itsOf ts)=ys:=⟨_,rfl⟩
 rw[hxs]at hs hls;rw[hys]at hf hlf;have HXS:=Ab hxs;have HYS:=Ab hys;clear hxs hys;have hi1:(Tryz.prog.info? 297).map (·.size)=some (iv xs).length:=by rw[Y4];simp[hls]
 have hi2:(Tryz.prog.info? 298).map (·.size)=some (iv ys).length:=by rw[OM];simp[hlf]
 have hi1':(Tryz.prog.info? 297).map (·.size)=some (iv xs).toArray.size:=by rw[Y4];simp[hls]
 have hi2':(Tryz.prog.info? 298).map (·.size)=some (iv ys).toArray.size:=by rw[OM];simp[hlf]
 have hu1:=Tryz.underlying297;have hu2:=Tryz.underlying298;go_wp2;refine wp_region_held_drew (S:=fun w'=>ARow 297 w' w.heap.size xs/\ARow 298 w' (w.heap.size+1) ys) (by kernel_rfl) ⟨hs,hf⟩ (fun hHeld=> ?_);refine wpAnyH_take (i:=0) (oi:= {dst:=some 9,op:=.load 297 (.tmp 2),type:=297,pos:= "dynamic.go:71",after:= #[],guard:=none}) (v:=_) rfl (by kernel_rfl) (by kernel_rfl) (by kernel_rfl) (fun _ _ _ h=>h) (yieldsIf_load_mid (by rfl) _ _ rfl _ _ rfl _ _ (fun _ h=>h.1.range) hu1 rfl hi1) hHeld ?_;simp only[Act.put,VA,VC,VD];refine wpAnyH_take (i:=1) (oi:= {dst:=some 10,op:=.load 298 (.tmp 3),type:=298,pos:= "dynamic.go:71",after:= #[],guard:=none}) (v:=_) rfl (by kernel_rfl) (by kernel_rfl) (by kernel_rfl) (fun _ _ _ h=>h) (yieldsIf_load_mid (by rfl) _ _ rfl _ _ rfl _ _ (fun _ h=>h.2.range) hu2 rfl hi2) hHeld ?_;simp only[Act.put,VA,VC,VD];refine wpAnyH_ready (rs:= [2]) (by kernel_rfl) (by simp) (AllReadyH.cons rfl (fun K hK=> ?_) AllReadyH.nil);refine Ei rfl 297 (.tmp 2) (.tmp 9) rfl w.heap.size xs rfl rfl hHeld.1 hi1' ?_;simp only[Act.put];refine hK.out _ _ hHeld (fun hHeld1=> ?_);clear hK K hHeld;refine wpAnyH_ready (rs:= [3]) (by kernel_rfl) (by simp) (AllReadyH.cons rfl (fun K hK=> ?_) AllReadyH.nil);refine Ei rfl 298 (.tmp 3) (.tmp 10) rfl (w.heap.size+1) ys rfl rfl hHeld1.2 hi2' ?_;simp only[Act.put];refine hK.out _ _ hHeld1 (fun hHeld2=> ?_);clear hK K hHeld1;refine wpAnyH_done (by kernel_rfl) ?_ _;go_wp2;refine bodyPost_ret (v:=.tuple #[.agg (iv xs).toArray,.agg (iv ys).toArray]) ?_ rfl ⟨by rw[Aa HXS,Aa HYS],(Aa HB).drew⟩;exact Ln rfl _ _ w.heap.size (w.heap.size+1) _ _ rfl rfl (hHeld2.1.load hu1 rfl hi1') (hHeld2.2.load hu2 rfl hi2')
theorem Ib (a:Option Addr)(len cap:Nat)(l:List Int)(m least:Nat)(w:World)(hl:l.length=len)(hR:RowIn .i64 w a l)(hG:GoodW l m)(hle:least<=len)(n:Nat)(hn:Hid (Gu (lensD l m) least len=n)):
 Calls Tryz.prog 212 #[.slice a len cap,.int .i64 (m:Int),.int .i64 (least:Int)] w fun e w'=>∃g,e=.returned (.slice (some ⟨g,0,none⟩) n len)/\IsLens l m (lensD l m)/\w.heap.size<=g/\g<w'.heap.size/\Row .i64 w' g 0 (trimL (lensD l m) least)/\Below w.heap.size w w':=by
 have hlen:=hG.len;go_enter Tryz.func212,Tryz.ntmps212
 go_wp2_with fail
 refine(FZ a len cap l m w hl hR hG).mono ?_;rintro e w1 ⟨g,s,rfl,hI,hs,hW,hB,hg⟩;have hD:=Z15 hI;rw[hD]at hn;have HI:Hid (IsLens l m (lensD l m)):=Ab (by rw[hD];exact hI);have HD:=Ab hD;have HW:=Ab hW;have HB:=Ab hB;have HS:=Ab hs;have hrow:∀j,j<len->w1.cell? ⟨g,j,none⟩=some (.int .i64 (s.getD j 0)):=fun j hj=>(hW.at_ j (by omega)).1
 have HRW:=Ab hrow;have hgl:=hW.lt
 have HTR:Hid (Row .i64 w1 g 0 (trimL (lensD l m) least)):=fun j hj=>by
  rw[WG,hD,Oo];refine hrow j ?_;rw[hD,Cg]at hj;have:=Ju s least s.length
  omega
 clear hI hD hW hB hs hR hG hrow;go_wp2;go_loop [9] (fun v=>∃k:Nat,k<=len/\least<=k/\v=.int .i64 (k:Int)/\Hid (Gu s least k=n)) (fun v=>(intOf v).toNat)
 case atStart=>exact⟨len,VB _,hle,rfl,hn⟩
 case round=>
  obtain⟨k,hk,hk2,rfl,ht⟩:=hrel
  by_cases h1:least<k
  . obtain⟨q,rfl⟩:∃q,k=q+1:=⟨k-1,by omega⟩
    have c:=Aa HRW q (by omega);have h1I:(least:Int)<((q+1:Nat):Int):=by omega
    have i1:(((q+1:Nat):Int)-1).toNat=q:=by omega
    have i2:(0:Int)<=((q+1:Nat):Int)-1:=by omega
    have i3:((q+1:Nat):Int)-1<(len:Int):=by omega
    by_cases h0:s.getD q 0=0
    . rw[h0]at c;have HT:Hid (Gu s least q=n):=Ab (by have:=Aa ht;rw[Gu,if_pos ⟨h1,h0⟩]at this;exact this);clear h0 ht;go_wp2;go_round
      case rel=>exact⟨q,by omega,by omega,by go_num,HT⟩
      case measure=>simp[intOf]
    . have HT:Hid (q+1=n):=Ab (by have:=Aa ht;rw[Gu,if_neg (fun h=>h0 h.2)]at this;exact this);have hb:(s.getD q 0==0)=false:=by rw[beq_eq_false_iff_ne];exact h0
      generalize s.getD q 0=x at c hb;clear h0 ht;go_wp2;go_ret;exact⟨g,by rw[<-Aa HT];rfl,Aa HI,hg,hgl,Aa HTR,Aa HB⟩
  . have HT:Hid (k=n):=Ab (by
     have:=Aa ht
     cases k with
     |zero=>rw[Gu]at this;exact this
     |succ k=>rw[Gu,if_neg (fun h=>h1 h.1)]at this;exact this)
    have h1I:¬(least:Int)<(k:Int):=by omega
    clear ht;go_wp2;go_ret;exact⟨g,by rw[<-Aa HT];rfl,Aa HI,hg,hgl,Aa HTR,Aa HB⟩
theorem BT (No:Nat->Prop)(B rb:Nat)(a:Option Addr)(len cap:Nat)(ts:List Tk)(S:List Bool)(b1 o1 n1 c1 b2 o2 n2 c2:Nat)(l1 l2:List Int)(gc gl gr hc hl hr:Nat)(w0 W w3:World)(h:RIs No B w0 rb S)(hz:w0.heap.size<=W.heap.size)(hB3:Below w0.heap.size w0 w3)
 (hC1:CIs (fun g=>W.heap.size<=g\/g=b1\/g=b2) w3 gc gl gr rb (some ⟨b1,o1,none⟩) n1 c1 l1) (hC2:CIs (fun g=>W.heap.size<=g\/g=b1\/g=b2) w3 hc hl hr rb (some ⟨b2,o2,none⟩) n2 c2 l2)
 (hb1:No b1\/w0.heap.size<=b1) (hb2:No b2\/w0.heap.size<=b2) (hl1:l1.length=n1) (hl2:l2.length=n2) (hG1:Good l1) (hG2:Good l2) (hH:Has l1 l2 (itsOf ts))
 (htl:ts.length=len) (hlen:len<=3000) (hV:∀t∈ts,VT t) (hT:TokIn w0 a ts) (hTn:∀b o,a=some ⟨b,o,none⟩->ts≠ []->No b) (hNo:∀g,w0.heap.size<=g->¬No g) (hS:S.length+60*len<=280000):
 Calls Tryz.prog 181 #[.slice a len cap,.agg #[CV gc gl gr,CV hc hl hr,.func (.func 147) #[.pointer (some ⟨rb,0,none⟩)] #[]]] w3 fun e w'=>e=.returned (.tuple #[])/\Rp No B w0 rb (S++putIs l1 l2 (itsOf ts)) w':=by
 have hz3:=hB3.size;have hi:=Gb ts;have hlt:=h.lt;have hba:=h.base;have hK:=Z3y (fun g=>(W.heap.size<=g\/g=b1\/g=b2)/\g<w3.heap.size) B rb S l1 l2 gc gl gr hc hl hr b1 o1 n1 c1 b2 o2 n2 c2 (itsOf ts) hl1 hl2 hG1 hG2 hH (Ka hV) (by omega)
 have hJ:PJ (fun g=>(W.heap.size<=g\/g=b1\/g=b2)/\g<w3.heap.size) B rb S l1 l2 gc gl gr hc hl hr b1 o1 n1 c1 b2 o2 n2 c2 No [] w3:=by
  refine⟨?_,hC1.bound,hC2.bound,fun g hg=>hg.2⟩;have e:S++putIs l1 l2 []=S:=by simp[putIs]
  rw[e];refine h.grow hB3 (fun g e=> ?_)
  rcases e with e|⟨e|e|e,_⟩
  . exact .inl e
  . exact .inr (by omega)
  . rw[e];exact hb1
  . rw[e];exact hb2
 refine(BU _ No B _ _ _ _ _ _ a len cap ts w3 hK htl hlen hV (hT.below hB3 (VB _)) hTn (by omega) hJ (fun g hg=>hNo g (by omega))).mono ?_;rintro e w' ⟨rfl,hJ',hB',hK'⟩;refine⟨rfl,hJ'.row.grow (Below.refl _ _) (fun g e=>.inl (.inl e)),(hB3.mono (by omega)).trans hB',fun g hg hn=>(hK' g (by omega) hn).trans (hB3.block g hg)⟩
theorem PM {ts:List Tk}(hV:∀t∈ts,VT t):Has Ky Ir (itsOf ts):=by
 have hi:=Ka hV;refine⟨fun k hk=> ?_,fun k hk=> ?_⟩
 . have h:k<286:=hi _ hk;refine⟨by rw[Mj];omega, ?_⟩;rw[PP (by omega)]
   split
   . decide
   . split
     . decide
     . split<;>decide
 . have h:k<30:=hi _ hk;exact⟨by rw[Fk];omega,by rw[Z0 (by omega)];decide⟩
theorem C7 (No:Nat->Prop)(B rb:Nat)(a:Option Addr)(len cap:Nat)(ts:List Tk)(S:List Bool)(w:World)(h:RIs No B w rb S)(htl:ts.length=len)(hlen:len<=3000)(hV:∀t∈ts,VT t)(hT:TokIn w a ts)(hTn:∀b o,a=some ⟨b,o,none⟩->ts≠ []->No b)(hNo:∀g,w.heap.size<=g->¬No g)(hS:S.length+60*len<=280000):
 Calls Tryz.prog 150 #[.pointer (some ⟨rb,0,none⟩),.slice a len cap] w fun e w'=>e=.returned (.tuple #[])/\Rp No B w rb (S++Ha ts) w':=by
 have HP:=Ab (fun(W w3:World) (gc gl gr hc hl hr b1 b2:Nat) hz hB3 hC1 hC2 hb1 hb2=>BT No B rb a len cap ts S b1 0 288 288 b2 0 32 32 Ky Ir gc gl gr hc hl hr w W w3 h hz hB3 hC1 hC2 hb1 hb2 Mj Fk Mk Mi (PM hV) htl hlen hV hT hTn hNo hS);obtain⟨FA,hFA⟩:∃FA,Ky=FA:=⟨_,rfl⟩
 obtain⟨FB,hFB⟩:∃FB,Ir=FB:=⟨_,rfl⟩
 have hlA:=Mj;have hlB:=Fk;have hgA:=Mk;have hgB:=Mi;have HF:=Ab (K7 w);have hE:Ha ts=putIs FA FB (itsOf ts):=by unfold Ha;rw[hFA,hFB]
 rw[hE];simp only[hFA,hFB]at HP HF hlA hlB hgA hgB;have HGA:=Ab hgA;have HGB:=Ab hgB;clear h hV hT hTn hNo hFA hFB hE hgA hgB;have hi1:(Tryz.prog.info? 247).map (·.size)=some (iv FA).toArray.size:=by rw[Ya];simp[hlA]
 have hi2:(Tryz.prog.info? 248).map (·.size)=some (iv FB).toArray.size:=by rw[CP];simp[hlB]
 go_enter Tryz.func150,Tryz.ntmps150
 go_wp2_with fail
 refine(Aa HF).mono ?_;rintro e w1 ⟨rfl,hB1⟩;have hz1:=hB1.size;have HB1:=Ab hB1;clear hB1;have A1:((w1.alloc (.cells (iv (List.replicate 288 0)).toArray 247)).alloc (.cells (iv (List.replicate 32 0)).toArray 248)).heap[w1.heap.size]? =some (.cells (iv (List.replicate 288 0)).toArray 247 (0,0)):=(Below.heap_alloc _ _ _ (by simp)).trans (heap_alloc_new _ _)
 have A2:(((w1.alloc (.cells (iv (List.replicate 288 0)).toArray 247)).alloc (.cells (iv (List.replicate 32 0)).toArray 248)).setRow w1.heap.size (iv FA).toArray).heap[w1.heap.size+1]? =some (.cells (iv (List.replicate 32 0)).toArray 248 (0,0)):=by
  rw[Go.setRow_other _ _ _ _ (by omega)];have e:w1.heap.size+1=(w1.alloc (.cells (iv (List.replicate 288 0)).toArray 247)).heap.size:=by simp
  rw[e];exact heap_alloc_new _ _
 have HA1:=Ab A1;have HA2:=Ab A2;have HT:=Ab (fun x y=>Jt w w1 x y 247 248 FA FB (Aa HB1) (by simp));clear A1 A2;go_upto_region 1 with (first|refine wpList_store_row rfl 247 (.tmp 4) (.tmp 8) rfl w1.heap.size _ rfl rfl 247 (iv (List.replicate 288 0)).toArray (Aa HA1) hi1 (by simp[hlA]) (Cy FA) ?_|refine wpList_store_row rfl 248 (.tmp 5) (.tmp 9) rfl (w1.heap.size+1) _ rfl rfl 248 (iv (List.replicate 32 0)).toArray (Aa HA2) hi2 (by simp[hlB]) (Cy FB) ?_)
 simp only[Act.put];generalize hW2:World.setRow (World.setRow (World.alloc (World.alloc _ _) _) _ _) _ _=W2;have t1:ARow 247 W2 w1.heap.size FA:=by rw[<-hW2];exact(Aa HT _ _).1
 have t2:ARow 248 W2 (w1.heap.size+1) FB:=by rw[<-hW2];exact(Aa HT _ _).2.1
 have t3:Below w.heap.size w W2:=by rw[<-hW2];exact(Aa HT _ _).2.2
 have hzW:=t3.size;have HPT:=Ab (fun k=>Vd w1.heap.size 0 288 288 (w1.heap.size+1) 0 32 32 rb FA FB (W2.drewN k) hlA hlB (by decide) (by decide) t1.lt t2.lt t1.row t2.row (Aa HGA) (Aa HGB));have HT3:=Ab t3;clear hW2 HT HA1 HA2 t1 t2 t3;go_region_with (first|(go_at_call 182;refine(Aa HPT _).mono ?_;rintro e w3 ⟨gc,gl,gr,hc,hl,hr,rfl,hC1,hC2,hB3⟩;have HC1:=Ab hC1;have HC2:=Ab hC2;have HB3:=Ab hB3;clear hC1 hC2 hB3)|(go_at_call 181;refine(Aa HP W2 w3 gc gl gr hc hl hr w1.heap.size (w1.heap.size+1) hzW ((Ae (Aa HT3) _).trans ((Aa HB3).mono hzW)) (Aa HC1) (Aa HC2) (.inr hz1) (.inr (by omega))).mono ?_;rintro e w4 ⟨rfl,hR⟩;have HR:=Ab hR;clear hR))
 all_goals try go_wp2
 all_goals go_end0
 all_goals exact⟨rfl,Aa HR⟩
theorem LW (is:List (Nat×Nat×Nat))(i:Nat×Nat×Nat):Yz (is++ [i])=Tb (Yz is) i.1:=by
 unfold Yz Cq;simp[List.foldl_append]
theorem Z3w (is:List (Nat×Nat×Nat))(k:Nat):(Yz is).getD k 0<=is.length/\0<=(Yz is).getD k 0:=by
 by_cases hk:k<19
 . unfold Yz;rw[Gs _ _ k (by simpa using hk),Iv];have h1:=YI (a:=k) (l:=is.map Prod.fst);rw[WL]at h1;omega
 . have:(Yz is).getD k 0=0:=by
    simp only[List.getD];rw[WJ (by rw[Ov];omega)];rfl
   omega
theorem V0 (T:TypeId)(g k:Nat)(n s:Int)(xs:List Int)(W:World)(hT:T=321)(h:ARow T W g xs)(hl:xs.length=19)(hk:k<19)(hx:0<=xs.getD k 0/\xs.getD k 0<=1000000):
 Calls Tryz.prog 244 #[.int .i64 (k:Int),.int .i64 n,.int .i64 s,.pointer (some ⟨g,0,none⟩)] W fun e w'=>e=.returned (.tuple #[])/\w'=W.setCell ⟨g,k,none⟩ (.int .i64 (xs.getD k 0+1)):=by
 have c:=h.cell k (by omega);have f:=h.frozen k;have hkI:(k:Int)<19:=by omega
 clear h hT;generalize xs.getD k 0=x at*;go_enter Tryz.func244,Tryz.ntmps244
 go_wp2;go_end0
 exact⟨rfl,rfl⟩
theorem Z1z (g:Nat)(all:List (Nat×Nat×Nat))(h19:∀i∈all,i.1<19)(hlen:all.length<=100000):
 Snk3 (fun is W=>ARow 321 W g (Yz is)) (fun W W'=>Below g W W') 244 #[.pointer (some ⟨g,0,none⟩)] all:=by
 refine⟨Gg Tryz.func244 (by kernel_rfl) rfl, ?_,fun W=>Below.refl _ _,fun q h=>h,fun W q=>Ae (Below.refl _ _) q,fun h k=>h.trans k⟩;intro is R i W he hJ;have h4:=congrArg List.length he;rw[VE,VJ]at h4;have hk:=h19 i (by rw[<-he];simp);have hle:=Z3w is i.1;have hlt:=hJ.lt;refine(V0 _ g i.1 i.2.1 i.2.2 (Yz is) W rfl hJ (Ov is) hk ⟨hle.2,by omega⟩).mono ?_;rintro e W' ⟨rfl,rfl⟩;refine⟨rfl, ?_, ?_⟩
 . rw[LW];exact hJ.set i.1 _
 . exact(Below.refl g W).grown (Ad W g i.1 _) (by omega) (fun j e=>by rw[<-VM e];exact VB _)
theorem U9 (No:Nat->Prop)(B gp gb gc gl gr rb:Nat)(a:Option Addr)(cap:Nat)(own:List Int)(k n s:Nat)(S:List Bool)(W:World)(hC:CIs No W gc gl gr rb a 19 cap own)(hl:own.length=19)(hG:Good own)(hq:k<19)(hpos:0<own.getD k 0)(hn:n<65536)(hs:s<=16)(h:RIs No B W rb S)(hS:S.length<=290000)(hNo:∀g,W.heap.size<=g->¬No g)
 (hp:W.cell? ⟨gp,0,none⟩=some (CV gc gl gr)) (hbx:W.cell? ⟨gb,0,none⟩=some (.pointer (some ⟨rb,0,none⟩))) (hgb:gb<W.heap.size/\No gb):
 Calls Tryz.prog 245 #[.int .i64 (k:Int),.int .i64 (n:Int),.int .i64 (s:Int),.pointer (some ⟨gp,0,none⟩),.pointer (some ⟨gb,0,none⟩)] W fun e w'=>e=.returned (.tuple #[])/\Rp No B W rb (S++Z40 own (k,n,s)) w':=by
 have hcl:=Pp own hG k;have h15:=(hG.ok k (by omega)).2;have H1:=Ab (Yo No No B gc gl gr rb a 19 cap own k S W hC hl hG hq hpos h (by omega) hNo);have H2:=Ab (fun w1 (hR:Rp No B W rb (S++codeT own k) w1)=>Dp No B rb n s (S++codeT own k) w1 hR.is hn hs (by rw[VE,hcl];omega) (fun g hg=>hNo g (by have:=hR.below.size;omega)));have H3:=Ab (fun w1 (hR:Rp No B W rb (S++codeT own k) w1)=>hR.kp.cell hgb.1 hgb.2 hbx);clear hC h hNo hcl h15 hG hgb;go_enter Tryz.func245,Tryz.ntmps245
 go_wp2_with fail
 refine(Aa H1).mono ?_;rintro e w1 ⟨rfl,hR⟩;have c1:=Aa H3 w1 hR;have HR:=Ab hR;clear hR;go_wp2_with fail
 refine(Aa H2 w1 (Aa HR)).mono ?_;rintro e w2 ⟨rfl,hR2⟩;have HR2:=Ab hR2;clear hR2;go_wp2;go_end0
 refine⟨rfl, ?_⟩;unfold Z40;rw[<-VS];exact(Aa HR).trans (Aa HR2)
theorem Qr (x:Nat):∀f m,∀i∈He x f m,i.2.1<128/\i.2.2<=7
 |0,m,i,h=>by cases h
 |f+1,m,i,h=>by
  rw[He]at h;have ih:=Qr x f
  split at h
  . cases h
  . split at h
    . rcases WH.1 h with rfl|h
      . exact⟨Nat.zero_lt_succ _,VH _⟩
      . exact ih _ i h
    . split at h
      . rcases WH.1 h with rfl|h
        . constructor<;>simp only<;>omega
        . exact ih _ i h
      . split at h
        . rcases WH.1 h with rfl|h
          . constructor<;>simp only<;>omega
          . exact ih _ i h
        . rcases WH.1 h with rfl|h
          . constructor<;>simp only<;>omega
          . exact ih _ i h
theorem F6:∀(f:Nat) (l:List Int),∀i∈Xv f l,i.2.1<128/\i.2.2<=7
 |0,l,i,hi=>by cases hi
 |f+1,[],i,hi=>by cases hi
 |f+1,x::r,i,hi=>by
  have e:Xv (f+1) (x::r)=Qt x.toNat (Cp x r+1)++Xv f (r.drop (Cp x r)):=rfl;rw[e]at hi
  rcases WP.1 hi with hi|hi
  . unfold Qt at hi
    split at hi
    . rcases WH.1 hi with rfl|h
      . exact⟨Nat.zero_lt_succ _,VH _⟩
      . exact Qr _ _ _ i h
    . exact Qr _ _ _ i hi
  . exact F6 f _ i hi
structure LJ (No:Nat->Prop)(B gp gb gc gl gr rb:Nat)(a:Option Addr)(cap:Nat)(own:List Int)(S:List Bool)(is:List (Nat×Nat×Nat))(W:World):Prop where
 row:RIs No B W rb (S++putRs own is)
 c:CIs No W gc gl gr rb a 19 cap own
 p:W.cell? ⟨gp,0,none⟩=some (CV gc gl gr)
 b:W.cell? ⟨gb,0,none⟩=some (.pointer (some ⟨rb,0,none⟩))
 lp:gp<W.heap.size/\No gp
 lb:gb<W.heap.size/\No gb
 no:∀g,W.heap.size<=g->¬No g
theorem Z09 (No:Nat->Prop)(B gp gb gc gl gr rb:Nat)(a:Option Addr)(cap:Nat)(own:List Int)(S:List Bool)(all:List Int)(hO:Own all own)(hlen:all.length<=1000)(hS:S.length<=280000):
 Snk3 (LJ No B gp gb gc gl gr rb a cap own S) (fun W W'=>Below B W W'/\Kp No W W') 245 #[.pointer (some ⟨gp,0,none⟩),.pointer (some ⟨gb,0,none⟩)] (lenIs all):=by
 refine⟨Gg Tryz.func245 (by kernel_rfl) rfl, ?_,fun W=>⟨Below.refl _ _,Kp.refl _ _⟩,fun q h=>⟨h.row.drewN q,h.c.keep (VB _) (fun _ _ _=>rfl),h.p,h.b,h.lp,h.lb,h.no⟩,fun W q=>⟨Ae (Below.refl _ _) q,fun _ _ _=>rfl⟩,fun h k=>⟨h.1.trans k.1,h.2.trans k.2 h.1.size⟩⟩;intro is R i W he hJ;have hk:=hO.has i (by rw[<-he];simp);have hr:=F6 all.length all i (by show i∈lenIs all;rw[<-he];simp);have hbits:=(Lz own hO.go (fun k=>(hO.vo k).2) all.length all).1
 have hb2:(putRs own is).length<=7*all.length:=by
  have e:putRs own (lenIs all)=putRs own is++putRs own (i::R):=by rw[<-he,Qx]
  have h2:(putRs own (lenIs all)).length<=7*all.length:=hbits;rw[e,VE]at h2;omega
 obtain⟨k,n,s⟩:=i;have hlo:=hO.lo;refine(U9 No B gp gb gc gl gr rb a cap own k n s (S++putRs own is) W hJ.c hO.lo hO.go (by rw[<-hlo];exact hk.1) hk.2 (by have:=hr.1;simp only at this;omega) (by have:=hr.2;simp only at this;omega) hJ.row (by rw[VE];omega) hJ.no hJ.p hJ.b hJ.lb).mono ?_;rintro e W' ⟨rfl,hR⟩;have hz:=hR.below.size;have e:putRs own (is++ [(k,n,s)])=putRs own is++Z40 own (k,n,s):=by rw[Qx];simp[putRs]
 refine⟨rfl,⟨?_,hJ.c.keep hz (fun g hg hn=>hR.kp g hg hn),hR.kp.cell hJ.lp.1 hJ.lp.2 hJ.p,hR.kp.cell hJ.lb.1 hJ.lb.2 hJ.b,⟨VG hJ.lp.1 hz,hJ.lp.2⟩,⟨VG hJ.lb.1 hz,hJ.lb.2⟩,fun g hg=>hJ.no g (by omega)⟩,hR.below,hR.kp⟩;rw[e,<-VS];exact hR.is
theorem X0 {j:Nat}(h:j<19):SE.getD j 0=((ord19.getD j 0:Nat):Int)/\ord19.getD j 0<19:=by
 have:(List.range 19).all (fun j=>SE.getD j 0==((ord19.getD j 0:Nat):Int)&&decide (ord19.getD j 0<19))=true:=by decide
 have:=WX.1 this j (by simpa using h)
 simpa using this
theorem Um (l:List Int)(n:Nat):Gu l n n=n:=by
 cases n with
 |zero=>rfl
 |succ n=>rw[Gu,if_neg (fun h=>by omega)]
theorem Yt (b1 b2:Nat)(l1 l2:List Int):Jp [(b1,l1),(b2,l2)] 2=l1++l2:=by simp[Jp]
theorem FG {w:World}{B n c g:Nat}{xs:List Int}(h:w.ownsRow B 3 1 (.slice (some ⟨g,0,none⟩) n c) n (iv xs))(hl:xs.length=n):Row .i64 w g 0 xs:=by
 intro j hj;rw[WG];have:=h.cellAt j (by omega)
 rw[this];simp[iv,List.getD,hj]
theorem Z46 {w:World}{B e n c g:Nat}{xs:List Value}(h:w.ownsRow B e 1 (.slice (some ⟨g,0,none⟩) n c) n xs):n<=c:=by
 rcases h.2 with ⟨h1,h2⟩|⟨g',cap,cur,h1,h2,h3⟩
 . cases h1
 . cases h1
   exact h3.2.1
theorem Ti (No:Nat->Prop)(B rb b1 n1 c1 b2 n2 c2:Nat)(l1 l2:List Int)(S:List Bool)(w:World)(h:RIs No B w rb S)(hl1:l1.length=n1)(hl2:l2.length=n2)(h1a:257<=n1)(h1b:n1<=286)(h2a:1<=n2)(h2b:n2<=30)(hb1:b1<w.heap.size)(hb2:b2<w.heap.size)(hR1:Row .i64 w b1 0 l1)(hR2:Row .i64 w b2 0 l2)(hx:∀x∈l1++l2,0<=x/\x<=15)(hS:S.length<=277000)(hNo:∀g,w.heap.size<=g->¬No g):
 Calls Tryz.prog 213 #[.pointer (some ⟨rb,0,none⟩),.slice (some ⟨b1,0,none⟩) n1 c1,.slice (some ⟨b2,0,none⟩) n2 c2] w fun e w'=>e=.returned (.tuple #[])/\Own (l1++l2) (MX (l1++l2))/\Rp No B w rb (S++Rw l1 l2 (MX (l1++l2))) w':=by
 have HH:=Ab h;have HL1:=Ab hl1;have HL2:=Ab hl2;have HR1:=Ab hR1;have HR2:=Ab hR2;have HX:=Ab hx;have HNo:=Ab hNo;clear h hl1 hl2 hR1 hR2 hx hNo;obtain⟨all,hall⟩:∃all,l1++l2=all:=⟨_,rfl⟩
 rw[hall]at HX;have hal:all.length=n1+n2:=by rw[<-hall,VE,Aa HL1,Aa HL2]
 have HALL:=Ab hall;have HAL:=Ab hal;clear hal;rw[hall];clear hall;obtain⟨own,hown⟩:∃own,MX all=own:=⟨_,rfl⟩
 rw[hown];have HOWN:=Ab hown;clear hown;obtain⟨N,hN⟩:∃N,n1+n2=N:=⟨_,rfl⟩
 have hN2:258<=N/\N<=316:=by omega
 have HN:=Ab hN;clear hN;obtain⟨OZ,hOZ⟩:∃OZ,SE=OZ:=⟨_,rfl⟩
 have HOZ:=Ab hOZ;have HOR:=Ab (fun W=>by have:=D5 W;rw[hOZ]at this;exact this);have hozl:OZ.length=19:=by rw[<-hOZ];rfl
 have hiO:(Tryz.prog.info? 321).map (·.size)=some (iv OZ).toArray.size:=by rw[ON];simp[hozl]
 clear hOZ;go_enter Tryz.func213,Tryz.ntmps213
 go_wp2_with fail
 refine(Vx (w.heap.size+1) 0 2 2 (fun j=>if j=0 then c1 else c2) [(b1,l1),(b2,l2)] _ (by simp) ?_ ?_ ?_ ?_ (by decide)).mono ?_
 . intro j hj
   rcases(by omega:j=0\/j=1)with rfl|rfl
   . simp[Aa HL1]
   . simp[Aa HL2]
 . intro j hj
   rcases(by omega:j=0\/j=1)with rfl|rfl
   . exact .inr ⟨b1,0,rfl,by simp;omega,(((Aa HR1).alloc hb1 _).alloc (by simp;omega) _)⟩
   . exact .inr ⟨b2,0,rfl,by simp;omega,(((Aa HR2).alloc hb2 _).alloc (by simp;omega) _)⟩
 . intro k hk;have e1:=Aa HL1;have e2:=Aa HL2
   rcases(by omega:k=0\/k=1\/k=2)with rfl|rfl|rfl
   . simp[Jp]
   . simp[Jp];omega
   . rw[Yt,VE];omega
 . have e1:=Aa HL1;rw[Yt,VE];omega
 rw[Yt,Aa HALL,Aa HAL,Aa HN];rintro e wA ⟨v,rfl,hO,hBA⟩;obtain⟨g6,c6,rfl,hg61,hg62⟩:=Ba hO (by omega);have hRA:=FG hO (by rw[Aa HAL,Aa HN]);have hcA:=Z46 hO;have hzA:=hBA.size;simp only[World.size_alloc]at hzA hg61;have hBwA:Below w.heap.size w wA:=(((Below.refl w.heap.size w).alloc (VB _) _).alloc (by simp) _).trans (hBA.mono (by simp;omega));have c0A:wA.cell? ⟨w.heap.size,0,none⟩=some (.pointer (some ⟨rb,0,none⟩)):=(hBA.cell (p:=⟨w.heap.size,0,none⟩) (by simp;omega)).trans (by simp);have HRA:=Ab hRA;have HBA:=Ab hBwA;clear hO hBA hRA hBwA;go_wp2_with fail
 refine(Aa HOR _).mono ?_;rintro e wB ⟨rfl,hBB⟩;have hzB:=hBB.size;have HBB:=Ab hBB;have A1:(wB.alloc (.cells (iv (List.replicate 19 0)).toArray 321)).heap[wB.heap.size]? =some (.cells (iv (List.replicate 19 0)).toArray 321 (0,0)):=heap_alloc_new _ _;have HA1:=Ab A1;clear hBB A1;go_upto_region 3 with (refine wpList_store_row rfl 321 (.tmp 7) (.tmp 17) rfl wB.heap.size _ rfl rfl 321 (iv (List.replicate 19 0)).toArray (Aa HA1) hiO (by simp[hozl]) (Cy OZ) ?_)
 simp only[Act.put];generalize hWC:World.setRow (World.alloc _ _) _ _=wC;have tO:ARow 321 wC wB.heap.size OZ:=by rw[<-hWC];exact setRow_heap _ _ _ _ _ _ (Aa HA1)
 have tB:Below w.heap.size w wC:=by rw[<-hWC];exact Bg (((Aa HBA).trans ((Aa HBB).mono (by omega))).alloc (by omega) _) (by omega) _
 have tAB:Below wA.heap.size wA wC:=by rw[<-hWC];exact Bg ((Aa HBB).alloc (by omega) _) (by omega) _
 have hzC:wB.heap.size<wC.heap.size:=by rw[<-hWC];simp
 clear hWC;have c0C:wC.cell? ⟨w.heap.size,0,none⟩=some (.pointer (some ⟨rb,0,none⟩)):=(tAB.cell (p:=⟨w.heap.size,0,none⟩) (by show w.heap.size<_;omega)).trans c0A;have HRC:Hid (Row .i64 wC g6 0 all):=Ab ((Aa HRA).below tAB hg62);have HTO:=Ab tO;have HTB:=Ab tB;clear tO tB tAB c0A HA1 HBB HBA HRA;go_wp2_with fail
 refine(Ja _ _ _ _ g6 0 N c6 all _ (Z1z wC.heap.size (lenIs all) (Xu _ all (Aa HX)) ?_) (by rw[Aa HAL,Aa HN]) (by omega) hcA (Aa HX) ?_ ?_).mono ?_
 . have:=F5 all
   rw[Aa HAL,Aa HN]at this;omega
 . intro W hW;exact((Aa HRC).alloc (by omega) _).below hW (by omega)
 . exact(heap_alloc_new _ _).trans (by kernel_rfl)
 rintro e wD ⟨rfl,hJD,hBD⟩;have hzD:=hBD.size;simp only[World.size_alloc]at hzD;have HRD:Hid (Row .i64 wD g6 0 all):=Ab (((Aa HRC).alloc (by omega) _).below hBD (by omega));have HTD:Hid (ARow 321 wD wB.heap.size OZ):=Ab ((Aa HTO).keep ((hBD.block _ (by omega)).trans (Below.heap_alloc wC _ _ (by omega))));have HBD:Hid (Below w.heap.size w wD):=Ab (((Aa HTB).alloc (by omega) _).trans (hBD.mono (by omega)));have c0D:wD.cell? ⟨w.heap.size,0,none⟩=some (.pointer (some ⟨rb,0,none⟩)):=(hBD.cell (p:=⟨w.heap.size,0,none⟩) (by show w.heap.size<_;omega)).trans ((World.cell?_alloc_past _ _ _ (by show w.heap.size<_;omega)).trans c0C);have HJD:=Ab hJD;clear hJD hBD c0C HTO HTB HRC;have hgood:GoodW (Yz (lenIs all)) 7:=C0 (by rw[Aa HAL,Aa HN];omega);have HLO:=Ab (Ib (some ⟨wC.heap.size,0,none⟩) 19 19 (Yz (lenIs all)) 7 19 wD (Ov _) (.inr ⟨_,0,rfl,(Aa HJD).lt,(Aa HJD).row⟩) hgood (VB _) 19 (Ab (Um _ _)));clear hgood;go_wp2_with fail
 refine(Aa HLO).mono ?_;rintro e wE ⟨g9,rfl,hI,hg91,hg92,hRE,hBE⟩;have hOwn:=Z6g (by rw[Aa HAL,Aa HN];omega) (Aa HX) hI;have e0:lensD (Yz (lenIs all)) 7=own:=Aa HOWN;rw[e0]at hOwn hRE;clear hI e0 HLO
 have e1:trimL own 19=own:=by
  unfold trimL;rw[hOwn.lo,Um];exact VV (by rw[hOwn.lo];exact VB _)
 rw[e1]at hRE;clear e1;have hzE:=hBE.size;have HTE:Hid (ARow 321 wE wB.heap.size OZ):=Ab ((Aa HTD).keep (hBE.block _ (by omega)));have HRWE:Hid (Row .i64 wE g6 0 all):=Ab ((Aa HRD).below hBE (by omega));have HBE:Hid (Below w.heap.size w wE):=Ab ((Aa HBD).trans (hBE.mono (by omega)));have c0E:wE.cell? ⟨w.heap.size,0,none⟩=some (.pointer (some ⟨rb,0,none⟩)):=(hBE.cell (p:=⟨w.heap.size,0,none⟩) (by show w.heap.size<_;omega)).trans c0D;have HOW:=Ab hOwn;have HRO:=Ab hRE;clear hOwn hRE hBE c0D HJD HTD HRD HBD;obtain⟨No1,hNo1⟩:∃No1:Nat->Prop,No1=fun g=>No g\/ (w.heap.size<=g/\g<wE.heap.size):=⟨_,rfl⟩
 have hno1:∀g,wE.heap.size<=g->¬No1 g:=by
  intro g hg e;rw[hNo1]at e
  rcases e with e|e
  . exact Aa HNo g (by omega) e
  . omega
 have hr1:RIs No1 B wE rb S:=(Aa HH).grow (Aa HBE) (fun g e=>by
  rw[hNo1]at e
  rcases e with e|e
  . exact .inl e
  . exact .inr e.1)
 have hin1:∀g,w.heap.size<=g->g<wE.heap.size->No1 g:=fun g h1 h2=>by rw[hNo1];exact .inr ⟨h1,h2⟩
 have hle1:∀g,No g->No1 g:=fun g h1=>by rw[hNo1];exact .inl h1
 have HN1:=Ab hno1;have HI1:=Ab hin1;have HE1:=Ab hle1;have HRI:=Ab hr1;clear hno1 hin1 hle1 hr1 hNo1
 have hCO:∀W,Kp No1 wE W->(W.cell? ⟨w.heap.size,0,none⟩=some (.pointer (some ⟨rb,0,none⟩)))/\(∀q,q<19->W.cell? ⟨wB.heap.size,q,none⟩=some (.int .i64 ((ord19.getD q 0:Nat):Int)))/\(∀q,q<19->W.cell? ⟨g9,q,none⟩=some (.int .i64 (own.getD q 0))):=by
  intro W hW;refine⟨hW.cell (by omega) (Aa HI1 _ (VB _) (by omega)) c0E,fun q hq=> ?_,fun q hq=> ?_⟩
  . have:=(Aa HTE).cell q (by omega)
    rw[<-Aa HOZ,(X0 hq).1]at this;exact hW.cell (by omega) (Aa HI1 _ (by omega) (by omega)) this
  . have:=Aa HRO q (by rw[(Aa HOW).lo];exact hq)
    rw[WG]at this;exact hW.cell (by omega) (Aa HI1 _ (by omega) (by omega)) this
 have HCO:=Ab hCO;obtain⟨cE0,cE1,cE2⟩:=hCO wE (Kp.refl _ _);have HC1:=Ab cE1;have HC2:=Ab cE2;clear hCO cE1 cE2 cE0;obtain⟨M,hM⟩:∃M,W6 own 19=M:=⟨_,rfl⟩
 have hM2:4<=M/\M<=19:=by rw[<-hM];exact⟨MW own 19 (by decide),W5 own 19⟩
 have HM:=Ab hM;clear hM;go_upto_block 0 with (fail)
 go_cut [10] (fun v wc=>v=.int .i64 (M:Int)/\wE=wc)
 case first=>
  go_wp2;go_loop [10] (fun v=>∃k:Nat,4<=k/\k<=19/\v=.int .i64 (k:Int)/\Hid (W6 own k=M)) (fun v=>(intOf v).toNat)
  case atStart=>exact⟨19,by decide,by decide,rfl,HM⟩
  case round=>
   obtain⟨k,hk4,hk19,rfl,ht⟩:=hrel
   by_cases h4:4<k
   . obtain⟨q,rfl⟩:∃q,k=q+1:=⟨k-1,by omega⟩
     have d1:=Aa HC1 q (by omega);have ho:=(X0 (j:=q) (by omega)).2;have d2:=Aa HC2 _ ho;have h4I:(4:Int)<((q+1:Nat):Int):=by omega
     have i1:(((q+1:Nat):Int)-1).toNat=q:=by omega
     have i2:(0:Int)<=((q+1:Nat):Int)-1:=by omega
     have i3:((q+1:Nat):Int)-1<(19:Int):=by omega
     have hoI:((ord19.getD q 0:Nat):Int)<19:=by omega
     by_cases h0:own.getD (ord19.getD q 0) 0=0
     . rw[h0]at d2;have HT:Hid (W6 own q=M):=Ab (by have:=Aa ht;rw[W6,if_pos ⟨h4,h0⟩]at this;exact this);clear h0 ht;generalize ord19.getD q 0=oq at*;go_wp2;go_round
       case rel=>exact⟨q,by omega,by omega,by go_num,HT⟩
       case measure=>simp[intOf]
     . have HT:Hid (q+1=M):=Ab (by have:=Aa ht;rw[W6,if_neg (fun h=>h0 h.2)]at this;exact this);have hb:(own.getD (ord19.getD q 0) 0==0)=false:=by rw[beq_eq_false_iff_ne];exact h0
       generalize own.getD (ord19.getD q 0) 0=x at d2 hb;generalize ord19.getD q 0=oq at*;clear h0 ht;go_wp2;go_meet
       exact⟨by rw[<-Aa HT];go_num,rfl⟩
   . have HT:Hid (k=M):=Ab (by
      have:=Aa ht
      cases k with
      |zero=>rw[W6]at this;exact this
      |succ k=>rw[W6,if_neg (fun h=>h4 h.1)]at this;exact this)
     have h4I:¬(4:Int)<(k:Int):=by omega
     clear ht;go_wp2;go_meet
     exact⟨by rw[<-Aa HT],rfl⟩
 case rest=>
  obtain⟨rfl,rfl⟩:=hcut;have hrb:=(Aa HH).base;have hrl:=(Aa HH).lt;have P1:=Dp No1 B rb (n1-257) 5 S wE (Aa HRI) (by omega) (by decide) (by omega) (Aa HN1);rw[show ((n1-257:Nat):Int)=(n1:Int)-257 by omega]at P1;have HP1:=Ab P1;clear P1;go_wp2_with fail
  refine(Aa HP1).mono ?_;rintro e w1 ⟨rfl,q1⟩;have c01:=(Aa HCO w1 q1.kp).1;have P2:=Dp No1 B rb (n2-1) 5 (S++Al (n1-257) 5) w1 q1.is (by omega) (by decide) (by rw[VE,Ah];omega) (fun g hg=>Aa HN1 g (by have:=q1.below.size;omega));rw[show ((n2-1:Nat):Int)=(n2:Int)-1 by omega]at P2;have HP2:=Ab P2;have HQ1:=Ab q1;clear P2 q1 HP1;go_wp2_with fail
  refine(Aa HP2).mono ?_;rintro e w2 ⟨rfl,q2⟩;have q2':=(Aa HQ1).trans q2;have c02:=(Aa HCO w2 q2'.kp).1;have P3:=Dp No1 B rb (M-4) 4 (S++Al (n1-257) 5++Al (n2-1) 5) w2 q2'.is (by omega) (by decide) (by rw[VE,VE,Ah,Ah];omega) (fun g hg=>Aa HN1 g (by have:=q2'.below.size;omega));rw[show ((M-4:Nat):Int)=(M:Int)-4 by omega]at P3;have HP3:=Ab P3;have HQ2:=Ab q2';clear P3 q2 q2' HP2 c01;go_wp2_with fail
  refine(Aa HP3).mono ?_;rintro e w3 ⟨rfl,q3⟩;have q3':=(Aa HQ2).trans q3;obtain⟨S3,hS3⟩:∃S3,S++Al (n1-257) 5++Al (n2-1) 5++Al (M-4) 4=S3:=⟨_,rfl⟩
  rw[hS3]at q3';have hl3:S3.length=S.length+14:=by rw[<-hS3];simp[Ah]
  have HS3:=Ab hS3;have HQ3:=Ab q3';clear q3 q3' HP3 c02 hS3 HQ2 HQ1;go_wp2;go_loopw [52] (fun v wr=>∃k:Nat,k<=M/\v=.int .i64 (k:Int)/\Hid (Rp No1 B wE rb (S3++(ord19.take k).flatMap (fun j=>Al (own.getD j 0).toNat 3)) wr)) (fun v _=>M-(intOf v).toNat)
  case atStart=>exact⟨0,VH _,rfl,Ab (by simpa using Aa HQ3)⟩
  case round=>
   obtain⟨k,hk,rfl,hst⟩:=hrel;have hp:=Aa hst;obtain⟨d0,d1,d2⟩:=Aa HCO wr hp.kp
   by_cases hlt:k<M
   . have e1:=d1 k (by omega);have ho:=(X0 (j:=k) (by omega)).2;have e2:=d2 _ ho;have hv:=(Aa HOW).vo (ord19.getD k 0)
     have hstep:S3++(ord19.take (k+1)).flatMap (fun j=>Al (own.getD j 0).toNat 3)=S3++(ord19.take k).flatMap (fun j=>Al (own.getD j 0).toNat 3)++Al (own.getD (ord19.getD k 0) 0).toNat 3:=by
      have:ord19.take (k+1)=ord19.take k++ [ord19.getD k 0]:=by
       rw[XM];have hk2:k<ord19.length:=by show k<19;omega
       simp[List.getD,hk2]
      rw[this];simp
     have hlen:=Pb own (ord19.take k);have htk:(ord19.take k).length<=19:=by rw[VL];exact Nat.min_le_right _ _
     obtain⟨S4,hS4⟩:∃S4,S3++(ord19.take k).flatMap (fun j=>Al (own.getD j 0).toNat 3)=S4:=⟨_,rfl⟩
     have hl4:S4.length<=S.length+71:=by rw[<-hS4,VE,hlen];omega
     rw[hS4]at hstep hp;obtain⟨oq,hoq⟩:∃oq,ord19.getD k 0=oq:=⟨_,rfl⟩
     rw[hoq]at e1 ho e2 hv hstep;obtain⟨x,hx⟩:=WF hv.1;rw[hx]at e2 hv hstep;rw[WM]at hstep;have HPT:=Ab (fun j=>Dp No1 B rb x 3 S4 (wr.drewN j) (hp.is.drewN j) (by omega) (by decide) (by omega) (fun g hg=>Aa HN1 g (by have:=hp.below.size;have h2:wr.heap.size<=g:=hg;omega)));have HRD:=Ab (fun j=>hp.is.drew j);have HST:=Ab hstep;have HP:=Ab hp;have hoI:(oq:Int)<19:=by omega
     have hkI:(k:Int)<(M:Int):=by omega
     have hk19:(k:Int)<19:=by omega
     clear hst hp d1 d2 hstep hlen htk hS4 hoq hx hv;go_wp2;go_region_with (go_at_call 147;refine(Aa HPT _).mono ?_;rintro e w4 ⟨rfl,hR⟩;have HR:=Ab ((Aa HP).trans ((Aa HRD _).trans hR));clear hR)
     all_goals try go_wp2
     all_goals go_roundw
     all_goals first|exact⟨k+1,by omega,by go_num,Ab (by rw[Aa HST];exact Aa HR)⟩|(simp[intOf];omega)
   . obtain rfl:k=M:=by omega
     have hz3:=hp.below.size;have hCD:=Sp g9 0 rb 19 19 own wr (Aa HOW).lo (by decide) (by omega) (fun j hj=>by rw[WG];exact d2 j (by rw[<-(Aa HOW).lo];exact hj)) (Aa HOW).go;have HCD:=Ab hCD;have HP:=Ab hp;clear hst hp d1 d2 hCD;go_wp2_with fail
     refine(Aa HCD).mono ?_;rintro e wF ⟨gc,gl,gr,rfl,hC,hBF⟩;have hzF:=hBF.size;have c0F:wF.cell? ⟨w.heap.size,0,none⟩=some (.pointer (some ⟨rb,0,none⟩)):=(hBF.cell (p:=⟨w.heap.size,0,none⟩) (by show w.heap.size<_;omega)).trans d0;have HC:=Ab hC;have HBF:=Ab hBF;clear hC hBF d0 HCD;obtain⟨No2,hNo2⟩:∃No2:Nat->Prop,No2=fun g=>No1 g\/ (wr.heap.size<=g/\g<wF.heap.size+1):=⟨_,rfl⟩
     have hz2:wE.heap.size<=wr.heap.size:=hz3;obtain⟨SK,hSK⟩:∃SK,S3++(ord19.take k).flatMap (fun j=>Al (own.getD j 0).toNat 3)=SK:=⟨_,rfl⟩
     have hlK:SK.length<=278000:=by
      have h1:=Pb own (ord19.take k);have h2:(ord19.take k).length<=19:=by rw[VL];exact Nat.min_le_right _ _
      rw[<-hSK,VE,h1];omega
     have hgE:S++Rw l1 l2 own=SK++putRs own (lenIs all):=by
      unfold Rw;rw[Aa HL1,Aa HL2,Aa HALL,Aa HM,<-hSK,<-Aa HS3];simp[VS]
     rw[hSK]at HP;have HGE:=Ab hgE;have HRF:Hid (Row .i64 wF g6 0 all):=Ab (fun j hj=>(Aa HBF).cell (p:=⟨g6,_,none⟩) (by show g6<_;omega)|>.trans ((Aa HP).kp.cell (by omega) (Aa HI1 g6 (by omega) (by omega)) (Aa HRWE j hj)));have hBX:∀X:Obj,Below wr.heap.size wr (wF.alloc X):=fun X=>(Aa HBF).alloc (by omega) X
     have hJ0:LJ No2 B wF.heap.size w.heap.size gc gl gr rb (some ⟨g9,0,none⟩) 19 own SK [] (wF.alloc (.cells #[CV gc gl gr] 138)):=by
      refine⟨?_, ?_,by simp,(World.cell?_alloc_past _ _ _ (by show w.heap.size<_;omega)).trans c0F,⟨by simp, ?_⟩,⟨by simp;omega, ?_⟩, ?_⟩
      . have e:SK++putRs own []=SK:=by simp[putRs]
        rw[e];refine(Aa HP).is.grow (hBX _) (fun g e=> ?_);rw[hNo2]at e
        rcases e with e|e
        . exact .inl e
        . exact .inr e.1
      . refine((Aa HC).bound.keep (by simp) (fun g hg _=>Below.heap_alloc wF _ g hg)).more (fun g hb=> ?_);rw[hNo2]
        rcases hb with ⟨hb|hb,hb2⟩
        . exact .inr ⟨hb,by omega⟩
        . rw[hb];exact .inl (Aa HI1 g9 (by omega) (by omega))
      . rw[hNo2];exact .inr ⟨by omega,by omega⟩
      . rw[hNo2];exact .inl (Aa HI1 _ (VB _) (by omega))
      . intro g hg e;simp only[World.size_alloc]at hg;rw[hNo2]at e
        rcases e with e|e
        . exact Aa HN1 g (by omega) e
        . omega
     have hin2:No2 g6:=by rw[hNo2];exact .inl (Aa HI1 g6 (by omega) (by omega))
     have hle2:∀g,No1 g->No2 g:=fun g hg=>by rw[hNo2];exact .inl hg
     have HJ0:=Ab hJ0;have HIN2:=Ab hin2;have HLE2:=Ab hle2;have HBX:=Ab hBX;clear hNo2 hJ0 hin2 hle2 hBX hSK hgE;go_wp2_with fail
     refine(Ja _ _ _ _ g6 0 N c6 all _ (Z09 No2 B wF.heap.size w.heap.size gc gl gr rb (some ⟨g9,0,none⟩) 19 own SK all (Aa HOW) (by rw[Aa HAL,Aa HN];omega) (by omega)) (by rw[Aa HAL,Aa HN]) (by omega) hcA (Aa HX) ?_ (Aa HJ0)).mono ?_
     . intro W hW j hj;exact hW.2.cell (by simp;omega) (Aa HIN2) ((World.cell?_alloc_past _ _ _ (by show g6<_;omega)).trans (Aa HRF j hj))
     rintro e wG ⟨rfl,hJG,hBG,hKG⟩
     have HFIN:Hid (Rp No B w rb (S++Rw l1 l2 own) wG):=by
      have hz4:=hBG.size;simp only[World.size_alloc]at hz4;refine⟨?_, ?_, ?_⟩
      . rw[Aa HGE];exact hJG.row.grow (Below.refl _ _) (fun g e=>.inl (Aa HLE2 g (Aa HE1 g e)))
      . exact((Aa HBE).mono (by omega)).trans ((Aa HP).below.trans (((Aa HBX _).mono (by omega)).trans hBG))
      . intro g hg hn;have h1:=Aa HE1 g hn;rw[hKG g (by simp;omega) (Aa HLE2 g h1),(Aa HBX _).block g (by omega),(Aa HP).kp g (by omega) h1];exact(Aa HBE).block g hg
     clear hJG hBG hKG;go_wp2;go_end0
     exact⟨rfl,Aa HOW,Aa HFIN⟩
end Go.Proofs.YtleocpdblhbimaaGreatDoor
