import Derived.Test.YtleocpdblhbimaaGreatDoorQ27
import Derived.Laws.CopyRow
set_option linter.unusedSimpArgs false
set_option maxHeartbeats 4000000
namespace Go.Proofs.YtleocpdblhbimaaGreatDoor
open Go.RowKit
set_option linter.unusedVariables false
theorem Sx {w w':World}(h:Below w.heap.size w w')(r:Option Nat):w.grownBy w' r:=⟨h.os,h.tape,h.output,h.size,fun i hi _=>h.block i hi⟩
theorem StSt.grown {w W W':World}{g m:Nat}{Ws:List Int}{k:Nat}{A B:Nat->Nat}{r:Nat}(h:StSt w W g m Ws k A B)(hg:W.grownBy W' (some r))(hr:r<w.heap.size):
 (∀i,i<k->W'.cell? ⟨g,i*2,none⟩=some (.slice (some ⟨A i,0,none⟩) (rowAt Ws i).length (rowAt Ws i).length)/\W'.cell? ⟨g,i*2+1,none⟩=some (.slice (some ⟨B i,0,none⟩) (rowAt Ws i).length (rowAt Ws i).length))/\(∀i,i<k->BRow W' (B i) ((rowAt Ws i).map Prod.snd)):=by
 have hgl:=h.glo;refine⟨fun i hi=>⟨hg.cell (h.done i hi).1 (by simp;omega),hg.cell (h.done i hi).2 (by simp;omega)⟩,fun i hi=> ?_⟩;obtain⟨q1,q2,q3⟩:=h.fs i hi;exact q3.grown hg (by simp;omega)
set_option maxRecDepth 100000 in
theorem DD (a:Option Addr)(len cap:Nat)(l:List Int)(m:Nat)(w:World)(hl:l.length=len)(hR:RowIn .i64 w a l)(hG:GoodW l m):
 Calls Tryz.prog 241 #[.slice a len cap,.int .i64 m] w fun e w'=>∃g s,e=.returned (.tuple #[.slice (some ⟨g,0,none⟩) len len,.int .i64 0])/\IsLens l m s/\s.length=len/\WRow w' g s/\Below w.heap.size w w'/\w.heap.size<=g:=by
 obtain⟨i0,hi,hz0,hz1,hz2⟩:=info_parts Cc;have hlen:=hG.len;have hm1:=hG.lo;have hm15:=hG.hi;have HG:=Ab hG;have HR:=Ab hR;have HL:=Ab hl;have HC0:=BL a len cap l m w hl (by omega) hR;rw[LE hG]at HC0;have HC:=Ab HC0;clear hR hG HC0;go_enter Tryz.func241,Tryz.ntmps241
 go_wp2_with fail
 refine(Aa HC).mono ?_;rintro e w1 ⟨rfl,rfl⟩;clear HC;go_wp2_with (at_make;refine wpList_make_full _ rfl _ _ 76 rfl w1.heap.size 3 i0 (.int .i64 0) 1 Tryz.underlying76 hi hz0 hz1 _ _ _ _ len rfl rfl rfl rfl (by rw[hz2];omega) (by unfold maxLen;omega) (by simp) ?_)
 intro w2 hown hgrow;have e0:(madeCells #[Value.int .i64 0] len).toList=iv (List.replicate len 0):=Qw len;rw[e0]at hown;have HW:=Ab (WRow.own hown);have HB:=Ab ((Below.refl w1.heap.size w1).grown hgrow (VC _) (fun j h=>by cases h));clear hown hgrow e0;obtain⟨g0,hg0⟩:∃g0,w1.heap.size=g0:=⟨_,rfl⟩
 rw[hg0]at HW;rw[hg0];have HG0:=Ab hg0;have hg2:=(Aa HW).lt;clear hg0;go_wp2_with fail
 refine(CJ a len cap l w2 hl (by omega) ((Aa HR).below (Aa HB) (VC _))).mono ?_;rintro e w3 ⟨vP,P,rfl,hRi,hB3,hP⟩;have HRi:=Ab hRi;have hPlt:=hRi.lt;have hPlen:=hRi.length;have hwle:=Pq l l.length;have HB3:=Ab ((Aa HB).trans (hB3.mono (Aa HB).size));have HW3:=Ab ((Aa HW).below hB3 (Aa HW).lt);have hz3:=hB3.size;have HPlt:=Ab hPlt;have HPlen:=Ab hPlen;have hP288:P.length<=288:=by omega
 clear hRi hPlt hB3 HW HB
 rcases hP with ⟨rfl,rfl⟩|⟨gP,cP,rfl,hcP,hcm,hgP,hWP⟩
 . 
   go_wp2_with fail
   refine(Iw g0 len len (List.replicate len 0) none 0 0 [] w3 (by simp) rfl (by omega) (by omega) (Aa HW3) (.inl rfl) (fun b o h=>by cases h) (fun p h=>by cases h) (fun j=>by by_cases h:j<len<;>simp[List.getD,h])).mono ?_;rintro e w4 ⟨rfl,hW4,hg4⟩;have HW4:=Ab hW4;have HB4:Hid (Below w1.heap.size w1 w4):=(Aa HB3).grown hg4 (Aa HB3).size (fun j h=>by cases h;exact ZM (Aa HG0));clear hW4 hg4;go_wp2;go_ret2;exact⟨g0,_,rfl,⟨[],Aa HRi,by unfold Cg;rw[if_pos (by simp),hl]⟩,by rw[Bp];simp,Aa HW4,Aa HB4,ZM (Aa HG0)⟩
 . have HWP:=Ab hWP;have hgPlt:=hWP.lt;clear hWP;obtain⟨N,hN⟩:∃N,P.length=N:=⟨_,rfl⟩
   rw[hN]at hcP hP288;rw[hN];have HN:=Ab hN;clear hN hPlen
   by_cases h2:N<2
   . 
     have h2I:(N:Int)<2:=by omega
     have HLn:=Ab (Iw g0 len len (List.replicate len 0) (some ⟨gP,0,none⟩) N cP P w3 (by simp) (Aa HN) (by omega) (by omega) (Aa HW3) (Aa HWP).row (fun b o h=>by cases h;omega) (fun p hp=>by have:=Aa HPlt p hp;omega) (fun j=>by by_cases h:j<len<;>simp[List.getD,h]));go_wp2_with fail
     refine(Aa HLn).mono ?_;rintro e w4 ⟨rfl,hW4,hg4⟩;have HW4:=Ab hW4;have HB4:Hid (Below w1.heap.size w1 w4):=(Aa HB3).grown hg4 (Aa HB3).size (fun j h=>by cases h;exact ZM (Aa HG0));clear hW4 hg4;go_wp2;go_ret2;exact⟨g0,_,rfl,⟨P,Aa HRi,by unfold Cg;rw[if_pos (by rw[Aa HN];exact h2),hl]⟩,by rw[Bp];simp,Aa HW4,Aa HB4,ZM (Aa HG0)⟩
   . have h2I:¬(N:Int)<2:=by omega
     have HWt:=Ab (Vh a len cap l (some ⟨gP,0,none⟩) N cP P w3 hl (Aa HN) (by omega) (by omega) ((Aa HR).below (Aa HB3) (VC _)) (Aa HWP).row (fun p hp=>by have:=Aa HPlt p hp;omega));go_wp2_with fail
     refine(Aa HWt).mono ?_;rintro e w4 ⟨gw,rfl,hWw,hB4,hgw⟩;have HWw:=Ab hWw;have hz4:=hB4.size;have HB4:=Ab ((Aa HB3).trans (hB4.mono (Aa HB3).size));have HW4:=Ab ((Aa HW3).below hB4 (Aa HW3).lt);have HWP4:=Ab ((Aa HWP).below hB4 (Aa HWP).lt)
     have hWsb:∀x∈(P.map fun p=>l.getD p 0),0<=x/\x<=1000000:=by
      intro x hx;obtain⟨p,hp,rfl⟩:=XC.1 hx;exact(Aa HG).ok p (Aa HPlt p hp)
     have HWsb:=Ab hWsb;have HLO:Hid (Cg l P m=Em len P (P.map fun p=>l.getD p 0) m m):=by unfold Hid Cg;rw[if_neg (by rw[Aa HN];exact h2),hl]
     have HWl:Hid ((P.map fun p=>l.getD p 0).length=N):=by rw[WG];exact HN
     have HRoom:Hid (N<=2^m):=by have h:=(Aa HG).room;rw[<-Aa HPlen,Aa HN]at h;exact h
     clear hWw hB4 hWsb HW3 HWP HB3 HWt;generalize (P.map fun p=>l.getD p 0)=Ws at*;have HSs:=Ab (K8 gw N N m Ws w4 (Aa HWl) (by omega) (VC _) (by unfold maxLen;omega) hm15 (Aa HWsb) (Aa HWw));go_wp2_with fail
     refine(Aa HSs).mono ?_;rintro e w5 ⟨gs,A,B,rfl,hSt⟩;have HSt:=Ab hSt;have HW5:=Ab ((Aa HW4).below hSt.bel (by omega));have HWP5:=Ab ((Aa HWP4).below hSt.bel (by omega));have HB5:=Ab ((Aa HB4).trans (hSt.bel.mono (Aa HB4).size));have hz5:=hSt.bel.size;have E0:Hid (2*((N:Int)-1)=((Cf Ws m 0:Nat):Int)):=by unfold Hid;rw[Cf,Aa HWl];omega
     clear hSt HW4 HWP4 HB4 HWw HSs;unfold maxLen at hcm;go_wp2;go_loopw [10,11,12,41] (fun vt _ _ vi wr=>∃i:Nat,i<=m/\vi=.int .i64 i/\vt=.int .i64 ((Cf Ws m i:Nat):Int)/\w5.grownBy wr (some g0)/\WRow wr g0 (Em len P Ws m i)) (fun _ _ _ vi _=>m-(intOf vi).toNat)
     case atStart=>exact⟨0,VK _,rfl,congrArg (Value.int .i64) (Aa E0),Au _ _,Aa HW5⟩
     case round=>
      obtain⟨i,him,rfl,rfl,hgr,hWi⟩:=hrel;have HGr:=Ab hgr;have HWi:=Ab hWi
      by_cases hlt:i<m
      . obtain⟨q,hq⟩:∃q,q=m-1-i:=⟨_,rfl⟩
        obtain⟨hcells,hfs⟩:=(Aa HSt).grown hgr (by omega);have c0:=(hcells q (by omega)).1;have c1:=(hcells q (by omega)).2;have HFq:=Ab (hfs q (by omega));have HWPi:=Ab ((Aa HWP5).grown hgr (by simp;omega));have hW1:1<=Ws.length:=by rw[Aa HWl];omega
        have hTL:=Ky Ws m hW1 hm1 (by rw[Aa HWl];exact Aa HRoom) i hlt;have hAT:=Nw Ws m i;have hAN:=Vf Ws m i;rw[Aa HWl]at hAN
        have hEA:Ib ((rowAt Ws q).map Prod.snd) (Cf Ws m i)=Bf Ws m i:=by
         unfold Bf;rw[<-hq];rw[<-hq]at hTL;exact(Nv _ _ hTL).symm
        have HEA:=Ab hEA;rw[<-hq]at hTL;have hrl:=Im Ws q;rw[Aa HWl]at hrl;have HT:Hid (Cf Ws m (i+1)=2*(Cf Ws m i-Bf Ws m i)):=rfl;have HLs:Hid (Em len P Ws m (i+1)=Ce (Em len P Ws m i) (P.take (Bf Ws m i))):=rfl;have HBd:=Ab (Ns len P Ws m (by rw[Aa HN];omega) i);have HLl:=Ab (Du len P Ws m i);have HFl:Hid (((rowAt Ws q).map Prod.snd).length=(rowAt Ws q).length):=by unfold Hid;simp
        have ea:((m:Int)-1-(i:Int)).toNat=q:=by omega
        have pa:(0:Int)<=(m:Int)-1-(i:Int):=by omega
        have ba:(m:Int)-1-(i:Int)<(m:Int):=by omega
        clear hgr hWi hcells hfs hEA hq;generalize Cf Ws m i=T at*;generalize Bf Ws m i=al at*;generalize (rowAt Ws q).length=Lq at*;generalize (rowAt Ws q).map Prod.snd=fs at*;generalize Em len P Ws m i=li at*;generalize A q=Aq at*;generalize B q=Bq at*;have HAl:=Ab (Tg (.slice (some ⟨Aq,0,none⟩) Lq Lq) rfl Bq Lq Lq T fs wr (Aa HFl) hTL (by omega) (Aa HFq));go_wp2_with fail
        refine(Aa HAl).mono ?_;rintro e w6 ⟨rfl,hB6⟩;rw[Aa HEA];have HGr6:=Ab (Ak (Aa HGr) (Sx hB6 (some g0)));have HWi6:=Ab ((Aa HWi).below hB6 (Aa HWi).lt);have HWP6:=Ab ((Aa HWPi).below hB6 (Aa HWPi).lt)
        have hpt:RowIn .i64 w6 (some ⟨gP,0,none⟩) (ni (P.take al)):=.inr ⟨gP,0,rfl,(Aa HWP6).lt,fun j hj=>by
         have hj':j<al/\j<P.length:=by simp at hj;omega
         rw[WI,((Aa HWP6).at_ j (by simpa using hj'.2)).1];simp[List.getD,hj'.1,hj'.2]⟩
        have HLn:=Ab (Iw g0 len len li (some ⟨gP,0,none⟩) al cP (P.take al) w6 (Aa HLl) (by rw[VM,Aa HN];omega) (by omega) (by omega) (Aa HWi6) hpt (fun b o h=>by cases h;omega) (fun p hp=>by have:=Aa HPlt p (VO hp);omega) (fun j=>by have:=Aa HBd j;omega));have hal:(al:Int)<=(cP:Int):=by omega
        have halN:al<=N:=hAN;clear hB6 hpt HAl c0 c1 ea pa ba;go_wp2_with fail
        refine(Aa HLn).mono ?_;rintro e w7 ⟨rfl,hW7,hg7⟩;have HW7:=Ab hW7;have HG7:=Ab (Ak (Aa HGr6) hg7);clear hW7 hg7 HLn;go_wp2;go_roundw
        case rel=>exact⟨i+1,by omega,by go_num,by rw[Aa HT];go_num,Aa HG7,by rw[Aa HLs];exact Aa HW7⟩
        case measure=>simp[intOf];omega
      . obtain rfl:i=m:=by omega
        have HBf:Hid (Below w1.heap.size w1 wr):=(Aa HB5).grown hgr (Aa HB5).size (fun j h=>by cases h;exact ZM (Aa HG0));clear hgr hWi;go_wp2;go_ret2;exact⟨g0,_,rfl,⟨P,Aa HRi,(Aa HLO).symm⟩,Du _ _ _ _ _,Aa HWi,Aa HBf,ZM (Aa HG0)⟩
end Go.Proofs.YtleocpdblhbimaaGreatDoor
namespace Go.Proofs.YtleocpdblhbimaaGreatDoor
open Go.RowKit
set_option linter.unusedVariables false
set_option maxRecDepth 100000
theorem O7:(Tryz.prog.info? 297).map (·.size)=some 286:=by kernel_rfl
theorem KP:(Tryz.prog.info? 298).map (·.size)=some 30:=by kernel_rfl
theorem MK (a:Option Addr)(len cap:Nat)(ts:List Tk)(w:World)(hl:ts.length=len)(hlen:len<=3000)(hV:∀t∈ts,VT t)(hT:TokIn w a ts):
 Calls Tryz.prog 211 #[.slice a len cap] w fun e w'=>e=.returned (.tuple #[.agg (iv (symC (itsOf ts))).toArray,.agg (iv (farC (itsOf ts))).toArray])/\Below w.heap.size w w':=by
 have hTn:∀b o,a=some ⟨b,o,none⟩->ts≠ []->b<w.heap.size:=by
  intro b o e hne
  rcases hT with h|⟨b',o',h1,h2,_⟩
  . exact absurd h hne
  . rw[h1]at e;have:=VQ e;cases this;exact h2
 have HT:=Ab hT;have HV:=Ab hV;have HL:=Ab hl;clear hT hV hl;go_enter Tryz.func211,Tryz.ntmps211
 go_wp2_with fail
 have hi:=Ft ts;refine(Y3 (KJ w.heap.size w.heap.size (w.heap.size+1)) (fun g=>g<w.heap.size) w.heap.size 238 239 240 #[.pointer (some ⟨w.heap.size,0,none⟩)] #[.pointer (some ⟨w.heap.size+1,0,none⟩)] #[] a len cap ts _ (ML w.heap.size w.heap.size (w.heap.size+1) (itsOf ts) (Hr (Aa HV)) (by rw[Aa HL]at hi;omega)) (Aa HL) hlen (Aa HV) ((Aa HT).alloc _|>.alloc _) hTn (by simp;omega) ?_ (fun g hg=>by simp at hg;omega)).mono ?_
 . refine⟨⟨by omega,by omega⟩,by omega,⟨by omega,by omega⟩, ?_, ?_⟩
   . exact(Below.heap_alloc _ _ _ (by simp)).trans ((heap_alloc_new _ _).trans (by kernel_rfl))
   . have e:w.heap.size+1=(w.alloc (.cells (iv (List.replicate 286 0)).toArray 297)).heap.size:=by simp
     rw[e];exact(heap_alloc_new _ _).trans (by kernel_rfl)
 rintro e w1 ⟨rfl,hJ,hB,hK⟩;have hs:=hJ.s;have hf:=hJ.f;have hBw:Below w.heap.size w w1:=((((Below.refl w.heap.size w).alloc (VC _) _).alloc (by simp) _)).trans hB;have HB:=Ab hBw;have hls:=La (itsOf ts);have hlf:=Me (itsOf ts);clear hJ hB hK hTn hBw hi;obtain⟨xs,hxs⟩:∃xs,symC (itsOf ts)=xs:=⟨_,rfl⟩
 obtain⟨ys,hys⟩:∃ys,farC (itsOf ts)=ys:=⟨_,rfl⟩
 rw[hxs]at hs hls;rw[hys]at hf hlf;have HXS:=Ab hxs;have HYS:=Ab hys;clear hxs hys;have hi1:(Tryz.prog.info? 297).map (·.size)=some (iv xs).length:=by rw[O7];simp[hls]
 have hi2:(Tryz.prog.info? 298).map (·.size)=some (iv ys).length:=by rw[KP];simp[hlf]
 have hi1':(Tryz.prog.info? 297).map (·.size)=some (iv xs).toArray.size:=by rw[O7];simp[hls]
 have hi2':(Tryz.prog.info? 298).map (·.size)=some (iv ys).toArray.size:=by rw[KP];simp[hlf]
 have hu1:=Tryz.underlying297;have hu2:=Tryz.underlying298;go_wp2;refine wp_region_held_drew (S:=fun w'=>ARow 297 w' w.heap.size xs/\ARow 298 w' (w.heap.size+1) ys) (by kernel_rfl) ⟨hs,hf⟩ (fun hHeld=> ?_);refine wpAnyH_take (i:=0) (oi:= {dst:=some 9,op:=.load 297 (.tmp 2),type:=297,pos:= "dynamic.go:71",after:= #[],guard:=none}) (v:=_) rfl (by kernel_rfl) (by kernel_rfl) (by kernel_rfl) (fun _ _ _ h=>h) (yieldsIf_load_mid (by rfl) _ _ rfl _ _ rfl _ _ (fun _ h=>h.1.range) hu1 rfl hi1) hHeld ?_;simp only[Act.put,VA,VD,VE];refine wpAnyH_take (i:=1) (oi:= {dst:=some 10,op:=.load 298 (.tmp 3),type:=298,pos:= "dynamic.go:71",after:= #[],guard:=none}) (v:=_) rfl (by kernel_rfl) (by kernel_rfl) (by kernel_rfl) (fun _ _ _ h=>h) (yieldsIf_load_mid (by rfl) _ _ rfl _ _ rfl _ _ (fun _ h=>h.2.range) hu2 rfl hi2) hHeld ?_;simp only[Act.put,VA,VD,VE];refine wpAnyH_ready (rs:= [2]) (by kernel_rfl) (by simp) (AllReadyH.cons rfl (fun K hK=> ?_) AllReadyH.nil);refine Dt rfl 297 (.tmp 2) (.tmp 9) rfl w.heap.size xs rfl rfl hHeld.1 hi1' ?_;simp only[Act.put];refine hK.out _ _ hHeld (fun hHeld1=> ?_);clear hK K hHeld;refine wpAnyH_ready (rs:= [3]) (by kernel_rfl) (by simp) (AllReadyH.cons rfl (fun K hK=> ?_) AllReadyH.nil);refine Dt rfl 298 (.tmp 3) (.tmp 10) rfl (w.heap.size+1) ys rfl rfl hHeld1.2 hi2' ?_;simp only[Act.put];refine hK.out _ _ hHeld1 (fun hHeld2=> ?_);clear hK K hHeld1;refine wpAnyH_done (by kernel_rfl) ?_ _;go_wp2;refine bodyPost_ret (v:=.tuple #[.agg (iv xs).toArray,.agg (iv ys).toArray]) ?_ rfl ⟨by rw[Aa HXS,Aa HYS],(Aa HB).drew⟩;exact Lf rfl _ _ w.heap.size (w.heap.size+1) _ _ rfl rfl (hHeld2.1.load hu1 rfl hi1') (hHeld2.2.load hu2 rfl hi2')
theorem Hq (a:Option Addr)(len cap:Nat)(l:List Int)(m least:Nat)(w:World)(hl:l.length=len)(hR:RowIn .i64 w a l)(hG:GoodW l m)(hle:least<=len)(n:Nat)(hn:Hid (Gi (lensD l m) least len=n)):
 Calls Tryz.prog 212 #[.slice a len cap,.int .i64 (m:Int),.int .i64 (least:Int)] w fun e w'=>∃g,e=.returned (.slice (some ⟨g,0,none⟩) n len)/\IsLens l m (lensD l m)/\w.heap.size<=g/\g<w'.heap.size/\Row .i64 w' g 0 (trimL (lensD l m) least)/\Below w.heap.size w w':=by
 have hlen:=hG.len;go_enter Tryz.func212,Tryz.ntmps212
 go_wp2_with fail
 refine(DD a len cap l m w hl hR hG).mono ?_;rintro e w1 ⟨g,s,rfl,hI,hs,hW,hB,hg⟩;have hD:=QY hI;rw[hD]at hn;have HI:Hid (IsLens l m (lensD l m)):=Ab (by rw[hD];exact hI);have HD:=Ab hD;have HW:=Ab hW;have HB:=Ab hB;have HS:=Ab hs;have hrow:∀j,j<len->w1.cell? ⟨g,j,none⟩=some (.int .i64 (s.getD j 0)):=fun j hj=>(hW.at_ j (by omega)).1
 have HRW:=Ab hrow;have hgl:=hW.lt
 have HTR:Hid (Row .i64 w1 g 0 (trimL (lensD l m) least)):=fun j hj=>by
  rw[WI,hD,Ol];refine hrow j ?_;rw[hD,Bz]at hj;have:=Jj s least s.length
  omega
 clear hI hD hW hB hs hR hG hrow;go_wp2;go_loop [9] (fun v=>∃k:Nat,k<=len/\least<=k/\v=.int .i64 (k:Int)/\Hid (Gi s least k=n)) (fun v=>(intOf v).toNat)
 case atStart=>exact⟨len,VC _,hle,rfl,hn⟩
 case round=>
  obtain⟨k,hk,hk2,rfl,ht⟩:=hrel
  by_cases h1:least<k
  . obtain⟨q,rfl⟩:∃q,k=q+1:=⟨k-1,by omega⟩
    have c:=Aa HRW q (by omega);have h1I:(least:Int)<((q+1:Nat):Int):=by omega
    have i1:(((q+1:Nat):Int)-1).toNat=q:=by omega
    have i2:(0:Int)<=((q+1:Nat):Int)-1:=by omega
    have i3:((q+1:Nat):Int)-1<(len:Int):=by omega
    by_cases h0:s.getD q 0=0
    . rw[h0]at c;have HT:Hid (Gi s least q=n):=Ab (by have:=Aa ht;rw[Gi,if_pos ⟨h1,h0⟩]at this;exact this);clear h0 ht;go_wp2;go_round
      case rel=>exact⟨q,by omega,by omega,by go_num,HT⟩
      case measure=>simp[intOf]
    . have HT:Hid (q+1=n):=Ab (by have:=Aa ht;rw[Gi,if_neg (fun h=>h0 h.2)]at this;exact this);have hb:(s.getD q 0==0)=false:=by rw[beq_eq_false_iff_ne];exact h0
      generalize s.getD q 0=x at c hb;clear h0 ht;go_wp2;go_ret;exact⟨g,by rw[<-Aa HT];rfl,Aa HI,hg,hgl,Aa HTR,Aa HB⟩
  . have HT:Hid (k=n):=Ab (by
     have:=Aa ht
     cases k with
     |zero=>rw[Gi]at this;exact this
     |succ k=>rw[Gi,if_neg (fun h=>h1 h.1)]at this;exact this)
    have h1I:¬(least:Int)<(k:Int):=by omega
    clear ht;go_wp2;go_ret;exact⟨g,by rw[<-Aa HT];rfl,Aa HI,hg,hgl,Aa HTR,Aa HB⟩
theorem Y2 (No:Nat->Prop)(B rb:Nat)(a:Option Addr)(len cap:Nat)(ts:List Tk)(S:List Bool)(b1 o1 n1 c1 b2 o2 n2 c2:Nat)(l1 l2:List Int)(gc gl gr hc hl hr:Nat)(w0 W w3:World)(h:RIs No B w0 rb S)(hz:w0.heap.size<=W.heap.size)(hB3:Below w0.heap.size w0 w3)
 (hC1:CIs (fun g=>W.heap.size<=g\/g=b1\/g=b2) w3 gc gl gr rb (some ⟨b1,o1,none⟩) n1 c1 l1) (hC2:CIs (fun g=>W.heap.size<=g\/g=b1\/g=b2) w3 hc hl hr rb (some ⟨b2,o2,none⟩) n2 c2 l2)
 (hb1:No b1\/w0.heap.size<=b1) (hb2:No b2\/w0.heap.size<=b2) (hl1:l1.length=n1) (hl2:l2.length=n2) (hG1:Good l1) (hG2:Good l2) (hH:Has l1 l2 (itsOf ts))
 (htl:ts.length=len) (hlen:len<=3000) (hV:∀t∈ts,VT t) (hT:TokIn w0 a ts) (hTn:∀b o,a=some ⟨b,o,none⟩->ts≠ []->No b) (hNo:∀g,w0.heap.size<=g->¬No g) (hS:S.length+60*len<=280000):
 Calls Tryz.prog 181 #[.slice a len cap,.agg #[CV gc gl gr,CV hc hl hr,.func (.func 147) #[.pointer (some ⟨rb,0,none⟩)] #[]]] w3 fun e w'=>e=.returned (.tuple #[])/\Rp No B w0 rb (S++putIs l1 l2 (itsOf ts)) w':=by
 have hz3:=hB3.size;have hi:=Ft ts;have hlt:=h.lt;have hba:=h.base;have hK:=Z11 (fun g=>(W.heap.size<=g\/g=b1\/g=b2)/\g<w3.heap.size) B rb S l1 l2 gc gl gr hc hl hr b1 o1 n1 c1 b2 o2 n2 c2 (itsOf ts) hl1 hl2 hG1 hG2 hH (Hr hV) (by omega)
 have hJ:PJ (fun g=>(W.heap.size<=g\/g=b1\/g=b2)/\g<w3.heap.size) B rb S l1 l2 gc gl gr hc hl hr b1 o1 n1 c1 b2 o2 n2 c2 No [] w3:=by
  refine⟨?_,hC1.bound,hC2.bound,fun g hg=>hg.2⟩;have e:S++putIs l1 l2 []=S:=by simp[putIs]
  rw[e];refine h.grow hB3 (fun g e=> ?_)
  rcases e with e|⟨e|e|e,_⟩
  . exact .inl e
  . exact .inr (by omega)
  . rw[e];exact hb1
  . rw[e];exact hb2
 refine(Y3 _ No B _ _ _ _ _ _ a len cap ts w3 hK htl hlen hV (hT.below hB3 (VC _)) hTn (by omega) hJ (fun g hg=>hNo g (by omega))).mono ?_;rintro e w' ⟨rfl,hJ',hB',hK'⟩;refine⟨rfl,hJ'.row.grow (Below.refl _ _) (fun g e=>.inl (.inl e)),(hB3.mono (by omega)).trans hB',fun g hg hn=>(hK' g (by omega) hn).trans (hB3.block g hg)⟩
theorem LP {ts:List Tk}(hV:∀t∈ts,VT t):Has Mb Ja (itsOf ts):=by
 have hi:=Hr hV;refine⟨fun k hk=> ?_,fun k hk=> ?_⟩
 . have h:k<286:=hi _ hk;refine⟨by rw[Pj];omega, ?_⟩;rw[LQ (by omega)]
   split
   . decide
   . split
     . decide
     . split<;>decide
 . have h:k<30:=hi _ hk;exact⟨by rw[Ge];omega,by rw[P7 (by omega)];decide⟩
theorem Zh (No:Nat->Prop)(B rb:Nat)(a:Option Addr)(len cap:Nat)(ts:List Tk)(S:List Bool)(w:World)(h:RIs No B w rb S)(htl:ts.length=len)(hlen:len<=3000)(hV:∀t∈ts,VT t)(hT:TokIn w a ts)(hTn:∀b o,a=some ⟨b,o,none⟩->ts≠ []->No b)(hNo:∀g,w.heap.size<=g->¬No g)(hS:S.length+60*len<=280000):
 Calls Tryz.prog 150 #[.pointer (some ⟨rb,0,none⟩),.slice a len cap] w fun e w'=>e=.returned (.tuple #[])/\Rp No B w rb (S++Ez ts) w':=by
 have HP:=Ab (fun(W w3:World) (gc gl gr hc hl hr b1 b2:Nat) hz hB3 hC1 hC2 hb1 hb2=>Y2 No B rb a len cap ts S b1 0 288 288 b2 0 32 32 Mb Ja gc gl gr hc hl hr w W w3 h hz hB3 hC1 hC2 hb1 hb2 Pj Ge Rl Rk (LP hV) htl hlen hV hT hTn hNo hS);obtain⟨FA,hFA⟩:∃FA,Mb=FA:=⟨_,rfl⟩
 obtain⟨FB,hFB⟩:∃FB,Ja=FB:=⟨_,rfl⟩
 have hlA:=Pj;have hlB:=Ge;have hgA:=Rl;have hgB:=Rk;have HF:=Ab (LM w);have hE:Ez ts=putIs FA FB (itsOf ts):=by unfold Ez;rw[hFA,hFB]
 rw[hE];simp only[hFA,hFB]at HP HF hlA hlB hgA hgB;have HGA:=Ab hgA;have HGB:=Ab hgB;clear h hV hT hTn hNo hFA hFB hE hgA hgB;have hi1:(Tryz.prog.info? 247).map (·.size)=some (iv FA).toArray.size:=by rw[O5];simp[hlA]
 have hi2:(Tryz.prog.info? 248).map (·.size)=some (iv FB).toArray.size:=by rw[KO];simp[hlB]
 go_enter Tryz.func150,Tryz.ntmps150
 go_wp2_with fail
 refine(Aa HF).mono ?_;rintro e w1 ⟨rfl,hB1⟩;have hz1:=hB1.size;have HB1:=Ab hB1;clear hB1;have A1:((w1.alloc (.cells (iv (List.replicate 288 0)).toArray 247)).alloc (.cells (iv (List.replicate 32 0)).toArray 248)).heap[w1.heap.size]? =some (.cells (iv (List.replicate 288 0)).toArray 247 (0,0)):=(Below.heap_alloc _ _ _ (by simp)).trans (heap_alloc_new _ _)
 have A2:(((w1.alloc (.cells (iv (List.replicate 288 0)).toArray 247)).alloc (.cells (iv (List.replicate 32 0)).toArray 248)).setRow w1.heap.size (iv FA).toArray).heap[w1.heap.size+1]? =some (.cells (iv (List.replicate 32 0)).toArray 248 (0,0)):=by
  rw[Go.setRow_other _ _ _ _ (by omega)];have e:w1.heap.size+1=(w1.alloc (.cells (iv (List.replicate 288 0)).toArray 247)).heap.size:=by simp
  rw[e];exact heap_alloc_new _ _
 have HA1:=Ab A1;have HA2:=Ab A2;have HT:=Ab (fun x y=>Mt w w1 x y 247 248 FA FB (Aa HB1) (by simp));clear A1 A2;go_upto_region 1 with (first|refine wpList_store_row rfl 247 (.tmp 4) (.tmp 8) rfl w1.heap.size _ rfl rfl 247 (iv (List.replicate 288 0)).toArray (Aa HA1) hi1 (by simp[hlA]) (Eb FA) ?_|refine wpList_store_row rfl 248 (.tmp 5) (.tmp 9) rfl (w1.heap.size+1) _ rfl rfl 248 (iv (List.replicate 32 0)).toArray (Aa HA2) hi2 (by simp[hlB]) (Eb FB) ?_)
 simp only[Act.put];generalize hW2:World.setRow (World.setRow (World.alloc (World.alloc _ _) _) _ _) _ _=W2;have t1:ARow 247 W2 w1.heap.size FA:=by rw[<-hW2];exact(Aa HT _ _).1
 have t2:ARow 248 W2 (w1.heap.size+1) FB:=by rw[<-hW2];exact(Aa HT _ _).2.1
 have t3:Below w.heap.size w W2:=by rw[<-hW2];exact(Aa HT _ _).2.2
 have hzW:=t3.size;have HPT:=Ab (fun k=>Ug w1.heap.size 0 288 288 (w1.heap.size+1) 0 32 32 rb FA FB (W2.drewN k) hlA hlB (by decide) (by decide) t1.lt t2.lt t1.row t2.row (Aa HGA) (Aa HGB));have HT3:=Ab t3;clear hW2 HT HA1 HA2 t1 t2 t3;go_region_with (first|(go_at_call 182;refine(Aa HPT _).mono ?_;rintro e w3 ⟨gc,gl,gr,hc,hl,hr,rfl,hC1,hC2,hB3⟩;have HC1:=Ab hC1;have HC2:=Ab hC2;have HB3:=Ab hB3;clear hC1 hC2 hB3)|(go_at_call 181;refine(Aa HP W2 w3 gc gl gr hc hl hr w1.heap.size (w1.heap.size+1) hzW ((Af (Aa HT3) _).trans ((Aa HB3).mono hzW)) (Aa HC1) (Aa HC2) (.inr hz1) (.inr (by omega))).mono ?_;rintro e w4 ⟨rfl,hR⟩;have HR:=Ab hR;clear hR))
 all_goals try go_wp2
 all_goals go_end0
 all_goals exact⟨rfl,Aa HR⟩
theorem ID (is:List (Nat×Nat×Nat))(i:Nat×Nat×Nat):Xi (is++ [i])=Sn (Xi is) i.1:=by
 unfold Xi Ce;simp[List.foldl_append]
theorem Z0y (is:List (Nat×Nat×Nat))(k:Nat):(Xi is).getD k 0<=is.length/\0<=(Xi is).getD k 0:=by
 by_cases hk:k<19
 . unfold Xi;rw[Gf _ _ k (by simpa using hk),Hb];have h1:=YH (a:=k) (l:=is.map Prod.fst);rw[WG]at h1;omega
 . have:(Xi is).getD k 0=0:=by
    simp only[List.getD];rw[WN (by rw[Oq];omega)];rfl
   omega
theorem M3 (T:TypeId)(g k:Nat)(n s:Int)(xs:List Int)(W:World)(hT:T=321)(h:ARow T W g xs)(hl:xs.length=19)(hk:k<19)(hx:0<=xs.getD k 0/\xs.getD k 0<=1000000):
 Calls Tryz.prog 244 #[.int .i64 (k:Int),.int .i64 n,.int .i64 s,.pointer (some ⟨g,0,none⟩)] W fun e w'=>e=.returned (.tuple #[])/\w'=W.setCell ⟨g,k,none⟩ (.int .i64 (xs.getD k 0+1)):=by
 have c:=h.cell k (by omega);have f:=h.frozen k;have hkI:(k:Int)<19:=by omega
 clear h hT;generalize xs.getD k 0=x at*;go_enter Tryz.func244,Tryz.ntmps244
 go_wp2;go_end0
 exact⟨rfl,rfl⟩
theorem SD (g:Nat)(all:List (Nat×Nat×Nat))(h19:∀i∈all,i.1<19)(hlen:all.length<=100000):
 Snk3 (fun is W=>ARow 321 W g (Xi is)) (fun W W'=>Below g W W') 244 #[.pointer (some ⟨g,0,none⟩)] all:=by
 refine⟨Fx Tryz.func244 (by kernel_rfl) rfl, ?_,fun W=>Below.refl _ _,fun q h=>h,fun W q=>Af (Below.refl _ _) q,fun h k=>h.trans k⟩;intro is R i W he hJ;have h4:=congrArg List.length he;rw[VB,VJ]at h4;have hk:=h19 i (by rw[<-he];simp);have hle:=Z0y is i.1;have hlt:=hJ.lt;refine(M3 _ g i.1 i.2.1 i.2.2 (Xi is) W rfl hJ (Oq is) hk ⟨hle.2,by omega⟩).mono ?_;rintro e W' ⟨rfl,rfl⟩;refine⟨rfl, ?_, ?_⟩
 . rw[ID];exact hJ.set i.1 _
 . exact(Below.refl g W).grown (Ad W g i.1 _) (by omega) (fun j e=>by rw[<-VQ e];exact VC _)
theorem M2 (No:Nat->Prop)(B gp gb gc gl gr rb:Nat)(a:Option Addr)(cap:Nat)(own:List Int)(k n s:Nat)(S:List Bool)(W:World)(hC:CIs No W gc gl gr rb a 19 cap own)(hl:own.length=19)(hG:Good own)(hq:k<19)(hpos:0<own.getD k 0)(hn:n<65536)(hs:s<=16)(h:RIs No B W rb S)(hS:S.length<=290000)(hNo:∀g,W.heap.size<=g->¬No g)
 (hp:W.cell? ⟨gp,0,none⟩=some (CV gc gl gr)) (hbx:W.cell? ⟨gb,0,none⟩=some (.pointer (some ⟨rb,0,none⟩))) (hgb:gb<W.heap.size/\No gb):
 Calls Tryz.prog 245 #[.int .i64 (k:Int),.int .i64 (n:Int),.int .i64 (s:Int),.pointer (some ⟨gp,0,none⟩),.pointer (some ⟨gb,0,none⟩)] W fun e w'=>e=.returned (.tuple #[])/\Rp No B W rb (S++CP own (k,n,s)) w':=by
 have hcl:=Ff own hG k;have h15:=(hG.ok k (by omega)).2;have H1:=Ab (Wz No No B gc gl gr rb a 19 cap own k S W hC hl hG hq hpos h (by omega) hNo);have H2:=Ab (fun w1 (hR:Rp No B W rb (S++codeT own k) w1)=>Dd No B rb n s (S++codeT own k) w1 hR.is hn hs (by rw[VB,hcl];omega) (fun g hg=>hNo g (by have:=hR.below.size;omega)));have H3:=Ab (fun w1 (hR:Rp No B W rb (S++codeT own k) w1)=>hR.kp.cell hgb.1 hgb.2 hbx);clear hC h hNo hcl h15 hG hgb;go_enter Tryz.func245,Tryz.ntmps245
 go_wp2_with fail
 refine(Aa H1).mono ?_;rintro e w1 ⟨rfl,hR⟩;have c1:=Aa H3 w1 hR;have HR:=Ab hR;clear hR;go_wp2_with fail
 refine(Aa H2 w1 (Aa HR)).mono ?_;rintro e w2 ⟨rfl,hR2⟩;have HR2:=Ab hR2;clear hR2;go_wp2;go_end0
 refine⟨rfl, ?_⟩;unfold CP;rw[<-VH];exact(Aa HR).trans (Aa HR2)
theorem Qj (x:Nat):∀f m,∀i∈Dy x f m,i.2.1<128/\i.2.2<=7
 |0,m,i,h=>by cases h
 |f+1,m,i,h=>by
  rw[Dy]at h;have ih:=Qj x f
  split at h
  . cases h
  . split at h
    . rcases WE.1 h with rfl|h
      . exact⟨Nat.zero_lt_succ _,VK _⟩
      . exact ih _ i h
    . split at h
      . rcases WE.1 h with rfl|h
        . constructor<;>simp only<;>omega
        . exact ih _ i h
      . split at h
        . rcases WE.1 h with rfl|h
          . constructor<;>simp only<;>omega
          . exact ih _ i h
        . rcases WE.1 h with rfl|h
          . constructor<;>simp only<;>omega
          . exact ih _ i h
theorem A3:∀(f:Nat) (l:List Int),∀i∈Oe f l,i.2.1<128/\i.2.2<=7
 |0,l,i,hi=>by cases hi
 |f+1,[],i,hi=>by cases hi
 |f+1,x::r,i,hi=>by
  have e:Oe (f+1) (x::r)=Mq x.toNat (Bm x r+1)++Oe f (r.drop (Bm x r)):=rfl;rw[e]at hi
  rcases WJ.1 hi with hi|hi
  . unfold Mq at hi
    split at hi
    . rcases WE.1 hi with rfl|h
      . exact⟨Nat.zero_lt_succ _,VK _⟩
      . exact Qj _ _ _ i h
    . exact Qj _ _ _ i hi
  . exact A3 f _ i hi
structure LJ (No:Nat->Prop)(B gp gb gc gl gr rb:Nat)(a:Option Addr)(cap:Nat)(own:List Int)(S:List Bool)(is:List (Nat×Nat×Nat))(W:World):Prop where
 row:RIs No B W rb (S++putRs own is)
 c:CIs No W gc gl gr rb a 19 cap own
 p:W.cell? ⟨gp,0,none⟩=some (CV gc gl gr)
 b:W.cell? ⟨gb,0,none⟩=some (.pointer (some ⟨rb,0,none⟩))
 lp:gp<W.heap.size/\No gp
 lb:gb<W.heap.size/\No gb
 no:∀g,W.heap.size<=g->¬No g
theorem PT (No:Nat->Prop)(B gp gb gc gl gr rb:Nat)(a:Option Addr)(cap:Nat)(own:List Int)(S:List Bool)(all:List Int)(hO:Own all own)(hlen:all.length<=1000)(hS:S.length<=280000):
 Snk3 (LJ No B gp gb gc gl gr rb a cap own S) (fun W W'=>Below B W W'/\Kp No W W') 245 #[.pointer (some ⟨gp,0,none⟩),.pointer (some ⟨gb,0,none⟩)] (lenIs all):=by
 refine⟨Fx Tryz.func245 (by kernel_rfl) rfl, ?_,fun W=>⟨Below.refl _ _,Kp.refl _ _⟩,fun q h=>⟨h.row.drewN q,h.c.keep (VC _) (fun _ _ _=>rfl),h.p,h.b,h.lp,h.lb,h.no⟩,fun W q=>⟨Af (Below.refl _ _) q,fun _ _ _=>rfl⟩,fun h k=>⟨h.1.trans k.1,h.2.trans k.2 h.1.size⟩⟩;intro is R i W he hJ;have hk:=hO.has i (by rw[<-he];simp);have hr:=A3 all.length all i (by show i∈lenIs all;rw[<-he];simp);have hbits:=(Ls own hO.go (fun k=>(hO.vo k).2) all.length all).1
 have hb2:(putRs own is).length<=7*all.length:=by
  have e:putRs own (lenIs all)=putRs own is++putRs own (i::R):=by rw[<-he,Lg]
  have h2:(putRs own (lenIs all)).length<=7*all.length:=hbits;rw[e,VB]at h2;omega
 obtain⟨k,n,s⟩:=i;have hlo:=hO.lo;refine(M2 No B gp gb gc gl gr rb a cap own k n s (S++putRs own is) W hJ.c hO.lo hO.go (by rw[<-hlo];exact hk.1) hk.2 (by have:=hr.1;simp only at this;omega) (by have:=hr.2;simp only at this;omega) hJ.row (by rw[VB];omega) hJ.no hJ.p hJ.b hJ.lb).mono ?_;rintro e W' ⟨rfl,hR⟩;have hz:=hR.below.size;have e:putRs own (is++ [(k,n,s)])=putRs own is++CP own (k,n,s):=by rw[Lg];simp[putRs]
 refine⟨rfl,⟨?_,hJ.c.keep hz (fun g hg hn=>hR.kp g hg hn),hR.kp.cell hJ.lp.1 hJ.lp.2 hJ.p,hR.kp.cell hJ.lb.1 hJ.lb.2 hJ.b,⟨VG hJ.lp.1 hz,hJ.lp.2⟩,⟨VG hJ.lb.1 hz,hJ.lb.2⟩,fun g hg=>hJ.no g (by omega)⟩,hR.below,hR.kp⟩;rw[e,<-VH];exact hR.is
end Go.Proofs.YtleocpdblhbimaaGreatDoor
