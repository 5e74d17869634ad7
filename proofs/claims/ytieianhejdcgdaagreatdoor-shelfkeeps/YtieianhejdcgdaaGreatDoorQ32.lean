import Derived.Test.YtieianhejdcgdaaGreatDoorQ31
import Derived.Laws.CopyRow
import Derived.OwnWalk
set_option maxHeartbeats 4000000
namespace Go.Proofs.YtieianhejdcgdaaGreatDoor
open Go.RowKit
set_option linter.unusedVariables false
set_option maxRecDepth 100000
theorem T9:(Tryz.prog.info? 301).map (·.size)=some 286:=by kernel_rfl
theorem MT:(Tryz.prog.info? 302).map (·.size)=some 30:=by kernel_rfl
theorem OM (a:Option Addr)(len cap:Nat)(ts:List Tk)(w:World)(hl:ts.length=len)(hlen:len<=3000)(hV:∀t∈ts,VT t)(hT:TokIn w a ts):
 Calls Tryz.prog 219 #[.slice a len cap] w fun e w'=>e=.returned (.tuple #[.agg (iv (symC (itsOf ts))).toArray,.agg (iv (farC (itsOf ts))).toArray])/\Below w.heap.size w w':=by
 have hTn:∀b o,a=some ⟨b,o,none⟩->ts≠ []->b<w.heap.size:=by
  intro b o e hne
  rcases hT with h|⟨b',o',h1,h2,_⟩
  . exact absurd h hne
  . rw[h1]at e;have:=VN e;cases this;exact h2
 have HT:=Ab hT;have HV:=Ab hV;have HL:=Ab hl;clear hT hV hl;go_enter Tryz.func219,Tryz.ntmps219
 go_wp2_with fail
 have hi:=Gd ts;refine(AK (KJ w.heap.size w.heap.size (w.heap.size+1)) (fun g=>g<w.heap.size) w.heap.size 246 247 248 #[.pointer (some ⟨w.heap.size,0,none⟩)] #[.pointer (some ⟨w.heap.size+1,0,none⟩)] #[] a len cap ts _ (ON w.heap.size w.heap.size (w.heap.size+1) (itsOf ts) (Hr (Aa HV)) (by rw[Aa HL]at hi;omega)) (Aa HL) hlen (Aa HV) ((Aa HT).alloc _|>.alloc _) hTn (by simp;omega) ?_ (fun g hg=>by simp at hg;omega)).mono ?_
 . refine⟨⟨by omega,by omega⟩,by omega,⟨by omega,by omega⟩, ?_, ?_⟩
   . exact(Below.heap_alloc _ _ _ (by simp)).trans ((heap_alloc_new _ _).trans (by kernel_rfl))
   . have e:w.heap.size+1=(w.alloc (.cells (iv (List.replicate 286 0)).toArray 301)).heap.size:=by simp
     rw[e];exact(heap_alloc_new _ _).trans (by kernel_rfl)
 rintro e w1 ⟨rfl,hJ,hB,hK⟩;have hs:=hJ.s;have hf:=hJ.f;have hBw:Below w.heap.size w w1:=((((Below.refl w.heap.size w).alloc (VC _) _).alloc (by simp) _)).trans hB;have HB:=Ab hBw;have hls:=Kx (itsOf ts);have hlf:=Ma (itsOf ts);clear hJ hB hK hTn hBw hi;obtain⟨xs,hxs⟩:∃xs,symC (itsOf ts)=xs:=⟨_,rfl⟩
 obtain⟨ys,hys⟩:∃ys,farC (itsOf ts)=ys:=⟨_,rfl⟩
 rw[hxs]at hs hls;rw[hys]at hf hlf;have HXS:=Ab hxs;have HYS:=Ab hys;clear hxs hys;have hi1:(Tryz.prog.info? 301).map (·.size)=some (iv xs).length:=by rw[T9];simp[hls]
 have hi2:(Tryz.prog.info? 302).map (·.size)=some (iv ys).length:=by rw[MT];simp[hlf]
 have hi1':(Tryz.prog.info? 301).map (·.size)=some (iv xs).toArray.size:=by rw[T9];simp[hls]
 have hi2':(Tryz.prog.info? 302).map (·.size)=some (iv ys).toArray.size:=by rw[MT];simp[hlf]
 have hu1:=Tryz.underlying301;have hu2:=Tryz.underlying302;go_wp2;refine wp_region_held_drew (S:=fun w'=>ARow 301 w' w.heap.size xs/\ARow 302 w' (w.heap.size+1) ys) (by kernel_rfl) ⟨hs,hf⟩ (fun hHeld=> ?_);refine wpAnyH_take (i:=0) (oi:= {dst:=some 9,op:=.load 301 (.tmp 2),type:=301,pos:= "dynamic.go:71",after:= #[],guard:=none}) (v:=_) rfl (by kernel_rfl) (by kernel_rfl) (by kernel_rfl) (fun _ _ _ h=>h) (yieldsIf_load_mid (by rfl) _ _ rfl _ _ rfl _ _ (fun _ h=>h.1.range) hu1 rfl hi1) hHeld ?_;simp only[Act.put,VA,VD,VE];refine wpAnyH_take (i:=1) (oi:= {dst:=some 10,op:=.load 302 (.tmp 3),type:=302,pos:= "dynamic.go:71",after:= #[],guard:=none}) (v:=_) rfl (by kernel_rfl) (by kernel_rfl) (by kernel_rfl) (fun _ _ _ h=>h) (yieldsIf_load_mid (by rfl) _ _ rfl _ _ rfl _ _ (fun _ h=>h.2.range) hu2 rfl hi2) hHeld ?_;simp only[Act.put,VA,VD,VE];refine wpAnyH_ready (rs:= [2]) (by kernel_rfl) (by simp) (AllReadyH.cons rfl (fun K hK=> ?_) AllReadyH.nil);refine Ee rfl 301 (.tmp 2) (.tmp 9) rfl w.heap.size xs rfl rfl hHeld.1 hi1' ?_;simp only[Act.put];refine hK.out _ _ hHeld (fun hHeld1=> ?_);clear hK K hHeld;refine wpAnyH_ready (rs:= [3]) (by kernel_rfl) (by simp) (AllReadyH.cons rfl (fun K hK=> ?_) AllReadyH.nil);refine Ee rfl 302 (.tmp 3) (.tmp 10) rfl (w.heap.size+1) ys rfl rfl hHeld1.2 hi2' ?_;simp only[Act.put];refine hK.out _ _ hHeld1 (fun hHeld2=> ?_);clear hK K hHeld1;refine wpAnyH_done (by kernel_rfl) ?_ _;go_wp2;refine bodyPost_ret (v:=.tuple #[.agg (iv xs).toArray,.agg (iv ys).toArray]) ?_ rfl ⟨by rw[Aa HXS,Aa HYS],(Aa HB).drew⟩;exact Lc rfl _ _ w.heap.size (w.heap.size+1) _ _ rfl rfl (hHeld2.1.load hu1 rfl hi1') (hHeld2.2.load hu2 rfl hi2')
theorem Hq (a:Option Addr)(len cap:Nat)(l:List Int)(m least:Nat)(w:World)(hl:l.length=len)(hR:RowIn .i64 w a l)(hG:GoodW l m)(hle:least<=len)(n:Nat)(hn:Hid (Gv (lensD l m) least len=n)):
 Calls Tryz.prog 220 #[.slice a len cap,.int .i64 (m:Int),.int .i64 (least:Int)] w fun e w'=>∃g,e=.returned (.slice (some ⟨g,0,none⟩) n len)/\IsLens l m (lensD l m)/\w.heap.size<=g/\g<w'.heap.size/\Row .i64 w' g 0 (trimL (lensD l m) least)/\Below w.heap.size w w':=by
 have hlen:=hG.len;go_enter Tryz.func220,Tryz.ntmps220
 go_wp2_with fail
 refine(EH a len cap l m w hl hR hG).mono ?_;rintro e w1 ⟨g,s,rfl,hI,hs,hW,hB,hg⟩;have hD:=SX hI;rw[hD]at hn;have HI:Hid (IsLens l m (lensD l m)):=Ab (by rw[hD];exact hI);have HD:=Ab hD;have HW:=Ab hW;have HB:=Ab hB;have HS:=Ab hs;have hrow:∀j,j<len->w1.cell? ⟨g,j,none⟩=some (.int .i64 (s.getD j 0)):=fun j hj=>(hW.at_ j (by omega)).1
 have HRW:=Ab hrow;have hgl:=hW.lt
 have HTR:Hid (Row .i64 w1 g 0 (trimL (lensD l m) least)):=fun j hj=>by
  rw[WI,hD,Oq];refine hrow j ?_;rw[hD,Bz]at hj;have:=Ji s least s.length
  omega
 clear hI hD hW hB hs hR hG hrow;go_wp2;go_loop [9] (fun v=>∃k:Nat,k<=len/\least<=k/\v=.int .i64 (k:Int)/\Hid (Gv s least k=n)) (fun v=>(intOf v).toNat)
 case atStart=>exact⟨len,VC _,hle,rfl,hn⟩
 case round=>
  obtain⟨k,hk,hk2,rfl,ht⟩:=hrel
  by_cases h1:least<k
  . obtain⟨q,rfl⟩:∃q,k=q+1:=⟨k-1,by omega⟩
    have c:=Aa HRW q (by omega);have h1I:(least:Int)<((q+1:Nat):Int):=by omega
    have i1:(((q+1:Nat):Int)-1).toNat=q:=by omega
    have i2:(0:Int)<=((q+1:Nat):Int)-1:=by omega
    have i3:((q+1:Nat):Int)-1<(len:Int):=by omega
    by_cases h0:s.getD q 0=0
    . rw[h0]at c;have HT:Hid (Gv s least q=n):=Ab (by have:=Aa ht;rw[Gv,if_pos ⟨h1,h0⟩]at this;exact this);clear h0 ht;go_wp2;go_round
      case rel=>exact⟨q,by omega,by omega,by go_num,HT⟩
      case measure=>simp[intOf]
    . have HT:Hid (q+1=n):=Ab (by have:=Aa ht;rw[Gv,if_neg (fun h=>h0 h.2)]at this;exact this);have hb:(s.getD q 0==0)=false:=by rw[beq_eq_false_iff_ne];exact h0
      generalize s.getD q 0=x at c hb;clear h0 ht;go_wp2;go_ret;exact⟨g,by rw[<-Aa HT];rfl,Aa HI,hg,hgl,Aa HTR,Aa HB⟩
  . have HT:Hid (k=n):=Ab (by
     have:=Aa ht
     cases k with
     |zero=>rw[Gv]at this;exact this
     |succ k=>rw[Gv,if_neg (fun h=>h1 h.1)]at this;exact this)
    have h1I:¬(least:Int)<(k:Int):=by omega
    clear ht;go_wp2;go_ret;exact⟨g,by rw[<-Aa HT];rfl,Aa HI,hg,hgl,Aa HTR,Aa HB⟩
theorem AJ (No:Nat->Prop)(B rb:Nat)(a:Option Addr)(len cap:Nat)(ts:List Tk)(S:List Bool)(b1 o1 n1 c1 b2 o2 n2 c2:Nat)(l1 l2:List Int)(gc gl gr hc hl hr:Nat)(w0 W w3:World)(h:RIs No B w0 rb S)(hz:w0.heap.size<=W.heap.size)(hB3:Below w0.heap.size w0 w3)
 (hC1:CIs (fun g=>W.heap.size<=g\/g=b1\/g=b2) w3 gc gl gr rb (some ⟨b1,o1,none⟩) n1 c1 l1) (hC2:CIs (fun g=>W.heap.size<=g\/g=b1\/g=b2) w3 hc hl hr rb (some ⟨b2,o2,none⟩) n2 c2 l2)
 (hb1:No b1\/w0.heap.size<=b1) (hb2:No b2\/w0.heap.size<=b2) (hl1:l1.length=n1) (hl2:l2.length=n2) (hG1:Good l1) (hG2:Good l2) (hH:Has l1 l2 (itsOf ts))
 (htl:ts.length=len) (hlen:len<=3000) (hV:∀t∈ts,VT t) (hT:TokIn w0 a ts) (hTn:∀b o,a=some ⟨b,o,none⟩->ts≠ []->No b) (hNo:∀g,w0.heap.size<=g->¬No g) (hS:S.length+60*len<=280000):
 Calls Tryz.prog 189 #[.slice a len cap,.agg #[CV gc gl gr,CV hc hl hr,.func (.func 155) #[.pointer (some ⟨rb,0,none⟩)] #[]]] w3 fun e w'=>e=.returned (.tuple #[])/\Rp No B w0 rb (S++putIs l1 l2 (itsOf ts)) w':=by
 have hz3:=hB3.size;have hi:=Gd ts;have hlt:=h.lt;have hba:=h.base;have hK:=Z2i (fun g=>(W.heap.size<=g\/g=b1\/g=b2)/\g<w3.heap.size) B rb S l1 l2 gc gl gr hc hl hr b1 o1 n1 c1 b2 o2 n2 c2 (itsOf ts) hl1 hl2 hG1 hG2 hH (Hr hV) (by omega)
 have hJ:PJ (fun g=>(W.heap.size<=g\/g=b1\/g=b2)/\g<w3.heap.size) B rb S l1 l2 gc gl gr hc hl hr b1 o1 n1 c1 b2 o2 n2 c2 No [] w3:=by
  refine⟨?_,hC1.bound,hC2.bound,fun g hg=>hg.2⟩;have e:S++putIs l1 l2 []=S:=by simp[putIs]
  rw[e];refine h.grow hB3 (fun g e=> ?_)
  rcases e with e|⟨e|e|e,_⟩
  . exact .inl e
  . exact .inr (by omega)
  . rw[e];exact hb1
  . rw[e];exact hb2
 refine(AK _ No B _ _ _ _ _ _ a len cap ts w3 hK htl hlen hV (hT.below hB3 (VC _)) hTn (by omega) hJ (fun g hg=>hNo g (by omega))).mono ?_;rintro e w' ⟨rfl,hJ',hB',hK'⟩;refine⟨rfl,hJ'.row.grow (Below.refl _ _) (fun g e=>.inl (.inl e)),(hB3.mono (by omega)).trans hB',fun g hg hn=>(hK' g (by omega) hn).trans (hB3.block g hg)⟩
theorem NO {ts:List Tk}(hV:∀t∈ts,VT t):Has Mn Ic (itsOf ts):=by
 have hi:=Hr hV;refine⟨fun k hk=> ?_,fun k hk=> ?_⟩
 . have h:k<286:=hi _ hk;refine⟨by rw[Lx];omega, ?_⟩;rw[NP (by omega)]
   split
   . decide
   . split
     . decide
     . split<;>decide
 . have h:k<30:=hi _ hk;exact⟨by rw[Fg];omega,by rw[U5 (by omega)];decide⟩
theorem A5 (No:Nat->Prop)(B rb:Nat)(a:Option Addr)(len cap:Nat)(ts:List Tk)(S:List Bool)(w:World)(h:RIs No B w rb S)(htl:ts.length=len)(hlen:len<=3000)(hV:∀t∈ts,VT t)(hT:TokIn w a ts)(hTn:∀b o,a=some ⟨b,o,none⟩->ts≠ []->No b)(hNo:∀g,w.heap.size<=g->¬No g)(hS:S.length+60*len<=280000):
 Calls Tryz.prog 158 #[.pointer (some ⟨rb,0,none⟩),.slice a len cap] w fun e w'=>e=.returned (.tuple #[])/\Rp No B w rb (S++Gf ts) w':=by
 have HP:=Ab (fun(W w3:World) (gc gl gr hc hl hr b1 b2:Nat) hz hB3 hC1 hC2 hb1 hb2=>AJ No B rb a len cap ts S b1 0 288 288 b2 0 32 32 Mn Ic gc gl gr hc hl hr w W w3 h hz hB3 hC1 hC2 hb1 hb2 Lx Fg Ly Lw (NO hV) htl hlen hV hT hTn hNo hS);obtain⟨FA,hFA⟩:∃FA,Mn=FA:=⟨_,rfl⟩
 obtain⟨FB,hFB⟩:∃FB,Ic=FB:=⟨_,rfl⟩
 have hlA:=Lx;have hlB:=Fg;have hgA:=Ly;have hgB:=Lw;have HF:=Ab (F8 w);have hE:Gf ts=putIs FA FB (itsOf ts):=by unfold Gf;rw[hFA,hFB]
 rw[hE];simp only[hFA,hFB]at HP HF hlA hlB hgA hgB;have HGA:=Ab hgA;have HGB:=Ab hgB;clear h hV hT hTn hNo hFA hFB hE hgA hgB;have hi1:(Tryz.prog.info? 251).map (·.size)=some (iv FA).toArray.size:=by rw[Xf];simp[hlA]
 have hi2:(Tryz.prog.info? 252).map (·.size)=some (iv FB).toArray.size:=by rw[BL];simp[hlB]
 go_enter Tryz.func158,Tryz.ntmps158
 go_wp2_with fail
 refine(Aa HF).mono ?_;rintro e w1 ⟨rfl,hB1⟩;have hz1:=hB1.size;have HB1:=Ab hB1;clear hB1;have A1:((w1.alloc (.cells (iv (List.replicate 288 0)).toArray 251)).alloc (.cells (iv (List.replicate 32 0)).toArray 252)).heap[w1.heap.size]? =some (.cells (iv (List.replicate 288 0)).toArray 251 (0,0)):=(Below.heap_alloc _ _ _ (by simp)).trans (heap_alloc_new _ _)
 have A2:(((w1.alloc (.cells (iv (List.replicate 288 0)).toArray 251)).alloc (.cells (iv (List.replicate 32 0)).toArray 252)).setRow w1.heap.size (iv FA).toArray).heap[w1.heap.size+1]? =some (.cells (iv (List.replicate 32 0)).toArray 252 (0,0)):=by
  rw[Go.setRow_other _ _ _ _ (by omega)];have e:w1.heap.size+1=(w1.alloc (.cells (iv (List.replicate 288 0)).toArray 251)).heap.size:=by simp
  rw[e];exact heap_alloc_new _ _
 have HA1:=Ab A1;have HA2:=Ab A2;have HT:=Ab (fun x y=>Jh w w1 x y 251 252 FA FB (Aa HB1) (by simp));clear A1 A2;go_upto_region 1 with (first|refine wpList_store_row rfl 251 (.tmp 4) (.tmp 8) rfl w1.heap.size _ rfl rfl 251 (iv (List.replicate 288 0)).toArray (Aa HA1) hi1 (by simp[hlA]) (Cr FA) ?_|refine wpList_store_row rfl 252 (.tmp 5) (.tmp 9) rfl (w1.heap.size+1) _ rfl rfl 252 (iv (List.replicate 32 0)).toArray (Aa HA2) hi2 (by simp[hlB]) (Cr FB) ?_)
 simp only[Act.put];generalize hW2:World.setRow (World.setRow (World.alloc (World.alloc _ _) _) _ _) _ _=W2;have t1:ARow 251 W2 w1.heap.size FA:=by rw[<-hW2];exact(Aa HT _ _).1
 have t2:ARow 252 W2 (w1.heap.size+1) FB:=by rw[<-hW2];exact(Aa HT _ _).2.1
 have t3:Below w.heap.size w W2:=by rw[<-hW2];exact(Aa HT _ _).2.2
 have hzW:=t3.size;have HPT:=Ab (fun k=>Uh w1.heap.size 0 288 288 (w1.heap.size+1) 0 32 32 rb FA FB (W2.drewN k) hlA hlB (by decide) (by decide) t1.lt t2.lt t1.row t2.row (Aa HGA) (Aa HGB));have HT3:=Ab t3;clear hW2 HT HA1 HA2 t1 t2 t3;go_region_with (first|(go_at_call 190;refine(Aa HPT _).mono ?_;rintro e w3 ⟨gc,gl,gr,hc,hl,hr,rfl,hC1,hC2,hB3⟩;have HC1:=Ab hC1;have HC2:=Ab hC2;have HB3:=Ab hB3;clear hC1 hC2 hB3)|(go_at_call 189;refine(Aa HP W2 w3 gc gl gr hc hl hr w1.heap.size (w1.heap.size+1) hzW ((Af (Aa HT3) _).trans ((Aa HB3).mono hzW)) (Aa HC1) (Aa HC2) (.inr hz1) (.inr (by omega))).mono ?_;rintro e w4 ⟨rfl,hR⟩;have HR:=Ab hR;clear hR))
 all_goals try go_wp2
 all_goals go_end0
 all_goals exact⟨rfl,Aa HR⟩
theorem Yg (n:Nat):(Builtin.zeroCells (Value.int .i64 0).cells n).toList=iv (List.replicate n 0):=by
 show (Builtin.zeroCells #[Value.int .i64 0] n).toList=_
 unfold Builtin.zeroCells;apply List.ext_getElem?
 intro i
 by_cases h:i<n
 . simp[h,Nat.mod_one]
 . simp[h]
theorem Ql (w:World)(ty:TypeId)(n:Nat)(h0:0<n)(hn:n<=100000):
 ∃c w',(Builtin.append_ #[81,3] ty #[.slice none 0 0,.int .i64 (n:Int)]).run Tryz.prog w=.ok (.slice (some ⟨w.heap.size,0,none⟩) n c) w'/\n<=c/\c<=maxLen/\w'.heap[w.heap.size]? =some (.cells (iv (List.replicate c 0)).toArray 3 (0,0))/\w.grownBy w' none:=by
 obtain⟨i0,hi,hz0,hz1,hz2⟩:=info_parts Cn;have hge:=grownCap_ge w n 0 3;have hle:=grownCap_le_maxLen w n 0 3 (by unfold maxLen;omega);have hnz:n≠0:=by omega
 have h63':¬(9223372036854775807<(n:Int)):=by omega
 have hneg:¬((n:Int)<0):=by omega
 have h48:¬(281474976710656<(n:Int)*8):=by omega
 have h48':¬(281474976710656<Builtin.nextslicecap n 0*8):=by rw[nextslicecap_zero h0];omega
 have hw:IntKind.i64.wrap (n:Int)=(n:Int):=by simp[IntKind.wrap,IntKind.signed,IntKind.bits];omega
 refine⟨grownCap w n 0 3,w.drew.alloc (.cells (Builtin.zeroCells (Value.int .i64 0).cells n++Builtin.zeroCells (Value.int .i64 0).cells (grownCap w n 0 3-n)) 3), ?_,hge,hle, ?_, ?_⟩
 . simp[Builtin.append_,run_underlying Tryz.underlying81,run_underlying Tryz.underlying3,sizeOf,typeInfo,zeroValue,hi,hz0,hz1,hz2,asInt,asIntOf,hw,hneg,h48,hnz,h63',h48',Question.forced,run_firstCells_none,newRow,grownCap]
 . have:=heap_alloc_new w.drew (.cells (Builtin.zeroCells (Value.int .i64 0).cells n++Builtin.zeroCells (Value.int .i64 0).cells (grownCap w n 0 3-n)) 3)
   rw[show w.drew.heap.size=w.heap.size from rfl]at this;rw[this]
   congr 2
   apply Array.ext'
   rw[Array.toList_append,Yg,Yg];show _=iv (List.replicate (grownCap w n 0 3) 0)
   unfold iv;rw[<-XO,List.replicate_append_replicate]
   congr 2
   omega
 . exact⟨rfl,rfl,rfl,by simp,fun k hk _=>Below.heap_alloc w.drew _ k hk⟩
theorem Kq (w:World){ops:Array Oper}{rest:List Oper}{o:Oper}{a:Act}{Q:Exit->Act->World->Prop}(hgd:o.guard=none)(s x:Operand)
 (ho:o.op=.call {callee:=.builtin .append,args:= #[s,x],argTypes:= #[81,3]}) (n:Nat) (hs:a.eval s=.slice none 0 0) (hx:a.eval x=.int .i64 (n:Int)) (h0:0<n) (hn:n<=100000)
 (h:∀c w',n<=c->c<=maxLen->w'.heap[w.heap.size]? =some (.cells (iv (List.replicate c 0)).toArray 3 (0,0))->w.grownBy w' none->wpList Tryz.prog ops Q rest (a.put o.dst (.slice (some ⟨w.heap.size,0,none⟩) n c)) w'):
 wpList Tryz.prog ops Q (o::rest) a w:=by
 refine wpList_plain hgd fun K hK=> ?_
 obtain⟨c,w',hr,h2,h3,h4,h5⟩:=Ql w o.type n h0 hn;unfold Oper.wp execOp;simp only[ho,resolve,invoke,builtin,Sem.run_bind,Sem.run_pure,Result.andThen_ok,YD,WG,YB,hs,hx,hr];exact hK _ _ (h c w' h2 h3 h4 h5)
theorem TP (n:Nat)(w:World)(h0:0<n)(hn:n<=100000):Calls Tryz.prog 167 #[.slice none 0 0,.int .i64 (n:Int)] w fun e w'=>∃c,e=.returned (.slice (some ⟨w.heap.size,0,none⟩) 0 c)/\w'.ownsRow w.heap.size 3 1 (.slice (some ⟨w.heap.size,0,none⟩) 0 c) 0 (iv [])/\Below w.heap.size w w':=by
 go_enter Tryz.func167,Tryz.ntmps167
 go_wp2_with (refine Kq w rfl (.tmp 20) (.tmp 21) rfl n rfl rfl h0 hn ?_)
 intro c w2 hc1 hc2 hg hgr;have HB:=Ab (Nl (Below.refl w.heap.size w) hgr (VC _));have HO:Hid (w2.ownsRow w.heap.size 3 1 (.slice (some ⟨w.heap.size,0,none⟩) 0 c) 0 (iv [])):=⟨rfl,.inr ⟨w.heap.size,c,_,rfl,VC _,hg,VM _,hc2,by simp,rfl⟩⟩
 clear hg hgr;go_wp2;go_ret;exact⟨c,rfl,Aa HO,Aa HB⟩
def Pp (ps:List (Nat×List Int)):Nat->List Int
 |0=> []
 |k+1=>Pp ps k++(ps.getD k (0,[])).2
theorem KH {w:World}{g:Nat}{xs:List Int}(h:RowIn .i64 w (some ⟨g,0,none⟩) xs):∀j u,(iv xs)[j]? =some u->w.cell? ((⟨g,0,none⟩:Addr).add j)=some u:=by
 intro j u hj;have e:(⟨g,0,none⟩:Addr).add j=⟨g,j,none⟩:=by unfold Addr.add;split<;>simp_all
 rcases h with rfl|⟨b,o,e1,_,h⟩
 . simp at hj
 . cases e1
   have hj2:j<xs.length:=by
    by_cases c:j<xs.length
    . exact c
    . rw[WA (by simp;omega)]at hj;cases hj
   have:=h j hj2
   rw[e];simp[hj2]at hj
   subst hj;simpa[List.getD,hj2]using this
theorem Z38 (xs:List Int):∀u∈iv xs,u.oneCell'=true:=by intro u hu;obtain⟨x,_,rfl⟩:=WY.1 hu;rfl
theorem GF (b o len cap:Nat)(cp:Nat->Nat)(ps:List (Nat×List Int))(w:World)(hb:b<w.heap.size)(hc:∀j,j<len->w.cell? ⟨b,o+j,none⟩=some (.slice (some ⟨(ps.getD j (0,[])).1,0,none⟩) (ps.getD j (0,[])).2.length (cp j)))(hr:∀j,j<len->RowIn .i64 w (some ⟨(ps.getD j (0,[])).1,0,none⟩) (ps.getD j (0,[])).2)
 (hsum:∀k,k<=len->(Pp ps k).length<=1000) (hpos:0<(Pp ps len).length) (hlen:len<=100):
 Calls Tryz.prog 130 #[.slice (some ⟨b,o,none⟩) len cap] w fun e w'=>∃v,e=.returned v/\w'.ownsRow w.heap.size 3 1 v (Pp ps len).length (iv (Pp ps len))/\Below w.heap.size w w':=by
 obtain⟨i0,hi,hz0,hz1,hz2⟩:=info_parts Cn;have HC:=Ab hc;have HR:=Ab hr;have HS:=Ab hsum;obtain⟨T,hT⟩:∃T,(Pp ps len).length=T:=⟨_,rfl⟩
 have hT1:0<T/\T<=1000:=by have:=hsum len (VC _);omega
 obtain⟨hT0,hT1⟩:=hT1;have HTT:=Ab hT;clear hc hr hsum hpos hT;go_enter Tryz.func130,Tryz.ntmps130
 go_wp2;go_loop [3,11] (fun v3 v11=>∃k:Nat,k<=len/\v11=.int .i64 (k:Int)/\v3=.int .i64 ((Pp ps k).length:Int)) (fun _ v11=>len-(intOf v11).toNat)
 case atStart=>exact⟨0,VM _,rfl,rfl⟩
 case round=>
  obtain⟨k,hk,rfl,rfl⟩:=hrel
  by_cases hlt:k<len
  . have c1:=Aa HC k hlt;have hs:=Aa HS (k+1) (by omega);have HN:Hid ((Pp ps (k+1)).length=(Pp ps k).length+(ps.getD k (0,[])).2.length):=Ab (by rw[Pp,VB]);rw[Aa HN]at hs;generalize (ps.getD k (0,[])).2.length=m at*;generalize cp k=mc at*;generalize (ps.getD k (0,[])).1=g at*;generalize (Pp ps k).length=L at*;go_wp2;go_round
    case rel=>exact⟨k+1,by omega,by go_num,by rw[Aa HN];go_num⟩
    case measure=>simp[intOf];omega
  . obtain rfl:len=k:=by omega
    rw[Aa HTT];go_wp2_with fail
    refine(TP T w hT0 (by omega)).mono ?_;rintro e w2 ⟨c,rfl,hO2,hB2⟩;have HO2:=Ab hO2;have HB2:=Ab hB2;clear hO2 hB2;go_wp2;go_loopw [6,27] (fun v6 v27 wr=>∃k:Nat,k<=len/\v27=.int .i64 (k:Int)/\wr.ownsRow w.heap.size 3 1 v6 (Pp ps k).length (iv (Pp ps k))/\Below w.heap.size w wr) (fun _ v27 _=>len-(intOf v27).toNat)
    case atStart=>exact⟨0,VM _,rfl,Aa HO2,Aa HB2⟩
    case round=>
     obtain⟨k,hk2,rfl,hO,hBr⟩:=hrel;have HO:=Ab hO;have HBr:=Ab hBr;have hzr:=hBr.size
     by_cases hlt2:k<len
     . have c1:=(hBr.cell (p:=⟨b,o+k,none⟩) hb).trans (Aa HC k hlt2);have hrow:=(Aa HR k hlt2).below hBr (VC _);have HRC:=Ab (KH hrow);have hs:=Aa HS (k+1) (by omega);have HN:Hid (Pp ps (k+1)=Pp ps k++(ps.getD k (0,[])).2):=Ab rfl;rw[Aa HN,VB]at hs;generalize (ps.getD k (0,[])).2=xs at*;generalize (ps.getD k (0,[])).1=g at*;generalize cp k=mc at*;obtain⟨m,hm⟩:∃m,xs.length=m:=⟨_,rfl⟩
       obtain⟨L,hL⟩:∃L,(Pp ps k).length=L:=⟨_,rfl⟩
       rw[hm]at c1 hs;rw[hL]at hs HO;have HM:=Ab hm;have HLL:=Ab hL;clear hO hBr hrow hm hL;go_wp2_with (at_builtin;refine wpList_append_own_at _ rfl _ _ 81 rfl w.heap.size 3 i0 (.int .i64 0) 1 8 Tryz.underlying81 hi hz0 hz1 hz2 rfl (by decide) u6 L (iv (Pp ps k)) rfl (Aa HO) ⟨g,0,none⟩ m mc (iv xs) rfl (by rw[WN,Aa HM,Nat.mul_one]) (Aa HRC) (Z38 xs) (by unfold maxLen;omega) (by omega) (by omega) ?_)
       intro v' w4 hO4 hgrow _ hspot
       have HO4:Hid (w4.ownsRow w.heap.size 3 1 v' (Pp ps (k+1)).length (iv (Pp ps (k+1)))):=by
        rw[Aa HN,VB,Aa HLL,Aa HM];show w4.ownsRow w.heap.size 3 1 v' (L+m) (List.map (Value.int .i64) (Pp ps k++xs))
        rw[XO];exact hO4
       have HB4:=Ab ((Aa HBr).grown hgrow (by omega) (fun g e=>((Aa HO).lt g e).1));clear hO4 hgrow hspot c1 HRC;go_wp2;go_roundw
       case rel=>exact⟨k+1,by omega,by go_num,Aa HO4,Aa HB4⟩
       case measure=>simp[intOf];omega
     . obtain rfl:len=k:=by omega
       clear hO hBr;go_wp2;go_ret;exact⟨u6,rfl,Aa HO,Aa HBr⟩
theorem KG (is:List (Nat×Nat×Nat))(i:Nat×Nat×Nat):Yf (is++ [i])=Sp (Yf is) i.1:=by
 unfold Yf Cj;simp[List.foldl_append]
theorem Z2d (is:List (Nat×Nat×Nat))(k:Nat):(Yf is).getD k 0<=is.length/\0<=(Yf is).getD k 0:=by
 by_cases hk:k<19
 . unfold Yf;rw[Gr _ _ k (by simpa using hk),Hg];have h1:=YE (a:=k) (l:=is.map Prod.fst);rw[WN]at h1;omega
 . have:(Yf is).getD k 0=0:=by
    simp only[List.getD];rw[WA (by rw[Ov];omega)];rfl
   omega
theorem R4 (T:TypeId)(g k:Nat)(n s:Int)(xs:List Int)(W:World)(hT:T=325)(h:ARow T W g xs)(hl:xs.length=19)(hk:k<19)(hx:0<=xs.getD k 0/\xs.getD k 0<=1000000):
 Calls Tryz.prog 252 #[.int .i64 (k:Int),.int .i64 n,.int .i64 s,.pointer (some ⟨g,0,none⟩)] W fun e w'=>e=.returned (.tuple #[])/\w'=W.setCell ⟨g,k,none⟩ (.int .i64 (xs.getD k 0+1)):=by
 have c:=h.cell k (by omega);have f:=h.frozen k;have hkI:(k:Int)<19:=by omega
 clear h hT;generalize xs.getD k 0=x at*;go_enter Tryz.func252,Tryz.ntmps252
 go_wp2;go_end0
 exact⟨rfl,rfl⟩
theorem Z07 (g:Nat)(all:List (Nat×Nat×Nat))(h19:∀i∈all,i.1<19)(hlen:all.length<=100000):
 Snk3 (fun is W=>ARow 325 W g (Yf is)) (fun W W'=>Below g W W') 252 #[.pointer (some ⟨g,0,none⟩)] all:=by
 refine⟨Gg Tryz.func252 (by kernel_rfl) rfl, ?_,fun W=>Below.refl _ _,fun q h=>h,fun W q=>Af (Below.refl _ _) q,fun h k=>h.trans k⟩;intro is R i W he hJ;have h4:=congrArg List.length he;rw[VB,VH]at h4;have hk:=h19 i (by rw[<-he];simp);have hle:=Z2d is i.1;have hlt:=hJ.lt;refine(R4 _ g i.1 i.2.1 i.2.2 (Yf is) W rfl hJ (Ov is) hk ⟨hle.2,by omega⟩).mono ?_;rintro e W' ⟨rfl,rfl⟩;refine⟨rfl, ?_, ?_⟩
 . rw[KG];exact hJ.set i.1 _
 . exact(Below.refl g W).grown (Ad W g i.1 _) (by omega) (fun j e=>by rw[<-VN e];exact VC _)
theorem R3 (No:Nat->Prop)(B gp gb gc gl gr rb:Nat)(a:Option Addr)(cap:Nat)(own:List Int)(k n s:Nat)(S:List Bool)(W:World)(hC:CIs No W gc gl gr rb a 19 cap own)(hl:own.length=19)(hG:Good own)(hq:k<19)(hpos:0<own.getD k 0)(hn:n<65536)(hs:s<=16)(h:RIs No B W rb S)(hS:S.length<=290000)(hNo:∀g,W.heap.size<=g->¬No g)
 (hp:W.cell? ⟨gp,0,none⟩=some (CV gc gl gr)) (hbx:W.cell? ⟨gb,0,none⟩=some (.pointer (some ⟨rb,0,none⟩))) (hgb:gb<W.heap.size/\No gb):
 Calls Tryz.prog 253 #[.int .i64 (k:Int),.int .i64 (n:Int),.int .i64 (s:Int),.pointer (some ⟨gp,0,none⟩),.pointer (some ⟨gb,0,none⟩)] W fun e w'=>e=.returned (.tuple #[])/\Rp No B W rb (S++DU own (k,n,s)) w':=by
 have hcl:=Fh own hG k;have h15:=(hG.ok k (by omega)).2;have H1:=Ab (Xs No No B gc gl gr rb a 19 cap own k S W hC hl hG hq hpos h (by omega) hNo);have H2:=Ab (fun w1 (hR:Rp No B W rb (S++An own k) w1)=>Dl No B rb n s (S++An own k) w1 hR.is hn hs (by rw[VB,hcl];omega) (fun g hg=>hNo g (by have:=hR.below.size;omega)));have H3:=Ab (fun w1 (hR:Rp No B W rb (S++An own k) w1)=>hR.kp.cell hgb.1 hgb.2 hbx);clear hC h hNo hcl h15 hG hgb;go_enter Tryz.func253,Tryz.ntmps253
 go_wp2_with fail
 refine(Aa H1).mono ?_;rintro e w1 ⟨rfl,hR⟩;have c1:=Aa H3 w1 hR;have HR:=Ab hR;clear hR;go_wp2_with fail
 refine(Aa H2 w1 (Aa HR)).mono ?_;rintro e w2 ⟨rfl,hR2⟩;have HR2:=Ab hR2;clear hR2;go_wp2;go_end0
 refine⟨rfl, ?_⟩;unfold DU;rw[<-VJ];exact(Aa HR).trans (Aa HR2)
theorem Qn (x:Nat):∀f m,∀i∈Ej x f m,i.2.1<128/\i.2.2<=7
 |0,m,i,h=>by cases h
 |f+1,m,i,h=>by
  rw[Ej]at h;have ih:=Qn x f
  split at h
  . cases h
  . split at h
    . rcases VW.1 h with rfl|h
      . exact⟨Nat.zero_lt_succ _,VM _⟩
      . exact ih _ i h
    . split at h
      . rcases VW.1 h with rfl|h
        . constructor<;>simp only<;>omega
        . exact ih _ i h
      . split at h
        . rcases VW.1 h with rfl|h
          . constructor<;>simp only<;>omega
          . exact ih _ i h
        . rcases VW.1 h with rfl|h
          . constructor<;>simp only<;>omega
          . exact ih _ i h
theorem D4:∀(f:Nat) (l:List Int),∀i∈Oi f l,i.2.1<128/\i.2.2<=7
 |0,l,i,hi=>by cases hi
 |f+1,[],i,hi=>by cases hi
 |f+1,x::r,i,hi=>by
  have e:Oi (f+1) (x::r)=Mm x.toNat (Bm x r+1)++Oi f (r.drop (Bm x r)):=rfl;rw[e]at hi
  rcases VZ.1 hi with hi|hi
  . unfold Mm at hi
    split at hi
    . rcases VW.1 hi with rfl|h
      . exact⟨Nat.zero_lt_succ _,VM _⟩
      . exact Qn _ _ _ i h
    . exact Qn _ _ _ i hi
  . exact D4 f _ i hi
structure LJ (No:Nat->Prop)(B gp gb gc gl gr rb:Nat)(a:Option Addr)(cap:Nat)(own:List Int)(S:List Bool)(is:List (Nat×Nat×Nat))(W:World):Prop where
 row:RIs No B W rb (S++putRs own is)
 c:CIs No W gc gl gr rb a 19 cap own
 p:W.cell? ⟨gp,0,none⟩=some (CV gc gl gr)
 b:W.cell? ⟨gb,0,none⟩=some (.pointer (some ⟨rb,0,none⟩))
 lp:gp<W.heap.size/\No gp
 lb:gb<W.heap.size/\No gb
 no:∀g,W.heap.size<=g->¬No g
theorem RS (No:Nat->Prop)(B gp gb gc gl gr rb:Nat)(a:Option Addr)(cap:Nat)(own:List Int)(S:List Bool)(all:List Int)(hO:Own all own)(hlen:all.length<=1000)(hS:S.length<=280000):
 Snk3 (LJ No B gp gb gc gl gr rb a cap own S) (fun W W'=>Below B W W'/\Kp No W W') 253 #[.pointer (some ⟨gp,0,none⟩),.pointer (some ⟨gb,0,none⟩)] (lenIs all):=by
 refine⟨Gg Tryz.func253 (by kernel_rfl) rfl, ?_,fun W=>⟨Below.refl _ _,Kp.refl _ _⟩,fun q h=>⟨h.row.drewN q,h.c.keep (VC _) (fun _ _ _=>rfl),h.p,h.b,h.lp,h.lb,h.no⟩,fun W q=>⟨Af (Below.refl _ _) q,fun _ _ _=>rfl⟩,fun h k=>⟨h.1.trans k.1,h.2.trans k.2 h.1.size⟩⟩;intro is R i W he hJ;have hk:=hO.has i (by rw[<-he];simp);have hr:=D4 all.length all i (by show i∈lenIs all;rw[<-he];simp);have hbits:=(Lo own hO.go (fun k=>(hO.vo k).2) all.length all).1
 have hb2:(putRs own is).length<=7*all.length:=by
  have e:putRs own (lenIs all)=putRs own is++putRs own (i::R):=by rw[<-he,Ld]
  have h2:(putRs own (lenIs all)).length<=7*all.length:=hbits;rw[e,VB]at h2;omega
 obtain⟨k,n,s⟩:=i;have hlo:=hO.lo;refine(R3 No B gp gb gc gl gr rb a cap own k n s (S++putRs own is) W hJ.c hO.lo hO.go (by rw[<-hlo];exact hk.1) hk.2 (by have:=hr.1;simp only at this;omega) (by have:=hr.2;simp only at this;omega) hJ.row (by rw[VB];omega) hJ.no hJ.p hJ.b hJ.lb).mono ?_;rintro e W' ⟨rfl,hR⟩;have hz:=hR.below.size;have e:putRs own (is++ [(k,n,s)])=putRs own is++DU own (k,n,s):=by rw[Ld];simp[putRs]
 refine⟨rfl,⟨?_,hJ.c.keep hz (fun g hg hn=>hR.kp g hg hn),hR.kp.cell hJ.lp.1 hJ.lp.2 hJ.p,hR.kp.cell hJ.lb.1 hJ.lb.2 hJ.b,⟨VK hJ.lp.1 hz,hJ.lp.2⟩,⟨VK hJ.lb.1 hz,hJ.lb.2⟩,fun g hg=>hJ.no g (by omega)⟩,hR.below,hR.kp⟩;rw[e,<-VJ];exact hR.is
end Go.Proofs.YtieianhejdcgdaaGreatDoor
