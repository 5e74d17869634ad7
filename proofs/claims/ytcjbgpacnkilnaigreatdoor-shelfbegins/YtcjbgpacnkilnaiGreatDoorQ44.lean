import Derived.Test.YtcjbgpacnkilnaiGreatDoorQ1
import Derived.OwnWalk
import Derived.Test.YtcjbgpacnkilnaiGreatDoorQ4
import Derived.Test.YtcjbgpacnkilnaiGreatDoorQ40
import Derived.Test.YtcjbgpacnkilnaiGreatDoorQ43
import Derived.Deep.CutBlock
set_option maxHeartbeats 2000000
namespace Go.Proofs.YtcjbgpacnkilnaiGreatDoor
open Go.RowKit
set_option linter.unusedVariables false
set_option maxRecDepth 100000
theorem Vd (n:Nat):(Builtin.zeroCells (Value.int .i64 0).cells n).toList=iv (List.replicate n 0):=by
 show (Builtin.zeroCells #[Value.int .i64 0] n).toList=_
 unfold Builtin.zeroCells;apply List.ext_getElem?
 intro i
 by_cases h:i<n
 . simp[h,Nat.mod_one]
 . simp[h]
theorem Of (w:World)(ty:TypeId)(n:Nat)(h0:0<n)(hn:n<=100000):
 ∃c w',(Builtin.append_ #[77,3] ty #[.slice none 0 0,.int .i64 (n:Int)]).run Tryz.prog w=.ok (.slice (some ⟨w.heap.size,0,none⟩) n c) w'/\n<=c/\c<=maxLen/\w'.heap[w.heap.size]? =some (.cells (iv (List.replicate c 0)).toArray 3 (0,0))/\w.grownBy w' none:=by
 obtain⟨i0,hi,hz0,hz1,hz2⟩:=info_parts Cg;have hge:=grownCap_ge w n 0 3;have hle:=grownCap_le_maxLen w n 0 3 (by unfold maxLen;omega);have hnz:n≠0:=by omega
 have h63':¬(9223372036854775807<(n:Int)):=by omega
 have hneg:¬((n:Int)<0):=by omega
 have h48:¬(281474976710656<(n:Int)*8):=by omega
 have h48':¬(281474976710656<Builtin.nextslicecap n 0*8):=by rw[nextslicecap_zero h0];omega
 have hw:IntKind.i64.wrap (n:Int)=(n:Int):=by simp[IntKind.wrap,IntKind.signed,IntKind.bits];omega
 refine⟨grownCap w n 0 3,w.drew.alloc (.cells (Builtin.zeroCells (Value.int .i64 0).cells n++Builtin.zeroCells (Value.int .i64 0).cells (grownCap w n 0 3-n)) 3), ?_,hge,hle, ?_, ?_⟩
 . simp[Builtin.append_,run_underlying Tryz.underlying77,run_underlying Tryz.underlying3,sizeOf,typeInfo,zeroValue,hi,hz0,hz1,hz2,asInt,asIntOf,hw,hneg,h48,hnz,h63',h48',Question.forced,run_firstCells_none,newRow,grownCap]
 . have:=heap_alloc_new w.drew (.cells (Builtin.zeroCells (Value.int .i64 0).cells n++Builtin.zeroCells (Value.int .i64 0).cells (grownCap w n 0 3-n)) 3)
   rw[show w.drew.heap.size=w.heap.size from rfl]at this;rw[this]
   congr 2
   apply Array.ext'
   rw[Array.toList_append,Vd,Vd];show _=iv (List.replicate (grownCap w n 0 3) 0)
   unfold iv;rw[<-List.map_append,List.replicate_append_replicate]
   congr 2
   omega
 . exact⟨rfl,rfl,rfl,by simp,fun k hk _=>Below.heap_alloc w.drew _ k hk⟩
theorem Jh (w:World){ops:Array Oper}{rest:List Oper}{o:Oper}{a:Act}{Q:Exit->Act->World->Prop}(hgd:o.guard=none)(s x:Operand)
 (ho:o.op=.call {callee:=.builtin .append,args:= #[s,x],argTypes:= #[77,3]}) (n:Nat) (hs:a.eval s=.slice none 0 0) (hx:a.eval x=.int .i64 (n:Int)) (h0:0<n) (hn:n<=100000)
 (h:∀c w',n<=c->c<=maxLen->w'.heap[w.heap.size]? =some (.cells (iv (List.replicate c 0)).toArray 3 (0,0))->w.grownBy w' none->wpList Tryz.prog ops Q rest (a.put o.dst (.slice (some ⟨w.heap.size,0,none⟩) n c)) w'):
 wpList Tryz.prog ops Q (o::rest) a w:=by
 refine wpList_plain hgd fun K hK=> ?_
 obtain⟨c,w',hr,h2,h3,h4,h5⟩:=Of w o.type n h0 hn;unfold Oper.wp execOp;simp only[ho,resolve,invoke,builtin,Sem.run_bind,Sem.run_pure,Result.andThen_ok,List.map_toArray,List.map_cons,List.map_nil,hs,hx,hr];exact hK _ _ (h c w' h2 h3 h4 h5)
theorem Zdn (n:Nat)(w:World)(h0:0<n)(hn:n<=100000):Calls Tryz.prog 162 #[.slice none 0 0,.int .i64 (n:Int)] w fun e w'=>∃c,e=.returned (.slice (some ⟨w.heap.size,0,none⟩) 0 c)/\w'.ownsRow w.heap.size 3 1 (.slice (some ⟨w.heap.size,0,none⟩) 0 c) 0 (iv [])/\Below w.heap.size w w':=by
 go_enter Tryz.func162,Tryz.ntmps162
 go_wp2_with (refine Jh w rfl (.tmp 20) (.tmp 21) rfl n rfl rfl h0 hn ?_)
 intro c w2 hc1 hc2 hg hgr;have HB:=Ab (Lu (Below.refl w.heap.size w) hgr (Nat.le_refl _));have HO:Hid (w2.ownsRow w.heap.size 3 1 (.slice (some ⟨w.heap.size,0,none⟩) 0 c) 0 (iv [])):=⟨rfl,.inr ⟨w.heap.size,c,_,rfl,Nat.le_refl _,hg,Nat.zero_le _,hc2,by simp,rfl⟩⟩
 clear hg hgr;go_wp2;go_ret;exact⟨c,rfl,Aa HO,Aa HB⟩
def Nj (ps:List (Nat×List Int)):Nat->List Int
 |0=> []
 |k+1=>Nj ps k++(ps.getD k (0,[])).2
theorem Z80 {w:World}{g:Nat}{xs:List Int}(h:RowIn .i64 w (some ⟨g,0,none⟩) xs):∀j u,(iv xs)[j]? =some u->w.cell? ((⟨g,0,none⟩:Addr).add j)=some u:=by
 intro j u hj;have e:(⟨g,0,none⟩:Addr).add j=⟨g,j,none⟩:=by unfold Addr.add;split<;>simp_all
 rcases h with rfl|⟨b,o,e1,_,h⟩
 . simp at hj
 . cases e1
   have hj2:j<xs.length:=by
    by_cases c:j<xs.length
    . exact c
    . rw[List.getElem?_eq_none (by simp;omega)]at hj;cases hj
   have:=h j hj2
   rw[e];simp[hj2]at hj
   subst hj;simpa[List.getD,hj2]using this
theorem Zgo (xs:List Int):∀u∈iv xs,u.oneCell'=true:=by intro u hu;obtain⟨x,_,rfl⟩:=List.mem_map.1 hu;rfl
theorem Z63 (b o len cap:Nat)(cp:Nat->Nat)(ps:List (Nat×List Int))(w:World)(hb:b<w.heap.size)(hc:∀j,j<len->w.cell? ⟨b,o+j,none⟩=some (.slice (some ⟨(ps.getD j (0,[])).1,0,none⟩) (ps.getD j (0,[])).2.length (cp j)))(hr:∀j,j<len->RowIn .i64 w (some ⟨(ps.getD j (0,[])).1,0,none⟩) (ps.getD j (0,[])).2)
 (hsum:∀k,k<=len->(Nj ps k).length<=1000) (hpos:0<(Nj ps len).length) (hlen:len<=100):
 Calls Tryz.prog 135 #[.slice (some ⟨b,o,none⟩) len cap] w fun e w'=>∃v,e=.returned v/\w'.ownsRow w.heap.size 3 1 v (Nj ps len).length (iv (Nj ps len))/\Below w.heap.size w w':=by
 obtain⟨i0,hi,hz0,hz1,hz2⟩:=info_parts Cg;have HC:=Ab hc;have HR:=Ab hr;have HS:=Ab hsum;obtain⟨T,hT⟩:∃T,(Nj ps len).length=T:=⟨_,rfl⟩
 have hT1:0<T/\T<=1000:=by have:=hsum len (Nat.le_refl _);omega
 obtain⟨hT0,hT1⟩:=hT1;have HTT:=Ab hT;clear hc hr hsum hpos hT;go_enter Tryz.func135,Tryz.ntmps135
 go_wp2;go_loop [3,11] (fun v3 v11=>∃k:Nat,k<=len/\v11=.int .i64 (k:Int)/\v3=.int .i64 ((Nj ps k).length:Int)) (fun _ v11=>len-(intOf v11).toNat)
 case atStart=>exact⟨0,Nat.zero_le _,rfl,rfl⟩
 case round=>
  obtain⟨k,hk,rfl,rfl⟩:=hrel
  by_cases hlt:k<len
  . have c1:=Aa HC k hlt;have hs:=Aa HS (k+1) (by omega);have HN:Hid ((Nj ps (k+1)).length=(Nj ps k).length+(ps.getD k (0,[])).2.length):=Ab (by rw[Nj,List.length_append]);rw[Aa HN]at hs;generalize (ps.getD k (0,[])).2.length=m at*;generalize cp k=mc at*;generalize (ps.getD k (0,[])).1=g at*;generalize (Nj ps k).length=L at*;go_wp2;go_round
    case rel=>exact⟨k+1,by omega,by go_num,by rw[Aa HN];go_num⟩
    case measure=>simp[intOf];omega
  . obtain rfl:len=k:=by omega
    rw[Aa HTT];go_wp2_with fail
    refine(Zdn T w hT0 (by omega)).mono ?_;rintro e w2 ⟨c,rfl,hO2,hB2⟩;have HO2:=Ab hO2;have HB2:=Ab hB2;clear hO2 hB2;go_wp2;go_loopw [6,27] (fun v6 v27 wr=>∃k:Nat,k<=len/\v27=.int .i64 (k:Int)/\wr.ownsRow w.heap.size 3 1 v6 (Nj ps k).length (iv (Nj ps k))/\Below w.heap.size w wr) (fun _ v27 _=>len-(intOf v27).toNat)
    case atStart=>exact⟨0,Nat.zero_le _,rfl,Aa HO2,Aa HB2⟩
    case round=>
     obtain⟨k,hk2,rfl,hO,hBr⟩:=hrel;have HO:=Ab hO;have HBr:=Ab hBr;have hzr:=hBr.size
     by_cases hlt2:k<len
     . have c1:=(hBr.cell (p:=⟨b,o+k,none⟩) hb).trans (Aa HC k hlt2);have hrow:=(Aa HR k hlt2).below hBr (Nat.le_refl _);have HRC:=Ab (Z80 hrow);have hs:=Aa HS (k+1) (by omega);have HN:Hid (Nj ps (k+1)=Nj ps k++(ps.getD k (0,[])).2):=Ab rfl;rw[Aa HN,List.length_append]at hs;generalize (ps.getD k (0,[])).2=xs at*;generalize (ps.getD k (0,[])).1=g at*;generalize cp k=mc at*;obtain⟨m,hm⟩:∃m,xs.length=m:=⟨_,rfl⟩
       obtain⟨L,hL⟩:∃L,(Nj ps k).length=L:=⟨_,rfl⟩
       rw[hm]at c1 hs;rw[hL]at hs HO;have HM:=Ab hm;have HLL:=Ab hL;clear hO hBr hrow hm hL;go_wp2_with (at_builtin;refine wpList_append_own_at _ rfl _ _ 77 rfl w.heap.size 3 i0 (.int .i64 0) 1 8 Tryz.underlying77 hi hz0 hz1 hz2 rfl (by decide) u6 L (iv (Nj ps k)) rfl (Aa HO) ⟨g,0,none⟩ m mc (iv xs) rfl (by rw[List.length_map,Aa HM,Nat.mul_one]) (Aa HRC) (Zgo xs) (by unfold maxLen;omega) (by omega) (by omega) ?_)
       intro v' w4 hO4 hgrow _ hspot
       have HO4:Hid (w4.ownsRow w.heap.size 3 1 v' (Nj ps (k+1)).length (iv (Nj ps (k+1)))):=by
        rw[Aa HN,List.length_append,Aa HLL,Aa HM];show w4.ownsRow w.heap.size 3 1 v' (L+m) (List.map (Value.int .i64) (Nj ps k++xs))
        rw[List.map_append];exact hO4
       have HB4:=Ab ((Aa HBr).grown hgrow (by omega) (fun g e=>((Aa HO).lt g e).1));clear hO4 hgrow hspot c1 HRC;go_wp2;go_roundw
       case rel=>exact⟨k+1,by omega,by go_num,Aa HO4,Aa HB4⟩
       case measure=>simp[intOf];omega
     . obtain rfl:len=k:=by omega
       clear hO hBr;go_wp2;go_ret;exact⟨u6,rfl,Aa HO,Aa HBr⟩
theorem Z7z (is:List (Nat×Nat×Nat))(i:Nat×Nat×Nat):Vc (is++ [i])=Qa (Vc is) i.1:=by
 unfold Vc Cc;simp[List.foldl_append]
theorem Zfu (is:List (Nat×Nat×Nat))(k:Nat):(Vc is).getD k 0<=is.length/\0<=(Vc is).getD k 0:=by
 by_cases hk:k<19
 . unfold Vc;rw[Fq _ _ k (by simpa using hk),Hi];have h1:=List.count_le_length (a:=k) (l:=is.map Prod.fst);rw[List.length_map]at h1;omega
 . have:(Vc is).getD k 0=0:=by
    simp only[List.getD];rw[List.getElem?_eq_none (by rw[Mr];omega)];rfl
   omega
theorem Z0j (T:TypeId)(g k:Nat)(n s:Int)(xs:List Int)(W:World)(hT:T=208)(h:ARow T W g xs)(hl:xs.length=19)(hk:k<19)(hx:0<=xs.getD k 0/\xs.getD k 0<=1000000):
 Calls Tryz.prog 138 #[.int .i64 (k:Int),.int .i64 n,.int .i64 s,.pointer (some ⟨g,0,none⟩)] W fun e w'=>e=.returned (.tuple #[])/\w'=W.setCell ⟨g,k,none⟩ (.int .i64 (xs.getD k 0+1)):=by
 have c:=h.cell k (by omega);have f:=h.frozen k;have hkI:(k:Int)<19:=by omega
 clear h hT;generalize xs.getD k 0=x at*;go_enter Tryz.func138,Tryz.ntmps138
 go_wp2;go_end0
 exact⟨rfl,rfl⟩
theorem Ze5 (g:Nat)(all:List (Nat×Nat×Nat))(h19:∀i∈all,i.1<19)(hlen:all.length<=100000):
 Snk3 (fun is W=>ARow 208 W g (Vc is)) (fun W W'=>Below g W W') 138 #[.pointer (some ⟨g,0,none⟩)] all:=by
 refine⟨Fd Tryz.func138 (by kernel_rfl) rfl, ?_,fun W=>Below.refl _ _,fun q h=>h,fun W q=>Ae (Below.refl _ _) q,fun h k=>h.trans k⟩;intro is R i W he hJ;have h4:=congrArg List.length he;rw[List.length_append,List.length_cons]at h4;have hk:=h19 i (by rw[<-he];simp);have hle:=Zfu is i.1;have hlt:=hJ.lt;refine(Z0j _ g i.1 i.2.1 i.2.2 (Vc is) W rfl hJ (Mr is) hk ⟨hle.2,by omega⟩).mono ?_;rintro e W' ⟨rfl,rfl⟩;refine⟨rfl, ?_, ?_⟩
 . rw[Z7z];exact hJ.set i.1 _
 . exact(Below.refl g W).grown (Ad W g i.1 _) (by omega) (fun j e=>by rw[<-Option.some.inj e];exact Nat.le_refl _)
theorem Z0i (No:Nat->Prop)(B gp gb gc gl gr rb:Nat)(a:Option Addr)(cap:Nat)(own:List Int)(k n s:Nat)(S:List Bool)(W:World)(hC:CIs No W gc gl gr rb a 19 cap own)(hl:own.length=19)(hG:Good own)(hq:k<19)(hpos:0<own.getD k 0)(hn:n<65536)(hs:s<=16)(h:RIs No B W rb S)(hS:S.length<=290000)(hNo:∀g,W.heap.size<=g->¬No g)
 (hp:W.cell? ⟨gp,0,none⟩=some (CV gc gl gr)) (hbx:W.cell? ⟨gb,0,none⟩=some (.pointer (some ⟨rb,0,none⟩))) (hgb:gb<W.heap.size/\No gb):
 Calls Tryz.prog 139 #[.int .i64 (k:Int),.int .i64 (n:Int),.int .i64 (s:Int),.pointer (some ⟨gp,0,none⟩),.pointer (some ⟨gb,0,none⟩)] W fun e w'=>e=.returned (.tuple #[])/\Rp No B W rb (S++Zfz own (k,n,s)) w':=by
 have hcl:=Ni own hG k;have h15:=(hG.ok k (by omega)).2;have H1:=Ab (Us No No B gc gl gr rb a 19 cap own k S W hC hl hG hq hpos h (by omega) hNo);have H2:=Ab (fun w1 (hR:Rp No B W rb (S++Bj own k) w1)=>Cz No B rb n s (S++Bj own k) w1 hR.is hn hs (by rw[List.length_append,hcl];omega) (fun g hg=>hNo g (by have:=hR.below.size;omega)));have H3:=Ab (fun w1 (hR:Rp No B W rb (S++Bj own k) w1)=>hR.kp.cell hgb.1 hgb.2 hbx);clear hC h hNo hcl h15 hG hgb;go_enter Tryz.func139,Tryz.ntmps139
 go_wp2_with fail
 refine(Aa H1).mono ?_;rintro e w1 ⟨rfl,hR⟩;have c1:=Aa H3 w1 hR;have HR:=Ab hR;clear hR;go_wp2_with fail
 refine(Aa H2 w1 (Aa HR)).mono ?_;rintro e w2 ⟨rfl,hR2⟩;have HR2:=Ab hR2;clear hR2;go_wp2;go_end0
 refine⟨rfl, ?_⟩;unfold Zfz;rw[<-List.append_assoc];exact(Aa HR).trans (Aa HR2)
theorem Og (x:Nat):∀f m,∀i∈Gd x f m,i.2.1<128/\i.2.2<=7
 |0,m,i,h=>by cases h
 |f+1,m,i,h=>by
  rw[Gd]at h;have ih:=Og x f
  split at h
  . cases h
  . split at h
    . rcases List.mem_cons.1 h with rfl|h
      . exact⟨Nat.zero_lt_succ _,Nat.zero_le _⟩
      . exact ih _ i h
    . split at h
      . rcases List.mem_cons.1 h with rfl|h
        . constructor<;>simp only<;>omega
        . exact ih _ i h
      . split at h
        . rcases List.mem_cons.1 h with rfl|h
          . constructor<;>simp only<;>omega
          . exact ih _ i h
        . rcases List.mem_cons.1 h with rfl|h
          . constructor<;>simp only<;>omega
          . exact ih _ i h
theorem Xq:∀(f:Nat) (l:List Int),∀i∈Ub f l,i.2.1<128/\i.2.2<=7
 |0,l,i,hi=>by cases hi
 |f+1,[],i,hi=>by cases hi
 |f+1,x::r,i,hi=>by
  have e:Ub (f+1) (x::r)=Oi x.toNat (Cb x r+1)++Ub f (r.drop (Cb x r)):=rfl;rw[e]at hi
  rcases List.mem_append.1 hi with hi|hi
  . unfold Oi at hi
    split at hi
    . rcases List.mem_cons.1 hi with rfl|h
      . exact⟨Nat.zero_lt_succ _,Nat.zero_le _⟩
      . exact Og _ _ _ i h
    . exact Og _ _ _ i hi
  . exact Xq f _ i hi
structure LJ (No:Nat->Prop)(B gp gb gc gl gr rb:Nat)(a:Option Addr)(cap:Nat)(own:List Int)(S:List Bool)(is:List (Nat×Nat×Nat))(W:World):Prop where
 row:RIs No B W rb (S++putRs own is)
 c:CIs No W gc gl gr rb a 19 cap own
 p:W.cell? ⟨gp,0,none⟩=some (CV gc gl gr)
 b:W.cell? ⟨gb,0,none⟩=some (.pointer (some ⟨rb,0,none⟩))
 lp:gp<W.heap.size/\No gp
 lb:gb<W.heap.size/\No gb
 no:∀g,W.heap.size<=g->¬No g
theorem Zcm (No:Nat->Prop)(B gp gb gc gl gr rb:Nat)(a:Option Addr)(cap:Nat)(own:List Int)(S:List Bool)(all:List Int)(hO:Own all own)(hlen:all.length<=1000)(hS:S.length<=280000):
 Snk3 (LJ No B gp gb gc gl gr rb a cap own S) (fun W W'=>Below B W W'/\Kp No W W') 139 #[.pointer (some ⟨gp,0,none⟩),.pointer (some ⟨gb,0,none⟩)] (lenIs all):=by
 refine⟨Fd Tryz.func139 (by kernel_rfl) rfl, ?_,fun W=>⟨Below.refl _ _,Kp.refl _ _⟩,fun q h=>⟨h.row.drewN q,h.c.keep (Nat.le_refl _) (fun _ _ _=>rfl),h.p,h.b,h.lp,h.lb,h.no⟩,fun W q=>⟨Ae (Below.refl _ _) q,fun _ _ _=>rfl⟩,fun h k=>⟨h.1.trans k.1,h.2.trans k.2 h.1.size⟩⟩;intro is R i W he hJ;have hk:=hO.has i (by rw[<-he];simp);have hr:=Xq all.length all i (by show i∈lenIs all;rw[<-he];simp);have hbits:=(Ka own hO.go (fun k=>(hO.vo k).2) all.length all).1
 have hb2:(putRs own is).length<=7*all.length:=by
  have e:putRs own (lenIs all)=putRs own is++putRs own (i::R):=by rw[<-he,Oj]
  have h2:(putRs own (lenIs all)).length<=7*all.length:=hbits;rw[e,List.length_append]at h2;omega
 obtain⟨k,n,s⟩:=i;have hlo:=hO.lo;refine(Z0i No B gp gb gc gl gr rb a cap own k n s (S++putRs own is) W hJ.c hO.lo hO.go (by rw[<-hlo];exact hk.1) hk.2 (by have:=hr.1;simp only at this;omega) (by have:=hr.2;simp only at this;omega) hJ.row (by rw[List.length_append];omega) hJ.no hJ.p hJ.b hJ.lb).mono ?_;rintro e W' ⟨rfl,hR⟩;have hz:=hR.below.size;have e:putRs own (is++ [(k,n,s)])=putRs own is++Zfz own (k,n,s):=by rw[Oj];simp[putRs]
 refine⟨rfl,⟨?_,hJ.c.keep hz (fun g hg hn=>hR.kp g hg hn),hR.kp.cell hJ.lp.1 hJ.lp.2 hJ.p,hR.kp.cell hJ.lb.1 hJ.lb.2 hJ.b,⟨Nat.lt_of_lt_of_le hJ.lp.1 hz,hJ.lp.2⟩,⟨Nat.lt_of_lt_of_le hJ.lb.1 hz,hJ.lb.2⟩,fun g hg=>hJ.no g (by omega)⟩,hR.below,hR.kp⟩;rw[e,<-List.append_assoc];exact hR.is
theorem Z0p {j:Nat}(h:j<19):Zbf.getD j 0=((ord19.getD j 0:Nat):Int)/\ord19.getD j 0<19:=by
 have:(List.range 19).all (fun j=>Zbf.getD j 0==((ord19.getD j 0:Nat):Int)&&decide (ord19.getD j 0<19))=true:=by decide
 have:=List.all_eq_true.1 this j (by simpa using h)
 simpa using this
theorem Rg (l:List Int)(n:Nat):Fu l n n=n:=by
 cases n with
 |zero=>rfl
 |succ n=>rw[Fu,if_neg (fun h=>by omega)]
theorem Ux (b1 b2:Nat)(l1 l2:List Int):Nj [(b1,l1),(b2,l2)] 2=l1++l2:=by simp[Nj]
theorem Z4n {w:World}{B n c g:Nat}{xs:List Int}(h:w.ownsRow B 3 1 (.slice (some ⟨g,0,none⟩) n c) n (iv xs))(hl:xs.length=n):Row .i64 w g 0 xs:=by
 intro j hj;rw[Nat.zero_add];have:=h.cellAt j (by omega)
 rw[this];simp[iv,List.getD,hj]
theorem Zg4 {w:World}{B e n c g:Nat}{xs:List Value}(h:w.ownsRow B e 1 (.slice (some ⟨g,0,none⟩) n c) n xs):n<=c:=by
 rcases h.2 with ⟨h1,h2⟩|⟨g',cap,cur,h1,h2,h3⟩
 . cases h1
 . cases h1
   exact h3.2.1
theorem Qi (No:Nat->Prop)(B rb b1 n1 c1 b2 n2 c2:Nat)(l1 l2:List Int)(S:List Bool)(w:World)(h:RIs No B w rb S)(hl1:l1.length=n1)(hl2:l2.length=n2)(h1a:257<=n1)(h1b:n1<=286)(h2a:1<=n2)(h2b:n2<=30)(hb1:b1<w.heap.size)(hb2:b2<w.heap.size)(hR1:Row .i64 w b1 0 l1)(hR2:Row .i64 w b2 0 l2)(hx:∀x∈l1++l2,0<=x/\x<=15)(hS:S.length<=277000)(hNo:∀g,w.heap.size<=g->¬No g):
 Calls Tryz.prog 114 #[.pointer (some ⟨rb,0,none⟩),.slice (some ⟨b1,0,none⟩) n1 c1,.slice (some ⟨b2,0,none⟩) n2 c2] w fun e w'=>e=.returned (.tuple #[])/\Own (l1++l2) (Z8i (l1++l2))/\Rp No B w rb (S++Qo l1 l2 (Z8i (l1++l2))) w':=by
 have HH:=Ab h;have HL1:=Ab hl1;have HL2:=Ab hl2;have HR1:=Ab hR1;have HR2:=Ab hR2;have HX:=Ab hx;have HNo:=Ab hNo;clear h hl1 hl2 hR1 hR2 hx hNo;obtain⟨all,hall⟩:∃all,l1++l2=all:=⟨_,rfl⟩
 rw[hall]at HX;have hal:all.length=n1+n2:=by rw[<-hall,List.length_append,Aa HL1,Aa HL2]
 have HALL:=Ab hall;have HAL:=Ab hal;clear hal;rw[hall];clear hall;obtain⟨own,hown⟩:∃own,Z8i all=own:=⟨_,rfl⟩
 rw[hown];have HOWN:=Ab hown;clear hown;obtain⟨N,hN⟩:∃N,n1+n2=N:=⟨_,rfl⟩
 have hN2:258<=N/\N<=316:=by omega
 have HN:=Ab hN;clear hN;obtain⟨OZ,hOZ⟩:∃OZ,Zbf=OZ:=⟨_,rfl⟩
 have HOZ:=Ab hOZ;have HOR:=Ab (fun W=>by have:=Xd W;rw[hOZ]at this;exact this);have hozl:OZ.length=19:=by rw[<-hOZ];rfl
 have hiO:(Tryz.prog.info? 208).map (·.size)=some (iv OZ).toArray.size:=by rw[Z9e];simp[hozl]
 clear hOZ;go_enter Tryz.func114,Tryz.ntmps114
 go_wp2_with fail
 refine(Z63 (w.heap.size+1) 0 2 2 (fun j=>if j=0 then c1 else c2) [(b1,l1),(b2,l2)] _ (by simp) ?_ ?_ ?_ ?_ (by decide)).mono ?_
 . intro j hj
   rcases(by omega:j=0\/j=1)with rfl|rfl
   . simp[Aa HL1]
   . simp[Aa HL2]
 . intro j hj
   rcases(by omega:j=0\/j=1)with rfl|rfl
   . exact .inr ⟨b1,0,rfl,by simp;omega,(((Aa HR1).alloc hb1 _).alloc (by simp;omega) _)⟩
   . exact .inr ⟨b2,0,rfl,by simp;omega,(((Aa HR2).alloc hb2 _).alloc (by simp;omega) _)⟩
 . intro k hk;have e1:=Aa HL1;have e2:=Aa HL2
   rcases(by omega:k=0\/k=1\/k=2)with rfl|rfl|rfl
   . simp[Nj]
   . simp[Nj];omega
   . rw[Ux,List.length_append];omega
 . have e1:=Aa HL1;rw[Ux,List.length_append];omega
 rw[Ux,Aa HALL,Aa HAL,Aa HN];rintro e wA ⟨v,rfl,hO,hBA⟩;obtain⟨g6,c6,rfl,hg61,hg62⟩:=Bm hO (by omega);have hRA:=Z4n hO (by rw[Aa HAL,Aa HN]);have hcA:=Zg4 hO;have hzA:=hBA.size;simp only[World.size_alloc]at hzA hg61;have hBwA:Below w.heap.size w wA:=(((Below.refl w.heap.size w).alloc (Nat.le_refl _) _).alloc (by simp) _).trans (hBA.mono (by simp;omega));have c0A:wA.cell? ⟨w.heap.size,0,none⟩=some (.pointer (some ⟨rb,0,none⟩)):=(hBA.cell (p:=⟨w.heap.size,0,none⟩) (by simp;omega)).trans (by simp);have HRA:=Ab hRA;have HBA:=Ab hBwA;clear hO hBA hRA hBwA;go_wp2_with fail
 refine(Aa HOR _).mono ?_;rintro e wB ⟨rfl,hBB⟩;have hzB:=hBB.size;have HBB:=Ab hBB;have A1:(wB.alloc (.cells (iv (List.replicate 19 0)).toArray 208)).heap[wB.heap.size]? =some (.cells (iv (List.replicate 19 0)).toArray 208 (0,0)):=heap_alloc_new _ _;have HA1:=Ab A1;clear hBB A1;go_upto_region 3 with (refine wpList_store_row rfl 208 (.tmp 7) (.tmp 17) rfl wB.heap.size _ rfl rfl 208 (iv (List.replicate 19 0)).toArray (Aa HA1) hiO (by simp[hozl]) (Cl OZ) ?_)
 simp only[Act.put];generalize hWC:World.setRow (World.alloc _ _) _ _=wC;have tO:ARow 208 wC wB.heap.size OZ:=by rw[<-hWC];exact setRow_heap _ _ _ _ _ _ (Aa HA1)
 have tB:Below w.heap.size w wC:=by rw[<-hWC];exact Au (((Aa HBA).trans ((Aa HBB).mono (by omega))).alloc (by omega) _) (by omega) _
 have tAB:Below wA.heap.size wA wC:=by rw[<-hWC];exact Au ((Aa HBB).alloc (by omega) _) (by omega) _
 have hzC:wB.heap.size<wC.heap.size:=by rw[<-hWC];simp
 clear hWC;have c0C:wC.cell? ⟨w.heap.size,0,none⟩=some (.pointer (some ⟨rb,0,none⟩)):=(tAB.cell (p:=⟨w.heap.size,0,none⟩) (by show w.heap.size<_;omega)).trans c0A;have HRC:Hid (Row .i64 wC g6 0 all):=Ab ((Aa HRA).below tAB hg62);have HTO:=Ab tO;have HTB:=Ab tB;clear tO tB tAB c0A HA1 HBB HBA HRA;go_wp2_with fail
 refine(Hp _ _ _ _ g6 0 N c6 all _ (Ze5 wC.heap.size (lenIs all) (Ua _ all (Aa HX)) ?_) (by rw[Aa HAL,Aa HN]) (by omega) hcA (Aa HX) ?_ ?_).mono ?_
 . have:=Xp all
   rw[Aa HAL,Aa HN]at this;omega
 . intro W hW;exact((Aa HRC).alloc (by omega) _).below hW (by omega)
 . exact(heap_alloc_new _ _).trans (by kernel_rfl)
 rintro e wD ⟨rfl,hJD,hBD⟩;have hzD:=hBD.size;simp only[World.size_alloc]at hzD;have HRD:Hid (Row .i64 wD g6 0 all):=Ab (((Aa HRC).alloc (by omega) _).below hBD (by omega));have HTD:Hid (ARow 208 wD wB.heap.size OZ):=Ab ((Aa HTO).keep ((hBD.block _ (by omega)).trans (Below.heap_alloc wC _ _ (by omega))));have HBD:Hid (Below w.heap.size w wD):=Ab (((Aa HTB).alloc (by omega) _).trans (hBD.mono (by omega)));have c0D:wD.cell? ⟨w.heap.size,0,none⟩=some (.pointer (some ⟨rb,0,none⟩)):=(hBD.cell (p:=⟨w.heap.size,0,none⟩) (by show w.heap.size<_;omega)).trans ((World.cell?_alloc_past _ _ _ (by show w.heap.size<_;omega)).trans c0C);have HJD:=Ab hJD;clear hJD hBD c0C HTO HTB HRC;have hgood:GoodW (Vc (lenIs all)) 7:=Wn (by rw[Aa HAL,Aa HN];omega);have HLO:=Ab (Gw (some ⟨wC.heap.size,0,none⟩) 19 19 (Vc (lenIs all)) 7 19 wD (Mr _) (.inr ⟨_,0,rfl,(Aa HJD).lt,(Aa HJD).row⟩) hgood (Nat.le_refl _) 19 (Ab (Rg _ _)));clear hgood;go_wp2_with fail
 refine(Aa HLO).mono ?_;rintro e wE ⟨g9,rfl,hI,hg91,hg92,hRE,hBE⟩;have hOwn:=Zih (by rw[Aa HAL,Aa HN];omega) (Aa HX) hI;have e0:lensD (Vc (lenIs all)) 7=own:=Aa HOWN;rw[e0]at hOwn hRE;clear hI e0 HLO
 have e1:trimL own 19=own:=by
  unfold trimL;rw[hOwn.lo,Rg];exact List.take_of_length_le (by rw[hOwn.lo];exact Nat.le_refl _)
 rw[e1]at hRE;clear e1;have hzE:=hBE.size;have HTE:Hid (ARow 208 wE wB.heap.size OZ):=Ab ((Aa HTD).keep (hBE.block _ (by omega)));have HRWE:Hid (Row .i64 wE g6 0 all):=Ab ((Aa HRD).below hBE (by omega));have HBE:Hid (Below w.heap.size w wE):=Ab ((Aa HBD).trans (hBE.mono (by omega)));have c0E:wE.cell? ⟨w.heap.size,0,none⟩=some (.pointer (some ⟨rb,0,none⟩)):=(hBE.cell (p:=⟨w.heap.size,0,none⟩) (by show w.heap.size<_;omega)).trans c0D;have HOW:=Ab hOwn;have HRO:=Ab hRE;clear hOwn hRE hBE c0D HJD HTD HRD HBD;obtain⟨No1,hNo1⟩:∃No1:Nat->Prop,No1=fun g=>No g\/ (w.heap.size<=g/\g<wE.heap.size):=⟨_,rfl⟩
 have hno1:∀g,wE.heap.size<=g->¬No1 g:=by
  intro g hg e;rw[hNo1]at e
  rcases e with e|e
  . exact Aa HNo g (by omega) e
  . omega
 have hr1:RIs No1 B wE rb S:=(Aa HH).grow (Aa HBE) (fun g e=>by
  rw[hNo1]at e
  rcases e with e|e
  . exact .inl e
  . exact .inr e.1)
 have hin1:∀g,w.heap.size<=g->g<wE.heap.size->No1 g:=fun g h1 h2=>by rw[hNo1];exact .inr ⟨h1,h2⟩
 have hle1:∀g,No g->No1 g:=fun g h1=>by rw[hNo1];exact .inl h1
 have HN1:=Ab hno1;have HI1:=Ab hin1;have HE1:=Ab hle1;have HRI:=Ab hr1;clear hno1 hin1 hle1 hr1 hNo1
 have hCO:∀W,Kp No1 wE W->(W.cell? ⟨w.heap.size,0,none⟩=some (.pointer (some ⟨rb,0,none⟩)))/\(∀q,q<19->W.cell? ⟨wB.heap.size,q,none⟩=some (.int .i64 ((ord19.getD q 0:Nat):Int)))/\(∀q,q<19->W.cell? ⟨g9,q,none⟩=some (.int .i64 (own.getD q 0))):=by
  intro W hW;refine⟨hW.cell (by omega) (Aa HI1 _ (Nat.le_refl _) (by omega)) c0E,fun q hq=> ?_,fun q hq=> ?_⟩
  . have:=(Aa HTE).cell q (by omega)
    rw[<-Aa HOZ,(Z0p hq).1]at this;exact hW.cell (by omega) (Aa HI1 _ (by omega) (by omega)) this
  . have:=Aa HRO q (by rw[(Aa HOW).lo];exact hq)
    rw[Nat.zero_add]at this;exact hW.cell (by omega) (Aa HI1 _ (by omega) (by omega)) this
 have HCO:=Ab hCO;obtain⟨cE0,cE1,cE2⟩:=hCO wE (Kp.refl _ _);have HC1:=Ab cE1;have HC2:=Ab cE2;clear hCO cE1 cE2 cE0;obtain⟨M,hM⟩:∃M,Z0o own 19=M:=⟨_,rfl⟩
 have hM2:4<=M/\M<=19:=by rw[<-hM];exact⟨Z8h own 19 (by decide),Z0n own 19⟩
 have HM:=Ab hM;clear hM;go_upto_block 0 with (fail)
 go_cut [10] (fun v wc=>v=.int .i64 (M:Int)/\wE=wc)
 case first=>
  go_wp2;go_loop [10] (fun v=>∃k:Nat,4<=k/\k<=19/\v=.int .i64 (k:Int)/\Hid (Z0o own k=M)) (fun v=>(intOf v).toNat)
  case atStart=>exact⟨19,by decide,by decide,rfl,HM⟩
  case round=>
   obtain⟨k,hk4,hk19,rfl,ht⟩:=hrel
   by_cases h4:4<k
   . obtain⟨q,rfl⟩:∃q,k=q+1:=⟨k-1,by omega⟩
     have d1:=Aa HC1 q (by omega);have ho:=(Z0p (j:=q) (by omega)).2;have d2:=Aa HC2 _ ho;have h4I:(4:Int)<((q+1:Nat):Int):=by omega
     have i1:(((q+1:Nat):Int)-1).toNat=q:=by omega
     have i2:(0:Int)<=((q+1:Nat):Int)-1:=by omega
     have i3:((q+1:Nat):Int)-1<(19:Int):=by omega
     have hoI:((ord19.getD q 0:Nat):Int)<19:=by omega
     by_cases h0:own.getD (ord19.getD q 0) 0=0
     . rw[h0]at d2;have HT:Hid (Z0o own q=M):=Ab (by have:=Aa ht;rw[Z0o,if_pos ⟨h4,h0⟩]at this;exact this);clear h0 ht;generalize ord19.getD q 0=oq at*;go_wp2;go_round
       case rel=>exact⟨q,by omega,by omega,by go_num,HT⟩
       case measure=>simp[intOf]
     . have HT:Hid (q+1=M):=Ab (by have:=Aa ht;rw[Z0o,if_neg (fun h=>h0 h.2)]at this;exact this);have hb:(own.getD (ord19.getD q 0) 0==0)=false:=by rw[beq_eq_false_iff_ne];exact h0
       generalize own.getD (ord19.getD q 0) 0=x at d2 hb;generalize ord19.getD q 0=oq at*;clear h0 ht;go_wp2;go_meet
       exact⟨by rw[<-Aa HT];go_num,rfl⟩
   . have HT:Hid (k=M):=Ab (by
      have:=Aa ht
      cases k with
      |zero=>rw[Z0o]at this;exact this
      |succ k=>rw[Z0o,if_neg (fun h=>h4 h.1)]at this;exact this)
     have h4I:¬(4:Int)<(k:Int):=by omega
     clear ht;go_wp2;go_meet
     exact⟨by rw[<-Aa HT],rfl⟩
 case rest=>
  obtain⟨rfl,rfl⟩:=hcut;have hrb:=(Aa HH).base;have hrl:=(Aa HH).lt;have P1:=Cz No1 B rb (n1-257) 5 S wE (Aa HRI) (by omega) (by decide) (by omega) (Aa HN1);rw[show ((n1-257:Nat):Int)=(n1:Int)-257 by omega]at P1;have HP1:=Ab P1;clear P1;go_wp2_with fail
  refine(Aa HP1).mono ?_;rintro e w1 ⟨rfl,q1⟩;have c01:=(Aa HCO w1 q1.kp).1;have P2:=Cz No1 B rb (n2-1) 5 (S++Ak (n1-257) 5) w1 q1.is (by omega) (by decide) (by rw[List.length_append,Af];omega) (fun g hg=>Aa HN1 g (by have:=q1.below.size;omega));rw[show ((n2-1:Nat):Int)=(n2:Int)-1 by omega]at P2;have HP2:=Ab P2;have HQ1:=Ab q1;clear P2 q1 HP1;go_wp2_with fail
  refine(Aa HP2).mono ?_;rintro e w2 ⟨rfl,q2⟩;have q2':=(Aa HQ1).trans q2;have c02:=(Aa HCO w2 q2'.kp).1;have P3:=Cz No1 B rb (M-4) 4 (S++Ak (n1-257) 5++Ak (n2-1) 5) w2 q2'.is (by omega) (by decide) (by rw[List.length_append,List.length_append,Af,Af];omega) (fun g hg=>Aa HN1 g (by have:=q2'.below.size;omega));rw[show ((M-4:Nat):Int)=(M:Int)-4 by omega]at P3;have HP3:=Ab P3;have HQ2:=Ab q2';clear P3 q2 q2' HP2 c01;go_wp2_with fail
  refine(Aa HP3).mono ?_;rintro e w3 ⟨rfl,q3⟩;have q3':=(Aa HQ2).trans q3;obtain⟨S3,hS3⟩:∃S3,S++Ak (n1-257) 5++Ak (n2-1) 5++Ak (M-4) 4=S3:=⟨_,rfl⟩
  rw[hS3]at q3';have hl3:S3.length=S.length+14:=by rw[<-hS3];simp[Af]
  have HS3:=Ab hS3;have HQ3:=Ab q3';clear q3 q3' HP3 c02 hS3 HQ2 HQ1;go_wp2;go_loopw [52] (fun v wr=>∃k:Nat,k<=M/\v=.int .i64 (k:Int)/\Hid (Rp No1 B wE rb (S3++(ord19.take k).flatMap (fun j=>Ak (own.getD j 0).toNat 3)) wr)) (fun v _=>M-(intOf v).toNat)
  case atStart=>exact⟨0,Nat.zero_le _,rfl,Ab (by simpa using Aa HQ3)⟩
  case round=>
   obtain⟨k,hk,rfl,hst⟩:=hrel;have hp:=Aa hst;obtain⟨d0,d1,d2⟩:=Aa HCO wr hp.kp
   by_cases hlt:k<M
   . have e1:=d1 k (by omega);have ho:=(Z0p (j:=k) (by omega)).2;have e2:=d2 _ ho;have hv:=(Aa HOW).vo (ord19.getD k 0)
     have hstep:S3++(ord19.take (k+1)).flatMap (fun j=>Ak (own.getD j 0).toNat 3)=S3++(ord19.take k).flatMap (fun j=>Ak (own.getD j 0).toNat 3)++Ak (own.getD (ord19.getD k 0) 0).toNat 3:=by
      have:ord19.take (k+1)=ord19.take k++ [ord19.getD k 0]:=by
       rw[List.take_add_one];have hk2:k<ord19.length:=by show k<19;omega
       simp[List.getD,hk2]
      rw[this];simp
     have hlen:=Mv own (ord19.take k);have htk:(ord19.take k).length<=19:=by rw[List.length_take];exact Nat.min_le_right _ _
     obtain⟨S4,hS4⟩:∃S4,S3++(ord19.take k).flatMap (fun j=>Ak (own.getD j 0).toNat 3)=S4:=⟨_,rfl⟩
     have hl4:S4.length<=S.length+71:=by rw[<-hS4,List.length_append,hlen];omega
     rw[hS4]at hstep hp;obtain⟨oq,hoq⟩:∃oq,ord19.getD k 0=oq:=⟨_,rfl⟩
     rw[hoq]at e1 ho e2 hv hstep;obtain⟨x,hx⟩:=Int.eq_ofNat_of_zero_le hv.1;rw[hx]at e2 hv hstep;rw[Int.toNat_natCast]at hstep;have HPT:=Ab (fun j=>Cz No1 B rb x 3 S4 (wr.drewN j) (hp.is.drewN j) (by omega) (by decide) (by omega) (fun g hg=>Aa HN1 g (by have:=hp.below.size;have h2:wr.heap.size<=g:=hg;omega)));have HRD:=Ab (fun j=>hp.is.drew j);have HST:=Ab hstep;have HP:=Ab hp;have hoI:(oq:Int)<19:=by omega
     have hkI:(k:Int)<(M:Int):=by omega
     have hk19:(k:Int)<19:=by omega
     clear hst hp d1 d2 hstep hlen htk hS4 hoq hx hv;go_wp2;go_region_with (go_at_call 75;refine(Aa HPT _).mono ?_;rintro e w4 ⟨rfl,hR⟩;have HR:=Ab ((Aa HP).trans ((Aa HRD _).trans hR));clear hR)
     all_goals try go_wp2
     all_goals go_roundw
     all_goals first|exact⟨k+1,by omega,by go_num,Ab (by rw[Aa HST];exact Aa HR)⟩|(simp[intOf];omega)
   . obtain rfl:k=M:=by omega
     have hz3:=hp.below.size;have hCD:=Pt g9 0 rb 19 19 own wr (Aa HOW).lo (by decide) (by omega) (fun j hj=>by rw[Nat.zero_add];exact d2 j (by rw[<-(Aa HOW).lo];exact hj)) (Aa HOW).go;have HCD:=Ab hCD;have HP:=Ab hp;clear hst hp d1 d2 hCD;go_wp2_with fail
     refine(Aa HCD).mono ?_;rintro e wF ⟨gc,gl,gr,rfl,hC,hBF⟩;have hzF:=hBF.size;have c0F:wF.cell? ⟨w.heap.size,0,none⟩=some (.pointer (some ⟨rb,0,none⟩)):=(hBF.cell (p:=⟨w.heap.size,0,none⟩) (by show w.heap.size<_;omega)).trans d0;have HC:=Ab hC;have HBF:=Ab hBF;clear hC hBF d0 HCD;obtain⟨No2,hNo2⟩:∃No2:Nat->Prop,No2=fun g=>No1 g\/ (wr.heap.size<=g/\g<wF.heap.size+1):=⟨_,rfl⟩
     have hz2:wE.heap.size<=wr.heap.size:=hz3;obtain⟨SK,hSK⟩:∃SK,S3++(ord19.take k).flatMap (fun j=>Ak (own.getD j 0).toNat 3)=SK:=⟨_,rfl⟩
     have hlK:SK.length<=278000:=by
      have h1:=Mv own (ord19.take k);have h2:(ord19.take k).length<=19:=by rw[List.length_take];exact Nat.min_le_right _ _
      rw[<-hSK,List.length_append,h1];omega
     have hgE:S++Qo l1 l2 own=SK++putRs own (lenIs all):=by
      unfold Qo;rw[Aa HL1,Aa HL2,Aa HALL,Aa HM,<-hSK,<-Aa HS3];simp[List.append_assoc]
     rw[hSK]at HP;have HGE:=Ab hgE;have HRF:Hid (Row .i64 wF g6 0 all):=Ab (fun j hj=>(Aa HBF).cell (p:=⟨g6,_,none⟩) (by show g6<_;omega)|>.trans ((Aa HP).kp.cell (by omega) (Aa HI1 g6 (by omega) (by omega)) (Aa HRWE j hj)));have hBX:∀X:Obj,Below wr.heap.size wr (wF.alloc X):=fun X=>(Aa HBF).alloc (by omega) X
     have hJ0:LJ No2 B wF.heap.size w.heap.size gc gl gr rb (some ⟨g9,0,none⟩) 19 own SK [] (wF.alloc (.cells #[CV gc gl gr] 97)):=by
      refine⟨?_, ?_,by simp,(World.cell?_alloc_past _ _ _ (by show w.heap.size<_;omega)).trans c0F,⟨by simp, ?_⟩,⟨by simp;omega, ?_⟩, ?_⟩
      . have e:SK++putRs own []=SK:=by simp[putRs]
        rw[e];refine(Aa HP).is.grow (hBX _) (fun g e=> ?_);rw[hNo2]at e
        rcases e with e|e
        . exact .inl e
        . exact .inr e.1
      . refine((Aa HC).bound.keep (by simp) (fun g hg _=>Below.heap_alloc wF _ g hg)).more (fun g hb=> ?_);rw[hNo2]
        rcases hb with ⟨hb|hb,hb2⟩
        . exact .inr ⟨hb,by omega⟩
        . rw[hb];exact .inl (Aa HI1 g9 (by omega) (by omega))
      . rw[hNo2];exact .inr ⟨by omega,by omega⟩
      . rw[hNo2];exact .inl (Aa HI1 _ (Nat.le_refl _) (by omega))
      . intro g hg e;simp only[World.size_alloc]at hg;rw[hNo2]at e
        rcases e with e|e
        . exact Aa HN1 g (by omega) e
        . omega
     have hin2:No2 g6:=by rw[hNo2];exact .inl (Aa HI1 g6 (by omega) (by omega))
     have hle2:∀g,No1 g->No2 g:=fun g hg=>by rw[hNo2];exact .inl hg
     have HJ0:=Ab hJ0;have HIN2:=Ab hin2;have HLE2:=Ab hle2;have HBX:=Ab hBX;clear hNo2 hJ0 hin2 hle2 hBX hSK hgE;go_wp2_with fail
     refine(Hp _ _ _ _ g6 0 N c6 all _ (Zcm No2 B wF.heap.size w.heap.size gc gl gr rb (some ⟨g9,0,none⟩) 19 own SK all (Aa HOW) (by rw[Aa HAL,Aa HN];omega) (by omega)) (by rw[Aa HAL,Aa HN]) (by omega) hcA (Aa HX) ?_ (Aa HJ0)).mono ?_
     . intro W hW j hj;exact hW.2.cell (by simp;omega) (Aa HIN2) ((World.cell?_alloc_past _ _ _ (by show g6<_;omega)).trans (Aa HRF j hj))
     rintro e wG ⟨rfl,hJG,hBG,hKG⟩
     have HFIN:Hid (Rp No B w rb (S++Qo l1 l2 own) wG):=by
      have hz4:=hBG.size;simp only[World.size_alloc]at hz4;refine⟨?_, ?_, ?_⟩
      . rw[Aa HGE];exact hJG.row.grow (Below.refl _ _) (fun g e=>.inl (Aa HLE2 g (Aa HE1 g e)))
      . exact((Aa HBE).mono (by omega)).trans ((Aa HP).below.trans (((Aa HBX _).mono (by omega)).trans hBG))
      . intro g hg hn;have h1:=Aa HE1 g hn;rw[hKG g (by simp;omega) (Aa HLE2 g h1),(Aa HBX _).block g (by omega),(Aa HP).kp g (by omega) h1];exact(Aa HBE).block g hg
     clear hJG hBG hKG;go_wp2;go_end0
     exact⟨rfl,Aa HOW,Aa HFIN⟩
end Go.Proofs.YtcjbgpacnkilnaiGreatDoor
