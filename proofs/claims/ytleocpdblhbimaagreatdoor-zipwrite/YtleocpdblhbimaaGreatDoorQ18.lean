import Derived.Laws.CopyOwn
import Derived.Laws.BitsAllLaws
import Derived.Deep.RegionHeld3
import Derived.OwnWalk
import Derived.Test.YtleocpdblhbimaaGreatDoorQ17
set_option linter.unusedSimpArgs false
set_option maxHeartbeats 2000000
namespace Go.Proofs.YtleocpdblhbimaaGreatDoor
open Go.RowKit
set_option linter.unusedVariables false
set_option maxRecDepth 100000
theorem JT (n:Nat)(hn:n<4294967296):bits .and .u64 (n:Int) 4294967295=(n:Int):=by
 have h:=u64_and_nat n 4294967295 (by omega) (by omega)
 have e:n&&&4294967295=n:=by
  rw[show (4294967295:Nat)=2^32-1 by rfl,Nat.and_two_pow_sub_one_eq_mod];exact ZH hn
 rw[e]at h;simpa using h
theorem JQ (n:Nat)(w:World)(hn:n<4294967296):Calls Tryz.prog 194 #[.int .u64 1,.int .u64 (n:Int)] w fun e w'=>e=.returned (.tuple #[.int .u64 0,.int .u64 (n:Int)])/\w'=w:=by
 have hA:bits .and .u64 1 4294967295=1:=by simpa using JT 1 (by omega)
 have hC:bits .and .u64 0 4294967295=0:=by simpa using JT 0 (by omega)
 have hB:=JT n hn;have hD:(n:Int)/4294967296=0:=by omega
 have hW:IntKind.u64.wrap (n:Int)=(n:Int):=by simp[IntKind.wrap,IntKind.signed,IntKind.bits];omega
 have hW0:IntKind.u64.wrap 0=0:=by decide
 go_enter Tryz.func194,Tryz.ntmps194
 go_wp2;go_ret2;exact⟨rfl,rfl⟩
theorem mul_one (n:Nat)(w:World)(hn:n<4294967296):Calls Tryz.prog 160 #[.int .u64 1,.int .u64 (n:Int)] w fun e w'=>e=.returned (.tuple #[.int .u64 0,.int .u64 (n:Int)])/\w'=w:=by
 go_enter Tryz.func160,Tryz.ntmps160
 go_wp2_with fail
 refine(JQ n w hn).mono ?_;rintro e w' ⟨rfl,rfl⟩;go_wp2;go_ret2;exact⟨rfl,rfl⟩
def Ub (x:Int)(c n:Nat):List Value:=iv (List.replicate c x++List.replicate (n-c) 0)
theorem Qm (x:Int)(c n:Nat)(h:c<=n):(Ub x c n).length=n:=by simp[Ub];omega
theorem Ql (x:Int)(c d n:Nat)(h:c+d<=n):splice (Ub x c n) c (iv (List.replicate d x))=Ub x (c+d) n:=by
 unfold splice Ub iv;rw[WS,YP (by simp),WG,VV]
 have e:List.drop (c+d) (List.map (Value.int .i64) (List.replicate c x)++List.map (Value.int .i64) (List.replicate (n-c) 0))=List.map (Value.int .i64) (List.replicate (n-(c+d)) 0):=by
  rw[List.drop_append];simp
  omega
 rw[e,<-VH,<-WS,<-WS]
 congr 2
 rw[XY]
theorem IF {w:World}{g n c:Nat}{x:Int}(h:w.heap[g]? =some (.cells (Ub x c n).toArray 3 (0,0)))(d:Nat)(hd:d<=c):∀j v,(iv (List.replicate d x))[j]? =some v->w.cell? ((⟨g,0,none⟩:Addr).add j)=some v:=by
 intro j v hj;have e:(⟨g,0,none⟩:Addr).add j=⟨g,j,none⟩:=by unfold Addr.add;split<;>simp_all
 rw[e,cell_of_row w g j _ _ _ h]
 have hj2:j<d:=by
  by_cases c':j<d
  . exact c'
  . rw[WN (by simp;omega)]at hj;cases hj
 simp[hj2]at hj
 subst hj;simp[Ub,List.getElem?_append,show j<c by omega]
theorem CK (b o cc:Nat)(x:Int)(n:Nat)(w:World)(hb:b<w.heap.size)(hc:w.cell? ⟨b,o,none⟩=some (.int .i64 x))(h1:1<=n)(hn:n<=1000):
 Calls Tryz.prog 123 #[.slice (some ⟨b,o,none⟩) 1 cc,.int .i64 (n:Int)] w fun e w'=>e=.returned (.slice (some ⟨w.heap.size,0,none⟩) n n)/\w'.heap[w.heap.size]? =some (.cells (Ub x n n).toArray 3 (0,0))/\Below w.heap.size w w':=by
 obtain⟨i0,hi,hz0,hz1,hz2⟩:=info_parts Cc;have hsz:(Tryz.prog.info? 3).map (·.size)=some 1:=by rw[hi];simp[hz1]
 have hW:IntKind.u64.wrap (n:Int)=(n:Int):=by simp[IntKind.wrap,IntKind.signed,IntKind.bits];omega
 have hW1:IntKind.u64.wrap 1=1:=by decide
 go_enter Tryz.func123,Tryz.ntmps123
 go_wp2_with fail
 refine(mul_one n w (by omega)).mono ?_;rintro e w1 ⟨rfl,rfl⟩;go_wp2_with (at_make;refine wpList_make_full _ rfl _ _ 76 rfl w1.heap.size 3 i0 (.int .i64 0) 1 Tryz.underlying76 hi hz0 hz1 _ _ _ _ n rfl rfl rfl rfl (by rw[hz2];omega) (by unfold maxLen;omega) (VC _) ?_)
 intro w2 hO2 hg2
 have hg2':w2.heap[w1.heap.size]? =some (.cells (Ub x 0 n).toArray 3 (0,0)):=by
  rcases hO2.2 with ⟨h,_⟩|⟨g,cap,cur,h,_,h3,h4,h5,h6,h7⟩
  . cases h
  . simp only[Value.slice.injEq,YK,Addr.mk.injEq]at h;obtain⟨⟨rfl,_⟩,_,rfl⟩:=h;rw[h3]
    congr 2
    have e1:cur.toList.take (n*1)=cur.toList:=VP (by simp[h6]);rw[e1]at h7
    have e2:cur.toList=Ub x 0 n:=by
     rw[h7];show (madeCells #[Value.int .i64 0] n).toList=_
     rw[toList_madeCells_one];simp[Ub]
    rw[<-e2]
 have HG2:=Ab hg2';have HB2:=Ab (Gz (Below.refl w1.heap.size w1) hg2 (VC _));have hc2:w2.cell? ⟨b,o,none⟩=some (.int .i64 x):=hg2.cell hc (by simp);have hz2':=hg2.size;clear hO2 hg2 hg2' hc
 have hs1:∀j v,(iv (List.replicate 1 x))[j]? =some v->w2.cell? ((⟨b,o,none⟩:Addr).add j)=some v:=by
  intro j v hj
  match j,hj with
  |0,hj=>
   simp at hj
   subst hj;simpa[Addr.add]using hc2
 have hs2:(iv (List.replicate 1 x)).length=Nat.min 1 n:=by
  show 1=min 1 n
  omega
 have hs3:0+(iv (List.replicate 1 x)).length<=(Ub x 0 n).length:=by
  rw[Qm x 0 n (VK _)];show 0+1<=n
  omega
 have hs4:∀v∈iv (List.replicate 1 x),v.oneCell'=true:=by intro v hv;simp at hv;subst hv;rfl
 have HS1:=Ab hs1;have HS2:=Ab hs2;have HS3:=Ab hs3;have HS4:=Ab hs4;clear hs1 hs2 hs3 hs4;go_wp2_with (refine wpList_copy_splice rfl (.tmp 31) (.tmp 32) 76 76 rfl 3 Tryz.underlying76 hsz (some ⟨w1.heap.size,0,none⟩) (some ⟨b,o,none⟩) n n 1 cc rfl rfl w1.heap.size 0 (Ub x 0 n) 3 (Aa HG2) (iv (List.replicate 1 x)) (Aa HS2) (fun _=>⟨rfl,_,rfl,Aa HS1⟩) (Aa HS3) (Aa HS4) w1.heap.size w1 (Aa HB2) (VC _) ?_)
 intro w3 hg3 hb3
 have HG3:Hid (w3.heap[w1.heap.size]? =some (.cells (Ub x 1 n).toArray 3 (0,0))):=by
  have e:=Ql x 0 1 n (by omega);rw[WI]at e;rw[<-e];exact hg3
 have HB3:=Ab hb3;clear hg3 hb3 hc2;go_wp2;go_loopw [8] (fun v8 wr=>∃c:Nat,1<=c/\c<=n/\v8=.int .i64 (c:Int)/\wr.heap[w1.heap.size]? =some (.cells (Ub x c n).toArray 3 (0,0))/\Below w1.heap.size w1 wr) (fun v8 _=>n-(intOf v8).toNat)
 case atStart=>exact⟨1,VC _,h1,rfl,Aa HG3,Aa HB3⟩
 case round=>
  obtain⟨c,hc1,hcn,rfl,hG,hBr⟩:=hrel;have HG:=Ab hG;have HBr:=Ab hBr;clear hG hBr
  by_cases hlt:c<n
  . obtain⟨d,hd⟩:∃d,d=Nat.min c (n-c):=⟨_,rfl⟩
    have hd1:d<=c/\c+d<=n/\1<=d:=by
     have hd':d=min c (n-c):=hd;omega
    obtain⟨hd1,hd2,hd3⟩:=hd1;have hcn2:¬n=c:=by omega
    have hn0:¬n=0:=by omega
    have HD:=Ab hd;have ht2:(iv (List.replicate d x)).length=Nat.min c (n-c):=by simp[hd]
    have ht3:c+(iv (List.replicate d x)).length<=(Ub x c n).length:=by rw[Qm x c n hcn];simp;omega
    have ht4:∀v∈iv (List.replicate d x),v.oneCell'=true:=by intro v hv;simp at hv;obtain⟨_,rfl⟩:=hv;rfl
    have HT2:=Ab ht2;have HT3:=Ab ht3;have HT4:=Ab ht4;clear hd ht2 ht3 ht4;go_wp2;go_region_held3 (fun _=>True) (trivial) (first|(refine step_copy_splice rfl (.tmp 41) (.tmp 44) 76 76 rfl 3 Tryz.underlying76 hsz (some ⟨w1.heap.size,c,none⟩) (some ⟨w1.heap.size,0,none⟩) (n-c) (n-c) c n (by simp[Act.eval]) (by simp[Act.eval]) w1.heap.size c (Ub x c n) 3 (Aa HG) (iv (List.replicate d x)) (Aa HT2) (fun _=>⟨rfl,_,rfl,IF (Aa HG) d hd1⟩) (Aa HT3) (Aa HT4) w1.heap.size w1 (Af (Aa HBr) 1) (VC _) ?_;intro w4 hg4 hb4))
    have HG4:Hid (w4.heap[w1.heap.size]? =some (.cells (Ub x (c+d) n).toArray 3 (0,0))):=by
     rw[<-Ql x c d n hd2];exact hg4
    have HB4:=Ab hb4;clear hg4 hb4
    have hwr:IntKind.i64.wrap ((c:Int)+(d:Int))=((c+d:Nat):Int):=by
     simp[IntKind.wrap,IntKind.signed,IntKind.bits];omega
    go_wp2;go_roundw
    case rel=>exact⟨c+d,by omega,by omega,by rw[hwr],Aa HG4,Aa HB4⟩
    case measure=>rw[hwr];simp[intOf];omega
  . obtain rfl:n=c:=by omega
    go_wp2;go_ret;exact⟨rfl,Aa HG,Aa HBr⟩
theorem CE {w:World}{g n:Nat}{x:Int}(h:w.heap[g]? =some (.cells (Ub x n n).toArray 3 (0,0))):RowIn .i64 w (some ⟨g,0,none⟩) (List.replicate n x):=by
 refine .inr ⟨g,0,rfl,(VL.1 h).1, ?_⟩;intro j hj;rw[WI,cell_of_row w g j _ _ _ h];have hj':j<n:=by simpa using hj
 simp[Ub,List.getD,hj']
theorem Cy (x:Int)(n:Nat)(w:World)(h1:1<=n)(hn:n<=1000):
 Calls Tryz.prog 123 #[.slice (some ⟨w.heap.size,0,none⟩) 1 1,.int .i64 (n:Int)] (w.alloc (.cells #[.int .i64 x] 3)) fun e w'=>e=.returned (.slice (some ⟨w.heap.size+1,0,none⟩) n n)/\RowIn .i64 w' (some ⟨w.heap.size+1,0,none⟩) (List.replicate n x)/\Below w.heap.size w w'/\w.heap.size+1<w'.heap.size:=by
 refine(CK w.heap.size 0 1 x n _ (by simp) (by simp) h1 hn).mono ?_;rintro e w' ⟨rfl,hg,hB⟩;rw[World.size_alloc]at hg hB;exact⟨by rw[World.size_alloc],CE hg,((Below.refl w.heap.size w).alloc (VC _) _).trans (hB.mono (by omega)),(VL.1 hg).1⟩
def LK (g1 g2 g3 g4:Nat):List (Nat×List Int):= [(g1,List.replicate 144 8),(g2,List.replicate 112 9),(g3,List.replicate 24 7),(g4,List.replicate 8 8)]
theorem BA (g1 g2 g3 g4:Nat):Jf (LK g1 g2 g3 g4) 4=Mb:=rfl
theorem Z2i (g1 g2 g3 g4:Nat):∀k,k<=4->(Jf (LK g1 g2 g3 g4) k).length<=1000:=by
 intro k hk
 match k,hk with
 |0,_=>simp[Jf]
 |1,_=>simp[Jf,LK]
 |2,_=>simp[Jf,LK]
 |3,_=>simp[Jf,LK]
 |4,_=>simp[Jf,LK]
theorem LN (w:World):Calls Tryz.prog 94 #[] w fun e w'=>∃g1 c1 g2,e=.returned (.tuple #[.slice (some ⟨g1,0,none⟩) 288 c1,.slice (some ⟨g2,0,none⟩) 32 32])/\w.heap.size<=g1/\w.heap.size<=g2/\RowIn .i64 w' (some ⟨g1,0,none⟩) Mb/\RowIn .i64 w' (some ⟨g2,0,none⟩) Ja/\Below w.heap.size w w':=by
 go_enter Tryz.func94,Tryz.ntmps94
 go_wp2_with fail
 refine(Cy 8 144 w (by omega) (by omega)).mono ?_;rintro e w1 ⟨rfl,hR1,hB1,hs1⟩;have HR1:=Ab hR1;have HB1:=Ab hB1;have hz1:=hB1.size;clear hR1 hB1;go_wp2_with fail
 refine(Cy 9 112 w1 (by omega) (by omega)).mono ?_;rintro e w2 ⟨rfl,hR2,hB2,hs2⟩;have HRa2:=Ab ((Aa HR1).below hB2 (VC _));have HRb2:=Ab hR2;have HB2:=Ab ((Aa HB1).trans (hB2.mono hz1));have hz2:=WC hz1 hB2.size;have hz12:=hB2.size;clear hR2 hB2 HR1 HB1;go_wp2_with fail
 refine(Cy 7 24 w2 (by omega) (by omega)).mono ?_;rintro e w3 ⟨rfl,hR3,hB3,hs3⟩;have HRa3:=Ab ((Aa HRa2).below hB3 (VC _));have HRb3:=Ab ((Aa HRb2).below hB3 (VC _));have HRc3:=Ab hR3;have HB3:=Ab ((Aa HB2).trans (hB3.mono hz2));have hz3:=WC hz2 hB3.size;have hz23:=hB3.size;clear hR3 hB3 HRa2 HRb2 HB2;go_wp2_with fail
 refine(Cy 8 8 w3 (by omega) (by omega)).mono ?_;rintro e w4 ⟨rfl,hR4,hB4,hs4⟩;have HRa4:=Ab ((Aa HRa3).below hB4 (VC _));have HRb4:=Ab ((Aa HRb3).below hB4 (VC _));have HRc4:=Ab ((Aa HRc3).below hB4 (VC _));have HRd4:=Ab hR4;have HB4:=Ab ((Aa HB3).trans (hB4.mono hz3));have hz4:=WC hz3 hB4.size;clear hR4 hB4 HRa3 HRb3 HRc3 HB3;generalize hg1:w.heap.size+1=g1 at*;generalize hg2:w1.heap.size+1=g2 at*;generalize hg3:w2.heap.size+1=g3 at*;generalize hg4:w3.heap.size+1=g4 at*;have HBc:=Ab ((Aa HB4).alloc hz4 (.cells #[.slice (some ⟨g1,0,none⟩) 144 144,.slice (some ⟨g2,0,none⟩) 112 112,.slice (some ⟨g3,0,none⟩) 24 24,.slice (some ⟨g4,0,none⟩) 8 8] 76))
 have HC:=Ab (EV w4.heap.size 0 4 4 (LK g1 g2 g3 g4) (w4.alloc (.cells #[.slice (some ⟨g1,0,none⟩) 144 144,.slice (some ⟨g2,0,none⟩) 112 112,.slice (some ⟨g3,0,none⟩) 24 24,.slice (some ⟨g4,0,none⟩) 8 8] 76)) (by simp) (by
  intro j hj
  match j,hj with
  |0,_=>simp[LK]
  |1,_=>simp[LK]
  |2,_=>simp[LK]
  |3,_=>simp[LK]) (by
  intro j hj
  match j,hj with
  |0,_=>exact(Aa HRa4).alloc _
  |1,_=>exact(Aa HRb4).alloc _
  |2,_=>exact(Aa HRc4).alloc _
  |3,_=>exact(Aa HRd4).alloc _) (Z2i g1 g2 g3 g4) (by rw[BA];simp[Mb]) (by omega))
 rw[BA]at HC;have hlenA:Mb.length=288:=by simp[Mb]
 rw[hlenA]at HC;clear hg1 hg2 hg3 hg4;go_wp2_with fail
 refine(Aa HC).mono ?_;rintro e w5 ⟨v5,rfl,hO5,hB5⟩;obtain⟨g5,c5,rfl,hg5,hg5'⟩:=Be hO5 (by omega);have HR5:=Ab (RowIn.iv hO5);have HB5:=Ab ((Aa HBc).trans (hB5.mono (by simp;omega)));have hz5:=hB5.size;simp only[World.size_alloc]at hz5 hg5;clear hO5 hB5 HC HBc HRa4 HRb4 HRc4 HRd4 HB4;go_wp2_with fail
 refine(Cy 5 32 w5 (by omega) (by omega)).mono ?_;rintro e w6 ⟨rfl,hR6,hB6,hs6⟩;have HRa6:=Ab ((Aa HR5).below hB6 (VC _));have HRb6:Hid (RowIn .i64 w6 (some ⟨w5.heap.size+1,0,none⟩) Ja):=hR6;have HB6:=Ab ((Aa HB5).trans (hB6.mono (by omega)));clear hR6 hB6 HR5 HB5;go_wp2;go_ret2;exact⟨g5,c5,w5.heap.size+1,rfl,by omega,by omega,Aa HRa6,Aa HRb6,Aa HB6⟩
end Go.Proofs.YtleocpdblhbimaaGreatDoor
