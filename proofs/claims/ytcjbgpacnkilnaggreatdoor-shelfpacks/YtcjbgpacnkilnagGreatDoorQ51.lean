import Derived.Test.YtcjbgpacnkilnagGreatDoorQ50
import Derived.Test.YtcjbgpacnkilnagGreatDoorQ49
import Derived.Test.YtcjbgpacnkilnagGreatDoorQ42
import Derived.Test.YtcjbgpacnkilnagGreatDoorQ43
set_option maxHeartbeats 4000000
namespace Go.Proofs.YtcjbgpacnkilnagGreatDoor
open Go.RowKit
set_option linter.unusedVariables false
set_option linter.unusedSimpArgs false
set_option maxRecDepth 100000
def shA:Fl:=⟨[97],[],1,0,false⟩
def shB:Fl:=⟨[98],[],2,0,false⟩
theorem Pz:Ej [shA]=0:=by decide
theorem Z2f:Ej [shB]=0:=by decide
theorem Zhq {f:Fl}(h:Ej [f]=0)(hb:f.bytes= [])(hn:f.name.length=1):wrE [f]=0/\122<=(wrL [f]).length:=by
 have hw:=Z44 h (fun g hg=>by rw[List.mem_singleton.1 hg];exact hb);refine⟨hw, ?_⟩;obtain⟨_,_,h3⟩:=Uu hw;obtain⟨l,hl⟩:=Z10 [f];rw[h3,Z1k hl,Ph];obtain⟨h1,_⟩:=hl
 match l,h1 with
 | [x],h1=>
  simp only[List.map_cons,List.map_nil,List.cons.injEq,and_true]at h1;rw[Bh,Bj,List.length_append,List.length_append,Pa,Vh,h1,hn];omega
theorem Zj1:Cw [shA] [shB]=0:=by
 refine Jp.2 ⟨Pz,Z2f, ?_⟩;rw[Z4g (by decide),Ka];decide
structure ShF (R1 R2:List Nat):Prop where
 a1:addE [] [] [shA]=0/\addS [] [] [shA]= []/\addW [] [] [shA]=R1
 f1:dskE [] R1=0/\flS [] R1=R1
 a2:addE R1 [] [shB]=0/\addS R1 [] [shB]=R1/\addW R1 [] [shB]=R2
 big:100<R2.length/\R2.length<=40000/\R1.length<=40000
 c:cutE R1 R2 9=0/\cutN R1 R2 9=9/\cutS R1 R2 9=R1
 r:dskE R1 []=0/\rF (R1++ [])= [shA]
 v:(∀x∈R1,x<256)/\∀x∈R2,x<256
theorem Zmz:∃R1 R2,ShF R1 R2:=by
 obtain⟨w1,l1⟩:=Zhq Pz rfl rfl;obtain⟨w2,l2⟩:=Zhq Z2f rfl rfl;have k1:=Z92 Pz (fun g hg=>by rw[List.mem_singleton.1 hg];rfl);have k2:=Z92 Z2f (fun g hg=>by rw[List.mem_singleton.1 hg];rfl);have a1:addE [] [] [shA]=0:=Z3w Zgx w1 (by rw[List.append_nil,Zan];exact(Xi Pz).1) (by have:=k1.2.2.2.2;simp only[List.length_nil];omega);obtain⟨_,_,_,_,s1,t1⟩:=Hd a1;obtain⟨wh1,d1⟩:=Ry a1 k1;rw[List.nil_append]at t1;rw[List.nil_append,List.nil_append,List.append_nil,Zan,(Xi Pz).2.1]at wh1;rw[List.nil_append]at d1;obtain⟨R1,hR1⟩:∃R1,Gy (wrL [shA])=R1:=⟨_,rfl⟩
 rw[hR1]at t1 wh1 d1;have r1:R1.length=8+(wrL [shA]).length:=by rw[<-hR1,Et]
 have hr1:=k1.2.2.2.2;have wh1':Fk (R1++ []) [shA]:=by rw[List.append_nil];exact wh1
 have d1':dskE R1 []=0:=Rm (by simp only[List.length_nil];omega) wh1 wh1';have e1:rF (R1++ [])= [shA]:=(Hf wh1').1;have hr2:=k2.2.2.2.2;have a2:addE R1 [] [shB]=0:=Z3w d1' w2 (by rw[e1];exact Zj1) (by simp only[List.length_nil];omega);obtain⟨_,_,_,_,s2,t2⟩:=Hd a2;obtain⟨wh2,d2⟩:=Ry a2 k2;rw[List.nil_append]at t2 wh2 d2;obtain⟨R2,hR2⟩:∃R2,Gy (wrL [shB])=R2:=⟨_,rfl⟩
 rw[hR2]at t2 wh2 d2;have r2:R2.length=8+(wrL [shB]).length:=by rw[<-hR2,Et]
 have cB:Zl6 R1 R2 9=R1++R2.take 9:=rfl
 have hre:Recs [] (R1++R2.take 9) [shA] R1.length:=by
  have:=Recs.snoc_less (fs:= []) (f:= [shA]) (b:=R1) wh1 k2.1 k2.2.1 (j:=9) (by omega)
  rw[hR2]at this;exact this
 obtain⟨g1,g2⟩:=Z4m hre;have cE:cutE R1 R2 9=0:=by unfold cutE;rw[if_neg (by simp[d2]),if_neg (by omega)]
 refine⟨R1,R2,⟨a1,s1,t1⟩,⟨d1,by unfold flS;rw[if_pos d1,List.nil_append]⟩,⟨a2,s2,t2⟩,⟨by omega,by omega,by omega⟩,⟨cE, ?_, ?_⟩,⟨d1',e1⟩,⟨by rw[<-hR1];exact Vp k1.1,by rw[<-hR2];exact Vp k2.1⟩⟩
 . unfold cutN;rw[if_pos cE,cB,g2,List.length_append,List.length_take];omega
 . unfold cutS;rw[if_pos cE,cB,g2,List.take_append_of_le_length (Nat.le_refl _),List.take_of_length_le (Nat.le_refl _)]
theorem LIn.one (w:World)(f:Fl)(A:Array Value)(hA:A=(fcells [⟨f,none,0⟩]).toArray)(hb:f.bytes= [])(hn:f.name.length<=40):LIn (w.alloc (.cells A 37)) (.slice (some ⟨w.heap.size,0,none⟩) 1 1) [f]:=
 Zm6 (FsIn.new w [⟨f,none,0⟩] 37 A 1 hA rfl (fun x hx=>by rw[List.mem_singleton.1 hx];exact FvIn.bare w f hb (by omega)) (by simp)) rfl
theorem Py (w:World):Calls Tryz.prog 5 #[] w fun e w'=>e=.returned (.bool true)/\Below w.heap.size w w':=by
 obtain⟨R1,R2,hF⟩:=Zmz;have HF:=Ab hF;obtain⟨r1,hr1⟩:∃r1,R1.length=r1:=⟨_,rfl⟩
 obtain⟨r2,hr2⟩:∃r2,R2.length=r2:=⟨_,rfl⟩
 have hbig:=hF.big;rw[hr1,hr2]at hbig;obtain⟨hb1,hb2,hb3⟩:=hbig;have HA1:=Ab (Z3v (.agg #[.slice none 0 0,.slice none 0 0]) (.slice (some ⟨w.heap.size,0,none⟩) 1 1) [] [] [shA] _ (DIn.nil _) (LIn.one w shA #[.string ⟨#[97]⟩,.slice none 0 0,.int .i64 1,.int .i64 0,.bool false] rfl rfl (by decide)) (fun x hx=>by cases hx) (fun x hx=>by cases hx) (by decide) (by decide));unfold DkA at HA1;rw[hF.a1.1,hF.a1.2.1,hF.a1.2.2]at HA1;have HB0:=Ab ((Below.refl w.heap.size w).alloc (Nat.le_refl _) (.cells #[.string ⟨#[97]⟩,.slice none 0 0,.int .i64 1,.int .i64 0,.bool false] 37));have HR1:=Ab hr1;have HR2:=Ab hr2;clear hF hr1 hr2;go_enter Tryz.func5,Tryz.ntmps5
 go_wp2_with fail
 refine(Aa HA1).mono ?_;rintro e w1 ⟨hB1,d1,rfl,hD1⟩;have hBw1:=(Aa HB0).trans (hB1.mono (Aa HB0).size);obtain⟨p1,q1,p2,q2,rfl,-,-,-,-⟩:=hD1.parts;rw[Aa HR1]at hD1 ⊢;have hD1':DIn w1 (.agg #[.slice p1 0 q1,.slice p2 r1 q2]) [] R1:=hD1;obtain⟨N,hN⟩:∃N,w1.heap.size=N:=⟨_,rfl⟩
 have hBA:Below w.heap.size w (w1.alloc (.cells #[.slice p1 0 q1,.slice p2 r1 q2] 24)):=hBw1.alloc hBw1.size _;have hNA:(w1.alloc (.cells #[.slice p1 0 q1,.slice p2 r1 q2] 24)).heap[N]? =some (.cells #[.slice p1 0 q1,.slice p2 r1 q2] 24 (0,0)):=by rw[<-hN];exact heap_alloc_new _ _
 have hwN:w.heap.size<=N:=by rw[<-hN];exact hBw1.size
 have HFL:=Ab (Zck _ [] R1 _ (hD1'.below ((Below.refl w1.heap.size w1).alloc (Nat.le_refl _) (.cells #[.slice p1 0 q1,.slice p2 r1 q2] 24))) (fun x hx=>by cases hx) (Aa HF).v.1 (by decide) (by rw[Aa HR1];omega));unfold DkA at HFL;rw[(Aa HF).f1.1,(Aa HF).f1.2]at HFL;have HBA:=Ab hBA;have HNA:=Ab hNA;clear hB1 hBw1 hD1 hD1' hBA hNA HA1;go_wp2_with fail
 refine(Aa HFL).mono ?_;rintro e w2 ⟨hB2,d2,rfl,hD2⟩;have hBw2:=(Aa HBA).trans (hB2.mono (Aa HBA).size);have hN2:=(hB2.block N (Array.getElem?_eq_some_iff.1 (Aa HNA)).1).trans (Aa HNA);obtain⟨s2,t2,rfl,hs2,ht2⟩:=hD2;obtain⟨k1,k2,k3⟩:=DIn.put hBw2 hwN hN2 hs2 ht2;obtain⟨p3,q3,rfl,-⟩:=id hs2;obtain⟨p4,q4,rfl,-⟩:=id ht2;rw[Aa HR1]at k1 k2 k3 ⊢;have e0:=Ac (i:=0) hN2;have e1:=Ac (i:=1) hN2;have f0:=frozen_of_row _ N 0 _ _ hN2;have f1:=frozen_of_row _ N 1 _ _ hN2;simp only[List.length_nil]at k1 k2 k3 ⊢;have hsz:((w2.setCell ⟨N,0,none⟩ (.slice p3 r1 q3)).setCell ⟨N,1,none⟩ (.slice p4 0 q4)).heap.size=w2.heap.size:=by simp
 have hLB:=LIn.one ((w2.setCell ⟨N,0,none⟩ (.slice p3 r1 q3)).setCell ⟨N,1,none⟩ (.slice p4 0 q4)) shB #[.string ⟨#[98]⟩,.slice none 0 0,.int .i64 2,.int .i64 0,.bool false] rfl rfl (by decide);rw[hsz]at hLB;have hBb:=k2.alloc k2.size (.cells #[.string ⟨#[98]⟩,.slice none 0 0,.int .i64 2,.int .i64 0,.bool false] 37);have HA2:=Ab (Z3v _ _ R1 [] [shB] _ (k3.below ((Below.refl _ _).alloc (Nat.le_refl _) (.cells #[.string ⟨#[98]⟩,.slice none 0 0,.int .i64 2,.int .i64 0,.bool false] 37))) hLB (Aa HF).v.1 (fun x hx=>by cases hx) (by rw[Aa HR1];omega) (by decide));unfold DkA at HA2;rw[(Aa HF).a2.1,(Aa HF).a2.2.1,(Aa HF).a2.2.2]at HA2;have HBb:=Ab hBb;clear hB2 hBw2 hN2 hs2 ht2 k1 k2 k3 hLB hBb HFL hsz;go_wp2_with fail
 refine(Aa HA2).mono ?_;rintro e w3 ⟨hB3,d3,rfl,hD3⟩;have hBw3:=(Aa HBb).trans (hB3.mono (Aa HBb).size);obtain⟨p5,q5,p6,q6,rfl,-,-,-,-⟩:=hD3.parts;rw[Aa HR1,Aa HR2]at hD3 ⊢;obtain⟨X,hX⟩:∃X,w3.heap.size=X:=⟨_,rfl⟩
 have hBC:Below w.heap.size w (w3.alloc (.cells #[.slice p5 r1 q5,.slice p6 r2 q6] 24)):=hBw3.alloc hBw3.size _;have hXC:(w3.alloc (.cells #[.slice p5 r1 q5,.slice p6 r2 q6] 24)).heap[X]? =some (.cells #[.slice p5 r1 q5,.slice p6 r2 q6] 24 (0,0)):=by rw[<-hX];exact heap_alloc_new _ _
 have HCU:=Ab (Zkk _ 9 R1 R2 _ (hD3.below ((Below.refl w3.heap.size w3).alloc (Nat.le_refl _) (.cells #[.slice p5 r1 q5,.slice p6 r2 q6] 24))) (Aa HF).v.1 (Aa HF).v.2 (by rw[Aa HR1];omega) (by rw[Aa HR2];omega));unfold DnA at HCU;rw[(Aa HF).c.1,(Aa HF).c.2.1,(Aa HF).c.2.2]at HCU;have HBC:=Ab hBC;have HXC:=Ab hXC;clear hB3 hBw3 hD3 hBC hXC HA2;go_wp2_with fail
 refine(Aa HCU).mono ?_;rintro e w4 ⟨hB4,d4,rfl,hD4⟩;have hBw4:=(Aa HBC).trans (hB4.mono (Aa HBC).size);have hX4:=(hB4.block X (Array.getElem?_eq_some_iff.1 (Aa HXC)).1).trans (Aa HXC);obtain⟨p7,q7,p8,q8,rfl,-,-,-,-⟩:=hD4.parts;rw[Aa HR1]at hD4 ⊢;simp only[List.length_nil]at hD4 ⊢;have hBD:Below w.heap.size w (w4.alloc (.cells #[.slice p7 r1 q7,.slice p8 0 q8] 24)):=hBw4.alloc hBw4.size _;have hXD:=(Below.heap_alloc w4 (.cells #[.slice p7 r1 q7,.slice p8 0 q8] 24) X (Array.getElem?_eq_some_iff.1 hX4).1).trans hX4;have HFI:=Ab ((Hc _ R1 [] _ (hD4.below ((Below.refl w4.heap.size w4).alloc (Nat.le_refl _) (.cells #[.slice p7 r1 q7,.slice p8 0 q8] 24))) (Aa HF).v.1 (fun x hx=>by cases hx) (by rw[Aa HR1];omega) (by decide)).mono (fun e w' h=>Rf h));rw[(Aa HF).r.1,(Aa HF).r.2]at HFI;have HBD:=Ab hBD;have HXD:=Ab hXD;clear hB4 hBw4 hD4 hBD hXD HCU hX4;go_wp2_with fail
 refine(Aa HFI).mono ?_;rintro e w5 ⟨hB5,v5,l5,rfl,hL5,hl5,-⟩;have hl6:l5= [shA]:=by simpa using hl5
 subst hl6;obtain⟨ad,c5,rfl⟩:=hL5.shape;have hBw5:=Ab ((Aa HBD).trans (hB5.mono (Aa HBD).size));have hX5:=(hB5.block X (Array.getElem?_eq_some_iff.1 (Aa HXD)).1).trans (Aa HXD);have x1:=Ac (i:=1) hX5;have hbI:(100:Int)<(r2:Int):=by omega
 simp only[List.length_cons,List.length_nil];clear hB5 hL5 hl5 hX5 HFI;go_wp2;go_ret;exact⟨rfl,Aa hBw5⟩
theorem Zdr {w:World}{u v:Value}{xs ys:List Nat}(h:PIn w u xs)(k:PIn w v ys)(hv:∀x∈xs,x<256)(e:xs=ys):
 Calls Tryz.prog 16 #[u,v] w fun e w'=>e=.returned (.bool true)/\w'=w:=by
 subst e;obtain⟨a1,c1,rfl,h1,h2⟩:=h;obtain⟨a2,c2,rfl,k1,k2⟩:=k;have:=Z1h a1 a2 xs.length c1 xs.length c2 xs xs w rfl rfl (Dk hv) (Dk hv) h2.1 k2.1
 rw[beq_self_eq_true]at this;exact this
theorem Yy {w:World}{u v:Value}{S T S' T':List Nat}(h:DIn w u S T)(k:DIn w v S' T')(hS:∀x∈S,x<256)(hT:∀x∈T,x<256)(e1:S=S')(e2:T=T'):
 Calls Tryz.prog 8 #[u,v] w fun e w'=>e=.returned (.bool true)/\Below w.heap.size w w':=by
 subst e1 e2;obtain⟨s,t,rfl,h1,h2⟩:=h;obtain⟨s',t',rfl,k1,k2⟩:=k;have HA:=Ab (fun W (hW:Below w.heap.size w W)=>Zdr (h1.below hW) (k1.below hW) hS rfl);have HB:=Ab (fun W (hW:Below w.heap.size w W)=>Zdr (h2.below hW) (k2.below hW) hT rfl);obtain⟨a1,c1,rfl,-⟩:=h1;obtain⟨a2,c2,rfl,-⟩:=h2;obtain⟨a3,c3,rfl,-⟩:=k1;obtain⟨a4,c4,rfl,-⟩:=k2;obtain⟨n,hn⟩:∃n,S.length=n:=⟨_,rfl⟩
 obtain⟨m,hm⟩:∃m,T.length=m:=⟨_,rfl⟩
 rw[hn]at HA;rw[hm]at HB;rw[hn,hm];have HBx:=Ab (Aw (Aw (Below.refl w.heap.size w) (.cells #[.slice a1 n c1,.slice a2 m c2] 24)) (.cells #[.slice a3 n c3,.slice a4 m c4] 24));clear hS hT hn hm;go_enter Tryz.func8,Tryz.ntmps8
 go_wp2_with fail
 refine(Aa HA _ (Aa HBx)).mono ?_;rintro e w1 ⟨rfl,rfl⟩;go_wp2_with fail
 refine(Aa HB _ (Aa HBx)).mono ?_;rintro e w1 ⟨rfl,rfl⟩;go_wp2;go_ret;exact⟨rfl,Aa HBx⟩
theorem Zjf (S T:List Nat):∀x∈pkS S T,x<256:=by
 by_cases h:pkE S T=0
 . obtain⟨_,h2,h3,_⟩:=Z4v h Zib;rw[h3];exact Vp (Zib h2).1
 . rw[Z2q h];intro x hx
   cases hx
theorem Zb1 (v:Value)(S T:List Nat)(w:World)(hD:DIn w v S T)(hv1:∀x∈S,x<256)(hv2:∀x∈T,x<256)(hm1:S.length<=140737488355328)(hm2:T.length<=140737488355328):
 Calls Tryz.prog 3 #[v] w fun e w'=>e=.returned (.bool true)/\Below w.heap.size w w':=by
 have HPK:=Ab (fun W (hW:Below w.heap.size w W)=>Z51 v S T W (hD.below hW) hv1 hv2 hm1 hm2);unfold DkA at HPK;have HFI:=Ab (fun W (hW:Below w.heap.size w W)=>(Hc v S T W (hD.below hW) hv1 hv2 hm1 hm2).mono (fun e w' h=>Rf h));obtain⟨a1,c1,a2,c2,rfl,hc1,hc2,hP1,hP2⟩:=hD.parts;obtain⟨N,hN⟩:∃N,w.heap.size=N:=⟨_,rfl⟩
 obtain⟨n1,hn1⟩:∃n1,S.length=n1:=⟨_,rfl⟩
 obtain⟨n2,hn2⟩:∃n2,T.length=n2:=⟨_,rfl⟩
 rw[hn1,hn2]at HPK HFI ⊢;obtain⟨E,hE⟩:∃E,pkE S T=E:=⟨_,rfl⟩
 obtain⟨P,hPP⟩:∃P,pkS S T=P:=⟨_,rfl⟩
 have hPv:=Zjf S T;have hz:=fun h=>Z4v (S:=S) (T:=T) h Zib
 rw[hPP]at hPv hz HPK;rw[hE]at HPK hz;obtain⟨r,hr⟩:∃r,P.length=r:=⟨_,rfl⟩
 have hX0:(w.alloc (.cells #[.slice a1 n1 c1,.slice a2 n2 c2] 24)).heap[N]? =some (.cells #[.slice a1 n1 c1,.slice a2 n2 c2] 24 (0,0)):=by rw[<-hN];exact heap_alloc_new _ _
 have HX0:=Ab hX0;have HB0:=Ab (Aw (Below.refl w.heap.size w) (.cells #[.slice a1 n1 c1,.slice a2 n2 c2] 24));have HZ:=Ab hz;have HPV:=Ab hPv;have HR:=Ab hr;clear hD hv1 hv2 hP1 hP2 hn1 hn2 hm1 hm2 hc1 hc2 hE hPP hPv hz hr hX0;go_enter Tryz.func3,Tryz.ntmps3
 go_wp2_with fail
 refine(Aa HPK _ (Aa HB0)).mono ?_;rintro e w1 ⟨hB1,d1,rfl,hD1⟩;obtain⟨p1,q1,p2,q2,rfl,hq1,-,hp1,-⟩:=hD1.parts;rw[Aa HR]at hq1 hD1 ⊢;simp only[List.length_nil]at hD1 ⊢;obtain⟨X,hX⟩:∃X,w1.heap.size=X:=⟨_,rfl⟩
 have hA1:Below w1.heap.size w1 (w1.alloc (.cells #[.slice p1 r q1,.slice p2 0 q2] 24)):=Aw (Below.refl _ _) _;have hBc:=hB1.trans (hA1.mono hB1.size);have hX1:(w1.alloc (.cells #[.slice p1 r q1,.slice p2 0 q2] 24)).heap[X]? =some (.cells #[.slice p1 r q1,.slice p2 0 q2] 24 (0,0)):=by rw[<-hX];exact heap_alloc_new _ _
 have hN1:=(hBc.block N (Array.getElem?_eq_some_iff.1 (Aa HX0)).1).trans (Aa HX0);have HB1:=Ab ((Aa HB0).trans (hBc.mono (Aa HB0).size));have HX1:=Ab hX1;have HN1:=Ab hN1;have HD1:=Ab (hD1.below hA1);clear hB1 hA1 hBc hX1 hN1 hD1 hp1 HPK;go_wp2_with fail
 refine(Py _).mono ?_;rintro e w2 ⟨rfl,hB2⟩;have HB2:=Ab ((Aa HB1).trans (hB2.mono (Aa HB1).size));have hX2:=(hB2.block X (Array.getElem?_eq_some_iff.1 (Aa HX1)).1).trans (Aa HX1);have hN2:=(hB2.block N (Array.getElem?_eq_some_iff.1 (Aa HN1)).1).trans (Aa HN1);have HD2:=Ab ((Aa HD1).below hB2)
 by_cases hE0:¬E=0
 . have hEb:((E:Int)==0)=false:=by rw[beq_eq_false_iff_ne];omega
   have hEc:((E:Int)!=0)=true:=by rw[bne,hEb];rfl
   clear hE0 hB2 hX2 hN2;go_wp2_with fail
   refine(Py _).mono ?_;rintro e w3 ⟨rfl,hB3⟩;have HB3:=Ab ((Aa HB2).trans (hB3.mono (Aa HB2).size));clear hB3;go_wp2;go_ret;exact⟨rfl,Aa HB3⟩
 obtain rfl:E=0:=by omega
 obtain⟨z1,z2,z3,z4,z5,z6,z7,z8,z9⟩:=Aa HZ rfl;rw[Aa HR]at z5;have HF1:=Ab (Aa HFI w2 (Aa HB2));rw[z1]at HF1;have n0:=Ac (i:=0) hN2;have n1':=Ac (i:=1) hN2;have HX2:=Ab hX2;have HF2:=Ab (fun W (hW:Below w2.heap.size w2 W)=>(Hc _ P [] W ((Aa HD2).below hW) (Aa HPV) (fun x hx=>by cases hx) (by rw[Aa HR];omega) (by decide)).mono (fun e w' h=>Rf h));rw[z6,List.append_nil,z7]at HF2;have HP2:=Ab (fun W (hW:Below w2.heap.size w2 W)=>Z51 _ P [] W ((Aa HD2).below hW) (Aa HPV) (fun x hx=>by cases hx) (by rw[Aa HR];omega) (by decide));unfold DkA at HP2;rw[z8,z9]at HP2;clear hB2 hX2 hN2 z1 z2 z3 z4 z6 z7 z8 z9 HFI hE0;go_wp2_with fail
 refine(Aa HF1).mono ?_;rintro e w3 ⟨hB3,v3,l3,rfl,hL3,hl3,-⟩;have hl3':l3=rF (S++T):=by simpa using hl3
 subst hl3';obtain⟨ad,uc,hu⟩:=hL3.shape;obtain⟨k,hk⟩:∃k,(rF (S++T)).length=k:=⟨_,rfl⟩
 rw[hk]at hu;subst hu;have hX3:=(hB3.block X (Array.getElem?_eq_some_iff.1 (Aa HX2)).1).trans (Aa HX2);have x0:=Ac (i:=0) hX3;have x1:=Ac (i:=1) hX3;have HX3:=Ab hX3;have HB3:=Ab hB3;have HL3:=Ab hL3;have HK:=Ab hk;clear hB3 hX3 hL3 hl3 hk HF1;go_wp2_with fail
 refine(Aa HF2 w3 (Aa HB3)).mono ?_;rintro e w4 ⟨hB4,v4,l4,rfl,hL4,hl4,-⟩;have hl4':l4=rF (S++T):=by simpa using hl4
 subst hl4';obtain⟨ad4,uc4,hu4⟩:=hL4.shape;rw[Aa HK]at hu4;subst hu4;have hX4:=(hB4.block X (Array.getElem?_eq_some_iff.1 (Aa HX3)).1).trans (Aa HX3);have x0':=Ac (i:=0) hX4;have x1':=Ac (i:=1) hX4;have HX4:=Ab hX4;have HB4:=Ab ((Aa HB3).trans (hB4.mono (Aa HB3).size));have HB34:=Ab hB4;have HL4:=Ab hL4;clear hB4 hX4 hL4 hl4 HF2 x0 x1;go_wp2_with fail
 refine(Aa HP2 w4 (Aa HB4)).mono ?_;rintro e w5 ⟨hB5,d5,rfl,hD5⟩;obtain⟨p5,q5,p6,q6,rfl,-,-,-,-⟩:=hD5.parts;rw[Aa HR]at hD5 ⊢;simp only[List.length_nil]at hD5 ⊢;obtain⟨Y,hY⟩:∃Y,w5.heap.size=Y:=⟨_,rfl⟩
 have hA5:Below w5.heap.size w5 (w5.alloc (.cells #[.slice p5 r q5,.slice p6 0 q6] 24)):=Aw (Below.refl _ _) _;have hBc5:=hB5.trans (hA5.mono hB5.size);have hY5:(w5.alloc (.cells #[.slice p5 r q5,.slice p6 0 q6] 24)).heap[Y]? =some (.cells #[.slice p5 r q5,.slice p6 0 q6] 24 (0,0)):=by rw[<-hY];exact heap_alloc_new _ _
 have hX5:=(hBc5.block X (Array.getElem?_eq_some_iff.1 (Aa HX4)).1).trans (Aa HX4);have hB25:=(Aa HB4).trans (hBc5.mono (Aa HB4).size);have HBw5:=Ab ((Aa HB2).trans (hB25.mono (Aa HB2).size));have HSM:=Ab (Zf6 ((Aa HL3).below ((Aa HB34).trans (hBc5.mono (Aa HB34).size))) ((Aa HL4).below hBc5) rfl);have HSD:=Ab (fun W (hW:Below (w5.alloc (.cells #[.slice p5 r q5,.slice p6 0 q6] 24)).heap.size (w5.alloc (.cells #[.slice p5 r q5,.slice p6 0 q6] 24)) W)=>Yy (((Aa HD2).below hB25).below hW) ((hD5.below hA5).below hW) (Aa HPV) (fun x hx=>by cases hx) rfl rfl)
 have HXY:Hid (∀W,Below (w5.alloc (.cells #[.slice p5 r q5,.slice p6 0 q6] 24)).heap.size (w5.alloc (.cells #[.slice p5 r q5,.slice p6 0 q6] 24)) W->W.cell? ⟨X,0,none⟩=some (.slice p1 r q1)/\W.cell? ⟨X,1,none⟩=some (.slice p2 0 q2)/\W.cell? ⟨Y,0,none⟩=some (.slice p5 r q5)/\W.cell? ⟨Y,1,none⟩=some (.slice p6 0 q6)):=Ab (fun W hW=>by
  have h1:=(hW.block X (Array.getElem?_eq_some_iff.1 hX5).1).trans hX5;have h2:=(hW.block Y (Array.getElem?_eq_some_iff.1 hY5).1).trans hY5;exact⟨Ac (i:=0) h1,Ac (i:=1) h1,Ac (i:=0) h2,Ac (i:=1) h2⟩)
 clear hB5 hD5 hA5 hBc5 hY5 hX5 hB25 HP2 x0' x1';go_wp2_with fail
 refine(Aa HSM).mono ?_;rintro e w6 ⟨rfl,hB6⟩;obtain⟨u0,u1,u2,u3⟩:=Aa HXY w6 hB6;have HSD6:=Ab (Aa HSD w6 hB6);have HB6:=Ab hB6;clear hB6;go_wp2_with fail
 refine(Aa HSD6).mono ?_;rintro e w7 ⟨rfl,hB7⟩;have hB57:=(Aa HB6).trans (hB7.mono (Aa HB6).size);obtain⟨t0,t1,-,-⟩:=Aa HXY w7 hB57;have HB7:=Ab ((Aa HBw5).trans (hB57.mono (Aa HBw5).size));clear hB7 hB57 u0 u1 u2 u3;go_wp2;go_ret;exact⟨rfl,Aa HB7⟩
end Go.Proofs.YtcjbgpacnkilnagGreatDoor
namespace Go.Proofs.YtcjbgpacnkilnagGreatDoor
open Go.RowKit Go.ChangeShapes Go.WideShapes Go.ChangeAt Go.Deep
set_option linter.unusedVariables false
set_option maxRecDepth 100000
theorem Zdj:Tryz.prog.cellsOf 24=2:=by kernel_rfl
theorem Yf {H:Type}{enc:TypeId×Value->H}{P:Program}{w:World}{base:Nat}{spare:Nat->Bool}{held:Bool}{t:TypeId}{f0 f1:Field}{fuel:Nat}{cs:List Value}{x:DataW H×List MemPlace}(ht:P.underlying t=some (.struct #[f0,f1]))(h:DataW.trod enc P w base spare held fuel t cs=some x):
 ∃y0 y1 n,x=(.agg [y0.1,y1.1],y0.2++y1.2)/\cs.length=P.cellsOf t/\DataW.trod enc P w base spare held n f0.type ((cs.drop f0.offset).take (P.cellsOf f0.type))=some y0/\
  DataW.trod enc P w base spare held n f1.type ((cs.drop f1.offset).take (P.cellsOf f1.type))=some y1:=by
 obtain⟨xs,n,_,rfl,hl,hlen,hf⟩:=DataW.trod_struct ht h
 match xs,hlen with
 | [y0,y1],_=>exact⟨y0,y1,n,by simp,hl,by simpa using hf 0 f0 rfl,by simpa using hf 1 f1 rfl⟩
theorem Zb3 {H:Type}{enc:TypeId×Value->H}{w:World}{fuel:Nat}{cs:List Value}{x:DataW H×List MemPlace}
 (h:DataW.trod enc Tryz.prog w 0 (fun _=>true) true fuel 24 cs=some x) (hw:∀n∈x.1.weights Tryz.prog 24,n<=140737488351232):∃u v S T,cs= [u,v]/\DIn w (.agg #[u,v]) (n8 S) (n8 T)/\(n8 S).length<=140737488351232/\(n8 T).length<=140737488351232:=by
 obtain⟨y0,y1,k,hx,hlen,g0,g1⟩:=Yf Tryz.underlying24 h;rw[Zdj]at hlen
 match cs,hlen with
 | [v0,v1],_=>
  simp only[Zko]at g0 g1;simp at g0 g1
  have hws:∀n,n∈y0.1.weights Tryz.prog 22\/n∈y1.1.weights Tryz.prog 22->n<=140737488351232:=by
   intro n hn;apply hw
   rw[hx];simp only[DataW.weights,Tryz.underlying24]
   rcases hn with hn|hn
   . exact DataW.weights_mem_each (j:=0) rfl rfl n hn
   . exact DataW.weights_mem_each (j:=1) rfl rfl n hn
  obtain⟨a,c,bs,e1,hB,hbl⟩:=Zb4 g0 (fun n hn=>hws n (.inl hn));obtain⟨a2,c2,bs2,e2,hB2,hbl2⟩:=Zb4 g1 (fun n hn=>hws n (.inr hn));subst e1;subst e2;refine⟨_,_,bs,bs2,rfl,⟨_,_,rfl,⟨a,c,by rw[Dv],by rw[Dv];exact Z3q hB,Zh1 hB⟩,⟨a2,c2,by rw[Dv],by rw[Dv];exact Z3q hB2,Zh1 hB2⟩⟩,by rw[Dv];exact hbl,by rw[Dv];exact hbl2⟩
end Go.Proofs.YtcjbgpacnkilnagGreatDoor
