import Derived.Test.YtcjbgpacnkilnaiGreatDoorQ50
import Derived.Test.YtcjbgpacnkilnaiGreatDoorQ49
import Derived.Test.YtcjbgpacnkilnaiGreatDoorQ43
import Derived.Test.YtcjbgpacnkilnaiGreatDoorQ18
import Derived.OwnWalk
import Derived.Maps.AppendAt
set_option maxHeartbeats 4000000
namespace Go.Proofs.YtcjbgpacnkilnaiGreatDoor
open Go.RowKit
set_option linter.unusedVariables false
set_option linter.unusedSimpArgs false
set_option maxRecDepth 100000
def shA:Fl:=⟨[97],[],1,0,false⟩
def shB:Fl:=⟨[98],[],2,0,false⟩
theorem Oe:Em [shA]=0:=by decide
theorem Z0c:Em [shB]=0:=by decide
theorem Zeo {f:Fl}(h:Em [f]=0)(hb:f.bytes= [])(hn:f.name.length=1):wrE [f]=0/\122<=(wrL [f]).length:=by
 have hw:=Z1z h (fun g hg=>by rw[List.mem_singleton.1 hg];exact hb);refine⟨hw, ?_⟩;obtain⟨_,_,h3⟩:=Z1y hw;obtain⟨l,hl⟩:=Z3k [f];rw[h3,Z3y hl,Nk];obtain⟨h1,_⟩:=hl
 match l,h1 with
 | [x],h1=>
  simp only[List.map_cons,List.map_nil,List.cons.injEq,and_true]at h1;rw[Bd,Bf,List.length_append,List.length_append,Nc,Tg,h1,hn];omega
theorem Zfq:Co [shA] [shB]=0:=by
 refine Lt.2 ⟨Oe,Z0c, ?_⟩;rw[Zeg (by decide),Nu];decide
structure ShF (R1 R2:List Nat):Prop where
 a1:addE [] [] [shA]=0/\addS [] [] [shA]= []/\addW [] [] [shA]=R1
 f1:dskE [] R1=0/\flS [] R1=R1
 a2:addE R1 [] [shB]=0/\addS R1 [] [shB]=R1/\addW R1 [] [shB]=R2
 big:100<R2.length/\R2.length<=40000/\R1.length<=40000
 c:cutE R1 R2 9=0/\cutN R1 R2 9=9/\cutS R1 R2 9=R1
 r:dskE R1 []=0/\rF (R1++ [])= [shA]
 v:(∀x∈R1,x<256)/\∀x∈R2,x<256
theorem Zjl:∃R1 R2,ShF R1 R2:=by
 obtain⟨w1,l1⟩:=Zeo Oe rfl rfl;obtain⟨w2,l2⟩:=Zeo Z0c rfl rfl;have k1:=Z6r Oe (fun g hg=>by rw[List.mem_singleton.1 hg];rfl);have k2:=Z6r Z0c (fun g hg=>by rw[List.mem_singleton.1 hg];rfl);have a1:addE [] [] [shA]=0:=Z1p Ze3 w1 (by rw[List.append_nil,Zek];exact(Z3t Oe).1) (by have:=k1.2.2.2.2;simp only[List.length_nil];omega);obtain⟨_,_,_,_,s1,t1⟩:=Kv a1;obtain⟨wh1,d1⟩:=Zr a1 k1;rw[List.nil_append]at t1;rw[List.nil_append,List.nil_append,List.append_nil,Zek,(Z3t Oe).2.1]at wh1;rw[List.nil_append]at d1;obtain⟨R1,hR1⟩:∃R1,Hh (wrL [shA])=R1:=⟨_,rfl⟩
 rw[hR1]at t1 wh1 d1;have r1:R1.length=8+(wrL [shA]).length:=by rw[<-hR1,Ef]
 have hr1:=k1.2.2.2.2;have wh1':Fe (R1++ []) [shA]:=by rw[List.append_nil];exact wh1
 have d1':dskE R1 []=0:=Pp (by simp only[List.length_nil];omega) wh1 wh1';have e1:rF (R1++ [])= [shA]:=(Ji wh1').1;have hr2:=k2.2.2.2.2;have a2:addE R1 [] [shB]=0:=Z1p d1' w2 (by rw[e1];exact Zfq) (by simp only[List.length_nil];omega);obtain⟨_,_,_,_,s2,t2⟩:=Kv a2;obtain⟨wh2,d2⟩:=Zr a2 k2;rw[List.nil_append]at t2 wh2 d2;obtain⟨R2,hR2⟩:∃R2,Hh (wrL [shB])=R2:=⟨_,rfl⟩
 rw[hR2]at t2 wh2 d2;have r2:R2.length=8+(wrL [shB]).length:=by rw[<-hR2,Ef]
 have cB:Zhq R1 R2 9=R1++R2.take 9:=rfl
 have hre:Recs [] (R1++R2.take 9) [shA] R1.length:=by
  have:=Recs.snoc_less (fs:= []) (f:= [shA]) (b:=R1) wh1 k2.1 k2.2.1 (j:=9) (by omega)
  rw[hR2]at this;exact this
 obtain⟨g1,g2⟩:=Wq hre;have cE:cutE R1 R2 9=0:=by unfold cutE;rw[if_neg (by simp[d2]),if_neg (by omega)]
 refine⟨R1,R2,⟨a1,s1,t1⟩,⟨d1,by unfold flS;rw[if_pos d1,List.nil_append]⟩,⟨a2,s2,t2⟩,⟨by omega,by omega,by omega⟩,⟨cE, ?_, ?_⟩,⟨d1',e1⟩,⟨by rw[<-hR1];exact Z2e k1.1,by rw[<-hR2];exact Z2e k2.1⟩⟩
 . unfold cutN;rw[if_pos cE,cB,g2,List.length_append,List.length_take];omega
 . unfold cutS;rw[if_pos cE,cB,g2,List.take_append_of_le_length (Nat.le_refl _),List.take_of_length_le (Nat.le_refl _)]
theorem LIn.one (w:World)(f:Fl)(A:Array Value)(hA:A=(fcells [⟨f,none,0⟩]).toArray)(hb:f.bytes= [])(hn:f.name.length<=40):LIn (w.alloc (.cells A 49)) (.slice (some ⟨w.heap.size,0,none⟩) 1 1) [f]:=
 Zis (FsIn.new w [⟨f,none,0⟩] 49 A 1 hA rfl (fun x hx=>by rw[List.mem_singleton.1 hx];exact FvIn.bare w f hb (by omega)) (by simp)) rfl
theorem Iu (w:World):Calls Tryz.prog 11 #[] w fun e w'=>e=.returned (.bool true)/\Below w.heap.size w w':=by
 obtain⟨R1,R2,hF⟩:=Zjl;have HF:=Ab hF;obtain⟨r1,hr1⟩:∃r1,R1.length=r1:=⟨_,rfl⟩
 obtain⟨r2,hr2⟩:∃r2,R2.length=r2:=⟨_,rfl⟩
 have hbig:=hF.big;rw[hr1,hr2]at hbig;obtain⟨hb1,hb2,hb3⟩:=hbig;have HA1:=Ab (Zba (.agg #[.slice none 0 0,.slice none 0 0]) (.slice (some ⟨w.heap.size,0,none⟩) 1 1) [] [] [shA] _ (DIn.nil _) (LIn.one w shA #[.string ⟨#[97]⟩,.slice none 0 0,.int .i64 1,.int .i64 0,.bool false] rfl rfl (by decide)) (fun x hx=>by cases hx) (fun x hx=>by cases hx) (by decide) (by decide));unfold DkA at HA1;rw[hF.a1.1,hF.a1.2.1,hF.a1.2.2]at HA1;have HB0:=Ab ((Below.refl w.heap.size w).alloc (Nat.le_refl _) (.cells #[.string ⟨#[97]⟩,.slice none 0 0,.int .i64 1,.int .i64 0,.bool false] 49));have HR1:=Ab hr1;have HR2:=Ab hr2;clear hF hr1 hr2;go_enter Tryz.func11,Tryz.ntmps11
 go_wp2_with fail
 refine(Aa HA1).mono ?_;rintro e w1 ⟨hB1,d1,rfl,hD1⟩;have hBw1:=(Aa HB0).trans (hB1.mono (Aa HB0).size);obtain⟨p1,q1,p2,q2,rfl,-,-,-,-⟩:=hD1.parts;rw[Aa HR1]at hD1 ⊢;have hD1':DIn w1 (.agg #[.slice p1 0 q1,.slice p2 r1 q2]) [] R1:=hD1;obtain⟨N,hN⟩:∃N,w1.heap.size=N:=⟨_,rfl⟩
 have hBA:Below w.heap.size w (w1.alloc (.cells #[.slice p1 0 q1,.slice p2 r1 q2] 34)):=hBw1.alloc hBw1.size _;have hNA:(w1.alloc (.cells #[.slice p1 0 q1,.slice p2 r1 q2] 34)).heap[N]? =some (.cells #[.slice p1 0 q1,.slice p2 r1 q2] 34 (0,0)):=by rw[<-hN];exact heap_alloc_new _ _
 have hwN:w.heap.size<=N:=by rw[<-hN];exact hBw1.size
 have HFL:=Ab (Z9t _ [] R1 _ (hD1'.below ((Below.refl w1.heap.size w1).alloc (Nat.le_refl _) (.cells #[.slice p1 0 q1,.slice p2 r1 q2] 34))) (fun x hx=>by cases hx) (Aa HF).v.1 (by decide) (by rw[Aa HR1];omega));unfold DkA at HFL;rw[(Aa HF).f1.1,(Aa HF).f1.2]at HFL;have HBA:=Ab hBA;have HNA:=Ab hNA;clear hB1 hBw1 hD1 hD1' hBA hNA HA1;go_wp2_with fail
 refine(Aa HFL).mono ?_;rintro e w2 ⟨hB2,d2,rfl,hD2⟩;have hBw2:=(Aa HBA).trans (hB2.mono (Aa HBA).size);have hN2:=(hB2.block N (Array.getElem?_eq_some_iff.1 (Aa HNA)).1).trans (Aa HNA);obtain⟨s2,t2,rfl,hs2,ht2⟩:=hD2;obtain⟨k1,k2,k3⟩:=DIn.put hBw2 hwN hN2 hs2 ht2;obtain⟨p3,q3,rfl,-⟩:=id hs2;obtain⟨p4,q4,rfl,-⟩:=id ht2;rw[Aa HR1]at k1 k2 k3 ⊢;have e0:=Ac (i:=0) hN2;have e1:=Ac (i:=1) hN2;have f0:=frozen_of_row _ N 0 _ _ hN2;have f1:=frozen_of_row _ N 1 _ _ hN2;simp only[List.length_nil]at k1 k2 k3 ⊢;have hsz:((w2.setCell ⟨N,0,none⟩ (.slice p3 r1 q3)).setCell ⟨N,1,none⟩ (.slice p4 0 q4)).heap.size=w2.heap.size:=by simp
 have hLB:=LIn.one ((w2.setCell ⟨N,0,none⟩ (.slice p3 r1 q3)).setCell ⟨N,1,none⟩ (.slice p4 0 q4)) shB #[.string ⟨#[98]⟩,.slice none 0 0,.int .i64 2,.int .i64 0,.bool false] rfl rfl (by decide);rw[hsz]at hLB;have hBb:=k2.alloc k2.size (.cells #[.string ⟨#[98]⟩,.slice none 0 0,.int .i64 2,.int .i64 0,.bool false] 49);have HA2:=Ab (Zba _ _ R1 [] [shB] _ (k3.below ((Below.refl _ _).alloc (Nat.le_refl _) (.cells #[.string ⟨#[98]⟩,.slice none 0 0,.int .i64 2,.int .i64 0,.bool false] 49))) hLB (Aa HF).v.1 (fun x hx=>by cases hx) (by rw[Aa HR1];omega) (by decide));unfold DkA at HA2;rw[(Aa HF).a2.1,(Aa HF).a2.2.1,(Aa HF).a2.2.2]at HA2;have HBb:=Ab hBb;clear hB2 hBw2 hN2 hs2 ht2 k1 k2 k3 hLB hBb HFL hsz;go_wp2_with fail
 refine(Aa HA2).mono ?_;rintro e w3 ⟨hB3,d3,rfl,hD3⟩;have hBw3:=(Aa HBb).trans (hB3.mono (Aa HBb).size);obtain⟨p5,q5,p6,q6,rfl,-,-,-,-⟩:=hD3.parts;rw[Aa HR1,Aa HR2]at hD3 ⊢;obtain⟨X,hX⟩:∃X,w3.heap.size=X:=⟨_,rfl⟩
 have hBC:Below w.heap.size w (w3.alloc (.cells #[.slice p5 r1 q5,.slice p6 r2 q6] 34)):=hBw3.alloc hBw3.size _;have hXC:(w3.alloc (.cells #[.slice p5 r1 q5,.slice p6 r2 q6] 34)).heap[X]? =some (.cells #[.slice p5 r1 q5,.slice p6 r2 q6] 34 (0,0)):=by rw[<-hX];exact heap_alloc_new _ _
 have HCU:=Ab (Zh5 _ 9 R1 R2 _ (hD3.below ((Below.refl w3.heap.size w3).alloc (Nat.le_refl _) (.cells #[.slice p5 r1 q5,.slice p6 r2 q6] 34))) (Aa HF).v.1 (Aa HF).v.2 (by rw[Aa HR1];omega) (by rw[Aa HR2];omega));unfold DnA at HCU;rw[(Aa HF).c.1,(Aa HF).c.2.1,(Aa HF).c.2.2]at HCU;have HBC:=Ab hBC;have HXC:=Ab hXC;clear hB3 hBw3 hD3 hBC hXC HA2;go_wp2_with fail
 refine(Aa HCU).mono ?_;rintro e w4 ⟨hB4,d4,rfl,hD4⟩;have hBw4:=(Aa HBC).trans (hB4.mono (Aa HBC).size);have hX4:=(hB4.block X (Array.getElem?_eq_some_iff.1 (Aa HXC)).1).trans (Aa HXC);obtain⟨p7,q7,p8,q8,rfl,-,-,-,-⟩:=hD4.parts;rw[Aa HR1]at hD4 ⊢;simp only[List.length_nil]at hD4 ⊢;have hBD:Below w.heap.size w (w4.alloc (.cells #[.slice p7 r1 q7,.slice p8 0 q8] 34)):=hBw4.alloc hBw4.size _;have hXD:=(Below.heap_alloc w4 (.cells #[.slice p7 r1 q7,.slice p8 0 q8] 34) X (Array.getElem?_eq_some_iff.1 hX4).1).trans hX4;have HFI:=Ab ((Pk _ R1 [] _ (hD4.below ((Below.refl w4.heap.size w4).alloc (Nat.le_refl _) (.cells #[.slice p7 r1 q7,.slice p8 0 q8] 34))) (Aa HF).v.1 (fun x hx=>by cases hx) (by rw[Aa HR1];omega) (by decide)).mono (fun e w' h=>Z9x h));rw[(Aa HF).r.1,(Aa HF).r.2]at HFI;have HBD:=Ab hBD;have HXD:=Ab hXD;clear hB4 hBw4 hD4 hBD hXD HCU hX4;go_wp2_with fail
 refine(Aa HFI).mono ?_;rintro e w5 ⟨hB5,v5,l5,rfl,hL5,hl5,-⟩;have hl6:l5= [shA]:=by simpa using hl5
 subst hl6;obtain⟨ad,c5,rfl⟩:=hL5.shape;have hBw5:=Ab ((Aa HBD).trans (hB5.mono (Aa HBD).size));have hX5:=(hB5.block X (Array.getElem?_eq_some_iff.1 (Aa HXD)).1).trans (Aa HXD);have x1:=Ac (i:=1) hX5;have hbI:(100:Int)<(r2:Int):=by omega
 simp only[List.length_cons,List.length_nil];clear hB5 hL5 hl5 hX5 HFI;go_wp2;go_ret;exact⟨rfl,Aa hBw5⟩
theorem Z1l {w:World}{u v:Value}{xs ys:List Nat}(h:PIn w u xs)(k:PIn w v ys)(hv:∀x∈xs,x<256)(e:xs=ys):
 Calls Tryz.prog 18 #[u,v] w fun e w'=>e=.returned (.bool true)/\w'=w:=by
 subst e;obtain⟨a1,c1,rfl,h1,h2⟩:=h;obtain⟨a2,c2,rfl,k1,k2⟩:=k;have:=Zk a1 a2 xs.length c1 xs.length c2 xs xs w rfl rfl (Dm hv) (Dm hv) h2.1 k2.1
 rw[beq_self_eq_true]at this;exact this
theorem Wl {w:World}{u v:Value}{S T S' T':List Nat}(h:DIn w u S T)(k:DIn w v S' T')(hS:∀x∈S,x<256)(hT:∀x∈T,x<256)(e1:S=S')(e2:T=T'):
 Calls Tryz.prog 14 #[u,v] w fun e w'=>e=.returned (.bool true)/\Below w.heap.size w w':=by
 subst e1 e2;obtain⟨s,t,rfl,h1,h2⟩:=h;obtain⟨s',t',rfl,k1,k2⟩:=k;have HA:=Ab (fun W (hW:Below w.heap.size w W)=>Z1l (h1.below hW) (k1.below hW) hS rfl);have HB:=Ab (fun W (hW:Below w.heap.size w W)=>Z1l (h2.below hW) (k2.below hW) hT rfl);obtain⟨a1,c1,rfl,-⟩:=h1;obtain⟨a2,c2,rfl,-⟩:=h2;obtain⟨a3,c3,rfl,-⟩:=k1;obtain⟨a4,c4,rfl,-⟩:=k2;obtain⟨n,hn⟩:∃n,S.length=n:=⟨_,rfl⟩
 obtain⟨m,hm⟩:∃m,T.length=m:=⟨_,rfl⟩
 rw[hn]at HA;rw[hm]at HB;rw[hn,hm];have HBx:=Ab (Bv (Bv (Below.refl w.heap.size w) (.cells #[.slice a1 n c1,.slice a2 m c2] 34)) (.cells #[.slice a3 n c3,.slice a4 m c4] 34));clear hS hT hn hm;go_enter Tryz.func14,Tryz.ntmps14
 go_wp2_with fail
 refine(Aa HA _ (Aa HBx)).mono ?_;rintro e w1 ⟨rfl,rfl⟩;go_wp2_with fail
 refine(Aa HB _ (Aa HBx)).mono ?_;rintro e w1 ⟨rfl,rfl⟩;go_wp2;go_ret;exact⟨rfl,Aa HBx⟩
theorem Rv {w:World}{u v:Value}{xs ys:List Nat}(h:PIn w u xs)(k:PIn w v ys)(hv:∀x∈xs,x<256)(e:ys=xs.take ys.length):
 Calls Tryz.prog 13 #[u,v] w fun e w'=>e=.returned (.bool true)/\w'=w:=by
 obtain⟨a1,c1,rfl,h1,h2⟩:=h
 have hle:ys.length<=xs.length:=by
  have:=congrArg List.length e
  rw[List.length_take]at this;omega
 have hcut:PIn w (.slice a1 ys.length c1) ys:=⟨a1,c1,rfl,by omega,by rw[e];exact Om h2 _⟩
 have HQ:=Ab (Z1l hcut k (by rw[e];exact Jj hv _) rfl);have hsl:=Z2b a1 ys.length xs.length c1 hle h1;obtain⟨a2,c2,rfl,-⟩:=k;obtain⟨n,hn⟩:∃n,xs.length=n:=⟨_,rfl⟩
 obtain⟨m,hm⟩:∃m,ys.length=m:=⟨_,rfl⟩
 rw[hm]at HQ hsl hle;rw[hn]at hsl hle;rw[hn,hm];have hI:(m:Int)<=(n:Int):=by omega
 clear h1 h2 hcut e hv hn hm;go_enter Tryz.func13,Tryz.ntmps13
 go_wp2_with fail
 refine(Aa HQ).mono ?_;rintro e w' ⟨rfl,rfl⟩;go_wp2;go_ret;exact⟨rfl,rfl⟩
end Go.Proofs.YtcjbgpacnkilnaiGreatDoor
namespace Go.Proofs.YtcjbgpacnkilnaiGreatDoor
open Go.RowKit
set_option linter.unusedVariables false
set_option maxRecDepth 100000
theorem Zb4 (x:Int)(n:Nat)(w:World)(h0:0<n)(hn:n<=100000):Calls Tryz.prog 12 #[.int .i64 x,.int .i64 (n:Int)] w fun e w'=>∃t:Nat,e=.returned (.int .i64 t)/\t<n/\w'=w:=by
 have hp:(0:Int)<(n:Int):=by omega
 have h1: -(n:Int)<x.tmod n:=by have:=Int.lt_tmod_of_pos x hp;omega
 have h2:x.tmod n<n:=Int.tmod_lt_of_pos x hp;have hz:((n:Int)==0)=false:=by rw[beq_eq_false_iff_ne];omega
 go_enter Tryz.func12,Tryz.ntmps12
 by_cases hn:x.tmod n<0
 . go_wp2;go_ret;refine⟨(x.tmod n+n).toNat, ?_,by omega,rfl⟩;have:((x.tmod n+n).toNat:Int)=x.tmod n+n:=by omega
   rw[this];rfl
 . go_wp2;go_ret;refine⟨(x.tmod n).toNat, ?_,by omega,rfl⟩;have:((x.tmod n).toNat:Int)=x.tmod n:=by omega
   rw[this];rfl
end Go.Proofs.YtcjbgpacnkilnaiGreatDoor
namespace Go.Proofs.YtcjbgpacnkilnaiGreatDoor
open Go.RowKit
set_option linter.unusedVariables false
set_option linter.unusedSimpArgs false
set_option maxRecDepth 100000
theorem Zfg (b:List Nat):rN (b.take (rN b))=rN b/\rF (b.take (rN b))=rF b:=by
 have:=Wq (Rt b).self
 exact⟨this.2,this.1⟩
theorem Ir (b:List Nat):(b.take (rN b)).length=rN b:=by rw[List.length_take];have:=Zck b;omega
theorem Z4d (b:List Nat):Fe (b.take (rN b)) (rF b):=by
 unfold Fe;rw[Ir];exact(Rt b).self
theorem Zc3 {b:List Nat}(h:b.length<=40000):dskE (b.take (rN b)) []=0:=by
 have hw:=Z4d b;refine Pp ?_ hw (f:=rF b) (g:=rF b) (by rw[List.append_nil];exact hw);rw[Ir];have:=Zck b
 simp
 omega
theorem Zib (b:List Nat)(t:Nat):rN (b.take t)<=rN b:=by
 have h:=Rt (b.take t);have k:=Rt b;rw[<-List.take_append_drop t b]at k;have:=h.pre k
 rw[List.take_append_drop]at this;exact this
theorem Z83 {w w':World}{bs:List Nat}{e:Ending}(hl:bs.length<=40000)(h:RcA w bs e w'):DnA w (bs.take (rN bs)) [] (bs.length-rN bs) 0 e w':=by
 rcases Z84 h with ⟨h1,_⟩|⟨_,h2⟩
 . omega
 . exact h2
theorem Z6h (a:Option Addr)(n cap:Nat)(cut:Int)(bs:List Nat)(w:World)(hl:bs.length=n)(hc:n<=cap)(hP:PkIn w a cap bs)(hv:∀x∈bs,x<256)(hm:n<=140737488355328):
 Calls Tryz.prog 4 #[.slice a n cap,.int .i64 cut] w fun e w'=>e=.returned (.bool true)/\Below w.heap.size w w':=by
 have HRC:=Ab (Gr a n cap bs w hl hc hP hv hm)
 by_cases h4:40000<n
 . have HR2:=Ab ((Aa HRC).mono (fun e w' h=>by
    rcases Z84 h with ⟨_,h1⟩|⟨h1,_⟩
    . exact(⟨h1.1,h1.2⟩:Below w.heap.size w w'/\∃d,e=.returned (.tuple #[d,.int .i64 ((0:Nat):Int),.int .i64 ((2:Nat):Int)])/\DIn w' d [] [])
    . omega))
   clear HRC hP hv hl h4;go_enter Tryz.func4,Tryz.ntmps4
   go_wp2_with fail
   refine(Aa HR2).mono ?_;rintro e w1 ⟨hB1,d,rfl,hD⟩;obtain⟨p1,q1,p2,q2,rfl,-⟩:=hD.parts;have HB1:=Ab (Bv hB1 (.cells #[.slice p1 0 q1,.slice p2 0 q2] 34));simp only[List.length_nil];clear hB1 hD HR2;go_wp2_with fail
   refine(Iu _).mono ?_;rintro e w2 ⟨rfl,hB2⟩;have HB2:=Ab ((Aa HB1).trans (hB2.mono (Aa HB1).size));clear hB2;go_wp2_with fail
   refine(Iu _).mono ?_;rintro e w3 ⟨rfl,hB3⟩;have HB3:=Ab ((Aa HB2).trans (hB3.mono (Aa HB2).size));clear hB3;go_wp2;go_ret;exact⟨rfl,Aa HB3⟩
 have hn4:bs.length<=40000:=by omega
 have HR2:=Ab ((Aa HRC).mono (fun e w' h=>Z83 hn4 h));unfold DnA at HR2;obtain⟨m,hmm⟩:∃m,rN bs=m:=⟨_,rfl⟩
 have hmn:m<=n:=by rw[<-hmm,<-hl];exact Zck bs
 have hS:=Ir bs;obtain⟨hr1,_⟩:=Zfg bs;have hdk:=Zc3 hn4;have hpre:=fun t=>Zib bs t
 rw[hmm]at HR2 hS hr1 hdk hpre;obtain⟨S,hSS⟩:∃S,bs.take m=S:=⟨_,rfl⟩
 rw[hSS]at HR2 hS hr1 hdk;have hSv:∀x∈S,x<256:=by rw[<-hSS];exact Jj hv m
 rw[hl]at HR2
 have HRT:Hid (∀(W:World) (t:Nat),t<=n->Below w.heap.size w W->Calls Tryz.prog 10 #[.slice a t cap] W fun e w'=>DnA W (S.take (rN (bs.take t))) [] (t-rN (bs.take t)) 0 e w'):=Ab (fun W t ht hW=>by
  have htl:(bs.take t).length=t:=by rw[List.length_take,hl];omega
  refine(Gr a t cap (bs.take t) W htl (by omega) (Om (hP.below hW) t) (Jj hv t) (by omega)).mono (fun e w' h=> ?_);have h2:=Z83 (by rw[htl];omega) h;have h3:=hpre t;have h4:=Zck (bs.take t);rw[htl]at h2 h4;have e:(bs.take t).take (rN (bs.take t))=S.take (rN (bs.take t)):=by rw[<-hSS,List.take_take,List.take_take,Nat.min_eq_left h4,Nat.min_eq_left h3]
  rw[e]at h2;exact h2)
 have HRS:Hid (∀(W:World) (x:Option Addr) (c:Nat),m<=c->PkIn W x c S->Calls Tryz.prog 10 #[.slice x m c] W fun e w'=>DnA W S [] 0 0 e w'):=Ab (fun W x c hc hp=>by
  refine(Gr x m c S W hS hc hp hSv (by omega)).mono (fun e w' h=> ?_);have h2:=Z83 (by rw[hS];omega) h;rw[hS,hr1,Nat.sub_self,List.take_of_length_le (by omega)]at h2;exact h2)
 unfold DnA at HRT HRS;have HPB:=Ab (show PIn w (.slice a n cap) bs from ⟨a,cap,by rw[hl],by rw[hl];exact hc,hP⟩);have HV:=Ab hv;have HSV:=Ab hSv;have HSL:=Ab hS;have HSS:=Ab hSS;have HDK:=Ab hdk;have HBL:=Ab hl;have hsl:=fun t (ht:t<=n)=>Z2b a t n cap ht hc
 have HSI:=Ab hsl;have hw1:IntKind.i64.wrap ((n:Int)+1)=((n+1:Nat):Int):=by simp[IntKind.wrap,IntKind.signed,IntKind.bits];omega
 have HAT:=Ab (fun W=>Zb4 cut (n+1) W (by omega) (by omega));have hsub:IntKind.i64.wrap ((n:Int)-(m:Int))=((n-m:Nat):Int):=by rw[Z1x hmn hm];omega
 clear HRC hP hv hl hS hr1 hdk hpre hSS hSv hmm hn4 hsl;go_enter Tryz.func4,Tryz.ntmps4
 go_wp2_with fail
 refine(Aa HR2).mono ?_;rintro e w1 ⟨hB1,d,rfl,hD⟩;obtain⟨p1,q1,p2,q2,rfl,hq1,hq2,hp1,hp2⟩:=hD.parts;rw[Aa HSL]at hq1 hD ⊢;simp only[List.length_nil]at hD ⊢;obtain⟨X,hX⟩:∃X,w1.heap.size=X:=⟨_,rfl⟩
 have hA1:Below w1.heap.size w1 (w1.alloc (.cells #[.slice p1 m q1,.slice p2 0 q2] 34)):=Bv (Below.refl _ _) _;have hX1:(w1.alloc (.cells #[.slice p1 m q1,.slice p2 0 q2] 34)).heap[X]? =some (.cells #[.slice p1 m q1,.slice p2 0 q2] 34 (0,0)):=by rw[<-hX];exact heap_alloc_new _ _
 have HB1:=Ab (Bv hB1 (.cells #[.slice p1 m q1,.slice p2 0 q2] 34));have HD1:=Ab (hD.below hA1);have HX1:=Ab hX1;have HPS:=Ab (hp1.below hA1);have hbase:w.heap.size<=X:=by rw[<-hX];exact hB1.size
 clear hB1 hD hA1 hX1 hp1 hp2 HR2;go_wp2_with fail
 refine(Iu _).mono ?_;rintro e w2 ⟨rfl,hB2⟩;have hBw2:=(Aa HB1).trans (hB2.mono (Aa HB1).size);have hX2:=(hB2.block X (Array.getElem?_eq_some_iff.1 (Aa HX1)).1).trans (Aa HX1);have HB2:=Ab hBw2;have HX2:=Ab hX2;have HD2:=Ab ((Aa HD1).below hB2);have HPS2:=Ab ((Aa HPS).below hB2);clear hB2 hBw2 hX2;go_wp2_with fail
 refine(Aa HAT _).mono ?_;rintro e w3 ⟨t,rfl,ht,rfl⟩;have hsl:=Aa HSI t (by omega);go_wp2_with fail
 refine(Aa HRT _ t (by omega) (Aa HB2)).mono ?_;rintro e w4 ⟨hB4,d4,rfl,hD4⟩;obtain⟨p3,q3,p4,q4,rfl,hq3,hq4,hp3,hp4⟩:=hD4.parts;obtain⟨k,hk⟩:∃k,rN (bs.take t)=k:=⟨_,rfl⟩
 obtain⟨kl,hkl⟩:∃kl,(S.take (rN (bs.take t))).length=kl:=⟨_,rfl⟩
 rw[hkl]at hD4 hq3 ⊢;rw[hk];simp only[List.length_nil]at hD4 ⊢;obtain⟨Y,hY⟩:∃Y,w4.heap.size=Y:=⟨_,rfl⟩
 have hA4:Below w4.heap.size w4 (w4.alloc (.cells #[.slice p3 kl q3,.slice p4 0 q4] 34)):=Bv (Below.refl _ _) _;have hBc4:=hB4.trans (hA4.mono hB4.size);have hY4:(w4.alloc (.cells #[.slice p3 kl q3,.slice p4 0 q4] 34)).heap[Y]? =some (.cells #[.slice p3 kl q3,.slice p4 0 q4] 34 (0,0)):=by rw[<-hY];exact heap_alloc_new _ _
 have hX4:=(hBc4.block X (Array.getElem?_eq_some_iff.1 (Aa HX2)).1).trans (Aa HX2);have x0:=Ac (i:=0) hX4;have HB4:=Ab ((Aa HB2).trans (hBc4.mono (Aa HB2).size));have HX4:=Ab hX4;have HY4:=Ab hY4;have HD4:=Ab ((Aa HD2).below hBc4);have HC4:=Ab (hp3.below hA4);have HPS4:=Ab ((Aa HPS2).below hBc4);have HKL:=Ab hkl;have HQ3:=Ab hq3;clear hA4 hBc4 hY4 hX4 hB4 hD4 hp3 hp4 hsl;go_wp2_with fail
 refine(Aa HRS _ p1 q1 hq1 (Aa HPS4)).mono ?_;rintro e w5 ⟨hB5,d5,rfl,hD5⟩;obtain⟨p5,q5,p6,q6,rfl,-,-,-,-⟩:=hD5.parts;rw[Aa HSL]at hD5 ⊢;simp only[List.length_nil]at hD5 ⊢;obtain⟨Z,hZ⟩:∃Z,w5.heap.size=Z:=⟨_,rfl⟩
 have hA5:Below w5.heap.size w5 (w5.alloc (.cells #[.slice p5 m q5,.slice p6 0 q6] 34)):=Bv (Below.refl _ _) _;have hBc5:=hB5.trans (hA5.mono hB5.size);have hZ5:(w5.alloc (.cells #[.slice p5 m q5,.slice p6 0 q6] 34)).heap[Z]? =some (.cells #[.slice p5 m q5,.slice p6 0 q6] 34 (0,0)):=by rw[<-hZ];exact heap_alloc_new _ _
 have hX5:=(hBc5.block X (Array.getElem?_eq_some_iff.1 (Aa HX4)).1).trans (Aa HX4);have hY5:=(hBc5.block Y (Array.getElem?_eq_some_iff.1 (Aa HY4)).1).trans (Aa HY4);have HBW:=Ab ((Aa HB4).trans (hBc5.mono (Aa HB4).size));have hDd:=(Aa HD4).below hBc5;have hDr:=hD5.below hA5;have hPS:=(Aa HPS4).below hBc5;have hPc:=(Aa HC4).below hBc5;have x0':=Ac (i:=0) hX5;have x1':=Ac (i:=1) hX5;have y0':=Ac (i:=0) hY5;have z0':=Ac (i:=0) hZ5;have z1':=Ac (i:=1) hZ5;have hPSn:PIn (w5.alloc (.cells #[.slice p5 m q5,.slice p6 0 q6] 34)) (.slice p1 m q1) S:=⟨p1,q1,by rw[Aa HSL],by rw[Aa HSL];exact hq1,hPS⟩
 have hPcn:PIn (w5.alloc (.cells #[.slice p5 m q5,.slice p6 0 q6] 34)) (.slice p3 kl q3) (S.take (rN (bs.take t))):=⟨p3,q3,by rw[Aa HKL],by rw[Aa HKL];exact Aa HQ3,hPc⟩
 have HE1:=Ab (Rv ((Aa HPB).below (Aa HBW)) hPSn (Aa HV) (by rw[Aa HSL];exact(Aa HSS).symm));have HE2:=Ab (Rv hPSn hPcn (Aa HSV) (by rw[List.length_take];exact(List.take_eq_take_min ..)));have HE3:=Ab (Wl hDr hDd (Aa HSV) (fun x hx=>by cases hx) rfl rfl);have HE4:=Ab (fun W' (hW':Below (w5.alloc (.cells #[.slice p5 m q5,.slice p6 0 q6] 34)).heap.size (w5.alloc (.cells #[.slice p5 m q5,.slice p6 0 q6] 34)) W')=>Ln _ S [] W' (hDd.below hW') (Aa HSV) (fun x hx=>by cases hx) (by rw[Aa HSL];omega) (by decide));rw[Aa HDK]at HE4
 have HXX:Hid (∀W',Below (w5.alloc (.cells #[.slice p5 m q5,.slice p6 0 q6] 34)).heap.size (w5.alloc (.cells #[.slice p5 m q5,.slice p6 0 q6] 34)) W'->W'.cell? ⟨X,0,none⟩=some (.slice p1 m q1)/\W'.cell? ⟨X,1,none⟩=some (.slice p2 0 q2)):=Ab (fun W' hW'=>by
  have h:=(hW'.block X (Array.getElem?_eq_some_iff.1 hX5).1).trans hX5;exact⟨Ac (i:=0) h,Ac (i:=1) h⟩)
 clear hB5 hA5 hBc5 hZ5 hX5 hY5 hDd hDr hPS hPc hPSn hPcn hD5;go_wp2_with fail
 refine(Aa HE1).mono ?_;rintro e w6 ⟨rfl,rfl⟩;go_wp2_with fail
 refine(Aa HE2).mono ?_;rintro e w7 ⟨rfl,rfl⟩;go_wp2_with fail
 refine(Aa HE3).mono ?_;rintro e w8 ⟨rfl,hB8⟩;obtain⟨u0,u1⟩:=Aa HXX w8 hB8;have HB8:=Ab ((Aa HBW).trans (hB8.mono (Aa HBW).size));have HE5:=Ab (Aa HE4 w8 hB8);clear hB8;go_wp2_with fail
 refine(Aa HE5).mono ?_;rintro e w9 ⟨rfl,hB9⟩;have HB9:=Ab ((Aa HB8).trans (hB9.mono (Aa HB8).size));clear hB9;go_wp2;go_ret;exact⟨rfl,Aa HB9⟩
end Go.Proofs.YtcjbgpacnkilnaiGreatDoor
