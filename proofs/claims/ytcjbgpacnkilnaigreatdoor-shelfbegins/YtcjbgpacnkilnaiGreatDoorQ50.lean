import Derived.Test.YtcjbgpacnkilnaiGreatDoorQ49
import Derived.Test.YtcjbgpacnkilnaiGreatDoorQ21
set_option maxHeartbeats 4000000
namespace Go.Proofs.YtcjbgpacnkilnaiGreatDoor
open Go.RowKit
set_option linter.unusedVariables false
set_option linter.unusedSimpArgs false
set_option maxRecDepth 100000
theorem Zf7 {w:World}{v:Value}{fs:List Fl}(h:LIn w v fs):
 Calls Tryz.prog 7 #[v] w fun e w'=>Below w.heap.size w w'/\(∃v,e=.returned (.tuple #[v,.int .i64 (wrE fs:Nat)])/\PIn w' v (wrL fs))/\(wrE fs=0->WrN (wrL fs)):=by
 obtain⟨ad,c,xs,rfl,h1,h2⟩:=h;refine(Z41 ad c fs.length xs w h1 (Z15 h2)).mono ?_;intro e w' h3;rw[h2]at h3;exact Zht h3
theorem Z9x {w w':World}{S T:List Nat}{e:Ending}(h:FiA w S T e w'):Below w.heap.size w w'/\∃v l,e=.returned (.tuple #[v,.int .i64 (dskE S T:Nat)])/\LIn w' v l/\(dskE S T=0->l=rF (S++T))/\(dskE S T≠0->l= []):=by
 obtain⟨hB,v,l,h1,h2,h3,h4⟩:=h;exact⟨hB,v,l,h1,h2,fun e=>(Ji (h3 e)).1.symm,h4⟩
structure Box (w:World)(N:Nat)(u v:Value)(W:World):Prop where
 bel:Below w.heap.size w W
 at0:W.heap[N]? =some (.cells #[u,v] 34 (0,0))
 at1:W.heap[N+1]? =some (.cells #[.slice none 0 0,.slice none 0 0] 34 (0,0))
 le:w.heap.size<=N+1
theorem Box.new {w:World}{N:Nat}(hN:w.heap.size=N)(u v:Value):Box w N u v ((w.alloc (.cells #[u,v] 34)).alloc (.cells #[.slice none 0 0,.slice none 0 0] 34)):=by
 refine⟨((Below.refl w.heap.size w).alloc (Nat.le_refl _) _).alloc (by simp) _, ?_, ?_,by omega⟩
 . refine(Below.heap_alloc _ _ _ (by simp[hN])).trans ?_;rw[<-hN];exact heap_alloc_new _ _
 . have:=heap_alloc_new (w.alloc (.cells #[u,v] 34)) (.cells #[.slice none 0 0,.slice none 0 0] 34)
   rw[<-(by simp[hN]:(w.alloc (.cells #[u,v] 34)).heap.size=N+1)];exact this
theorem Box.below {w W W':World}{N:Nat}{u v:Value}(h:Box w N u v W)(hB:Below W.heap.size W W'):Box w N u v W':=
 ⟨h.bel.trans (hB.mono h.bel.size),(hB.block N (Array.getElem?_eq_some_iff.1 h.at0).1).trans h.at0,(hB.block (N+1) (Array.getElem?_eq_some_iff.1 h.at1).1).trans h.at1,h.le⟩
theorem Box.empty {w W:World}{N E:Nat}{u v:Value}{S T:List Nat}(h:Box w N u v W)(hS:S= [])(hT:T= []):
 ((W.setCell ⟨N+1,0,none⟩ (.slice none 0 0)).setCell ⟨N+1,1,none⟩ (.slice none 0 0)).heap[N+1]? =some (.cells #[.slice none 0 0,.slice none 0 0] 34 (0,0))/\DkA w S T E (.returned (.tuple #[.agg #[.slice none 0 0,.slice none 0 0],.int .i64 (E:Int)])) ((W.setCell ⟨N+1,0,none⟩ (.slice none 0 0)).setCell ⟨N+1,1,none⟩ (.slice none 0 0)):=by
 obtain⟨k1,k2,k3⟩:=DIn.put h.bel h.le h.at1 (PIn.nil W) (PIn.nil W);exact⟨k1,k2,_,rfl,by rw[hS,hT];exact k3⟩
theorem Box.facts {w W:World}{N:Nat}{u v:Value}(h:Box w N u v W):W.cell? ⟨N+1,0,none⟩=some (.slice none 0 0)/\W.cell? ⟨N+1,1,none⟩=some (.slice none 0 0)/\W.frozen? ⟨N+1,0,none⟩=false/\W.frozen? ⟨N+1,1,none⟩=false/\W.cell? ⟨N,0,none⟩=some u/\W.cell? ⟨N,1,none⟩=some v:=
 ⟨Ac (i:=0) h.at1,Ac (i:=1) h.at1,frozen_of_row _ (N+1) 0 _ _ h.at1,frozen_of_row _ (N+1) 1 _ _ h.at1,Ac (i:=0) h.at0,Ac (i:=1) h.at0⟩
theorem Zba (v u:Value)(S T:List Nat)(fs:List Fl)(w:World)(hD:DIn w v S T)(hL:LIn w u fs)(hv1:∀x∈S,x<256)(hv2:∀x∈T,x<256)(hm1:S.length<=140737488355328)(hm2:T.length<=140737488355328):
 Calls Tryz.prog 29 #[v,u] w fun e w'=>DkA w (addS S T fs) (addW S T fs) (addE S T fs) e w':=by
 have HFI:=Ab (fun W (hW:Below w.heap.size w W)=>(Pk v S T W (hD.below hW) hv1 hv2 hm1 hm2).mono (fun e w' h=>Z9x h));obtain⟨a1,c1,a2,c2,rfl,hc1,hc2,hP1,hP2⟩:=hD.parts;obtain⟨N,hN⟩:∃N,w.heap.size=N:=⟨_,rfl⟩
 obtain⟨n1,hn1⟩:∃n1,S.length=n1:=⟨_,rfl⟩
 obtain⟨n2,hn2⟩:∃n2,T.length=n2:=⟨_,rfl⟩
 obtain⟨E,hE⟩:∃E,dskE S T=E:=⟨_,rfl⟩
 rw[hn1,hn2,hE]at HFI;rw[hn1]at hm1 hc1 ⊢;rw[hn2]at hm2 hc2 ⊢;obtain⟨ad,uc,hu⟩:=hL.shape;obtain⟨k,hk⟩:∃k,fs.length=k:=⟨_,rfl⟩
 rw[hk]at hu;subst hu;have HBX:=Ab (Box.new hN (.slice a1 n1 c1) (.slice a2 n2 c2));have HP1:=Ab hP1;have HP2:=Ab hP2;have HLL:=Ab hL;have HE:=Ab hE;have HM1:=Ab hn1;have HM2:=Ab hn2;clear hD hv1 hv2 hP1 hP2 hE hn1 hn2 hL hk;go_enter Tryz.func29,Tryz.ntmps29
 go_wp2_with fail
 refine(Aa HFI _ (Aa HBX).bel).mono ?_;rintro e w1 ⟨hB1,v1,l,rfl,hL1,hl1,_⟩;have hX1:=(Aa HBX).below hB1
 by_cases hE0:¬E=0
 . have hEb:((E:Int)==0)=false:=by rw[beq_eq_false_iff_ne];omega
   have hEc:((E:Int)!=0)=true:=by rw[bne,hEb];rfl
   have hA:addE S T fs=E:=by rw[Z3z (by rw[Aa HE];exact hE0),Aa HE]
   obtain⟨q1,q2⟩:=Ku (S:=S) (T:=T) (fs:=fs) (by rw[hA];exact hE0);obtain⟨e0,e1,f0,f1,_,_⟩:=hX1.facts;have HF:=Ab (hX1.empty (E:=E) q1 q2);have HA:=Ab hA;clear hB1 hX1 hE0 hL1 hl1 HFI hA q1 q2;go_wp2;refine bodyPost_ret (v:=.tuple #[.agg #[.slice none 0 0,.slice none 0 0],.int .i64 (E:Int)]) ?_ rfl (by rw[Aa HA];exact(Aa HF).2);exact Dv rfl _ _ (N+1) _ _ rfl (Cs (Aa HF).1) rfl
 obtain rfl:E=0:=by omega
 have hlf:l=rF (S++T):=hl1 rfl;have HWR:=Ab (Zf7 ((Aa HLL).below hX1.bel));obtain⟨F,hF⟩:∃F,wrE fs=F:=⟨_,rfl⟩
 rw[hF]at HWR;have HFF:=Ab hF;have HX1:=Ab hX1;have HL1:=Ab hL1;have HLF:=Ab hlf;clear hB1 hX1 hL1 hl1 hlf HFI hF;go_wp2_with fail
 refine(Aa HWR).mono ?_;rintro e w2 ⟨hB2,⟨v2,rfl,hP2⟩,hwr⟩;have hX2:=(Aa HX1).below hB2
 by_cases hF0:¬F=0
 . have hEb:((F:Int)==0)=false:=by rw[beq_eq_false_iff_ne];omega
   have hEc:((F:Int)!=0)=true:=by rw[bne,hEb];rfl
   have hA:addE S T fs=F:=by rw[Zbb (Aa HE) (by rw[Aa HFF];exact hF0),Aa HFF]
   obtain⟨q1,q2⟩:=Ku (S:=S) (T:=T) (fs:=fs) (by rw[hA];exact hF0);obtain⟨e0,e1,f0,f1,_,_⟩:=hX2.facts;have HF:=Ab (hX2.empty (E:=F) q1 q2);have HA:=Ab hA;clear hB2 hX2 hF0 hP2 hwr HWR hA q1 q2;go_wp2;refine bodyPost_ret (v:=.tuple #[.agg #[.slice none 0 0,.slice none 0 0],.int .i64 (F:Int)]) ?_ rfl (by rw[Aa HA];exact(Aa HF).2);exact Dv rfl _ _ (N+1) _ _ rfl (Cs (Aa HF).1) rfl
 obtain rfl:F=0:=by omega
 have HBO:=Ab (Zf3 ((Aa HL1).below hB2) ((Aa HLL).below hX2.bel));obtain⟨G,hG⟩:∃G,Co l fs=G:=⟨_,rfl⟩
 rw[hG]at HBO;have HG:Hid (Co (rF (S++T)) fs=G):=Ab (by rw[<-Aa HLF];exact hG);have HX2:=Ab hX2;have HP2':=Ab hP2;have HWR2:=Ab (hwr rfl);clear hB2 hX2 hP2 hwr HWR hG;go_wp2_with fail
 refine(Aa HBO).mono ?_;rintro e w3 ⟨v3,rfl,_,hB3⟩;have hX3:=(Aa HX2).below hB3
 by_cases hG0:¬G=0
 . have hEb:((G:Int)==0)=false:=by rw[beq_eq_false_iff_ne];omega
   have hEc:((G:Int)!=0)=true:=by rw[bne,hEb];rfl
   have hA:addE S T fs=G:=by rw[Zt (Aa HE) (Aa HFF) (by rw[Aa HG];exact hG0),Aa HG]
   obtain⟨q1,q2⟩:=Ku (S:=S) (T:=T) (fs:=fs) (by rw[hA];exact hG0);obtain⟨e0,e1,f0,f1,_,_⟩:=hX3.facts;have HF:=Ab (hX3.empty (E:=G) q1 q2);have HA:=Ab hA;clear hB3 hX3 hG0 HBO hA q1 q2;go_wp2;refine bodyPost_ret (v:=.tuple #[.agg #[.slice none 0 0,.slice none 0 0],.int .i64 (G:Int)]) ?_ rfl (by rw[Aa HA];exact(Aa HF).2);exact Dv rfl _ _ (N+1) _ _ rfl (Cs (Aa HF).1) rfl
 obtain rfl:G=0:=by omega
 obtain⟨ar,har⟩:∃ar,wrL fs=ar:=⟨_,rfl⟩
 have hP3:=(Aa HP2').below hB3;rw[har]at hP3;obtain⟨x4,z4,rfl,hz4,hpk4⟩:=hP3;obtain⟨m,hm⟩:∃m,ar.length=m:=⟨_,rfl⟩
 rw[hm]at hz4 ⊢;obtain⟨r1,r4,r5⟩:=Aa HWR2;rw[har]at r1 r4 r5;rw[hm]at r4 r5;have HRC:Hid (∀W:World,Below w3.heap.size w3 W->Calls Tryz.prog 46 #[.slice x4 m z4] W fun e w'=>∃g c,e=.returned (.slice (some ⟨g,0,none⟩) (8+m) c)/\8+m<=c/\W.heap.size<=g/\g<w'.heap.size/\Bytes w' g 0 (Hh ar)/\Below W.heap.size W w'):=Ab (fun W hW=>Z4p x4 m z4 ar W hm (by omega) r5 (hpk4.below hW).1 r1);have HCC:Hid (∀(W:World) (g c:Nat),Below w3.heap.size w3 W->g<W.heap.size->Bytes W g 0 (Hh ar)->Calls Tryz.prog 45 #[.slice (some ⟨W.heap.size,0,none⟩) 2 2] (W.alloc (.cells #[.slice a2 n2 c2,.slice (some ⟨g,0,none⟩) (8+m) c] 22)) fun e w'=>∃x c,n2+(8+m)<=c/\e=.returned (.slice x (n2+(8+m)) c)/\BytesIn w' x (T++Hh ar)/\Below W.heap.size W w'/\(x=none->c=0)):=Ab (fun W g c hW hg hb=>Fr W a2 (some ⟨g,0,none⟩) n2 (8+m) c2 c 2 T (Hh ar) 22 (Aa HM2) (by rw[Ef,hm]) ((Aa HP2).below (hX3.bel.trans (hW.mono hX3.bel.size))).1 (.inr ⟨g,0,rfl,hg,hb⟩) (by omega));have HX3:=Ab hX3;have HAR:=Ab har;have HMM:=Ab hm;have HW3:=Ab (show N<w3.heap.size from (Array.getElem?_eq_some_iff.1 hX3.at0).1);clear hB3 hX3 HBO hpk4 r1 har hm;go_upto_region 10 with fail
 go_cut [11] (fun v11 wc=>∃x c,v11=.slice x (n2+(8+m)) c/\n2+(8+m)<=c/\Hid (PkIn wc x c (T++Hh ar)/\Below w3.heap.size w3 wc))
 case first=>
  have hcell:w3.cell? ⟨N,1,none⟩=some (.slice a2 n2 c2):=Ac (i:=1) (Aa HX3).at0;refine wp_region_held_drew (S:=fun W=>W.cell? ⟨N,1,none⟩=some (.slice a2 n2 c2)/\Below w3.heap.size w3 W) (by kernel_rfl) ⟨hcell,Ae (Below.refl _ _) 1⟩ (fun hHeld=> ?_);refine wpAnyH_take (i:=0) (v:=.pointer (some ⟨N,1,none⟩)) rfl (by kernel_rfl) (by kernel_rfl) (by kernel_rfl) (fun _ _ _ h=>h) (Or.inl ⟨by rfl,fun W hS=>by go_simp⟩) hHeld ?_;simp only[Act.put,List.setIfInBounds_toArray,List.set_cons_zero,List.set_cons_succ];refine wpAnyH_take (i:=1) (v:=.slice a2 n2 c2) rfl (by kernel_rfl) (by kernel_rfl) (by kernel_rfl) (fun _ _ _ h=>h) (Or.inl ⟨by rfl,fun W hS=>by have hc:=hS.1;go_simp⟩) hHeld ?_;simp only[Act.put,List.setIfInBounds_toArray,List.set_cons_zero,List.set_cons_succ];refine wpAnyH_take (i:=2) (v:=.slice x4 m z4) rfl (by kernel_rfl) (by kernel_rfl) (by kernel_rfl) (fun _ _ _ h=>h) (Or.inl ⟨by rfl,fun W hS=>by go_simp⟩) hHeld ?_;simp only[Act.put,List.setIfInBounds_toArray,List.set_cons_zero,List.set_cons_succ];have hrr:∀W,Below w3.heap.size w3 W->W.cell? ⟨N,1,none⟩=some (.slice a2 n2 c2)/\Below w3.heap.size w3 W:=fun W hW=>⟨(hW.cell (p:=⟨N,1,none⟩) (Aa HW3)).trans hcell,hW⟩
  refine wpAnyH_ready (rs:= [3]) (by kernel_rfl) (by simp) (AllReadyH.cons rfl (fun K hK=> ?_) AllReadyH.nil);go_simp
  refine(Aa HRC _ hHeld.2).mono ?_;rintro e w4 ⟨g,c,rfl,hgc,hg1,hg2,hby,hB4⟩;have hB34:Below w3.heap.size w3 w4:=hHeld.2.trans (hB4.mono hHeld.2.size);dsimp only;refine hK.out _ _ (hrr _ hB34) (fun hHeld4=> ?_);clear hK K hHeld;refine wpAnyH_ready (rs:= [4]) (by kernel_rfl) (by simp) (AllReadyH.cons rfl (fun K hK=> ?_) AllReadyH.nil);go_simp
  refine hK.out _ _ (hrr _ (hB34.alloc hB34.size _)) (fun hHeld5=> ?_);clear hK K hHeld4;refine wpAnyH_ready (rs:= [5]) (by kernel_rfl) (by simp) (AllReadyH.cons rfl (fun K hK=> ?_) AllReadyH.nil);go_simp
  refine(Aa HCC w4 g c hB34 hg2 hby).mono ?_;rintro e w5 ⟨x5,c5,hc5,rfl,hby5,hB5,hnil5⟩;have hB35:Below w3.heap.size w3 w5:=hB34.trans (hB5.mono hB34.size);dsimp only;refine hK.out _ _ (hrr _ hB35) (fun hHeld6=> ?_);clear hK K hHeld5;refine wpAnyH_ready (rs:= [6]) (by kernel_rfl) (by simp) (AllReadyH.cons rfl (fun K hK=> ?_) AllReadyH.nil);go_simp
  refine hK.out _ _ hHeld6 (fun hHeld7=> ?_);clear hK K hHeld6;refine wpAnyH_done (by kernel_rfl) ?_ _;have HF:Hid (n2+(8+m)<=c5/\PkIn w5 x5 c5 (T++Hh ar)/\Below w3.heap.size w3 w5):=Ab ⟨hc5,⟨hby5,hnil5⟩,hB35⟩;clear hc5 hby5 hnil5 hB35 hB5 hB34 hB4 hby hHeld7 hrr hcell;go_wp2_with fail
  go_meet
  exact⟨_,_,rfl,(Aa HF).1,Ab (Aa HF).2⟩
 case rest=>
  obtain⟨x,c,rfl,hxc,hst⟩:=hcut;obtain⟨hpk,hBc⟩:=Aa hst;have hXc:=(Aa HX3).below hBc;obtain⟨e0,e1,f0,f1,g0,g1⟩:=hXc.facts;have hwr:IntKind.i64.wrap ((40000:Int)-(n1:Int))=(40000:Int)-(n1:Int):=by simp[IntKind.wrap,IntKind.signed,IntKind.bits];omega
  obtain⟨q,hq⟩:∃q,n2+(8+m)=q:=⟨_,rfl⟩
  rw[hq]at hxc ⊢;have hlen:(wrL fs).length=m:=by rw[Aa HAR];exact Aa HMM
  by_cases h4:40000<n1+q
  . have hA:addE S T fs=11:=Zs (Aa HE) (Aa HFF) (Aa HG) (by rw[Aa HM1,Aa HM2,hlen];omega);obtain⟨q1,q2⟩:=Ku (S:=S) (T:=T) (fs:=fs) (by rw[hA];decide);have h4I:(40000:Int)-(n1:Int)<(q:Int):=by omega
    have HF:=Ab (hXc.empty (E:=11) q1 q2);have HA:=Ab hA;clear hpk hBc hXc hst h4 hA q1 q2 hq hlen;go_wp2;refine bodyPost_ret (v:=.tuple #[.agg #[.slice none 0 0,.slice none 0 0],.int .i64 11]) ?_ rfl (by rw[Aa HA];exact(Aa HF).2);exact Dv rfl _ _ (N+1) _ _ rfl (Cs (Aa HF).1) rfl
  . have hA:addE S T fs=0:=Z1p (Aa HE) (Aa HFF) (Aa HG) (by rw[Aa HM1,Aa HM2,hlen];omega);obtain⟨_,_,_,_,q1,q2⟩:=Kv hA;rw[Aa HAR]at q2;have h4I:¬(40000:Int)-(n1:Int)<(q:Int):=by omega
    have HCO:=Ab (Ps a1 n1 c1 S wc (Aa HM1) ((Aa HP1).below hXc.bel) hm1);have hpin:PIn wc (.slice x q c) (T++Hh ar):=⟨x,c,by rw[List.length_append,Ef,Aa HM2,Aa HMM,hq],by rw[List.length_append,Ef,Aa HM2,Aa HMM,hq];exact hxc,hpk⟩
    have HPN:=Ab hpin;have HXc:=Ab hXc;have HA:=Ab hA;have HQ1:=Ab q1;have HQ2:=Ab q2;clear hpk hBc hXc hst h4 hA q1 q2 hq hlen hpin e0 e1 f0 f1;go_wp2_with fail
    refine(Aa HCO).mono ?_;rintro e w6 ⟨v6,rfl,hP6,hB6⟩;have hX6:=(Aa HXc).below hB6;obtain⟨e0,e1,f0,f1,_,_⟩:=hX6.facts;obtain⟨k1,k2,k3⟩:=DIn.put hX6.bel hX6.le hX6.at1 hP6 ((Aa HPN).below hB6);obtain⟨a6,c6,rfl,_⟩:=id hP6;rw[Aa HM1]at k1 k2 k3 ⊢;have HF:Hid (DkA w (addS S T fs) (addW S T fs) 0 (.returned (.tuple #[.agg #[.slice a6 n1 c6,.slice x q c],.int .i64 0])) ((w6.setCell ⟨N+1,0,none⟩ (.slice a6 n1 c6)).setCell ⟨N+1,1,none⟩ (.slice x q c))):=Ab ⟨k2,_,rfl,by rw[Aa HQ1,Aa HQ2];exact k3⟩;have HK:=Ab k1;clear k1 k2 k3 hP6 hB6 hX6 HCO;go_wp2;refine bodyPost_ret (v:=.tuple #[.agg #[.slice a6 n1 c6,.slice x q c],.int .i64 0]) ?_ rfl (by rw[Aa HA];exact Aa HF);exact Dv rfl _ _ (N+1) _ _ rfl (Cs (Aa HK)) rfl
noncomputable def cutE (S T:List Nat)(n:Int):Nat:=if dskE S T≠0 then dskE S T else if n<0\/ (T.length:Int)<n then 3 else 0
def Zhq (S T:List Nat)(n:Int):List Nat:=S++T.take n.toNat
noncomputable def cutS (S T:List Nat)(n:Int):List Nat:=if cutE S T n=0 then (Zhq S T n).take (rN (Zhq S T n))else []
noncomputable def cutN (S T:List Nat)(n:Int):Nat:=if cutE S T n=0 then (Zhq S T n).length-rN (Zhq S T n)else 0
def DnA (w:World)(S T:List Nat)(m E:Nat)(e:Ending)(w':World):Prop:=Below w.heap.size w w'/\∃d,e=.returned (.tuple #[d,.int .i64 (m:Int),.int .i64 (E:Int)])/\DIn w' d S T
theorem Z84 {w w':World}{bs:List Nat}{e:Ending}(h:RcA w bs e w'):(40000<bs.length/\DnA w [] [] 0 2 e w')\/ (bs.length<=40000/\DnA w (bs.take (rN bs)) [] (bs.length-rN bs) 0 e w'):=by
 obtain⟨hB,⟨h1,rfl⟩|⟨h1,f,m,v,h2,rfl,h3⟩⟩:=h
 . exact .inl ⟨h1,hB,_,rfl,DIn.nil _⟩
 . rw[<-(Wq h2).2]at h3;exact .inr ⟨h1,hB,_,by rw[(Wq h2).2];rfl,_,_,rfl,h3,PIn.nil _⟩
theorem Box.empty3 {w W:World}{N E:Nat}{u v:Value}{S:List Nat}{m:Nat}(h:Box w N u v W)(hS:S= [])(hm:m=0):
 ((W.setCell ⟨N+1,0,none⟩ (.slice none 0 0)).setCell ⟨N+1,1,none⟩ (.slice none 0 0)).heap[N+1]? =some (.cells #[.slice none 0 0,.slice none 0 0] 34 (0,0))/\DnA w S [] m E (.returned (.tuple #[.agg #[.slice none 0 0,.slice none 0 0],.int .i64 0,.int .i64 (E:Int)])) ((W.setCell ⟨N+1,0,none⟩ (.slice none 0 0)).setCell ⟨N+1,1,none⟩ (.slice none 0 0)):=by
 obtain⟨k1,k2,k3⟩:=DIn.put h.bel h.le h.at1 (PIn.nil W) (PIn.nil W);exact⟨k1,k2,_,by rw[hm];rfl,by rw[hS];exact k3⟩
theorem Zad {S T:List Nat}{n:Int}(h:cutE S T n≠0):cutS S T n= []/\cutN S T n=0:=⟨by unfold cutS;rw[if_neg h],by unfold cutN;rw[if_neg h]⟩
theorem Zh5 (v:Value)(n:Int)(S T:List Nat)(w:World)(hD:DIn w v S T)(hv1:∀x∈S,x<256)(hv2:∀x∈T,x<256)(hm1:S.length<=140737488355328)(hm2:T.length<=140737488355328):
 Calls Tryz.prog 31 #[v,.int .i64 n] w fun e w'=>DnA w (cutS S T n) [] (cutN S T n) (cutE S T n) e w':=by
 have HCK:=Ab (fun W (hW:Below w.heap.size w W)=>Ln v S T W (hD.below hW) hv1 hv2 hm1 hm2);obtain⟨a1,c1,a2,c2,rfl,hc1,hc2,hP1,hP2⟩:=hD.parts;obtain⟨N,hN⟩:∃N,w.heap.size=N:=⟨_,rfl⟩
 obtain⟨n1,hn1⟩:∃n1,S.length=n1:=⟨_,rfl⟩
 obtain⟨n2,hn2⟩:∃n2,T.length=n2:=⟨_,rfl⟩
 obtain⟨E,hE⟩:∃E,dskE S T=E:=⟨_,rfl⟩
 rw[hn1,hn2,hE]at HCK;rw[hn1]at hm1 hc1 ⊢;rw[hn2]at hm2 hc2 ⊢;have HBX:=Ab (Box.new hN (.slice a1 n1 c1) (.slice a2 n2 c2));have HP1:=Ab hP1;have HP2:=Ab hP2;have HV1:=Ab hv1;have HV2:=Ab hv2;have HE:=Ab hE;have HM1:=Ab hn1;have HM2:=Ab hn2;clear hD hv1 hv2 hP1 hP2 hE hn1 hn2;go_enter Tryz.func31,Tryz.ntmps31
 go_wp2_with fail
 refine(Aa HCK _ (Aa HBX).bel).mono ?_;rintro e w1 ⟨rfl,hB1⟩;have hX1:=(Aa HBX).below hB1;obtain⟨e0,e1,f0,f1,g0,g1⟩:=hX1.facts
 by_cases hE0:¬E=0
 . have hEb:((E:Int)==0)=false:=by rw[beq_eq_false_iff_ne];omega
   have hEc:((E:Int)!=0)=true:=by rw[bne,hEb];rfl
   have hA:cutE S T n=E:=by unfold cutE;rw[if_pos (by rw[Aa HE];exact hE0),Aa HE]
   obtain⟨q1,q2⟩:=Zad (S:=S) (T:=T) (n:=n) (by rw[hA];exact hE0);have HF:=Ab (hX1.empty3 (E:=E) q1 q2);have HA:=Ab hA;clear hB1 hX1 hE0 HCK hA q1 q2;go_wp2;refine bodyPost_ret (v:=.tuple #[.agg #[.slice none 0 0,.slice none 0 0],.int .i64 0,.int .i64 (E:Int)]) ?_ rfl (by rw[Aa HA];exact(Aa HF).2);exact Du rfl _ _ (N+1) _ _ _ rfl (Cs (Aa HF).1) rfl rfl
 obtain rfl:E=0:=by omega
 by_cases hr:n<0\/ (n2:Int)<n
 . have hA:cutE S T n=3:=by unfold cutE;rw[if_neg (by simp[Aa HE]),Aa HM2,if_pos hr]
   obtain⟨q1,q2⟩:=Zad (S:=S) (T:=T) (n:=n) (by rw[hA];decide);have HF:=Ab (hX1.empty3 (E:=3) q1 q2);have HA:=Ab hA
   rcases(by omega:n<0\/ (¬n<0/\(n2:Int)<n))with h1|⟨h1,h2⟩
   . clear hB1 hX1 hE0 HCK hA q1 q2 hr;go_wp2;refine bodyPost_ret (v:=.tuple #[.agg #[.slice none 0 0,.slice none 0 0],.int .i64 0,.int .i64 3]) ?_ rfl (by rw[Aa HA];exact(Aa HF).2);exact Du rfl _ _ (N+1) _ _ _ rfl (Cs (Aa HF).1) rfl rfl
   . clear hB1 hX1 hE0 HCK hA q1 q2 hr;go_wp2;refine bodyPost_ret (v:=.tuple #[.agg #[.slice none 0 0,.slice none 0 0],.int .i64 0,.int .i64 3]) ?_ rfl (by rw[Aa HA];exact(Aa HF).2);exact Du rfl _ _ (N+1) _ _ _ rfl (Cs (Aa HF).1) rfl rfl
 have hA:cutE S T n=0:=by unfold cutE;rw[if_neg (by simp[Aa HE]),Aa HM2,if_neg hr]
 obtain⟨k,rfl⟩:∃k:Nat,n=(k:Int):=⟨n.toNat,by omega⟩
 have hk2:k<=n2:=by omega
 have h1:¬(k:Int)<0:=by omega
 have h2:¬(n2:Int)<(k:Int):=by omega
 have hcB:Zhq S T (k:Int)=S++T.take k:=rfl;have htl:(T.take k).length=k:=by rw[List.length_take,Aa HM2];omega
 have hsz:=(Yx (Aa HE)).1;rw[Aa HM1,Aa HM2]at hsz;obtain⟨b,hb⟩:∃b,S++T.take k=b:=⟨_,rfl⟩
 have hbl:b.length=n1+k:=by rw[<-hb,List.length_append,Aa HM1,htl]
 have hbv:∀x∈b,x<256:=fun x hx=>by
  rw[<-hb]at hx
  rcases List.mem_append.1 hx with h|h
  . exact Aa HV1 x h
  . exact Aa HV2 x (List.mem_of_mem_take h)
 have hq1:cutS S T (k:Int)=b.take (rN b):=by unfold cutS;rw[if_pos hA,hcB,hb]
 have hq2:cutN S T (k:Int)=b.length-rN b:=by unfold cutN;rw[if_pos hA,hcB,hb]
 have hsl:=Z2b a2 k n2 c2 hk2 hc2;obtain⟨L,hL⟩:∃L,b.length-rN b=L:=⟨_,rfl⟩
 rw[hL]at hq2
 have HCC:Hid (∀W:World,Below w1.heap.size w1 W->Calls Tryz.prog 45 #[.slice (some ⟨W.heap.size,0,none⟩) 2 2] (W.alloc (.cells #[.slice a1 n1 c1,.slice a2 k c2] 22)) fun e w'=>∃x c,n1+k<=c/\e=.returned (.slice x (n1+k) c)/\BytesIn w' x b/\Below W.heap.size W w'/\(x=none->c=0)):=Ab (fun W hW=>by
  have hPW1:=(Aa HP1).below (hX1.bel.trans (hW.mono hX1.bel.size));have hPW2:=Om ((Aa HP2).below (hX1.bel.trans (hW.mono hX1.bel.size))) k;rw[<-hb];exact Fr W a1 a2 n1 k c1 c2 2 S (T.take k) 22 (Aa HM1) htl hPW1.1 hPW2.1 (by omega))
 have HRC:Hid (∀(W:World) (x:Option Addr) (c:Nat),n1+k<=c->PkIn W x c b->Calls Tryz.prog 10 #[.slice x (n1+k) c] W fun e w'=>Below W.heap.size W w'/\∃b1 m1 d1 b2 d2,e=.returned (.tuple #[.agg #[.slice b1 m1 d1,.slice b2 0 d2],.int .i64 (L:Int),.int .i64 0])/\PIn w' (.slice b1 m1 d1) (b.take (rN b))/\PIn w' (.slice b2 0 d2) []):=Ab (fun W x c hc hp=>(Gr x (n1+k) c b W hbl hc hp hbv (by omega)).mono (fun e w' h=>by
  rcases Z84 h with ⟨h1,_⟩|⟨_,hB,d,h3,h4⟩
  . omega
  . obtain⟨b1,d1,b2,d2,rfl,p1,p2,p3,p4⟩:=h4.parts;rw[hL]at h3;exact⟨hB,b1,_,d1,b2,d2,h3,⟨b1,d1,rfl,p1,p3⟩,⟨b2,d2,rfl,p2,p4⟩⟩))
 have HX1:=Ab hX1;have HA:=Ab hA;have HQ1:=Ab hq1;have HQ2:=Ab hq2;have hW1:N<w1.heap.size:=(Array.getElem?_eq_some_iff.1 hX1.at0).1;clear hB1 hX1 hE0 HCK hA hr hcB htl hsz hb hbl hbv hq1 hq2 hL HV1 HV2 e0 e1 f0 f1;go_upto_region 6 with fail
 refine wp_region_held_drew (S:=fun W=>W.cell? ⟨N,0,none⟩=some (.slice a1 n1 c1)/\W.cell? ⟨N,1,none⟩=some (.slice a2 n2 c2)) (by kernel_rfl) ⟨g0,g1⟩ (fun hHeld=> ?_);refine wpAnyH_take (i:=0) (v:=.pointer (some ⟨N,0,none⟩)) rfl (by kernel_rfl) (by kernel_rfl) (by kernel_rfl) (fun _ _ _ h=>h) (Or.inl ⟨by rfl,fun W hS=>by go_simp⟩) hHeld ?_;simp only[Act.put,List.setIfInBounds_toArray,List.set_cons_zero,List.set_cons_succ];refine wpAnyH_take (i:=1) (v:=.slice a1 n1 c1) rfl (by kernel_rfl) (by kernel_rfl) (by kernel_rfl) (fun _ _ _ h=>h) (Or.inl ⟨by rfl,fun W hS=>by have hc:=hS.1;go_simp⟩) hHeld ?_;simp only[Act.put,List.setIfInBounds_toArray,List.set_cons_zero,List.set_cons_succ];refine wpAnyH_take (i:=2) (v:=.pointer (some ⟨N,1,none⟩)) rfl (by kernel_rfl) (by kernel_rfl) (by kernel_rfl) (fun _ _ _ h=>h) (Or.inl ⟨by rfl,fun W hS=>by go_simp⟩) hHeld ?_;simp only[Act.put,List.setIfInBounds_toArray,List.set_cons_zero,List.set_cons_succ];refine wpAnyH_take (i:=3) (v:=.slice a2 n2 c2) rfl (by kernel_rfl) (by kernel_rfl) (by kernel_rfl) (fun _ _ _ h=>h) (Or.inl ⟨by rfl,fun W hS=>by have hc:=hS.2;go_simp⟩) hHeld ?_;simp only[Act.put,List.setIfInBounds_toArray,List.set_cons_zero,List.set_cons_succ];refine wpAnyH_take (i:=4) (v:=.int .i64 (k:Int)) rfl (by kernel_rfl) (by kernel_rfl) (by kernel_rfl) (fun _ _ _ h=>h) (Or.inl ⟨by rfl,fun W hS=>by go_simp⟩) hHeld ?_;simp only[Act.put,List.setIfInBounds_toArray,List.set_cons_zero,List.set_cons_succ];refine wpAnyH_take (i:=5) (v:=.slice a2 k c2) rfl (by kernel_rfl) (by kernel_rfl) (by kernel_rfl) (fun _ _ _ h=>h) (Or.inl ⟨by rfl,fun W hS=>by go_simp⟩) hHeld ?_;simp only[Act.put,List.setIfInBounds_toArray,List.set_cons_zero,List.set_cons_succ];have hrr:∀W,Below w1.heap.size w1 W->W.cell? ⟨N,0,none⟩=some (.slice a1 n1 c1)/\W.cell? ⟨N,1,none⟩=some (.slice a2 n2 c2):=fun W hW=>⟨(hW.cell (p:=⟨N,0,none⟩) hW1).trans g0,(hW.cell (p:=⟨N,1,none⟩) hW1).trans g1⟩
 refine wpAnyH_ready (rs:= [6]) (by kernel_rfl) (by simp) (AllReadyH.cons rfl (fun K hK=> ?_) AllReadyH.nil);go_simp
 have hBd:Below w1.heap.size w1 w1.drew:=Ae (Below.refl _ _) 1;have hBa:=hBd.alloc hBd.size (.cells #[.slice a1 n1 c1,.slice a2 k c2] 22);refine hK.out _ _ (hrr _ hBa) (fun hHeld5=> ?_);clear hK K hHeld;refine wpAnyH_ready (rs:= [7]) (by kernel_rfl) (by simp) (AllReadyH.cons rfl (fun K hK=> ?_) AllReadyH.nil);go_simp
 refine(Aa HCC w1.drew hBd).mono ?_;rintro e w5 ⟨x5,c5,hc5,rfl,hby5,hB5,hnil5⟩;have hB15:Below w1.heap.size w1 w5:=hBd.trans (hB5.mono hBd.size);dsimp only;refine hK.out _ _ (hrr _ hB15) (fun hHeld6=> ?_);clear hK K hHeld5;refine wpAnyH_ready (rs:= [8]) (by kernel_rfl) (by simp) (AllReadyH.cons rfl (fun K hK=> ?_) AllReadyH.nil);go_simp
 refine(Aa HRC w5 x5 c5 hc5 ⟨hby5,hnil5⟩).mono ?_;rintro e w6 ⟨hB6,b1,m1,d1,b2,d2,rfl,hpa,hpb⟩;have hB16:Below w1.heap.size w1 w6:=hB15.trans (hB6.mono hB15.size);dsimp only;refine hK.out _ _ (hrr _ hB16) (fun hHeld7=> ?_);clear hK K hHeld6;refine wpAnyH_take (i:=9) (v:=.agg #[.slice b1 m1 d1,.slice b2 0 d2]) rfl (by kernel_rfl) (by kernel_rfl) (by kernel_rfl) (fun _ _ _ h=>h) (Or.inl ⟨by rfl,fun W hS=>by go_simp⟩) hHeld7 ?_;simp only[Act.put,List.setIfInBounds_toArray,List.set_cons_zero,List.set_cons_succ];refine wpAnyH_take (i:=10) (v:=.int .i64 (L:Int)) rfl (by kernel_rfl) (by kernel_rfl) (by kernel_rfl) (fun _ _ _ h=>h) (Or.inl ⟨by rfl,fun W hS=>by go_simp⟩) hHeld7 ?_;simp only[Act.put,List.setIfInBounds_toArray,List.set_cons_zero,List.set_cons_succ];refine wpAnyH_take (i:=11) (v:=.int .i64 0) rfl (by kernel_rfl) (by kernel_rfl) (by kernel_rfl) (fun _ _ _ h=>h) (Or.inl ⟨by rfl,fun W hS=>by go_simp⟩) hHeld7 ?_;simp only[Act.put,List.setIfInBounds_toArray,List.set_cons_zero,List.set_cons_succ];have hX6:=(Aa HX1).below hB16;obtain⟨e0,e1,f0,f1,_,_⟩:=hX6.facts;obtain⟨k1,k2,k3⟩:=DIn.put hX6.bel hX6.le hX6.at1 hpa hpb;have HF:Hid (DnA w (cutS S T (k:Int)) [] (cutN S T (k:Int)) 0 (.returned (.tuple #[.agg #[.slice b1 m1 d1,.slice b2 0 d2],.int .i64 (L:Int),.int .i64 0])) ((w6.setCell ⟨N+1,0,none⟩ (.slice b1 m1 d1)).setCell ⟨N+1,1,none⟩ (.slice b2 0 d2))):=Ab ⟨k2,_,by rw[Aa HQ2];rfl,by rw[Aa HQ1];exact k3⟩;have HK:=Ab k1
 have HS7:Hid (((w6.setCell ⟨N+1,0,none⟩ (.slice b1 m1 d1)).setCell ⟨N+1,1,none⟩ (.slice b2 0 d2)).cell? ⟨N,0,none⟩=some (.slice a1 n1 c1)/\((w6.setCell ⟨N+1,0,none⟩ (.slice b1 m1 d1)).setCell ⟨N+1,1,none⟩ (.slice b2 0 d2)).cell? ⟨N,1,none⟩=some (.slice a2 n2 c2)):=Ab (by
  have hz:=(Array.getElem?_eq_some_iff.1 hX6.at0).1;have g1:=Ad w6 (N+1) 0 (.slice b1 m1 d1);have g2:=Ad (w6.setCell ⟨N+1,0,none⟩ (.slice b1 m1 d1)) (N+1) 1 (.slice b2 0 d2);have hne:some N≠some (N+1):=fun e=>by have:=Option.some.inj e;omega
  have e1:((w6.setCell ⟨N+1,0,none⟩ (.slice b1 m1 d1)).setCell ⟨N+1,1,none⟩ (.slice b2 0 d2)).heap[N]? =w6.heap[N]? :=(g2.block N (Nat.lt_of_lt_of_le hz g1.size) hne).trans (g1.block N hz hne);exact⟨(World.cell?_of_block (a:=⟨N,0,none⟩) e1).trans (hrr w6 hB16).1,(World.cell?_of_block (a:=⟨N,1,none⟩) e1).trans (hrr w6 hB16).2⟩)
 clear k1 k2 k3 hpa hpb hB6 hB5 hby5 hnil5 hX6;refine wpAnyH_ready (rs:= [12]) (by kernel_rfl) (by simp) (AllReadyH.cons rfl (fun K hK=> ?_) AllReadyH.nil);go_simp
 refine hK.out _ _ (Aa HS7) (fun hHeld8=> ?_);clear hK K hHeld7;refine wpAnyH_ready (rs:= [13]) (by kernel_rfl) (by simp) (AllReadyH.cons rfl (fun K hK=> ?_) AllReadyH.nil);go_simp
 refine hK.out _ _ hHeld8 (fun hHeld9=> ?_);clear hK K;refine wpAnyH_ready (rs:= [14]) (by kernel_rfl) (by simp) (AllReadyH.cons rfl (fun K hK=> ?_) AllReadyH.nil);go_simp
 refine hK.out _ _ hHeld9 (fun hHeld10=> ?_);clear hK K;refine wpAnyH_done (by kernel_rfl) ?_ _;go_wp2;refine bodyPost_ret (v:=.tuple #[.agg #[.slice b1 m1 d1,.slice b2 0 d2],.int .i64 (L:Int),.int .i64 0]) ?_ rfl (by rw[Aa HA];exact Aa HF);exact Du rfl _ _ (N+1) _ _ _ rfl (Cs (Aa HK)) rfl rfl
end Go.Proofs.YtcjbgpacnkilnaiGreatDoor
namespace Go.Proofs.YtcjbgpacnkilnaiGreatDoor
open Go.RowKit
set_option linter.unusedVariables false
set_option maxRecDepth 100000
theorem Z2r:∀(l:List Bool) (i:Nat),(Di l).testBit i=l.getD i false
 | [],i=>by simp[Di]
 |b::r,0=>by
  rw[Nat.testBit_zero,Di]
  cases b
  . simp
  . have:(1+2*Di r)%2=1:=by omega
    simp[this]
 |b::r,i+1=>by
  rw[Nat.testBit_succ,Di,show ((if b then 1 else 0)+2*Di r)/2=Di r by split<;>omega,Z2r r i];rfl
theorem Ze8 (l:List Bool):Ak (Di l) l.length=l:=by
 apply List.ext_getElem
 . rw[Af]
 . intro i h1 h2;have e1:=Fk (Di l) l.length i;rw[Z2r]at e1;simpa[List.getD,h1,h2]using e1
theorem Zej:∀(n:Nat) (S:List Bool),S.length=8*n->∃out:List Nat,out.length=n/\rowB out n=S/\∀x∈out,x<256
 |0,S,h=>by
  have:S= []:=List.length_eq_zero_iff.1 (by omega)
  subst this;exact⟨[],rfl,rfl,fun x hx=>by cases hx⟩
 |n+1,S,h=>by
  obtain⟨out,h1,h2,h3⟩:=Zej n (S.take (8*n)) (by rw[List.length_take];omega);have hd:(S.drop (8*n)).length=8:=by rw[List.length_drop];omega
  refine⟨out++ [Di (S.drop (8*n))],by simp[h1], ?_,fun x hx=> ?_⟩
  . have e:=Ms out [Di (S.drop (8*n))] 1;rw[h1]at e;rw[e,h2]
    have e2:rowB [Di (S.drop (8*n))] 1=S.drop (8*n):=by
     have:=Ze8 (S.drop (8*n))
     rw[hd]at this;rw[rowB,rowB,List.nil_append];exact this
    rw[e2,List.take_append_drop]
  . rcases List.mem_append.1 hx with h|h
    . exact h3 x h
    . rw[List.mem_singleton.1 h];have:=Jx (S.drop (8*n))
      rw[hd]at this;exact this
theorem Zim (bs:List Nat)(k:Nat):∃out,IsOne bs k out:=by
 have hl:(oneB bs k).length=8*((oneB bs k).length/8):=by
  have:(oneB bs k).length%8=0:=by unfold oneB;rw[Db];exact Pf _
  omega
 obtain⟨out,h1,h2,h3⟩:=Zej _ _ hl;exact⟨out,by rw[h1];exact h2,Dm h3⟩
theorem Zk6 (f:Fl):∃x:En,x.f=f/\EOf x:=by
 obtain⟨out,h⟩:=Zim (n8 f.bytes) (bestP (n8 f.bytes) 3)
 by_cases hl:out.length<f.bytes.length
 . exact⟨⟨f,8,out,crcN 0 (n8 f.bytes)⟩,rfl,rfl,out,h,.inl ⟨hl,rfl,rfl⟩⟩
 . exact⟨⟨f,0,n8 f.bytes,crcN 0 (n8 f.bytes)⟩,rfl,rfl,out,h,.inr ⟨by dsimp only;omega,rfl,rfl⟩⟩
theorem Z3k:∀fs:List Fl,∃l,Ens fs l
 | []=>⟨[],rfl,fun x hx=>by cases hx⟩
 |f::fs=>by
  obtain⟨x,h1,h2⟩:=Zk6 f;obtain⟨l,h3,h4⟩:=Z3k fs;refine⟨x::l,by rw[List.map_cons,h1,h3],fun y hy=> ?_⟩
  rcases List.mem_cons.1 hy with rfl|hy
  . exact h2
  . exact h4 y hy
theorem Zhk {x:En}(h:EOf x)(hb:x.f.bytes= []):x.pk= []:=by
 obtain⟨out,h1,(⟨q1,_,_⟩|⟨_,_,q3⟩)⟩:=h.pk
 . rw[hb]at q1;simp at q1
 . rw[q3,hb];rfl
theorem Zm:∀(l:List En) (hx:∀x∈l,EOf x/\x.f.bytes= []/\x.f.name.length<=40) (p:Nat),(Bd l).length<=81*l.length/\(Bf p l).length<=97*l.length
 | [],_,p=>⟨Nat.le_refl _,Nat.le_refl _⟩
 |x::l,hx,p=>by
  obtain⟨h1,h2,h3⟩:=hx x (by simp);have ih:=Zm l (fun y hy=>hx y (by simp[hy])) (p+(Zv x).length);generalize hq:p+(Zv x).length=q at ih;rw[Bd,Bf,hq,List.length_append,List.length_append,Nc,Tg,Zhk h1 h2,List.length_cons];simp only[List.length_nil];omega
theorem Z1z {fs:List Fl}(h:Em fs=0)(hb:∀f∈fs,f.bytes= []):wrE fs=0:=by
 obtain⟨l,hl⟩:=Z3k fs;have hn:=Ha h
 have h1:∀x∈l,EOf x/\x.f.bytes= []/\x.f.name.length<=40:=fun x hx=>by
  have hm:x.f∈fs:=by rw[<-hl.1];exact List.mem_map_of_mem hx
  exact⟨hl.2 x hx,hb _ hm,(Ng (hn.2 _ hm)).1⟩
 have h2:=Zm l h1 0;have hll:l.length<=12:=by have:=hn.1;rw[<-hl.1,List.length_map]at this;exact this
 unfold wrE;rw[if_neg (by simp[h]),Z3y hl,if_neg (by rw[Nk];omega)]
theorem Zhj {x:En}(h:EOf x)(hv:Kx x.f=0)(hb:x.f.bytes= []):EOk x:=by
 obtain⟨hn,hp⟩:=h.num hv;refine⟨⟨hn.st.1,by have:=hn.st.2;omega⟩,⟨hn.nd.1,by have:=hn.nd.2;omega⟩,by have:=hn.nm;omega,by have:=hn.pl;omega,hn.cr,hn.mt, ?_⟩;obtain⟨out,ho,(⟨q1,q2,q3⟩|⟨q1,q2,q3⟩)⟩:=h.pk
 . rw[hb]at q1;simp at q1
 . unfold unpF;rw[q2,q3,if_pos rfl]
theorem Z6r {fs:List Fl}(he:Em fs=0)(hb:∀f∈fs,f.bytes= []):Wr fs (wrL fs):=by
 obtain⟨h1,h2,h3⟩:=Z1y (Z1z he hb);obtain⟨l,hl⟩:=Z3k fs;have ha:=Z3y hl;rw[ha]at h2;have hE:Em (l.map En.f)=0:=by rw[hl.1];exact h1
 have hk:∀x∈l,EOk x:=fun x hx=>Zhj (hl.2 x hx) ((Ha hE).2 x.f (List.mem_map_of_mem hx)) (hb _ (by rw[<-hl.1];exact List.mem_map_of_mem hx))
 have hs:Lc l=true:=by
  unfold Lc;rw[List.all_eq_true];intro x hx;exact decide_eq_true (hl.2 x hx).cr
 obtain⟨r1,r2⟩:=Wu l hk hE hs h2;obtain⟨n1,n2,n3⟩:=Z3x hE hl.2 h2;rw[h3,ha];exact⟨n1,r1,by rw[r2,hl.1],n2,n3⟩
end Go.Proofs.YtcjbgpacnkilnaiGreatDoor
