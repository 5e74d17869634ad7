import Derived.Test.YtcjbgpacnkilnagGreatDoorQ49
import Derived.Test.YtcjbgpacnkilnagGreatDoorQ30
import Derived.Test.YtcjbgpacnkilnagGreatDoorQ50
import Derived.Test.YtcjbgpacnkilnagGreatDoorQ28
import Derived.Test.YtcjbgpacnkilnagGreatDoorQ14
import Derived.Test.YtcjbgpacnkilnagGreatDoorQ0
import Derived.Deep.Slices
set_option maxHeartbeats 4000000
namespace Go.Proofs.YtcjbgpacnkilnagGreatDoor
open Go.RowKit
set_option linter.unusedVariables false
set_option maxRecDepth 100000
theorem Z54:∀(l:List Bool) (i:Nat),(Di l).testBit i=l.getD i false
 | [],i=>by simp[Di]
 |b::r,0=>by
  rw[Nat.testBit_zero,Di]
  cases b
  . simp
  . have:(1+2*Di r)%2=1:=by omega
    simp[this]
 |b::r,i+1=>by
  rw[Nat.testBit_succ,Di,show ((if b then 1 else 0)+2*Di r)/2=Di r by split<;>omega,Z54 r i];rfl
theorem Zh3 (l:List Bool):Ah (Di l) l.length=l:=by
 apply List.ext_getElem
 . rw[Ae]
 . intro i h1 h2;have e1:=Gl (Di l) l.length i;rw[Z54]at e1;simpa[List.getD,h1,h2]using e1
theorem Zhj:∀(n:Nat) (S:List Bool),S.length=8*n->∃out:List Nat,out.length=n/\rowB out n=S/\∀x∈out,x<256
 |0,S,h=>by
  have:S= []:=List.length_eq_zero_iff.1 (by omega)
  subst this;exact⟨[],rfl,rfl,fun x hx=>by cases hx⟩
 |n+1,S,h=>by
  obtain⟨out,h1,h2,h3⟩:=Zhj n (S.take (8*n)) (by rw[List.length_take];omega);have hd:(S.drop (8*n)).length=8:=by rw[List.length_drop];omega
  refine⟨out++ [Di (S.drop (8*n))],by simp[h1], ?_,fun x hx=> ?_⟩
  . have e:=Kx out [Di (S.drop (8*n))] 1;rw[h1]at e;rw[e,h2]
    have e2:rowB [Di (S.drop (8*n))] 1=S.drop (8*n):=by
     have:=Zh3 (S.drop (8*n))
     rw[hd]at this;rw[rowB,rowB,List.nil_append];exact this
    rw[e2,List.take_append_drop]
  . rcases List.mem_append.1 hx with h|h
    . exact h3 x h
    . rw[List.mem_singleton.1 h];have:=Li (S.drop (8*n))
      rw[hd]at this;exact this
theorem Zm0 (bs:List Nat)(k:Nat):∃out,IsOne bs k out:=by
 have hl:(oneB bs k).length=8*((oneB bs k).length/8):=by
  have:(oneB bs k).length%8=0:=by unfold oneB;rw[Cn];exact Iv _
  omega
 obtain⟨out,h1,h2,h3⟩:=Zhj _ _ hl;exact⟨out,by rw[h1];exact h2,Dk h3⟩
theorem Znl (f:Fl):∃x:En,x.f=f/\EOf x:=by
 obtain⟨out,h⟩:=Zm0 (n8 f.bytes) (bestP (n8 f.bytes) 3)
 by_cases hl:out.length<f.bytes.length
 . exact⟨⟨f,8,out,crcN 0 (n8 f.bytes)⟩,rfl,rfl,out,h,.inl ⟨hl,rfl,rfl⟩⟩
 . exact⟨⟨f,0,n8 f.bytes,crcN 0 (n8 f.bytes)⟩,rfl,rfl,out,h,.inr ⟨by dsimp only;omega,rfl,rfl⟩⟩
theorem Z10:∀fs:List Fl,∃l,Ens fs l
 | []=>⟨[],rfl,fun x hx=>by cases hx⟩
 |f::fs=>by
  obtain⟨x,h1,h2⟩:=Znl f;obtain⟨l,h3,h4⟩:=Z10 fs;refine⟨x::l,by rw[List.map_cons,h1,h3],fun y hy=> ?_⟩
  rcases List.mem_cons.1 hy with rfl|hy
  . exact h2
  . exact h4 y hy
theorem Zib {fs:List Fl}(h:wrE fs=0):Wr fs (wrL fs):=by
 obtain⟨h1,h2,h3⟩:=Uu h;obtain⟨l,hl⟩:=Z10 fs;have ha:=Z1k hl;rw[ha]at h2;rw[h3,ha,<-hl.1];exact Zl4 (by rw[hl.1];exact h1) hl.2 h2
theorem Zkz {x:En}(h:EOf x)(hb:x.f.bytes= []):x.pk= []:=by
 obtain⟨out,h1,(⟨q1,_,_⟩|⟨_,_,q3⟩)⟩:=h.pk
 . rw[hb]at q1;simp at q1
 . rw[q3,hb];rfl
theorem Z1j:∀(l:List En) (hx:∀x∈l,EOf x/\x.f.bytes= []/\x.f.name.length<=40) (p:Nat),(Bh l).length<=81*l.length/\(Bj p l).length<=97*l.length
 | [],_,p=>⟨Nat.le_refl _,Nat.le_refl _⟩
 |x::l,hx,p=>by
  obtain⟨h1,h2,h3⟩:=hx x (by simp);have ih:=Z1j l (fun y hy=>hx y (by simp[hy])) (p+(Z1t x).length);generalize hq:p+(Z1t x).length=q at ih;rw[Bh,Bj,hq,List.length_append,List.length_append,Pa,Vh,Zkz h1 h2,List.length_cons];simp only[List.length_nil];omega
theorem Z44 {fs:List Fl}(h:Ej fs=0)(hb:∀f∈fs,f.bytes= []):wrE fs=0:=by
 obtain⟨l,hl⟩:=Z10 fs;have hn:=Hs h
 have h1:∀x∈l,EOf x/\x.f.bytes= []/\x.f.name.length<=40:=fun x hx=>by
  have hm:x.f∈fs:=by rw[<-hl.1];exact List.mem_map_of_mem hx
  exact⟨hl.2 x hx,hb _ hm,(Ma (hn.2 _ hm)).1⟩
 have h2:=Z1j l h1 0;have hll:l.length<=12:=by have:=hn.1;rw[<-hl.1,List.length_map]at this;exact this
 unfold wrE;rw[if_neg (by simp[h]),Z1k hl,if_neg (by rw[Ph];omega)]
theorem Zky {x:En}(h:EOf x)(hv:Ju x.f=0)(hb:x.f.bytes= []):EOk x:=by
 obtain⟨hn,hp⟩:=h.num hv;refine⟨⟨hn.st.1,by have:=hn.st.2;omega⟩,⟨hn.nd.1,by have:=hn.nd.2;omega⟩,by have:=hn.nm;omega,by have:=hn.pl;omega,hn.cr,hn.mt, ?_⟩;obtain⟨out,ho,(⟨q1,q2,q3⟩|⟨q1,q2,q3⟩)⟩:=h.pk
 . rw[hb]at q1;simp at q1
 . unfold unpF;rw[q2,q3,if_pos rfl]
theorem Z92 {fs:List Fl}(he:Ej fs=0)(hb:∀f∈fs,f.bytes= []):Wr fs (wrL fs):=by
 obtain⟨h1,h2,h3⟩:=Uu (Z44 he hb);obtain⟨l,hl⟩:=Z10 fs;have ha:=Z1k hl;rw[ha]at h2;have hE:Ej (l.map En.f)=0:=by rw[hl.1];exact h1
 have hk:∀x∈l,EOk x:=fun x hx=>Zky (hl.2 x hx) ((Hs hE).2 x.f (List.mem_map_of_mem hx)) (hb _ (by rw[<-hl.1];exact List.mem_map_of_mem hx))
 have hs:Mq l=true:=by
  unfold Mq;rw[List.all_eq_true];intro x hx;exact decide_eq_true (hl.2 x hx).cr
 obtain⟨r1,r2⟩:=Zf l hk hE hs h2;obtain⟨n1,n2,n3⟩:=Z69 hE hl.2 h2;rw[h3,ha];exact⟨n1,r1,by rw[r2,hl.1],n2,n3⟩
end Go.Proofs.YtcjbgpacnkilnagGreatDoor
namespace Go.Proofs.YtcjbgpacnkilnagGreatDoor
open Go.RowKit
set_option linter.unusedVariables false
set_option linter.unusedSimpArgs false
set_option maxRecDepth 100000
def shA:Fl:=⟨[97],[],1,0,false⟩
def shB:Fl:=⟨[98],[],2,0,false⟩
theorem Pz:Ej [shA]=0:=by decide
theorem Z2f:Ej [shB]=0:=by decide
theorem Zhq {f:Fl}(h:Ej [f]=0)(hb:f.bytes= [])(hn:f.name.length=1):wrE [f]=0/\122<=(wrL [f]).length:=by
 have hw:=Z44 h (fun g hg=>by rw[List.mem_singleton.1 hg];exact hb);refine⟨hw, ?_⟩;obtain⟨_,_,h3⟩:=Uu hw;obtain⟨l,hl⟩:=Z10 [f];rw[h3,Z1k hl,Ph];obtain⟨h1,_⟩:=hl
 match l,h1 with
 | [x],h1=>
  simp only[List.map_cons,List.map_nil,List.cons.injEq,and_true]at h1;rw[Bh,Bj,List.length_append,List.length_append,Pa,Vh,h1,hn];omega
theorem Zj1:Cw [shA] [shB]=0:=by
 refine Jp.2 ⟨Pz,Z2f, ?_⟩;rw[Z4g (by decide),Ka];decide
structure ShF (R1 R2:List Nat):Prop where
 a1:addE [] [] [shA]=0/\addS [] [] [shA]= []/\addW [] [] [shA]=R1
 f1:dskE [] R1=0/\flS [] R1=R1
 a2:addE R1 [] [shB]=0/\addS R1 [] [shB]=R1/\addW R1 [] [shB]=R2
 big:100<R2.length/\R2.length<=40000/\R1.length<=40000
 c:cutE R1 R2 9=0/\cutN R1 R2 9=9/\cutS R1 R2 9=R1
 r:dskE R1 []=0/\rF (R1++ [])= [shA]
 v:(∀x∈R1,x<256)/\∀x∈R2,x<256
theorem Zmz:∃R1 R2,ShF R1 R2:=by
 obtain⟨w1,l1⟩:=Zhq Pz rfl rfl;obtain⟨w2,l2⟩:=Zhq Z2f rfl rfl;have k1:=Z92 Pz (fun g hg=>by rw[List.mem_singleton.1 hg];rfl);have k2:=Z92 Z2f (fun g hg=>by rw[List.mem_singleton.1 hg];rfl);have a1:addE [] [] [shA]=0:=Z3w Zgx w1 (by rw[List.append_nil,Zan];exact(Xi Pz).1) (by have:=k1.2.2.2.2;simp only[List.length_nil];omega);obtain⟨_,_,_,_,s1,t1⟩:=Hd a1;obtain⟨wh1,d1⟩:=Ry a1 k1;rw[List.nil_append]at t1;rw[List.nil_append,List.nil_append,List.append_nil,Zan,(Xi Pz).2.1]at wh1;rw[List.nil_append]at d1;obtain⟨R1,hR1⟩:∃R1,Gy (wrL [shA])=R1:=⟨_,rfl⟩
 rw[hR1]at t1 wh1 d1;have r1:R1.length=8+(wrL [shA]).length:=by rw[<-hR1,Et]
 have hr1:=k1.2.2.2.2;have wh1':Fk (R1++ []) [shA]:=by rw[List.append_nil];exact wh1
 have d1':dskE R1 []=0:=Rm (by simp only[List.length_nil];omega) wh1 wh1';have e1:rF (R1++ [])= [shA]:=(Hf wh1').1;have hr2:=k2.2.2.2.2;have a2:addE R1 [] [shB]=0:=Z3w d1' w2 (by rw[e1];exact Zj1) (by simp only[List.length_nil];omega);obtain⟨_,_,_,_,s2,t2⟩:=Hd a2;obtain⟨wh2,d2⟩:=Ry a2 k2;rw[List.nil_append]at t2 wh2 d2;obtain⟨R2,hR2⟩:∃R2,Gy (wrL [shB])=R2:=⟨_,rfl⟩
 rw[hR2]at t2 wh2 d2;have r2:R2.length=8+(wrL [shB]).length:=by rw[<-hR2,Et]
 have cB:Zl6 R1 R2 9=R1++R2.take 9:=rfl
 have hre:Recs [] (R1++R2.take 9) [shA] R1.length:=by
  have:=Recs.snoc_less (fs:= []) (f:= [shA]) (b:=R1) wh1 k2.1 k2.2.1 (j:=9) (by omega)
  rw[hR2]at this;exact this
 obtain⟨g1,g2⟩:=Z4m hre;have cE:cutE R1 R2 9=0:=by unfold cutE;rw[if_neg (by simp[d2]),if_neg (by omega)]
 refine⟨R1,R2,⟨a1,s1,t1⟩,⟨d1,by unfold flS;rw[if_pos d1,List.nil_append]⟩,⟨a2,s2,t2⟩,⟨by omega,by omega,by omega⟩,⟨cE, ?_, ?_⟩,⟨d1',e1⟩,⟨by rw[<-hR1];exact Vp k1.1,by rw[<-hR2];exact Vp k2.1⟩⟩
 . unfold cutN;rw[if_pos cE,cB,g2,List.length_append,List.length_take];omega
 . unfold cutS;rw[if_pos cE,cB,g2,List.take_append_of_le_length (Nat.le_refl _),List.take_of_length_le (Nat.le_refl _)]
theorem LIn.one (w:World)(f:Fl)(A:Array Value)(hA:A=(fcells [⟨f,none,0⟩]).toArray)(hb:f.bytes= [])(hn:f.name.length<=40):LIn (w.alloc (.cells A 37)) (.slice (some ⟨w.heap.size,0,none⟩) 1 1) [f]:=
 Zm6 (FsIn.new w [⟨f,none,0⟩] 37 A 1 hA rfl (fun x hx=>by rw[List.mem_singleton.1 hx];exact FvIn.bare w f hb (by omega)) (by simp)) rfl
theorem Py (w:World):Calls Tryz.prog 5 #[] w fun e w'=>e=.returned (.bool true)/\Below w.heap.size w w':=by
 obtain⟨R1,R2,hF⟩:=Zmz;have HF:=Ab hF;obtain⟨r1,hr1⟩:∃r1,R1.length=r1:=⟨_,rfl⟩
 obtain⟨r2,hr2⟩:∃r2,R2.length=r2:=⟨_,rfl⟩
 have hbig:=hF.big;rw[hr1,hr2]at hbig;obtain⟨hb1,hb2,hb3⟩:=hbig;have HA1:=Ab (Z3v (.agg #[.slice none 0 0,.slice none 0 0]) (.slice (some ⟨w.heap.size,0,none⟩) 1 1) [] [] [shA] _ (DIn.nil _) (LIn.one w shA #[.string ⟨#[97]⟩,.slice none 0 0,.int .i64 1,.int .i64 0,.bool false] rfl rfl (by decide)) (fun x hx=>by cases hx) (fun x hx=>by cases hx) (by decide) (by decide));unfold DkA at HA1;rw[hF.a1.1,hF.a1.2.1,hF.a1.2.2]at HA1;have HB0:=Ab ((Below.refl w.heap.size w).alloc (Nat.le_refl _) (.cells #[.string ⟨#[97]⟩,.slice none 0 0,.int .i64 1,.int .i64 0,.bool false] 37));have HR1:=Ab hr1;have HR2:=Ab hr2;clear hF hr1 hr2;go_enter Tryz.func5,Tryz.ntmps5
 go_wp2_with fail
 refine(Aa HA1).mono ?_;rintro e w1 ⟨hB1,d1,rfl,hD1⟩;have hBw1:=(Aa HB0).trans (hB1.mono (Aa HB0).size);obtain⟨p1,q1,p2,q2,rfl,-,-,-,-⟩:=hD1.parts;rw[Aa HR1]at hD1 ⊢;have hD1':DIn w1 (.agg #[.slice p1 0 q1,.slice p2 r1 q2]) [] R1:=hD1;obtain⟨N,hN⟩:∃N,w1.heap.size=N:=⟨_,rfl⟩
 have hBA:Below w.heap.size w (w1.alloc (.cells #[.slice p1 0 q1,.slice p2 r1 q2] 24)):=hBw1.alloc hBw1.size _;have hNA:(w1.alloc (.cells #[.slice p1 0 q1,.slice p2 r1 q2] 24)).heap[N]? =some (.cells #[.slice p1 0 q1,.slice p2 r1 q2] 24 (0,0)):=by rw[<-hN];exact heap_alloc_new _ _
 have hwN:w.heap.size<=N:=by rw[<-hN];exact hBw1.size
 have HFL:=Ab (Zck _ [] R1 _ (hD1'.below ((Below.refl w1.heap.size w1).alloc (Nat.le_refl _) (.cells #[.slice p1 0 q1,.slice p2 r1 q2] 24))) (fun x hx=>by cases hx) (Aa HF).v.1 (by decide) (by rw[Aa HR1];omega));unfold DkA at HFL;rw[(Aa HF).f1.1,(Aa HF).f1.2]at HFL;have HBA:=Ab hBA;have HNA:=Ab hNA;clear hB1 hBw1 hD1 hD1' hBA hNA HA1;go_wp2_with fail
 refine(Aa HFL).mono ?_;rintro e w2 ⟨hB2,d2,rfl,hD2⟩;have hBw2:=(Aa HBA).trans (hB2.mono (Aa HBA).size);have hN2:=(hB2.block N (Array.getElem?_eq_some_iff.1 (Aa HNA)).1).trans (Aa HNA);obtain⟨s2,t2,rfl,hs2,ht2⟩:=hD2;obtain⟨k1,k2,k3⟩:=DIn.put hBw2 hwN hN2 hs2 ht2;obtain⟨p3,q3,rfl,-⟩:=id hs2;obtain⟨p4,q4,rfl,-⟩:=id ht2;rw[Aa HR1]at k1 k2 k3 ⊢;have e0:=Ac (i:=0) hN2;have e1:=Ac (i:=1) hN2;have f0:=frozen_of_row _ N 0 _ _ hN2;have f1:=frozen_of_row _ N 1 _ _ hN2;simp only[List.length_nil]at k1 k2 k3 ⊢;have hsz:((w2.setCell ⟨N,0,none⟩ (.slice p3 r1 q3)).setCell ⟨N,1,none⟩ (.slice p4 0 q4)).heap.size=w2.heap.size:=by simp
 have hLB:=LIn.one ((w2.setCell ⟨N,0,none⟩ (.slice p3 r1 q3)).setCell ⟨N,1,none⟩ (.slice p4 0 q4)) shB #[.string ⟨#[98]⟩,.slice none 0 0,.int .i64 2,.int .i64 0,.bool false] rfl rfl (by decide);rw[hsz]at hLB;have hBb:=k2.alloc k2.size (.cells #[.string ⟨#[98]⟩,.slice none 0 0,.int .i64 2,.int .i64 0,.bool false] 37);have HA2:=Ab (Z3v _ _ R1 [] [shB] _ (k3.below ((Below.refl _ _).alloc (Nat.le_refl _) (.cells #[.string ⟨#[98]⟩,.slice none 0 0,.int .i64 2,.int .i64 0,.bool false] 37))) hLB (Aa HF).v.1 (fun x hx=>by cases hx) (by rw[Aa HR1];omega) (by decide));unfold DkA at HA2;rw[(Aa HF).a2.1,(Aa HF).a2.2.1,(Aa HF).a2.2.2]at HA2;have HBb:=Ab hBb;clear hB2 hBw2 hN2 hs2 ht2 k1 k2 k3 hLB hBb HFL hsz;go_wp2_with fail
 refine(Aa HA2).mono ?_;rintro e w3 ⟨hB3,d3,rfl,hD3⟩;have hBw3:=(Aa HBb).trans (hB3.mono (Aa HBb).size);obtain⟨p5,q5,p6,q6,rfl,-,-,-,-⟩:=hD3.parts;rw[Aa HR1,Aa HR2]at hD3 ⊢;obtain⟨X,hX⟩:∃X,w3.heap.size=X:=⟨_,rfl⟩
 have hBC:Below w.heap.size w (w3.alloc (.cells #[.slice p5 r1 q5,.slice p6 r2 q6] 24)):=hBw3.alloc hBw3.size _;have hXC:(w3.alloc (.cells #[.slice p5 r1 q5,.slice p6 r2 q6] 24)).heap[X]? =some (.cells #[.slice p5 r1 q5,.slice p6 r2 q6] 24 (0,0)):=by rw[<-hX];exact heap_alloc_new _ _
 have HCU:=Ab (Zkk _ 9 R1 R2 _ (hD3.below ((Below.refl w3.heap.size w3).alloc (Nat.le_refl _) (.cells #[.slice p5 r1 q5,.slice p6 r2 q6] 24))) (Aa HF).v.1 (Aa HF).v.2 (by rw[Aa HR1];omega) (by rw[Aa HR2];omega));unfold DnA at HCU;rw[(Aa HF).c.1,(Aa HF).c.2.1,(Aa HF).c.2.2]at HCU;have HBC:=Ab hBC;have HXC:=Ab hXC;clear hB3 hBw3 hD3 hBC hXC HA2;go_wp2_with fail
 refine(Aa HCU).mono ?_;rintro e w4 ⟨hB4,d4,rfl,hD4⟩;have hBw4:=(Aa HBC).trans (hB4.mono (Aa HBC).size);have hX4:=(hB4.block X (Array.getElem?_eq_some_iff.1 (Aa HXC)).1).trans (Aa HXC);obtain⟨p7,q7,p8,q8,rfl,-,-,-,-⟩:=hD4.parts;rw[Aa HR1]at hD4 ⊢;simp only[List.length_nil]at hD4 ⊢;have hBD:Below w.heap.size w (w4.alloc (.cells #[.slice p7 r1 q7,.slice p8 0 q8] 24)):=hBw4.alloc hBw4.size _;have hXD:=(Below.heap_alloc w4 (.cells #[.slice p7 r1 q7,.slice p8 0 q8] 24) X (Array.getElem?_eq_some_iff.1 hX4).1).trans hX4;have HFI:=Ab ((Hc _ R1 [] _ (hD4.below ((Below.refl w4.heap.size w4).alloc (Nat.le_refl _) (.cells #[.slice p7 r1 q7,.slice p8 0 q8] 24))) (Aa HF).v.1 (fun x hx=>by cases hx) (by rw[Aa HR1];omega) (by decide)).mono (fun e w' h=>Rf h));rw[(Aa HF).r.1,(Aa HF).r.2]at HFI;have HBD:=Ab hBD;have HXD:=Ab hXD;clear hB4 hBw4 hD4 hBD hXD HCU hX4;go_wp2_with fail
 refine(Aa HFI).mono ?_;rintro e w5 ⟨hB5,v5,l5,rfl,hL5,hl5,-⟩;have hl6:l5= [shA]:=by simpa using hl5
 subst hl6;obtain⟨ad,c5,rfl⟩:=hL5.shape;have hBw5:=Ab ((Aa HBD).trans (hB5.mono (Aa HBD).size));have hX5:=(hB5.block X (Array.getElem?_eq_some_iff.1 (Aa HXD)).1).trans (Aa HXD);have x1:=Ac (i:=1) hX5;have hbI:(100:Int)<(r2:Int):=by omega
 simp only[List.length_cons,List.length_nil];clear hB5 hL5 hl5 hX5 HFI;go_wp2;go_ret;exact⟨rfl,Aa hBw5⟩
theorem Zdr {w:World}{u v:Value}{xs ys:List Nat}(h:PIn w u xs)(k:PIn w v ys)(hv:∀x∈xs,x<256)(e:xs=ys):
 Calls Tryz.prog 16 #[u,v] w fun e w'=>e=.returned (.bool true)/\w'=w:=by
 subst e;obtain⟨a1,c1,rfl,h1,h2⟩:=h;obtain⟨a2,c2,rfl,k1,k2⟩:=k;have:=Z1h a1 a2 xs.length c1 xs.length c2 xs xs w rfl rfl (Dk hv) (Dk hv) h2.1 k2.1
 rw[beq_self_eq_true]at this;exact this
theorem Yy {w:World}{u v:Value}{S T S' T':List Nat}(h:DIn w u S T)(k:DIn w v S' T')(hS:∀x∈S,x<256)(hT:∀x∈T,x<256)(e1:S=S')(e2:T=T'):
 Calls Tryz.prog 8 #[u,v] w fun e w'=>e=.returned (.bool true)/\Below w.heap.size w w':=by
 subst e1 e2;obtain⟨s,t,rfl,h1,h2⟩:=h;obtain⟨s',t',rfl,k1,k2⟩:=k;have HA:=Ab (fun W (hW:Below w.heap.size w W)=>Zdr (h1.below hW) (k1.below hW) hS rfl);have HB:=Ab (fun W (hW:Below w.heap.size w W)=>Zdr (h2.below hW) (k2.below hW) hT rfl);obtain⟨a1,c1,rfl,-⟩:=h1;obtain⟨a2,c2,rfl,-⟩:=h2;obtain⟨a3,c3,rfl,-⟩:=k1;obtain⟨a4,c4,rfl,-⟩:=k2;obtain⟨n,hn⟩:∃n,S.length=n:=⟨_,rfl⟩
 obtain⟨m,hm⟩:∃m,T.length=m:=⟨_,rfl⟩
 rw[hn]at HA;rw[hm]at HB;rw[hn,hm];have HBx:=Ab (Aw (Aw (Below.refl w.heap.size w) (.cells #[.slice a1 n c1,.slice a2 m c2] 24)) (.cells #[.slice a3 n c3,.slice a4 m c4] 24));clear hS hT hn hm;go_enter Tryz.func8,Tryz.ntmps8
 go_wp2_with fail
 refine(Aa HA _ (Aa HBx)).mono ?_;rintro e w1 ⟨rfl,rfl⟩;go_wp2_with fail
 refine(Aa HB _ (Aa HBx)).mono ?_;rintro e w1 ⟨rfl,rfl⟩;go_wp2;go_ret;exact⟨rfl,Aa HBx⟩
end Go.Proofs.YtcjbgpacnkilnagGreatDoor
namespace Go.Proofs.YtcjbgpacnkilnagGreatDoor
open Go.RowKit
set_option linter.unusedVariables false
set_option maxRecDepth 100000
theorem Znj (a b:Fl):(a=b)↔(a.name=b.name/\a.bytes=b.bytes/\a.stamp=b.stamp/\a.node=b.node/\a.gone=b.gone):=by
 cases a;cases b;simp
theorem Zf7 (x y:Fv)(w:World)(hx:FvIn w x)(hy:FvIn w y):
 Calls Tryz.prog 15 #[x.val,y.val] w fun e w'=>e=.returned (.bool (decide (x.f=y.f)))/\Below w.heap.size w w':=by
 have HE:=Ab (fun W (hW:Below w.heap.size w W)=>Zgt (hx.bs.below hW (Nat.le_refl _)) (hy.bs.below hW (Nat.le_refl _)));have hq:=Znj x.f y.f
 have hn:((B x.f.name).toList==(B y.f.name).toList)=decide (x.f.name=y.f.name):=by
  rw[Dl,Dl,Bool.eq_iff_iff,beq_iff_eq,decide_eq_true_iff]
 rw[Eb,Eb];obtain⟨r,hr⟩:∃r,decide (x.f=y.f)=r:=⟨_,rfl⟩
 have hr2:r=decide (x.f.name=y.f.name/\x.f.bytes=y.f.bytes/\x.f.stamp=y.f.stamp/\x.f.node=y.f.node/\x.f.gone=y.f.gone):=by rw[<-hr];exact decide_eq_decide.2 hq
 rw[hr];clear hq hr hx hy;have HR:=Ab hr2;clear hr2
 by_cases h1:x.f.name=y.f.name
 . rw[decide_eq_true h1]at hn
   by_cases h2:x.f.bytes=y.f.bytes
   . by_cases h3:x.f.stamp=y.f.stamp
     . by_cases h4:x.f.node=y.f.node
       . have h5:r=decide (x.f.gone=y.f.gone):=by rw[Aa HR];exact decide_eq_decide.2 ⟨fun k=>k.2.2.2.2,fun k=>⟨h1,h2,h3,h4,k⟩⟩
         rw[h5];rw[decide_eq_true h2]at HE;clear h1 h2 h5 HR;generalize B x.f.name=t at*;generalize B y.f.name=t2 at*;generalize x.f.bytes.length=n at*;generalize y.f.bytes.length=n2 at*;generalize x.f.stamp=s1 at*;generalize y.f.stamp=s2 at*;generalize x.f.node=d1 at*;generalize y.f.node=d2 at*;generalize x.f.gone=g1 at*;generalize y.f.gone=g2 at*;subst h3;subst h4;go_enter Tryz.func15,Tryz.ntmps15
         go_wp2_with (go_at_call 16;refine(Aa HE _ (Aw (Aw (Below.refl _ _) _) _)).mono ?_;rintro e w' ⟨rfl,rfl⟩)
         go_ret;exact⟨Hi (by cases g1<;>cases g2<;>rfl),Aw (Aw (Below.refl _ _) _) _⟩
       . have h5:r=false:=by rw[Aa HR];exact decide_eq_false (fun k=>h4 k.2.2.2.1)
         have hb:(x.f.node==y.f.node)=false:=by simpa using h4
         rw[h5];rw[decide_eq_true h2]at HE;clear h1 h2 h5 HR h4;generalize B x.f.name=t at*;generalize B y.f.name=t2 at*;generalize x.f.bytes.length=n at*;generalize y.f.bytes.length=n2 at*;generalize x.f.stamp=s1 at*;generalize y.f.stamp=s2 at*;subst h3;go_enter Tryz.func15,Tryz.ntmps15
         go_wp2_with (go_at_call 16;refine(Aa HE _ (Aw (Aw (Below.refl _ _) _) _)).mono ?_;rintro e w' ⟨rfl,rfl⟩)
         go_ret;exact⟨rfl,Aw (Aw (Below.refl _ _) _) _⟩
     . have h5:r=false:=by rw[Aa HR];exact decide_eq_false (fun k=>h3 k.2.2.1)
       have hb:(x.f.stamp==y.f.stamp)=false:=by simpa using h3
       rw[h5];rw[decide_eq_true h2]at HE;clear h1 h2 h5 HR h3;generalize B x.f.name=t at*;generalize B y.f.name=t2 at*;generalize x.f.bytes.length=n at*;generalize y.f.bytes.length=n2 at*;go_enter Tryz.func15,Tryz.ntmps15
       go_wp2_with (go_at_call 16;refine(Aa HE _ (Aw (Aw (Below.refl _ _) _) _)).mono ?_;rintro e w' ⟨rfl,rfl⟩)
       go_ret;exact⟨rfl,Aw (Aw (Below.refl _ _) _) _⟩
   . have h5:r=false:=by rw[Aa HR];exact decide_eq_false (fun k=>h2 k.2.1)
     rw[h5];rw[decide_eq_false h2]at HE;clear h1 h2 h5 HR;generalize B x.f.name=t at*;generalize B y.f.name=t2 at*;generalize x.f.bytes.length=n at*;generalize y.f.bytes.length=n2 at*;go_enter Tryz.func15,Tryz.ntmps15
     go_wp2_with (go_at_call 16;refine(Aa HE _ (Aw (Aw (Below.refl _ _) _) _)).mono ?_;rintro e w' ⟨rfl,rfl⟩)
     go_ret;exact⟨rfl,Aw (Aw (Below.refl _ _) _) _⟩
 . have h5:r=false:=by rw[Aa HR];exact decide_eq_false (fun k=>h1 k.1)
   rw[h5];rw[decide_eq_false h1]at hn;clear h1 h5 HR HE;generalize B x.f.name=t at*;generalize B y.f.name=t2 at*;generalize x.f.bytes.length=n at*;generalize y.f.bytes.length=n2 at*;go_enter Tryz.func15,Tryz.ntmps15
   go_wp2;go_ret;exact⟨rfl,Aw (Aw (Below.refl _ _) _) _⟩
theorem Ziq {α:Type}{a b:List α}{k:Nat}{x y:α}(hx:a[k]? =some x)(hy:b[k]? =some y)(h:x≠y):a≠b:=by
 rintro rfl;rw[hx]at hy;exact h (Option.some.inj hy)
theorem Zir {α:Type}{a b:List α}{k:Nat}{x:α}(h:a.take k=b.take k)(hx:a[k]? =some x)(hy:b[k]? =some x):a.take (k+1)=b.take (k+1):=by
 rw[List.take_add_one,List.take_add_one,h,hx,hy]
theorem Wu (ad bd:Option Addr)(c d:Nat)(xs ys:List Fv)(w:World)(h:FsIn w ad c xs)(k:FsIn w bd d ys)(n m:Nat)(hn:xs.length=n)(hm:ys.length=m):
 Calls Tryz.prog 14 #[.slice ad n c,.slice bd m d,.func (.func 15) #[] #[]] w fun e w'=>e=.returned (.bool (decide (fls xs=fls ys)))/\Below w.heap.size w w':=by
 have hl1:(fls xs).length=n:=by simp[fls,hn]
 have hl2:(fls ys).length=m:=by simp[fls,hm]
 have hlim:=h.lim;rw[hn]at hlim
 by_cases hnm:n=m
 . subst hnm;obtain⟨r,hr⟩:∃r,decide (fls xs=fls ys)=r:=⟨_,rfl⟩
   rw[hr];have HI:=Ab h;have HK:=Ab k;have HN:=Ab hn;have HM:=Ab hm;have HR:=Ab hr;have HL1:=Ab hl1;have HL2:=Ab hl2;have hnn:((n:Int)!=(n:Int))=false:=by simp
   clear h k hn hm hr hl1 hl2;go_enter Tryz.func14,Tryz.ntmps14
   go_wp2;go_loopw [7,8,9,17] (fun _ _ _ i wr=>∃k:Nat,k<=n/\i=.int .i64 (k:Int)/\Hid ((fls xs).take k=(fls ys).take k)/\Hid (Below w.heap.size w wr)) (fun _ _ _ i _=>n-(intOf i).toNat)
   case atStart=>exact⟨0,Nat.zero_le _,rfl,by simp;exact trivial,Below.refl _ _⟩
   case round=>
    obtain⟨k,hk,rfl,HT,HB⟩:=hrel
    by_cases hlt:k<n
    . obtain⟨x,hx,hxm⟩:=Qw (xs:=xs) (k:=k) (by rw[Aa HN];exact hlt);obtain⟨y,hy,hym⟩:=Qw (xs:=ys) (k:=k) (by rw[Aa HM];exact hlt);obtain⟨b,o,hA,hb,c0,c1,c2,c3,c4⟩:=(Aa HI).get (Aa HB) hx;obtain⟨b',o',hC,hb',d0,d1,d2,d3,d4⟩:=(Aa HK).get (Aa HB) hy;have hzw:=(Aa HB).size;have hfx:(fls xs)[k]? =some x.f:=by simp[fls,hx]
      have hfy:(fls ys)[k]? =some y.f:=by simp[fls,hy]
      have HFX:=Ab hfx;have HFY:=Ab hfy;have HSA:=Ab (fun W (hW:Below w.heap.size w W)=>Zf7 x y W (((Aa HI).all x hxm).below hW (Nat.le_refl _)) (((Aa HK).all y hym).below hW (Nat.le_refl _)));rw[Eb,Eb]at HSA;have hxs:x.sl=.slice x.a x.f.bytes.length x.c:=rfl;have hys:y.sl=.slice y.a y.f.bytes.length y.c:=rfl;rw[hxs]at c1;rw[hys]at d1;obtain⟨q,hq⟩:∃q,decide (x.f=y.f)=q:=⟨_,rfl⟩
      rw[hq]at HSA;have HQ:=Ab hq;clear hx hy hxm hym hfx hfy hxs hys hq;subst hA;subst hC;generalize B x.f.name=t at*;generalize B y.f.name=t2 at*;generalize x.f.bytes.length=nb at*;generalize y.f.bytes.length=nb2 at*;generalize x.f.stamp=s1 at*;generalize y.f.stamp=s2 at*;generalize x.f.node=n1 at*;generalize y.f.node=n2 at*;generalize x.f.gone=g1 at*;generalize y.f.gone=g2 at*;have HBL:=Ab (fun o1 o2=>Aw (Aw (Aa HB) o1) o2);have d0':=fun o=>Nb (o:=o) d0
      have d1':=fun o=>Nb (o:=o) d1
      have d2':=fun o=>Nb (o:=o) d2
      have d3':=fun o=>Nb (o:=o) d3
      have d4':=fun o=>Nb (o:=o) d4
      clear d0 d1 d2 d3 d4;go_wp2_with fail
      refine(Aa HSA _ (Aa HBL _ _)).mono ?_;rintro e w1 ⟨rfl,hb1⟩;have HB1:=Ab ((Aa HBL _ _).trans (hb1.mono (by simp;omega)));clear hb1 d0' d1' d2' d3' d4'
      cases q with
      |false=>
       have hrf:r=false:=by
        rw[<-Aa HR];exact decide_eq_false (Ziq (Aa HFX) (Aa HFY) (of_decide_eq_false (Aa HQ)))
       subst hrf;go_wp2;go_ret;exact⟨rfl,Aa HB1⟩
      |true=>
       have he:x.f=y.f:=of_decide_eq_true (Aa HQ);have HT2:=Ab (Zir (Aa HT) (Aa HFX) (by rw[he];exact Aa HFY));clear he;go_wp2;go_roundw
       case rel=>exact⟨k+1,by omega,by go_num,Aa HT2,Aa HB1⟩
       case measure=>simp[intOf];omega
    . obtain rfl:n=k:=by omega
      have hrt:r=true:=by
       rw[<-Aa HR];have:=Aa HT
       rw[List.take_of_length_le (by rw[Aa HL1];exact Nat.le_refl _),List.take_of_length_le (by rw[Aa HL2];exact Nat.le_refl _)]at this;exact decide_eq_true this
      subst hrt;go_wp2;go_ret;exact⟨rfl,Aa HB⟩
 . have e:decide (fls xs=fls ys)=false:=decide_eq_false (fun h=>hnm (by rw[<-hl1,<-hl2,h]));rw[e];have hnn:((n:Int)!=(m:Int))=true:=by simp;omega
   clear h k hn hm e hl1 hl2;go_enter Tryz.func14,Tryz.ntmps14
   go_wp2;go_ret;exact⟨rfl,Below.refl _ _⟩
theorem Vi (ad bd:Option Addr)(c d:Nat)(xs ys:List Fv)(w:World)(h:FsIn w ad c xs)(k:FsIn w bd d ys)(n m:Nat)(hn:xs.length=n)(hm:ys.length=m):
 Calls Tryz.prog 7 #[.slice ad n c,.slice bd m d] w fun e w'=>e=.returned (.bool (decide (fls xs=fls ys)))/\Below w.heap.size w w':=by
 have HE:=Ab (Wu ad bd c d xs ys w h k n m hn hm);clear h k;generalize decide (fls xs=fls ys)=r at*;go_enter Tryz.func7,Tryz.ntmps7
 go_wp2_with fail
 refine(Aa HE).mono ?_;rintro e w1 ⟨rfl,hb1⟩;have HB1:=Ab hb1;clear hb1;go_wp2;go_ret;exact⟨rfl,Aa HB1⟩
end Go.Proofs.YtcjbgpacnkilnagGreatDoor
namespace Go.Proofs.YtcjbgpacnkilnagGreatDoor
open Go.RowKit
set_option linter.unusedVariables false
theorem Zln {w:World}{v u:Value}{a b:List Fl}(h:LIn w v a)(k:LIn w u b):
 Calls Tryz.prog 7 #[v,u] w fun e w'=>e=.returned (.bool (decide (a=b)))/\Below w.heap.size w w':=by
 obtain⟨ad,c,out,rfl,h2,h3⟩:=h;obtain⟨bd,d,out',rfl,k2,k3⟩:=k;refine(Vi ad bd c d out out' w h2 k2 _ _ (Qy h3) (Qy k3)).mono ?_;rintro e w' ⟨rfl,ha⟩;rw[h3,k3];exact⟨rfl,ha⟩
theorem Zf6 {w:World}{v u:Value}{a b:List Fl}(h:LIn w v a)(k:LIn w u b)(e:a=b):
 Calls Tryz.prog 7 #[v,u] w fun e w'=>e=.returned (.bool true)/\Below w.heap.size w w':=by
 have:=Zln h k
 rw[decide_eq_true e]at this;exact this
end Go.Proofs.YtcjbgpacnkilnagGreatDoor
namespace Go.Proofs.YtcjbgpacnkilnagGreatDoor
open Go.RowKit
set_option linter.unusedVariables false
set_option linter.unusedSimpArgs false
set_option maxRecDepth 100000
theorem Zjf (S T:List Nat):∀x∈pkS S T,x<256:=by
 by_cases h:pkE S T=0
 . obtain⟨_,h2,h3,_⟩:=Z4v h Zib;rw[h3];exact Vp (Zib h2).1
 . rw[Z2q h];intro x hx
   cases hx
theorem Zb1 (v:Value)(S T:List Nat)(w:World)(hD:DIn w v S T)(hv1:∀x∈S,x<256)(hv2:∀x∈T,x<256)(hm1:S.length<=140737488355328)(hm2:T.length<=140737488355328):
 Calls Tryz.prog 3 #[v] w fun e w'=>e=.returned (.bool true)/\Below w.heap.size w w':=by
 have HPK:=Ab (fun W (hW:Below w.heap.size w W)=>Z51 v S T W (hD.below hW) hv1 hv2 hm1 hm2);unfold DkA at HPK;have HFI:=Ab (fun W (hW:Below w.heap.size w W)=>(Hc v S T W (hD.below hW) hv1 hv2 hm1 hm2).mono (fun e w' h=>Rf h));obtain⟨a1,c1,a2,c2,rfl,hc1,hc2,hP1,hP2⟩:=hD.parts;obtain⟨N,hN⟩:∃N,w.heap.size=N:=⟨_,rfl⟩
 obtain⟨n1,hn1⟩:∃n1,S.length=n1:=⟨_,rfl⟩
 obtain⟨n2,hn2⟩:∃n2,T.length=n2:=⟨_,rfl⟩
 rw[hn1,hn2]at HPK HFI ⊢;obtain⟨E,hE⟩:∃E,pkE S T=E:=⟨_,rfl⟩
 obtain⟨P,hPP⟩:∃P,pkS S T=P:=⟨_,rfl⟩
 have hPv:=Zjf S T;have hz:=fun h=>Z4v (S:=S) (T:=T) h Zib
 rw[hPP]at hPv hz HPK;rw[hE]at HPK hz;obtain⟨r,hr⟩:∃r,P.length=r:=⟨_,rfl⟩
 have hX0:(w.alloc (.cells #[.slice a1 n1 c1,.slice a2 n2 c2] 24)).heap[N]? =some (.cells #[.slice a1 n1 c1,.slice a2 n2 c2] 24 (0,0)):=by rw[<-hN];exact heap_alloc_new _ _
 have HX0:=Ab hX0;have HB0:=Ab (Aw (Below.refl w.heap.size w) (.cells #[.slice a1 n1 c1,.slice a2 n2 c2] 24));have HZ:=Ab hz;have HPV:=Ab hPv;have HR:=Ab hr;clear hD hv1 hv2 hP1 hP2 hn1 hn2 hm1 hm2 hc1 hc2 hE hPP hPv hz hr hX0;go_enter Tryz.func3,Tryz.ntmps3
 go_wp2_with fail
 refine(Aa HPK _ (Aa HB0)).mono ?_;rintro e w1 ⟨hB1,d1,rfl,hD1⟩;obtain⟨p1,q1,p2,q2,rfl,hq1,-,hp1,-⟩:=hD1.parts;rw[Aa HR]at hq1 hD1 ⊢;simp only[List.length_nil]at hD1 ⊢;obtain⟨X,hX⟩:∃X,w1.heap.size=X:=⟨_,rfl⟩
 have hA1:Below w1.heap.size w1 (w1.alloc (.cells #[.slice p1 r q1,.slice p2 0 q2] 24)):=Aw (Below.refl _ _) _;have hBc:=hB1.trans (hA1.mono hB1.size);have hX1:(w1.alloc (.cells #[.slice p1 r q1,.slice p2 0 q2] 24)).heap[X]? =some (.cells #[.slice p1 r q1,.slice p2 0 q2] 24 (0,0)):=by rw[<-hX];exact heap_alloc_new _ _
 have hN1:=(hBc.block N (Array.getElem?_eq_some_iff.1 (Aa HX0)).1).trans (Aa HX0);have HB1:=Ab ((Aa HB0).trans (hBc.mono (Aa HB0).size));have HX1:=Ab hX1;have HN1:=Ab hN1;have HD1:=Ab (hD1.below hA1);clear hB1 hA1 hBc hX1 hN1 hD1 hp1 HPK;go_wp2_with fail
 refine(Py _).mono ?_;rintro e w2 ⟨rfl,hB2⟩;have HB2:=Ab ((Aa HB1).trans (hB2.mono (Aa HB1).size));have hX2:=(hB2.block X (Array.getElem?_eq_some_iff.1 (Aa HX1)).1).trans (Aa HX1);have hN2:=(hB2.block N (Array.getElem?_eq_some_iff.1 (Aa HN1)).1).trans (Aa HN1);have HD2:=Ab ((Aa HD1).below hB2)
 by_cases hE0:¬E=0
 . have hEb:((E:Int)==0)=false:=by rw[beq_eq_false_iff_ne];omega
   have hEc:((E:Int)!=0)=true:=by rw[bne,hEb];rfl
   clear hE0 hB2 hX2 hN2;go_wp2_with fail
   refine(Py _).mono ?_;rintro e w3 ⟨rfl,hB3⟩;have HB3:=Ab ((Aa HB2).trans (hB3.mono (Aa HB2).size));clear hB3;go_wp2;go_ret;exact⟨rfl,Aa HB3⟩
 obtain rfl:E=0:=by omega
 obtain⟨z1,z2,z3,z4,z5,z6,z7,z8,z9⟩:=Aa HZ rfl;rw[Aa HR]at z5;have HF1:=Ab (Aa HFI w2 (Aa HB2));rw[z1]at HF1;have n0:=Ac (i:=0) hN2;have n1':=Ac (i:=1) hN2;have HX2:=Ab hX2;have HF2:=Ab (fun W (hW:Below w2.heap.size w2 W)=>(Hc _ P [] W ((Aa HD2).below hW) (Aa HPV) (fun x hx=>by cases hx) (by rw[Aa HR];omega) (by decide)).mono (fun e w' h=>Rf h));rw[z6,List.append_nil,z7]at HF2;have HP2:=Ab (fun W (hW:Below w2.heap.size w2 W)=>Z51 _ P [] W ((Aa HD2).below hW) (Aa HPV) (fun x hx=>by cases hx) (by rw[Aa HR];omega) (by decide));unfold DkA at HP2;rw[z8,z9]at HP2;clear hB2 hX2 hN2 z1 z2 z3 z4 z6 z7 z8 z9 HFI hE0;go_wp2_with fail
 refine(Aa HF1).mono ?_;rintro e w3 ⟨hB3,v3,l3,rfl,hL3,hl3,-⟩;have hl3':l3=rF (S++T):=by simpa using hl3
 subst hl3';obtain⟨ad,uc,hu⟩:=hL3.shape;obtain⟨k,hk⟩:∃k,(rF (S++T)).length=k:=⟨_,rfl⟩
 rw[hk]at hu;subst hu;have hX3:=(hB3.block X (Array.getElem?_eq_some_iff.1 (Aa HX2)).1).trans (Aa HX2);have x0:=Ac (i:=0) hX3;have x1:=Ac (i:=1) hX3;have HX3:=Ab hX3;have HB3:=Ab hB3;have HL3:=Ab hL3;have HK:=Ab hk;clear hB3 hX3 hL3 hl3 hk HF1;go_wp2_with fail
 refine(Aa HF2 w3 (Aa HB3)).mono ?_;rintro e w4 ⟨hB4,v4,l4,rfl,hL4,hl4,-⟩;have hl4':l4=rF (S++T):=by simpa using hl4
 subst hl4';obtain⟨ad4,uc4,hu4⟩:=hL4.shape;rw[Aa HK]at hu4;subst hu4;have hX4:=(hB4.block X (Array.getElem?_eq_some_iff.1 (Aa HX3)).1).trans (Aa HX3);have x0':=Ac (i:=0) hX4;have x1':=Ac (i:=1) hX4;have HX4:=Ab hX4;have HB4:=Ab ((Aa HB3).trans (hB4.mono (Aa HB3).size));have HB34:=Ab hB4;have HL4:=Ab hL4;clear hB4 hX4 hL4 hl4 HF2 x0 x1;go_wp2_with fail
 refine(Aa HP2 w4 (Aa HB4)).mono ?_;rintro e w5 ⟨hB5,d5,rfl,hD5⟩;obtain⟨p5,q5,p6,q6,rfl,-,-,-,-⟩:=hD5.parts;rw[Aa HR]at hD5 ⊢;simp only[List.length_nil]at hD5 ⊢;obtain⟨Y,hY⟩:∃Y,w5.heap.size=Y:=⟨_,rfl⟩
 have hA5:Below w5.heap.size w5 (w5.alloc (.cells #[.slice p5 r q5,.slice p6 0 q6] 24)):=Aw (Below.refl _ _) _;have hBc5:=hB5.trans (hA5.mono hB5.size);have hY5:(w5.alloc (.cells #[.slice p5 r q5,.slice p6 0 q6] 24)).heap[Y]? =some (.cells #[.slice p5 r q5,.slice p6 0 q6] 24 (0,0)):=by rw[<-hY];exact heap_alloc_new _ _
 have hX5:=(hBc5.block X (Array.getElem?_eq_some_iff.1 (Aa HX4)).1).trans (Aa HX4);have hB25:=(Aa HB4).trans (hBc5.mono (Aa HB4).size);have HBw5:=Ab ((Aa HB2).trans (hB25.mono (Aa HB2).size));have HSM:=Ab (Zf6 ((Aa HL3).below ((Aa HB34).trans (hBc5.mono (Aa HB34).size))) ((Aa HL4).below hBc5) rfl);have HSD:=Ab (fun W (hW:Below (w5.alloc (.cells #[.slice p5 r q5,.slice p6 0 q6] 24)).heap.size (w5.alloc (.cells #[.slice p5 r q5,.slice p6 0 q6] 24)) W)=>Yy (((Aa HD2).below hB25).below hW) ((hD5.below hA5).below hW) (Aa HPV) (fun x hx=>by cases hx) rfl rfl)
 have HXY:Hid (∀W,Below (w5.alloc (.cells #[.slice p5 r q5,.slice p6 0 q6] 24)).heap.size (w5.alloc (.cells #[.slice p5 r q5,.slice p6 0 q6] 24)) W->W.cell? ⟨X,0,none⟩=some (.slice p1 r q1)/\W.cell? ⟨X,1,none⟩=some (.slice p2 0 q2)/\W.cell? ⟨Y,0,none⟩=some (.slice p5 r q5)/\W.cell? ⟨Y,1,none⟩=some (.slice p6 0 q6)):=Ab (fun W hW=>by
  have h1:=(hW.block X (Array.getElem?_eq_some_iff.1 hX5).1).trans hX5;have h2:=(hW.block Y (Array.getElem?_eq_some_iff.1 hY5).1).trans hY5;exact⟨Ac (i:=0) h1,Ac (i:=1) h1,Ac (i:=0) h2,Ac (i:=1) h2⟩)
 clear hB5 hD5 hA5 hBc5 hY5 hX5 hB25 HP2 x0' x1';go_wp2_with fail
 refine(Aa HSM).mono ?_;rintro e w6 ⟨rfl,hB6⟩;obtain⟨u0,u1,u2,u3⟩:=Aa HXY w6 hB6;have HSD6:=Ab (Aa HSD w6 hB6);have HB6:=Ab hB6;clear hB6;go_wp2_with fail
 refine(Aa HSD6).mono ?_;rintro e w7 ⟨rfl,hB7⟩;have hB57:=(Aa HB6).trans (hB7.mono (Aa HB6).size);obtain⟨t0,t1,-,-⟩:=Aa HXY w7 hB57;have HB7:=Ab ((Aa HBw5).trans (hB57.mono (Aa HBw5).size));clear hB7 hB57 u0 u1 u2 u3;go_wp2;go_ret;exact⟨rfl,Aa HB7⟩
end Go.Proofs.YtcjbgpacnkilnagGreatDoor
namespace Go.Proofs.YtcjbgpacnkilnagGreatDoor
open Go.RowKit Go.ChangeShapes Go.WideShapes Go.ChangeAt Go.Deep
set_option linter.unusedVariables false
theorem Zdy (b o j:Nat):(⟨b,o,none⟩:Addr).add j=⟨b,o+j,none⟩:=by unfold Addr.add;split<;>simp_all
theorem Zmm:Tryz.prog.cellsOf 5=1:=by kernel_rfl
end Go.Proofs.YtcjbgpacnkilnagGreatDoor
