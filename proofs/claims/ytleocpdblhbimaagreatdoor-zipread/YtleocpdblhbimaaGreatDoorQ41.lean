import Derived.Test.YtleocpdblhbimaaGreatDoorQ40
import Derived.Deep.RegionHeld3
set_option linter.unusedSimpArgs false
set_option maxHeartbeats 4000000
namespace Go.Proofs.YtleocpdblhbimaaGreatDoor
set_option linter.unusedVariables false
set_option maxRecDepth 100000
end Go.Proofs.YtleocpdblhbimaaGreatDoor
namespace Go.Proofs.YtleocpdblhbimaaGreatDoor
open Go.RowKit
set_option linter.unusedVariables false
set_option maxRecDepth 100000
theorem Z8b (W:World):(Instr.index 135 (.agg #[.int .i64 0,.int .i64 1,.int .i64 2]) (.int .i64 0)).run Tryz.prog W=.ok (.int .i64 0) W:=by kernel_rfl
theorem Z9h (W:World):(Instr.index 135 (.agg #[.int .i64 0,.int .i64 1,.int .i64 2]) (.int .i64 1)).run Tryz.prog W=.ok (.int .i64 1) W:=by kernel_rfl
theorem Z9g (W:World):(Instr.index 135 (.agg #[.int .i64 0,.int .i64 1,.int .i64 2]) (.int .i64 2)).run Tryz.prog W=.ok (.int .i64 2) W:=by kernel_rfl
theorem Z9f (k:Nat)(hk:k<=2)(W:World):(Instr.index 135 (.agg #[.int .i64 0,.int .i64 1,.int .i64 2]) (.int .i64 (k:Int))).run Tryz.prog W=.ok (.int .i64 (k:Int)) W:=by
 rcases(by omega:k=0\/k=1\/k=2)with rfl|rfl|rfl
 . exact Z8b W
 . exact Z9h W
 . exact Z9g W
theorem JO (bs:List Nat)(k:Nat)(h:0<k):bestP bs (k+1)=if GA bs k<GA bs (bestP bs k)then k else bestP bs k:=by
 obtain⟨q,rfl⟩:∃q,k=q+1:=⟨k-1,by omega⟩
 rfl
theorem Z7e (a:Option Addr)(n cap:Nat)(bs:List Nat)(w:World)(hl:bs.length=n)(hcap:n<=cap)(hnil:a=none->cap=0)(hB:BytesIn w a bs)(hx:∀j,bs.getD j 0<256)(hm:n<=9223372036854775807)(hn:3000<n):
 Calls Tryz.prog 54 #[.slice a n cap] w fun e w'=>e=.returned (.tuple #[.slice none 0 0,.int .i64 0,.int .i64 2])/\Below w.heap.size w w':=by
 have HC:=Ab (fun T U=>Z0l a n cap 0 bs w T U hl hcap hnil hB hx hm hn);clear hB hx hnil;go_enter Tryz.func54,Tryz.ntmps54
 go_wp2;go_loopw [2,3,10] (fun v2 v3 v10 wr=>v2=.slice none 0 0/\v3=.int .i64 0/\v10=.int .i64 0/\wr=w) (fun _ _ _ _=>0)
 case atStart=>exact⟨rfl,rfl,rfl,rfl⟩
 case round=>
  obtain⟨rfl,rfl,rfl,rfl⟩:=hrel;have hix:=Z8b;go_wp2_with fail
  refine(Aa HC _ _).mono ?_;rintro e w1 ⟨rfl,hB1⟩;have HB1:=Ab hB1;clear hB1;go_wp2;go_ret3;exact⟨rfl,Aa HB1⟩
theorem Z5n (a:Option Addr)(n cap:Nat)(bs:List Nat)(w:World)(hl:bs.length=n)(hcap:n<=cap)(hnil:a=none->cap=0)(hB:BytesIn w a bs)(hx:∀j,bs.getD j 0<256)(hn:n<=3000):
 Calls Tryz.prog 54 #[.slice a n cap] w fun e w'=>∃g c out,e=.returned (.tuple #[.slice (some ⟨g,0,none⟩) (GA bs (bestP bs 3)) c,.int .i64 (bestP bs 3:Nat),.int .i64 0])/\g<w'.heap.size/\Bytes w' g 0 out/\IsOne bs (bestP bs 3) out/\Below w.heap.size w w':=by
 have HC:=Ab (fun(W:World) (k:Nat) (hk:k<=2) (hW:Below w.heap.size w W) T U=>Z6j a n cap k bs W T U hl hcap hnil (hB.below hW (VB _)) hx hn hk);clear hB hx hnil;have hI0:(#[Value.int .i64 0,Value.int .i64 1,Value.int .i64 2]:Array Value).size=3:=rfl;go_enter Tryz.func54,Tryz.ntmps54
 go_wp2;go_loopw [2,3,10] (fun v2 v3 v10 wr=>∃k:Nat,k<=3/\v10=.int .i64 (k:Int)/\Below w.heap.size w wr/\((k=0/\v2=.slice none 0 0/\v3=.int .i64 0)\/ (0<k/\∃g c out,v2=.slice (some ⟨g,0,none⟩) (GA bs (bestP bs k)) c/\v3=.int .i64 (bestP bs k:Nat)/\g<wr.heap.size/\Bytes wr g 0 out/\IsOne bs (bestP bs k) out))) (fun _ _ v10 _=>3-(intOf v10).toNat)
 case atStart=>exact⟨0,by decide,rfl,Below.refl _ _,.inl ⟨rfl,rfl,rfl⟩⟩
 case round=>
  obtain⟨k,hk,rfl,hBw,hs⟩:=hrel;have HBw:=Ab hBw;clear hBw
  by_cases h3:k=3
  . subst h3
    rcases hs with ⟨h,_⟩|⟨_,g,c,out,rfl,rfl,hg,hby,hI⟩
    . omega
    . have HF:=Ab (And.intro hg (And.intro hby hI));clear hg hby hI;go_wp2;go_ret3;exact⟨g,c,out,rfl,(Aa HF).1,(Aa HF).2.1,(Aa HF).2.2,Aa HBw⟩
  . have hk2:k<=2:=by omega
    have hz:=(Aa HBw).size;have HCk:=Ab (fun T U=>Aa HC wr k hk2 (Aa HBw) T U);clear HC
    rcases hs with ⟨rfl,rfl,rfl⟩|⟨h0,g,c,out,rfl,rfl,hg,hby,hI⟩
    . have hix:=Z8b;go_wp2_with fail
      refine(Aa HCk _ _).mono ?_;rintro e w1 ⟨g1,c1,out1,rfl,hg1,hby1,hI1,hB1⟩;have HF:=Ab (And.intro hg1 (And.intro hby1 (And.intro hI1 ((Aa HBw).trans (hB1.mono hz)))));have e1:bestP bs 1=0:=rfl;clear hg1 hby1 hI1 hB1;go_wp2;rename_i hKK
      refine hKK _ _ ?_;simp only[Act.put,VA,VC,VD,Option.isNone];clear hKK;go_wp2;go_roundw
      case rel=>exact⟨1,by decide,by go_num,(Aa HF).2.2.2,.inr ⟨by decide,g1,c1,out1,by rw[e1],by rw[e1];rfl,(Aa HF).1,(Aa HF).2.1,by rw[e1];exact(Aa HF).2.2.1⟩⟩
      case measure=>simp[intOf]
    . have HS:=Ab (And.intro hg (And.intro hby hI));have hix:=Z9f k hk2;have hbp:=JO bs k h0;clear hg hby hI;have hqI:(k:Int)<3:=by omega
      obtain⟨B,hBB⟩:∃B,bestP bs k=B:=⟨_,rfl⟩
      rw[hBB]at hbp HS ⊢;obtain⟨l1,hl1⟩:∃l1,GA bs k=l1:=⟨_,rfl⟩
      obtain⟨l2,hl2⟩:∃l2,GA bs B=l2:=⟨_,rfl⟩
      rw[hl1,hl2]at hbp;rw[hl1]at HCk;rw[hl2];have HBP:=Ab hbp;have HL1:=Ab hl1;have HL2:=Ab hl2;clear hbp hl1 hl2 hBB;go_wp2_with fail
      refine(Aa HCk _ _).mono ?_;rintro e w1 ⟨g1,c1,out1,rfl,hg1,hby1,hI1,hB1⟩;have HF:=Ab (And.intro hg1 (And.intro hby1 (And.intro hI1 ((Aa HBw).trans (hB1.mono hz)))));have HK:=Ab (And.intro (VG (Aa HS).1 hB1.size) ((Aa HS).2.1.below hB1 (Aa HS).1));clear hg1 hby1 hI1 hB1
      by_cases hlt:l1<l2
      . have hltI:(l1:Int)<(l2:Int):=by omega
        have hb:Hid (bestP bs (k+1)=k):=Ab (by rw[Aa HBP,if_pos hlt]);clear hlt;go_wp2;rename_i hKK
        refine hKK _ _ ?_;simp only[Act.put,VA,VC,VD];clear hKK;go_wp2;go_roundw
        case rel=>exact⟨k+1,by omega,by go_num,(Aa HF).2.2.2,.inr ⟨by omega,g1,c1,out1,by rw[Aa hb,Aa HL1],by rw[Aa hb],(Aa HF).1,(Aa HF).2.1,by rw[Aa hb];exact(Aa HF).2.2.1⟩⟩
        case measure=>simp[intOf];omega
      . have hltI:¬(l1:Int)<(l2:Int):=by omega
        have hb:Hid (bestP bs (k+1)=B):=Ab (by rw[Aa HBP,if_neg hlt]);clear hlt;go_wp2;rename_i hKK
        refine hKK _ _ ?_;simp only[Act.put,VA,VC,VD];clear hKK;go_wp2;go_roundw
        case rel=>exact⟨k+1,by omega,by go_num,(Aa HF).2.2.2,.inr ⟨by omega,g,c,out,by rw[Aa hb,Aa HL2],by rw[Aa hb],(Aa HK).1,(Aa HK).2,by rw[Aa hb];exact(Aa HS).2.2⟩⟩
        case measure=>simp[intOf];omega
structure EOf (x:En):Prop where
 cr:x.crc=crcN 0 (n8 x.f.bytes)
 pk:∃out,IsOne (n8 x.f.bytes) (bestP (n8 x.f.bytes) 3) out/\((out.length<x.f.bytes.length/\x.meth=8/\x.pk=out)\/ (x.f.bytes.length<=out.length/\x.meth=0/\x.pk=n8 x.f.bytes))
def EoA (w:World)(x:Fv)(e:Ending)(w':World):Prop:=∃y:Ev,e=.returned y.val/\y.e.f=x.f/\EOf y.e/\EvIn w' y/\Below w.heap.size w w'/\y.fa=x.a/\(∀g o,y.pa=some ⟨g,o,none⟩->y.e.pk≠ []->(x.a=some ⟨g,o,none⟩/\y.e.f.bytes≠ [])\/o=0)
def RX (W:World)(X:Nat)(v0 v1 v2 v3 v4 v5 v6 v7:Value)(Wf:World):Prop:=Ni W X v0 v1 v2 v3 v4 v5 v6 v7=Wf
theorem Z2t (W:World)(X:Nat)(v0 v1 v2 v3 v4 v5 v6 v7:Value):∃Wf,RX W X v0 v1 v2 v3 v4 v5 v6 v7 Wf:=⟨Ni W X v0 v1 v2 v3 v4 v5 v6 v7,rfl⟩
theorem DX {a w:World}{X:Nat}{v0 v1 v2 v3 v4 v5 v6 v7:Value}(h:Below a.heap.size a w)(hX:a.heap.size<=X):Below a.heap.size a (Ni w X v0 v1 v2 v3 v4 v5 v6 v7):=by
 have one:∀ {W:World} (i:Nat) (v:Value),Below a.heap.size a W->Below a.heap.size a (W.setCell ⟨X,i,none⟩ v):=fun {W} i v hW=>hW.grown (Ad W X i v) hW.size (fun g e=>by cases e;exact hX)
 exact one 7 _ (one 6 _ (one 5 _ (one 4 _ (one 3 _ (one 2 _ (one 1 _ (one 0 _ h)))))))
theorem RP {w w5:World}(hb:Below w.drew.heap.size w.drew w5):Below w.heap.size w w5:=(Ea (Below.refl _ _)).trans hb
theorem RO {w w5:World}{o:Obj}(hb:Below (w.alloc o).drew.heap.size (w.alloc o).drew w5):Below w.heap.size w w5:=(Ea (Ck (Below.refl _ _) _)).trans (hb.mono (by simp[World.drew]))
theorem RN {w w5:World}{o:Obj}(hb:Below (w.drew.alloc o).heap.size (w.drew.alloc o) w5):Below w.heap.size w w5:=(Ck (Ea (Below.refl _ _)) _).trans (hb.mono (by rw[World.size_alloc];exact Nat.le_succ _))
theorem Z4d {w w5:World}{o:Obj}(hb:Below (w.alloc o).drew.heap.size (w.alloc o).drew w5):w5.heap[w.heap.size]? =some o:=(hb.block w.heap.size (by simp[World.drew])).trans (heap_alloc_new w o)
theorem Z3 (x:Fv)(w:World)(h:FvIn w x)(hn:x.f.bytes.length<=3000):
 Calls Tryz.prog 35 #[x.val] w fun e w'=>EoA w x e w':=by
 have HIN:=Ab h;have hpk:=Z5j h.bs;have hroom:=RE h.bs;obtain⟨⟨nml,bys,st,nd,gn⟩,fa,fc⟩:=x;rw[Nw];dsimp only at hn hpk hroom ⊢;have hlen:=Da bys;have hx:=Lv bys;have hgd:=Er hx;obtain⟨bs,hbs⟩:∃bs,n8 bys=bs:=⟨_,rfl⟩
 have hbs':=hbs;rw[hbs]at hpk hlen hx hgd;obtain⟨n,hnn⟩:∃n,bys.length=n:=⟨_,rfl⟩
 rw[hnn]at hn hroom hlen ⊢;obtain⟨nm,hnm⟩:∃nm,B nml=nm:=⟨_,rfl⟩
 rw[hnm];obtain⟨m,hm⟩:∃m,crcN 0 bs=m:=⟨_,rfl⟩
 obtain⟨wA,hwA⟩:∃wA,(w.alloc (.cells #[.string nm,.slice fa n fc,.int .i64 st,.int .i64 nd,.bool gn] 30)).alloc (.cells ez 71)=wA:=⟨_,rfl⟩
 have hzA:wA.heap.size=w.heap.size+2:=by rw[<-hwA];simp
 have hBA:Below w.heap.size w wA:=by rw[<-hwA];exact((Below.refl _ _).alloc (VB _) _).alloc (by simp) _
 have hbF:wA.heap[w.heap.size]? =some (.cells #[.string nm,.slice fa n fc,.int .i64 st,.int .i64 nd,.bool gn] 30 (0,0)):=by rw[<-hwA];exact(Below.heap_alloc _ _ _ (by simp)).trans (heap_alloc_new w _)
 have hbR:wA.heap[w.heap.size+1]? =some (.cells ez 71 (0,0)):=by
  have:=heap_alloc_new (w.alloc (.cells #[.string nm,.slice fa n fc,.int .i64 st,.int .i64 nd,.bool gn] 30)) (.cells ez 71)
  rw[<-hwA];simpa using this
 have hcr:∀W:World,Below wA.heap.size wA W->Calls Tryz.prog 53 #[.slice fa n fc] W fun e w'=>e=.returned (.int .u32 (m:Int))/\Below W.heap.size W w':=fun W hW=>by
  have:=AQ fa n fc bs W hlen (by omega) (hpk.below (hBA.trans (hW.mono (by omega)))).1 hgd
  rw[hm]at this;exact this
 have hbe:∀W:World,Below wA.heap.size wA W->Calls Tryz.prog 54 #[.slice fa n fc] W fun e w'=>∃g c out,e=.returned (.tuple #[.slice (some ⟨g,0,none⟩) (GA bs (bestP bs 3)) c,.int .i64 (bestP bs 3:Nat),.int .i64 0])/\g<w'.heap.size/\Bytes w' g 0 out/\IsOne bs (bestP bs 3) out/\Below W.heap.size W w':=fun W hW=>Z5n fa n fc bs W hlen hroom hpk.2 (hpk.below (hBA.trans (hW.mono (by omega)))).1 hgd hn
 have k0:∀W:World,Below wA.heap.size wA W->W.cell? ⟨w.heap.size,0,none⟩=some (.string nm):=fun W hW=>(hW.cell (p:=⟨w.heap.size,0,none⟩) (by dsimp only;omega)).trans (Ac hbF)
 have k1:∀W:World,Below wA.heap.size wA W->W.cell? ⟨w.heap.size,1,none⟩=some (.slice fa n fc):=fun W hW=>(hW.cell (p:=⟨w.heap.size,1,none⟩) (by dsimp only;omega)).trans (Ac hbF)
 have k2:∀W:World,Below wA.heap.size wA W->W.cell? ⟨w.heap.size,2,none⟩=some (.int .i64 st):=fun W hW=>(hW.cell (p:=⟨w.heap.size,2,none⟩) (by dsimp only;omega)).trans (Ac hbF)
 have k3:∀W:World,Below wA.heap.size wA W->W.cell? ⟨w.heap.size,3,none⟩=some (.int .i64 nd):=fun W hW=>(hW.cell (p:=⟨w.heap.size,3,none⟩) (by dsimp only;omega)).trans (Ac hbF)
 have k4:∀W:World,Below wA.heap.size wA W->W.cell? ⟨w.heap.size,4,none⟩=some (.bool gn):=fun W hW=>(hW.cell (p:=⟨w.heap.size,4,none⟩) (by dsimp only;omega)).trans (Ac hbF)
 have HCR:=Ab hcr;have HBE:=Ab hbe;have HWA:=Ab hwA;have HBR:=Ab hbR;have HBA:=Ab hBA;have HZA:=Ab hzA;have HNM:=Ab hnm;have HNN:=Ab hnn;have HBS:=Ab hbs;have HMM:=Ab hm;have HPK:=Ab hpk;clear h hpk hlen hx hgd hbs hbs' hnn hnm hm hwA hBA hbF hbR hcr hbe hzA;go_enter Tryz.func35,Tryz.ntmps35
 go_upto_region 1 with fail
 rw[Aa HWA];go_cut [3] (fun v3 wc=>∃X,v3=.pointer (some ⟨X,0,none⟩)/\Hid (wc.heap[X]? =some (.cells (ec (.string nm) (.slice fa n fc) (.int .i64 st) (.int .i64 nd) (.bool gn) (.int .u32 0) (.slice fa n fc) (.int .u32 (m:Int))) 71 (0,0))/\wA.heap.size<=X/\Below wA.heap.size wA wc))
 case first=>
  go_region_held3 (fun W=>Below wA.heap.size wA W) (first|with_reducible exact Ea (Below.refl _ _)|with_reducible exact hb6|with_reducible exact Ck hb6 _|with_reducible exact Ea (Ck (Below.refl _ _) _)|with_reducible exact Ck (Ea (Below.refl _ _)) _|with_reducible exact DX hb6 (VB _)) ((go_at_call 53;refine(Aa HCR _ (by first|with_reducible exact Ea (Below.refl _ _)|with_reducible exact Ea (Ck (Below.refl _ _) _)|with_reducible exact Ck (Ea (Below.refl _ _)) _)).mono ?_;rintro e w5 ⟨rfl,hb5⟩;have hb6:Below wA.heap.size wA w5:=(by first|with_reducible exact RP hb5|with_reducible exact RO hb5|with_reducible exact RN hb5);try (have hx5:=(by with_reducible exact Z4d hb5:w5.heap[wA.heap.size]? =some (.cells ez 71 (0,0)));have x0:=Ac (i:=0) hx5;have x1:=Ac (i:=1) hx5;have x2:=Ac (i:=2) hx5;have x3:=Ac (i:=3) hx5;have x4:=Ac (i:=4) hx5;have x5:=Ac (i:=5) hx5;have x6:=Ac (i:=6) hx5;have x7:=Ac (i:=7) hx5;have y0:=frozen_of_row w5 wA.heap.size 0 _ _ hx5;have y1:=frozen_of_row w5 wA.heap.size 1 _ _ hx5;have y2:=frozen_of_row w5 wA.heap.size 2 _ _ hx5;have y3:=frozen_of_row w5 wA.heap.size 3 _ _ hx5;have y4:=frozen_of_row w5 wA.heap.size 4 _ _ hx5;have y5:=frozen_of_row w5 wA.heap.size 5 _ _ hx5;have y6:=frozen_of_row w5 wA.heap.size 6 _ _ hx5;have y7:=frozen_of_row w5 wA.heap.size 7 _ _ hx5)))
  all_goals go_wp2_with fail
  all_goals go_meet
  . exact⟨_,rfl,Ab ⟨heap_alloc_new _ _,hb6.size,Ck hb6 _⟩⟩
  . exact⟨_,rfl,Ab ⟨(Z7g w5 wA.heap.size 71 _ _ _ _ _ _ _ _ _ _ _ _ _ _ _ _ hx5).1,VB _,DX hb6 (VB _)⟩⟩
 case rest=>
  obtain⟨X,rfl,hX⟩:=hcut;obtain⟨hX1,hX2,hX3⟩:=Aa hX;have c1:=k1 wc hX3;have HX:=Ab hX1;have HX3:=Ab hX3;clear hX hX1 hX3 k0 k1 k2 k3 k4;go_wp2_with fail
  refine(Aa HBE wc (Aa HX3)).mono ?_;rintro e w6 ⟨g,c,out,rfl,hg,hBy,hOne,hB6⟩;have hol:=hOne.len;have hX6:w6.heap[X]? =some (.cells (ec (.string nm) (.slice fa n fc) (.int .i64 st) (.int .i64 nd) (.bool gn) (.int .u32 0) (.slice fa n fc) (.int .u32 (m:Int))) 71 (0,0)):=(hB6.block X (VK.1 (Aa HX)).1).trans (Aa HX);have hBA6:Below wA.heap.size wA w6:=(Aa HX3).trans (hB6.mono (Aa HX3).size);have hzA:=Aa HZA;have hR6:w6.heap[w.heap.size+1]? =some (.cells ez 71 (0,0)):=(hBA6.block _ (by omega)).trans (Aa HBR)
  have hF6:w6.cell? ⟨w.heap.size,1,none⟩=some (.slice fa n fc):=by
   have:=hBA6.cell (p:=⟨w.heap.size,1,none⟩) (by dsimp only;omega)
   have h2:=(Aa HX3).cell (p:=⟨w.heap.size,1,none⟩) (by dsimp only;omega);rw[this,<-h2];exact c1
  obtain⟨L,hL⟩:∃L,GA bs (bestP bs 3)=L:=⟨_,rfl⟩
  obtain⟨K,hK⟩:∃K,bestP bs 3=K:=⟨_,rfl⟩
  rw[hL]at hol;rw[hL,hK];have q0:=Ac (i:=0) hX6;have q1:=Ac (i:=1) hX6;have q2:=Ac (i:=2) hX6;have q3:=Ac (i:=3) hX6;have q4:=Ac (i:=4) hX6;have q5:=Ac (i:=5) hX6;have q6:=Ac (i:=6) hX6;have q7:=Ac (i:=7) hX6;have f5:=frozen_of_row w6 X 5 _ _ hX6;have f6:=frozen_of_row w6 X 6 _ _ hX6;have r0:=Ac (i:=0) hR6;have r1:=Ac (i:=1) hR6;have r2:=Ac (i:=2) hR6;have r3:=Ac (i:=3) hR6;have r4:=Ac (i:=4) hR6;have r5:=Ac (i:=5) hR6;have r6:=Ac (i:=6) hR6;have r7:=Ac (i:=7) hR6;have g0:=frozen_of_row w6 (w.heap.size+1) 0 _ _ hR6;have g1:=frozen_of_row w6 (w.heap.size+1) 1 _ _ hR6;have g2:=frozen_of_row w6 (w.heap.size+1) 2 _ _ hR6;have g3:=frozen_of_row w6 (w.heap.size+1) 3 _ _ hR6;have g4:=frozen_of_row w6 (w.heap.size+1) 4 _ _ hR6;have g5:=frozen_of_row w6 (w.heap.size+1) 5 _ _ hR6;have g6:=frozen_of_row w6 (w.heap.size+1) 6 _ _ hR6;have g7:=frozen_of_row w6 (w.heap.size+1) 7 _ _ hR6;simp only[VZ,VY,WI]at q0 q1 q2 q3 q4 q5 q6 q7 r0 r1 r2 r3 r4 r5 r6 r7;have hXne:w.heap.size+1≠X:=by omega
  have hBw6:Below w.heap.size w w6:=(Aa HBA).trans (hBA6.mono (by omega));have hxlt:=(VK.1 hX6).1;have hpos:=hOne.pos;have hgc:=hBy 0 hpos;have hgX:g≠X:=fun e=>by rw[e]at hgc;rw[q0]at hgc;cases hgc
  have hgR:g≠w.heap.size+1:=fun e=>by rw[e]at hgc;rw[r0]at hgc;cases hgc
  have hbl:bs.length=n:=by rw[<-Aa HBS,Da];exact Aa HNN
  clear hpos hgc
  by_cases hlt:L<n
  . have hltI:(L:Int)<(n:Int):=by omega
    have k1:=Ad w6 X 5 (.int .u32 8);have k2:=Ad (w6.setCell ⟨X,5,none⟩ (.int .u32 8)) X 6 (.slice (some ⟨g,0,none⟩) L c);have kk:=Aj k1 k2;obtain⟨p1',p2'⟩:=Z7g ((w6.setCell ⟨X,5,none⟩ (.int .u32 8)).setCell ⟨X,6,none⟩ (.slice (some ⟨g,0,none⟩) L c)) (w.heap.size+1) 71 _ _ _ _ _ _ _ _ (.string nm) (.slice fa n fc) (.int .i64 st) (.int .i64 nd) (.bool gn) (.int .u32 8) (.slice (some ⟨g,0,none⟩) L c) (.int .u32 (m:Int)) ((kk.block _ (by omega) (by simp;exact hXne)).trans hR6);have hfb:PkIn (Ni ((w6.setCell ⟨X,5,none⟩ (.int .u32 8)).setCell ⟨X,6,none⟩ (.slice (some ⟨g,0,none⟩) L c)) (w.heap.size+1) (.string nm) (.slice fa n fc) (.int .i64 st) (.int .i64 nd) (.bool gn) (.int .u32 8) (.slice (some ⟨g,0,none⟩) L c) (.int .u32 (m:Int))) fa fc bs:=(((Aa HPK).below hBw6).grown kk (fun g' o e1 e2=>by have:=Xm (Aa HPK) g' o e1 e2;simp;omega)).grown p2' (fun g' o e1 e2=>by have:=Xm (Aa HPK) g' o e1 e2;simp;omega)
    have HF:Hid (EoA w ⟨⟨nml,bys,st,nd,gn⟩,fa,fc⟩ (.returned (.agg #[(.string nm),(.slice fa n fc),(.int .i64 st),(.int .i64 nd),(.bool gn),(.int .u32 8),(.slice (some ⟨g,0,none⟩) L c),(.int .u32 (m:Int))])) (Ni ((w6.setCell ⟨X,5,none⟩ (.int .u32 8)).setCell ⟨X,6,none⟩ (.slice (some ⟨g,0,none⟩) L c)) (w.heap.size+1) (.string nm) (.slice fa n fc) (.int .i64 st) (.int .i64 nd) (.bool gn) (.int .u32 8) (.slice (some ⟨g,0,none⟩) L c) (.int .u32 (m:Int)))):=Ab (by
     refine⟨⟨⟨⟨nml,bys,st,nd,gn⟩,8,out,m⟩,fa,fc,some ⟨g,0,none⟩,c⟩, ?_,rfl,⟨by dsimp only;rw[Aa HBS,Aa HMM],out,by dsimp only;rw[Aa HBS];exact hOne,.inl ⟨by dsimp only;rw[hol,Aa HNN];exact hlt,rfl,rfl⟩⟩,⟨by dsimp only;rw[Aa HBS];exact hfb,by dsimp only;rw[Aa HNN];exact hroom,by dsimp only;rw[Aa HNN];omega,(Aa HIN).txt,((show PkIn w6 (some ⟨g,0,none⟩) c out from ⟨.inr ⟨g,0,rfl,hg,hBy⟩,fun e=>by cases e⟩).grown kk (fun g' o e _=>by cases e;simp;exact hgX)).grown p2' (fun g' o e _=>by cases e;simp;exact hgR)⟩, ?_,rfl,fun g' o e _=>by cases e;exact .inr rfl⟩
     . unfold Ev.val;dsimp only;rw[Aa HNM,Aa HNN,hol]
       first|done|rfl
     . have hk:=kk.size;exact(hBw6.grown kk (by omega) (fun g' e=>by cases e;omega)).grown p2' (by omega) (fun g' e=>by cases e;omega))
    obtain⟨Wf,hWf⟩:=Z2t ((w6.setCell ⟨X,5,none⟩ (.int .u32 8)).setCell ⟨X,6,none⟩ (.slice (some ⟨g,0,none⟩) L c)) (w.heap.size+1) (.string nm) (.slice fa n fc) (.int .i64 st) (.int .i64 nd) (.bool gn) (.int .u32 8) (.slice (some ⟨g,0,none⟩) L c) (.int .u32 (m:Int));have eWf:Ni ((w6.setCell ⟨X,5,none⟩ (.int .u32 8)).setCell ⟨X,6,none⟩ (.slice (some ⟨g,0,none⟩) L c)) (w.heap.size+1) (.string nm) (.slice fa n fc) (.int .i64 st) (.int .i64 nd) (.bool gn) (.int .u32 8) (.slice (some ⟨g,0,none⟩) L c) (.int .u32 (m:Int))=Wf:=hWf;rw[eWf]at HF p1';have HWF:=Ab hWf;clear hWf eWf;have HP1:=Ab p1';clear p1' p2' hfb hX6 hR6 hBA6 hBw6 hBy hOne hB6 hol hL hK hg hgX hgR hxlt hlt hbl k1 k2 kk;go_wp2;have eWf:=Aa HWF;unfold RX at eWf;subst eWf;refine bodyPost_ret (v:=.agg #[(.string nm),(.slice fa n fc),(.int .i64 st),(.int .i64 nd),(.bool gn),(.int .u32 8),(.slice (some ⟨g,0,none⟩) L c),(.int .u32 (m:Int))]) ?_ rfl (Aa HF);exact results_cell_row rfl _ _ _ _ _ _ _ rfl (Aa HP1) Tryz.underlying71 rfl (by kernel_rfl)
  . have hltI:¬(L:Int)<(n:Int):=by omega
    have kk:=Aw w6 (some X);obtain⟨p1',p2'⟩:=Z7g w6 (w.heap.size+1) 71 _ _ _ _ _ _ _ _ (.string nm) (.slice fa n fc) (.int .i64 st) (.int .i64 nd) (.bool gn) (.int .u32 0) (.slice fa n fc) (.int .u32 (m:Int)) ((kk.block _ (by omega) (by simp;exact hXne)).trans hR6);have hfb:PkIn (Ni w6 (w.heap.size+1) (.string nm) (.slice fa n fc) (.int .i64 st) (.int .i64 nd) (.bool gn) (.int .u32 0) (.slice fa n fc) (.int .u32 (m:Int))) fa fc bs:=(((Aa HPK).below hBw6).grown kk (fun g' o e1 e2=>by have:=Xm (Aa HPK) g' o e1 e2;simp;omega)).grown p2' (fun g' o e1 e2=>by have:=Xm (Aa HPK) g' o e1 e2;simp;omega)
    have HF:Hid (EoA w ⟨⟨nml,bys,st,nd,gn⟩,fa,fc⟩ (.returned (.agg #[(.string nm),(.slice fa n fc),(.int .i64 st),(.int .i64 nd),(.bool gn),(.int .u32 0),(.slice fa n fc),(.int .u32 (m:Int))])) (Ni w6 (w.heap.size+1) (.string nm) (.slice fa n fc) (.int .i64 st) (.int .i64 nd) (.bool gn) (.int .u32 0) (.slice fa n fc) (.int .u32 (m:Int)))):=Ab (by
     refine⟨⟨⟨⟨nml,bys,st,nd,gn⟩,0,bs,m⟩,fa,fc,fa,fc⟩, ?_,rfl,⟨by dsimp only;rw[Aa HBS,Aa HMM],out,by dsimp only;rw[Aa HBS];exact hOne,.inr ⟨by dsimp only;rw[hol,Aa HNN];omega,rfl,by dsimp only;rw[Aa HBS]⟩⟩,⟨by dsimp only;rw[Aa HBS];exact hfb,by dsimp only;rw[Aa HNN];exact hroom,by dsimp only;rw[Aa HNN];omega,(Aa HIN).txt,hfb⟩, ?_,rfl,fun g' o e1 e2=>.inl ⟨e1,fun e=>e2 (by have e':bys= []:=e;dsimp only;rw[<-Aa HBS,e'];rfl)⟩⟩
     . unfold Ev.val;dsimp only;rw[Aa HNM,Aa HNN,hbl]
       first|done|rfl
     . have hk:=kk.size;exact(hBw6.grown kk (by omega) (fun g' e=>by cases e;omega)).grown p2' (by omega) (fun g' e=>by cases e;omega))
    obtain⟨Wf,hWf⟩:=Z2t w6 (w.heap.size+1) (.string nm) (.slice fa n fc) (.int .i64 st) (.int .i64 nd) (.bool gn) (.int .u32 0) (.slice fa n fc) (.int .u32 (m:Int));have eWf:Ni w6 (w.heap.size+1) (.string nm) (.slice fa n fc) (.int .i64 st) (.int .i64 nd) (.bool gn) (.int .u32 0) (.slice fa n fc) (.int .u32 (m:Int))=Wf:=hWf;rw[eWf]at HF p1';have HWF:=Ab hWf;clear hWf eWf;have HP1:=Ab p1';clear p1' p2' hfb hX6 hR6 hBA6 hBw6 hBy hOne hB6 hol hL hK hg hgX hgR hxlt hlt hbl kk;go_wp2;have eWf:=Aa HWF;unfold RX at eWf;subst eWf;refine bodyPost_ret (v:=.agg #[(.string nm),(.slice fa n fc),(.int .i64 st),(.int .i64 nd),(.bool gn),(.int .u32 0),(.slice fa n fc),(.int .u32 (m:Int))]) ?_ rfl (Aa HF);exact results_cell_row rfl _ _ _ _ _ _ _ rfl (Aa HP1) Tryz.underlying71 rfl (by kernel_rfl)
def WrA (w:World)(fs:List Fl)(e:Ending)(w':World):Prop:=
 Below w.heap.size w w'/\((errM fs≠0/\e=.returned (.tuple #[.slice none 0 0,.int .i64 (errM fs:Nat)]))\/ (errM fs=0/\∃l:List En,l.map En.f=fs/\(∀x∈l,EOf x)/\((12000<(Be l).length/\e=.returned (.tuple #[.slice none 0 0,.int .i64 11]))\/ ((Be l).length<=12000/\∃a c,e=.returned (.tuple #[.slice a (Be l).length c,.int .i64 0])/\(Be l).length<=c/\PkIn w' a c (Be l)))))
theorem FE {w:World}{Bs:Nat}{v:Value}{xs:List Ev}{g:Nat}(h:ERow w Bs v xs)(hg:v.ownBlock=some g)(hne:xs≠ []):∃s,w.cell? ⟨g,0,none⟩=some (.string s):=by
 obtain⟨ad,c,rfl,hes⟩:=h.entries
 cases xs with
 |nil=>exact absurd rfl hne
 |cons x r=>
  rcases hes.at_ with h1|⟨b,o,rfl,hb,hE⟩
  . cases h1
  . have h0:=hE 0 x rfl 0 (by decide);have hsh:=Ba h.own (by simp);obtain⟨g',cap,hv,_⟩:=hsh
    cases hv
    cases hg
    have h1:w.cell? ⟨b,0+0*8+0,none⟩=some (.string (B x.e.f.name)):=h0;exact⟨_,h1⟩
theorem EOf.num {x:En}(h:EOf x)(hv:Mq x.f=0):ENum x/\∀y∈x.pk,y<256:=by
 obtain⟨h1,h2,h3,h4,h5,h6⟩:=Yi hv;have hcr:x.crc<4294967296:=by rw[h.cr];exact Z5b (Lv _) (by decide)
 obtain⟨out,ho,(⟨q1,q2,q3⟩|⟨q1,q2,q3⟩)⟩:=h.pk
 . exact⟨⟨⟨h3,h4⟩,⟨h5,h6⟩,h1,h2,by rw[q3];omega,hcr,by rw[q2];decide⟩,by rw[q3];exact Yf ho.val⟩
 . exact⟨⟨⟨h3,h4⟩,⟨h5,h6⟩,h1,h2,by rw[q3,Da];omega,hcr,by rw[q2];decide⟩,by rw[q3];exact Lv _⟩
theorem EB (ad:Option Addr)(c n:Nat)(xs:List Fv)(w:World)(h:FsIn w ad c xs)(hn:xs.length=n):
 Calls Tryz.prog 7 #[.slice ad n c] w fun e w'=>WrA w (fls xs) e w':=by
 have HCC:=Ab (Sv ad c xs w h n hn);obtain⟨E,hE⟩:∃E,errM (fls xs)=E:=⟨_,rfl⟩
 rw[hE]at HCC;have HI:=Ab h;have HN:=Ab hn;have HE:=Ab hE;clear h hn hE;go_enter Tryz.func7,Tryz.ntmps7
 go_wp2_with fail
 refine(Aa HCC).mono ?_;rintro e w1 ⟨rfl,hB1⟩
 by_cases hE0:E=0
 . subst hE0;have hok:=Mr (Aa HE)
   have hn12:n<=12:=by
    have h1:=hok.1;have h2:=Aa HN;simp[fls]at h1
    omega
   have hvx:∀x∈xs,Mq x.f=0:=fun x hx=>hok.2 x.f (XV hx)
   have HVX:=Ab hvx;have HB1:=Ab hB1;clear hB1 hok hvx HCC;go_wp2;go_loopw [5,7,16] (fun v5 _ i wr=>∃(k:Nat) (es:List Ev),k<=n/\i=.int .i64 (k:Int)/\Hid (ERow wr w.heap.size v5 es/\es.map (fun y=>y.e.f)=(fls xs).take k/\(∀y∈es,EOf y.e)/\(es= []->v5=.slice none 0 0))/\Hid (Below w.heap.size w wr)) (fun _ _ i _=>n-(intOf i).toNat)
   case atStart=>exact⟨0,[],VH _,rfl,Ab ⟨ERow.nil _ _,by simp,(fun y hy=>absurd hy XE),fun _=>rfl⟩,HB1⟩
   case round=>
    obtain⟨k,es,hk,rfl,HR,HB⟩:=hrel
    have hel:es.length=k:=by
     have:=congrArg List.length (Aa HR).2.1
     have h2:=Aa HN;simp[fls]at this
     omega
    by_cases hlt:k<n
    . obtain⟨x,hx,hxm⟩:=Ob (xs:=xs) (k:=k) (by rw[Aa HN];exact hlt);obtain⟨b,o,rfl,hb,c0,c1,c2,c3,c4⟩:=(Aa HI).get (Aa HB) hx;have hz:=(Aa HB).size;have hxin:=(Aa HI).all x hxm;have HEO:=Ab (fun(W:World) (hW:Below w.heap.size w W)=>Z3 x W (hxin.below hW (VB _)) (by have:=Yi (Aa HVX x hxm);omega));have hfl:(fls xs).take (k+1)=(fls xs).take k++ [x.f]:=Eu (by simp[fls,hx])
      have hxlt:∀g o,x.a=some ⟨g,o,none⟩->x.f.bytes≠ []->g<w.heap.size:=fun g o e1 e2=>by
       have:=Xm (Z5j hxin.bs) g o e1 (fun e=>e2 (by rw[<-FQ x.f.bytes,e];rfl))
       exact this
      have HXLT:=Ab hxlt;have HFL:=Ab hfl;rw[Nw]at HEO;unfold Fv.sl at c1;clear hx hxm hxin hfl hxlt;have HEL:=Ab hel;have hB2:∀o1:Obj,Below w.heap.size w (wr.alloc o1):=fun o1=>(Aa HB).alloc hz o1
      have HB2:=Ab hB2;have HR2:=Ab (fun o1:Obj=>(Aa HR).1.below ((Below.refl wr.heap.size wr).alloc (VB _) o1));obtain⟨xf,xa,xc⟩:=x;dsimp only at c0 c1 c2 c3 c4;have HEO':=HEO;clear hB2 hel;generalize hnm:B xf.name=nm at c0 HEO;generalize hbl:xf.bytes.length=bl at c1 HEO;generalize hst:xf.stamp=st at c2 HEO;generalize hnd:xf.node=nd at c3 HEO;generalize hgn:xf.gone=gn at c4 HEO;clear hnm hbl hst hnd hgn HEO';go_wp2_with fail
      refine(Aa HEO _ (Aa HB2 _)).mono ?_;rintro e w2 ⟨y,rfl,hyf,hyo,hyi,hB3,hya,hyp⟩;replace hyf:y.e.f=xf:=hyf;replace hya:y.fa=xa:=hya;have hB4:=(Aa HB2 _).trans (hB3.mono (by simp;omega));have hrow:=(Aa HR2 _).below hB3
      have hlies:y.lies (fun g=>some g≠u5.ownBlock):=by
       have hold:∀g o,xa=some ⟨g,o,none⟩->xf.bytes≠ []->some g≠u5.ownBlock:=fun g o e1 e2 e3=>by
        have h1:=Aa HXLT g o e1 e2;have h2:=(hrow.own.lt g e3.symm).1;omega
       constructor
       . intro g o e1 e2;exact hold g o (hya.symm.trans e1) (by rw[<-hyf];exact e2)
       . intro g o e1 e2
         rcases hyp g o e1 e2 with ⟨q1,q2⟩|rfl
         . exact hold g o q1 (by rw[<-hyf];exact q2)
         . intro e3
           have hne:es≠ []:=by
            intro e4;rw[(Aa HR).2.2.2 e4]at e3
            cases e3
           obtain⟨s,hs⟩:=FE hrow e3.symm hne
           rcases hyi.pk.1 with h5|⟨b',o',e5,hb5,hc5⟩
           . exact e2 h5
           . rw[e1]at e5
             cases e5
             have:=hc5 0 (List.length_pos_iff.2 e2)
             rw[WG,hs]at this
             cases this
      have HR3:=Ab (fun o1:Obj=>hrow.below ((Below.refl w2.heap.size w2).alloc (VB _) o1));have HYI:=Ab (fun o1:Obj=>hyi.below ((Below.refl w2.heap.size w2).alloc (VB _) o1));have HYL:=Ab hlies;have HYO:=Ab hyo;have HYF:=Ab hyf;have hz2:=hB4.size;have HB5:=Ab (fun o1:Obj=>hB4.alloc hz2 o1);have hel2:es.length+1<=100000:=by rw[Aa HEL];omega
      have HCE:Hid (∀o1,o1=Obj.cells y.cells.toArray 71->∀j u,y.cells[j]? =some u->(w2.alloc o1).cell? ⟨w2.heap.size,j,none⟩=some u):=Ab (fun o1 e j u hj=>by
       subst e;rw[Ac (heap_alloc_new w2 _)];simpa using hj)
      clear hB3 hB4 hrow hlies hyi hyo hyf hya hyp HEO c0 c1 c2 c3 c4;unfold Ev.val;go_wp2_with (at_builtin;refine Fr _ rfl _ _ rfl w.heap.size _ es rfl (Aa HR3 _) w2.heap.size y rfl (Aa HCE _ rfl) (Aa HYI _) (Aa HYL) hel2 (by simp;omega) ?_)
      intro v' w3 hrow3 hg3
      have HR4:Hid (ERow w3 w.heap.size v' (es++ [y])/\(es++ [y]).map (fun y=>y.e.f)=(fls xs).take (k+1)/\(∀z∈es++ [y],EOf z.e)/\(es++ [y]= []->v'=.slice none 0 0)):=Ab (by
       refine⟨Aa hrow3, ?_,fun z hz=> ?_,fun e=>by simp at e⟩
       . rw[WU,(Aa HR).2.1,Aa HFL];simp[Aa HYF]
       . rcases WP.1 hz with hz|hz
         . exact(Aa HR).2.2.1 z hz
         . rw[WO.1 hz];exact Aa HYO)
      have HB6:Hid (Below w.heap.size w w3):=Ab ((Aa HB5 _).grown (Aa hg3) (by simp;omega) (fun g e=>((Aa HR3 (.cells y.cells.toArray 71)).own.lt g e).1));clear hrow3 hg3;go_wp2;go_roundw
      case rel=>exact⟨k+1,es++ [y],by omega,by go_num,HR4,HB6⟩
      case measure=>simp[intOf];omega
    . obtain rfl:n=k:=by omega
      obtain⟨hrow,hfs,heo,_⟩:=Aa HR;have hta:(fls xs).take n=fls xs:=VV (by simp[fls,Aa HN]);rw[hta]at hfs;obtain⟨ad2,c2,hv,hes⟩:=hrow.entries;rw[hel]at hv;subst hv;obtain⟨l,hll⟩:∃l,es.map Ev.e=l:=⟨_,rfl⟩
      have hlf:l.map En.f=fls xs:=by rw[<-hll,ZU];exact hfs
      have hlo:∀x∈l,EOf x:=by
       rw[<-hll];intro x hx;obtain⟨y,hy,rfl⟩:=XG.1 hx;exact heo y hy
      have hev:∀x∈l,Mq x.f=0:=fun x hx=>by
       have:x.f∈fls xs:=by rw[<-hlf];exact XV hx
       obtain⟨z,hz,hze⟩:=XG.1 this;rw[<-hze];exact Aa HVX z hz
      have hnum:∀x∈es,ENum x.e:=fun x hx=>((hlo x.e (by rw[<-hll];exact XV hx)).num (hev x.e (by rw[<-hll];exact XV hx))).1
      have HCA:=Ab (Sz ad2 c2 n es wr hes hel hn12 hnum);rw[hll]at HCA;have HLF:=Ab hlf;have HLO:=Ab hlo;clear hrow hfs heo hta hes hll hlf hlo hev hnum hel;go_wp2_with fail
      refine(Aa HCA).mono ?_;rintro e w4 ⟨v4,rfl,ho,hB4⟩;obtain⟨a4,c4,rfl,q1,q2,q3,q4⟩:=Ve ho;have hB5:=(Aa HB).trans (hB4.mono (Aa HB).size);obtain⟨AL,hAL⟩:∃AL,(Be l).length=AL:=⟨_,rfl⟩
      rw[hAL]at q2;rw[hAL]
      by_cases hbig:12000<AL
      . have HF:Hid (WrA w (fls xs) (.returned (.tuple #[.slice none 0 0,.int .i64 11])) w4):=Ab ⟨hB5,.inr ⟨Aa HE,l,Aa HLF,Aa HLO,.inl ⟨by rw[hAL];exact hbig,rfl⟩⟩⟩;have hbI:(12000:Int)<(AL:Int):=by omega
        clear hB4 hB5 ho q1 q2 q3 q4 hAL hbig HCA;go_wp2;go_ret2;exact Aa HF
      . have HF:Hid (WrA w (fls xs) (.returned (.tuple #[.slice a4 AL c4,.int .i64 0])) w4):=Ab ⟨hB5,.inr ⟨Aa HE,l,Aa HLF,Aa HLO,.inr ⟨by rw[hAL];omega,a4,c4,by rw[hAL],by rw[hAL];exact q2,q1⟩⟩⟩;have hbI:¬(12000:Int)<(AL:Int):=by omega
        clear hB4 hB5 ho q1 q2 q3 q4 hAL hbig HCA;go_wp2;go_ret2;exact Aa HF
 . have HF:Hid (WrA w (fls xs) (.returned (.tuple #[.slice none 0 0,.int .i64 (E:Int)])) w1):=Ab ⟨hB1,.inl ⟨by rw[Aa HE];exact hE0,by rw[Aa HE]⟩⟩;have hEb:((E:Int)==0)=false:=by rw[beq_eq_false_iff_ne];omega
   have hEc:((E:Int)!=0)=true:=by rw[bne,hEb];rfl
   clear hB1 hE0;go_wp2;go_ret2;exact Aa HF
end Go.Proofs.YtleocpdblhbimaaGreatDoor
