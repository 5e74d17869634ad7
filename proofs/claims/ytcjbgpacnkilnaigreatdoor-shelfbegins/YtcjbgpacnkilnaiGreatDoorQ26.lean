import Derived.Test.YtcjbgpacnkilnaiGreatDoorQ17
import Derived.Test.YtcjbgpacnkilnaiGreatDoorQ25
import Derived.Test.YtcjbgpacnkilnaiGreatDoorQ14
import Derived.ChangeKeysEq
import Derived.Deep.RegionHeld3
import Derived.Test.YtcjbgpacnkilnaiGreatDoorQ18
import Derived.Laws.BitsAllLaws
set_option maxHeartbeats 4000000
namespace Go.Proofs.YtcjbgpacnkilnaiGreatDoor
open Go.RowKit
set_option linter.unusedVariables false
set_option linter.unusedSimpArgs false
set_option maxRecDepth 100000
theorem Zig (a b:Int)(W:World):(part 54 #[.int .u32 a,.int .u32 b] 0).run Tryz.prog W=.ok (.int .u32 a) W:=by simp[part,isAgg,run_underlying Tryz.underlying54]
theorem Zif (a b:Int)(W:World):(part 54 #[.int .u32 a,.int .u32 b] 1).run Tryz.prog W=.ok (.int .u32 b) W:=by simp[part,isAgg,run_underlying Tryz.underlying54]
theorem eqH (a d c:Nat)(W:World):(Op.equalIn 10000 105 (.agg #[.int .u32 (a:Int),.int .u32 (d:Int)]) (.agg #[.int .u32 (a:Int),.int .u32 (c:Int)])).run Tryz.prog W=.ok (decide (d=c)) W:=by
 have hi:∃i,Tryz.prog.info? 54=some i:=Option.isSome_iff_exists.1 (by kernel_rfl);obtain⟨i,hi⟩:=hi;have hc:Tryz.prog.cellsOf 54=1:=by kernel_rfl
 rw[run_equalIn_array W 9999 _ _ Tryz.underlying105 hi,hc];have e2:List.range 2= [0,1]:=rfl;rw[e2];have q0:(Op.equalIn 9999 54 (.int .u32 (a:Int)) (.int .u32 (a:Int))).run Tryz.prog W=.ok ((a:Int)==(a:Int)) W:=run_equalIn_int (P:=Tryz.prog) W 9998 54 .u32 .u32 (a:Int) (a:Int) Tryz.underlying54;have q1:(Op.equalIn 9999 54 (.int .u32 (d:Int)) (.int .u32 (c:Int))).run Tryz.prog W=.ok ((d:Int)==(c:Int)) W:=run_equalIn_int (P:=Tryz.prog) W 9998 54 .u32 .u32 (d:Int) (c:Int) Tryz.underlying54
 by_cases h:d=c
 . subst h;simp[Op.eqItems,Sem.run_bind,Zig,Zif,q0,q1]
 . have h2:((d:Int)==(c:Int))=false:=by rw[beq_eq_false_iff_ne];omega
   rw[h2]at q1;simp[Op.eqItems,Sem.run_bind,Zig,Zif,q0,q1,h]
def FaA (w:World)(a:Option Addr)(cap:Nat)(bs:List Nat)(e:Ending)(w':World):Prop:=
 Below w.heap.size w w'/\((Pz bs=none/\∃x y z,e=.returned (.tuple #[.slice x y z,.bool false]))\/∃ar x z,Pz bs=some ar/\e=.returned (.tuple #[.slice x ar.length z,.bool true])/\ar.length<=z/\∀W,PkIn W a cap bs->PkIn W x z ar)
theorem Zk7 {l:List Nat}(h:8<=l.length):∃b0 b1 b2 b3 b4 b5 b6 b7 r,l=b0::b1::b2::b3::b4::b5::b6::b7::r:=by
 match l,h with
 |b0::b1::b2::b3::b4::b5::b6::b7::r,_=>exact⟨b0,b1,b2,b3,b4,b5,b6,b7,r,rfl⟩
theorem Z8x (b0 b1 b2 b3:Nat):Ck b0 b1 b2 b3 4=Ah [b0,b1,b2,b3]:=by
 simp[Ck,Ah]
 omega
theorem Z89 {w:World}{p n cap k:Nat}{a a':Option Addr}{bs:List Nat}(hP:PkIn w a cap bs)(hl:bs.length=n)(h1:∀b o,a=some ⟨b,o,none⟩->p<n->a'=some ⟨b,o+p,none⟩)(h2:a'=none->k=0):PkIn w a' k (bs.drop p):=by
 refine⟨?_,h2⟩
 by_cases h0:p<n
 . obtain⟨g,o,e,hg,hB⟩:=Cf hP.1 (by omega);refine .inr ⟨g,o+p,h1 g o e h0,hg,fun j hj=> ?_⟩;rw[List.length_drop]at hj;have e2:(bs.drop p).getD j 0=bs.getD (p+j) 0:=by simp only[List.getD];rw[List.getElem?_drop]
   rw[e2,Nat.add_assoc];exact hB (p+j) (by omega)
 . exact .inl (List.drop_of_length_le (by omega))
theorem Om {w:World}{cap:Nat}{a:Option Addr}{bs:List Nat}(hP:PkIn w a cap bs)(q:Nat):PkIn w a cap (bs.take q):=⟨hP.1.cut q,hP.2⟩
theorem Za9 {bs:List Nat}(h:∀x∈bs,x<256)(q:Nat):∀x∈bs.drop q,x<256:=fun x hx=>h x (List.mem_of_mem_drop hx)
theorem Jj {bs:List Nat}(h:∀x∈bs,x<256)(q:Nat):∀x∈bs.take q,x<256:=fun x hx=>h x (List.mem_of_mem_take hx)
theorem Ml (a:Option Addr)(n cap:Nat)(bs:List Nat)(w:World)(hl:bs.length=n)(hc:n<=cap)(hP:PkIn w a cap bs)(hv:∀x∈bs,x<256)(hm:n<=140737488355328):
 Calls Tryz.prog 42 #[.slice a n cap] w fun e w'=>FaA w a cap bs e w':=by
 by_cases h8:n<8
 . have HF:Hid (FaA w a cap bs (.returned (.tuple #[.slice none 0 0,.bool false])) w):=Ab ⟨Below.refl _ _,.inl ⟨by unfold Pz;rw[if_pos (by omega)],_,_,_,rfl⟩⟩;have h8I:(n:Int)<8:=by omega
   clear hP hv hl;go_enter Tryz.func42,Tryz.ntmps42
   go_wp2;go_ret2;exact Aa HF
 have h8I:¬(n:Int)<8:=by omega
 obtain⟨b,o,rfl,hb,hB⟩:=Cf hP.1 (by omega);obtain⟨b0,b1,b2,b3,b4,b5,b6,b7,r,rfl⟩:=Zk7 (l:=bs) (by omega);obtain⟨a',hsl,ha1,ha2⟩:=Z0a (some ⟨b,o,none⟩) 8 n cap (by omega) hc hP.2;replace hsl:∀W:World,(Instr.slice 22 (.slice (some ⟨b,o,none⟩) n cap) (some (.int .i64 8)) none none).run Tryz.prog W=.ok (.slice a' (n-8) (cap-8)) W:=hsl;have hin:=fun W=>Z5b b0 b1 b2 b3 b4 b5 b6 b7 W (hv _ (by simp)) (hv _ (by simp)) (hv _ (by simp)) (hv _ (by simp)) (hv _ (by simp)) (hv _ (by simp)) (hv _ (by simp)) (hv _ (by simp))
 obtain⟨A,hA⟩:∃A,Ck b0 b1 b2 b3 4=A:=⟨_,rfl⟩
 obtain⟨C,hC⟩:∃C,Ck b4 b5 b6 b7 4=C:=⟨_,rfl⟩
 rw[hA,hC]at hin;unfold hdV at hin;have HIN:=Ab hin
 have HR:w.rangeAt b o (u8s [b0,b1,b2,b3,b4,b5,b6,b7]):=fun j v hj=>by
  obtain⟨hj2,rfl⟩:=Z03 hj;have hj8:j<8:=hj2
  have e:([b0,b1,b2,b3,b4,b5,b6,b7]:List Nat).getD j 0=(b0::b1::b2::b3::b4::b5::b6::b7::r).getD j 0:=by
   rcases(by omega:j=0\/j=1\/j=2\/j=3\/j=4\/j=5\/j=6\/j=7)with rfl|rfl|rfl|rfl|rfl|rfl|rfl|rfl<;>rfl
  rw[e];exact hB j (by simp;omega)
 have HP:=Ab hP;have HV:=Ab hv;have HL:=Ab hl;have HA:=Ab hA;have HC:=Ab hC;have HA1:=Ab ha1;have HA2:=Ab ha2;have HBB:=Ab hB;have har:∀(a:Option Addr) (c:Nat) (W:World),(Instr.arrayAt 107 (.slice a n c)).run Tryz.prog W=.ok (.pointer a) W:=fun a c W=>run_arrayAt _ _ _ _ _ _ _ Tryz.underlying107 (by omega)
 have hu8:=Tryz.underlying107;have hi8:(Tryz.prog.info? 107).map (·.size)=some (u8s [b0,b1,b2,b3,b4,b5,b6,b7]).length:=by rw[Zgr];simp
 clear hP hv hl hA hC ha1 ha2 hin hB;go_enter Tryz.func42,Tryz.ntmps42
 go_upto_region 3 with fail
 go_cut [4,5] (fun v4 v5 wc=>∃X,v4=.pointer (some ⟨X,0,none⟩)/\v5=.slice a' (n-8) (cap-8)/\Hid (wc.heap[X]? =some (hdC A C)/\Below w.heap.size w wc))
 case first=>
  refine wp_region_held_drew (S:=fun w'=>w'.rangeAt b o (u8s [b0,b1,b2,b3,b4,b5,b6,b7])/\Below w.heap.size w w') (by kernel_rfl) ⟨HR,Ae (Below.refl _ _) 1⟩ (fun hHeld=> ?_);refine wpAnyH_take (i:=0) (v:=.slice (some ⟨b,o,none⟩) n cap) rfl (by kernel_rfl) (by kernel_rfl) (by kernel_rfl) (fun _ _ _ h=>h) (Or.inl ⟨by rfl,fun W hS=>by go_simp⟩) hHeld ?_;simp only[Act.put,List.setIfInBounds_toArray,List.set_cons_zero,List.set_cons_succ];refine wpAnyH_take (i:=1) (v:=.pointer (some ⟨b,o,none⟩)) rfl (by kernel_rfl) (by kernel_rfl) (by kernel_rfl) (fun _ _ _ h=>h) (Or.inl ⟨by rfl,fun W hS=>by go_simp⟩) hHeld ?_;simp only[Act.put,List.setIfInBounds_toArray,List.set_cons_zero,List.set_cons_succ];refine wpAnyH_take (i:=2) (v:=.agg (u8s [b0,b1,b2,b3,b4,b5,b6,b7]).toArray) rfl (by kernel_rfl) (by kernel_rfl) (by kernel_rfl) (fun _ _ _ h=>h) (yieldsIf_load_mid (by rfl) _ _ rfl _ _ rfl _ _ (fun _ h=>h.1) hu8 rfl hi8) hHeld ?_;simp only[Act.put,List.setIfInBounds_toArray,List.set_cons_zero,List.set_cons_succ];refine wpAnyH_take (i:=4) (v:=.slice (some ⟨b,o,none⟩) n cap) rfl (by kernel_rfl) (by kernel_rfl) (by kernel_rfl) (fun _ _ _ h=>h) (Or.inl ⟨by rfl,fun W hS=>by go_simp⟩) hHeld ?_;simp only[Act.put,List.setIfInBounds_toArray,List.set_cons_zero,List.set_cons_succ];refine wpAnyH_take (i:=5) (v:=.slice a' (n-8) (cap-8)) rfl (by kernel_rfl) (by kernel_rfl) (by kernel_rfl) (fun _ _ _ h=>h) (Or.inl ⟨by rfl,fun W hS=>by go_simp⟩) hHeld ?_;simp only[Act.put,List.setIfInBounds_toArray,List.set_cons_zero,List.set_cons_succ];have hrr:∀W,Below w.heap.size w W->W.rangeAt b o (u8s [b0,b1,b2,b3,b4,b5,b6,b7])/\Below w.heap.size w W:=fun W hW=>⟨fun j v hj=>(hW.cell (p:=⟨b,o+j,none⟩) hb).trans (HR j v hj),hW⟩
  refine wpAnyH_ready (rs:= [3,6]) (by kernel_rfl) (by simp) (AllReadyH.cons rfl (fun K hK=> ?_) (AllReadyH.cons rfl (fun K hK=> ?_) AllReadyH.nil))
  . go_simp
    refine(Aa HIN _).mono ?_;rintro e w4 ⟨rfl,hB4⟩;have hBw:Below w.heap.size w w4:=hHeld.2.trans (hB4.mono hHeld.2.size);dsimp only;refine hK.out _ _ (hrr _ hBw) (fun hHeld4=> ?_);clear hK K hHeld;refine wpAnyH_ready (rs:= [6]) (by kernel_rfl) (by simp) (AllReadyH.cons rfl (fun K hK=> ?_) AllReadyH.nil);go_simp
    have hX5:(w4.alloc (.cells #[.int .u32 0,.int .u32 0] 105)).heap[w4.heap.size]? =some (.cells #[.int .u32 0,.int .u32 0] 105 (0,0)):=heap_alloc_new _ _;have hB5:Below w.heap.size w (w4.alloc (.cells #[.int .u32 0,.int .u32 0] 105)):=hBw.alloc hBw.size _;refine hK.out _ _ (hrr _ hB5) (fun hHeld5=> ?_);clear hK K hHeld4;have hX:=hBw.size;generalize hW6:w4.alloc (.cells #[.int .u32 0,.int .u32 0] 105)=W6 at*;generalize hXX:w4.heap.size=X at*;have hX6:=hX5;have hB6:=hB5;have hHeld6:=hHeld5;clear hX5 hB5 hHeld5 hB4 hBw hW6;refine wpAnyH_ready (rs:= [7]) (by kernel_rfl) (by simp) (AllReadyH.cons rfl (fun K hK=> ?_) AllReadyH.nil);have c0:=Ac (i:=0) hX6;have c1:=Ac (i:=1) hX6;have f0:=frozen_of_row W6 X 0 _ _ hX6;have f1:=frozen_of_row W6 X 1 _ _ hX6
    have hX7:((W6.setCell ⟨X,0,none⟩ (.int .u32 (A:Int))).setCell ⟨X,1,none⟩ (.int .u32 (C:Int))).heap[X]? =some (hdC A C):=by
     rw[heap_setCell_same _ X 1 _ _ _ (heap_setCell_same W6 X 0 _ _ _ hX6)];rfl
    have hB7:Below w.heap.size w ((W6.setCell ⟨X,0,none⟩ (.int .u32 (A:Int))).setCell ⟨X,1,none⟩ (.int .u32 (C:Int))):=by
     have h2:=hB6.grown (Ad W6 X 0 (.int .u32 (A:Int))) hB6.size (fun g e=>by cases e;exact hX);exact h2.grown (Ad _ X 1 (.int .u32 (C:Int))) h2.size (fun g e=>by cases e;exact hX)
    have HX7:=Ab hX7;have HB7:=Ab hB7;clear hX7 hB7 hX6 hB6;go_simp
    refine hK.out _ _ (hrr _ (Aa HB7)) (fun hHeld7=> ?_);clear hK K hHeld6 c0 c1 f0 f1;refine wpAnyH_ready (rs:= [8]) (by kernel_rfl) (by simp) (AllReadyH.cons rfl (fun K hK=> ?_) AllReadyH.nil);go_simp
    refine hK.out _ _ hHeld7 (fun hHeld8=> ?_);clear hK K hHeld7;refine wpAnyH_done (by kernel_rfl) ?_ _;go_wp2_with fail
    go_meet
    exact⟨X,rfl,rfl,Ab ⟨Aa HX7,Aa HB7⟩⟩
  . go_simp
    have hX5:(w.drew.alloc (.cells #[.int .u32 0,.int .u32 0] 105)).heap[w.heap.size]? =some (.cells #[.int .u32 0,.int .u32 0] 105 (0,0)):=heap_alloc_new w.drew _;have hB5:Below w.heap.size w (w.drew.alloc (.cells #[.int .u32 0,.int .u32 0] 105)):=hHeld.2.alloc (Nat.le_refl _) _;refine hK.out _ _ (hrr _ hB5) (fun hHeld5=> ?_);clear hK K hHeld;refine wpAnyH_ready (rs:= [3]) (by kernel_rfl) (by simp) (AllReadyH.cons rfl (fun K hK=> ?_) AllReadyH.nil);go_simp
    refine(Aa HIN _).mono ?_;rintro e W6 ⟨rfl,hB4⟩;have hB6:Below w.heap.size w W6:=hB5.trans (hB4.mono hB5.size);have hX6:=(hB4.block w.heap.size (Array.getElem?_eq_some_iff.1 hX5).1).trans hX5;dsimp only;refine hK.out _ _ (hrr _ hB6) (fun hHeld6=> ?_);clear hK K hHeld5 hX5 hB5 hB4;have hX:w.heap.size<=w.heap.size:=Nat.le_refl _;refine wpAnyH_ready (rs:= [7]) (by kernel_rfl) (by simp) (AllReadyH.cons rfl (fun K hK=> ?_) AllReadyH.nil);have c0:=Ac (i:=0) hX6;have c1:=Ac (i:=1) hX6;have f0:=frozen_of_row W6 w.heap.size 0 _ _ hX6;have f1:=frozen_of_row W6 w.heap.size 1 _ _ hX6
    have hX7:((W6.setCell ⟨w.heap.size,0,none⟩ (.int .u32 (A:Int))).setCell ⟨w.heap.size,1,none⟩ (.int .u32 (C:Int))).heap[w.heap.size]? =some (hdC A C):=by
     rw[heap_setCell_same _ w.heap.size 1 _ _ _ (heap_setCell_same W6 w.heap.size 0 _ _ _ hX6)];rfl
    have hB7:Below w.heap.size w ((W6.setCell ⟨w.heap.size,0,none⟩ (.int .u32 (A:Int))).setCell ⟨w.heap.size,1,none⟩ (.int .u32 (C:Int))):=by
     have h2:=hB6.grown (Ad W6 w.heap.size 0 (.int .u32 (A:Int))) hB6.size (fun g e=>by cases e;exact hX);exact h2.grown (Ad _ w.heap.size 1 (.int .u32 (C:Int))) h2.size (fun g e=>by cases e;exact hX)
    have HX7:=Ab hX7;have HB7:=Ab hB7;clear hX7 hB7 hX6 hB6;go_simp
    refine hK.out _ _ (hrr _ (Aa HB7)) (fun hHeld7=> ?_);clear hK K hHeld6 c0 c1 f0 f1;refine wpAnyH_ready (rs:= [8]) (by kernel_rfl) (by simp) (AllReadyH.cons rfl (fun K hK=> ?_) AllReadyH.nil);go_simp
    refine hK.out _ _ hHeld7 (fun hHeld8=> ?_);clear hK K hHeld7;refine wpAnyH_done (by kernel_rfl) ?_ _;go_wp2_with fail
    go_meet
    exact⟨w.heap.size,rfl,rfl,Ab ⟨Aa HX7,Aa HB7⟩⟩
 case rest=>
  obtain⟨X,rfl,rfl,hX⟩:=hcut;obtain⟨hX1,hBc⟩:=Aa hX;have HX1:=Ab hX1;have HBc:=Ab hBc;have c0:=Ac (i:=0) hX1;have hp0:Ah ((b0::b1::b2::b3::b4::b5::b6::b7::r).take 4)=A:=by rw[<-Aa HA,Z8x];rfl
  have hp1:Ah (((b0::b1::b2::b3::b4::b5::b6::b7::r).drop 4).take 4)=C:=by rw[<-Aa HC,Z8x];rfl
  have hA32:A<4294967296:=by
   rw[<-hp0];have:=Jv ((b0::b1::b2::b3::b4::b5::b6::b7::r).take 4) (Jj (Aa HV) 4)
   simpa using this
  have HP0:=Ab hp0;have HP1:=Ab hp1;have hwA:IntKind.i64.wrap (A:Int)=(A:Int):=by simp[IntKind.wrap,IntKind.signed,IntKind.bits];omega
  clear hX hX1 hBc hp0 hp1 HR HIN har hsl
  by_cases h1:12000<A
  . have HF:Hid (FaA w (some ⟨b,o,none⟩) cap (b0::b1::b2::b3::b4::b5::b6::b7::r) (.returned (.tuple #[.slice none 0 0,.bool false])) wc):=Ab ⟨Aa HBc,.inl ⟨by unfold Pz;rw[if_neg (by rw[Aa HL];exact h8),Aa HP0,if_pos (.inl h1)],_,_,_,rfl⟩⟩;have h1I:(12000:Int)<(A:Int):=by omega
    clear h1;go_wp2;go_ret2;exact Aa HF
  have h1I:¬(12000:Int)<(A:Int):=by omega
  obtain⟨m,hm8⟩:∃m,n-8=m:=⟨_,rfl⟩
  obtain⟨k,hk8⟩:∃k,cap-8=k:=⟨_,rfl⟩
  rw[hm8,hk8]
  by_cases h2:m<A
  . have HF:Hid (FaA w (some ⟨b,o,none⟩) cap (b0::b1::b2::b3::b4::b5::b6::b7::r) (.returned (.tuple #[.slice none 0 0,.bool false])) wc):=Ab ⟨Aa HBc,.inl ⟨by unfold Pz;rw[if_neg (by rw[Aa HL];exact h8),Aa HP0,Aa HL,if_pos (.inr (by omega))],_,_,_,rfl⟩⟩;have h2I:(m:Int)<(A:Int):=by omega
    clear h1 h2 hm8 hk8;go_wp2;go_ret2;exact Aa HF
  have h2I:¬(m:Int)<(A:Int):=by omega
  have hrl:r.length=m:=by have:=Aa HL;simp at this;omega
  obtain⟨ar,har⟩:∃ar,r.take A=ar:=⟨_,rfl⟩
  have hal:ar.length=A:=by rw[<-har,List.length_take];omega
  have hav:∀x∈ar,x<256:=fun x hx=>Aa HV x (by rw[<-har]at hx;have:=List.mem_of_mem_take hx;simp[this])
  have hpk:∀W,PkIn W (some ⟨b,o,none⟩) cap (b0::b1::b2::b3::b4::b5::b6::b7::r)->PkIn W a' k ar:=fun W hW=>by
   have:=Om (Z89 (p:=8) (k:=k) hW (Aa HL) (Aa HA1) (fun e=>by rw[<-hk8];exact Aa HA2 e)) A
   rw[<-har];exact this
  have hto:=Zi8 a' A m k (by omega) (by omega);have hho:∀W,Below w.heap.size w W->Calls Tryz.prog 58 #[.slice a' A k] W fun e w'=>e=.returned (hdV A (crcN 0 ar))/\Below W.heap.size W w':=fun W hW=>Sf a' A k ar W hal (by omega) (hpk W ((Aa HP).below hW)).1 (Dm hav)
  have hrec:Pz (b0::b1::b2::b3::b4::b5::b6::b7::r)=if crcN 0 ar=C then some ar else none:=by
   have e8:(b0::b1::b2::b3::b4::b5::b6::b7::r).drop 8=r:=rfl;unfold Pz;rw[if_neg (by rw[Aa HL];exact h8),Aa HP0,Aa HP1,Aa HL,if_neg (by omega),e8,har]
  obtain⟨D,hD⟩:∃D,crcN 0 ar=D:=⟨_,rfl⟩
  rw[hD]at hho hrec;have HPK:=Ab hpk;have HHO:=Ab hho;have HREC:=Ab hrec;have HAL:=Ab hal;have hAk:A<=k:=by omega
  have x0:∀W:World,Below wc.heap.size wc W->W.cell? ⟨X,0,none⟩=some (.int .u32 (A:Int)):=fun W hW=>(hW.cell (p:=⟨X,0,none⟩) (Array.getElem?_eq_some_iff.1 (Aa HX1)).1).trans (Ac (i:=0) (Aa HX1))
  have x1:∀W:World,Below wc.heap.size wc W->W.cell? ⟨X,1,none⟩=some (.int .u32 (C:Int)):=fun W hW=>(hW.cell (p:=⟨X,1,none⟩) (Array.getElem?_eq_some_iff.1 (Aa HX1)).1).trans (Ac (i:=1) (Aa HX1))
  unfold hdV at HHO;have heq:=eqH A D C;clear hpk hho hrec hal hav har hrl hm8 hk8 hD h1 h2 HP HV HA1 HA2 HBB;go_upto_region 7 with fail
  go_cut [2,3] (fun v2 v3 wx=>v2=.slice a' A k/\v3=.bool (decide (D=C))/\Hid (Below w.heap.size w wx))
  case first=>
   go_region_held3 (fun W=>Below wc.heap.size wc W) (first|with_reducible exact Cp (Below.refl _ _)|with_reducible exact hb6) ((go_at_call 58;refine(Aa HHO _ (by first|with_reducible exact(Aa HBc).trans ((Cp (Below.refl _ _)).mono (Aa HBc).size))).mono ?_;rintro e w5 ⟨rfl,hb5⟩;have hb6:Below wc.heap.size wc w5:=(Cp (Below.refl _ _)).trans hb5))
   all_goals go_wp2_with fail
   all_goals go_meet
   all_goals exact⟨rfl,rfl,Ab ((Aa HBc).trans (hb6.mono (Aa HBc).size))⟩
  case rest=>
   obtain⟨rfl,rfl,hBd⟩:=hcut
   by_cases hDC:D=C
   . have HF:Hid (FaA w (some ⟨b,o,none⟩) cap (b0::b1::b2::b3::b4::b5::b6::b7::r) (.returned (.tuple #[.slice a' A k,.bool true])) wc):=Ab ⟨Aa hBd,.inr ⟨ar,a',k,by rw[Aa HREC,if_pos hDC],by rw[Aa HAL],by rw[Aa HAL];exact hAk,Aa HPK⟩⟩;rw[decide_eq_true hDC];clear hDC hBd;go_wp2;go_ret2;exact Aa HF
   . have HF:Hid (FaA w (some ⟨b,o,none⟩) cap (b0::b1::b2::b3::b4::b5::b6::b7::r) (.returned (.tuple #[.slice a' A k,.bool false])) wc):=Ab ⟨Aa hBd,.inl ⟨by rw[Aa HREC,if_neg hDC],_,_,_,rfl⟩⟩;rw[decide_eq_false hDC];clear hDC hBd;go_wp2;go_ret2;exact Aa HF
end Go.Proofs.YtcjbgpacnkilnaiGreatDoor
namespace Go.Proofs.YtcjbgpacnkilnaiGreatDoor
open Go.RowKit
set_option linter.unusedVariables false
set_option maxRecDepth 100000
theorem Rw:∀(l:List Nat) (y:Nat),Ah (l++ [y])=Ah l+256^l.length*y
 | [],y=>by simp[Ah]
 |x::r,y=>by
  rw[List.cons_append,Ah,Rw r y,Ah,List.length_cons,Nat.pow_succ,Nat.mul_add,Nat.add_assoc,<-Nat.mul_assoc,Nat.mul_comm 256 (256^r.length)]
theorem Zfp (y k:Nat)(hk:k<=3)(hy:y<256)(W:World):(Op.shift .shl .u32 (y:Int) .i64 (IntKind.i64.wrap (8*(k:Int)))).run Tryz.prog W=.ok (.int .u32 ((256^k*y:Nat):Int)) W:=by
 have e:IntKind.i64.wrap (8*(k:Int))=((8*k:Nat):Int):=by
  simp[IntKind.wrap,IntKind.bits,IntKind.signed]
  omega
 rw[e];have h256:(256:Nat)^k=2^(8*k):=by rw[Nat.pow_mul]
 have hp:256^k<=256^3:=Nat.pow_le_pow_right (by decide) hk;have hm:256^k*y<=256^3*255:=Nat.mul_le_mul hp (by omega)
 have h2:IntKind.u32.wrap ((y:Int)*2^min (8*k) 32)=((256^k*y:Nat):Int):=by
  rw[Nat.min_eq_left (by omega)];have e1:(y:Int)*2^(8*k)=((256^k*y:Nat):Int):=by rw[h256];push_cast;rw[Int.mul_comm]
  rw[e1,IntKind.wrap_u32'];have:(256:Nat)^3=16777216:=by decide
  omega
 unfold Op.shift;rw[if_neg (by omega),Int.toNat_natCast];show Result.ok (Value.int .u32 (IntKind.u32.wrap ((y:Int)*2^min (8*k) 32))) W=_
 rw[h2]
theorem Zii (m k y:Nat)(hm:m<256^k)(hk:k<=3)(hy:y<256):bits .or .u32 (m:Int) ((256^k*y:Nat):Int)=((m+256^k*y:Nat):Int):=by
 have hp:256^k<=256^3:=Nat.pow_le_pow_right (by decide) hk;have h3:(256:Nat)^3=16777216:=by decide
 have hmy:256^k*y<=256^3*255:=Nat.mul_le_mul hp (by omega);rw[u32_or_nat _ _ (by omega) (by omega)];have h256:(256:Nat)^k=2^(8*k):=by rw[Nat.pow_mul]
 rw[h256]at hm ⊢;have:=Nat.two_pow_add_eq_or_of_lt (i:=8*k) (b:=m) hm y
 rw[Nat.or_comm,<-this,Nat.add_comm]
theorem Dy (b p size n cap:Nat)(a:Option Addr)(bs:List Nat)(w:World)(hI:w.heap[b]? =some (.cells #[.slice a n cap,.int .i64 (p:Int)] 72 (0,0)))(hp:p<=n)(hR:ZRow w b a n cap bs)(hm:size<=4):
 Calls Tryz.prog 48 #[.pointer (some ⟨b,0,none⟩),.int .u32 (size:Int)] w fun e w'=>(n<p+size/\e=Zf4/\ZT w b (.slice a n cap) p w')\/ (p+size<=n/\e=.returned (.int .u32 (Ah ((bs.drop p).take size):Nat))/\ZT w b (.slice a n cap) (p+size) w'):=by
 have HC:=Ab (De b p size n cap a bs w hI hp hR (by omega));have hvl:∀x∈(bs.drop p).take size,x<256:=fun x hx=>hR.val x (List.mem_of_mem_drop (List.mem_of_mem_take hx))
 have hl:p+size<=n->((bs.drop p).take size).length=size:=fun h=>by rw[List.length_take,List.length_drop,hR.len];omega
 obtain⟨xs,hxs⟩:∃xs,(bs.drop p).take size=xs:=⟨_,rfl⟩
 rw[hxs]at HC hvl hl ⊢;have HV:=Ab hvl;have HL:=Ab hl;have HR:=Ab hR;clear hI hR hvl hl hxs hp;go_enter Tryz.func48,Tryz.ntmps48
 go_wp2_with fail
 refine(Aa HC).mono ?_;rintro e w1 (⟨h1,rfl,hT⟩|⟨h1,⟨a',c',rfl,h2,hP⟩,hT⟩)
 . have HT:=Ab hT;clear hT;go_wp2;exact⟨rfl,.inl ⟨h1,rfl,Aa HT⟩⟩
 . have HT:=Ab hT;have HP:=Ab (hP w1 ((Aa HR).after hT));have hxl:=Aa HL h1;have HXL:=Ab hxl;clear hT hP hxl;go_wp2;go_loopw [5,6,7,12] (fun v5 _ _ i wr=>∃k:Nat,k<=size/\i=.int .i64 (k:Int)/\v5=.int .u32 (Ah (xs.take k):Nat)/\Hid (wr=w1)) (fun _ _ _ i _=>size-(intOf i).toNat)
   case atStart=>exact⟨0,Nat.zero_le _,rfl,by simp[Ah],Ab rfl⟩
   case round=>
    obtain⟨k,hk,rfl,rfl,hw⟩:=hrel;have hwr:wr=w1:=Aa hw;subst hwr;clear hw
    by_cases hlt:k<size
    . obtain⟨g,o,rfl,hg,hB⟩:=Cf (Aa HP).1 (by rw[Aa HXL];omega);have hc:=hB k (by rw[Aa HXL];exact hlt);have hy:=Dm (Aa HV) k;obtain⟨y,hyy⟩:∃y,xs.getD k 0=y:=⟨_,rfl⟩
      rw[hyy]at hc hy;have hml:=Jv (xs.take k) (fun x hx=>Aa HV x (List.mem_of_mem_take hx));have hkl:(xs.take k).length=k:=by rw[List.length_take,Aa HXL];omega
      rw[hkl]at hml
      have hnx:Ah (xs.take (k+1))=Ah (xs.take k)+256^k*y:=by
       have hk3:k<xs.length:=by rw[Aa HXL];exact hlt
       have e:xs.take (k+1)=xs.take k++ [y]:=by
        rw[List.take_succ_eq_append_getElem hk3,<-hyy];simp[List.getD,hk3]
       rw[e,Rw,hkl]
      obtain⟨m,hm'⟩:∃m,Ah (xs.take k)=m:=⟨_,rfl⟩
      rw[hm']at hml hnx ⊢;have hsh:=Zfp y k (by omega) hy;have hor:=Zii m k y hml (by omega) hy;obtain⟨z,hz⟩:∃z,256^k*y=z:=⟨_,rfl⟩
      rw[hz]at hsh hor hnx
      have hor2:bits .or .u32 (m:Int) ((y:Int)*2^(8*k)%4294967296)=((m+z:Nat):Int):=by
       have e1:(y:Int)*2^(8*k)=(z:Int):=by rw[<-hz,show (256:Nat)^k=2^(8*k) by rw[Nat.pow_mul]];push_cast;rw[Int.mul_comm]
       have hp:256^k<=256^3:=Nat.pow_le_pow_right (by decide) (by omega);have h3:(256:Nat)^3=16777216:=by decide
       have hmy:256^k*y<=256^3*255:=Nat.mul_le_mul hp (by omega);rw[e1,<-hor]
       congr 1
       omega
      have HNX:=Ab (And.intro hnx hor2);clear hor2 hor hsh;have hwy:IntKind.u32.wrap (y:Int)=(y:Int):=by rw[IntKind.wrap_u32'];omega
      clear hB hyy hml hkl hnx hm' hz;go_wp2;go_roundw
      case rel=>exact⟨k+1,by omega,by go_num,by rw[(Aa HNX).1,(Aa HNX).2],by first|exact Ab rfl|exact Ab trivial⟩
      case measure=>simp[intOf];omega
    . obtain rfl:size=k:=by omega
      have e:xs.take size=xs:=List.take_of_length_le (by rw[Aa HXL];exact Nat.le_refl _);rw[e];obtain⟨m,hm'⟩:∃m,Ah xs=m:=⟨_,rfl⟩
      rw[hm'];have HM:=Ab hm';clear hm' e;go_wp2;go_ret;exact .inr ⟨h1,by rw[Aa HM];rfl,Aa HT⟩
end Go.Proofs.YtcjbgpacnkilnaiGreatDoor
