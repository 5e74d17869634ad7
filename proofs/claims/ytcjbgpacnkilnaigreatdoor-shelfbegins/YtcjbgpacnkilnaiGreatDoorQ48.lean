import Derived.Test.YtcjbgpacnkilnaiGreatDoorQ47
import Derived.Test.YtcjbgpacnkilnaiGreatDoorQ20
import Derived.ChangeKeysEq
import Derived.Deep.RegionHeld3
import Derived.Test.YtcjbgpacnkilnaiGreatDoorQ45
import Derived.Test.YtcjbgpacnkilnaiGreatDoorQ43
import Derived.Test.YtcjbgpacnkilnaiGreatDoorQ0
import Derived.Deep.DeepAppendRoom
import Derived.OwnWalk
set_option maxHeartbeats 4000000
namespace Go.Proofs.YtcjbgpacnkilnaiGreatDoor
open Go.RowKit
set_option linter.unusedVariables false
set_option linter.unusedSimpArgs false
set_option maxRecDepth 100000
theorem Zig (a b:Int)(W:World):(Go.part 54 #[.int .u32 a,.int .u32 b] 0).run Tryz.prog W=.ok (.int .u32 a) W:=by simp[Go.part,isAgg,run_underlying Tryz.underlying54]
theorem Zif (a b:Int)(W:World):(Go.part 54 #[.int .u32 a,.int .u32 b] 1).run Tryz.prog W=.ok (.int .u32 b) W:=by simp[Go.part,isAgg,run_underlying Tryz.underlying54]
theorem eqH (a d c:Nat)(W:World):(Op.equalIn 10000 105 (.agg #[.int .u32 (a:Int),.int .u32 (d:Int)]) (.agg #[.int .u32 (a:Int),.int .u32 (c:Int)])).run Tryz.prog W=.ok (decide (d=c)) W:=by
 have hi:∃i,Tryz.prog.info? 54=some i:=Option.isSome_iff_exists.1 (by kernel_rfl);obtain⟨i,hi⟩:=hi;have hc:Tryz.prog.cellsOf 54=1:=by kernel_rfl
 rw[run_equalIn_array W 9999 _ _ Tryz.underlying105 hi,hc];have e2:List.range 2= [0,1]:=rfl;rw[e2];have q0:(Op.equalIn 9999 54 (.int .u32 (a:Int)) (.int .u32 (a:Int))).run Tryz.prog W=.ok ((a:Int)==(a:Int)) W:=run_equalIn_int (P:=Tryz.prog) W 9998 54 .u32 .u32 (a:Int) (a:Int) Tryz.underlying54;have q1:(Op.equalIn 9999 54 (.int .u32 (d:Int)) (.int .u32 (c:Int))).run Tryz.prog W=.ok ((d:Int)==(c:Int)) W:=run_equalIn_int (P:=Tryz.prog) W 9998 54 .u32 .u32 (d:Int) (c:Int) Tryz.underlying54
 by_cases h:d=c
 . subst h;simp[Op.eqItems,Sem.run_bind,Zig,Zif,q0,q1]
 . have h2:((d:Int)==(c:Int))=false:=by rw[beq_eq_false_iff_ne];omega
   rw[h2]at q1;simp[Op.eqItems,Sem.run_bind,Zig,Zif,q0,q1,h]
def FaA (w:World)(a:Option Addr)(cap:Nat)(bs:List Nat)(e:Ending)(w':World):Prop:=
 Below w.heap.size w w'/\((Pz bs=none/\∃x y z,e=.returned (.tuple #[.slice x y z,.bool false]))\/∃ar x z,Pz bs=some ar/\e=.returned (.tuple #[.slice x ar.length z,.bool true])/\ar.length<=z/\∀W,PkIn W a cap bs->PkIn W x z ar)
theorem Zk7 {l:List Nat}(h:8<=l.length):∃b0 b1 b2 b3 b4 b5 b6 b7 r,l=b0::b1::b2::b3::b4::b5::b6::b7::r:=by
 match l,h with
 |b0::b1::b2::b3::b4::b5::b6::b7::r,_=>exact⟨b0,b1,b2,b3,b4,b5,b6,b7,r,rfl⟩
theorem Z8x (b0 b1 b2 b3:Nat):Ck b0 b1 b2 b3 4=Ah [b0,b1,b2,b3]:=by
 simp[Ck,Ah]
 omega
theorem Z89 {w:World}{p n cap k:Nat}{a a':Option Addr}{bs:List Nat}(hP:PkIn w a cap bs)(hl:bs.length=n)(h1:∀b o,a=some ⟨b,o,none⟩->p<n->a'=some ⟨b,o+p,none⟩)(h2:a'=none->k=0):PkIn w a' k (bs.drop p):=by
 refine⟨?_,h2⟩
 by_cases h0:p<n
 . obtain⟨g,o,e,hg,hB⟩:=Cf hP.1 (by omega);refine .inr ⟨g,o+p,h1 g o e h0,hg,fun j hj=> ?_⟩;rw[List.length_drop]at hj;have e2:(bs.drop p).getD j 0=bs.getD (p+j) 0:=by simp only[List.getD];rw[List.getElem?_drop]
   rw[e2,Nat.add_assoc];exact hB (p+j) (by omega)
 . exact .inl (List.drop_of_length_le (by omega))
theorem Om {w:World}{cap:Nat}{a:Option Addr}{bs:List Nat}(hP:PkIn w a cap bs)(q:Nat):PkIn w a cap (bs.take q):=⟨hP.1.cut q,hP.2⟩
theorem Za9 {bs:List Nat}(h:∀x∈bs,x<256)(q:Nat):∀x∈bs.drop q,x<256:=fun x hx=>h x (List.mem_of_mem_drop hx)
theorem Jj {bs:List Nat}(h:∀x∈bs,x<256)(q:Nat):∀x∈bs.take q,x<256:=fun x hx=>h x (List.mem_of_mem_take hx)
theorem Ml (a:Option Addr)(n cap:Nat)(bs:List Nat)(w:World)(hl:bs.length=n)(hc:n<=cap)(hP:PkIn w a cap bs)(hv:∀x∈bs,x<256)(hm:n<=140737488355328):
 Calls Tryz.prog 42 #[.slice a n cap] w fun e w'=>FaA w a cap bs e w':=by
 by_cases h8:n<8
 . have HF:Hid (FaA w a cap bs (.returned (.tuple #[.slice none 0 0,.bool false])) w):=Ab ⟨Below.refl _ _,.inl ⟨by unfold Pz;rw[if_pos (by omega)],_,_,_,rfl⟩⟩;have h8I:(n:Int)<8:=by omega
   clear hP hv hl;go_enter Tryz.func42,Tryz.ntmps42
   go_wp2;go_ret2;exact Aa HF
 have h8I:¬(n:Int)<8:=by omega
 obtain⟨b,o,rfl,hb,hB⟩:=Cf hP.1 (by omega);obtain⟨b0,b1,b2,b3,b4,b5,b6,b7,r,rfl⟩:=Zk7 (l:=bs) (by omega);obtain⟨a',hsl,ha1,ha2⟩:=Z0a (some ⟨b,o,none⟩) 8 n cap (by omega) hc hP.2;replace hsl:∀W:World,(Instr.slice 22 (.slice (some ⟨b,o,none⟩) n cap) (some (.int .i64 8)) none none).run Tryz.prog W=.ok (.slice a' (n-8) (cap-8)) W:=hsl;have hin:=fun W=>Z5b b0 b1 b2 b3 b4 b5 b6 b7 W (hv _ (by simp)) (hv _ (by simp)) (hv _ (by simp)) (hv _ (by simp)) (hv _ (by simp)) (hv _ (by simp)) (hv _ (by simp)) (hv _ (by simp))
 obtain⟨A,hA⟩:∃A,Ck b0 b1 b2 b3 4=A:=⟨_,rfl⟩
 obtain⟨C,hC⟩:∃C,Ck b4 b5 b6 b7 4=C:=⟨_,rfl⟩
 rw[hA,hC]at hin;unfold hdV at hin;have HIN:=Ab hin
 have HR:w.rangeAt b o (u8s [b0,b1,b2,b3,b4,b5,b6,b7]):=fun j v hj=>by
  obtain⟨hj2,rfl⟩:=Z03 hj;have hj8:j<8:=hj2
  have e:([b0,b1,b2,b3,b4,b5,b6,b7]:List Nat).getD j 0=(b0::b1::b2::b3::b4::b5::b6::b7::r).getD j 0:=by
   rcases(by omega:j=0\/j=1\/j=2\/j=3\/j=4\/j=5\/j=6\/j=7)with rfl|rfl|rfl|rfl|rfl|rfl|rfl|rfl<;>rfl
  rw[e];exact hB j (by simp;omega)
 have HP:=Ab hP;have HV:=Ab hv;have HL:=Ab hl;have HA:=Ab hA;have HC:=Ab hC;have HA1:=Ab ha1;have HA2:=Ab ha2;have HBB:=Ab hB;have har:∀(a:Option Addr) (c:Nat) (W:World),(Instr.arrayAt 107 (.slice a n c)).run Tryz.prog W=.ok (.pointer a) W:=fun a c W=>run_arrayAt _ _ _ _ _ _ _ Tryz.underlying107 (by omega)
 have hu8:=Tryz.underlying107;have hi8:(Tryz.prog.info? 107).map (·.size)=some (u8s [b0,b1,b2,b3,b4,b5,b6,b7]).length:=by rw[Zgr];simp
 clear hP hv hl hA hC ha1 ha2 hin hB;go_enter Tryz.func42,Tryz.ntmps42
 go_upto_region 3 with fail
 go_cut [4,5] (fun v4 v5 wc=>∃X,v4=.pointer (some ⟨X,0,none⟩)/\v5=.slice a' (n-8) (cap-8)/\Hid (wc.heap[X]? =some (hdC A C)/\Below w.heap.size w wc))
 case first=>
  refine wp_region_held_drew (S:=fun w'=>w'.rangeAt b o (u8s [b0,b1,b2,b3,b4,b5,b6,b7])/\Below w.heap.size w w') (by kernel_rfl) ⟨HR,Ae (Below.refl _ _) 1⟩ (fun hHeld=> ?_);refine wpAnyH_take (i:=0) (v:=.slice (some ⟨b,o,none⟩) n cap) rfl (by kernel_rfl) (by kernel_rfl) (by kernel_rfl) (fun _ _ _ h=>h) (Or.inl ⟨by rfl,fun W hS=>by go_simp⟩) hHeld ?_;simp only[Act.put,List.setIfInBounds_toArray,List.set_cons_zero,List.set_cons_succ];refine wpAnyH_take (i:=1) (v:=.pointer (some ⟨b,o,none⟩)) rfl (by kernel_rfl) (by kernel_rfl) (by kernel_rfl) (fun _ _ _ h=>h) (Or.inl ⟨by rfl,fun W hS=>by go_simp⟩) hHeld ?_;simp only[Act.put,List.setIfInBounds_toArray,List.set_cons_zero,List.set_cons_succ];refine wpAnyH_take (i:=2) (v:=.agg (u8s [b0,b1,b2,b3,b4,b5,b6,b7]).toArray) rfl (by kernel_rfl) (by kernel_rfl) (by kernel_rfl) (fun _ _ _ h=>h) (yieldsIf_load_mid (by rfl) _ _ rfl _ _ rfl _ _ (fun _ h=>h.1) hu8 rfl hi8) hHeld ?_;simp only[Act.put,List.setIfInBounds_toArray,List.set_cons_zero,List.set_cons_succ];refine wpAnyH_take (i:=4) (v:=.slice (some ⟨b,o,none⟩) n cap) rfl (by kernel_rfl) (by kernel_rfl) (by kernel_rfl) (fun _ _ _ h=>h) (Or.inl ⟨by rfl,fun W hS=>by go_simp⟩) hHeld ?_;simp only[Act.put,List.setIfInBounds_toArray,List.set_cons_zero,List.set_cons_succ];refine wpAnyH_take (i:=5) (v:=.slice a' (n-8) (cap-8)) rfl (by kernel_rfl) (by kernel_rfl) (by kernel_rfl) (fun _ _ _ h=>h) (Or.inl ⟨by rfl,fun W hS=>by go_simp⟩) hHeld ?_;simp only[Act.put,List.setIfInBounds_toArray,List.set_cons_zero,List.set_cons_succ];have hrr:∀W,Below w.heap.size w W->W.rangeAt b o (u8s [b0,b1,b2,b3,b4,b5,b6,b7])/\Below w.heap.size w W:=fun W hW=>⟨fun j v hj=>(hW.cell (p:=⟨b,o+j,none⟩) hb).trans (HR j v hj),hW⟩
  refine wpAnyH_ready (rs:= [3,6]) (by kernel_rfl) (by simp) (AllReadyH.cons rfl (fun K hK=> ?_) (AllReadyH.cons rfl (fun K hK=> ?_) AllReadyH.nil))
  . go_simp
    refine(Aa HIN _).mono ?_;rintro e w4 ⟨rfl,hB4⟩;have hBw:Below w.heap.size w w4:=hHeld.2.trans (hB4.mono hHeld.2.size);dsimp only;refine hK.out _ _ (hrr _ hBw) (fun hHeld4=> ?_);clear hK K hHeld;refine wpAnyH_ready (rs:= [6]) (by kernel_rfl) (by simp) (AllReadyH.cons rfl (fun K hK=> ?_) AllReadyH.nil);go_simp
    have hX5:(w4.alloc (.cells #[.int .u32 0,.int .u32 0] 105)).heap[w4.heap.size]? =some (.cells #[.int .u32 0,.int .u32 0] 105 (0,0)):=heap_alloc_new _ _;have hB5:Below w.heap.size w (w4.alloc (.cells #[.int .u32 0,.int .u32 0] 105)):=hBw.alloc hBw.size _;refine hK.out _ _ (hrr _ hB5) (fun hHeld5=> ?_);clear hK K hHeld4;have hX:=hBw.size;generalize hW6:w4.alloc (.cells #[.int .u32 0,.int .u32 0] 105)=W6 at*;generalize hXX:w4.heap.size=X at*;have hX6:=hX5;have hB6:=hB5;have hHeld6:=hHeld5;clear hX5 hB5 hHeld5 hB4 hBw hW6;refine wpAnyH_ready (rs:= [7]) (by kernel_rfl) (by simp) (AllReadyH.cons rfl (fun K hK=> ?_) AllReadyH.nil);have c0:=Ac (i:=0) hX6;have c1:=Ac (i:=1) hX6;have f0:=frozen_of_row W6 X 0 _ _ hX6;have f1:=frozen_of_row W6 X 1 _ _ hX6
    have hX7:((W6.setCell ⟨X,0,none⟩ (.int .u32 (A:Int))).setCell ⟨X,1,none⟩ (.int .u32 (C:Int))).heap[X]? =some (hdC A C):=by
     rw[heap_setCell_same _ X 1 _ _ _ (heap_setCell_same W6 X 0 _ _ _ hX6)];rfl
    have hB7:Below w.heap.size w ((W6.setCell ⟨X,0,none⟩ (.int .u32 (A:Int))).setCell ⟨X,1,none⟩ (.int .u32 (C:Int))):=by
     have h2:=hB6.grown (Ad W6 X 0 (.int .u32 (A:Int))) hB6.size (fun g e=>by cases e;exact hX);exact h2.grown (Ad _ X 1 (.int .u32 (C:Int))) h2.size (fun g e=>by cases e;exact hX)
    have HX7:=Ab hX7;have HB7:=Ab hB7;clear hX7 hB7 hX6 hB6;go_simp
    refine hK.out _ _ (hrr _ (Aa HB7)) (fun hHeld7=> ?_);clear hK K hHeld6 c0 c1 f0 f1;refine wpAnyH_ready (rs:= [8]) (by kernel_rfl) (by simp) (AllReadyH.cons rfl (fun K hK=> ?_) AllReadyH.nil);go_simp
    refine hK.out _ _ hHeld7 (fun hHeld8=> ?_);clear hK K hHeld7;refine wpAnyH_done (by kernel_rfl) ?_ _;go_wp2_with fail
    go_meet
    exact⟨X,rfl,rfl,Ab ⟨Aa HX7,Aa HB7⟩⟩
  . go_simp
    have hX5:(w.drew.alloc (.cells #[.int .u32 0,.int .u32 0] 105)).heap[w.heap.size]? =some (.cells #[.int .u32 0,.int .u32 0] 105 (0,0)):=heap_alloc_new w.drew _;have hB5:Below w.heap.size w (w.drew.alloc (.cells #[.int .u32 0,.int .u32 0] 105)):=hHeld.2.alloc (Nat.le_refl _) _;refine hK.out _ _ (hrr _ hB5) (fun hHeld5=> ?_);clear hK K hHeld;refine wpAnyH_ready (rs:= [3]) (by kernel_rfl) (by simp) (AllReadyH.cons rfl (fun K hK=> ?_) AllReadyH.nil);go_simp
    refine(Aa HIN _).mono ?_;rintro e W6 ⟨rfl,hB4⟩;have hB6:Below w.heap.size w W6:=hB5.trans (hB4.mono hB5.size);have hX6:=(hB4.block w.heap.size (Array.getElem?_eq_some_iff.1 hX5).1).trans hX5;dsimp only;refine hK.out _ _ (hrr _ hB6) (fun hHeld6=> ?_);clear hK K hHeld5 hX5 hB5 hB4;have hX:w.heap.size<=w.heap.size:=Nat.le_refl _;refine wpAnyH_ready (rs:= [7]) (by kernel_rfl) (by simp) (AllReadyH.cons rfl (fun K hK=> ?_) AllReadyH.nil);have c0:=Ac (i:=0) hX6;have c1:=Ac (i:=1) hX6;have f0:=frozen_of_row W6 w.heap.size 0 _ _ hX6;have f1:=frozen_of_row W6 w.heap.size 1 _ _ hX6
    have hX7:((W6.setCell ⟨w.heap.size,0,none⟩ (.int .u32 (A:Int))).setCell ⟨w.heap.size,1,none⟩ (.int .u32 (C:Int))).heap[w.heap.size]? =some (hdC A C):=by
     rw[heap_setCell_same _ w.heap.size 1 _ _ _ (heap_setCell_same W6 w.heap.size 0 _ _ _ hX6)];rfl
    have hB7:Below w.heap.size w ((W6.setCell ⟨w.heap.size,0,none⟩ (.int .u32 (A:Int))).setCell ⟨w.heap.size,1,none⟩ (.int .u32 (C:Int))):=by
     have h2:=hB6.grown (Ad W6 w.heap.size 0 (.int .u32 (A:Int))) hB6.size (fun g e=>by cases e;exact hX);exact h2.grown (Ad _ w.heap.size 1 (.int .u32 (C:Int))) h2.size (fun g e=>by cases e;exact hX)
    have HX7:=Ab hX7;have HB7:=Ab hB7;clear hX7 hB7 hX6 hB6;go_simp
    refine hK.out _ _ (hrr _ (Aa HB7)) (fun hHeld7=> ?_);clear hK K hHeld6 c0 c1 f0 f1;refine wpAnyH_ready (rs:= [8]) (by kernel_rfl) (by simp) (AllReadyH.cons rfl (fun K hK=> ?_) AllReadyH.nil);go_simp
    refine hK.out _ _ hHeld7 (fun hHeld8=> ?_);clear hK K hHeld7;refine wpAnyH_done (by kernel_rfl) ?_ _;go_wp2_with fail
    go_meet
    exact⟨w.heap.size,rfl,rfl,Ab ⟨Aa HX7,Aa HB7⟩⟩
 case rest=>
  obtain⟨X,rfl,rfl,hX⟩:=hcut;obtain⟨hX1,hBc⟩:=Aa hX;have HX1:=Ab hX1;have HBc:=Ab hBc;have c0:=Ac (i:=0) hX1;have hp0:Ah ((b0::b1::b2::b3::b4::b5::b6::b7::r).take 4)=A:=by rw[<-Aa HA,Z8x];rfl
  have hp1:Ah (((b0::b1::b2::b3::b4::b5::b6::b7::r).drop 4).take 4)=C:=by rw[<-Aa HC,Z8x];rfl
  have hA32:A<4294967296:=by
   rw[<-hp0];have:=Jv ((b0::b1::b2::b3::b4::b5::b6::b7::r).take 4) (Jj (Aa HV) 4)
   simpa using this
  have HP0:=Ab hp0;have HP1:=Ab hp1;have hwA:IntKind.i64.wrap (A:Int)=(A:Int):=by simp[IntKind.wrap,IntKind.signed,IntKind.bits];omega
  clear hX hX1 hBc hp0 hp1 HR HIN har hsl
  by_cases h1:12000<A
  . have HF:Hid (FaA w (some ⟨b,o,none⟩) cap (b0::b1::b2::b3::b4::b5::b6::b7::r) (.returned (.tuple #[.slice none 0 0,.bool false])) wc):=Ab ⟨Aa HBc,.inl ⟨by unfold Pz;rw[if_neg (by rw[Aa HL];exact h8),Aa HP0,if_pos (.inl h1)],_,_,_,rfl⟩⟩;have h1I:(12000:Int)<(A:Int):=by omega
    clear h1;go_wp2;go_ret2;exact Aa HF
  have h1I:¬(12000:Int)<(A:Int):=by omega
  obtain⟨m,hm8⟩:∃m,n-8=m:=⟨_,rfl⟩
  obtain⟨k,hk8⟩:∃k,cap-8=k:=⟨_,rfl⟩
  rw[hm8,hk8]
  by_cases h2:m<A
  . have HF:Hid (FaA w (some ⟨b,o,none⟩) cap (b0::b1::b2::b3::b4::b5::b6::b7::r) (.returned (.tuple #[.slice none 0 0,.bool false])) wc):=Ab ⟨Aa HBc,.inl ⟨by unfold Pz;rw[if_neg (by rw[Aa HL];exact h8),Aa HP0,Aa HL,if_pos (.inr (by omega))],_,_,_,rfl⟩⟩;have h2I:(m:Int)<(A:Int):=by omega
    clear h1 h2 hm8 hk8;go_wp2;go_ret2;exact Aa HF
  have h2I:¬(m:Int)<(A:Int):=by omega
  have hrl:r.length=m:=by have:=Aa HL;simp at this;omega
  obtain⟨ar,har⟩:∃ar,r.take A=ar:=⟨_,rfl⟩
  have hal:ar.length=A:=by rw[<-har,List.length_take];omega
  have hav:∀x∈ar,x<256:=fun x hx=>Aa HV x (by rw[<-har]at hx;have:=List.mem_of_mem_take hx;simp[this])
  have hpk:∀W,PkIn W (some ⟨b,o,none⟩) cap (b0::b1::b2::b3::b4::b5::b6::b7::r)->PkIn W a' k ar:=fun W hW=>by
   have:=Om (Z89 (p:=8) (k:=k) hW (Aa HL) (Aa HA1) (fun e=>by rw[<-hk8];exact Aa HA2 e)) A
   rw[<-har];exact this
  have hto:=Zi8 a' A m k (by omega) (by omega);have hho:∀W,Below w.heap.size w W->Calls Tryz.prog 58 #[.slice a' A k] W fun e w'=>e=.returned (hdV A (crcN 0 ar))/\Below W.heap.size W w':=fun W hW=>Sf a' A k ar W hal (by omega) (hpk W ((Aa HP).below hW)).1 (Dm hav)
  have hrec:Pz (b0::b1::b2::b3::b4::b5::b6::b7::r)=if crcN 0 ar=C then some ar else none:=by
   have e8:(b0::b1::b2::b3::b4::b5::b6::b7::r).drop 8=r:=rfl;unfold Pz;rw[if_neg (by rw[Aa HL];exact h8),Aa HP0,Aa HP1,Aa HL,if_neg (by omega),e8,har]
  obtain⟨D,hD⟩:∃D,crcN 0 ar=D:=⟨_,rfl⟩
  rw[hD]at hho hrec;have HPK:=Ab hpk;have HHO:=Ab hho;have HREC:=Ab hrec;have HAL:=Ab hal;have hAk:A<=k:=by omega
  have x0:∀W:World,Below wc.heap.size wc W->W.cell? ⟨X,0,none⟩=some (.int .u32 (A:Int)):=fun W hW=>(hW.cell (p:=⟨X,0,none⟩) (Array.getElem?_eq_some_iff.1 (Aa HX1)).1).trans (Ac (i:=0) (Aa HX1))
  have x1:∀W:World,Below wc.heap.size wc W->W.cell? ⟨X,1,none⟩=some (.int .u32 (C:Int)):=fun W hW=>(hW.cell (p:=⟨X,1,none⟩) (Array.getElem?_eq_some_iff.1 (Aa HX1)).1).trans (Ac (i:=1) (Aa HX1))
  unfold hdV at HHO;have heq:=eqH A D C;clear hpk hho hrec hal hav har hrl hm8 hk8 hD h1 h2 HP HV HA1 HA2 HBB;go_upto_region 7 with fail
  go_cut [2,3] (fun v2 v3 wx=>v2=.slice a' A k/\v3=.bool (decide (D=C))/\Hid (Below w.heap.size w wx))
  case first=>
   go_region_held3 (fun W=>Below wc.heap.size wc W) (first|with_reducible exact Cp (Below.refl _ _)|with_reducible exact hb6) ((go_at_call 58;refine(Aa HHO _ (by first|with_reducible exact(Aa HBc).trans ((Cp (Below.refl _ _)).mono (Aa HBc).size))).mono ?_;rintro e w5 ⟨rfl,hb5⟩;have hb6:Below wc.heap.size wc w5:=(Cp (Below.refl _ _)).trans hb5))
   all_goals go_wp2_with fail
   all_goals go_meet
   all_goals exact⟨rfl,rfl,Ab ((Aa HBc).trans (hb6.mono (Aa HBc).size))⟩
  case rest=>
   obtain⟨rfl,rfl,hBd⟩:=hcut
   by_cases hDC:D=C
   . have HF:Hid (FaA w (some ⟨b,o,none⟩) cap (b0::b1::b2::b3::b4::b5::b6::b7::r) (.returned (.tuple #[.slice a' A k,.bool true])) wc):=Ab ⟨Aa hBd,.inr ⟨ar,a',k,by rw[Aa HREC,if_pos hDC],by rw[Aa HAL],by rw[Aa HAL];exact hAk,Aa HPK⟩⟩;rw[decide_eq_true hDC];clear hDC hBd;go_wp2;go_ret2;exact Aa HF
   . have HF:Hid (FaA w (some ⟨b,o,none⟩) cap (b0::b1::b2::b3::b4::b5::b6::b7::r) (.returned (.tuple #[.slice a' A k,.bool false])) wc):=Ab ⟨Aa hBd,.inl ⟨by rw[Aa HREC,if_neg hDC],_,_,_,rfl⟩⟩;rw[decide_eq_false hDC];clear hDC hBd;go_wp2;go_ret2;exact Aa HF
end Go.Proofs.YtcjbgpacnkilnaiGreatDoor
namespace Go.Proofs.YtcjbgpacnkilnaiGreatDoor
open Go.RowKit
set_option linter.unusedVariables false
set_option maxRecDepth 100000
theorem Zf3 {w:World}{v u:Value}{a b:List Fl}(h:LIn w v a)(k:LIn w u b):
 Calls Tryz.prog 44 #[v,u] w fun e w'=>∃x,e=.returned (.tuple #[x,.int .i64 (Co a b:Nat)])/\LIn w' x (Gl a b)/\Below w.heap.size w w':=by
 obtain⟨ad,c,out,rfl,h2,h3⟩:=h;obtain⟨bd,d,out',rfl,k2,k3⟩:=k;refine(Ze7 ad bd c d out out' w h2 k2 _ _ (Z15 h3) (Z15 k3)).mono ?_;rintro e w' ⟨x,rfl,ha⟩;rw[h3,k3]at ha ⊢;exact⟨x,rfl,ha.lin,ha.bel⟩
end Go.Proofs.YtcjbgpacnkilnaiGreatDoor
namespace Go.Proofs.YtcjbgpacnkilnaiGreatDoor
open Go.RowKit
set_option linter.unusedVariables false
set_option linter.unusedSimpArgs false
set_option maxRecDepth 100000
def WaA (w:World)(fs:List Fl)(ar:List Nat)(e:Ending)(w':World):Prop:=
 Below w.heap.size w w'/\((Ee ar=0/\Co fs (Da ar)=0/\∃v,e=.returned (.tuple #[v,.bool true])/\LIn w' v (Gl fs (Da ar)))\/ (¬(Ee ar=0/\Co fs (Da ar)=0)/\∃v,e=.returned (.tuple #[v,.bool false])))
theorem Nm (v:Value)(fs:List Fl)(x:Option Addr)(m z:Nat)(ar:List Nat)(w:World)(hf:LIn w v fs)(hl:ar.length=m)(hc:m<=z)(hP:PkIn w x z ar)(hv:∀y∈ar,y<256)(hm:m<=12000):
 Calls Tryz.prog 43 #[v,.slice x m z] w fun e w'=>WaA w fs ar e w':=by
 have HRD:=Ab (Z6m m z x ar w hl hc hP hv (by omega));unfold RdA at HRD;obtain⟨E,hE⟩:∃E,Ee ar=E:=⟨_,rfl⟩
 obtain⟨gs,hgs⟩:∃gs,Da ar=gs:=⟨_,rfl⟩
 rw[hE,hgs]at HRD;have HLF:=Ab hf;have HE:=Ab hE;have HG:=Ab hgs;clear hE hgs hf hP hv hl;go_enter Tryz.func43,Tryz.ntmps43
 go_wp2_with fail
 refine(Aa HRD).mono ?_;rintro e w1 ⟨v1,rfl,hL1,hB1⟩
 by_cases hE0:E=0
 . subst hE0;have HBO:=Ab (Zf3 ((Aa HLF).below hB1) hL1);have HB1:=Ab hB1;clear hL1 hB1 HRD;go_wp2_with fail
   refine(Aa HBO).mono ?_;rintro e w2 ⟨v2,rfl,hl2,hb2⟩;have HB2:=Ab ((Aa HB1).trans (hb2.mono (Aa HB1).size));have HL2:=Ab hl2;obtain⟨F,hF⟩:∃F,Co fs gs=F:=⟨_,rfl⟩
   rw[hF];have HFF:=Ab hF;clear hl2 hb2 HBO hF
   by_cases hF0:F=0
   . subst hF0;have HF:Hid (WaA w fs ar (.returned (.tuple #[v2,.bool true])) w2):=Ab ⟨Aa HB2,.inl ⟨Aa HE,by rw[Aa HG];exact Aa HFF,_,rfl,by rw[Aa HG];exact Aa HL2⟩⟩;go_wp2;go_ret2;exact Aa HF
   . have hFb:((F:Int)==0)=false:=by rw[beq_eq_false_iff_ne];omega
     have HF:Hid (WaA w fs ar (.returned (.tuple #[v2,.bool false])) w2):=Ab ⟨Aa HB2,.inr ⟨fun h=>hF0 (by rw[<-Aa HFF,<-Aa HG];exact h.2),_,rfl⟩⟩;clear hF0;go_wp2;go_ret2;exact Aa HF
 . have hEb:((E:Int)==0)=false:=by rw[beq_eq_false_iff_ne];omega
   have hEc:((E:Int)!=0)=true:=by rw[bne,hEb];rfl
   have HF:Hid (WaA w fs ar (.returned (.tuple #[.slice none 0 0,.bool false])) w1):=Ab ⟨hB1,.inr ⟨fun h=>hE0 (by rw[<-Aa HE];exact h.1),_,rfl⟩⟩;clear hE0 hL1 hB1;go_wp2;go_ret2;exact Aa HF
def ToA (w:World)(bs:List Nat)(e:Ending)(w':World):Prop:=∃v fs m,e=.returned (.tuple #[v,.int .i64 ((m:Nat):Int)])/\LIn w' v fs/\Recs [] bs fs m/\Below w.heap.size w w'
theorem Gp (a:Option Addr)(n cap:Nat)(bs:List Nat)(w:World)(hl:bs.length=n)(hc:n<=cap)(hP:PkIn w a cap bs)(hv:∀x∈bs,x<256)(hm:n<=140737488355328):
 Calls Tryz.prog 27 #[.slice a n cap] w fun e w'=>ToA w bs e w':=by
 have HP:=Ab hP;have HV:=Ab hv;have HL:=Ab hl;clear hP hv hl;go_enter Tryz.func27,Tryz.ntmps27
 go_wp2;go_loopw [2,3] (fun v2 v3 wr=>∃(fs:List Fl) (q:Nat),v3=.int .i64 (q:Int)/\q<=n/\Hid (LIn wr v2 fs/\Below w.heap.size w wr/\∀f m,Recs fs (bs.drop q) f m->Recs [] bs f (q+m))) (fun _ v3 _=>n-(intOf v3).toNat)
 case atStart=>exact⟨[],0,rfl,Nat.zero_le _,Ab ⟨LIn.nil _,Below.refl _ _,fun f m h=>by rw[Nat.zero_add];exact h⟩⟩
 case round=>
  obtain⟨fs,q,rfl,hq,hst⟩:=hrel;obtain⟨hLr,hBr,hRr⟩:=Aa hst;obtain⟨a',hsl,ha1,ha2⟩:=Z0a a q n cap hq hc (Aa HP).2;have hPr:=(Aa HP).below hBr;have hdl:(bs.drop q).length=n-q:=by rw[List.length_drop,Aa HL]
  have hdp:∀W,PkIn W a cap bs->PkIn W a' (cap-q) (bs.drop q):=fun W hW=>Z89 hW (Aa HL) ha1 ha2
  have hdv:=Za9 (Aa HV) q;have HFA:=Ab (Ml a' (n-q) (cap-q) (bs.drop q) wr hdl (by omega) (hdp wr hPr) hdv (by omega));unfold FaA at HFA
  have HWA:Hid (∀(W:World) (ar:List Nat) (x:Option Addr) (z:Nat),Below wr.heap.size wr W->Pz (bs.drop q)=some ar->ar.length<=z->PkIn W x z ar->Calls Tryz.prog 43 #[u2,.slice x ar.length z] W fun e w'=>WaA W fs ar e w'):=Ab (fun W ar x z hW hr hz hp=>by
   obtain⟨_,r2,_,r4,_⟩:=Ho hr;refine Nm u2 fs x ar.length z ar W (hLr.below hW) rfl hz hp (fun y hy=> ?_) r2;rw[r4]at hy;exact hdv y (List.mem_of_mem_drop (List.mem_of_mem_take hy)))
  obtain⟨d,hd⟩:∃d,n-q=d:=⟨_,rfl⟩
  obtain⟨k,hk⟩:∃k,cap-q=k:=⟨_,rfl⟩
  rw[hd,hk]at hsl HFA;have HPR:=Ab (fun W (hW:Below wr.heap.size wr W)=>hdp W (hPr.below hW));rw[hk]at HPR;have HLr:=Ab hLr;have HBr:=Ab hBr;have HRr:=Ab hRr;have HD:=Ab hd;clear hLr hBr hRr hst ha1 ha2 hPr hdl hdp hdv hd hk;go_wp2_with fail
  refine(Aa HFA).mono ?_;rintro e w1 ⟨hB1,(⟨hr,x,y,z,rfl⟩|⟨ar,x,z,hr,rfl,hz,hpk⟩)⟩
  . have HF:Hid (ToA w bs (.returned (.tuple #[u2,.int .i64 (q:Int)])) w1):=Ab ⟨u2,fs,q,rfl,(Aa HLr).below hB1,by
     have h1:Recs fs (bs.drop q) fs 0:=.stop (by unfold stepF;rw[hr];rfl);exact Aa HRr _ _ h1,(Aa HBr).trans (hB1.mono (Aa HBr).size)⟩
    clear hB1 hr HFA;go_wp2;go_ret2;exact Aa HF
  . have HW2:=Ab (Aa HWA w1 ar x z hB1 hr hz (hpk w1 (Aa HPR w1 hB1)));unfold WaA at HW2;obtain⟨m,hma⟩:∃m,ar.length=m:=⟨_,rfl⟩
    have hrs:=Ho hr;have hmq:8+m<=n-q:=by have h2:=hrs.1;rw[List.length_drop,Aa HL,hma]at h2;exact h2
    rw[hma]at HW2 ⊢;have HB1:=Ab ((Aa HBr).trans (hB1.mono (Aa HBr).size));have HB1r:=Ab hB1;have HRC:=Ab hr;have HMA:=Ab hma;clear hB1 hr hz hpk HFA HWA hma hrs;go_wp2_with fail
    refine(Aa HW2).mono ?_;rintro e w2 ⟨hB2,(⟨h1,h2,v',rfl,hL2⟩|⟨h1,v',rfl⟩)⟩
    . have hs1:((q:Int)+8)=((q+8:Nat):Int):=by omega
      have hs2:(((q+8:Nat):Int)+(m:Int))=((q+8+m:Nat):Int):=by omega
      have hw1:IntKind.i64.wrap ((q:Int)+8)=(q:Int)+8:=by simp[IntKind.wrap,IntKind.signed,IntKind.bits];omega
      have hw2:IntKind.i64.wrap ((q:Int)+8+(m:Int))=(q:Int)+8+(m:Int):=by simp[IntKind.wrap,IntKind.signed,IntKind.bits];omega
      have HF:Hid (LIn w2 v' (Gl fs (Da ar))/\Below w.heap.size w w2/\∀f m',Recs (Gl fs (Da ar)) (bs.drop (q+8+m)) f m'->Recs [] bs f (q+8+m+m')):=Ab ⟨hL2,(Aa HB1).trans (hB2.mono (Aa HB1).size),fun f m' hf=>by
       have h3:=Mq (fs:=fs) (Aa HRC) h1 h2;rw[Aa HMA]at h3;have h4:Recs fs (bs.drop q) f (8+m+m'):=.more h3 (by rw[List.drop_drop];rw[show q+(8+m)=q+8+m by omega];exact hf);have:=Aa HRr _ _ h4
       rw[show q+(8+m+m')=q+8+m+m' by omega]at this;exact this⟩
      have HS:=Ab (show ((q:Int)+8+(m:Int))=((q+8+m:Nat):Int) by omega);clear h1 h2 hL2 hB2 HW2 hs1 hs2;go_wp2;refine⟨⟨Gl fs (Da ar),q+8+m,by rw[Aa HS],by omega,Aa HF|>Ab⟩, ?_⟩;simp[intOf]
      omega
    . have HF:Hid (ToA w bs (.returned (.tuple #[u2,.int .i64 (q:Int)])) w2):=Ab ⟨u2,fs,q,rfl,((Aa HLr).below (Aa HB1r)).below hB2,by
       have h3:Recs fs (bs.drop q) fs 0:=.stop (by unfold stepF;rw[Aa HRC,Option.bind_some,if_neg h1]);exact Aa HRr _ _ h3,(Aa HB1).trans (hB2.mono (Aa HB1).size)⟩
      clear h1 hB2 HW2;go_wp2;go_ret2;exact Aa HF
end Go.Proofs.YtcjbgpacnkilnaiGreatDoor
namespace Go.Proofs.YtcjbgpacnkilnaiGreatDoor
open Go.RowKit
set_option linter.unusedVariables false
set_option maxRecDepth 100000
theorem Z1s (n:Nat):(Builtin.zeroCells (Value.int .u8 0).cells n).toList=u8s (List.replicate n 0):=by
 show (Builtin.zeroCells #[Value.int .u8 0] n).toList=_
 unfold Builtin.zeroCells;apply List.ext_getElem?
 intro i
 by_cases h:i<n
 . simp[h,Nat.mod_one]
 . simp[h]
theorem Mk (w:World)(ty:TypeId)(n:Nat)(h0:0<n)(hn:n<=281474976710656):
 ∃c w',(Builtin.append_ #[22,3] ty #[.slice none 0 0,.int .i64 (n:Int)]).run Tryz.prog w=.ok (.slice (some ⟨w.heap.size,0,none⟩) n c) w'/\n<=c/\c<=maxLen/\w'.heap[w.heap.size]? =some (.cells (u8s (List.replicate c 0)).toArray 5 (0,0))/\w.grownBy w' none:=by
 obtain⟨i0,hi,hz0,hz1,hz2⟩:=info_parts Gx;have hge:=grownCap_ge w n 0 5;have hle:=grownCap_le_maxLen w n 0 5 (by unfold maxLen;omega);have hnz:n≠0:=by omega
 have h63':¬(9223372036854775807<(n:Int)):=by omega
 have hneg:¬((n:Int)<0):=by omega
 have h48:¬(281474976710656<(n:Int)):=by omega
 have h48':¬(281474976710656<Builtin.nextslicecap n 0):=by rw[nextslicecap_zero h0];omega
 have hw:IntKind.i64.wrap (n:Int)=(n:Int):=by simp[IntKind.wrap,IntKind.signed,IntKind.bits];omega
 refine⟨grownCap w n 0 5,w.drew.alloc (.cells (Builtin.zeroCells (Value.int .u8 0).cells n++Builtin.zeroCells (Value.int .u8 0).cells (grownCap w n 0 5-n)) 5), ?_,hge,hle, ?_, ?_⟩
 . simp[Builtin.append_,run_underlying Tryz.underlying22,run_underlying Tryz.underlying3,sizeOf,typeInfo,zeroValue,hi,hz0,hz1,hz2,asInt,asIntOf,hw,hneg,h48,hnz,h63',h48',Question.forced,run_firstCells_none,newRow,grownCap]
 . have:=heap_alloc_new w.drew (.cells (Builtin.zeroCells (Value.int .u8 0).cells n++Builtin.zeroCells (Value.int .u8 0).cells (grownCap w n 0 5-n)) 5)
   rw[show w.drew.heap.size=w.heap.size from rfl]at this;rw[this]
   congr 2
   apply Array.ext'
   rw[Array.toList_append,Z1s,Z1s];show _=u8s (List.replicate (grownCap w n 0 5) 0)
   unfold u8s;rw[<-List.map_append,List.replicate_append_replicate]
   congr 2
   omega
 . exact⟨rfl,rfl,rfl,by simp,fun k hk _=>Below.heap_alloc w.drew _ k hk⟩
theorem Ip (w:World){ops:Array Oper}{rest:List Oper}{o:Oper}{a:Act}{Q:Exit->Act->World->Prop}(hgd:o.guard=none)(s x:Operand)
 (ho:o.op=.call {callee:=.builtin .append,args:= #[s,x],argTypes:= #[22,3]}) (n:Nat) (hs:a.eval s=.slice none 0 0) (hx:a.eval x=.int .i64 (n:Int)) (h0:0<n) (hn:n<=281474976710656)
 (h:∀c w',n<=c->c<=maxLen->w'.heap[w.heap.size]? =some (.cells (u8s (List.replicate c 0)).toArray 5 (0,0))->w.grownBy w' none->wpList Tryz.prog ops Q rest (a.put o.dst (.slice (some ⟨w.heap.size,0,none⟩) n c)) w'):
 wpList Tryz.prog ops Q (o::rest) a w:=by
 refine wpList_plain hgd fun K hK=> ?_
 obtain⟨c,w',hr,h2,h3,h4,h5⟩:=Mk w o.type n h0 hn;unfold Oper.wp execOp;simp only[ho,resolve,invoke,builtin,Sem.run_bind,Sem.run_pure,Result.andThen_ok,List.map_toArray,List.map_cons,List.map_nil,hs,hx,hr];exact hK _ _ (h c w' h2 h3 h4 h5)
theorem Z9o (n:Nat)(w:World)(h0:0<n)(hn:n<=281474976710656):Calls Tryz.prog 61 #[.slice none 0 0,.int .i64 (n:Int)] w fun e w'=>∃c,n<=c/\e=.returned (.slice (some ⟨w.heap.size,0,none⟩) 0 c)/\w'.ownsRow w.heap.size 5 1 (.slice (some ⟨w.heap.size,0,none⟩) 0 c) 0 (u8s [])/\Below w.heap.size w w':=by
 go_enter Tryz.func61,Tryz.ntmps61
 go_wp2_with (refine Ip w rfl (.tmp 20) (.tmp 21) rfl n rfl rfl h0 hn ?_)
 intro c w2 hc1 hc2 hg hgr;have HB:=Ab (Lu (Below.refl w.heap.size w) hgr (Nat.le_refl _));have HO:Hid (w2.ownsRow w.heap.size 5 1 (.slice (some ⟨w.heap.size,0,none⟩) 0 c) 0 (u8s [])):=⟨rfl,.inr ⟨w.heap.size,c,_,rfl,Nat.le_refl _,hg,Nat.zero_le _,hc2,by simp,rfl⟩⟩
 clear hg hgr;go_wp2;go_ret;exact⟨c,hc1,rfl,Aa HO,Aa HB⟩
theorem Th (w:World)(ty:TypeId)(base x:Option Addr)(n cap c:Nat)(h:n<=cap):
 (Builtin.append_ #[22,22] ty #[.slice base n cap,.slice x 0 c]).run Tryz.prog w=.ok (.slice base n cap) w:=by
 obtain⟨i0,hi,hz0,hz1,hz2⟩:=info_parts Gx
 have hf:(Builtin.firstCells i0.size 0 (.slice x 0 c)).run Tryz.prog w=.ok #[] w:=by
  cases x with
  |none=>exact run_firstCells_none w i0.size 0 0 c
  |some b=>exact run_firstCells_some w i0.size 0 b 0 c [] (by simp) (by simp)
 rw[hz1]at hf
 cases base<;>simp[Builtin.append_,run_underlying Tryz.underlying22,sizeOf,typeInfo,hi,hz1,Builtin.lenOf,hf,h,storeCells]
theorem Hc (w:World){ops:Array Oper}{rest:List Oper}{o:Oper}{a:Act}{Q:Exit->Act->World->Prop}(hgd:o.guard=none)(s x:Operand)
 (ho:o.op=.call {callee:=.builtin .append,args:= #[s,x],argTypes:= #[22,22]}) (base y:Option Addr) (n cap c:Nat) (hs:a.eval s=.slice base n cap) (hx:a.eval x=.slice y 0 c) (hn:n<=cap)
 (h:wpList Tryz.prog ops Q rest (a.put o.dst (.slice base n cap)) w):wpList Tryz.prog ops Q (o::rest) a w:=by
 refine wpList_plain hgd fun K hK=> ?_
 unfold Oper.wp execOp;simp only[ho,resolve,invoke,builtin,Sem.run_bind,Sem.run_pure,Result.andThen_ok,List.map_toArray,List.map_cons,List.map_nil,hs,hx,Th w o.type base y n cap c hn];exact hK _ _ h
theorem Z9n (w:World):Calls Tryz.prog 61 #[.slice none 0 0,.int .i64 0] w fun e w'=>e=.returned (.slice none 0 0)/\w'=w:=by
 go_enter Tryz.func61,Tryz.ntmps61
 go_wp2;go_ret
 trivial
def Hx (ps:List (Option Addr×Nat×List Nat)):Nat->List Nat
 |0=> []
 |k+1=>Hx ps k++(ps.getD k (none,0,[])).2.2
theorem Zhb (ps:List (Option Addr×Nat×List Nat)){j k:Nat}(h:j<=k):(Hx ps j).length<=(Hx ps k).length:=by
 induction k with
 |zero=>rw[show j=0 by omega];exact Nat.le_refl _
 |succ k ih=>
  by_cases e:j=k+1
  . rw[e];exact Nat.le_refl _
  . have:=ih (by omega)
    rw[Hx,List.length_append];omega
theorem Z1i {w:World}{b o:Nat}{xs:List Nat}(h:Bytes w b o xs):∀j u,(u8s xs)[j]? =some u->w.cell? ((⟨b,o,none⟩:Addr).add j)=some u:=by
 intro j u hj;have e:(⟨b,o,none⟩:Addr).add j=⟨b,o+j,none⟩:=by unfold Addr.add;split<;>simp_all
 have hj2:j<xs.length:=by
  by_cases c:j<xs.length
  . exact c
  . rw[List.getElem?_eq_none (by simp[u8s];omega)]at hj;cases hj
 have:=h j hj2
 rw[e,this];simp[u8s,hj2]at hj
 subst hj;simp[List.getD,hj2]
theorem Zfd (xs:List Nat):∀u∈u8s xs,u.oneCell'=true:=by intro u hu;obtain⟨x,_,rfl⟩:=List.mem_map.1 hu;rfl
theorem Z64 (b o len cap:Nat)(ps:List (Option Addr×Nat×List Nat))(w:World)(hb:b<w.heap.size)(hc:∀j,j<len->w.cell? ⟨b,o+j,none⟩=some (.slice (ps.getD j (none,0,[])).1 (ps.getD j (none,0,[])).2.2.length (ps.getD j (none,0,[])).2.1))
 (hr:∀j,j<len->BytesIn w (ps.getD j (none,0,[])).1 (ps.getD j (none,0,[])).2.2) (hsum:(Hx ps len).length<=281474976710656) (hlen:len<=100):
 Calls Tryz.prog 45 #[.slice (some ⟨b,o,none⟩) len cap] w fun e w'=>∃a c,(Hx ps len).length<=c/\e=.returned (.slice a (Hx ps len).length c)/\BytesIn w' a (Hx ps len)/\Below w.heap.size w w'/\(a=none->c=0):=by
 obtain⟨i0,hi,hz0,hz1,hz2⟩:=info_parts Gx;have HC:=Ab hc;have HR:=Ab hr;obtain⟨T,hT⟩:∃T,(Hx ps len).length=T:=⟨_,rfl⟩
 rw[hT]at hsum;have HTT:=Ab hT;have HS:Hid (∀k,k<=len->(Hx ps k).length<=T):=Ab (fun k hk=>by rw[<-hT];exact Zhb ps hk);clear hc hr hT;go_enter Tryz.func45,Tryz.ntmps45
 go_wp2;go_loop [3,11] (fun v3 v11=>∃k:Nat,k<=len/\v11=.int .i64 (k:Int)/\v3=.int .i64 ((Hx ps k).length:Int)) (fun _ v11=>len-(intOf v11).toNat)
 case atStart=>exact⟨0,Nat.zero_le _,rfl,rfl⟩
 case round=>
  obtain⟨k,hk,rfl,rfl⟩:=hrel
  by_cases hlt:k<len
  . have c1:=Aa HC k hlt;have hs:=Aa HS (k+1) (by omega);have HN:Hid ((Hx ps (k+1)).length=(Hx ps k).length+(ps.getD k (none,0,[])).2.2.length):=Ab (by rw[Hx,List.length_append]);rw[Aa HN]at hs;generalize (ps.getD k (none,0,[])).2.2.length=m at*;generalize (ps.getD k (none,0,[])).2.1=mc at*;generalize (ps.getD k (none,0,[])).1=g at*;generalize (Hx ps k).length=L at*;go_wp2;go_round
    case rel=>exact⟨k+1,by omega,by go_num,by rw[Aa HN];go_num⟩
    case measure=>simp[intOf];omega
  . obtain rfl:len=k:=by omega
    rw[Aa HTT]
    by_cases hT0:T=0
    . subst hT0;go_wp2_with fail
      refine(Z9n w).mono ?_;rintro e w2 ⟨rfl,rfl⟩;go_wp2;go_loop [6,27] (fun v6 v27=>∃k:Nat,k<=len/\v27=.int .i64 (k:Int)/\v6=.slice none 0 0) (fun _ v27=>len-(intOf v27).toNat)
      case atStart=>exact⟨0,Nat.zero_le _,rfl,rfl⟩
      case round=>
       obtain⟨k,hk2,rfl,rfl⟩:=hrel
       by_cases hlt2:k<len
       . have c1:=Aa HC k hlt2;have hs:=Aa HS (k+1) (by omega);rw[Hx,List.length_append]at hs;have h0:(ps.getD k (none,0,[])).2.2.length=0:=by omega
         rw[h0]at c1;generalize (ps.getD k (none,0,[])).2.1=mc at*;generalize (ps.getD k (none,0,[])).1=g at*;clear hs h0;go_wp2_with (at_builtin;refine Hc _ rfl (.tmp 31) (.tmp 32) rfl none g 0 0 mc rfl rfl (Nat.le_refl _) ?_)
         go_round
         case rel=>exact⟨k+1,by omega,by go_num,rfl⟩
         case measure=>simp[intOf];omega
       . obtain rfl:len=k:=by omega
         go_wp2;go_ret;exact⟨none,0,by rw[Aa HTT];exact Nat.le_refl _,by rw[Aa HTT];rfl,.inl (List.length_eq_zero_iff.1 (Aa HTT)),Below.refl _ _,fun _=>rfl⟩
    . go_wp2_with fail
      refine(Z9o T w (by omega) hsum).mono ?_;rintro e w2 ⟨c,hTc,rfl,hO2,hB2⟩;have HO2:=Ab hO2;have HB2:=Ab hB2;clear hO2 hB2;go_wp2;go_loopw [6,27] (fun v6 v27 wr=>∃k:Nat,k<=len/\v27=.int .i64 (k:Int)/\v6=.slice (some ⟨w.heap.size,0,none⟩) (Hx ps k).length c/\Hid (wr.ownsRow w.heap.size 5 1 (.slice (some ⟨w.heap.size,0,none⟩) (Hx ps k).length c) (Hx ps k).length (u8s (Hx ps k)))/\Hid (Below w.heap.size w wr)) (fun _ v27 _=>len-(intOf v27).toNat)
      case atStart=>exact⟨0,Nat.zero_le _,rfl,rfl,HO2,HB2⟩
      case round=>
       obtain⟨k,hk2,rfl,rfl,HO,HBr⟩:=hrel
       by_cases hlt2:k<len
       . have c1:=((Aa HBr).cell (p:=⟨b,o+k,none⟩) hb).trans (Aa HC k hlt2);have hrow:=(Aa HR k hlt2).below (Aa HBr) (Nat.le_refl _);have hs:=Aa HS (k+1) (by omega);have HN:Hid (Hx ps (k+1)=Hx ps k++(ps.getD k (none,0,[])).2.2):=Ab rfl;rw[Aa HN,List.length_append]at hs;generalize (ps.getD k (none,0,[])).2.2=xs at*;generalize (ps.getD k (none,0,[])).1=g at*;generalize (ps.getD k (none,0,[])).2.1=mc at*
         rcases hrow with rfl|⟨gb,go,rfl,hgb,hrow⟩
         . have HN2:Hid (Hx ps (k+1)=Hx ps k):=Ab (by rw[Aa HN,List.append_nil]);simp only[List.length_nil]at c1 hs;generalize hL:(Hx ps k).length=L at*;clear HN;go_wp2_with (at_builtin;refine Hc _ rfl (.tmp 31) (.tmp 32) rfl _ g L c mc rfl rfl (by omega) ?_)
           go_roundw
           case rel=>exact⟨k+1,by omega,by go_num,by rw[Aa HN2,hL],Ab (by rw[Aa HN2,hL];exact Aa HO),HBr⟩
           case measure=>simp[intOf];omega
         . have HRC:=Ab (Z1i hrow);obtain⟨m,hm⟩:∃m,xs.length=m:=⟨_,rfl⟩
           obtain⟨L,hL⟩:∃L,(Hx ps k).length=L:=⟨_,rfl⟩
           rw[hm]at c1 hs;rw[hL]at hs HO ⊢;have HM:=Ab hm;have HLL:=Ab hL;clear hrow hm hL;go_wp2_with (at_builtin;refine wpList_append_own_spare _ rfl (.tmp 31) (.tmp 32) 22 rfl w.heap.size 5 i0 1 Tryz.underlying22 hi hz1 w.heap.size L c (u8s (Hx ps k)) rfl (Aa HO) ⟨gb,go,none⟩ m mc (u8s xs) rfl (by simp[u8s,Aa HM]) (Aa HRC) (Zfd xs) (by omega) ?_)
           intro w4 hO4 hgrow
           have HO4:Hid (w4.ownsRow w.heap.size 5 1 (.slice (some ⟨w.heap.size,0,none⟩) (Hx ps (k+1)).length c) (Hx ps (k+1)).length (u8s (Hx ps (k+1)))):=by
            rw[Aa HN,List.length_append,Aa HLL,Aa HM];show w4.ownsRow w.heap.size 5 1 _ (L+m) (List.map _ (Hx ps k++xs))
            rw[List.map_append];exact hO4
           have HB4:=Ab ((Aa HBr).grown hgrow (Aa HBr).size (fun g e=>by cases e;exact Nat.le_refl _));have HLN:Hid ((Hx ps (k+1)).length=L+m):=Ab (by rw[Aa HN,List.length_append,Aa HLL,Aa HM]);clear hO4 hgrow c1 HRC;go_wp2;go_roundw
           case rel=>exact⟨k+1,by omega,by go_num,by rw[Aa HLN],HO4,HB4⟩
           case measure=>simp[intOf];omega
       . obtain rfl:len=k:=by omega
         rw[Aa HTT]at HO ⊢;go_wp2;go_ret;exact⟨_,c,by rw[Aa HTT];exact hTc,by rw[Aa HTT];rfl,BytesIn.own (Aa HO),Aa HBr,fun e=>by cases e⟩
end Go.Proofs.YtcjbgpacnkilnaiGreatDoor
