import Derived.Test.YtleocpdblhbimaaGreatDoorQ40
import Derived.Deep.RegionHeld3
set_option linter.unusedSimpArgs false
set_option maxHeartbeats 4000000
namespace Go.Proofs.YtleocpdblhbimaaGreatDoor
set_option linter.unusedVariables false
set_option maxRecDepth 100000
end Go.Proofs.YtleocpdblhbimaaGreatDoor
namespace Go.Proofs.YtleocpdblhbimaaGreatDoor
open Go.RowKit
set_option linter.unusedVariables false
set_option maxRecDepth 100000
theorem Z8b (W:World):(Instr.index 135 (.agg #[.int .i64 0,.int .i64 1,.int .i64 2]) (.int .i64 0)).run Tryz.prog W=.ok (.int .i64 0) W:=by kernel_rfl
theorem Z9h (W:World):(Instr.index 135 (.agg #[.int .i64 0,.int .i64 1,.int .i64 2]) (.int .i64 1)).run Tryz.prog W=.ok (.int .i64 1) W:=by kernel_rfl
theorem Z9g (W:World):(Instr.index 135 (.agg #[.int .i64 0,.int .i64 1,.int .i64 2]) (.int .i64 2)).run Tryz.prog W=.ok (.int .i64 2) W:=by kernel_rfl
theorem Z9f (k:Nat)(E:k<=2)(W:World):(Instr.index 135 (.agg #[.int .i64 0,.int .i64 1,.int .i64 2]) (.int .i64 (k:Int))).run Tryz.prog W=.ok (.int .i64 (k:Int)) W:=by
 rcases(by omega:k=0\/k=1\/k=2)with rfl|rfl|rfl
 . exact Z8b W
 . exact Z9h W
 . exact Z9g W
theorem JO (bs:List Nat)(k:Nat)(E:0<k):bestP bs (k+1)=if GA bs k<GA bs (bestP bs k)then k else bestP bs k:=by
 obtain⟨q,rfl⟩:∃q,k=q+1:=⟨k-1,by omega⟩
 rfl
theorem Z7e (a:Option Addr)(n E:Nat)(bs:List Nat)(w:World)(ae:bs.length=n)(Y:n<=E)(I:a=none->E=0)(H:BytesIn w a bs)(F:∀j,bs.getD j 0<256)(ab:n<=9223372036854775807)(M:3000<n):
 Calls Tryz.prog 54 #[.slice a n E] w fun e w'=>e=.returned (.tuple #[.slice none 0 0,.int .i64 0,.int .i64 2])/\Below w.heap.size w w':=by
 have af:=Ab (fun T U=>Z0l a n E 0 bs w T U ae Y I H F ab M);clear H F I;go_enter Tryz.func54,Tryz.ntmps54
 go_wp2;go_loopw [2,3,10] (fun Z ac O wr=>Z=.slice none 0 0/\ac=.int .i64 0/\O=.int .i64 0/\wr=w) (fun _ _ _ _=>0)
 case atStart=>exact⟨rfl,rfl,rfl,rfl⟩
 case round=>
  obtain⟨rfl,rfl,rfl,rfl⟩:=hrel;have ah:=Z8b;go_wp2_with fail
  refine(Aa af _ _).mono ?_;rintro e ag ⟨rfl,G⟩;have aa:=Ab G;clear G;go_wp2;go_ret3;exact⟨rfl,Aa aa⟩
theorem Z5n (a:Option Addr)(n ae:Nat)(bs:List Nat)(w:World)(ba:bs.length=n)(a7:n<=ae)(as:a=none->ae=0)(ay:BytesIn w a bs)(aw:∀j,bs.getD j 0<256)(a6:n<=3000):
 Calls Tryz.prog 54 #[.slice a n ae] w fun e w'=>∃g c out,e=.returned (.tuple #[.slice (some ⟨g,0,none⟩) (GA bs (bestP bs 3)) c,.int .i64 (bestP bs 3:Nat),.int .i64 0])/\g<w'.heap.size/\Bytes w' g 0 out/\IsOne bs (bestP bs 3) out/\Below w.heap.size w w':=by
 have au:=Ab (fun(W:World) (k:Nat) (ap:k<=2) (bb:Below w.heap.size w W) T U=>Z6j a n ae k bs W T U ba a7 as (ay.below bb (VB _)) aw a6 ap);clear ay aw as;have be:(#[Value.int .i64 0,Value.int .i64 1,Value.int .i64 2]:Array Value).size=3:=rfl;go_enter Tryz.func54,Tryz.ntmps54
 go_wp2;go_loopw [2,3,10] (fun az ar aj wr=>∃k:Nat,k<=3/\aj=.int .i64 (k:Int)/\Below w.heap.size w wr/\((k=0/\az=.slice none 0 0/\ar=.int .i64 0)\/ (0<k/\∃g c out,az=.slice (some ⟨g,0,none⟩) (GA bs (bestP bs k)) c/\ar=.int .i64 (bestP bs k:Nat)/\g<wr.heap.size/\Bytes wr g 0 out/\IsOne bs (bestP bs k) out))) (fun _ _ aj _=>3-(intOf aj).toNat)
 case atStart=>exact⟨0,by decide,rfl,Below.refl _ _,.inl ⟨rfl,rfl,rfl⟩⟩
 case round=>
  obtain⟨k,ap,rfl,av,aq⟩:=hrel;have O:=Ab av;clear av
  by_cases a9:k=3
  . subst a9
    rcases aq with ⟨h,_⟩|⟨_,g,c,out,rfl,rfl,H,M,ab⟩
    . omega
    . have E:=Ab (And.intro H (And.intro M ab));clear H M ab;go_wp2;go_ret3;exact⟨g,c,out,rfl,(Aa E).1,(Aa E).2.1,(Aa E).2.2,Aa O⟩
  . have ax:k<=2:=by omega
    have a0:=(Aa O).size;have al:=Ab (fun T U=>Aa au wr k ax (Aa O) T U);clear au
    rcases aq with ⟨rfl,rfl,rfl⟩|⟨a1,g,c,out,rfl,rfl,H,M,ab⟩
    . have a3:=Z8b;go_wp2_with fail
      refine(Aa al _ _).mono ?_;rintro e a8 ⟨g1,c1,ai,rfl,Z,I,aa,G⟩;have E:=Ab (And.intro Z (And.intro I (And.intro aa ((Aa O).trans (G.mono a0)))));have ak:bestP bs 1=0:=rfl;clear Z I aa G;go_wp2;rename_i F
      refine F _ _ ?_;simp only[Act.put,VA,VC,VD,Option.isNone];clear F;go_wp2;go_roundw
      case rel=>exact⟨1,by decide,by go_num,(Aa E).2.2.2,.inr ⟨by decide,g1,c1,ai,by rw[ak],by rw[ak];rfl,(Aa E).1,(Aa E).2.1,by rw[ak];exact(Aa E).2.2.1⟩⟩
      case measure=>simp[intOf]
    . have Y:=Ab (And.intro H (And.intro M ab));have a3:=Z9f k ax;have ah:=JO bs k a1;clear H M ab;have bc:(k:Int)<3:=by omega
      obtain⟨B,an⟩:=exq (bestP bs k);rw[an]at ah Y ⊢;obtain⟨l1,ac⟩:=exq (GA bs k);obtain⟨l2,af⟩:=exq (GA bs B);rw[ac,af]at ah;rw[ac]at al;rw[af];have am:=Ab ah;have a4:=Ab ac;have a5:=Ab af;clear ah ac af an;go_wp2_with fail
      refine(Aa al _ _).mono ?_;rintro e a8 ⟨g1,c1,ai,rfl,Z,I,aa,G⟩;have E:=Ab (And.intro Z (And.intro I (And.intro aa ((Aa O).trans (G.mono a0)))));have ao:=Ab (And.intro (bd (Aa Y).1 G.size) ((Aa Y).2.1.below G (Aa Y).1));clear Z I aa G
      by_cases ag:l1<l2
      . have a2:(l1:Int)<(l2:Int):=by omega
        have hb:Hid (bestP bs (k+1)=k):=Ab (by rw[Aa am,if_pos ag]);clear ag;go_wp2;rename_i F
        refine F _ _ ?_;simp only[Act.put,VA,VC,VD];clear F;go_wp2;go_roundw
        case rel=>exact⟨k+1,by omega,by go_num,(Aa E).2.2.2,.inr ⟨by omega,g1,c1,ai,by rw[Aa hb,Aa a4],by rw[Aa hb],(Aa E).1,(Aa E).2.1,by rw[Aa hb];exact(Aa E).2.2.1⟩⟩
        case measure=>simp[intOf];omega
      . have a2:¬(l1:Int)<(l2:Int):=by omega
        have hb:Hid (bestP bs (k+1)=B):=Ab (by rw[Aa am,if_neg ag]);clear ag;go_wp2;rename_i F
        refine F _ _ ?_;simp only[Act.put,VA,VC,VD];clear F;go_wp2;go_roundw
        case rel=>exact⟨k+1,by omega,by go_num,(Aa E).2.2.2,.inr ⟨by omega,g,c,out,by rw[Aa hb,Aa a5],by rw[Aa hb],(Aa ao).1,(Aa ao).2,by rw[Aa hb];exact(Aa Y).2.2⟩⟩
        case measure=>simp[intOf];omega
structure EOf (x:En):Prop where
 cr:x.crc=crcN 0 (n8 x.f.bytes)
 pk:∃out,IsOne (n8 x.f.bytes) (bestP (n8 x.f.bytes) 3) out/\((out.length<x.f.bytes.length/\x.meth=8/\x.pk=out)\/ (x.f.bytes.length<=out.length/\x.meth=0/\x.pk=n8 x.f.bytes))
def EoA (w:World)(x:Fv)(e:Ending)(w':World):Prop:=∃y:Ev,e=.returned y.val/\y.e.f=x.f/\EOf y.e/\EvIn w' y/\Below w.heap.size w w'/\y.fa=x.a/\(∀g o,y.pa=some ⟨g,o,none⟩->y.e.pk≠ []->(x.a=some ⟨g,o,none⟩/\y.e.f.bytes≠ [])\/o=0)
def RX (W:World)(X:Nat)(v0 v1 v2 v3 v4 v5 v6 v7:Value)(Wf:World):Prop:=Ni W X v0 v1 v2 v3 v4 v5 v6 v7=Wf
theorem Z2t (W:World)(X:Nat)(E M O H G F I T:Value):∃U,RX W X E M O H G F I T U:=⟨Ni W X E M O H G F I T,rfl⟩
theorem DX {a w:World}{X:Nat}{E O T H G F I Y:Value}(M:Below a.heap.size a w)(U:a.heap.size<=X):Below a.heap.size a (Ni w X E O T H G F I Y):=by
 have one:∀ {W:World} (i:Nat) (v:Value),Below a.heap.size a W->Below a.heap.size a (W.setCell ⟨X,i,none⟩ v):=fun {W} i v hW=>hW.grown (Ad W X i v) hW.size (fun g e=>by cases e;exact U)
 exact one 7 _ (one 6 _ (one 5 _ (one 4 _ (one 3 _ (one 2 _ (one 1 _ (one 0 _ M)))))))
theorem RP {w E:World}(F:Below w.drew.heap.size w.drew E):Below w.heap.size w E:=(Ea (Below.refl _ _)).trans F
theorem RO {w E:World}{o:Obj}(F:Below (w.alloc o).drew.heap.size (w.alloc o).drew E):Below w.heap.size w E:=(Ea (Ck (Below.refl _ _) _)).trans (F.mono (by simp[World.drew]))
theorem RN {w E:World}{o:Obj}(F:Below (w.drew.alloc o).heap.size (w.drew.alloc o) E):Below w.heap.size w E:=(Ck (Ea (Below.refl _ _)) _).trans (F.mono (by rw[World.size_alloc];exact Nat.le_succ _))
theorem Z4d {w E:World}{o:Obj}(F:Below (w.alloc o).drew.heap.size (w.alloc o).drew E):E.heap[w.heap.size]? =some o:=(F.block w.heap.size (by simp[World.drew])).trans (heap_alloc_new w o)
theorem Z3 (x:Fv)(w:World)(h:FvIn w x)(a7:x.f.bytes.length<=3000):
 Calls Tryz.prog 35 #[x.val] w fun e w'=>EoA w x e w':=by
 have bw:=Ab h;have af:=Z5j h.bs;have as:=RE h.bs;obtain⟨⟨nml,bys,st,nd,gn⟩,fa,fc⟩:=x;rw[Nw];dsimp only at a7 af as ⊢;have ap:=Da bys;have a6:=Lv bys;have a1:=Er a6;obtain⟨bs,a0⟩:=exq (n8 bys);have cy:=a0;rw[a0]at af ap a6 a1;obtain⟨n,a5⟩:=exq (bys.length);rw[a5]at a7 as ap ⊢;obtain⟨nm,a4⟩:=exq (B nml);rw[a4];obtain⟨m,hm⟩:=exq (crcN 0 bs);obtain⟨E,al⟩:=exq ((w.alloc (.cells #[.string nm,.slice fa n fc,.int .i64 st,.int .i64 nd,.bool gn] 30)).alloc (.cells ez 71));have a3:E.heap.size=w.heap.size+2:=by rw[<-al];simp
 have av:Below w.heap.size w E:=by rw[<-al];exact((Below.refl _ _).alloc (VB _) _).alloc (by simp) _
 have an:E.heap[w.heap.size]? =some (.cells #[.string nm,.slice fa n fc,.int .i64 st,.int .i64 nd,.bool gn] 30 (0,0)):=by rw[<-al];exact(Below.heap_alloc _ _ _ (by simp)).trans (heap_alloc_new w _)
 have bv:E.heap[w.heap.size+1]? =some (.cells ez 71 (0,0)):=by
  have:=heap_alloc_new (w.alloc (.cells #[.string nm,.slice fa n fc,.int .i64 st,.int .i64 nd,.bool gn] 30)) (.cells ez 71)
  rw[<-al];simpa using this
 have bj:∀W:World,Below E.heap.size E W->Calls Tryz.prog 53 #[.slice fa n fc] W fun e w'=>e=.returned (.int .u32 (m:Int))/\Below W.heap.size W w':=fun W M=>by
  have:=AQ fa n fc bs W ap (by omega) (af.below (av.trans (M.mono (by omega)))).1 a1
  rw[hm]at this;exact this
 have bm:∀W:World,Below E.heap.size E W->Calls Tryz.prog 54 #[.slice fa n fc] W fun e w'=>∃g c out,e=.returned (.tuple #[.slice (some ⟨g,0,none⟩) (GA bs (bestP bs 3)) c,.int .i64 (bestP bs 3:Nat),.int .i64 0])/\g<w'.heap.size/\Bytes w' g 0 out/\IsOne bs (bestP bs 3) out/\Below W.heap.size W w':=fun W M=>Z5n fa n fc bs W ap as af.2 (af.below (av.trans (M.mono (by omega)))).1 a1 a7
 have cz:∀W:World,Below E.heap.size E W->W.cell? ⟨w.heap.size,0,none⟩=some (.string nm):=fun W M=>(M.cell (p:=⟨w.heap.size,0,none⟩) (by dsimp only;omega)).trans (Ac an)
 have k1:∀W:World,Below E.heap.size E W->W.cell? ⟨w.heap.size,1,none⟩=some (.slice fa n fc):=fun W M=>(M.cell (p:=⟨w.heap.size,1,none⟩) (by dsimp only;omega)).trans (Ac an)
 have k2:∀W:World,Below E.heap.size E W->W.cell? ⟨w.heap.size,2,none⟩=some (.int .i64 st):=fun W M=>(M.cell (p:=⟨w.heap.size,2,none⟩) (by dsimp only;omega)).trans (Ac an)
 have cg:∀W:World,Below E.heap.size E W->W.cell? ⟨w.heap.size,3,none⟩=some (.int .i64 nd):=fun W M=>(M.cell (p:=⟨w.heap.size,3,none⟩) (by dsimp only;omega)).trans (Ac an)
 have cw:∀W:World,Below E.heap.size E W->W.cell? ⟨w.heap.size,4,none⟩=some (.bool gn):=fun W M=>(M.cell (p:=⟨w.heap.size,4,none⟩) (by dsimp only;omega)).trans (Ac an)
 have b9:=Ab bj;have cm:=Ab bm;have ck:=Ab al;have ce:=Ab bv;have cn:=Ab av;have cq:=Ab a3;have bn:=Ab a4;have Z:=Ab a5;have aa:=Ab a0;have bi:=Ab hm;have ak:=Ab af;clear h af ap a6 a1 a0 cy a5 a4 hm al av an bv bj bm a3;go_enter Tryz.func35,Tryz.ntmps35
 go_upto_region 1 with fail
 rw[Aa ck];go_cut [3] (fun co wc=>∃X,co=.pointer (some ⟨X,0,none⟩)/\Hid (wc.heap[X]? =some (.cells (ec (.string nm) (.slice fa n fc) (.int .i64 st) (.int .i64 nd) (.bool gn) (.int .u32 0) (.slice fa n fc) (.int .u32 (m:Int))) 71 (0,0))/\E.heap.size<=X/\Below E.heap.size E wc))
 case first=>
  go_region_held3 (fun W=>Below E.heap.size E W) (first|O exact Ea (Below.refl _ _)|O exact ai|O exact Ck ai _|O exact Ea (Ck (Below.refl _ _) _)|O exact Ck (Ea (Below.refl _ _)) _|O exact DX ai (VB _)) ((go_at_call 53;refine(Aa b9 _ (by first|O exact Ea (Below.refl _ _)|O exact Ea (Ck (Below.refl _ _) _)|O exact Ck (Ea (Below.refl _ _)) _)).mono ?_;rintro e U ⟨rfl,ax⟩;have ai:Below E.heap.size E U:=(by first|O exact RP ax|O exact RO ax|O exact RN ax);try (have G:=(by O exact Z4d ax:U.heap[E.heap.size]? =some (.cells ez 71 (0,0)));have c5:=Ac (i:=0) G;have x1:=Ac (i:=1) G;have x2:=Ac (i:=2) G;have x3:=Ac (i:=3) G;have x4:=Ac (i:=4) G;have dh:=Ac (i:=5) G;have da:=Ac (i:=6) G;have de:=Ac (i:=7) G;have c8:=frozen_of_row U E.heap.size 0 _ _ G;have y1:=frozen_of_row U E.heap.size 1 _ _ G;have y2:=frozen_of_row U E.heap.size 2 _ _ G;have db:=frozen_of_row U E.heap.size 3 _ _ G;have df:=frozen_of_row U E.heap.size 4 _ _ G;have dc:=frozen_of_row U E.heap.size 5 _ _ G;have c9:=frozen_of_row U E.heap.size 6 _ _ G;have c3:=frozen_of_row U E.heap.size 7 _ _ G)))
  all_goals go_wp2_with fail
  all_goals go_meet
  . exact⟨_,rfl,Ab ⟨heap_alloc_new _ _,ai.size,Ck ai _⟩⟩
  . exact⟨_,rfl,Ab ⟨(Z7g U E.heap.size 71 _ _ _ _ _ _ _ _ _ _ _ _ _ _ _ _ G).1,VB _,DX ai (VB _)⟩⟩
 case rest=>
  obtain⟨X,rfl,bh⟩:=hcut;obtain⟨bq,dj,a8⟩:=Aa bh;have c1:=k1 wc a8;have bk:=Ab bq;have aw:=Ab a8;clear bh bq a8 cz k1 k2 cg cw;go_wp2_with fail
  refine(Aa cm wc (Aa aw)).mono ?_;rintro e w6 ⟨g,c,out,rfl,bc,au,ah,az⟩;have aj:=ah.len;have I:w6.heap[X]? =some (.cells (ec (.string nm) (.slice fa n fc) (.int .i64 st) (.int .i64 nd) (.bool gn) (.int .u32 0) (.slice fa n fc) (.int .u32 (m:Int))) 71 (0,0)):=(az.block X (VK.1 (Aa bk)).1).trans (Aa bk);have ar:Below E.heap.size E w6:=(Aa aw).trans (az.mono (Aa aw).size);have a3:=Aa cq;have F:w6.heap[w.heap.size+1]? =some (.cells ez 71 (0,0)):=(ar.block _ (by omega)).trans (Aa ce)
  have dl:w6.cell? ⟨w.heap.size,1,none⟩=some (.slice fa n fc):=by
   have:=ar.cell (p:=⟨w.heap.size,1,none⟩) (by dsimp only;omega)
   have b5:=(Aa aw).cell (p:=⟨w.heap.size,1,none⟩) (by dsimp only;omega);rw[this,<-b5];exact c1
  obtain⟨L,ay⟩:=exq (GA bs (bestP bs 3));obtain⟨K,hK⟩:=exq (bestP bs 3);rw[ay]at aj;rw[ay,hK];have bu:=Ac (i:=0) I;have b3:=Ac (i:=1) I;have bz:=Ac (i:=2) I;have ch:=Ac (i:=3) I;have b0:=Ac (i:=4) I;have cd:=Ac (i:=5) I;have b7:=Ac (i:=6) I;have cu:=Ac (i:=7) I;have c7:=frozen_of_row w6 X 5 _ _ I;have c4:=frozen_of_row w6 X 6 _ _ I;have r0:=Ac (i:=0) F;have r1:=Ac (i:=1) F;have r2:=Ac (i:=2) F;have cp:=Ac (i:=3) F;have ct:=Ac (i:=4) F;have cv:=Ac (i:=5) F;have b4:=Ac (i:=6) F;have ci:=Ac (i:=7) F;have c6:=frozen_of_row w6 (w.heap.size+1) 0 _ _ F;have g1:=frozen_of_row w6 (w.heap.size+1) 1 _ _ F;have g2:=frozen_of_row w6 (w.heap.size+1) 2 _ _ F;have g3:=frozen_of_row w6 (w.heap.size+1) 3 _ _ F;have di:=frozen_of_row w6 (w.heap.size+1) 4 _ _ F;have dd:=frozen_of_row w6 (w.heap.size+1) 5 _ _ F;have g6:=frozen_of_row w6 (w.heap.size+1) 6 _ _ F;have dg:=frozen_of_row w6 (w.heap.size+1) 7 _ _ F;simp only[VZ,VY,WI]at bu b3 bz ch b0 cd b7 cu r0 r1 r2 cp ct cv b4 ci;have bo:w.heap.size+1≠X:=by omega
  have am:Below w.heap.size w w6:=(Aa cn).trans (ar.mono (by omega));have bt:=(VK.1 I).1;have bg:=ah.pos;have ag:=au 0 bg;have be:g≠X:=fun e=>by rw[e]at ag;rw[bu]at ag;cases ag
  have bb:g≠w.heap.size+1:=fun e=>by rw[e]at ag;rw[r0]at ag;cases ag
  have ba:bs.length=n:=by rw[<-Aa aa,Da];exact Aa Z
  clear bg ag
  by_cases bd:L<n
  . have cl:(L:Int)<(n:Int):=by omega
    have k1:=Ad w6 X 5 (.int .u32 8);have k2:=Ad (w6.setCell ⟨X,5,none⟩ (.int .u32 8)) X 6 (.slice (some ⟨g,0,none⟩) L c);have kk:=Aj k1 k2;obtain⟨ac,ab⟩:=Z7g ((w6.setCell ⟨X,5,none⟩ (.int .u32 8)).setCell ⟨X,6,none⟩ (.slice (some ⟨g,0,none⟩) L c)) (w.heap.size+1) 71 _ _ _ _ _ _ _ _ (.string nm) (.slice fa n fc) (.int .i64 st) (.int .i64 nd) (.bool gn) (.int .u32 8) (.slice (some ⟨g,0,none⟩) L c) (.int .u32 (m:Int)) ((kk.block _ (by omega) (by simp;exact bo)).trans F);have ao:PkIn (Ni ((w6.setCell ⟨X,5,none⟩ (.int .u32 8)).setCell ⟨X,6,none⟩ (.slice (some ⟨g,0,none⟩) L c)) (w.heap.size+1) (.string nm) (.slice fa n fc) (.int .i64 st) (.int .i64 nd) (.bool gn) (.int .u32 8) (.slice (some ⟨g,0,none⟩) L c) (.int .u32 (m:Int))) fa fc bs:=(((Aa ak).below am).grown kk (fun H o Y e2=>by have:=Xm (Aa ak) H o Y e2;simp;omega)).grown ab (fun H o Y e2=>by have:=Xm (Aa ak) H o Y e2;simp;omega)
    have aq:Hid (EoA w ⟨⟨nml,bys,st,nd,gn⟩,fa,fc⟩ (.returned (.agg #[(.string nm),(.slice fa n fc),(.int .i64 st),(.int .i64 nd),(.bool gn),(.int .u32 8),(.slice (some ⟨g,0,none⟩) L c),(.int .u32 (m:Int))])) (Ni ((w6.setCell ⟨X,5,none⟩ (.int .u32 8)).setCell ⟨X,6,none⟩ (.slice (some ⟨g,0,none⟩) L c)) (w.heap.size+1) (.string nm) (.slice fa n fc) (.int .i64 st) (.int .i64 nd) (.bool gn) (.int .u32 8) (.slice (some ⟨g,0,none⟩) L c) (.int .u32 (m:Int)))):=Ab (by
     refine⟨⟨⟨⟨nml,bys,st,nd,gn⟩,8,out,m⟩,fa,fc,some ⟨g,0,none⟩,c⟩, ?_,rfl,⟨by dsimp only;rw[Aa aa,Aa bi],out,by dsimp only;rw[Aa aa];exact ah,.inl ⟨by dsimp only;rw[aj,Aa Z];exact bd,rfl,rfl⟩⟩,⟨by dsimp only;rw[Aa aa];exact ao,by dsimp only;rw[Aa Z];exact as,by dsimp only;rw[Aa Z];omega,(Aa bw).txt,((show PkIn w6 (some ⟨g,0,none⟩) c out from ⟨.inr ⟨g,0,rfl,bc,au⟩,fun e=>by cases e⟩).grown kk (fun H o e _=>by cases e;simp;exact be)).grown ab (fun H o e _=>by cases e;simp;exact bb)⟩, ?_,rfl,fun H o e _=>by cases e;exact .inr rfl⟩
     . unfold Ev.val;dsimp only;rw[Aa bn,Aa Z,aj]
       first|done|rfl
     . have cj:=kk.size;exact(am.grown kk (by omega) (fun H e=>by cases e;omega)).grown ab (by omega) (fun H e=>by cases e;omega))
    obtain⟨a2,ae⟩:=Z2t ((w6.setCell ⟨X,5,none⟩ (.int .u32 8)).setCell ⟨X,6,none⟩ (.slice (some ⟨g,0,none⟩) L c)) (w.heap.size+1) (.string nm) (.slice fa n fc) (.int .i64 st) (.int .i64 nd) (.bool gn) (.int .u32 8) (.slice (some ⟨g,0,none⟩) L c) (.int .u32 (m:Int));have T:Ni ((w6.setCell ⟨X,5,none⟩ (.int .u32 8)).setCell ⟨X,6,none⟩ (.slice (some ⟨g,0,none⟩) L c)) (w.heap.size+1) (.string nm) (.slice fa n fc) (.int .i64 st) (.int .i64 nd) (.bool gn) (.int .u32 8) (.slice (some ⟨g,0,none⟩) L c) (.int .u32 (m:Int))=a2:=ae;rw[T]at aq ac;have a9:=Ab ae;clear ae T;have bf:=Ab ac;clear ac ab ao I F ar am au ah az aj ay hK bc be bb bt bd ba k1 k2 kk;go_wp2;have T:=Aa a9;unfold RX at T;subst T;refine bodyPost_ret (v:=.agg #[(.string nm),(.slice fa n fc),(.int .i64 st),(.int .i64 nd),(.bool gn),(.int .u32 8),(.slice (some ⟨g,0,none⟩) L c),(.int .u32 (m:Int))]) ?_ rfl (Aa aq);exact results_cell_row rfl _ _ _ _ _ _ _ rfl (Aa bf) Tryz.underlying71 rfl (by kernel_rfl)
  . have cl:¬(L:Int)<(n:Int):=by omega
    have kk:=Aw w6 (some X);obtain⟨ac,ab⟩:=Z7g w6 (w.heap.size+1) 71 _ _ _ _ _ _ _ _ (.string nm) (.slice fa n fc) (.int .i64 st) (.int .i64 nd) (.bool gn) (.int .u32 0) (.slice fa n fc) (.int .u32 (m:Int)) ((kk.block _ (by omega) (by simp;exact bo)).trans F);have ao:PkIn (Ni w6 (w.heap.size+1) (.string nm) (.slice fa n fc) (.int .i64 st) (.int .i64 nd) (.bool gn) (.int .u32 0) (.slice fa n fc) (.int .u32 (m:Int))) fa fc bs:=(((Aa ak).below am).grown kk (fun H o Y e2=>by have:=Xm (Aa ak) H o Y e2;simp;omega)).grown ab (fun H o Y e2=>by have:=Xm (Aa ak) H o Y e2;simp;omega)
    have aq:Hid (EoA w ⟨⟨nml,bys,st,nd,gn⟩,fa,fc⟩ (.returned (.agg #[(.string nm),(.slice fa n fc),(.int .i64 st),(.int .i64 nd),(.bool gn),(.int .u32 0),(.slice fa n fc),(.int .u32 (m:Int))])) (Ni w6 (w.heap.size+1) (.string nm) (.slice fa n fc) (.int .i64 st) (.int .i64 nd) (.bool gn) (.int .u32 0) (.slice fa n fc) (.int .u32 (m:Int)))):=Ab (by
     refine⟨⟨⟨⟨nml,bys,st,nd,gn⟩,0,bs,m⟩,fa,fc,fa,fc⟩, ?_,rfl,⟨by dsimp only;rw[Aa aa,Aa bi],out,by dsimp only;rw[Aa aa];exact ah,.inr ⟨by dsimp only;rw[aj,Aa Z];omega,rfl,by dsimp only;rw[Aa aa]⟩⟩,⟨by dsimp only;rw[Aa aa];exact ao,by dsimp only;rw[Aa Z];exact as,by dsimp only;rw[Aa Z];omega,(Aa bw).txt,ao⟩, ?_,rfl,fun H o Y e2=>.inl ⟨Y,fun e=>e2 (by have b8:bys= []:=e;dsimp only;rw[<-Aa aa,b8];rfl)⟩⟩
     . unfold Ev.val;dsimp only;rw[Aa bn,Aa Z,ba]
       first|done|rfl
     . have cj:=kk.size;exact(am.grown kk (by omega) (fun H e=>by cases e;omega)).grown ab (by omega) (fun H e=>by cases e;omega))
    obtain⟨a2,ae⟩:=Z2t w6 (w.heap.size+1) (.string nm) (.slice fa n fc) (.int .i64 st) (.int .i64 nd) (.bool gn) (.int .u32 0) (.slice fa n fc) (.int .u32 (m:Int));have T:Ni w6 (w.heap.size+1) (.string nm) (.slice fa n fc) (.int .i64 st) (.int .i64 nd) (.bool gn) (.int .u32 0) (.slice fa n fc) (.int .u32 (m:Int))=a2:=ae;rw[T]at aq ac;have a9:=Ab ae;clear ae T;have bf:=Ab ac;clear ac ab ao I F ar am au ah az aj ay hK bc be bb bt bd ba kk;go_wp2;have T:=Aa a9;unfold RX at T;subst T;refine bodyPost_ret (v:=.agg #[(.string nm),(.slice fa n fc),(.int .i64 st),(.int .i64 nd),(.bool gn),(.int .u32 0),(.slice fa n fc),(.int .u32 (m:Int))]) ?_ rfl (Aa aq);exact results_cell_row rfl _ _ _ _ _ _ _ rfl (Aa bf) Tryz.underlying71 rfl (by kernel_rfl)
def WrA (w:World)(fs:List Fl)(e:Ending)(w':World):Prop:=
 Below w.heap.size w w'/\((errM fs≠0/\e=.returned (.tuple #[.slice none 0 0,.int .i64 (errM fs:Nat)]))\/ (errM fs=0/\∃l:List En,l.map En.f=fs/\(∀x∈l,EOf x)/\((12000<(Be l).length/\e=.returned (.tuple #[.slice none 0 0,.int .i64 11]))\/ ((Be l).length<=12000/\∃a c,e=.returned (.tuple #[.slice a (Be l).length c,.int .i64 0])/\(Be l).length<=c/\PkIn w' a c (Be l)))))
theorem FE {w:World}{I:Nat}{v:Value}{xs:List Ev}{G:Nat}(F:ERow w I v xs)(O:v.ownBlock=some G)(T:xs≠ []):∃s,w.cell? ⟨G,0,none⟩=some (.string s):=by
 obtain⟨ad,c,rfl,Y⟩:=F.entries
 cases xs with
 |nil=>exact absurd rfl T
 |cons x r=>
  rcases Y.at_ with E|⟨b,o,rfl,hb,U⟩
  . cases E
  . have M:=U 0 x rfl 0 (by decide);have Z:=Ba F.own (by simp);obtain⟨aa,cap,H,_⟩:=Z
    cases H
    cases O
    have E:w.cell? ⟨b,0+0*8+0,none⟩=some (.string (B x.e.f.name)):=M;exact⟨_,E⟩
theorem EOf.num {x:En}(T:EOf x)(Z:Mq x.f=0):ENum x/\∀y∈x.pk,y<256:=by
 obtain⟨Y,M,G,O,H,U⟩:=Yi Z;have I:x.crc<4294967296:=by rw[T.cr];exact Z5b (Lv _) (by decide)
 obtain⟨out,aa,(⟨ab,F,E⟩|⟨ab,F,E⟩)⟩:=T.pk
 . exact⟨⟨⟨G,O⟩,⟨H,U⟩,Y,M,by rw[E];omega,I,by rw[F];decide⟩,by rw[E];exact Yf aa.val⟩
 . exact⟨⟨⟨G,O⟩,⟨H,U⟩,Y,M,by rw[E,Da];omega,I,by rw[F];decide⟩,by rw[E];exact Lv _⟩
theorem EB (aq:Option Addr)(c n:Nat)(xs:List Fv)(w:World)(h:FsIn w aq c xs)(ax:xs.length=n):
 Calls Tryz.prog 7 #[.slice aq n c] w fun e w'=>WrA w (fls xs) e w':=by
 have a6:=Ab (Sv aq c xs w h n ax);obtain⟨E,as⟩:=exq (errM (fls xs));rw[as]at a6;have b7:=Ab h;have ak:=Ab ax;have aj:=Ab as;clear h ax as;go_enter Tryz.func7,Tryz.ntmps7
 go_wp2_with fail
 refine(Aa a6).mono ?_;rintro e dg ⟨rfl,ap⟩
 by_cases a1:E=0
 . subst a1;have az:=Mr (Aa aj)
   have cj:n<=12:=by
    have be:=az.1;have bf:=Aa ak;simp[fls]at be
    omega
   have bu:∀x∈xs,Mq x.f=0:=fun x F=>az.2 x.f (XV F)
   have bz:=Ab bu;have cw:=Ab ap;clear ap az bu a6;go_wp2;go_loopw [5,7,16] (fun a9 _ i wr=>∃(k:Nat) (es:List Ev),k<=n/\i=.int .i64 (k:Int)/\Hid (ERow wr w.heap.size a9 es/\es.map (fun y=>y.e.f)=(fls xs).take k/\(∀y∈es,EOf y.e)/\(es= []->a9=.slice none 0 0))/\Hid (Below w.heap.size w wr)) (fun _ _ i _=>n-(intOf i).toNat)
   case atStart=>exact⟨0,[],VH _,rfl,Ab ⟨ERow.nil _ _,by simp,(fun y au=>absurd au XE),fun _=>rfl⟩,cw⟩
   case round=>
    obtain⟨k,es,dq,rfl,ae,ah⟩:=hrel
    have ai:es.length=k:=by
     have:=congrArg List.length (Aa ae).2.1
     have bf:=Aa ak;simp[fls]at this
     omega
    by_cases dd:k<n
    . obtain⟨x,F,av⟩:=Ob (xs:=xs) (k:=k) (by rw[Aa ak];exact dd);obtain⟨b,o,rfl,hb,c0,c1,c2,a0,ab⟩:=(Aa b7).get (Aa ah) F;have H:=(Aa ah).size;have a5:=(Aa b7).all x av;have G:=Ab (fun(W:World) (dj:Below w.heap.size w W)=>Z3 x W (a5.below dj (VB _)) (by have:=Yi (Aa bz x av);omega));have bg:(fls xs).take (k+1)=(fls xs).take k++ [x.f]:=Eu (by simp[fls,F])
      have bw:∀g o,x.a=some ⟨g,o,none⟩->x.f.bytes≠ []->g<w.heap.size:=fun g o I e2=>by
       have:=Xm (Z5j a5.bs) g o I (fun e=>e2 (by rw[<-FQ x.f.bytes,e];rfl))
       exact this
      have db:=Ab bw;have da:=Ab bg;rw[Nw]at G;unfold Fv.sl at c1;clear F av a5 bg bw;have c8:=Ab ai;have ba:∀o1:Obj,Below w.heap.size w (wr.alloc o1):=fun o1=>(Aa ah).alloc H o1
      have bt:=Ab ba;have ct:=Ab (fun o1:Obj=>(Aa ae).1.below ((Below.refl wr.heap.size wr).alloc (VB _) o1));obtain⟨U,b3,ds⟩:=x;dsimp only at c0 c1 c2 a0 ab;have cz:=G;clear ba ai;generalize co:B U.name=nm at c0 G;generalize c4:U.bytes.length=bl at c1 G;generalize ci:U.stamp=st at c2 G;generalize cy:U.node=nd at a0 G;generalize c6:U.gone=gn at ab G;clear co c4 ci cy c6 cz;go_wp2_with fail
      refine(Aa G _ (Aa bt _)).mono ?_;rintro e M ⟨y,rfl,ac,bd,ay,a3,ao,bb⟩;replace ac:y.e.f=U:=ac;replace ao:y.fa=b3:=ao;have T:=(Aa bt _).trans (a3.mono (by simp;omega));have Y:=(Aa ct _).below a3
      have bi:y.lies (fun g=>some g≠u5.ownBlock):=by
       have hold:∀g o,b3=some ⟨g,o,none⟩->U.bytes≠ []->some g≠u5.ownBlock:=fun g o I e2 e3=>by
        have be:=Aa db g o I e2;have bf:=(Y.own.lt g e3.symm).1;omega
       constructor
       . intro g o I e2;exact hold g o (ao.symm.trans I) (by rw[<-ac];exact e2)
       . intro g o I e2
         rcases bb g o I e2 with ⟨af,Z⟩|rfl
         . exact hold g o af (by rw[<-ac];exact Z)
         . intro e3
           have df:es≠ []:=by
            intro cn;rw[(Aa ae).2.2.2 cn]at e3
            cases e3
           obtain⟨s,ck⟩:=FE Y e3.symm df
           rcases ay.pk.1 with cl|⟨dr,dm,bv,dn,cp⟩
           . exact e2 cl
           . rw[I]at bv
             cases bv
             have:=cp 0 (List.length_pos_iff.2 e2)
             rw[WG,ck]at this
             cases this
      have b0:=Ab (fun o1:Obj=>Y.below ((Below.refl M.heap.size M).alloc (VB _) o1));have c7:=Ab (fun o1:Obj=>ay.below ((Below.refl M.heap.size M).alloc (VB _) o1));have cq:=Ab bi;have c3:=Ab bd;have cm:=Ab ac;have de:=T.size;have ch:=Ab (fun o1:Obj=>T.alloc de o1);have cv:es.length+1<=100000:=by rw[Aa c8];omega
      have di:Hid (∀o1,o1=Obj.cells y.cells.toArray 71->∀j u,y.cells[j]? =some u->(M.alloc o1).cell? ⟨M.heap.size,j,none⟩=some u):=Ab (fun o1 e j u dc=>by
       subst e;rw[Ac (heap_alloc_new M _)];simpa using dc)
      clear a3 T Y bi ay bd ac ao bb G c0 c1 c2 a0 ab;unfold Ev.val;go_wp2_with (at_builtin;refine Fr _ rfl _ _ rfl w.heap.size _ es rfl (Aa b0 _) M.heap.size y rfl (Aa di _ rfl) (Aa c7 _) (Aa cq) cv (by simp;omega) ?_)
      intro v' w3 bc b5
      have c9:Hid (ERow w3 w.heap.size v' (es++ [y])/\(es++ [y]).map (fun y=>y.e.f)=(fls xs).take (k+1)/\(∀z∈es++ [y],EOf z.e)/\(es++ [y]= []->v'=.slice none 0 0)):=Ab (by
       refine⟨Aa bc, ?_,fun z H=> ?_,fun e=>by simp at e⟩
       . rw[WU,(Aa ae).2.1,Aa da];simp[Aa cm]
       . rcases WP.1 H with H|H
         . exact(Aa ae).2.2.1 z H
         . rw[WO.1 H];exact Aa c3)
      have c5:Hid (Below w.heap.size w w3):=Ab ((Aa ch _).grown (Aa b5) (by simp;omega) (fun g e=>((Aa b0 (.cells y.cells.toArray 71)).own.lt g e).1));clear bc b5;go_wp2;go_roundw
      case rel=>exact⟨k+1,es++ [y],by omega,by go_num,c9,c5⟩
      case measure=>simp[intOf];omega
    . obtain rfl:n=k:=by omega
      obtain⟨Y,aw,b4,_⟩:=Aa ae;have bk:(fls xs).take n=fls xs:=VV (by simp[fls,Aa ak]);rw[bk]at aw;obtain⟨cg,c2,bm,bh⟩:=Y.entries;rw[ai]at bm;subst bm;obtain⟨l,aa⟩:=exq (es.map Ev.e);have a7:l.map En.f=fls xs:=by rw[<-aa,ZU];exact aw
      have a2:∀x∈l,EOf x:=by
       rw[<-aa];intro x F;obtain⟨y,au,rfl⟩:=XG.1 F;exact b4 y au
      have cd:∀x∈l,Mq x.f=0:=fun x F=>by
       have:x.f∈fls xs:=by rw[<-a7];exact XV F
       obtain⟨z,H,ce⟩:=XG.1 this;rw[<-ce];exact Aa bz z H
      have bj:∀x∈es,ENum x.e:=fun x F=>((a2 x.e (by rw[<-aa];exact XV F)).num (cd x.e (by rw[<-aa];exact XV F))).1
      have am:=Ab (Sz cg c2 n es wr bh ai cj bj);rw[aa]at am;have b9:=Ab a7;have bn:=Ab a2;clear Y aw b4 bk bh aa a7 a2 cd bj ai;go_wp2_with fail
      refine(Aa am).mono ?_;rintro e b8 ⟨dl,rfl,a4,T⟩;obtain⟨bq,ab,rfl,af,Z,bo,a8⟩:=Ve a4;have al:=(Aa ah).trans (T.mono (Aa ah).size);obtain⟨an,O⟩:=exq ((Be l).length);rw[O]at Z;rw[O]
      by_cases ar:12000<an
      . have ag:Hid (WrA w (fls xs) (.returned (.tuple #[.slice none 0 0,.int .i64 11])) b8):=Ab ⟨al,.inr ⟨Aa aj,l,Aa b9,Aa bn,.inl ⟨by rw[O];exact ar,rfl⟩⟩⟩;have dh:(12000:Int)<(an:Int):=by omega
        clear T al a4 af Z bo a8 O ar am;go_wp2;go_ret2;exact Aa ag
      . have ag:Hid (WrA w (fls xs) (.returned (.tuple #[.slice bq an ab,.int .i64 0])) b8):=Ab ⟨al,.inr ⟨Aa aj,l,Aa b9,Aa bn,.inr ⟨by rw[O];omega,bq,ab,by rw[O],by rw[O];exact Z,af⟩⟩⟩;have dh:¬(12000:Int)<(an:Int):=by omega
        clear T al a4 af Z bo a8 O ar am;go_wp2;go_ret2;exact Aa ag
 . have ag:Hid (WrA w (fls xs) (.returned (.tuple #[.slice none 0 0,.int .i64 (E:Int)])) dg):=Ab ⟨ap,.inl ⟨by rw[Aa aj];exact a1,by rw[Aa aj]⟩⟩;have cu:((E:Int)==0)=false:=by rw[beq_eq_false_iff_ne];omega
   have dp:((E:Int)!=0)=true:=by rw[bne,cu];rfl
   clear ap a1;go_wp2;go_ret2;exact Aa ag
end Go.Proofs.YtleocpdblhbimaaGreatDoor
