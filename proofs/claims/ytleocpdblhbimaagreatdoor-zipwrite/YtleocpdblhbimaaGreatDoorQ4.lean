import Derived.Test.YtleocpdblhbimaaGreatDoorQ3
import Derived.OwnWalk
set_option linter.unusedSimpArgs false
set_option maxHeartbeats 1000000
namespace Go.Proofs.YtleocpdblhbimaaGreatDoor
set_option linter.unusedVariables false
set_option maxRecDepth 100000
theorem Pu {row:List Bool}{n:Nat}{u:US}(h:(uget row n u).2.e=0):u.e=0:=by
 unfold uget at h
 by_cases e:u.e=0
 . exact e
 . rw[if_neg e]at h;exact h
theorem Cs {x:Int}{u:US}(hx:x≠0):(Ck x u).e≠0:=by
 unfold Ck
 by_cases e:u.e=0
 . rw[if_pos e];exact hx
 . rw[if_neg e];exact e
theorem V0 {l:List Int}{row:List Bool}{u:US}(h:(uplace l row u).2.e=0):u.e=0:=by
 unfold uplace at h
 by_cases e:u.e=0
 . exact e
 . rw[if_neg e]at h;exact h
theorem Oj {row:List Bool}:∀ {ks:List Nat} {s:List Int} {u:US},(usmall row ks s u).2.e=0->u.e=0
 | [],s,u,h=>h
 |k::r,s,u,h=>by
  rw[usmall]at h;exact Pu (Oj h)
structure Round (row:List Bool)(small:List Int)(tot:Nat)(l:List Int)(u:US):Prop where
 pe:(uplace small row u).2.e=0
 ke:(ukind row l (uplace small row u).1 (uplace small row u).2).2.2.e=0
 le:l.length+(ukind row l (uplace small row u).1 (uplace small row u).2).2.1<=tot
 st:ustep row small tot l u=(l++List.replicate (ukind row l (uplace small row u).1 (uplace small row u).2).2.1 (ukind row l (uplace small row u).1 (uplace small row u).2).1,(ukind row l (uplace small row u).1 (uplace small row u).2).2.2)
theorem FX {row:List Bool}{l:List Int}{k:Nat}{u:US}(h:(ukind row l k u).2.2.e=0):u.e=0:=by
 unfold ukind at h
 split at h
 . split at h
   . exact absurd h (Cs (by decide))
   . exact Pu h
 . split at h
   . exact Pu h
   . split at h
     . exact Pu h
     . exact h
theorem BP {row:List Bool}{small:List Int}{tot F:Nat}{l:List Int}{u:US}(h:u.e≠0):ulens row small tot F l u=(l,u):=by
 cases F with
 |zero=>rfl
 |succ F=>rw[ulens,if_neg (fun h2=>h h2.2)]
theorem Kc {row:List Bool}{small:List Int}{tot F:Nat}{l:List Int}{u:US}(hl:l.length<tot)(he:u.e=0)(hF:(ulens row small tot (F+1) l u).2.e=0):Round row small tot l u/\ulens row small tot (F+1) l u=ulens row small tot F (ustep row small tot l u).1 (ustep row small tot l u).2:=by
 have e1:ulens row small tot (F+1) l u=ulens row small tot F (ustep row small tot l u).1 (ustep row small tot l u).2:=by rw[ulens,if_pos ⟨hl,he⟩]
 have e2:(ustep row small tot l u).2.e=0:=by
  by_cases e:(ustep row small tot l u).2.e=0
  . exact e
  . rw[e1,BP e]at hF;exact absurd hF e
 refine⟨?_,e1⟩;unfold ustep ON at e2;simp only at e2
 by_cases hc:(ukind row l (uplace small row u).1 (uplace small row u).2).2.2.e=0/\tot<l.length+(ukind row l (uplace small row u).1 (uplace small row u).2).2.1
 . rw[if_pos hc]at e2;exact absurd e2 (Cs (by decide))
 . rw[if_neg hc]at e2;refine⟨FX e2,e2,by omega, ?_⟩;unfold ustep ON;rw[if_neg hc]
theorem Xy {row:List Bool}{small:List Int}{tot:Nat}:∀(F:Nat) (l:List Int) (u:US),tot<=l.length+F->l.length<=tot->u.e=0->(ulens row small tot F l u).2.e=0->(∀l u,Round row small tot l u->1<=(ukind row l (uplace small row u).1 (uplace small row u).2).2.1)->(ulens row small tot F l u).1.length=tot
 |0,l,u,h1,h2,he,hF,hp=>by rw[ulens];simp only;omega
 |F+1,l,u,h1,h2,he,hF,hp=>by
  by_cases hl:l.length<tot
  . obtain⟨r,e⟩:=Kc hl he hF;have h3:=hp l u r;have h4:=r.le;rw[e]at hF ⊢;rw[r.st]at hF ⊢;exact Xy F _ _ (by simp;omega) (by simp;omega) r.ke hF hp
  . rw[ulens,if_neg (fun h=>hl h.1)];simp only
    omega
theorem J8 (row:List Bool)(n:Nat)(u:US):(uget row n u).1<2^n:=by
 unfold uget
 split
 . split
   . exact YN n
   . refine VG (Oy _) (VU (by decide) ?_);rw[VM];exact Nat.min_le_left _ _
 . exact YN n
theorem FW (row:List Bool)(l:List Int)(k:Nat)(u:US):1<=(ukind row l k u).2.1/\(ukind row l k u).2.1<=138:=by
 have h2:(uget row 2 u).1<2^2:=J8 row 2 u;have h3:(uget row 3 u).1<2^3:=J8 row 3 u;have h7:(uget row 7 u).1<2^7:=J8 row 7 u;unfold ukind
 split
 . split
   . exact⟨VC _,by simp⟩
   . simp only;omega
 . split
   . simp only;omega
   . split
     . simp only;omega
     . exact⟨VC _,by simp⟩
end Go.Proofs.YtleocpdblhbimaaGreatDoor
namespace Go.Proofs.YtleocpdblhbimaaGreatDoor
open Go.RowKit
set_option linter.unusedVariables false
theorem EL (a:Option Addr)(len cap:Nat)(w:World)(hm:288<len)(hM:len<=9223372036854775807):
 Calls Tryz.prog 254 #[.slice a len cap] w fun e w'=>e=.returned (.tuple #[.agg (arr fun _=>0),.int .i64 2])/\Below w.heap.size w w':=by
 go_enter Tryz.func254,Tryz.ntmps254
 have HR:=Ab (Arr.new w (fun _=>0) rfl);go_wp2_with (refine Fk rfl (.tmp 2) (.tmp 10) rfl _ _ (fun _=>0) rfl rfl (Aa HR) ?_)
 have HY:=Ab ((Aa HR).setRow (fun _=>0));exact bodyPost_ret (Fo rfl _ _ _ _ rfl (Aa HY)) rfl ⟨rfl,Bl ((Below.refl _ _).alloc (VC _) _) (VC _) _⟩
theorem MM (a:Option Addr)(len cap:Nat)(l:List Int)(w:World)(hl:l.length=len)(hm:len<=288)(hR:RowIn .i64 w a l)(j0:Nat)(hj0:j0<len)(hbad:Qt (l.getD j0 0)=false)(hf:∀j,j<j0->Qt (l.getD j 0)=true):
 Calls Tryz.prog 254 #[.slice a len cap] w fun e w'=>e=.returned (.tuple #[.agg (arr fun _=>0),.int .i64 3])/\Below w.heap.size w w':=by
 obtain⟨b,o,rfl,hb,hR⟩:∃b o,a=some ⟨b,o,none⟩/\b<w.heap.size/\Row .i64 w b o l:=by
  rcases hR with rfl|h
  . simp at hl;omega
  . exact h
 go_enter Tryz.func254,Tryz.ntmps254
 go_wp2;simp only[FK];have HR0:=Ab ((Arr.new w (fun _=>0) rfl).alloc (.cells (arr (fun _=>0)) 328));have HC0:=Ab (Arr.new (w.alloc (.cells (arr (fun _=>0)) 328)) (fun _=>0) (b:=w.heap.size+1) (by simp));have HB0:=Ab (((Below.refl w.heap.size w).alloc (VC _) (.cells (arr (fun _=>0)) 328)).alloc (by simp) (.cells (arr (fun _=>0)) 328));have HRow:=Ab hR;have HL:=Ab hl;clear hR;go_loopw [13] (fun i wr=>∃k:Nat,k<=j0/\i=.int .i64 k/\Arr wr w.heap.size (fun _=>0)/\Arr wr (w.heap.size+1) (cnt (l.take k))/\Below w.heap.size w wr) (fun i _=>len-(intOf i).toNat)
 case atStart=>exact⟨0,by omega,rfl,Aa HR0,Aa HC0,Aa HB0⟩
 case round=>
  obtain⟨k,hk,rfl,hA,hC,hB⟩:=hrel;have HA:=Ab hA;have HC:=Ab hC;have HB:=Ab hB;have hlk:k<l.length:=by omega
  have c1:=(hB.cell (p:=⟨b,o+k,none⟩) hb).trans (Aa HRow k hlk)
  by_cases hlt:k<j0
  . have hok:=hf k hlt;obtain⟨n,hn⟩:=VW (Dk hok).1;have hn15:=(Dk hok).2;have HX:=Ab hn;rw[hn]at c1 hn15;have hn16:n<16:=by omega
    have c2:=hC.cell hn16;have f2:=hC.frozen n;have hle:=Uy (l.take k) n;have hle2:(l.take k).length<=288:=by simp;omega
    clear hA hC hB hf hbad hok hn HR0 HC0 HB0;go_wp2;go_roundw
    case rel=>exact⟨k+1,by omega,by go_num,(Aa HA).other (by simp) _,by rw[<-Hv l hlk (Aa HX)];exact(Aa HC).set _ _,(Aa HB).setCell (by simp) _⟩
    case measure=>simp[intOf];omega
  . obtain rfl:k=j0:=by omega
    clear hA hC hB hf HR0 HC0 HB0;generalize l.getD k 0=x at*;have hno:=Kg hbad;have hg:x<0\/15<x:=by omega
    clear hno hbad
    rcases hg with hg|hg
    . go_wp2_with (refine Fk rfl (.tmp 2) (.tmp 23) rfl _ _ (fun _=>0) rfl rfl (Aa HA) ?_)
      have HY:=Ab ((Aa HA).setRow (fun _=>0));exact bodyPost_ret (Fo rfl _ _ _ _ rfl (Aa HY)) rfl ⟨rfl,Bl (Aa HB) (VC _) _⟩
    . have hg0:¬(x<0):=by omega
      go_wp2_with (refine Fk rfl (.tmp 2) (.tmp 23) rfl _ _ (fun _=>0) rfl rfl (Aa HA) ?_)
      have HY:=Ab ((Aa HA).setRow (fun _=>0));exact bodyPost_ret (Fo rfl _ _ _ _ rfl (Aa HY)) rfl ⟨rfl,Bl (Aa HB) (VC _) _⟩
theorem EO (a:Option Addr)(len cap:Nat)(l:List Int)(w:World)(hl:l.length=len)(hm:len<=288)(hR:RowIn .i64 w a l)(hf:∀j,j<len->Qt (l.getD j 0)=true):
 Calls Tryz.prog 254 #[.slice a len cap] w fun e w'=>e=.returned (.tuple #[.agg (arr (if 32768<takenN (cnt l) 15 then fun _=>0 else cnt l)),.int .i64 (if 32768<takenN (cnt l) 15 then 8 else 0)])/\Below w.heap.size w w':=by
 go_enter Tryz.func254,Tryz.ntmps254
 go_wp2;simp only[FK];have HR0:=Ab ((Arr.new w (fun _=>0) rfl).alloc (.cells (arr (fun _=>0)) 328));have HC0:=Ab (Arr.new (w.alloc (.cells (arr (fun _=>0)) 328)) (fun _=>0) (b:=w.heap.size+1) (by simp));have HB0:=Ab (((Below.refl w.heap.size w).alloc (VC _) (.cells (arr (fun _=>0)) 328)).alloc (by simp) (.cells (arr (fun _=>0)) 328));have HRow:=Ab hR;have HL:=Ab hl;clear hR;go_loopw [13] (fun i wr=>∃k:Nat,k<=len/\i=.int .i64 k/\Arr wr w.heap.size (fun _=>0)/\Arr wr (w.heap.size+1) (cnt (l.take k))/\Below w.heap.size w wr) (fun i _=>len-(intOf i).toNat)
 case atStart=>exact⟨0,by omega,rfl,Aa HR0,Aa HC0,Aa HB0⟩
 case round=>
  obtain⟨k,hk,rfl,hA,hC,hB⟩:=hrel;have HA:=Ab hA;have HC:=Ab hC;have HB:=Ab hB
  by_cases hlt:k<len
  . have hlk:k<l.length:=by omega
    obtain⟨b,o,rfl,hb,hR⟩:∃b o,a=some ⟨b,o,none⟩/\b<w.heap.size/\Row .i64 w b o l:=by
     rcases Aa HRow with rfl|h
     . simp at hlk
     . exact h
    have c1:=(hB.cell (p:=⟨b,o+k,none⟩) hb).trans (hR k hlk);have hok:=hf k hlt;obtain⟨n,hn⟩:=VW (Dk hok).1;have hn15:=(Dk hok).2;have HX:=Ab hn;rw[hn]at c1 hn15;have hn16:n<16:=by omega
    have c2:=hC.cell hn16;have f2:=hC.frozen n;have hle:=Uy (l.take k) n;have hle2:(l.take k).length<=288:=by simp;omega
    clear hA hC hB hf hok hn HR0 HC0 HB0 hR;go_wp2;go_roundw
    case rel=>exact⟨k+1,by omega,by go_num,(Aa HA).other (by simp) _,by rw[<-Hv l hlk (Aa HX)];exact(Aa HC).set _ _,(Aa HB).setCell (by simp) _⟩
    case measure=>simp[intOf];omega
  . obtain rfl:k=len:=by omega
    have hz:=hC.lt;have hall:l.take k=l:=VP (by omega);have HC1:=HC;rw[hall]at HC1;have hcl:∀n,cnt l n<=288:=fun n=>WC (Uy l n) (by omega)
    have HCL:=Ab hcl;clear hA hC hB hf HR0 HC0 HB0 HC hall hcl;go_wp2_with (refine Pb rfl (.tmp 4) rfl _ (cnt l) rfl (Aa HC1) ?_)
    refine(GN (cnt l) wr (Aa HCL)).mono ?_;rintro e w1 ⟨rfl,hB1⟩;have HA1:=Ab ((Aa HA).below hB1 (by omega));have HC2:=Ab ((Aa HC1).below hB1 (by omega));have HB1:=Ab ((Aa HB).trans (hB1.mono (Aa HB).size));clear hB1 HA HC1 HB
    by_cases ht:32768<takenN (cnt l) 15
    . go_wp2_with (refine Fk rfl (.tmp 2) (.tmp 33) rfl _ _ (fun _=>0) rfl rfl (Aa HA1) ?_)
      have HY:=Ab ((Aa HA1).setRow (fun _=>0));exact bodyPost_ret (Fo rfl _ _ _ _ rfl (Aa HY)) rfl ⟨by first|rfl|(rw[if_pos ht,if_pos ht];rfl),Bl (Aa HB1) (VC _) _⟩
    . go_wp2_with (first|(refine Pb rfl (.tmp 4) rfl _ (cnt l) rfl (Aa HC2) ?_)|(refine Fk rfl (.tmp 2) (.tmp 34) rfl _ _ (cnt l) rfl rfl (Aa HA1) ?_))
      have HY:=Ab ((Aa HA1).setRow (cnt l));exact bodyPost_ret (Fo rfl _ _ _ _ rfl (Aa HY)) rfl ⟨by first|rfl|(rw[if_neg ht,if_neg ht];rfl),Bl (Aa HB1) (VC _) _⟩
theorem MN (a:Option Addr)(len cap:Nat)(l:List Int)(w:World)(hl:l.length=len)(hM:len<=9223372036854775807)(hR:RowIn .i64 w a l):
 Calls Tryz.prog 254 #[.slice a len cap] w fun e w'=>e=.returned (.tuple #[.agg (arr (SE l)),.int .i64 (errL l)])/\Below w.heap.size w w':=by
 by_cases hm:288<len
 . have e:errL l=2:=by unfold errL;rw[if_pos (by omega)]
   have e2:SE l=fun _=>0:=by unfold SE;rw[e];rfl
   rw[e,e2];exact EL a len cap w hm hM
 . rcases Mc (fun j=>Qt (l.getD j 0)) len with hf|⟨j0,hj0,hbad,hf⟩
   . have hn:¬ ∃j,j<l.length/\Qt (l.getD j 0)=false:=by
      rintro ⟨j,hj,e⟩;have:=hf j (by omega)
      simp only[e]at this
      cases this
     have h:=EO a len cap l w hl (by omega) hR hf;have e:errL l=if 32768<takenN (cnt l) 15 then 8 else 0:=by unfold errL;rw[if_neg (by omega),if_neg hn]
     have e2:SE l=if 32768<takenN (cnt l) 15 then fun _=>0 else cnt l:=by
      unfold SE;rw[e]
      by_cases ht:32768<takenN (cnt l) 15
      . simp[ht]
      . simp[ht]
     rw[e,e2];exact h
   . have e:errL l=3:=by unfold errL;rw[if_neg (by omega),if_pos ⟨j0,by omega,hbad⟩]
     have e2:SE l=fun _=>0:=by unfold SE;rw[e];rfl
     rw[e,e2];exact MM a len cap l w hl (by omega) hR j0 hj0 hbad hf
theorem Z3k (l:List Int)(h:Good l)(k:Nat){n:Nat}(hn:n<=15):nxt l k n<=9437472:=by
 unfold nxt
 by_cases e:n=0
 . simp[e]
 . have h1:=Rm (cnt l) (fun n=>WC (Uy l n) h.len) (k:=n-1) (by omega);have h2:n-1+1=n:=by omega
   rw[h2]at h1;have h3:=Uy (l.take k) n;have h4:(l.take k).length<=288:=by have:=h.len;simp;omega
   simp[e];omega
set_option maxRecDepth 100000 in
theorem SC (a:Option Addr)(len cap:Nat)(l:List Int)(w:World)(hl:l.length=len)(hR:RowIn .i64 w a l)(hG:Good l):
 Calls Tryz.prog 235 #[.slice a len cap] w fun e w'=>∃g,e=.returned (.tuple #[.slice (some ⟨g,0,none⟩) len len,.int .i64 0])/\
  w'.ownsRow w.heap.size 3 1 (.slice (some ⟨g,0,none⟩) len len) len (i64s (Td l len))/\Below w.heap.size w w'/\w.heap.size<=g:=by
 obtain⟨i0,hi,hz0,hz1,hz2⟩:=info_parts Cc;have hlen:=hG.len;have HG:=Ab hG;have HE:=Ab (Iz hG);have HC:=Ab (MQ hG);have HCL:Hid (∀n,cnt l n<=288):=fun n=>WC (Uy l n) hG.len
 have HR:=Ab hR;have HL:=Ab hl;go_enter Tryz.func235,Tryz.ntmps235
 go_wp2_with fail
 refine(MN a len cap l w hl (by omega) hR).mono ?_;rintro e w1 ⟨rfl,hB1⟩;rw[Aa HC,Aa HE];have hz:=hB1.size;have HB:=Ab (hB1.alloc hz (.cells (arr (cnt l)) 328));have HA:=Ab (Arr.new w1 (cnt l) rfl);clear hB1 hR hG;go_wp2_with (first|(refine Ys rfl (.tmp 4) (.tmp 13) rfl w1 (fun _=>0) (cnt l) rfl rfl rfl ?_)|(refine Pb rfl (.tmp 4) rfl _ (cnt l) rfl (Aa HA) ?_))
 refine(Sz (cnt l) _ (Aa HCL)).mono ?_;rintro e w2 ⟨rfl,hB2⟩;have hz2':=hB2.size;simp only[World.size_alloc]at hz2';have HB2:=Ab (((Aa HB).trans (hB2.mono (by simp;omega))).alloc (by omega) (.cells (arr (Ay (cnt l))) 328));have HA2:=Ab (Arr.new w2 (Ay (cnt l)) rfl);clear hB2 HA HB;go_wp2_with (first|(refine Ys rfl (.tmp 6) (.tmp 19) rfl w2 (fun _=>0) (Ay (cnt l)) rfl rfl rfl ?_)|(at_make;refine wpList_make_full _ rfl _ _ 76 rfl w.heap.size 3 i0 (.int .i64 0) 1 Tryz.underlying76 hi hz0 hz1 _ _ _ _ len rfl rfl rfl rfl (by rw[hz2];omega) (by unfold maxLen;omega) (by simp;omega) ?_))
 intro w3 hown3 hgrow3
 have e0:(madeCells #[Value.int .i64 0] len).toList=i64s (Td l 0):=by
  rw[Td,Aa HL];exact Z2 len
 have e1:(w2.alloc (.cells (arr (Ay (cnt l))) 328)).heap.size=w2.heap.size+1:=by simp
 rw[e0]at hown3;have HO:=Ab hown3;have HB3:=Ab ((Aa HB2).grown hgrow3 (by omega) (fun j h=>by cases h));have HA3:Hid (Arr w3 w2.heap.size (Ay (cnt l))):=(hgrow3.block w2.heap.size (by omega) (by simp)).trans (Aa HA2);have hne:w2.heap.size+1≠w2.heap.size:=by omega
 have hgl:=(hown3.lt _ rfl).2;have hb6:w.heap.size<=w2.heap.size:=by omega
 have hgw:w.heap.size<=w2.heap.size+1:=by omega
 clear hown3 hgrow3 e0 e1 HA2 HB2;generalize w2.heap.size+1=g at*;generalize w2.heap.size=b6 at*;go_wp2;go_loopw [25] (fun i wr=>∃k:Nat,k<=len/\i=.int .i64 k/\wr.ownsRow w.heap.size 3 1 (.slice (some ⟨g,0,none⟩) len len) len (i64s (Td l k))/\Arr wr b6 (nxt l k)/\Below w.heap.size w wr) (fun i _=>len-(intOf i).toNat)
 case atStart=>exact⟨0,VK _,rfl,Aa HO,(Aa HA3).congr (fun n _=>(QI l n).symm),Aa HB3⟩
 case round=>
  obtain⟨k,hk,rfl,hO,hA,hB⟩:=hrel;have HO1:=Ab hO;have HA1:=Ab hA;have HB1:=Ab hB
  by_cases hlt:k<len
  . have hlk:k<l.length:=by omega
    obtain⟨b,o,rfl,hb,hR⟩:∃b o,a=some ⟨b,o,none⟩/\b<w.heap.size/\Row .i64 w b o l:=by
     rcases Aa HR with rfl|h
     . simp at hlk
     . exact h
    have c1:=(hB.cell (p:=⟨b,o+k,none⟩) hb).trans (hR k hlk);have hok:=(Aa HG).ok k hlk;obtain⟨n,hn⟩:=VW hok.1;have hn15:=hok.2;have HX:=Ab hn;rw[hn]at c1 hn15;have hn16:n<16:=by omega
    have c2:=hA.cell hn16;obtain⟨y,hy⟩:∃y,(Td l k).getD k 0=y:=⟨_,rfl⟩
    have cg:wr.cell? ⟨g,k,none⟩=some (.int .i64 ((y:Nat):Int)):=by
     rw[hO.cellAt k (by simp;omega),<-hy];simp[List.getD,Ed,hlk]
    clear hy;have fg:=hO.frozenAt k;have hxl:=Z3k l (Aa HG) k (n:=n) (by omega);have hcode:=Fy l hn
    by_cases hn0:0<n
    . have hst:=hO.stored k (.int .i64 ((nxt l k n:Nat):Int));have hAo:=hA.other (a:=⟨g,k,none⟩) (by simp;omega) (.int .i64 ((nxt l k n:Nat):Int));have c3:=hAo.cell hn16;have f3:=hAo.frozen n;have HST:=Ab hst;have HAO:=Ab hAo;have HB4:=Ab (hB.setCell (p:=⟨g,k,none⟩) (by simp;omega) (.int .i64 ((nxt l k n:Nat):Int)));have HCO:=Ab hcode;clear hO hA hB hR hok hn hst hAo HA3 HB3 HO hcode;generalize hxx:nxt l k n=x at*;have HXX:=Ab hxx;clear hxx;go_wp2;go_roundw
      case rel=>
       refine⟨k+1,by omega,by go_num, ?_, ?_, ?_⟩
       . have e:i64s (Td l (k+1))=(i64s (Td l k)).set k (.int .i64 ((x:Nat):Int)):=by
          rw[Td,Aa HCO,i64s,List.map_set]
         rw[e];exact(Aa HST).1.kept (Ad _ b6 n _) (.inr (by simp[Value.ownBlock];omega))
       . have e:=QJ l hlk (Aa HX) hn0;rw[Aa HXX]at e;rw[<-e];exact(Aa HAO).set n (x+1)
       . exact(Aa HB4).setCell (by simp;omega) _
      case measure=>simp[intOf];omega
    . obtain rfl:n=0:=by omega
      have hc0:codeN l k=0:=by rw[hcode];rfl
      have HK:=Ab (MO l k hc0);have HK2:=Ab (QK l hlk hn);clear hO hA hB hR hok hn HA3 HB3 HO hcode hc0;go_wp2;go_roundw
      case rel=>exact⟨k+1,by omega,by go_num,by rw[Aa HK];exact Aa HO1,by rw[<-Aa HK2];exact Aa HA1,Aa HB1⟩
      case measure=>simp[intOf];omega
  . obtain rfl:k=len:=by omega
    go_wp2;go_ret2;exact⟨g,rfl,Aa HO1,Aa HB1,by omega⟩
end Go.Proofs.YtleocpdblhbimaaGreatDoor
