import Derived.Test.YtleocpdblhbimaaGreatDoorQ47
import Derived.Maps.Own
import Derived.Maps.OwnSet
import Derived.Maps.Views
import Derived.StringKeys
import Derived.Laws.CopyOwn
import Derived.Laws.BitsAllLaws
import Derived.Deep.RegionHeld3
import Derived.OwnWalk
import Derived.Test.YtleocpdblhbimaaGreatDoorQ30
set_option linter.unusedSimpArgs false
set_option maxHeartbeats 2000000
namespace Go.Proofs.YtleocpdblhbimaaGreatDoor
open Go.RowKit
set_option linter.unusedVariables false
set_option maxRecDepth 100000
theorem PM (m:Nat)(hm:m<=15):(32768:Int)/2^m=((2^(15-m):Nat):Int):=by
 have h:(2:Nat)^(15-m)*2^m=32768:=by rw[<-ZQ,show 15-m+m=15 by omega]
 have h2:((2^(15-m):Nat):Int)*((2^m:Nat):Int)=32768:=by exact_mod_cast h
 have hp:(0:Int)<((2^m:Nat):Int):=by exact_mod_cast Nat.pow_pos (n:=m) (show 0<2 by decide)
 have e:(2:Int)^m=((2^m:Nat):Int):=by push_cast;rfl
 rw[e,<-h2,Int.mul_ediv_cancel _ (by omega)]
theorem PP (a:Option Addr)(len cap:Nat)(l:List Int)(w:World)(hl:l.length=len)(hlen:len<=288)(hR:RowIn .i64 w a l)(hok:∀j,j<l.length->0<=l.getD j 0/\l.getD j 0<=15):
 Calls Tryz.prog 161 #[.slice a len cap] w fun e w'=>e=.returned (.int .i64 ((takenN (cnt l) 15:Nat):Int))/\w'=w:=by
 have HR:=Ab hR;have HOK:=Ab hok
 have HF:Hid (Kf l len=takenN (cnt l) 15):=by
  have:=Hj l hok l.length (VC _)
  rw[YT]at this;rw[<-hl];exact this
 clear hR hok;go_enter Tryz.func161,Tryz.ntmps161
 go_wp2;go_loop [3,8] (fun s i=>∃k:Nat,k<=len/\i=.int .i64 (k:Int)/\s=.int .i64 ((Kf l k:Nat):Int)) (fun _ i=>len-(intOf i).toNat)
 case atStart=>exact⟨0,VK _,rfl,rfl⟩
 case round=>
  obtain⟨k,hk,rfl,rfl⟩:=hrel
  by_cases hlt:k<len
  . have hlk:k<l.length:=by omega
    obtain⟨b,o,rfl,hb,hRw⟩:∃b o,a=some ⟨b,o,none⟩/\b<w.heap.size/\Row .i64 w b o l:=by
     rcases Aa HR with rfl|h
     . simp at hlk
     . exact h
    have c1:=hRw k hlk;obtain⟨m,hm⟩:=VW (Aa HOK k hlk).1;have h15:=(Aa HOK k hlk).2;have HU:Hid (Kf l (k+1)=Kf l k+(if 0<l.getD k 0 then 2^(15-(l.getD k 0).toNat)else 0)):=rfl;have hle:=X6 l k;rw[hm]at c1 h15 HU;rw[WD]at HU;have hm15:m<=15:=by omega
    have hsh:=PM m hm15
    have hp15:2^(15-m)<=32768:=by
     have:=VU (n:=2) (by decide) (show 15-m<=15 by omega)
     omega
    clear hRw hm;generalize Kf l k=u at*;generalize 2^(15-m)=z at*
    by_cases hx0:(0:Int)<(m:Int)
    . rw[if_pos hx0]at HU;go_wp2;go_round
      case rel=>exact⟨k+1,by omega,by go_num,by rw[Aa HU];go_num⟩
      case measure=>simp[intOf];omega
    . rw[if_neg hx0]at HU;go_wp2;go_round
      case rel=>exact⟨k+1,by omega,by go_num,by rw[Aa HU];rfl⟩
      case measure=>simp[intOf];omega
  . obtain rfl:k=len:=by omega
    go_wp2;go_ret;exact⟨Cz (by rw[Aa HF]),rfl⟩
theorem Fb (a:Option Addr)(len cap:Nat)(l:List Int)(w:World)(hl:l.length=len)(hM:len<=9223372036854775807)(hR:RowIn .i64 w a l):
 Calls Tryz.prog 124 #[.slice a len cap] w fun e w'=>e=.returned (.int .i64 (errL l))/\w'=w:=by
 by_cases hm:288<len
 . have e:errL l=2:=by unfold errL;rw[if_pos (by omega)]
   rw[e];clear e hR;go_enter Tryz.func124,Tryz.ntmps124
   go_wp2;go_ret;exact⟨rfl,rfl⟩
 . rcases Mc (fun j=>Qt (l.getD j 0)) len with hf|⟨j0,hj0,hbad,hf⟩
   . have hn:¬ ∃j,j<l.length/\Qt (l.getD j 0)=false:=by
      rintro ⟨j,hj,e⟩;have:=hf j (by omega)
      simp only[e]at this
      cases this
     have e:errL l=if 32768<takenN (cnt l) 15 then 8 else 0:=by unfold errL;rw[if_neg (by omega),if_neg hn]
     have HRoom:=Ab (PP a len cap l w hl (by omega) hR (fun j hj=>Dk (hf j (by omega))));have HR:=Ab hR;have HOK:Hid (∀j,j<len->0<=l.getD j 0/\l.getD j 0<=15):=fun j hj=>Dk (hf j hj)
     rw[e];clear hR hf hn e;go_enter Tryz.func124,Tryz.ntmps124
     go_wp2;go_loop [10] (fun i=>∃k:Nat,k<=len/\i=.int .i64 (k:Int)) (fun i=>len-(intOf i).toNat)
     case atStart=>exact⟨0,VK _,rfl⟩
     case round=>
      obtain⟨k,hk,rfl⟩:=hrel
      by_cases hlt:k<len
      . have hlk:k<l.length:=by omega
        obtain⟨b,o,rfl,hb,hRw⟩:∃b o,a=some ⟨b,o,none⟩/\b<w.heap.size/\Row .i64 w b o l:=by
         rcases Aa HR with rfl|h
         . simp at hlk
         . exact h
        have c1:=hRw k hlk;obtain⟨h1,h2⟩:=Aa HOK k hlt;clear hRw;generalize l.getD k 0=x at*;have h1':¬x<0:=by omega
        have h2':¬15<x:=by omega
        go_wp2;go_round
        case rel=>exact⟨k+1,by omega,by go_num⟩
        case measure=>simp[intOf];omega
      . obtain rfl:k=len:=by omega
        go_wp2_with fail
        refine(Aa HRoom).mono ?_;rintro e w1 ⟨rfl,rfl⟩
        by_cases ht:32768<takenN (cnt l) 15
        . go_wp2;go_ret;exact⟨by first|rfl|(rw[if_pos ht];rfl),rfl⟩
        . go_wp2;go_ret;exact⟨by first|rfl|(rw[if_neg ht];rfl),rfl⟩
   . have e:errL l=3:=by unfold errL;rw[if_neg (by omega),if_pos ⟨j0,by omega,hbad⟩]
     rw[e]
     obtain⟨b,o,rfl,hb,hRw⟩:∃b o,a=some ⟨b,o,none⟩/\b<w.heap.size/\Row .i64 w b o l:=by
      rcases hR with rfl|h
      . simp at hl;omega
      . exact h
     have HRw:=Ab hRw;have HF:Hid (∀j,j<j0->0<=l.getD j 0/\l.getD j 0<=15):=fun j hj=>Dk (hf j hj)
     have HBad:=Ab (Kg hbad);clear hR hf hbad e hRw;go_enter Tryz.func124,Tryz.ntmps124
     go_wp2;go_loop [10] (fun i=>∃k:Nat,k<=j0/\i=.int .i64 (k:Int)) (fun i=>len-(intOf i).toNat)
     case atStart=>exact⟨0,VK _,rfl⟩
     case round=>
      obtain⟨k,hk,rfl⟩:=hrel;have c1:=Aa HRw k (by omega)
      by_cases hlt:k<j0
      . obtain⟨h1,h2⟩:=Aa HF k hlt;generalize l.getD k 0=x at*;have h1':¬x<0:=by omega
        have h2':¬15<x:=by omega
        go_wp2;go_round
        case rel=>exact⟨k+1,by omega,by go_num⟩
        case measure=>simp[intOf];omega
      . obtain rfl:k=j0:=by omega
        have hb2:=Aa HBad;generalize l.getD k 0=x at*
        by_cases h1:x<0
        . clear hb2;go_wp2;go_ret;exact⟨rfl,rfl⟩
        . have h2:15<x:=by omega
          clear hb2;go_wp2;go_ret;exact⟨rfl,rfl⟩
end Go.Proofs.YtleocpdblhbimaaGreatDoor
namespace Go.Proofs.YtleocpdblhbimaaGreatDoor
open Go.RowKit Go.Maps
set_option linter.unusedVariables false
set_option maxRecDepth 100000
def kT (s:List Bool):Lit:=.string (text s).data.toList
theorem TN {s t:List Bool}(h:kT s=kT t):s=t:=by
 unfold kT text at h;simp only[Lit.string.injEq]at h;have h2:s.map chr=t.map chr:=by simpa using h
 have inj:∀a b:Bool,chr a=chr b->a=b:=by intro a b;cases a<;>cases b<;>decide
 induction s generalizing t with
 |nil=>cases t with
  |nil=>rfl
  |cons y r=>simp at h2
 |cons x r ih=>cases t with
  |nil=>simp at h2
  |cons y r2=>
   simp only[WP,List.cons.injEq]at h2;rw[inj x y h2.1,ih (t:=r2) (by simp[h2.2]) h2.2]
theorem TM (s:List Bool):WideAt.IsKeyLit (kT s):=by
 first|trivial|exact⟨⟩|(unfold kT WideAt.IsKeyLit;simp)
def Ew (l:List Int):Nat->DataW Unit
 |0=>.map []
 |k+1=>if codeT l k= []then Ew l k else (Ew l k).put (kT (codeT l k)) (.lit (.int .i64 (k:Int)))
theorem Ml (l:List Int):∀k,IsMap (Ew l k)
 |0=>isMap_empty
 |k+1=>by
  rw[Ew]
  split
  . exact Ml l k
  . exact(Ml l k).put _ _
theorem BD (l:List Int)(s:List Bool)(hs:s≠ []):∀k,Maps.has (Ew l k) (kT s)=decide (∃q,q<k/\codeT l q=s)
 |0=>by
  rw[decide_eq_false (by rintro ⟨q,h,_⟩;omega)];rfl
 |k+1=>by
  have ih:=BD l s hs k
  have e:(∃q,q<k+1/\codeT l q=s)↔((∃q,q<k/\codeT l q=s)\/codeT l k=s):=by
   constructor
   . rintro ⟨q,h1,h2⟩
     by_cases hq:q=k
     . subst hq;exact .inr h2
     . exact .inl ⟨q,by omega,h2⟩
   . rintro (⟨q,h1,h2⟩|h)
     . exact⟨q,by omega,h2⟩
     . exact⟨k,by omega,h⟩
  rw[Ew]
  by_cases h0:codeT l k= []
  . rw[if_pos h0,ih,YR];simp only[decide_eq_true_eq,e]
    constructor
    . exact .inl
    . rintro (h|h)
      . exact h
      . rw[h0]at h;exact absurd h.symm hs
  . rw[if_neg h0]
    by_cases hk:codeT l k=s
    . rw[hk,has_put_same (Ml l k) (TM s),decide_eq_true (e.2 (.inr hk))]
    . rw[has_put_other (fun h=>hk (TN h).symm),ih,YR];simp only[decide_eq_true_eq,e]
      constructor
      . exact .inl
      . rintro (h|h)
        . exact h
        . exact absurd h hk
theorem R4 (l:List Int)(s:List Bool)(hs:s≠ [])(hinj:∀q q',q<l.length->q'<l.length->codeT l q=s->codeT l q'=s->q=q')(z:DataW Unit):∀k,k<=l.length->∀q,q<k->codeT l q=s->(Ew l k).atKey (kT s) z=.lit (.int .i64 (q:Int))
 |0,_,q,h,_=>by omega
 |k+1,hk,q,h,hq=>by
  rw[Ew]
  by_cases h0:codeT l k= []
  . rw[if_pos h0];have:q≠k:=fun e=>by subst e;rw[h0]at hq;exact hs hq.symm
    exact R4 l s hs hinj z k (by omega) q (by omega) hq
  . rw[if_neg h0]
    by_cases e:codeT l k=s
    . have:=hinj q k (by omega) (by omega) hq e
      subst this;rw[e,atKey_put_same (Ml l _) (TM s)]
    . rw[atKey_put_other (fun h=>e (TN h).symm)];have:q≠k:=fun e2=>by subst e2;exact e hq
      exact R4 l s hs hinj z k (by omega) q (by omega) hq
theorem Z5e:Keyed Tryz.prog 9:=string_keyed Tryz.underlying9
abbrev Dv (w:World)(b n:Nat)(D:DataW Unit):Prop:=w.ownsMap Tryz.prog 9 (plainElem Tryz.prog 3) b n D
theorem Et (a:Option Addr)(len cap:Nat)(l:List Int)(w:World)(hl:l.length=len)(hR:RowIn .i64 w a l)(hG:Good l):
 Calls Tryz.prog 97 #[.slice a len cap] w fun e w'=>∃b n,e=.returned (.map (some b))/\w.heap.size<=b/\Dv w' b n (Ew l len)/\Below w.heap.size w w':=by
 have hlen:=hG.len;have hmm:= @run_makeMap Tryz.prog;have HG:=Ab hG;go_enter Tryz.func97,Tryz.ntmps97
 go_wp2_with fail
 refine(Q6 a len cap l _ hl (hR.alloc _) hG).mono ?_;rintro e w1 ⟨g,rfl,hB1,hg1,hO1⟩;have HO1:=Ab hO1;have hgl:=(hO1.lt g rfl).2;have HM1:Hid (Dv w1 w.heap.size 0 (Ew l 0)):=(World.ownsMap_made w Tryz.prog 9 (plainElem Tryz.prog 3)).kept (Sk hB1) (by simp);have HB1:=Ab (((Below.refl w.heap.size w).alloc (VC _) _).trans (hB1.mono (by simp)));have hz1:=hB1.size;simp only[World.size_alloc]at hz1 hg1;clear hB1 hO1 hR hG;go_wp2;go_loopw [10] (fun vi wr=>∃k n:Nat,k<=len/\n<=k/\vi=.int .i64 (k:Int)/\Dv wr w.heap.size n (Ew l k)/\w1.grownBy wr (some w.heap.size)) (fun vi _=>len-(intOf vi).toNat)
 case atStart=>exact⟨0,0,VK _,VC _,rfl,Aa HM1,Au _ _⟩
 case round=>
  obtain⟨k,n,hk,hn,rfl,hM,hgr⟩:=hrel;have HM:=Ab hM;have HGr:=Ab hgr
  by_cases hlt:k<len
  . have c7:wr.cell? ⟨g,k,none⟩=some (.string (text (codeT l k))):=by
     refine hgr.cell ?_ (by simp;omega);rw[(Aa HO1).cellAt k (by omega)];simp[hlt]
    have HD:Hid (Ew l (k+1)=if codeT l k= []then Ew l k else (Ew l k).put (kT (codeT l k)) (.lit (.int .i64 (k:Int)))):=rfl
    have HKey:Hid (keyOf Tryz.prog 9 (.string (text (codeT l k)))=some (kT (codeT l k))):=Go.WideMaps.keyOf_string_mk Tryz.underlying9 (by
     rw[Cl];unfold codeT;rw[Az];have:=(Aa HG).ok k (by omega)
     unfold maxLen;omega)
    clear hM hgr;have htl:(text (codeT l k)).toList.isEmpty=(codeT l k).isEmpty:=by rw[Lib.toList_data];cases codeT l k<;>rfl
    by_cases h0:codeT l k= []
    . rw[if_pos h0]at HD;have hem:(text (codeT l k)).toList.isEmpty=true:=by rw[htl,h0];rfl
      clear htl h0 HKey;generalize text (codeT l k)=T at*;go_wp2;go_roundw
      case rel=>exact⟨k+1,n,by omega,by omega,by go_num,by rw[Aa HD];exact Aa HM,Aa HGr⟩
      case measure=>simp[intOf];omega
    . rw[if_neg h0]at HD
      have hem:(text (codeT l k)).toList.isEmpty=false:=by
       rw[htl]
       cases e:codeT l k with
       |nil=>exact absurd e h0
       |cons _ _=>rfl
      have hwf:(Lit.int .i64 (k:Int)).wf=true:=WalkArith.wf_i64 (by omega);clear htl h0;generalize text (codeT l k)=T at*;generalize kT (codeT l k)=KK at*;go_wp2_with (at_mapUpdate;refine wpList_mapUpdate_own _ rfl _ _ _ 161 rfl 9 3 Z5e Tryz.underlying161 _ w.heap.size n _ rfl (Aa HM) (by unfold maxLen;omega) _ _ _ rfl rfl (Aa HKey) _ [] (plainElem_int Tryz.underlying3 hwf) ?_)
      intro w2 hM2 hg2;have HM2:=Ab hM2;have HG2:=Ab (Ak (Aa HGr) hg2);clear hM2 hg2;go_wp2;go_roundw
      case rel=>exact⟨k+1,n+1,by omega,by omega,by go_num,by rw[Aa HD];exact Aa HM2,Aa HG2⟩
      case measure=>simp[intOf];omega
  . obtain rfl:k=len:=by omega
    clear hM hgr;go_wp2;go_ret;exact⟨w.heap.size,n,rfl,VC _,Aa HM,(Aa HB1).grown (Aa HGr) (by omega) (fun j h=>by cases h;exact VC _)⟩
end Go.Proofs.YtleocpdblhbimaaGreatDoor
namespace Go.Proofs.YtleocpdblhbimaaGreatDoor
open Go.RowKit
set_option linter.unusedVariables false
set_option maxRecDepth 100000
theorem FD (l:List Bool)(b:Bool)(c:Int)(h:c=((chr b).toNat:Int)):Lib.byteCells (l.map chr)++ [.int .u8 c]=Lib.byteCells ((l++ [b]).map chr):=by
 rw[WS,Lib.byteCells_append,h];rfl
theorem Z2f (x k:Nat)(hx:x<256):(48+bits .and .u8 ((x:Int)/2^k) 1)%256=((chr (x.testBit k)).toNat:Int):=by
 rw[Z34 x k hx,NI]
 cases x.testBit k<;>rfl
theorem CI (a:Option Addr)(cap:Nat)(w:World):
 Calls Tryz.prog 60 #[.slice a 0 cap] w fun e w'=>e=.returned (.string (text []))/\Below w.heap.size w w':=by
 go_enter Tryz.func60,Tryz.ntmps60
 go_wp2;go_loopw [9] (fun i wr=>i=.int .i64 0/\IsB wr w.heap.size (Lib.byteCells ([].map chr))/\Below w.heap.size w wr) (fun i _=>0)
 case atStart=>exact⟨rfl,IsB.new w,(Below.refl _ _).alloc (VC _) _⟩
 case round=>
  obtain⟨rfl,hI,hB⟩:=hrel;have HI:=Ab hI;have HB:=Ab hB;have hzr:=hB.size;clear hI hB;go_wp2_with fail
  refine(Tx _ _ _ (Aa HI) hzr).mono ?_;rintro e w5 ⟨rfl,hB5⟩;have HB5:=Ab ((Aa HB).trans hB5);clear hB5;go_wp2;go_ret;exact⟨rfl,Aa HB5⟩
end Go.Proofs.YtleocpdblhbimaaGreatDoor
namespace Go.Proofs.YtleocpdblhbimaaGreatDoor
open Go.RowKit Go.Maps
set_option linter.unusedVariables false
set_option maxRecDepth 100000
theorem Y1 (l:List Int)(m:Nat):∀k,k<=l.length->∀i q,(Qp l m k)[i]? =some q->q<k/\l.getD q 0=(m:Int)/\cnt (l.take q) m=i
 |0,_,i,q,h=>by simp[Qp]at h
 |k+1,hk,i,q,h=>by
  rw[Qp]at h;have hlen:=Hm l m k (by omega)
  by_cases hi:i<(Qp l m k).length
  . rw[WL hi]at h;obtain⟨a,b,c⟩:=Y1 l m k (by omega) i q h;exact⟨by omega,b,c⟩
  . rw[VS (by omega)]at h
    by_cases e:l.getD k 0=(m:Int)
    . rw[if_pos e]at h
      have hi0:i-(Qp l m k).length=0:=by
       by_cases h0:i-(Qp l m k).length=0
       . exact h0
       . obtain⟨j,hj⟩:∃j,i-(Qp l m k).length=j+1:=⟨_,(Nat.succ_pred h0).symm⟩
         rw[hj]at h;simp at h
      rw[hi0]at h;simp at h
      subst h;exact⟨by omega,e,by omega⟩
    . rw[if_neg e]at h;simp at h
theorem Wq (l:List Int)(hG:Good l)(bs:List Nat)(p n:Nat)(h1:1<=n)(h15:n<=15):Hit l bs p n↔∃q,q<l.length/\codeT l q=hb (Bw bs p n) n:=by
 constructor
 . rintro ⟨a,b⟩;obtain⟨q,hq⟩:=PV l (k:=n) (i:=Bw bs p n-Ay (cnt l) n) (by omega);obtain⟨q1,q2,q3⟩:=Y1 l n l.length (VC _) _ _ hq;refine⟨q,q1, ?_⟩;have e:=Fy l q2;unfold nxt at e;rw[if_neg (by omega)]at e;unfold codeT;rw[q2,WD,e,q3,show Ay (cnt l) n+(Bw bs p n-Ay (cnt l) n)=Bw bs p n by omega]
 . rintro ⟨q,hq,e⟩;obtain⟨m,hm⟩:=VW (hG.ok q hq).1;have hl:=congrArg List.length e;unfold codeT at hl e;rw[hm,WD]at hl e;rw[Az,Az]at hl;subst hl;obtain⟨c1,c2,c3⟩:=Gr l hG hq hm (by omega);have:=B9 m _ _ c3 (Sf bs p m) e
   unfold Hit;rw[<-this];exact⟨c1,c2⟩
theorem B5 (l:List Int)(hG:Good l)(bs:List Nat)(p n q:Nat)(h1:1<=n)(hq:q<l.length)(e:codeT l q=hb (Bw bs p n) n):(Qp l n l.length)[Bw bs p n-Ay (cnt l) n]? =some q:=by
 obtain⟨m,hm⟩:=VW (hG.ok q hq).1;have hl:=congrArg List.length e;unfold codeT at hl e;rw[hm,WD]at hl e;rw[Az,Az]at hl;subst hl;obtain⟨c1,c2,c3⟩:=Gr l hG hq hm (by omega);have e2:=B9 m _ _ c3 (Sf bs p m) e;have e3:=Fy l hm;unfold nxt at e3;rw[if_neg (by omega)]at e3;rw[<-e2,show codeN l q-Ay (cnt l) m=cnt (l.take q) m by omega];exact M5 l hq hm
theorem IP (bs:List Nat)(n2 p:Nat):∀n,p+n<=8*n2->((rowB bs n2).drop p).take n=hb (Bw bs p n) n
 |0,_=>by simp[hb]
 |n+1,h=>by
  have ih:=IP bs n2 p n (by omega);have hlen:=Ai bs n2;have hb1:=NJ bs (p+n);have hdl:n<((rowB bs n2).drop p).length:=by rw[VN];omega
  rw[WR hdl,ih,Bw,hb,show (2*Bw bs p n+Z49 bs (p+n))/2=Bw bs p n by omega]
  congr 2
  have e1:((rowB bs n2).drop p)[n]=(rowB bs n2).getD (p+n) false:=by
   rw[List.getElem_drop];simp[List.getD,show p+n<(rowB bs n2).length by omega]
  rw[e1,Ld bs n2 (p+n) (by omega),Z2p]
  cases H7 bs (p+n)<;>simp<;>omega
instance (l:List Int) (bs:List Nat) (p n:Nat):Decidable (Hit l bs p n):=by unfold Hit;infer_instance
theorem Z05 (w:World):(zeroValue 3).run Tryz.prog w=.ok (.int .i64 0) w:=by kernel_rfl
theorem GK (l:List Bool)(n:Nat):(text l).extract 0 n=text (l.take n):=by
 apply ByteArray.ext
 simp[text,List.map_take]
theorem QO (l:List Int)(hG:Good l)(b nn:Nat)(bs:List Nat)(n2 p:Nat)(w:World)(hl2:bs.length=n2)(hn2:n2<=100000)(hp:p<=8*n2)(hM:Dv w b nn (Ew l l.length)):
 Calls Tryz.prog 126 #[.map (some b),.string (text ((rowB bs n2).drop p))] w fun e w'=>∃(x u p':Nat) (err:Int),e=.returned (.tuple #[.int .i64 (x:Int),.int .i64 (u:Int),.int .i64 err])/\w'=w/\Sm l bs p x err p'/\p'<=8*n2/\(err=0->p'=p+u)/\(err≠0->u=0):=by
 have HG:=Ab hG;have HM:=Ab hM;have HL2:=Ab hl2;have hsz:(text ((rowB bs n2).drop p)).size=8*n2-p:=by rw[Cl,VN,Ai]
 have HPre:Hid (∀n,p+n<=8*n2->(text ((rowB bs n2).drop p)).extract 0 n=text (hb (Bw bs p n) n)):=fun n h=>by rw[GK,IP bs n2 p n h]
 have HKey:Hid (∀n,n<=15->keyOf Tryz.prog 9 (.string (text (hb (Bw bs p n) n)))=some (kT (hb (Bw bs p n) n))):=fun n h=>WideMaps.keyOf_string_mk Tryz.underlying9 (by rw[Cl,Az];unfold maxLen;omega)
 have HHas:Hid (∀n,1<=n->n<=15->Maps.has (Ew l l.length) (kT (hb (Bw bs p n) n))=decide (Hit l bs p n)):=fun n h1 h2=>by
  rw[BD l _ (fun e=>by have:=congrArg List.length e;rw[Az]at this;simp at this;omega)];rw[YR];simp only[decide_eq_true_eq];exact(Wq l hG bs p n h1 h2).symm
 have HAt:Hid (∀n,1<=n->n<=15->Hit l bs p n->∃q:Nat,(Qp l n l.length)[Bw bs p n-Ay (cnt l) n]? =some q/\(Ew l l.length).atKey (kT (hb (Bw bs p n) n)) (.lit (.int .i64 0))=.lit (.int .i64 (q:Int))):=fun n h1 h2 hh=>by
  obtain⟨q,hq,e⟩:=(Wq l hG bs p n h1 h2).1 hh;have hne:hb (Bw bs p n) n≠ []:=fun e=>by have:=congrArg List.length e;rw[Az]at this;simp at this;omega
  exact⟨q,B5 l hG bs p n q h1 hq e,R4 l _ hne (Se l hG _ hne) _ l.length (VC _) q hq e⟩
 clear hG hM;generalize text ((rowB bs n2).drop p)=T at*;generalize Ew l l.length=D at*;go_enter Tryz.func126,Tryz.ntmps126
 go_wp2;go_loop [7] (fun vi=>∃k:Nat,k<=15/\vi=.int .i64 ((k:Int)+1)/\p+k<=8*n2/\∀j,1<=j->j<=k->¬Hit l bs p j) (fun vi=>16-(intOf vi).toNat)
 case atStart=>exact⟨0,by omega,rfl,by omega,fun j h1 h2=>by omega⟩
 case round=>
  obtain⟨k,hk,rfl,hpk,hno⟩:=hrel;have HNo:=Ab hno;clear hno
  by_cases hlt:k<15
  . by_cases hend:p+k=8*n2
    . have hgt:((8*n2-p:Nat):Int)<(k:Int)+1:=by omega
      have HOut:Hid (Sm l bs p 0 7 (p+k)):=.inr (.inl ⟨k,hlt,Aa HNo,by rw[Aa HL2];exact hend,rfl,rfl,rfl⟩);clear HPre HKey HHas HAt HNo;go_wp2;go_ret3;exact⟨0,0,p+k,7,rfl,rfl,Aa HOut,hpk,(fun h=>by cases h),fun _=>rfl⟩
    . have hgt:¬((8*n2-p:Nat):Int)<(k:Int)+1:=by omega
      have e1:=Aa HPre (k+1) (by omega);have hkey:=Aa HKey (k+1) (by omega);have hhas:=Aa HHas (k+1) (by omega) (by omega);have HE1:=Ab e1;have HKk:=Ab hkey;have HHk:=Ab hhas;have HAk:=Ab (Aa HAt (k+1) (by omega) (by omega))
      have HNoN:Hid (¬Hit l bs p (k+1)->∀j,1<=j->j<=k+1->¬Hit l bs p j):=fun hh j a1 a2=>by
       by_cases e:j=k+1
       . rw[e];exact hh
       . exact Aa HNo j a1 (by omega)
      have HOutN:Hid (∀x,Hit l bs p (k+1)->(Qp l (k+1) l.length)[Bw bs p (k+1)-Ay (cnt l) (k+1)]? =some x->Sm l bs p x 0 (p+(k+1))):=fun x hh hx=>
       .inl ⟨k+1,by omega,by omega,fun j a1 a2=>Aa HNo j a1 (by omega),by rw[Aa HL2];omega,hh,rfl,rfl,hx⟩
      have hpk2:p+(k+1)<=8*n2:=by omega
      clear e1 hkey hhas HPre HKey HHas HAt HNo;generalize text (hb (Bw bs p (k+1)) (k+1))=S at*;generalize kT (hb (Bw bs p (k+1)) (k+1))=KK at*;have hk8:(k:Int)+1<=((8*n2-p:Nat):Int):=by omega
      have hex:T.extract 0 (k+1)=S:=Aa HE1;go_wp2_with (at_lookup;refine wpList_lookup_own_ok_int _ rfl _ _ 161 rfl 9 3 .i64 Z5e Tryz.underlying161 Tryz.underlying3 (Z05 _) b nn D rfl (Aa HM) _ _ rfl (Aa HKk) ?_)
      intro c hat hwc;have HAT:=Ab hat;clear hat hwc;rw[Aa HHk]
      by_cases hh:Hit l bs p (k+1)
      . obtain⟨q,hq1,hq2⟩:=Aa HAk hh
        have hc:c=(q:Int):=by
         have:=(Aa HAT).symm.trans hq2
         simpa using this
        have HO:=Ab (Aa HOutN q hh hq1);rw[decide_eq_true hh];subst hc;clear hh hq1 hq2 HOutN HNoN HAk HHk HAT;go_wp2;go_ret3;exact⟨q,k+1,p+(k+1),0,rfl,rfl,Aa HO,hpk2,fun _=>rfl,fun h=>absurd rfl h⟩
      . have HN2:=Ab (Aa HNoN hh);rw[decide_eq_false hh];clear hh HOutN HNoN HAk HHk HAT;go_wp2;go_round
        case rel=>exact⟨k+1,by omega,by go_num,hpk2,Aa HN2⟩
        case measure=>simp[intOf];omega
  . obtain rfl:k=15:=by omega
    have HOut:Hid (Sm l bs p 0 8 (p+15)):=.inr (.inr ⟨Aa HNo,by rw[Aa HL2];exact hpk,rfl,rfl,rfl⟩);clear HPre HKey HHas HAt HNo;go_wp2;go_ret3;exact⟨0,0,p+15,8,rfl,rfl,Aa HOut,hpk,(fun h=>by cases h),fun _=>rfl⟩
end Go.Proofs.YtleocpdblhbimaaGreatDoor
namespace Go.Proofs.YtleocpdblhbimaaGreatDoor
open Go.RowKit
set_option linter.unusedVariables false
set_option maxRecDepth 100000
theorem UIs.rows {No:Nat->Prop}{B b:Nat}{w:World}{row:List Bool}{u:US}(h:UIs No B w b row u):∃ov kv,w.cell? ⟨b,2,none⟩=some ov/\w.cell? ⟨b,3,none⟩=some kv/\w.heap[b]? =some (.cells (ucells row u ov kv) 110 (0,0))/\w.ownsRow (b+1) 5 1 ov u.out.length (u8s u.out)/\w.ownsRow (b+1) 3 1 kv u.ks.length (i64s u.ks)/\(ov.ownBlock=none\/ov.ownBlock≠kv.ownBlock)/\(∀g,ov.ownBlock=some g->¬No g)/\(∀g,kv.ownBlock=some g->¬No g):=by
 obtain⟨ov,kv,h1,h2⟩:=h.ex;exact⟨ov,kv,Ac h1,Ac h1,h1,h2⟩
theorem Qg (No:Nat->Prop)(B b c:Nat)(row:List Bool)(u:US)(w:World)(h:UIs No B w b row u)(ho:u.out.length<=3000)(hNo:∀g,w.heap.size<=g->¬No g):
 Calls Tryz.prog 93 #[.pointer (some ⟨b,0,none⟩),.int .u8 (c:Int)] w fun e w'=>e=.returned (.tuple #[])/\UUp No B w b row (Hy c u) w':=by
 obtain⟨i0,hi,hz0,hz1,hz2⟩:=info_parts Kl;obtain⟨c0,c1,c4,fr⟩:=h.cell;obtain⟨ov,kv,c2,c3,hh,hov,hkv,hap,hn1,hn2⟩:=h.rows;have H:=Ab h;have hbl:=h.lt;have hbb:=h.base;have hbn:=h.no;clear h
 by_cases h0:u.e=0
 . rw[h0]at c4
   by_cases hl:u.out.length=3000
   . have HU:Hid (Hy c u= {u with e:=2}):=Ab (by unfold Hy;rw[if_pos h0,if_pos hl]);obtain⟨a,cc,rfl⟩:=As hov;rw[hl]at c2;rw[Aa HU];clear hov hkv hh HU h0 hn1 hn2 hap;go_enter Tryz.func93,Tryz.ntmps93
     go_wp2;go_end0
     exact⟨rfl,(Aa H).setE 2⟩
   . have HU:Hid (Hy c u= {u with out:=u.out++ [c]}):=Ab (by unfold Hy;rw[if_pos h0,if_neg hl]);obtain⟨L,hL⟩:∃L,u.out.length=L:=⟨_,rfl⟩
     rw[hL]at hl ho hov;have HL:=Ab hL;obtain⟨a,cc,hv⟩:=As hov;have hb3:((L:Int)==3000)=false:=by rw[beq_eq_false_iff_ne];omega
     have HOV:=Ab hov;have HKV:=Ab hkv;have HH:=Ab hh;have HAP:=Ab hap;have HN1:=Ab hn1;have HN2:=Ab hn2;have HNo:=Ab hNo
     have HVb:Hid (ov.ownBlock=none\/ov.ownBlock≠some b):=by
      cases hx:ov.ownBlock with
      |none=>exact .inl rfl
      |some g=>
       refine .inr (fun e=> ?_);have:=(hov.lt g hx).1
       cases e
       omega
     subst hv;rw[Aa HU];clear hov hkv hh HU h0 hn1 hn2 hap hL hNo;go_enter Tryz.func93,Tryz.ntmps93
     go_wp2_with (at_builtin;refine wpList_append_own_at _ rfl _ _ 23 rfl (b+1) 5 i0 (.int .u8 0) 1 1 Tryz.underlying23 hi hz0 hz1 hz2 rfl (by decide) _ L (u8s u.out) rfl ((Aa HOV).alloc _) ⟨w.heap.size,0,none⟩ 1 1 [.int .u8 (c:Int)] rfl rfl (cell_one_new _ _ _) (Fd rfl) (by unfold maxLen;omega) (by omega) (by simp;omega) ?_)
     intro v' w3 hO3 hgrow _ hspot;obtain⟨g9,c9,hv9,_,_⟩:=Be hO3 (by omega)
     have hgb:w3.heap[b]? =some (.cells (ucells row u (.slice a L cc) kv) 110 (0,0)):=by
      rw[hgrow.block b (by simp;omega) (fun e=>by rcases Aa HVb with h|h;rw[h]at e;cases e;exact h e.symm)];exact(Below.heap_alloc w _ b hbl).trans (Aa HH)
     have hgw:∀g,g<w.heap.size->(Value.slice a L cc).ownBlock≠some g->w3.heap[g]? =w.heap[g]? :=fun g hg hne=>by
      rw[hgrow.block g (by simp;omega) (fun e=>hne e.symm)];exact Below.heap_alloc w _ g hg
     have q2:w3.cell? ⟨b,2,none⟩=some (.slice a L cc):=Ac hgb;have f2:=frozen_of_row w3 b 2 _ _ hgb;have hsz:=hgrow.size
     have HFIN:Hid (UUp No B w b row {u with out:=u.out++ [c]} (w3.setCell ⟨b,2,none⟩ v')):=by
      have hset:=Ad w3 b 2 v';simp only[World.size_alloc]at hsz
      have hv'b:v'.ownBlock=none\/v'.ownBlock≠some b:=by
       cases hx:v'.ownBlock with
       |none=>exact .inl rfl
       |some g=>
        refine .inr (fun e=> ?_);have:=(hO3.lt g hx).1
        cases e
        omega
      have hk3:w3.ownsRow (b+1) 3 1 kv u.ks.length (i64s u.ks):=Dj (Aa HKV) (fun g hg=>hgw g ((Aa HKV).lt g hg).2 (fun e=>by
       rcases Aa HAP with h|h
       . rw[h]at e;cases e
       . exact h (by rw[hg];exact e)))
      have hkb:kv.ownBlock=none\/kv.ownBlock≠some b:=by
       cases hx:kv.ownBlock with
       |none=>exact .inl rfl
       |some g=>
        refine .inr (fun e=> ?_);have:=((Aa HKV).lt g hx).1
        cases e
        omega
      refine⟨⟨hbb,hbn,v',kv, ?_, ?_,hk3.kept hset hkb, ?_, ?_,Aa HN2⟩, ?_, ?_⟩
      . rw[heap_setCell_same w3 b 2 _ _ _ hgb];rfl
      . have:=hO3.kept hset hv'b
        show (w3.setCell ⟨b,2,none⟩ v').ownsRow (b+1) 5 1 v' (u.out++ [c]).length (u8s (u.out++ [c]))
        rw[K1,VB,Aa HL];exact this
      . rcases hspot with h|h
        . rw[h];exact Aa HAP
        . refine .inr (fun e=> ?_);rw[h]at e;have:=((Aa HKV).lt _ e.symm).2
          omega
      . intro g hg
        rcases hspot with h|h
        . exact Aa HN1 g (by rw[<-h];exact hg)
        . rw[h]at hg;have:=VQ hg
          exact Aa HNo g (by omega)
      . refine⟨hset.os.trans (hgrow.os.trans rfl),hset.tape.trans (hgrow.tape.trans rfl),hset.output.trans (hgrow.output.trans rfl),by have:=hset.size;omega, ?_⟩;intro g hg;rw[hset.block g (by omega) (fun e=>by simp at e;omega),hgw g (by omega) (fun e=>by have:=((Aa HOV).lt g e).1;omega)]
      . intro g h1 h2;rw[hset.block g (by omega) (fun e=>by simp at e;subst e;exact hbn h2),hgw g h1 (fun e=>Aa HN1 g e h2)]
     subst hv9;clear hO3 hgrow hspot hgb hgw hsz;go_wp2;go_end0
     exact⟨rfl,Aa HFIN⟩
 . have HU:Hid (Hy c u=u):=Ab (by unfold Hy;rw[if_neg h0]);have hb:(u.e==0)=false:=by rw[beq_eq_false_iff_ne];exact h0
   rw[Aa HU];generalize u.e=e0 at c4 hb;clear h0 HU hov hkv hh hn1 hn2 hap c2 c3;go_enter Tryz.func93,Tryz.ntmps93
   go_wp2;go_end0
   exact⟨rfl,UUp.refl (Aa H)⟩
theorem Md (l:List Int)(hG:Good l)(bs:List Nat)(n2 p n:Nat)(hl:bs.length=n2)(h1:1<=n)(h15:n<=15)(hp:p+n<=8*n2):
 (¬Hit l bs p n->Og l (((rowB bs n2).drop p).take n)=none)/\(∀x,Hit l bs p n->(Qp l n l.length)[Bw bs p n-Ay (cnt l) n]? =some x->Og l (((rowB bs n2).drop p).take n)=some x):=by
 rw[IP bs n2 p n hp];have hs:hb (Bw bs p n) n≠ []:=fun e=>by have:=congrArg List.length e;rw[Az]at this;simp at this;omega
 constructor
 . intro hh;unfold Og;rw[List.find?_eq_none];intro q hq;simp only[decide_eq_true_eq];intro e;exact hh ((Wq l hG bs p n h1 h15).2 ⟨q,by simpa using hq,e⟩)
 . intro x hh hx;obtain⟨q,hq,e⟩:=(Wq l hG bs p n h1 h15).1 hh
   have hxq:x=q:=by
    have:=B5 l hG bs p n q h1 hq e
    rw[hx]at this;exact VQ this
   subst hxq;unfold Og
   cases hf:(List.range l.length).find? (fun q=>decide (codeT l q=hb (Bw bs p n) n))with
   |none=>
    rw[List.find?_eq_none]at hf;exact absurd (by simpa using e) (hf x (by simpa using hq))
   |some y=>
    have hy:=List.find?_some hf;have hy2:=List.mem_of_find?_eq_some hf;simp only[decide_eq_true_eq]at hy;rw[Se l hG _ hs y x (by simpa using hy2) hq hy e]
theorem QP (l:List Int)(hG:Good l)(bs:List Nat)(n2 p x u p':Nat)(err:Int)(hl:bs.length=n2)(ho:Sm l bs p x err p')(hu:err=0->p'=p+u)(hu0:err≠0->u=0):Na l (rowB bs n2) p=(x,u,err):=by
 have hlen:=Ai bs n2;unfold Na
 rcases ho with ⟨k,k1,k15,hno,hpk,hit,rfl,rfl,hx⟩|⟨k,k15,hno,hpk,rfl,rfl,rfl⟩|⟨hno,hpk,rfl,rfl,rfl⟩
 . rw[hl]at hpk;have hu':=hu rfl;obtain rfl:u=k:=by omega
   obtain⟨m,rfl⟩:∃m,u=m+1:=⟨u-1,by omega⟩
   have:=Ln l (rowB bs n2) p m (15-m) (fun j h1 h2=>⟨by omega,(Md l hG bs n2 p j hl h1 (by omega) (by omega)).1 (hno j h1 (by omega))⟩) 1 (by omega)
   rw[show m+(15-m)=15 by omega]at this;rw[this,show 15-m=(14-m)+1 by omega,Gm,show 1+m=m+1 by omega,if_neg (by omega),(Md l hG bs n2 p (m+1) hl (by omega) (by omega) hpk).2 x hit hx]
 . rw[hl]at hpk;obtain rfl:=hu0 (by decide);have:=Ln l (rowB bs n2) p k (15-k) (fun j h1 h2=>⟨by omega,(Md l hG bs n2 p j hl h1 (by omega) (by omega)).1 (hno j h1 h2)⟩) 1 (by omega)
   rw[show k+(15-k)=15 by omega]at this;rw[this,show 15-k=(14-k)+1 by omega,Gm,if_pos (by omega)]
 . rw[hl]at hpk;obtain rfl:=hu0 (by decide);have:=Ln l (rowB bs n2) p 15 0 (fun j h1 h2=>⟨by omega,(Md l hG bs n2 p j hl h1 (by omega) (by omega)).1 (hno j h1 h2)⟩) 1 (by omega)
   rw[this,Gm]
theorem QN (l:List Int)(hG:Good l)(b nn:Nat)(bs:List Nat)(n2 p:Nat)(w:World)(hl2:bs.length=n2)(hn2:n2<=100000)(hp:p<=8*n2)(hM:Dv w b nn (Ew l l.length))(x u:Nat)(err:Int)(hr:Na l (rowB bs n2) p=(x,u,err)):
 Calls Tryz.prog 126 #[.map (some b),.string (text ((rowB bs n2).drop p))] w fun e w'=>e=.returned (.tuple #[.int .i64 (x:Int),.int .i64 (u:Int),.int .i64 err])/\w'=w:=by
 refine(QO l hG b nn bs n2 p w hl2 hn2 hp hM).mono ?_;rintro e w' ⟨x',u',p',err',rfl,rfl,ho,_,h5,h6⟩;have:=QP l hG bs n2 p x' u' p' err' hl2 ho h5 h6
 rw[hr]at this;simp only[YU]at this;obtain⟨rfl,rfl,rfl⟩:=this;exact⟨rfl,rfl⟩
theorem Y9 (l:List Int)(row:List Bool)(p:Nat)(hp:p<=row.length):p+(Na l row p).2.1<=row.length:=by
 have:∀f n,p+(Gm l row p f n).2.1<=row.length:=by
  intro f
  induction f with
  |zero=>intro n;rw[Gm];exact hp
  |succ f ih=>
   intro n;rw[Gm]
   by_cases h:row.length<p+n
   . rw[if_pos h];exact hp
   . rw[if_neg h]
     cases hf:Og l ((row.drop p).take n)with
     |none=>exact ih (n+1)
     |some q=>show p+n<=row.length;omega
 exact this 15 1
theorem GL (row:List Bool)(p N:Nat)(h:row.length=N):(text row).extract p N=text (row.drop p):=by
 apply ByteArray.ext
 simp only[ByteArray.data_extract];simp[text,List.map_drop,<-h]
 exact VP (by simp)
theorem Fp (No:Nat->Prop)(B b mb nn n2:Nat)(l:List Int)(bs:List Nat)(u:US)(w:World)(h:UIs No B w b (rowB bs n2) u)(hG:Good l)(hl:bs.length=n2)(hn2:n2<=25000)(hp:u.p<=8*n2)(hM:Dv w mb nn (Ew l l.length))(hmb:mb≠b):
 Calls Tryz.prog 98 #[.pointer (some ⟨b,0,none⟩),.map (some mb)] w fun e w'=>e=.returned (.int .i64 ((uplace l (rowB bs n2) u).1:Int))/\UUp No B w b (rowB bs n2) (uplace l (rowB bs n2) u).2 w':=by
 obtain⟨c0,c1,c4,fr⟩:=h.cell;have H:=Ab h;have hsz:(text (rowB bs n2)).size=8*n2:=by rw[Cl,Ai]
 clear h
 by_cases h0:u.e=0
 . rw[h0]at c4;have hx:=GL (rowB bs n2) u.p (8*n2) (Ai bs n2);obtain⟨x,v,err,hr⟩:∃x v err,Na l (rowB bs n2) u.p=(x,v,err):=⟨_,_,_,rfl⟩
   have hle:=Y9 l (rowB bs n2) u.p (by rw[Ai];exact hp);rw[Ai,hr]at hle;simp only at hle
   have HN:=Ab (fun(W:World) (hW:Dv W mb nn (Ew l l.length))=>QN l hG mb nn bs n2 u.p W hl (by omega) hp hW x v err hr);have HM:=Ab hM;have HU:Hid (uplace l (rowB bs n2) u=(x,{u with e:=err,p:=u.p+v})):=Ab (by unfold uplace;rw[if_pos h0,hr]);rw[Aa HU];clear hM h0 HU hr;generalize text ((rowB bs n2).drop u.p)=S at*;generalize text (rowB bs n2)=T at*;obtain⟨p,out,ks,e⟩:=u;simp only at*
   go_enter Tryz.func98,Tryz.ntmps98
   go_wp2;go_quiet ((go_at_call 126;refine Calls.quiet_of_same (Aa HN _ (Aa HM))))
   go_wp2;go_ret;have U0:=(UUp.refl (Aa H)).drewN nq;have U1:=U0.trans (U0.is.setE err);exact⟨rfl,U1.trans (U1.is.setP (p+v))⟩
 . have HU:Hid (uplace l (rowB bs n2) u=(0,u)):=Ab (by unfold uplace;rw[if_neg h0]);rw[Aa HU];have hb:(u.e !=0)=true:=by rw[bne_iff_ne];exact h0
   generalize u.e=e0 at c4 hb;clear h0 HU;go_enter Tryz.func98,Tryz.ntmps98
   go_wp2;go_ret;exact⟨rfl,UUp.refl (Aa H)⟩
theorem Pt (row:List Bool)(n:Nat)(u:US)(h:u.p<=row.length):(uget row n u).2.p<=row.length:=by
 unfold uget
 by_cases h0:u.e=0
 . rw[if_pos h0]
   by_cases h1:row.length<u.p+n
   . rw[if_pos h1];exact h
   . rw[if_neg h1];show u.p+n<=row.length;omega
 . rw[if_neg h0];exact h
theorem Vm (row:List Bool)(n:Nat)(u:US):(uget row n u).1<2^n:=by
 have hpos:0<2^n:=YN n;unfold uget
 by_cases h0:u.e=0
 . rw[if_pos h0]
   by_cases h1:row.length<u.p+n
   . rw[if_pos h1];exact hpos
   . rw[if_neg h1];refine VG (Oy _) (VU (by omega) ?_);simp
     omega
 . rw[if_neg h0];exact hpos
theorem OK (l:List Int)(row:List Bool)(u:US)(h:u.p<=row.length):(uplace l row u).2.p<=row.length:=by
 unfold uplace
 by_cases h0:u.e=0
 . rw[if_pos h0];exact Y9 l row u.p h
 . rw[if_neg h0];exact h
theorem Gw (No:Nat->Prop)(B b n:Nat)(row:List Bool)(u:US)(w:World)(h:UIs No B w b row u)(hn:n<=16)(hrow:row.length<=200000)(hp:u.p<=row.length)(r:Nat)(v:US)(hr:uget row n u=(r,v)):
 Calls Tryz.prog 91 #[.pointer (some ⟨b,0,none⟩),.int .i64 (n:Int)] w fun e w'=>e=.returned (.int .i64 (r:Int))/\UUp No B w b row v w':=by
 have:=Z1z No B b n row u w h hn hrow hp
 rw[hr]at this;exact this
theorem UIs.more {No No':Nat->Prop}{B b:Nat}{w:World}{row:List Bool}{u:US}(h:UIs No B w b row u)(hb:¬No' b)(hn:∀g,No' g->No g\/w.heap.size<=g):UIs No' B w b row u:=by
 obtain⟨ov,kv,h1,h2,h3,h4,h5,h6⟩:=h.ex;refine⟨h.base,hb,ov,kv,h1,h2,h3,h4, ?_, ?_⟩
 . intro g hg hN
   rcases hn g hN with e|e
   . exact h5 g hg e
   . have:=(h2.lt g hg).2;omega
 . intro g hg hN
   rcases hn g hN with e|e
   . exact h6 g hg e
   . have:=(h3.lt g hg).2;omega
theorem JT (n:Nat)(hn:n<4294967296):bits .and .u64 (n:Int) 4294967295=(n:Int):=by
 have h:=u64_and_nat n 4294967295 (by omega) (by omega)
 have e:n&&&4294967295=n:=by
  rw[show (4294967295:Nat)=2^32-1 by rfl,Nat.and_two_pow_sub_one_eq_mod];exact ZH hn
 rw[e]at h;simpa using h
theorem JQ (n:Nat)(w:World)(hn:n<4294967296):Calls Tryz.prog 194 #[.int .u64 1,.int .u64 (n:Int)] w fun e w'=>e=.returned (.tuple #[.int .u64 0,.int .u64 (n:Int)])/\w'=w:=by
 have hA:bits .and .u64 1 4294967295=1:=by simpa using JT 1 (by omega)
 have hC:bits .and .u64 0 4294967295=0:=by simpa using JT 0 (by omega)
 have hB:=JT n hn;have hD:(n:Int)/4294967296=0:=by omega
 have hW:IntKind.u64.wrap (n:Int)=(n:Int):=by simp[IntKind.wrap,IntKind.signed,IntKind.bits];omega
 have hW0:IntKind.u64.wrap 0=0:=by decide
 go_enter Tryz.func194,Tryz.ntmps194
 go_wp2;go_ret2;exact⟨rfl,rfl⟩
theorem mul_one (n:Nat)(w:World)(hn:n<4294967296):Calls Tryz.prog 160 #[.int .u64 1,.int .u64 (n:Int)] w fun e w'=>e=.returned (.tuple #[.int .u64 0,.int .u64 (n:Int)])/\w'=w:=by
 go_enter Tryz.func160,Tryz.ntmps160
 go_wp2_with fail
 refine(JQ n w hn).mono ?_;rintro e w' ⟨rfl,rfl⟩;go_wp2;go_ret2;exact⟨rfl,rfl⟩
def Ub (x:Int)(c n:Nat):List Value:=iv (List.replicate c x++List.replicate (n-c) 0)
theorem Qm (x:Int)(c n:Nat)(h:c<=n):(Ub x c n).length=n:=by simp[Ub];omega
theorem Ql (x:Int)(c d n:Nat)(h:c+d<=n):splice (Ub x c n) c (iv (List.replicate d x))=Ub x (c+d) n:=by
 unfold splice Ub iv;rw[WS,YP (by simp),WG,VV]
 have e:List.drop (c+d) (List.map (Value.int .i64) (List.replicate c x)++List.map (Value.int .i64) (List.replicate (n-c) 0))=List.map (Value.int .i64) (List.replicate (n-(c+d)) 0):=by
  rw[List.drop_append];simp
  omega
 rw[e,<-VH,<-WS,<-WS]
 congr 2
 rw[XY]
theorem IF {w:World}{g n c:Nat}{x:Int}(h:w.heap[g]? =some (.cells (Ub x c n).toArray 3 (0,0)))(d:Nat)(hd:d<=c):∀j v,(iv (List.replicate d x))[j]? =some v->w.cell? ((⟨g,0,none⟩:Addr).add j)=some v:=by
 intro j v hj;have e:(⟨g,0,none⟩:Addr).add j=⟨g,j,none⟩:=by unfold Addr.add;split<;>simp_all
 rw[e,cell_of_row w g j _ _ _ h]
 have hj2:j<d:=by
  by_cases c':j<d
  . exact c'
  . rw[WN (by simp;omega)]at hj;cases hj
 simp[hj2]at hj
 subst hj;simp[Ub,List.getElem?_append,show j<c by omega]
theorem CK (b o cc:Nat)(x:Int)(n:Nat)(w:World)(hb:b<w.heap.size)(hc:w.cell? ⟨b,o,none⟩=some (.int .i64 x))(h1:1<=n)(hn:n<=1000):
 Calls Tryz.prog 123 #[.slice (some ⟨b,o,none⟩) 1 cc,.int .i64 (n:Int)] w fun e w'=>e=.returned (.slice (some ⟨w.heap.size,0,none⟩) n n)/\w'.heap[w.heap.size]? =some (.cells (Ub x n n).toArray 3 (0,0))/\Below w.heap.size w w':=by
 obtain⟨i0,hi,hz0,hz1,hz2⟩:=info_parts Cc;have hsz:(Tryz.prog.info? 3).map (·.size)=some 1:=by rw[hi];simp[hz1]
 have hW:IntKind.u64.wrap (n:Int)=(n:Int):=by simp[IntKind.wrap,IntKind.signed,IntKind.bits];omega
 have hW1:IntKind.u64.wrap 1=1:=by decide
 go_enter Tryz.func123,Tryz.ntmps123
 go_wp2_with fail
 refine(mul_one n w (by omega)).mono ?_;rintro e w1 ⟨rfl,rfl⟩;go_wp2_with (at_make;refine wpList_make_full _ rfl _ _ 76 rfl w1.heap.size 3 i0 (.int .i64 0) 1 Tryz.underlying76 hi hz0 hz1 _ _ _ _ n rfl rfl rfl rfl (by rw[hz2];omega) (by unfold maxLen;omega) (VC _) ?_)
 intro w2 hO2 hg2
 have hg2':w2.heap[w1.heap.size]? =some (.cells (Ub x 0 n).toArray 3 (0,0)):=by
  rcases hO2.2 with ⟨h,_⟩|⟨g,cap,cur,h,_,h3,h4,h5,h6,h7⟩
  . cases h
  . simp only[Value.slice.injEq,YK,Addr.mk.injEq]at h;obtain⟨⟨rfl,_⟩,_,rfl⟩:=h;rw[h3]
    congr 2
    have e1:cur.toList.take (n*1)=cur.toList:=VP (by simp[h6]);rw[e1]at h7
    have e2:cur.toList=Ub x 0 n:=by
     rw[h7];show (madeCells #[Value.int .i64 0] n).toList=_
     rw[toList_madeCells_one];simp[Ub]
    rw[<-e2]
 have HG2:=Ab hg2';have HB2:=Ab (Gz (Below.refl w1.heap.size w1) hg2 (VC _));have hc2:w2.cell? ⟨b,o,none⟩=some (.int .i64 x):=hg2.cell hc (by simp);have hz2':=hg2.size;clear hO2 hg2 hg2' hc
 have hs1:∀j v,(iv (List.replicate 1 x))[j]? =some v->w2.cell? ((⟨b,o,none⟩:Addr).add j)=some v:=by
  intro j v hj
  match j,hj with
  |0,hj=>
   simp at hj
   subst hj;simpa[Addr.add]using hc2
 have hs2:(iv (List.replicate 1 x)).length=Nat.min 1 n:=by
  show 1=min 1 n
  omega
 have hs3:0+(iv (List.replicate 1 x)).length<=(Ub x 0 n).length:=by
  rw[Qm x 0 n (VK _)];show 0+1<=n
  omega
 have hs4:∀v∈iv (List.replicate 1 x),v.oneCell'=true:=by intro v hv;simp at hv;subst hv;rfl
 have HS1:=Ab hs1;have HS2:=Ab hs2;have HS3:=Ab hs3;have HS4:=Ab hs4;clear hs1 hs2 hs3 hs4;go_wp2_with (refine wpList_copy_splice rfl (.tmp 31) (.tmp 32) 76 76 rfl 3 Tryz.underlying76 hsz (some ⟨w1.heap.size,0,none⟩) (some ⟨b,o,none⟩) n n 1 cc rfl rfl w1.heap.size 0 (Ub x 0 n) 3 (Aa HG2) (iv (List.replicate 1 x)) (Aa HS2) (fun _=>⟨rfl,_,rfl,Aa HS1⟩) (Aa HS3) (Aa HS4) w1.heap.size w1 (Aa HB2) (VC _) ?_)
 intro w3 hg3 hb3
 have HG3:Hid (w3.heap[w1.heap.size]? =some (.cells (Ub x 1 n).toArray 3 (0,0))):=by
  have e:=Ql x 0 1 n (by omega);rw[WI]at e;rw[<-e];exact hg3
 have HB3:=Ab hb3;clear hg3 hb3 hc2;go_wp2;go_loopw [8] (fun v8 wr=>∃c:Nat,1<=c/\c<=n/\v8=.int .i64 (c:Int)/\wr.heap[w1.heap.size]? =some (.cells (Ub x c n).toArray 3 (0,0))/\Below w1.heap.size w1 wr) (fun v8 _=>n-(intOf v8).toNat)
 case atStart=>exact⟨1,VC _,h1,rfl,Aa HG3,Aa HB3⟩
 case round=>
  obtain⟨c,hc1,hcn,rfl,hG,hBr⟩:=hrel;have HG:=Ab hG;have HBr:=Ab hBr;clear hG hBr
  by_cases hlt:c<n
  . obtain⟨d,hd⟩:∃d,d=Nat.min c (n-c):=⟨_,rfl⟩
    have hd1:d<=c/\c+d<=n/\1<=d:=by
     have hd':d=min c (n-c):=hd;omega
    obtain⟨hd1,hd2,hd3⟩:=hd1;have hcn2:¬n=c:=by omega
    have hn0:¬n=0:=by omega
    have HD:=Ab hd;have ht2:(iv (List.replicate d x)).length=Nat.min c (n-c):=by simp[hd]
    have ht3:c+(iv (List.replicate d x)).length<=(Ub x c n).length:=by rw[Qm x c n hcn];simp;omega
    have ht4:∀v∈iv (List.replicate d x),v.oneCell'=true:=by intro v hv;simp at hv;obtain⟨_,rfl⟩:=hv;rfl
    have HT2:=Ab ht2;have HT3:=Ab ht3;have HT4:=Ab ht4;clear hd ht2 ht3 ht4;go_wp2;go_region_held3 (fun _=>True) (trivial) (first|(refine step_copy_splice rfl (.tmp 41) (.tmp 44) 76 76 rfl 3 Tryz.underlying76 hsz (some ⟨w1.heap.size,c,none⟩) (some ⟨w1.heap.size,0,none⟩) (n-c) (n-c) c n (by simp[Act.eval]) (by simp[Act.eval]) w1.heap.size c (Ub x c n) 3 (Aa HG) (iv (List.replicate d x)) (Aa HT2) (fun _=>⟨rfl,_,rfl,IF (Aa HG) d hd1⟩) (Aa HT3) (Aa HT4) w1.heap.size w1 (Af (Aa HBr) 1) (VC _) ?_;intro w4 hg4 hb4))
    have HG4:Hid (w4.heap[w1.heap.size]? =some (.cells (Ub x (c+d) n).toArray 3 (0,0))):=by
     rw[<-Ql x c d n hd2];exact hg4
    have HB4:=Ab hb4;clear hg4 hb4
    have hwr:IntKind.i64.wrap ((c:Int)+(d:Int))=((c+d:Nat):Int):=by
     simp[IntKind.wrap,IntKind.signed,IntKind.bits];omega
    go_wp2;go_roundw
    case rel=>exact⟨c+d,by omega,by omega,by rw[hwr],Aa HG4,Aa HB4⟩
    case measure=>rw[hwr];simp[intOf];omega
  . obtain rfl:n=c:=by omega
    go_wp2;go_ret;exact⟨rfl,Aa HG,Aa HBr⟩
theorem CE {w:World}{g n:Nat}{x:Int}(h:w.heap[g]? =some (.cells (Ub x n n).toArray 3 (0,0))):RowIn .i64 w (some ⟨g,0,none⟩) (List.replicate n x):=by
 refine .inr ⟨g,0,rfl,(VL.1 h).1, ?_⟩;intro j hj;rw[WI,cell_of_row w g j _ _ _ h];have hj':j<n:=by simpa using hj
 simp[Ub,List.getD,hj']
theorem Cy (x:Int)(n:Nat)(w:World)(h1:1<=n)(hn:n<=1000):
 Calls Tryz.prog 123 #[.slice (some ⟨w.heap.size,0,none⟩) 1 1,.int .i64 (n:Int)] (w.alloc (.cells #[.int .i64 x] 3)) fun e w'=>e=.returned (.slice (some ⟨w.heap.size+1,0,none⟩) n n)/\RowIn .i64 w' (some ⟨w.heap.size+1,0,none⟩) (List.replicate n x)/\Below w.heap.size w w'/\w.heap.size+1<w'.heap.size:=by
 refine(CK w.heap.size 0 1 x n _ (by simp) (by simp) h1 hn).mono ?_;rintro e w' ⟨rfl,hg,hB⟩;rw[World.size_alloc]at hg hB;exact⟨by rw[World.size_alloc],CE hg,((Below.refl w.heap.size w).alloc (VC _) _).trans (hB.mono (by omega)),(VL.1 hg).1⟩
def LK (g1 g2 g3 g4:Nat):List (Nat×List Int):= [(g1,List.replicate 144 8),(g2,List.replicate 112 9),(g3,List.replicate 24 7),(g4,List.replicate 8 8)]
theorem BA (g1 g2 g3 g4:Nat):Jf (LK g1 g2 g3 g4) 4=Mb:=rfl
theorem Z2i (g1 g2 g3 g4:Nat):∀k,k<=4->(Jf (LK g1 g2 g3 g4) k).length<=1000:=by
 intro k hk
 match k,hk with
 |0,_=>simp[Jf]
 |1,_=>simp[Jf,LK]
 |2,_=>simp[Jf,LK]
 |3,_=>simp[Jf,LK]
 |4,_=>simp[Jf,LK]
theorem LN (w:World):Calls Tryz.prog 94 #[] w fun e w'=>∃g1 c1 g2,e=.returned (.tuple #[.slice (some ⟨g1,0,none⟩) 288 c1,.slice (some ⟨g2,0,none⟩) 32 32])/\w.heap.size<=g1/\w.heap.size<=g2/\RowIn .i64 w' (some ⟨g1,0,none⟩) Mb/\RowIn .i64 w' (some ⟨g2,0,none⟩) Ja/\Below w.heap.size w w':=by
 go_enter Tryz.func94,Tryz.ntmps94
 go_wp2_with fail
 refine(Cy 8 144 w (by omega) (by omega)).mono ?_;rintro e w1 ⟨rfl,hR1,hB1,hs1⟩;have HR1:=Ab hR1;have HB1:=Ab hB1;have hz1:=hB1.size;clear hR1 hB1;go_wp2_with fail
 refine(Cy 9 112 w1 (by omega) (by omega)).mono ?_;rintro e w2 ⟨rfl,hR2,hB2,hs2⟩;have HRa2:=Ab ((Aa HR1).below hB2 (VC _));have HRb2:=Ab hR2;have HB2:=Ab ((Aa HB1).trans (hB2.mono hz1));have hz2:=WC hz1 hB2.size;have hz12:=hB2.size;clear hR2 hB2 HR1 HB1;go_wp2_with fail
 refine(Cy 7 24 w2 (by omega) (by omega)).mono ?_;rintro e w3 ⟨rfl,hR3,hB3,hs3⟩;have HRa3:=Ab ((Aa HRa2).below hB3 (VC _));have HRb3:=Ab ((Aa HRb2).below hB3 (VC _));have HRc3:=Ab hR3;have HB3:=Ab ((Aa HB2).trans (hB3.mono hz2));have hz3:=WC hz2 hB3.size;have hz23:=hB3.size;clear hR3 hB3 HRa2 HRb2 HB2;go_wp2_with fail
 refine(Cy 8 8 w3 (by omega) (by omega)).mono ?_;rintro e w4 ⟨rfl,hR4,hB4,hs4⟩;have HRa4:=Ab ((Aa HRa3).below hB4 (VC _));have HRb4:=Ab ((Aa HRb3).below hB4 (VC _));have HRc4:=Ab ((Aa HRc3).below hB4 (VC _));have HRd4:=Ab hR4;have HB4:=Ab ((Aa HB3).trans (hB4.mono hz3));have hz4:=WC hz3 hB4.size;clear hR4 hB4 HRa3 HRb3 HRc3 HB3;generalize hg1:w.heap.size+1=g1 at*;generalize hg2:w1.heap.size+1=g2 at*;generalize hg3:w2.heap.size+1=g3 at*;generalize hg4:w3.heap.size+1=g4 at*;have HBc:=Ab ((Aa HB4).alloc hz4 (.cells #[.slice (some ⟨g1,0,none⟩) 144 144,.slice (some ⟨g2,0,none⟩) 112 112,.slice (some ⟨g3,0,none⟩) 24 24,.slice (some ⟨g4,0,none⟩) 8 8] 76))
 have HC:=Ab (EV w4.heap.size 0 4 4 (LK g1 g2 g3 g4) (w4.alloc (.cells #[.slice (some ⟨g1,0,none⟩) 144 144,.slice (some ⟨g2,0,none⟩) 112 112,.slice (some ⟨g3,0,none⟩) 24 24,.slice (some ⟨g4,0,none⟩) 8 8] 76)) (by simp) (by
  intro j hj
  match j,hj with
  |0,_=>simp[LK]
  |1,_=>simp[LK]
  |2,_=>simp[LK]
  |3,_=>simp[LK]) (by
  intro j hj
  match j,hj with
  |0,_=>exact(Aa HRa4).alloc _
  |1,_=>exact(Aa HRb4).alloc _
  |2,_=>exact(Aa HRc4).alloc _
  |3,_=>exact(Aa HRd4).alloc _) (Z2i g1 g2 g3 g4) (by rw[BA];simp[Mb]) (by omega))
 rw[BA]at HC;have hlenA:Mb.length=288:=by simp[Mb]
 rw[hlenA]at HC;clear hg1 hg2 hg3 hg4;go_wp2_with fail
 refine(Aa HC).mono ?_;rintro e w5 ⟨v5,rfl,hO5,hB5⟩;obtain⟨g5,c5,rfl,hg5,hg5'⟩:=Be hO5 (by omega);have HR5:=Ab (RowIn.iv hO5);have HB5:=Ab ((Aa HBc).trans (hB5.mono (by simp;omega)));have hz5:=hB5.size;simp only[World.size_alloc]at hz5 hg5;clear hO5 hB5 HC HBc HRa4 HRb4 HRc4 HRd4 HB4;go_wp2_with fail
 refine(Cy 5 32 w5 (by omega) (by omega)).mono ?_;rintro e w6 ⟨rfl,hR6,hB6,hs6⟩;have HRa6:=Ab ((Aa HR5).below hB6 (VC _));have HRb6:Hid (RowIn .i64 w6 (some ⟨w5.heap.size+1,0,none⟩) Ja):=hR6;have HB6:=Ab ((Aa HB5).trans (hB6.mono (by omega)));clear hR6 hB6 HR5 HB5;go_wp2;go_ret2;exact⟨g5,c5,w5.heap.size+1,rfl,by omega,by omega,Aa HRa6,Aa HRb6,Aa HB6⟩
end Go.Proofs.YtleocpdblhbimaaGreatDoor
