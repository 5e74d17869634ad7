import Derived.Test.YtleocpdblhbimaaGreatDoorQ48
import Derived.Maps.Own
import Derived.Maps.OwnSet
import Derived.Maps.Views
import Derived.StringKeys
set_option linter.unusedSimpArgs false
set_option maxHeartbeats 2000000
namespace Go.Proofs.YtleocpdblhbimaaGreatDoor
open Go.RowKit Go.Maps
set_option linter.unusedVariables false
set_option maxRecDepth 100000
def kT (s:List Bool):Lit:=.string (text s).data.toList
theorem Z2q {s t:List Bool}(h:kT s=kT t):s=t:=by
 unfold kT text at h;simp only[Lit.string.injEq]at h;have h2:s.map chr=t.map chr:=by simpa using h
 have inj:∀a b:Bool,chr a=chr b->a=b:=by intro a b;cases a<;>cases b<;>decide
 induction s generalizing t with
 |nil=>cases t with
  |nil=>rfl
  |cons y r=>simp at h2
 |cons x r ih=>cases t with
  |nil=>simp at h2
  |cons y r2=>
   simp only[WQ,List.cons.injEq]at h2;rw[inj x y h2.1,ih (t:=r2) (by simp[h2.2]) h2.2]
theorem Z2p (s:List Bool):WideAt.IsKeyLit (kT s):=by
 first|trivial|exact⟨⟩|(unfold kT WideAt.IsKeyLit;simp)
def Fg (l:List Int):Nat->DataW Unit
 |0=>.map []
 |k+1=>if codeT l k= []then Fg l k else (Fg l k).put (kT (codeT l k)) (.lit (.int .i64 (k:Int)))
theorem Mt (l:List Int):∀k,IsMap (Fg l k)
 |0=>isMap_empty
 |k+1=>by
  rw[Fg]
  split
  . exact Mt l k
  . exact(Mt l k).put _ _
theorem DU (l:List Int)(s:List Bool)(hs:s≠ []):∀k,Maps.has (Fg l k) (kT s)=decide (∃q,q<k/\codeT l q=s)
 |0=>by
  rw[decide_eq_false (by rintro ⟨q,h,_⟩;omega)];rfl
 |k+1=>by
  have ih:=DU l s hs k
  have e:(∃q,q<k+1/\codeT l q=s)↔((∃q,q<k/\codeT l q=s)\/codeT l k=s):=by
   constructor
   . rintro ⟨q,h1,h2⟩
     by_cases hq:q=k
     . subst hq;exact .inr h2
     . exact .inl ⟨q,by omega,h2⟩
   . rintro (⟨q,h1,h2⟩|h)
     . exact⟨q,by omega,h2⟩
     . exact⟨k,by omega,h⟩
  rw[Fg]
  by_cases h0:codeT l k= []
  . rw[if_pos h0,ih,XZ];simp only[decide_eq_true_eq,e]
    constructor
    . exact .inl
    . rintro (h|h)
      . exact h
      . rw[h0]at h;exact absurd h.symm hs
  . rw[if_neg h0]
    by_cases hk:codeT l k=s
    . rw[hk,has_put_same (Mt l k) (Z2p s),decide_eq_true (e.2 (.inr hk))]
    . rw[has_put_other (fun h=>hk (Z2q h).symm),ih,XZ];simp only[decide_eq_true_eq,e]
      constructor
      . exact .inl
      . rintro (h|h)
        . exact h
        . exact absurd h hk
theorem AG (l:List Int)(s:List Bool)(hs:s≠ [])(hinj:∀q q',q<l.length->q'<l.length->codeT l q=s->codeT l q'=s->q=q')(z:DataW Unit):∀k,k<=l.length->∀q,q<k->codeT l q=s->(Fg l k).atKey (kT s) z=.lit (.int .i64 (q:Int))
 |0,_,q,h,_=>by omega
 |k+1,hk,q,h,hq=>by
  rw[Fg]
  by_cases h0:codeT l k= []
  . rw[if_pos h0];have:q≠k:=fun e=>by subst e;rw[h0]at hq;exact hs hq.symm
    exact AG l s hs hinj z k (by omega) q (by omega) hq
  . rw[if_neg h0]
    by_cases e:codeT l k=s
    . have:=hinj q k (by omega) (by omega) hq e
      subst this;rw[e,atKey_put_same (Mt l _) (Z2p s)]
    . rw[atKey_put_other (fun h=>e (Z2q h).symm)];have:q≠k:=fun e2=>by subst e2;exact e hq
      exact AG l s hs hinj z k (by omega) q (by omega) hq
theorem Z8m:Keyed Tryz.prog 9:=string_keyed Tryz.underlying9
abbrev Em (w:World)(b n:Nat)(D:DataW Unit):Prop:=w.ownsMap Tryz.prog 9 (plainElem Tryz.prog 3) b n D
theorem Jm (a:Option Addr)(len cap:Nat)(l:List Int)(w:World)(hl:l.length=len)(hR:RowIn .i64 w a l)(hG:Good l):
 Calls Tryz.prog 97 #[.slice a len cap] w fun e w'=>∃b n,e=.returned (.map (some b))/\w.heap.size<=b/\Em w' b n (Fg l len)/\Below w.heap.size w w':=by
 have hlen:=hG.len;have hmm:= @run_makeMap Tryz.prog;have HG:=Ab hG;go_enter Tryz.func97,Tryz.ntmps97
 go_wp2_with fail
 refine(Z9 a len cap l _ hl (hR.alloc _) hG).mono ?_;rintro e w1 ⟨g,rfl,hB1,hg1,hO1⟩;have HO1:=Ab hO1;have hgl:=(hO1.lt g rfl).2;have HM1:Hid (Em w1 w.heap.size 0 (Fg l 0)):=(World.ownsMap_made w Tryz.prog 9 (plainElem Tryz.prog 3)).kept (Sy hB1) (by simp);have HB1:=Ab (((Below.refl w.heap.size w).alloc (VB _) _).trans (hB1.mono (by simp)));have hz1:=hB1.size;simp only[World.size_alloc]at hz1 hg1;clear hB1 hO1 hR hG;go_wp2;go_loopw [10] (fun vi wr=>∃k n:Nat,k<=len/\n<=k/\vi=.int .i64 (k:Int)/\Em wr w.heap.size n (Fg l k)/\w1.grownBy wr (some w.heap.size)) (fun vi _=>len-(intOf vi).toNat)
 case atStart=>exact⟨0,0,VH _,VB _,rfl,Aa HM1,Aw _ _⟩
 case round=>
  obtain⟨k,n,hk,hn,rfl,hM,hgr⟩:=hrel;have HM:=Ab hM;have HGr:=Ab hgr
  by_cases hlt:k<len
  . have c7:wr.cell? ⟨g,k,none⟩=some (.string (text (codeT l k))):=by
     refine hgr.cell ?_ (by simp;omega);rw[(Aa HO1).cellAt k (by omega)];simp[hlt]
    have HD:Hid (Fg l (k+1)=if codeT l k= []then Fg l k else (Fg l k).put (kT (codeT l k)) (.lit (.int .i64 (k:Int)))):=rfl
    have HKey:Hid (keyOf Tryz.prog 9 (.string (text (codeT l k)))=some (kT (codeT l k))):=Go.WideMaps.keyOf_string_mk Tryz.underlying9 (by
     rw[Ct];unfold codeT;rw[Bd];have:=(Aa HG).ok k (by omega)
     unfold maxLen;omega)
    clear hM hgr;have htl:(text (codeT l k)).toList.isEmpty=(codeT l k).isEmpty:=by rw[Lib.toList_data];cases codeT l k<;>rfl
    by_cases h0:codeT l k= []
    . rw[if_pos h0]at HD;have hem:(text (codeT l k)).toList.isEmpty=true:=by rw[htl,h0];rfl
      clear htl h0 HKey;generalize text (codeT l k)=T at*;go_wp2;go_roundw
      case rel=>exact⟨k+1,n,by omega,by omega,by go_num,by rw[Aa HD];exact Aa HM,Aa HGr⟩
      case measure=>simp[intOf];omega
    . rw[if_neg h0]at HD
      have hem:(text (codeT l k)).toList.isEmpty=false:=by
       rw[htl]
       cases e:codeT l k with
       |nil=>exact absurd e h0
       |cons _ _=>rfl
      have hwf:(Lit.int .i64 (k:Int)).wf=true:=WalkArith.wf_i64 (by omega);clear htl h0;generalize text (codeT l k)=T at*;generalize kT (codeT l k)=KK at*;go_wp2_with (at_mapUpdate;refine wpList_mapUpdate_own _ rfl _ _ _ 161 rfl 9 3 Z8m Tryz.underlying161 _ w.heap.size n _ rfl (Aa HM) (by unfold maxLen;omega) _ _ _ rfl rfl (Aa HKey) _ [] (plainElem_int Tryz.underlying3 hwf) ?_)
      intro w2 hM2 hg2;have HM2:=Ab hM2;have HG2:=Ab (Aj (Aa HGr) hg2);clear hM2 hg2;go_wp2;go_roundw
      case rel=>exact⟨k+1,n+1,by omega,by omega,by go_num,by rw[Aa HD];exact Aa HM2,Aa HG2⟩
      case measure=>simp[intOf];omega
  . obtain rfl:k=len:=by omega
    clear hM hgr;go_wp2;go_ret;exact⟨w.heap.size,n,rfl,VB _,Aa HM,(Aa HB1).grown (Aa HGr) (by omega) (fun j h=>by cases h;exact VB _)⟩
theorem BS (l:List Int)(m:Nat):∀k,k<=l.length->∀i q,(Qy l m k)[i]? =some q->q<k/\l.getD q 0=(m:Int)/\cnt (l.take q) m=i
 |0,_,i,q,h=>by simp[Qy]at h
 |k+1,hk,i,q,h=>by
  rw[Qy]at h;have hlen:=Hu l m k (by omega)
  by_cases hi:i<(Qy l m k).length
  . rw[WN hi]at h;obtain⟨a,b,c⟩:=BS l m k (by omega) i q h;exact⟨by omega,b,c⟩
  . rw[VX (by omega)]at h
    by_cases e:l.getD k 0=(m:Int)
    . rw[if_pos e]at h
      have hi0:i-(Qy l m k).length=0:=by
       by_cases h0:i-(Qy l m k).length=0
       . exact h0
       . obtain⟨j,hj⟩:∃j,i-(Qy l m k).length=j+1:=⟨_,(Nat.succ_pred h0).symm⟩
         rw[hj]at h;simp at h
      rw[hi0]at h;simp at h
      subst h;exact⟨by omega,e,by omega⟩
    . rw[if_neg e]at h;simp at h
theorem Yd (l:List Int)(hG:Good l)(bs:List Nat)(p n:Nat)(h1:1<=n)(h15:n<=15):Hit l bs p n↔∃q,q<l.length/\codeT l q=hb (Ce bs p n) n:=by
 constructor
 . rintro ⟨a,b⟩;obtain⟨q,hq⟩:=Z0b l (k:=n) (i:=Ce bs p n-Az (cnt l) n) (by omega);obtain⟨q1,q2,q3⟩:=BS l n l.length (VB _) _ _ hq;refine⟨q,q1, ?_⟩;have e:=Gh l q2;unfold nxt at e;rw[if_neg (by omega)]at e;unfold codeT;rw[q2,WM,e,q3,show Az (cnt l) n+(Ce bs p n-Az (cnt l) n)=Ce bs p n by omega]
 . rintro ⟨q,hq,e⟩;obtain⟨m,hm⟩:=WF (hG.ok q hq).1;have hl:=congrArg List.length e;unfold codeT at hl e;rw[hm,WM]at hl e;rw[Bd,Bd]at hl;subst hl;obtain⟨c1,c2,c3⟩:=Ig l hG hq hm (by omega);have:=CX m _ _ c3 (Ss bs p m) e
   unfold Hit;rw[<-this];exact⟨c1,c2⟩
theorem J2 (l:List Int)(hG:Good l)(bs:List Nat)(p n q:Nat)(h1:1<=n)(hq:q<l.length)(e:codeT l q=hb (Ce bs p n) n):(Qy l n l.length)[Ce bs p n-Az (cnt l) n]? =some q:=by
 obtain⟨m,hm⟩:=WF (hG.ok q hq).1;have hl:=congrArg List.length e;unfold codeT at hl e;rw[hm,WM]at hl e;rw[Bd,Bd]at hl;subst hl;obtain⟨c1,c2,c3⟩:=Ig l hG hq hm (by omega);have e2:=CX m _ _ c3 (Ss bs p m) e;have e3:=Gh l hm;unfold nxt at e3;rw[if_neg (by omega)]at e3;rw[<-e2,show codeN l q-Az (cnt l) m=cnt (l.take q) m by omega];exact W0 l hq hm
theorem MH (bs:List Nat)(n2 p:Nat):∀n,p+n<=8*n2->((rowB bs n2).drop p).take n=hb (Ce bs p n) n
 |0,_=>by simp[hb]
 |n+1,h=>by
  have ih:=MH bs n2 p n (by omega);have hlen:=Af bs n2;have hb1:=RL bs (p+n);have hdl:n<((rowB bs n2).drop p).length:=by rw[VQ];omega
  rw[XB hdl,ih,Ce,hb,show (2*Ce bs p n+Z7d bs (p+n))/2=Ce bs p n by omega]
  congr 2
  have e1:((rowB bs n2).drop p)[n]=(rowB bs n2).getD (p+n) false:=by
   rw[List.getElem_drop];simp[List.getD,show p+n<(rowB bs n2).length by omega]
  rw[e1,Hf bs n2 (p+n) (by omega),Z5m]
  cases Iq bs (p+n)<;>simp<;>omega
instance (l:List Int) (bs:List Nat) (p n:Nat):Decidable (Hit l bs p n):=by unfold Hit;infer_instance
theorem Z34 (w:World):(zeroValue 3).run Tryz.prog w=.ok (.int .i64 0) w:=by kernel_rfl
theorem KY (l:List Bool)(n:Nat):(text l).extract 0 n=text (l.take n):=by
 apply ByteArray.ext
 simp[text,List.map_take]
theorem Z0u (l:List Int)(hG:Good l)(b nn:Nat)(bs:List Nat)(n2 p:Nat)(w:World)(hl2:bs.length=n2)(hn2:n2<=100000)(hp:p<=8*n2)(hM:Em w b nn (Fg l l.length)):
 Calls Tryz.prog 126 #[.map (some b),.string (text ((rowB bs n2).drop p))] w fun e w'=>∃(x u p':Nat) (err:Int),e=.returned (.tuple #[.int .i64 (x:Int),.int .i64 (u:Int),.int .i64 err])/\w'=w/\Ta l bs p x err p'/\p'<=8*n2/\(err=0->p'=p+u)/\(err≠0->u=0):=by
 have HG:=Ab hG;have HM:=Ab hM;have HL2:=Ab hl2;have hsz:(text ((rowB bs n2).drop p)).size=8*n2-p:=by rw[Ct,VQ,Af]
 have HPre:Hid (∀n,p+n<=8*n2->(text ((rowB bs n2).drop p)).extract 0 n=text (hb (Ce bs p n) n)):=fun n h=>by rw[KY,MH bs n2 p n h]
 have HKey:Hid (∀n,n<=15->keyOf Tryz.prog 9 (.string (text (hb (Ce bs p n) n)))=some (kT (hb (Ce bs p n) n))):=fun n h=>WideMaps.keyOf_string_mk Tryz.underlying9 (by rw[Ct,Bd];unfold maxLen;omega)
 have HHas:Hid (∀n,1<=n->n<=15->Maps.has (Fg l l.length) (kT (hb (Ce bs p n) n))=decide (Hit l bs p n)):=fun n h1 h2=>by
  rw[DU l _ (fun e=>by have:=congrArg List.length e;rw[Bd]at this;simp at this;omega)];rw[XZ];simp only[decide_eq_true_eq];exact(Yd l hG bs p n h1 h2).symm
 have HAt:Hid (∀n,1<=n->n<=15->Hit l bs p n->∃q:Nat,(Qy l n l.length)[Ce bs p n-Az (cnt l) n]? =some q/\(Fg l l.length).atKey (kT (hb (Ce bs p n) n)) (.lit (.int .i64 0))=.lit (.int .i64 (q:Int))):=fun n h1 h2 hh=>by
  obtain⟨q,hq,e⟩:=(Yd l hG bs p n h1 h2).1 hh;have hne:hb (Ce bs p n) n≠ []:=fun e=>by have:=congrArg List.length e;rw[Bd]at this;simp at this;omega
  exact⟨q,J2 l hG bs p n q h1 hq e,AG l _ hne (Sr l hG _ hne) _ l.length (VB _) q hq e⟩
 clear hG hM;generalize text ((rowB bs n2).drop p)=T at*;generalize Fg l l.length=D at*;go_enter Tryz.func126,Tryz.ntmps126
 go_wp2;go_loop [7] (fun vi=>∃k:Nat,k<=15/\vi=.int .i64 ((k:Int)+1)/\p+k<=8*n2/\∀j,1<=j->j<=k->¬Hit l bs p j) (fun vi=>16-(intOf vi).toNat)
 case atStart=>exact⟨0,by omega,rfl,by omega,fun j h1 h2=>by omega⟩
 case round=>
  obtain⟨k,hk,rfl,hpk,hno⟩:=hrel;have HNo:=Ab hno;clear hno
  by_cases hlt:k<15
  . by_cases hend:p+k=8*n2
    . have hgt:((8*n2-p:Nat):Int)<(k:Int)+1:=by omega
      have HOut:Hid (Ta l bs p 0 7 (p+k)):=.inr (.inl ⟨k,hlt,Aa HNo,by rw[Aa HL2];exact hend,rfl,rfl,rfl⟩);clear HPre HKey HHas HAt HNo;go_wp2;go_ret3;exact⟨0,0,p+k,7,rfl,rfl,Aa HOut,hpk,(fun h=>by cases h),fun _=>rfl⟩
    . have hgt:¬((8*n2-p:Nat):Int)<(k:Int)+1:=by omega
      have e1:=Aa HPre (k+1) (by omega);have hkey:=Aa HKey (k+1) (by omega);have hhas:=Aa HHas (k+1) (by omega) (by omega);have HE1:=Ab e1;have HKk:=Ab hkey;have HHk:=Ab hhas;have HAk:=Ab (Aa HAt (k+1) (by omega) (by omega))
      have HNoN:Hid (¬Hit l bs p (k+1)->∀j,1<=j->j<=k+1->¬Hit l bs p j):=fun hh j a1 a2=>by
       by_cases e:j=k+1
       . rw[e];exact hh
       . exact Aa HNo j a1 (by omega)
      have HOutN:Hid (∀x,Hit l bs p (k+1)->(Qy l (k+1) l.length)[Ce bs p (k+1)-Az (cnt l) (k+1)]? =some x->Ta l bs p x 0 (p+(k+1))):=fun x hh hx=>
       .inl ⟨k+1,by omega,by omega,fun j a1 a2=>Aa HNo j a1 (by omega),by rw[Aa HL2];omega,hh,rfl,rfl,hx⟩
      have hpk2:p+(k+1)<=8*n2:=by omega
      clear e1 hkey hhas HPre HKey HHas HAt HNo;generalize text (hb (Ce bs p (k+1)) (k+1))=S at*;generalize kT (hb (Ce bs p (k+1)) (k+1))=KK at*;have hk8:(k:Int)+1<=((8*n2-p:Nat):Int):=by omega
      have hex:T.extract 0 (k+1)=S:=Aa HE1;go_wp2_with (at_lookup;refine wpList_lookup_own_ok_int _ rfl _ _ 161 rfl 9 3 .i64 Z8m Tryz.underlying161 Tryz.underlying3 (Z34 _) b nn D rfl (Aa HM) _ _ rfl (Aa HKk) ?_)
      intro c hat hwc;have HAT:=Ab hat;clear hat hwc;rw[Aa HHk]
      by_cases hh:Hit l bs p (k+1)
      . obtain⟨q,hq1,hq2⟩:=Aa HAk hh
        have hc:c=(q:Int):=by
         have:=(Aa HAT).symm.trans hq2
         simpa using this
        have HO:=Ab (Aa HOutN q hh hq1);rw[decide_eq_true hh];subst hc;clear hh hq1 hq2 HOutN HNoN HAk HHk HAT;go_wp2;go_ret3;exact⟨q,k+1,p+(k+1),0,rfl,rfl,Aa HO,hpk2,fun _=>rfl,fun h=>absurd rfl h⟩
      . have HN2:=Ab (Aa HNoN hh);rw[decide_eq_false hh];clear hh HOutN HNoN HAk HHk HAT;go_wp2;go_round
        case rel=>exact⟨k+1,by omega,by go_num,hpk2,Aa HN2⟩
        case measure=>simp[intOf];omega
  . obtain rfl:k=15:=by omega
    have HOut:Hid (Ta l bs p 0 8 (p+15)):=.inr (.inr ⟨Aa HNo,by rw[Aa HL2];exact hpk,rfl,rfl,rfl⟩);clear HPre HKey HHas HAt HNo;go_wp2;go_ret3;exact⟨0,0,p+15,8,rfl,rfl,Aa HOut,hpk,(fun h=>by cases h),fun _=>rfl⟩
end Go.Proofs.YtleocpdblhbimaaGreatDoor
namespace Go.Proofs.YtleocpdblhbimaaGreatDoor
open Go.RowKit
set_option linter.unusedVariables false
set_option maxRecDepth 100000
theorem UIs.rows {No:Nat->Prop}{B b:Nat}{w:World}{row:List Bool}{u:US}(h:UIs No B w b row u):∃ov kv,w.cell? ⟨b,2,none⟩=some ov/\w.cell? ⟨b,3,none⟩=some kv/\w.heap[b]? =some (.cells (ucells row u ov kv) 110 (0,0))/\w.ownsRow (b+1) 5 1 ov u.out.length (u8s u.out)/\w.ownsRow (b+1) 3 1 kv u.ks.length (i64s u.ks)/\(ov.ownBlock=none\/ov.ownBlock≠kv.ownBlock)/\(∀g,ov.ownBlock=some g->¬No g)/\(∀g,kv.ownBlock=some g->¬No g):=by
 obtain⟨ov,kv,h1,h2⟩:=h.ex;exact⟨ov,kv,Ac h1,Ac h1,h1,h2⟩
theorem S8 (No:Nat->Prop)(B b c:Nat)(row:List Bool)(u:US)(w:World)(h:UIs No B w b row u)(ho:u.out.length<=3000)(hNo:∀g,w.heap.size<=g->¬No g):
 Calls Tryz.prog 93 #[.pointer (some ⟨b,0,none⟩),.int .u8 (c:Int)] w fun e w'=>e=.returned (.tuple #[])/\UUp No B w b row (Fd c u) w':=by
 obtain⟨i0,hi,hz0,hz1,hz2⟩:=info_parts Gz;obtain⟨c0,c1,c4,fr⟩:=h.cell;obtain⟨ov,kv,c2,c3,hh,hov,hkv,hap,hn1,hn2⟩:=h.rows;have H:=Ab h;have hbl:=h.lt;have hbb:=h.base;have hbn:=h.no;clear h
 by_cases h0:u.e=0
 . rw[h0]at c4
   by_cases hl:u.out.length=3000
   . have HU:Hid (Fd c u= {u with e:=2}):=Ab (by unfold Fd;rw[if_pos h0,if_pos hl]);obtain⟨a,cc,rfl⟩:=An hov;rw[hl]at c2;rw[Aa HU];clear hov hkv hh HU h0 hn1 hn2 hap;go_enter Tryz.func93,Tryz.ntmps93
     go_wp2;go_end0
     exact⟨rfl,(Aa H).setE 2⟩
   . have HU:Hid (Fd c u= {u with out:=u.out++ [c]}):=Ab (by unfold Fd;rw[if_pos h0,if_neg hl]);obtain⟨L,hL⟩:∃L,u.out.length=L:=⟨_,rfl⟩
     rw[hL]at hl ho hov;have HL:=Ab hL;obtain⟨a,cc,hv⟩:=An hov;have hb3:((L:Int)==3000)=false:=by rw[beq_eq_false_iff_ne];omega
     have HOV:=Ab hov;have HKV:=Ab hkv;have HH:=Ab hh;have HAP:=Ab hap;have HN1:=Ab hn1;have HN2:=Ab hn2;have HNo:=Ab hNo
     have HVb:Hid (ov.ownBlock=none\/ov.ownBlock≠some b):=by
      cases hx:ov.ownBlock with
      |none=>exact .inl rfl
      |some g=>
       refine .inr (fun e=> ?_);have:=(hov.lt g hx).1
       cases e
       omega
     subst hv;rw[Aa HU];clear hov hkv hh HU h0 hn1 hn2 hap hL hNo;go_enter Tryz.func93,Tryz.ntmps93
     go_wp2_with (at_builtin;refine wpList_append_own_at _ rfl _ _ 23 rfl (b+1) 5 i0 (.int .u8 0) 1 1 Tryz.underlying23 hi hz0 hz1 hz2 rfl (by decide) _ L (u8s u.out) rfl ((Aa HOV).alloc _) ⟨w.heap.size,0,none⟩ 1 1 [.int .u8 (c:Int)] rfl rfl (cell_one_new _ _ _) (Bc rfl) (by unfold maxLen;omega) (by omega) (by simp;omega) ?_)
     intro v' w3 hO3 hgrow _ hspot;obtain⟨g9,c9,hv9,_,_⟩:=Ba hO3 (by omega)
     have hgb:w3.heap[b]? =some (.cells (ucells row u (.slice a L cc) kv) 110 (0,0)):=by
      rw[hgrow.block b (by simp;omega) (fun e=>by rcases Aa HVb with h|h;rw[h]at e;cases e;exact h e.symm)];exact(Below.heap_alloc w _ b hbl).trans (Aa HH)
     have hgw:∀g,g<w.heap.size->(Value.slice a L cc).ownBlock≠some g->w3.heap[g]? =w.heap[g]? :=fun g hg hne=>by
      rw[hgrow.block g (by simp;omega) (fun e=>hne e.symm)];exact Below.heap_alloc w _ g hg
     have q2:w3.cell? ⟨b,2,none⟩=some (.slice a L cc):=Ac hgb;have f2:=frozen_of_row w3 b 2 _ _ hgb;have hsz:=hgrow.size
     have HFIN:Hid (UUp No B w b row {u with out:=u.out++ [c]} (w3.setCell ⟨b,2,none⟩ v')):=by
      have hset:=Ad w3 b 2 v';simp only[World.size_alloc]at hsz
      have hv'b:v'.ownBlock=none\/v'.ownBlock≠some b:=by
       cases hx:v'.ownBlock with
       |none=>exact .inl rfl
       |some g=>
        refine .inr (fun e=> ?_);have:=(hO3.lt g hx).1
        cases e
        omega
      have hk3:w3.ownsRow (b+1) 3 1 kv u.ks.length (i64s u.ks):=Au (Aa HKV) (fun g hg=>hgw g ((Aa HKV).lt g hg).2 (fun e=>by
       rcases Aa HAP with h|h
       . rw[h]at e;cases e
       . exact h (by rw[hg];exact e)))
      have hkb:kv.ownBlock=none\/kv.ownBlock≠some b:=by
       cases hx:kv.ownBlock with
       |none=>exact .inl rfl
       |some g=>
        refine .inr (fun e=> ?_);have:=((Aa HKV).lt g hx).1
        cases e
        omega
      refine⟨⟨hbb,hbn,v',kv, ?_, ?_,hk3.kept hset hkb, ?_, ?_,Aa HN2⟩, ?_, ?_⟩
      . rw[heap_setCell_same w3 b 2 _ _ _ hgb];rfl
      . have:=hO3.kept hset hv'b
        show (w3.setCell ⟨b,2,none⟩ v').ownsRow (b+1) 5 1 v' (u.out++ [c]).length (u8s (u.out++ [c]))
        rw[Wx,VE,Aa HL];exact this
      . rcases hspot with h|h
        . rw[h];exact Aa HAP
        . refine .inr (fun e=> ?_);rw[h]at e;have:=((Aa HKV).lt _ e.symm).2
          omega
      . intro g hg
        rcases hspot with h|h
        . exact Aa HN1 g (by rw[<-h];exact hg)
        . rw[h]at hg;have:=VM hg
          exact Aa HNo g (by omega)
      . refine⟨hset.os.trans (hgrow.os.trans rfl),hset.tape.trans (hgrow.tape.trans rfl),hset.output.trans (hgrow.output.trans rfl),by have:=hset.size;omega, ?_⟩;intro g hg;rw[hset.block g (by omega) (fun e=>by simp at e;omega),hgw g (by omega) (fun e=>by have:=((Aa HOV).lt g e).1;omega)]
      . intro g h1 h2;rw[hset.block g (by omega) (fun e=>by simp at e;subst e;exact hbn h2),hgw g h1 (fun e=>Aa HN1 g e h2)]
     subst hv9;clear hO3 hgrow hspot hgb hgw hsz;go_wp2;go_end0
     exact⟨rfl,Aa HFIN⟩
 . have HU:Hid (Fd c u=u):=Ab (by unfold Fd;rw[if_neg h0]);have hb:(u.e==0)=false:=by rw[beq_eq_false_iff_ne];exact h0
   rw[Aa HU];generalize u.e=e0 at c4 hb;clear h0 HU hov hkv hh hn1 hn2 hap c2 c3;go_enter Tryz.func93,Tryz.ntmps93
   go_wp2;go_end0
   exact⟨rfl,UUp.refl (Aa H)⟩
theorem Mm (l:List Int)(hG:Good l)(bs:List Nat)(n2 p n:Nat)(hl:bs.length=n2)(h1:1<=n)(h15:n<=15)(hp:p+n<=8*n2):
 (¬Hit l bs p n->Ok l (((rowB bs n2).drop p).take n)=none)/\(∀x,Hit l bs p n->(Qy l n l.length)[Ce bs p n-Az (cnt l) n]? =some x->Ok l (((rowB bs n2).drop p).take n)=some x):=by
 rw[MH bs n2 p n hp];have hs:hb (Ce bs p n) n≠ []:=fun e=>by have:=congrArg List.length e;rw[Bd]at this;simp at this;omega
 constructor
 . intro hh;unfold Ok;rw[List.find?_eq_none];intro q hq;simp only[decide_eq_true_eq];intro e;exact hh ((Yd l hG bs p n h1 h15).2 ⟨q,by simpa using hq,e⟩)
 . intro x hh hx;obtain⟨q,hq,e⟩:=(Yd l hG bs p n h1 h15).1 hh
   have hxq:x=q:=by
    have:=J2 l hG bs p n q h1 hq e
    rw[hx]at this;exact VM this
   subst hxq;unfold Ok
   cases hf:(List.range l.length).find? (fun q=>decide (codeT l q=hb (Ce bs p n) n))with
   |none=>
    rw[List.find?_eq_none]at hf;exact absurd (by simpa using e) (hf x (by simpa using hq))
   |some y=>
    have hy:=List.find?_some hf;have hy2:=List.mem_of_find?_eq_some hf;simp only[decide_eq_true_eq]at hy;rw[Sr l hG _ hs y x (by simpa using hy2) hq hy e]
theorem Z0v (l:List Int)(hG:Good l)(bs:List Nat)(n2 p x u p':Nat)(err:Int)(hl:bs.length=n2)(ho:Ta l bs p x err p')(hu:err=0->p'=p+u)(hu0:err≠0->u=0):Lt l (rowB bs n2) p=(x,u,err):=by
 have hlen:=Af bs n2;unfold Lt
 rcases ho with ⟨k,k1,k15,hno,hpk,hit,rfl,rfl,hx⟩|⟨k,k15,hno,hpk,rfl,rfl,rfl⟩|⟨hno,hpk,rfl,rfl,rfl⟩
 . rw[hl]at hpk;have hu':=hu rfl;obtain rfl:u=k:=by omega
   obtain⟨m,rfl⟩:∃m,u=m+1:=⟨u-1,by omega⟩
   have:=Pc l (rowB bs n2) p m (15-m) (fun j h1 h2=>⟨by omega,(Mm l hG bs n2 p j hl h1 (by omega) (by omega)).1 (hno j h1 (by omega))⟩) 1 (by omega)
   rw[show m+(15-m)=15 by omega]at this;rw[this,show 15-m=(14-m)+1 by omega,Ej,show 1+m=m+1 by omega,if_neg (by omega),(Mm l hG bs n2 p (m+1) hl (by omega) (by omega) hpk).2 x hit hx]
 . rw[hl]at hpk;obtain rfl:=hu0 (by decide);have:=Pc l (rowB bs n2) p k (15-k) (fun j h1 h2=>⟨by omega,(Mm l hG bs n2 p j hl h1 (by omega) (by omega)).1 (hno j h1 h2)⟩) 1 (by omega)
   rw[show k+(15-k)=15 by omega]at this;rw[this,show 15-k=(14-k)+1 by omega,Ej,if_pos (by omega)]
 . rw[hl]at hpk;obtain rfl:=hu0 (by decide);have:=Pc l (rowB bs n2) p 15 0 (fun j h1 h2=>⟨by omega,(Mm l hG bs n2 p j hl h1 (by omega) (by omega)).1 (hno j h1 h2)⟩) 1 (by omega)
   rw[this,Ej]
theorem Z0t (l:List Int)(hG:Good l)(b nn:Nat)(bs:List Nat)(n2 p:Nat)(w:World)(hl2:bs.length=n2)(hn2:n2<=100000)(hp:p<=8*n2)(hM:Em w b nn (Fg l l.length))(x u:Nat)(err:Int)(hr:Lt l (rowB bs n2) p=(x,u,err)):
 Calls Tryz.prog 126 #[.map (some b),.string (text ((rowB bs n2).drop p))] w fun e w'=>e=.returned (.tuple #[.int .i64 (x:Int),.int .i64 (u:Int),.int .i64 err])/\w'=w:=by
 refine(Z0u l hG b nn bs n2 p w hl2 hn2 hp hM).mono ?_;rintro e w' ⟨x',u',p',err',rfl,rfl,ho,_,h5,h6⟩;have:=Z0v l hG bs n2 p x' u' p' err' hl2 ho h5 h6
 rw[hr]at this;simp only[YD]at this;obtain⟨rfl,rfl,rfl⟩:=this;exact⟨rfl,rfl⟩
theorem Xp (l:List Int)(row:List Bool)(p:Nat)(hp:p<=row.length):p+(Lt l row p).2.1<=row.length:=by
 have:∀f n,p+(Ej l row p f n).2.1<=row.length:=by
  intro f
  induction f with
  |zero=>intro n;rw[Ej];exact hp
  |succ f ih=>
   intro n;rw[Ej]
   by_cases h:row.length<p+n
   . rw[if_pos h];exact hp
   . rw[if_neg h]
     cases hf:Ok l ((row.drop p).take n)with
     |none=>exact ih (n+1)
     |some q=>show p+n<=row.length;omega
 exact this 15 1
theorem KZ (row:List Bool)(p N:Nat)(h:row.length=N):(text row).extract p N=text (row.drop p):=by
 apply ByteArray.ext
 simp only[ByteArray.data_extract];simp[text,List.map_drop,<-h]
 exact VV (by simp)
theorem Km (No:Nat->Prop)(B b mb nn n2:Nat)(l:List Int)(bs:List Nat)(u:US)(w:World)(h:UIs No B w b (rowB bs n2) u)(hG:Good l)(hl:bs.length=n2)(hn2:n2<=25000)(hp:u.p<=8*n2)(hM:Em w mb nn (Fg l l.length))(hmb:mb≠b):
 Calls Tryz.prog 98 #[.pointer (some ⟨b,0,none⟩),.map (some mb)] w fun e w'=>e=.returned (.int .i64 ((uplace l (rowB bs n2) u).1:Int))/\UUp No B w b (rowB bs n2) (uplace l (rowB bs n2) u).2 w':=by
 obtain⟨c0,c1,c4,fr⟩:=h.cell;have H:=Ab h;have hsz:(text (rowB bs n2)).size=8*n2:=by rw[Ct,Af]
 clear h
 by_cases h0:u.e=0
 . rw[h0]at c4;have hx:=KZ (rowB bs n2) u.p (8*n2) (Af bs n2);obtain⟨x,v,err,hr⟩:∃x v err,Lt l (rowB bs n2) u.p=(x,v,err):=⟨_,_,_,rfl⟩
   have hle:=Xp l (rowB bs n2) u.p (by rw[Af];exact hp);rw[Af,hr]at hle;simp only at hle
   have HN:=Ab (fun(W:World) (hW:Em W mb nn (Fg l l.length))=>Z0t l hG mb nn bs n2 u.p W hl (by omega) hp hW x v err hr);have HM:=Ab hM;have HU:Hid (uplace l (rowB bs n2) u=(x,{u with e:=err,p:=u.p+v})):=Ab (by unfold uplace;rw[if_pos h0,hr]);rw[Aa HU];clear hM h0 HU hr;generalize text ((rowB bs n2).drop u.p)=S at*;generalize text (rowB bs n2)=T at*;obtain⟨p,out,ks,e⟩:=u;simp only at*
   go_enter Tryz.func98,Tryz.ntmps98
   go_wp2;go_quiet ((go_at_call 126;refine Calls.quiet_of_same (Aa HN _ (Aa HM))))
   go_wp2;go_ret;have U0:=(UUp.refl (Aa H)).drewN nq;have U1:=U0.trans (U0.is.setE err);exact⟨rfl,U1.trans (U1.is.setP (p+v))⟩
 . have HU:Hid (uplace l (rowB bs n2) u=(0,u)):=Ab (by unfold uplace;rw[if_neg h0]);rw[Aa HU];have hb:(u.e !=0)=true:=by rw[bne_iff_ne];exact h0
   generalize u.e=e0 at c4 hb;clear h0 HU;go_enter Tryz.func98,Tryz.ntmps98
   go_wp2;go_ret;exact⟨rfl,UUp.refl (Aa H)⟩
theorem Gn (row:List Bool)(n:Nat)(u:US)(h:u.p<=row.length):(uget row n u).2.p<=row.length:=by
 unfold uget
 by_cases h0:u.e=0
 . rw[if_pos h0]
   by_cases h1:row.length<u.p+n
   . rw[if_pos h1];exact h
   . rw[if_neg h1];show u.p+n<=row.length;omega
 . rw[if_neg h0];exact h
theorem Fu (row:List Bool)(n:Nat)(u:US):(uget row n u).1<2^n:=by
 have hpos:0<2^n:=YQ n;unfold uget
 by_cases h0:u.e=0
 . rw[if_pos h0]
   by_cases h1:row.length<u.p+n
   . rw[if_pos h1];exact hpos
   . rw[if_neg h1];refine VG (Jy _) (VO (by omega) ?_);simp
     omega
 . rw[if_neg h0];exact hpos
theorem Wl (x:Int)(u:US):(Am x u).p=u.p:=by unfold Am;split<;>rfl
theorem SV (l:List Int)(row:List Bool)(u:US)(h:u.p<=row.length):(uplace l row u).2.p<=row.length:=by
 unfold uplace
 by_cases h0:u.e=0
 . rw[if_pos h0];exact Xp l row u.p h
 . rw[if_neg h0];exact h
theorem Hm (No:Nat->Prop)(B b n:Nat)(row:List Bool)(u:US)(w:World)(h:UIs No B w b row u)(hn:n<=16)(hrow:row.length<=200000)(hp:u.p<=row.length)(r:Nat)(v:US)(hr:uget row n u=(r,v)):
 Calls Tryz.prog 91 #[.pointer (some ⟨b,0,none⟩),.int .i64 (n:Int)] w fun e w'=>e=.returned (.int .i64 (r:Int))/\UUp No B w b row v w':=by
 have:=Z51 No B b n row u w h hn hrow hp
 rw[hr]at this;exact this
theorem UIs.more {No No':Nat->Prop}{B b:Nat}{w:World}{row:List Bool}{u:US}(h:UIs No B w b row u)(hb:¬No' b)(hn:∀g,No' g->No g\/w.heap.size<=g):UIs No' B w b row u:=by
 obtain⟨ov,kv,h1,h2,h3,h4,h5,h6⟩:=h.ex;refine⟨h.base,hb,ov,kv,h1,h2,h3,h4, ?_, ?_⟩
 . intro g hg hN
   rcases hn g hN with e|e
   . exact h5 g hg e
   . have:=(h2.lt g hg).2;omega
 . intro g hg hN
   rcases hn g hN with e|e
   . exact h6 g hg e
   . have:=(h3.lt g hg).2;omega
end Go.Proofs.YtleocpdblhbimaaGreatDoor
