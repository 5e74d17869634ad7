import Derived.Test.YtleocpdblhbimaaGreatDoorQ45
import Derived.Maps.Own
import Derived.Maps.OwnSet
import Derived.Maps.Views
import Derived.StringKeys
set_option linter.unusedSimpArgs false
set_option linter.unusedVariables false
set_option maxRecDepth 100000
set_option maxHeartbeats 2000000
namespace Go.Proofs.YtleocpdblhbimaaGreatDoor
open Go.RowKit Go.Maps
def kT (s:List Bool):Lit:=.string (text s).data.toList
theorem Z2q {s t:List Bool}(F:kT s=kT t):s=t:=by
 unfold kT text at F;simp only[Lit.string.injEq]at F;have E:s.map chr=t.map chr:=by simpa using F
 have G:∀a b:Bool,chr a=chr b->a=b:=by intro a b;cases a<;>cases b<;>decide
 induction s generalizing t with
 |nil=>cases t with
  |nil=>rfl
  |cons y r=>simp at E
 |cons x r ih=>cases t with
  |nil=>simp at E
  |cons y r2=>
   simp only[WQ,List.cons.injEq]at E;rw[G x y E.1,ih (t:=r2) (by simp[E.2]) E.2]
theorem Z2p (s:List Bool):WideAt.IsKeyLit (kT s):=by
 first|trivial|exact⟨⟩|(unfold kT WideAt.IsKeyLit;simp)
def Fg (l:List Int):Nat->DataW Unit
 |0=>.map []
 |k+1=>if codeT l k= []then Fg l k else (Fg l k).put (kT (codeT l k)) (.lit (.int .i64 (k:Int)))
theorem Mt (l:List Int):∀k,IsMap (Fg l k)
 |0=>isMap_empty
 |k+1=>by
  rw[Fg]
  split
  . exact Mt l k
  . exact(Mt l k).put _ _
theorem DU (l:List Int)(s:List Bool)(H:s≠ []):∀k,Maps.has (Fg l k) (kT s)=decide (∃q,q<k/\codeT l q=s)
 |0=>by
  rw[decide_eq_false (by rintro ⟨q,h,_⟩;omega)];rfl
 |k+1=>by
  have ih:=DU l s H k
  have e:(∃q,q<k+1/\codeT l q=s)↔((∃q,q<k/\codeT l q=s)\/codeT l k=s):=by
   constructor
   . rintro ⟨q,M,E⟩
     by_cases I:q=k
     . subst I;exact .inr E
     . exact .inl ⟨q,by omega,E⟩
   . rintro (⟨q,M,E⟩|h)
     . exact⟨q,by omega,E⟩
     . exact⟨k,by omega,h⟩
  rw[Fg]
  by_cases G:codeT l k= []
  . rw[if_pos G,ih,XZ];simp only[decide_eq_true_eq,e]
    constructor
    . exact .inl
    . rintro (h|h)
      . exact h
      . rw[G]at h;exact absurd h.symm H
  . rw[if_neg G]
    by_cases F:codeT l k=s
    . rw[F,has_put_same (Mt l k) (Z2p s),decide_eq_true (e.2 (.inr F))]
    . rw[has_put_other (fun h=>F (Z2q h).symm),ih,XZ];simp only[decide_eq_true_eq,e]
      constructor
      . exact .inl
      . rintro (h|h)
        . exact h
        . exact absurd h F
theorem AG (l:List Int)(s:List Bool)(F:s≠ [])(H:∀q q',q<l.length->q'<l.length->codeT l q=s->codeT l q'=s->q=q')(G:DataW Unit):∀k,k<=l.length->∀q,q<k->codeT l q=s->(Fg l k).atKey (kT s) G=.lit (.int .i64 (q:Int))
 |0,_,q,h,_=>by omega
 |k+1,hk,q,h,hq=>by
  rw[Fg]
  by_cases E:codeT l k= []
  . rw[if_pos E];have:q≠k:=fun e=>by subst e;rw[E]at hq;exact F hq.symm
    exact AG l s F H G k (by omega) q (by omega) hq
  . rw[if_neg E]
    by_cases e:codeT l k=s
    . have:=H q k (by omega) (by omega) hq e
      subst this;rw[e,atKey_put_same (Mt l _) (Z2p s)]
    . rw[atKey_put_other (fun h=>e (Z2q h).symm)];have:q≠k:=fun e2=>by subst e2;exact e hq
      exact AG l s F H G k (by omega) q (by omega) hq
theorem Z8m:Keyed Tryz.prog 9:=string_keyed Tryz.underlying9
abbrev Em (w:World)(b n:Nat)(D:DataW Unit):Prop:=w.ownsMap Tryz.prog 9 (plainElem Tryz.prog 3) b n D
theorem Jm (a:Option Addr)(E ah:Nat)(l:List Int)(w:World)(ap:l.length=E)(aj:RowIn .i64 w a l)(H:Good l):
 Calls Tryz.prog 97 #[.slice a E ah] w fun e w'=>∃b n,e=.returned (.map (some b))/\w.heap.size<=b/\Em w' b n (Fg l E)/\Below w.heap.size w w':=by
 have a7:=H.len;have a3:= @run_makeMap Tryz.prog;have ay:=Ab H;go_enter Tryz.func97,Tryz.ntmps97
 go_wp2_with fail
 refine(Z9 a E ah l _ ap (aj.alloc _) H).mono ?_;rintro e af ⟨g,rfl,I,ar,U⟩;have ak:=Ab U;have a4:=(U.lt g rfl).2;have az:Hid (Em af w.heap.size 0 (Fg l 0)):=(World.ownsMap_made w Tryz.prog 9 (plainElem Tryz.prog 3)).kept (Sy I) (by simp);have al:=Ab (((Below.refl w.heap.size w).alloc (VB _) _).trans (I.mono (by simp)));have a1:=I.size;simp only[World.size_alloc]at a1 ar;clear I U aj H;go_wp2;go_loopw [10] (fun Z wr=>∃k n:Nat,k<=E/\n<=k/\Z=.int .i64 (k:Int)/\Em wr w.heap.size n (Fg l k)/\af.grownBy wr (some w.heap.size)) (fun Z _=>E-(intOf Z).toNat)
 case atStart=>exact⟨0,0,VH _,VB _,rfl,Aa az,Aw _ _⟩
 case round=>
  obtain⟨k,n,a8,hn,rfl,aa,O⟩:=hrel;have ac:=Ab aa;have Y:=Ab O
  by_cases aw:k<E
  . have a5:wr.cell? ⟨g,k,none⟩=some (.string (text (codeT l k))):=by
     refine O.cell ?_ (by simp;omega);rw[(Aa ak).cellAt k (by omega)];simp[aw]
    have M:Hid (Fg l (k+1)=if codeT l k= []then Fg l k else (Fg l k).put (kT (codeT l k)) (.lit (.int .i64 (k:Int)))):=rfl
    have ae:Hid (keyOf Tryz.prog 9 (.string (text (codeT l k)))=some (kT (codeT l k))):=Go.WideMaps.keyOf_string_mk Tryz.underlying9 (by
     rw[Ct];unfold codeT;rw[Bd];have:=(Aa ay).ok k (by omega)
     unfold maxLen;omega)
    clear aa O;have G:(text (codeT l k)).toList.isEmpty=(codeT l k).isEmpty:=by rw[Lib.toList_data];cases codeT l k<;>rfl
    by_cases F:codeT l k= []
    . rw[if_pos F]at M;have ao:(text (codeT l k)).toList.isEmpty=true:=by rw[G,F];rfl
      clear G F ae;generalize text (codeT l k)=T at*;go_wp2;go_roundw
      case rel=>exact⟨k+1,n,by omega,by omega,by go_num,by rw[Aa M];exact Aa ac,Aa Y⟩
      case measure=>simp[intOf];omega
    . rw[if_neg F]at M
      have ao:(text (codeT l k)).toList.isEmpty=false:=by
       rw[G]
       cases e:codeT l k with
       |nil=>exact absurd e F
       |cons _ _=>rfl
      have au:(Lit.int .i64 (k:Int)).wf=true:=WalkArith.wf_i64 (by omega);clear G F;generalize text (codeT l k)=T at*;generalize kT (codeT l k)=a6 at*;go_wp2_with (at_mapUpdate;refine wpList_mapUpdate_own _ rfl _ _ _ 161 rfl 9 3 Z8m Tryz.underlying161 _ w.heap.size n _ rfl (Aa ac) (by unfold maxLen;omega) _ _ _ rfl rfl (Aa ae) _ [] (plainElem_int Tryz.underlying3 au) ?_)
      intro a2 ag ai;have av:=Ab ag;have ax:=Ab (Aj (Aa Y) ai);clear ag ai;go_wp2;go_roundw
      case rel=>exact⟨k+1,n+1,by omega,by omega,by go_num,by rw[Aa M];exact Aa av,Aa ax⟩
      case measure=>simp[intOf];omega
  . obtain rfl:k=E:=by omega
    clear aa O;go_wp2;go_ret;exact⟨w.heap.size,n,rfl,VB _,Aa ac,(Aa al).grown (Aa Y) (by omega) (fun j h=>by cases h;exact VB _)⟩
theorem BS (l:List Int)(m:Nat):∀k,k<=l.length->∀i q,(Qy l m k)[i]? =some q->q<k/\l.getD q 0=(m:Int)/\cnt (l.take q) m=i
 |0,_,i,q,h=>by simp[Qy]at h
 |k+1,hk,i,q,h=>by
  rw[Qy]at h;have H:=Hu l m k (by omega)
  by_cases hi:i<(Qy l m k).length
  . rw[WN hi]at h;obtain⟨a,b,c⟩:=BS l m k (by omega) i q h;exact⟨by omega,b,c⟩
  . rw[VX (by omega)]at h
    by_cases e:l.getD k 0=(m:Int)
    . rw[if_pos e]at h
      have F:i-(Qy l m k).length=0:=by
       by_cases E:i-(Qy l m k).length=0
       . exact E
       . obtain⟨j,G⟩:∃j,i-(Qy l m k).length=j+1:=⟨_,(Nat.succ_pred E).symm⟩
         rw[G]at h;simp at h
      rw[F]at h;simp at h
      subst h;exact⟨by omega,e,by omega⟩
    . rw[if_neg e]at h;simp at h
theorem Yd (l:List Int)(G:Good l)(bs:List Nat)(p n:Nat)(O:1<=n)(T:n<=15):Hit l bs p n↔∃q,q<l.length/\codeT l q=hb (Ce bs p n) n:=by
 constructor
 . rintro ⟨a,b⟩;obtain⟨q,E⟩:=Z0b l (k:=n) (i:=Ce bs p n-Az (cnt l) n) (by omega);obtain⟨H,F,I⟩:=BS l n l.length (VB _) _ _ E;refine⟨q,H, ?_⟩;have e:=Gh l F;unfold nxt at e;rw[if_neg (by omega)]at e;unfold codeT;rw[F,WM,e,I,show Az (cnt l) n+(Ce bs p n-Az (cnt l) n)=Ce bs p n by omega]
 . rintro ⟨q,E,e⟩;obtain⟨m,hm⟩:=WF (G.ok q E).1;have hl:=congrArg List.length e;unfold codeT at hl e;rw[hm,WM]at hl e;rw[Bd,Bd]at hl;subst hl;obtain⟨c1,c2,M⟩:=Ig l G E hm (by omega);have:=CX m _ _ M (Ss bs p m) e
   unfold Hit;rw[<-this];exact⟨c1,c2⟩
theorem J2 (l:List Int)(F:Good l)(bs:List Nat)(p n q:Nat)(H:1<=n)(E:q<l.length)(e:codeT l q=hb (Ce bs p n) n):(Qy l n l.length)[Ce bs p n-Az (cnt l) n]? =some q:=by
 obtain⟨m,hm⟩:=WF (F.ok q E).1;have hl:=congrArg List.length e;unfold codeT at hl e;rw[hm,WM]at hl e;rw[Bd,Bd]at hl;subst hl;obtain⟨c1,c2,G⟩:=Ig l F E hm (by omega);have e2:=CX m _ _ G (Ss bs p m) e;have e3:=Gh l hm;unfold nxt at e3;rw[if_neg (by omega)]at e3;rw[<-e2,show codeN l q-Az (cnt l) m=cnt (l.take q) m by omega];exact W0 l E hm
theorem MH (bs:List Nat)(E p:Nat):∀n,p+n<=8*E->((rowB bs E).drop p).take n=hb (Ce bs p n) n
 |0,_=>by simp[hb]
 |n+1,h=>by
  have ih:=MH bs E p n (by omega);have H:=Af bs E;have I:=RL bs (p+n);have F:n<((rowB bs E).drop p).length:=by rw[VQ];omega
  rw[XB F,ih,Ce,hb,show (2*Ce bs p n+Z7d bs (p+n))/2=Ce bs p n by omega]
  congr 2
  have G:((rowB bs E).drop p)[n]=(rowB bs E).getD (p+n) false:=by
   rw[List.getElem_drop];simp[List.getD,show p+n<(rowB bs E).length by omega]
  rw[G,Hf bs E (p+n) (by omega),Z5m]
  cases Iq bs (p+n)<;>simp<;>omega
instance (l:List Int) (bs:List Nat) (p n:Nat):Decidable (Hit l bs p n):=by unfold Hit;infer_instance
theorem Z34 (w:World):(zeroValue 3).run Tryz.prog w=.ok (.int .i64 0) w:=by kernel_rfl
theorem KY (l:List Bool)(n:Nat):(text l).extract 0 n=text (l.take n):=by
 apply ByteArray.ext
 simp[text,List.map_take]
theorem Z0u (l:List Int)(H:Good l)(b au:Nat)(bs:List Nat)(E p:Nat)(w:World)(a9:bs.length=E)(bm:E<=100000)(bj:p<=8*E)(az:Em w b au (Fg l l.length)):
 Calls Tryz.prog 126 #[.map (some b),.string (text ((rowB bs E).drop p))] w fun e w'=>∃(x u ap:Nat) (Y:Int),e=.returned (.tuple #[.int .i64 (x:Int),.int .i64 (u:Int),.int .i64 Y])/\w'=w/\Ta l bs p x Y ap/\ap<=8*E/\(Y=0->ap=p+u)/\(Y≠0->u=0):=by
 have bn:=Ab H;have bh:=Ab az;have ac:=Ab a9;have bk:(text ((rowB bs E).drop p)).size=8*E-p:=by rw[Ct,VQ,Af]
 have U:Hid (∀n,p+n<=8*E->(text ((rowB bs E).drop p)).extract 0 n=text (hb (Ce bs p n) n)):=fun n h=>by rw[KY,MH bs E p n h]
 have M:Hid (∀n,n<=15->keyOf Tryz.prog 9 (.string (text (hb (Ce bs p n) n)))=some (kT (hb (Ce bs p n) n))):=fun n h=>WideMaps.keyOf_string_mk Tryz.underlying9 (by rw[Ct,Bd];unfold maxLen;omega)
 have Z:Hid (∀n,1<=n->n<=15->Maps.has (Fg l l.length) (kT (hb (Ce bs p n) n))=decide (Hit l bs p n)):=fun n I O=>by
  rw[DU l _ (fun e=>by have:=congrArg List.length e;rw[Bd]at this;simp at this;omega)];rw[XZ];simp only[decide_eq_true_eq];exact(Yd l H bs p n I O).symm
 have aa:Hid (∀n,1<=n->n<=15->Hit l bs p n->∃q:Nat,(Qy l n l.length)[Ce bs p n-Az (cnt l) n]? =some q/\(Fg l l.length).atKey (kT (hb (Ce bs p n) n)) (.lit (.int .i64 0))=.lit (.int .i64 (q:Int))):=fun n I O F=>by
  obtain⟨q,aw,e⟩:=(Yd l H bs p n I O).1 F;have ax:hb (Ce bs p n) n≠ []:=fun e=>by have:=congrArg List.length e;rw[Bd]at this;simp at this;omega
  exact⟨q,J2 l H bs p n q I aw e,AG l _ ax (Sr l H _ ax) _ l.length (VB _) q aw e⟩
 clear H az;generalize text ((rowB bs E).drop p)=T at*;generalize Fg l l.length=D at*;go_enter Tryz.func126,Tryz.ntmps126
 go_wp2;go_loop [7] (fun af=>∃k:Nat,k<=15/\af=.int .i64 ((k:Int)+1)/\p+k<=8*E/\∀j,1<=j->j<=k->¬Hit l bs p j) (fun af=>16-(intOf af).toNat)
 case atStart=>exact⟨0,by omega,rfl,by omega,fun j I O=>by omega⟩
 case round=>
  obtain⟨k,bq,rfl,ag,a4⟩:=hrel;have G:=Ab a4;clear a4
  by_cases a7:k<15
  . by_cases bd:p+k=8*E
    . have a8:((8*E-p:Nat):Int)<(k:Int)+1:=by omega
      have ak:Hid (Ta l bs p 0 7 (p+k)):=.inr (.inl ⟨k,a7,Aa G,by rw[Aa ac];exact bd,rfl,rfl,rfl⟩);clear U M Z aa G;go_wp2;go_ret3;exact⟨0,0,p+k,7,rfl,rfl,Aa ak,ag,(fun h=>by cases h),fun _=>rfl⟩
    . have a8:¬((8*E-p:Nat):Int)<(k:Int)+1:=by omega
      have ay:=Aa U (k+1) (by omega);have ar:=Aa M (k+1) (by omega);have a2:=Aa Z (k+1) (by omega) (by omega);have bc:=Ab ay;have a6:=Ab ar;have aj:=Ab a2;have ae:=Ab (Aa aa (k+1) (by omega) (by omega))
      have al:Hid (¬Hit l bs p (k+1)->∀j,1<=j->j<=k+1->¬Hit l bs p j):=fun F j ai bi=>by
       by_cases e:j=k+1
       . rw[e];exact F
       . exact Aa G j ai (by omega)
      have ao:Hid (∀x,Hit l bs p (k+1)->(Qy l (k+1) l.length)[Ce bs p (k+1)-Az (cnt l) (k+1)]? =some x->Ta l bs p x 0 (p+(k+1))):=fun x F bg=>
       .inl ⟨k+1,by omega,by omega,fun j ai bi=>Aa G j ai (by omega),by rw[Aa ac];omega,F,rfl,rfl,bg⟩
      have a3:p+(k+1)<=8*E:=by omega
      clear ay ar a2 U M Z aa G;generalize text (hb (Ce bs p (k+1)) (k+1))=S at*;generalize kT (hb (Ce bs p (k+1)) (k+1))=bo at*;have bu:(k:Int)+1<=((8*E-p:Nat):Int):=by omega
      have hex:T.extract 0 (k+1)=S:=Aa bc;go_wp2_with (at_lookup;refine wpList_lookup_own_ok_int _ rfl _ _ 161 rfl 9 3 .i64 Z8m Tryz.underlying161 Tryz.underlying3 (Z34 _) b au D rfl (Aa bh) _ _ rfl (Aa a6) ?_)
      intro c av ba;have ah:=Ab av;clear av ba;rw[Aa aj]
      by_cases F:Hit l bs p (k+1)
      . obtain⟨q,a1,a5⟩:=Aa ae F
        have hc:c=(q:Int):=by
         have:=(Aa ah).symm.trans a5
         simpa using this
        have bb:=Ab (Aa ao q F a1);rw[decide_eq_true F];subst hc;clear F a1 a5 ao al ae aj ah;go_wp2;go_ret3;exact⟨q,k+1,p+(k+1),0,rfl,rfl,Aa bb,a3,fun _=>rfl,fun h=>absurd rfl h⟩
      . have bf:=Ab (Aa al F);rw[decide_eq_false F];clear F ao al ae aj ah;go_wp2;go_round
        case rel=>exact⟨k+1,by omega,by go_num,a3,Aa bf⟩
        case measure=>simp[intOf];omega
  . obtain rfl:k=15:=by omega
    have ak:Hid (Ta l bs p 0 8 (p+15)):=.inr (.inr ⟨Aa G,by rw[Aa ac];exact ag,rfl,rfl,rfl⟩);clear U M Z aa G;go_wp2;go_ret3;exact⟨0,0,p+15,8,rfl,rfl,Aa ak,ag,(fun h=>by cases h),fun _=>rfl⟩
open Go.RowKit
theorem UIs.rows {No:Nat->Prop}{B b:Nat}{w:World}{row:List Bool}{u:US}(F:UIs No B w b row u):∃ov kv,w.cell? ⟨b,2,none⟩=some ov/\w.cell? ⟨b,3,none⟩=some kv/\w.heap[b]? =some (.cells (ucells row u ov kv) 110 (0,0))/\w.ownsRow (b+1) 5 1 ov u.out.length (u8s u.out)/\w.ownsRow (b+1) 3 1 kv u.ks.length (i64s u.ks)/\(ov.ownBlock=none\/ov.ownBlock≠kv.ownBlock)/\(∀g,ov.ownBlock=some g->¬No g)/\(∀g,kv.ownBlock=some g->¬No g):=by
 obtain⟨ov,kv,E,G⟩:=F.ex;exact⟨ov,kv,Ac E,Ac E,E,G⟩
theorem S8 (No:Nat->Prop)(B b c:Nat)(row:List Bool)(u:US)(w:World)(E:UIs No B w b row u)(a7:u.out.length<=3000)(av:∀g,w.heap.size<=g->¬No g):
 Calls Tryz.prog 93 #[.pointer (some ⟨b,0,none⟩),.int .u8 (c:Int)] w fun e w'=>e=.returned (.tuple #[])/\UUp No B w b row (Fd c u) w':=by
 obtain⟨ay,hi,bb,bg,bc⟩:=info_parts Gz;obtain⟨c0,c1,au,bq⟩:=E.cell;obtain⟨ov,kv,c2,a1,aa,I,Y,af,ah,Z⟩:=E.rows;have H:=Ab E;have a8:=E.lt;have az:=E.base;have ax:=E.no;clear E
 by_cases O:u.e=0
 . rw[O]at au
   by_cases hl:u.out.length=3000
   . have M:Hid (Fd c u= {u with e:=2}):=Ab (by unfold Fd;rw[if_pos O,if_pos hl]);obtain⟨a,cc,rfl⟩:=An I;rw[hl]at c2;rw[Aa M];clear I Y aa M O ah Z af;go_enter Tryz.func93,Tryz.ntmps93
     go_wp2;go_end0
     exact⟨rfl,(Aa H).setE 2⟩
   . have M:Hid (Fd c u= {u with out:=u.out++ [c]}):=Ab (by unfold Fd;rw[if_pos O,if_neg hl]);obtain⟨L,ak⟩:=exq (u.out.length);rw[ak]at hl a7 I;have bk:=Ab ak;obtain⟨a,cc,a3⟩:=An I;have bo:((L:Int)==3000)=false:=by rw[beq_eq_false_iff_ne];omega
     have ap:=Ab I;have ag:=Ab Y;have bh:=Ab aa;have ao:=Ab af;have aw:=Ab ah;have bf:=Ab Z;have ba:=Ab av
     have bj:Hid (ov.ownBlock=none\/ov.ownBlock≠some b):=by
      cases U:ov.ownBlock with
      |none=>exact .inl rfl
      |some g=>
       refine .inr (fun e=> ?_);have:=(I.lt g U).1
       cases e
       omega
     subst a3;rw[Aa M];clear I Y aa M O ah Z af ak av;go_enter Tryz.func93,Tryz.ntmps93
     go_wp2_with (at_builtin;refine wpList_append_own_at _ rfl _ _ 23 rfl (b+1) 5 ay (.int .u8 0) 1 1 Tryz.underlying23 hi bb bg bc rfl (by decide) _ L (u8s u.out) rfl ((Aa ap).alloc _) ⟨w.heap.size,0,none⟩ 1 1 [.int .u8 (c:Int)] rfl rfl (cell_one_new _ _ _) (Bc rfl) (by unfold maxLen;omega) (by omega) (by simp;omega) ?_)
     intro v' w3 ai T _ aj;obtain⟨bu,bm,a2,_,_⟩:=Ba ai (by omega)
     have ac:w3.heap[b]? =some (.cells (ucells row u (.slice a L cc) kv) 110 (0,0)):=by
      rw[T.block b (by simp;omega) (fun e=>by rcases Aa bj with E|E;rw[E]at e;cases e;exact E e.symm)];exact(Below.heap_alloc w _ b a8).trans (Aa bh)
     have ae:∀g,g<w.heap.size->(Value.slice a L cc).ownBlock≠some g->w3.heap[g]? =w.heap[g]? :=fun g F a5=>by
      rw[T.block g (by simp;omega) (fun e=>a5 e.symm)];exact Below.heap_alloc w _ g F
     have bn:w3.cell? ⟨b,2,none⟩=some (.slice a L cc):=Ac ac;have f2:=frozen_of_row w3 b 2 _ _ ac;have al:=T.size
     have a9:Hid (UUp No B w b row {u with out:=u.out++ [c]} (w3.setCell ⟨b,2,none⟩ v')):=by
      have G:=Ad w3 b 2 v';simp only[World.size_alloc]at al
      have bd:v'.ownBlock=none\/v'.ownBlock≠some b:=by
       cases U:v'.ownBlock with
       |none=>exact .inl rfl
       |some g=>
        refine .inr (fun e=> ?_);have:=(ai.lt g U).1
        cases e
        omega
      have a4:w3.ownsRow (b+1) 3 1 kv u.ks.length (i64s u.ks):=Au (Aa ag) (fun g F=>ae g ((Aa ag).lt g F).2 (fun e=>by
       rcases Aa ao with E|E
       . rw[E]at e;cases e
       . exact E (by rw[F];exact e)))
      have a6:kv.ownBlock=none\/kv.ownBlock≠some b:=by
       cases U:kv.ownBlock with
       |none=>exact .inl rfl
       |some g=>
        refine .inr (fun e=> ?_);have:=((Aa ag).lt g U).1
        cases e
        omega
      refine⟨⟨az,ax,v',kv, ?_, ?_,a4.kept G a6, ?_, ?_,Aa bf⟩, ?_, ?_⟩
      . rw[heap_setCell_same w3 b 2 _ _ _ ac];rfl
      . have:=ai.kept G bd
        show (w3.setCell ⟨b,2,none⟩ v').ownsRow (b+1) 5 1 v' (u.out++ [c]).length (u8s (u.out++ [c]))
        rw[Wx,VE,Aa bk];exact this
      . rcases aj with E|E
        . rw[E];exact Aa ao
        . refine .inr (fun e=> ?_);rw[E]at e;have:=((Aa ag).lt _ e.symm).2
          omega
      . intro g F
        rcases aj with E|E
        . exact Aa aw g (by rw[<-E];exact F)
        . rw[E]at F;have:=VM F
          exact Aa ba g (by omega)
      . refine⟨G.os.trans (T.os.trans rfl),G.tape.trans (T.tape.trans rfl),G.output.trans (T.output.trans rfl),by have:=G.size;omega, ?_⟩;intro g F;rw[G.block g (by omega) (fun e=>by simp at e;omega),ae g (by omega) (fun e=>by have:=((Aa ap).lt g e).1;omega)]
      . intro g bi ar;rw[G.block g (by omega) (fun e=>by simp at e;subst e;exact ax ar),ae g bi (fun e=>Aa aw g e ar)]
     subst a2;clear ai T aj ac ae al;go_wp2;go_end0
     exact⟨rfl,Aa a9⟩
 . have M:Hid (Fd c u=u):=Ab (by unfold Fd;rw[if_neg O]);have hb:(u.e==0)=false:=by rw[beq_eq_false_iff_ne];exact O
   rw[Aa M];generalize u.e=e0 at au hb;clear O M I Y aa ah Z af c2 a1;go_enter Tryz.func93,Tryz.ntmps93
   go_wp2;go_end0
   exact⟨rfl,UUp.refl (Aa H)⟩
theorem Mm (l:List Int)(H:Good l)(bs:List Nat)(E p n:Nat)(ae:bs.length=E)(M:1<=n)(T:n<=15)(U:p+n<=8*E):
 (¬Hit l bs p n->Ok l (((rowB bs E).drop p).take n)=none)/\(∀x,Hit l bs p n->(Qy l n l.length)[Ce bs p n-Az (cnt l) n]? =some x->Ok l (((rowB bs E).drop p).take n)=some x):=by
 rw[MH bs E p n U];have Z:hb (Ce bs p n) n≠ []:=fun e=>by have:=congrArg List.length e;rw[Bd]at this;simp at this;omega
 constructor
 . intro I;unfold Ok;rw[List.find?_eq_none];intro q F;simp only[decide_eq_true_eq];intro e;exact I ((Yd l H bs p n M T).2 ⟨q,by simpa using F,e⟩)
 . intro x I aa;obtain⟨q,F,e⟩:=(Yd l H bs p n M T).1 I
   have ac:x=q:=by
    have:=J2 l H bs p n q M F e
    rw[aa]at this;exact VM this
   subst ac;unfold Ok
   cases G:(List.range l.length).find? (fun q=>decide (codeT l q=hb (Ce bs p n) n))with
   |none=>
    rw[List.find?_eq_none]at G;exact absurd (by simpa using e) (G x (by simpa using F))
   |some y=>
    have O:=List.find?_some G;have Y:=List.mem_of_find?_eq_some G;simp only[decide_eq_true_eq]at O;rw[Sr l H _ Z y x (by simpa using Y) F O e]
theorem Z0v (l:List Int)(O:Good l)(bs:List Nat)(E p x u U:Nat)(T:Int)(G:bs.length=E)(Z:Ta l bs p x T U)(aa:T=0->U=p+u)(Y:T≠0->u=0):Lt l (rowB bs E) p=(x,u,T):=by
 have af:=Af bs E;unfold Lt
 rcases Z with ⟨k,k1,ae,I,H,hit,rfl,rfl,ac⟩|⟨k,ae,I,H,rfl,rfl,rfl⟩|⟨I,H,rfl,rfl,rfl⟩
 . rw[G]at H;have ag:=aa rfl;obtain rfl:u=k:=by omega
   obtain⟨m,rfl⟩:∃m,u=m+1:=⟨u-1,by omega⟩
   have:=Pc l (rowB bs E) p m (15-m) (fun j F M=>⟨by omega,(Mm l O bs E p j G F (by omega) (by omega)).1 (I j F (by omega))⟩) 1 (by omega)
   rw[show m+(15-m)=15 by omega]at this;rw[this,show 15-m=(14-m)+1 by omega,Ej,show 1+m=m+1 by omega,if_neg (by omega),(Mm l O bs E p (m+1) G (by omega) (by omega) H).2 x hit ac]
 . rw[G]at H;obtain rfl:=Y (by decide);have:=Pc l (rowB bs E) p k (15-k) (fun j F M=>⟨by omega,(Mm l O bs E p j G F (by omega) (by omega)).1 (I j F M)⟩) 1 (by omega)
   rw[show k+(15-k)=15 by omega]at this;rw[this,show 15-k=(14-k)+1 by omega,Ej,if_pos (by omega)]
 . rw[G]at H;obtain rfl:=Y (by decide);have:=Pc l (rowB bs E) p 15 0 (fun j F M=>⟨by omega,(Mm l O bs E p j G F (by omega) (by omega)).1 (I j F M)⟩) 1 (by omega)
   rw[this,Ej]
theorem Z0t (l:List Int)(H:Good l)(b G:Nat)(bs:List Nat)(E p:Nat)(w:World)(F:bs.length=E)(af:E<=100000)(T:p<=8*E)(Z:Em w b G (Fg l l.length))(x u:Nat)(I:Int)(ac:Lt l (rowB bs E) p=(x,u,I)):
 Calls Tryz.prog 126 #[.map (some b),.string (text ((rowB bs E).drop p))] w fun e w'=>e=.returned (.tuple #[.int .i64 (x:Int),.int .i64 (u:Int),.int .i64 I])/\w'=w:=by
 refine(Z0u l H b G bs E p w F af T Z).mono ?_;rintro e w' ⟨O,ae,ag,U,rfl,rfl,M,_,Y,aa⟩;have:=Z0v l H bs E p O ae ag U F M Y aa
 rw[ac]at this;simp only[YD]at this;obtain⟨rfl,rfl,rfl⟩:=this;exact⟨rfl,rfl⟩
theorem Xp (l:List Int)(row:List Bool)(p:Nat)(E:p<=row.length):p+(Lt l row p).2.1<=row.length:=by
 have:∀f n,p+(Ej l row p f n).2.1<=row.length:=by
  intro f
  induction f with
  |zero=>intro n;rw[Ej];exact E
  |succ f ih=>
   intro n;rw[Ej]
   by_cases h:row.length<p+n
   . rw[if_pos h];exact E
   . rw[if_neg h]
     cases F:Ok l ((row.drop p).take n)with
     |none=>exact ih (n+1)
     |some q=>show p+n<=row.length;omega
 exact this 15 1
theorem KZ (row:List Bool)(p N:Nat)(E:row.length=N):(text row).extract p N=text (row.drop p):=by
 apply ByteArray.ext
 simp only[ByteArray.data_extract];simp[text,List.map_drop,<-E]
 exact VV (by simp)
theorem Km (No:Nat->Prop)(B b G M E:Nat)(l:List Int)(bs:List Nat)(u:US)(w:World)(O:UIs No B w b (rowB bs E) u)(ah:Good l)(ag:bs.length=E)(ao:E<=25000)(U:u.p<=8*E)(ac:Em w G M (Fg l l.length))(ak:G≠b):
 Calls Tryz.prog 98 #[.pointer (some ⟨b,0,none⟩),.map (some G)] w fun e w'=>e=.returned (.int .i64 ((uplace l (rowB bs E) u).1:Int))/\UUp No B w b (rowB bs E) (uplace l (rowB bs E) u).2 w':=by
 obtain⟨c0,c1,ae,ap⟩:=O.cell;have H:=Ab O;have al:(text (rowB bs E)).size=8*E:=by rw[Ct,Af]
 clear O
 by_cases F:u.e=0
 . rw[F]at ae;have ar:=KZ (rowB bs E) u.p (8*E) (Af bs E);obtain⟨x,v,err,hr⟩:∃x v err,Lt l (rowB bs E) u.p=(x,v,err):=⟨_,_,_,rfl⟩
   have Z:=Xp l (rowB bs E) u.p (by rw[Af];exact U);rw[Af,hr]at Z;simp only at Z
   have af:=Ab (fun(W:World) (ai:Em W G M (Fg l l.length))=>Z0t l ah G M bs E u.p W ag (by omega) U ai x v err hr);have aj:=Ab ac;have I:Hid (uplace l (rowB bs E) u=(x,{u with e:=err,p:=u.p+v})):=Ab (by unfold uplace;rw[if_pos F,hr]);rw[Aa I];clear ac F I hr;generalize text ((rowB bs E).drop u.p)=S at*;generalize text (rowB bs E)=T at*;obtain⟨p,out,ks,e⟩:=u;simp only at*
   go_enter Tryz.func98,Tryz.ntmps98
   go_wp2;go_quiet ((go_at_call 126;refine Calls.quiet_of_same (Aa af _ (Aa aj))))
   go_wp2;go_ret;have Y:=(UUp.refl (Aa H)).drewN nq;have aa:=Y.trans (Y.is.setE err);exact⟨rfl,aa.trans (aa.is.setP (p+v))⟩
 . have I:Hid (uplace l (rowB bs E) u=(0,u)):=Ab (by unfold uplace;rw[if_neg F]);rw[Aa I];have hb:(u.e !=0)=true:=by rw[bne_iff_ne];exact F
   generalize u.e=e0 at ae hb;clear F I;go_enter Tryz.func98,Tryz.ntmps98
   go_wp2;go_ret;exact⟨rfl,UUp.refl (Aa H)⟩
open Go.RowKit
theorem Gn (row:List Bool)(n:Nat)(u:US)(F:u.p<=row.length):(uget row n u).2.p<=row.length:=by
 unfold uget
 by_cases G:u.e=0
 . rw[if_pos G]
   by_cases E:row.length<u.p+n
   . rw[if_pos E];exact F
   . rw[if_neg E];show u.p+n<=row.length;omega
 . rw[if_neg G];exact F
theorem Fu (row:List Bool)(n:Nat)(u:US):(uget row n u).1<2^n:=by
 have F:0<2^n:=YQ n;unfold uget
 by_cases G:u.e=0
 . rw[if_pos G]
   by_cases E:row.length<u.p+n
   . rw[if_pos E];exact F
   . rw[if_neg E];refine VG (Jy _) (VO (by omega) ?_);simp
     omega
 . rw[if_neg G];exact F
theorem Wl (x:Int)(u:US):(Am x u).p=u.p:=by unfold Am;split<;>rfl
theorem SV (l:List Int)(row:List Bool)(u:US)(E:u.p<=row.length):(uplace l row u).2.p<=row.length:=by
 unfold uplace
 by_cases F:u.e=0
 . rw[if_pos F];exact Xp l row u.p E
 . rw[if_neg F];exact E
theorem Hm (No:Nat->Prop)(B b n:Nat)(row:List Bool)(u:US)(w:World)(F:UIs No B w b row u)(I:n<=16)(G:row.length<=200000)(E:u.p<=row.length)(r:Nat)(v:US)(H:uget row n u=(r,v)):
 Calls Tryz.prog 91 #[.pointer (some ⟨b,0,none⟩),.int .i64 (n:Int)] w fun e w'=>e=.returned (.int .i64 (r:Int))/\UUp No B w b row v w':=by
 have:=Z51 No B b n row u w F I G E
 rw[H]at this;exact this
theorem UIs.more {No No':Nat->Prop}{B b:Nat}{w:World}{row:List Bool}{u:US}(H:UIs No B w b row u)(Y:¬No' b)(M:∀g,No' g->No g\/w.heap.size<=g):UIs No' B w b row u:=by
 obtain⟨ov,kv,T,G,I,U,O,Z⟩:=H.ex;refine⟨H.base,Y,ov,kv,T,G,I,U, ?_, ?_⟩
 . intro g E F
   rcases M g F with e|e
   . exact O g E e
   . have:=(G.lt g E).2;omega
 . intro g E F
   rcases M g F with e|e
   . exact Z g E e
   . have:=(I.lt g E).2;omega
end Go.Proofs.YtleocpdblhbimaaGreatDoor
