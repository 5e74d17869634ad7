import Derived.Test.YtleocpdblhbimaaGreatDoorQ45
import Derived.Maps.Own
import Derived.Maps.OwnSet
import Derived.Maps.Views
import Derived.StringKeys
set_option linter.unusedSimpArgs false
set_option maxHeartbeats 2000000
namespace Go.Proofs.YtleocpdblhbimaaGreatDoor
open Go.RowKit Go.Maps
set_option linter.unusedVariables false
set_option maxRecDepth 100000
def kT (s:List Bool):Lit:=.string (text s).data.toList
theorem Z2q {s t:List Bool}(F:kT s=kT t):s=t:=by
 unfold kT text at F;simp only[Lit.string.injEq]at F;have E:s.map chr=t.map chr:=by simpa using F
 have G:∀a b:Bool,chr a=chr b->a=b:=by intro a b;cases a<;>cases b<;>decide
 induction s generalizing t with
 |nil=>cases t with
  |nil=>rfl
  |cons y r=>simp at E
 |cons x r ih=>cases t with
  |nil=>simp at E
  |cons y r2=>
   simp only[WQ,List.cons.injEq]at E;rw[G x y E.1,ih (t:=r2) (by simp[E.2]) E.2]
theorem Z2p (s:List Bool):WideAt.IsKeyLit (kT s):=by
 first|trivial|exact⟨⟩|(unfold kT WideAt.IsKeyLit;simp)
def Fg (l:List Int):Nat->DataW Unit
 |0=>.map []
 |k+1=>if codeT l k= []then Fg l k else (Fg l k).put (kT (codeT l k)) (.lit (.int .i64 (k:Int)))
theorem Mt (l:List Int):∀k,IsMap (Fg l k)
 |0=>isMap_empty
 |k+1=>by
  rw[Fg]
  split
  . exact Mt l k
  . exact(Mt l k).put _ _
theorem DU (l:List Int)(s:List Bool)(H:s≠ []):∀k,Maps.has (Fg l k) (kT s)=decide (∃q,q<k/\codeT l q=s)
 |0=>by
  rw[decide_eq_false (by rintro ⟨q,h,_⟩;omega)];rfl
 |k+1=>by
  have ih:=DU l s H k
  have e:(∃q,q<k+1/\codeT l q=s)↔((∃q,q<k/\codeT l q=s)\/codeT l k=s):=by
   constructor
   . rintro ⟨q,I,F⟩
     by_cases M:q=k
     . subst M;exact .inr F
     . exact .inl ⟨q,by omega,F⟩
   . rintro (⟨q,I,F⟩|h)
     . exact⟨q,by omega,F⟩
     . exact⟨k,by omega,h⟩
  rw[Fg]
  by_cases G:codeT l k= []
  . rw[if_pos G,ih,XZ];simp only[decide_eq_true_eq,e]
    constructor
    . exact .inl
    . rintro (h|h)
      . exact h
      . rw[G]at h;exact absurd h.symm H
  . rw[if_neg G]
    by_cases E:codeT l k=s
    . rw[E,has_put_same (Mt l k) (Z2p s),decide_eq_true (e.2 (.inr E))]
    . rw[has_put_other (fun h=>E (Z2q h).symm),ih,XZ];simp only[decide_eq_true_eq,e]
      constructor
      . exact .inl
      . rintro (h|h)
        . exact h
        . exact absurd h E
theorem AG (l:List Int)(s:List Bool)(E:s≠ [])(G:∀q q',q<l.length->q'<l.length->codeT l q=s->codeT l q'=s->q=q')(H:DataW Unit):∀k,k<=l.length->∀q,q<k->codeT l q=s->(Fg l k).atKey (kT s) H=.lit (.int .i64 (q:Int))
 |0,_,q,h,_=>by omega
 |k+1,hk,q,h,hq=>by
  rw[Fg]
  by_cases F:codeT l k= []
  . rw[if_pos F];have:q≠k:=fun e=>by subst e;rw[F]at hq;exact E hq.symm
    exact AG l s E G H k (by omega) q (by omega) hq
  . rw[if_neg F]
    by_cases e:codeT l k=s
    . have:=G q k (by omega) (by omega) hq e
      subst this;rw[e,atKey_put_same (Mt l _) (Z2p s)]
    . rw[atKey_put_other (fun h=>e (Z2q h).symm)];have:q≠k:=fun e2=>by subst e2;exact e hq
      exact AG l s E G H k (by omega) q (by omega) hq
theorem Z8m:Keyed Tryz.prog 9:=string_keyed Tryz.underlying9
abbrev Em (w:World)(b n:Nat)(D:DataW Unit):Prop:=w.ownsMap Tryz.prog 9 (plainElem Tryz.prog 3) b n D
theorem Jm (a:Option Addr)(E ag:Nat)(l:List Int)(w:World)(ay:l.length=E)(ai:RowIn .i64 w a l)(G:Good l):
 Calls Tryz.prog 97 #[.slice a E ag] w fun e w'=>∃b n,e=.returned (.map (some b))/\w.heap.size<=b/\Em w' b n (Fg l E)/\Below w.heap.size w w':=by
 have a8:=G.len;have a4:= @run_makeMap Tryz.prog;have au:=Ab G;go_enter Tryz.func97,Tryz.ntmps97
 go_wp2_with fail
 refine(Z9 a E ag l _ ay (ai.alloc _) G).mono ?_;rintro e ae ⟨g,rfl,O,ao,Y⟩;have av:=Ab Y;have a2:=(Y.lt g rfl).2;have al:Hid (Em ae w.heap.size 0 (Fg l 0)):=(World.ownsMap_made w Tryz.prog 9 (plainElem Tryz.prog 3)).kept (Sy O) (by simp);have ak:=Ab (((Below.refl w.heap.size w).alloc (VB _) _).trans (O.mono (by simp)));have aw:=O.size;simp only[World.size_alloc]at aw ao;clear O Y ai G;go_wp2;go_loopw [10] (fun Z wr=>∃k n:Nat,k<=E/\n<=k/\Z=.int .i64 (k:Int)/\Em wr w.heap.size n (Fg l k)/\ae.grownBy wr (some w.heap.size)) (fun Z _=>E-(intOf Z).toNat)
 case atStart=>exact⟨0,0,VH _,VB _,rfl,Aa al,Aw _ _⟩
 case round=>
  obtain⟨k,n,a6,hn,rfl,U,M⟩:=hrel;have aa:=Ab U;have ac:=Ab M
  by_cases ap:k<E
  . have a3:wr.cell? ⟨g,k,none⟩=some (.string (text (codeT l k))):=by
     refine M.cell ?_ (by simp;omega);rw[(Aa av).cellAt k (by omega)];simp[ap]
    have I:Hid (Fg l (k+1)=if codeT l k= []then Fg l k else (Fg l k).put (kT (codeT l k)) (.lit (.int .i64 (k:Int)))):=rfl
    have af:Hid (keyOf Tryz.prog 9 (.string (text (codeT l k)))=some (kT (codeT l k))):=Go.WideMaps.keyOf_string_mk Tryz.underlying9 (by
     rw[Ct];unfold codeT;rw[Bd];have:=(Aa au).ok k (by omega)
     unfold maxLen;omega)
    clear U M;have H:(text (codeT l k)).toList.isEmpty=(codeT l k).isEmpty:=by rw[Lib.toList_data];cases codeT l k<;>rfl
    by_cases F:codeT l k= []
    . rw[if_pos F]at I;have ax:(text (codeT l k)).toList.isEmpty=true:=by rw[H,F];rfl
      clear H F af;generalize text (codeT l k)=T at*;go_wp2;go_roundw
      case rel=>exact⟨k+1,n,by omega,by omega,by go_num,by rw[Aa I];exact Aa aa,Aa ac⟩
      case measure=>simp[intOf];omega
    . rw[if_neg F]at I
      have ax:(text (codeT l k)).toList.isEmpty=false:=by
       rw[H]
       cases e:codeT l k with
       |nil=>exact absurd e F
       |cons _ _=>rfl
      have a1:(Lit.int .i64 (k:Int)).wf=true:=WalkArith.wf_i64 (by omega);clear H F;generalize text (codeT l k)=T at*;generalize kT (codeT l k)=a5 at*;go_wp2_with (at_mapUpdate;refine wpList_mapUpdate_own _ rfl _ _ _ 161 rfl 9 3 Z8m Tryz.underlying161 _ w.heap.size n _ rfl (Aa aa) (by unfold maxLen;omega) _ _ _ rfl rfl (Aa af) _ [] (plainElem_int Tryz.underlying3 a1) ?_)
      intro a7 aj ah;have az:=Ab aj;have ar:=Ab (Aj (Aa ac) ah);clear aj ah;go_wp2;go_roundw
      case rel=>exact⟨k+1,n+1,by omega,by omega,by go_num,by rw[Aa I];exact Aa az,Aa ar⟩
      case measure=>simp[intOf];omega
  . obtain rfl:k=E:=by omega
    clear U M;go_wp2;go_ret;exact⟨w.heap.size,n,rfl,VB _,Aa aa,(Aa ak).grown (Aa ac) (by omega) (fun j h=>by cases h;exact VB _)⟩
theorem BS (l:List Int)(m:Nat):∀k,k<=l.length->∀i q,(Qy l m k)[i]? =some q->q<k/\l.getD q 0=(m:Int)/\cnt (l.take q) m=i
 |0,_,i,q,h=>by simp[Qy]at h
 |k+1,hk,i,q,h=>by
  rw[Qy]at h;have H:=Hu l m k (by omega)
  by_cases hi:i<(Qy l m k).length
  . rw[WN hi]at h;obtain⟨a,b,c⟩:=BS l m k (by omega) i q h;exact⟨by omega,b,c⟩
  . rw[VX (by omega)]at h
    by_cases e:l.getD k 0=(m:Int)
    . rw[if_pos e]at h
      have F:i-(Qy l m k).length=0:=by
       by_cases E:i-(Qy l m k).length=0
       . exact E
       . obtain⟨j,G⟩:∃j,i-(Qy l m k).length=j+1:=⟨_,(Nat.succ_pred E).symm⟩
         rw[G]at h;simp at h
      rw[F]at h;simp at h
      subst h;exact⟨by omega,e,by omega⟩
    . rw[if_neg e]at h;simp at h
theorem Yd (l:List Int)(F:Good l)(bs:List Nat)(p n:Nat)(O:1<=n)(T:n<=15):Hit l bs p n↔∃q,q<l.length/\codeT l q=hb (Ce bs p n) n:=by
 constructor
 . rintro ⟨a,b⟩;obtain⟨q,E⟩:=Z0b l (k:=n) (i:=Ce bs p n-Az (cnt l) n) (by omega);obtain⟨I,G,H⟩:=BS l n l.length (VB _) _ _ E;refine⟨q,I, ?_⟩;have e:=Gh l G;unfold nxt at e;rw[if_neg (by omega)]at e;unfold codeT;rw[G,WM,e,H,show Az (cnt l) n+(Ce bs p n-Az (cnt l) n)=Ce bs p n by omega]
 . rintro ⟨q,E,e⟩;obtain⟨m,hm⟩:=WF (F.ok q E).1;have hl:=congrArg List.length e;unfold codeT at hl e;rw[hm,WM]at hl e;rw[Bd,Bd]at hl;subst hl;obtain⟨c1,c2,M⟩:=Ig l F E hm (by omega);have:=CX m _ _ M (Ss bs p m) e
   unfold Hit;rw[<-this];exact⟨c1,c2⟩
theorem J2 (l:List Int)(F:Good l)(bs:List Nat)(p n q:Nat)(H:1<=n)(E:q<l.length)(e:codeT l q=hb (Ce bs p n) n):(Qy l n l.length)[Ce bs p n-Az (cnt l) n]? =some q:=by
 obtain⟨m,hm⟩:=WF (F.ok q E).1;have hl:=congrArg List.length e;unfold codeT at hl e;rw[hm,WM]at hl e;rw[Bd,Bd]at hl;subst hl;obtain⟨c1,c2,G⟩:=Ig l F E hm (by omega);have e2:=CX m _ _ G (Ss bs p m) e;have e3:=Gh l hm;unfold nxt at e3;rw[if_neg (by omega)]at e3;rw[<-e2,show codeN l q-Az (cnt l) m=cnt (l.take q) m by omega];exact W0 l E hm
theorem MH (bs:List Nat)(E p:Nat):∀n,p+n<=8*E->((rowB bs E).drop p).take n=hb (Ce bs p n) n
 |0,_=>by simp[hb]
 |n+1,h=>by
  have ih:=MH bs E p n (by omega);have H:=Af bs E;have I:=RL bs (p+n);have F:n<((rowB bs E).drop p).length:=by rw[VQ];omega
  rw[XB F,ih,Ce,hb,show (2*Ce bs p n+Z7d bs (p+n))/2=Ce bs p n by omega]
  congr 2
  have G:((rowB bs E).drop p)[n]=(rowB bs E).getD (p+n) false:=by
   rw[List.getElem_drop];simp[List.getD,show p+n<(rowB bs E).length by omega]
  rw[G,Hf bs E (p+n) (by omega),Z5m]
  cases Iq bs (p+n)<;>simp<;>omega
instance (l:List Int) (bs:List Nat) (p n:Nat):Decidable (Hit l bs p n):=by unfold Hit;infer_instance
theorem Z34 (w:World):(zeroValue 3).run Tryz.prog w=.ok (.int .i64 0) w:=by kernel_rfl
theorem KY (l:List Bool)(n:Nat):(text l).extract 0 n=text (l.take n):=by
 apply ByteArray.ext
 simp[text,List.map_take]
theorem Z0u (l:List Int)(H:Good l)(b az:Nat)(bs:List Nat)(E p:Nat)(w:World)(bb:bs.length=E)(bk:E<=100000)(bq:p<=8*E)(av:Em w b az (Fg l l.length)):
 Calls Tryz.prog 126 #[.map (some b),.string (text ((rowB bs E).drop p))] w fun e w'=>∃(x u ac:Nat) (U:Int),e=.returned (.tuple #[.int .i64 (x:Int),.int .i64 (u:Int),.int .i64 U])/\w'=w/\Ta l bs p x U ac/\ac<=8*E/\(U=0->ac=p+u)/\(U≠0->u=0):=by
 have bm:=Ab H;have bh:=Ab av;have ah:=Ab bb;have bj:(text ((rowB bs E).drop p)).size=8*E-p:=by rw[Ct,VQ,Af]
 have aa:Hid (∀n,p+n<=8*E->(text ((rowB bs E).drop p)).extract 0 n=text (hb (Ce bs p n) n)):=fun n h=>by rw[KY,MH bs E p n h]
 have O:Hid (∀n,n<=15->keyOf Tryz.prog 9 (.string (text (hb (Ce bs p n) n)))=some (kT (hb (Ce bs p n) n))):=fun n h=>WideMaps.keyOf_string_mk Tryz.underlying9 (by rw[Ct,Bd];unfold maxLen;omega)
 have Y:Hid (∀n,1<=n->n<=15->Maps.has (Fg l l.length) (kT (hb (Ce bs p n) n))=decide (Hit l bs p n)):=fun n I Z=>by
  rw[DU l _ (fun e=>by have:=congrArg List.length e;rw[Bd]at this;simp at this;omega)];rw[XZ];simp only[decide_eq_true_eq];exact(Yd l H bs p n I Z).symm
 have M:Hid (∀n,1<=n->n<=15->Hit l bs p n->∃q:Nat,(Qy l n l.length)[Ce bs p n-Az (cnt l) n]? =some q/\(Fg l l.length).atKey (kT (hb (Ce bs p n) n)) (.lit (.int .i64 0))=.lit (.int .i64 (q:Int))):=fun n I Z F=>by
  obtain⟨q,a4,e⟩:=(Yd l H bs p n I Z).1 F;have a2:hb (Ce bs p n) n≠ []:=fun e=>by have:=congrArg List.length e;rw[Bd]at this;simp at this;omega
  exact⟨q,J2 l H bs p n q I a4 e,AG l _ a2 (Sr l H _ a2) _ l.length (VB _) q a4 e⟩
 clear H av;generalize text ((rowB bs E).drop p)=T at*;generalize Fg l l.length=D at*;go_enter Tryz.func126,Tryz.ntmps126
 go_wp2;go_loop [7] (fun ak=>∃k:Nat,k<=15/\ak=.int .i64 ((k:Int)+1)/\p+k<=8*E/\∀j,1<=j->j<=k->¬Hit l bs p j) (fun ak=>16-(intOf ak).toNat)
 case atStart=>exact⟨0,by omega,rfl,by omega,fun j I Z=>by omega⟩
 case round=>
  obtain⟨k,bo,rfl,ag,ar⟩:=hrel;have G:=Ab ar;clear ar
  by_cases a7:k<15
  . by_cases a6:p+k=8*E
    . have bg:((8*E-p:Nat):Int)<(k:Int)+1:=by omega
      have al:Hid (Ta l bs p 0 7 (p+k)):=.inr (.inl ⟨k,a7,Aa G,by rw[Aa ah];exact a6,rfl,rfl,rfl⟩);clear aa O Y M G;go_wp2;go_ret3;exact⟨0,0,p+k,7,rfl,rfl,Aa al,ag,(fun h=>by cases h),fun _=>rfl⟩
    . have bg:¬((8*E-p:Nat):Int)<(k:Int)+1:=by omega
      have au:=Aa aa (k+1) (by omega);have ax:=Aa O (k+1) (by omega);have a3:=Aa Y (k+1) (by omega) (by omega);have bi:=Ab au;have a8:=Ab ax;have ae:=Ab a3;have aj:=Ab (Aa M (k+1) (by omega) (by omega))
      have af:Hid (¬Hit l bs p (k+1)->∀j,1<=j->j<=k+1->¬Hit l bs p j):=fun F j ao ba=>by
       by_cases e:j=k+1
       . rw[e];exact F
       . exact Aa G j ao (by omega)
      have ap:Hid (∀x,Hit l bs p (k+1)->(Qy l (k+1) l.length)[Ce bs p (k+1)-Az (cnt l) (k+1)]? =some x->Ta l bs p x 0 (p+(k+1))):=fun x F bf=>
       .inl ⟨k+1,by omega,by omega,fun j ao ba=>Aa G j ao (by omega),by rw[Aa ah];omega,F,rfl,rfl,bf⟩
      have ay:p+(k+1)<=8*E:=by omega
      clear au ax a3 aa O Y M G;generalize text (hb (Ce bs p (k+1)) (k+1))=S at*;generalize kT (hb (Ce bs p (k+1)) (k+1))=bn at*;have bu:(k:Int)+1<=((8*E-p:Nat):Int):=by omega
      have hex:T.extract 0 (k+1)=S:=Aa bi;go_wp2_with (at_lookup;refine wpList_lookup_own_ok_int _ rfl _ _ 161 rfl 9 3 .i64 Z8m Tryz.underlying161 Tryz.underlying3 (Z34 _) b az D rfl (Aa bh) _ _ rfl (Aa a8) ?_)
      intro c a1 a9;have ai:=Ab a1;clear a1 a9;rw[Aa ae]
      by_cases F:Hit l bs p (k+1)
      . obtain⟨q,aw,a5⟩:=Aa aj F
        have hc:c=(q:Int):=by
         have:=(Aa ai).symm.trans a5
         simpa using this
        have bc:=Ab (Aa ap q F aw);rw[decide_eq_true F];subst hc;clear F aw a5 ap af aj ae ai;go_wp2;go_ret3;exact⟨q,k+1,p+(k+1),0,rfl,rfl,Aa bc,ay,fun _=>rfl,fun h=>absurd rfl h⟩
      . have bd:=Ab (Aa af F);rw[decide_eq_false F];clear F ap af aj ae ai;go_wp2;go_round
        case rel=>exact⟨k+1,by omega,by go_num,ay,Aa bd⟩
        case measure=>simp[intOf];omega
  . obtain rfl:k=15:=by omega
    have al:Hid (Ta l bs p 0 8 (p+15)):=.inr (.inr ⟨Aa G,by rw[Aa ah];exact ag,rfl,rfl,rfl⟩);clear aa O Y M G;go_wp2;go_ret3;exact⟨0,0,p+15,8,rfl,rfl,Aa al,ag,(fun h=>by cases h),fun _=>rfl⟩
end Go.Proofs.YtleocpdblhbimaaGreatDoor
namespace Go.Proofs.YtleocpdblhbimaaGreatDoor
open Go.RowKit
set_option linter.unusedVariables false
set_option maxRecDepth 100000
theorem UIs.rows {No:Nat->Prop}{B b:Nat}{w:World}{row:List Bool}{u:US}(F:UIs No B w b row u):∃ov kv,w.cell? ⟨b,2,none⟩=some ov/\w.cell? ⟨b,3,none⟩=some kv/\w.heap[b]? =some (.cells (ucells row u ov kv) 110 (0,0))/\w.ownsRow (b+1) 5 1 ov u.out.length (u8s u.out)/\w.ownsRow (b+1) 3 1 kv u.ks.length (i64s u.ks)/\(ov.ownBlock=none\/ov.ownBlock≠kv.ownBlock)/\(∀g,ov.ownBlock=some g->¬No g)/\(∀g,kv.ownBlock=some g->¬No g):=by
 obtain⟨ov,kv,E,G⟩:=F.ex;exact⟨ov,kv,Ac E,Ac E,E,G⟩
theorem S8 (No:Nat->Prop)(B b c:Nat)(row:List Bool)(u:US)(w:World)(E:UIs No B w b row u)(bf:u.out.length<=3000)(av:∀g,w.heap.size<=g->¬No g):
 Calls Tryz.prog 93 #[.pointer (some ⟨b,0,none⟩),.int .u8 (c:Int)] w fun e w'=>e=.returned (.tuple #[])/\UUp No B w b row (Fd c u) w':=by
 obtain⟨bb,hi,a9,bg,a7⟩:=info_parts Gz;obtain⟨c0,c1,ap,bn⟩:=E.cell;obtain⟨ov,kv,c2,ba,Z,O,Y,ac,ag,ae⟩:=E.rows;have H:=Ab E;have bi:=E.lt;have bj:=E.base;have ao:=E.no;clear E
 by_cases G:u.e=0
 . rw[G]at ap
   by_cases hl:u.out.length=3000
   . have M:Hid (Fd c u= {u with e:=2}):=Ab (by unfold Fd;rw[if_pos G,if_pos hl]);obtain⟨a,cc,rfl⟩:=An O;rw[hl]at c2;rw[Aa M];clear O Y Z M G ag ae ac;go_enter Tryz.func93,Tryz.ntmps93
     go_wp2;go_end0
     exact⟨rfl,(Aa H).setE 2⟩
   . have M:Hid (Fd c u= {u with out:=u.out++ [c]}):=Ab (by unfold Fd;rw[if_pos G,if_neg hl]);obtain⟨L,ak⟩:=exq (u.out.length);rw[ak]at hl bf O;have a3:=Ab ak;obtain⟨a,cc,a5⟩:=An O;have bm:((L:Int)==3000)=false:=by rw[beq_eq_false_iff_ne];omega
     have ax:=Ab O;have af:=Ab Y;have az:=Ab Z;have au:=Ab ac;have ar:=Ab ag;have bd:=Ab ae;have bh:=Ab av
     have a8:Hid (ov.ownBlock=none\/ov.ownBlock≠some b):=by
      cases U:ov.ownBlock with
      |none=>exact .inl rfl
      |some g=>
       refine .inr (fun e=> ?_);have:=(O.lt g U).1
       cases e
       omega
     subst a5;rw[Aa M];clear O Y Z M G ag ae ac ak av;go_enter Tryz.func93,Tryz.ntmps93
     go_wp2_with (at_builtin;refine wpList_append_own_at _ rfl _ _ 23 rfl (b+1) 5 bb (.int .u8 0) 1 1 Tryz.underlying23 hi a9 bg a7 rfl (by decide) _ L (u8s u.out) rfl ((Aa ax).alloc _) ⟨w.heap.size,0,none⟩ 1 1 [.int .u8 (c:Int)] rfl rfl (cell_one_new _ _ _) (Bc rfl) (by unfold maxLen;omega) (by omega) (by simp;omega) ?_)
     intro v' w3 aa T _ aj;obtain⟨bq,bu,a2,_,_⟩:=Ba aa (by omega)
     have ai:w3.heap[b]? =some (.cells (ucells row u (.slice a L cc) kv) 110 (0,0)):=by
      rw[T.block b (by simp;omega) (fun e=>by rcases Aa a8 with E|E;rw[E]at e;cases e;exact E e.symm)];exact(Below.heap_alloc w _ b bi).trans (Aa az)
     have ah:∀g,g<w.heap.size->(Value.slice a L cc).ownBlock≠some g->w3.heap[g]? =w.heap[g]? :=fun g F bc=>by
      rw[T.block g (by simp;omega) (fun e=>bc e.symm)];exact Below.heap_alloc w _ g F
     have bo:w3.cell? ⟨b,2,none⟩=some (.slice a L cc):=Ac ai;have f2:=frozen_of_row w3 b 2 _ _ ai;have al:=T.size
     have a1:Hid (UUp No B w b row {u with out:=u.out++ [c]} (w3.setCell ⟨b,2,none⟩ v')):=by
      have I:=Ad w3 b 2 v';simp only[World.size_alloc]at al
      have a6:v'.ownBlock=none\/v'.ownBlock≠some b:=by
       cases U:v'.ownBlock with
       |none=>exact .inl rfl
       |some g=>
        refine .inr (fun e=> ?_);have:=(aa.lt g U).1
        cases e
        omega
      have a4:w3.ownsRow (b+1) 3 1 kv u.ks.length (i64s u.ks):=Au (Aa af) (fun g F=>ah g ((Aa af).lt g F).2 (fun e=>by
       rcases Aa au with E|E
       . rw[E]at e;cases e
       . exact E (by rw[F];exact e)))
      have bk:kv.ownBlock=none\/kv.ownBlock≠some b:=by
       cases U:kv.ownBlock with
       |none=>exact .inl rfl
       |some g=>
        refine .inr (fun e=> ?_);have:=((Aa af).lt g U).1
        cases e
        omega
      refine⟨⟨bj,ao,v',kv, ?_, ?_,a4.kept I bk, ?_, ?_,Aa bd⟩, ?_, ?_⟩
      . rw[heap_setCell_same w3 b 2 _ _ _ ai];rfl
      . have:=aa.kept I a6
        show (w3.setCell ⟨b,2,none⟩ v').ownsRow (b+1) 5 1 v' (u.out++ [c]).length (u8s (u.out++ [c]))
        rw[Wx,VE,Aa a3];exact this
      . rcases aj with E|E
        . rw[E];exact Aa au
        . refine .inr (fun e=> ?_);rw[E]at e;have:=((Aa af).lt _ e.symm).2
          omega
      . intro g F
        rcases aj with E|E
        . exact Aa ar g (by rw[<-E];exact F)
        . rw[E]at F;have:=VM F
          exact Aa bh g (by omega)
      . refine⟨I.os.trans (T.os.trans rfl),I.tape.trans (T.tape.trans rfl),I.output.trans (T.output.trans rfl),by have:=I.size;omega, ?_⟩;intro g F;rw[I.block g (by omega) (fun e=>by simp at e;omega),ah g (by omega) (fun e=>by have:=((Aa ax).lt g e).1;omega)]
      . intro g ay aw;rw[I.block g (by omega) (fun e=>by simp at e;subst e;exact ao aw),ah g ay (fun e=>Aa ar g e aw)]
     subst a2;clear aa T aj ai ah al;go_wp2;go_end0
     exact⟨rfl,Aa a1⟩
 . have M:Hid (Fd c u=u):=Ab (by unfold Fd;rw[if_neg G]);have hb:(u.e==0)=false:=by rw[beq_eq_false_iff_ne];exact G
   rw[Aa M];generalize u.e=e0 at ap hb;clear G M O Y Z ag ae ac c2 ba;go_enter Tryz.func93,Tryz.ntmps93
   go_wp2;go_end0
   exact⟨rfl,UUp.refl (Aa H)⟩
theorem Mm (l:List Int)(G:Good l)(bs:List Nat)(E p n:Nat)(ae:bs.length=E)(I:1<=n)(O:n<=15)(aa:p+n<=8*E):
 (¬Hit l bs p n->Ok l (((rowB bs E).drop p).take n)=none)/\(∀x,Hit l bs p n->(Qy l n l.length)[Ce bs p n-Az (cnt l) n]? =some x->Ok l (((rowB bs E).drop p).take n)=some x):=by
 rw[MH bs E p n aa];have Z:hb (Ce bs p n) n≠ []:=fun e=>by have:=congrArg List.length e;rw[Bd]at this;simp at this;omega
 constructor
 . intro M;unfold Ok;rw[List.find?_eq_none];intro q F;simp only[decide_eq_true_eq];intro e;exact M ((Yd l G bs p n I O).2 ⟨q,by simpa using F,e⟩)
 . intro x M U;obtain⟨q,F,e⟩:=(Yd l G bs p n I O).1 M
   have Y:x=q:=by
    have:=J2 l G bs p n q I F e
    rw[U]at this;exact VM this
   subst Y;unfold Ok
   cases H:(List.range l.length).find? (fun q=>decide (codeT l q=hb (Ce bs p n) n))with
   |none=>
    rw[List.find?_eq_none]at H;exact absurd (by simpa using e) (H x (by simpa using F))
   |some y=>
    have T:=List.find?_some H;have ac:=List.mem_of_find?_eq_some H;simp only[decide_eq_true_eq]at T;rw[Sr l G _ Z y x (by simpa using ac) F T e]
theorem Z0v (l:List Int)(M:Good l)(bs:List Nat)(E p x u Y:Nat)(O:Int)(G:bs.length=E)(ae:Ta l bs p x O Y)(ac:O=0->Y=p+u)(U:O≠0->u=0):Lt l (rowB bs E) p=(x,u,O):=by
 have af:=Af bs E;unfold Lt
 rcases ae with ⟨k,k1,aa,I,H,hit,rfl,rfl,Z⟩|⟨k,aa,I,H,rfl,rfl,rfl⟩|⟨I,H,rfl,rfl,rfl⟩
 . rw[G]at H;have ag:=ac rfl;obtain rfl:u=k:=by omega
   obtain⟨m,rfl⟩:∃m,u=m+1:=⟨u-1,by omega⟩
   have:=Pc l (rowB bs E) p m (15-m) (fun j F T=>⟨by omega,(Mm l M bs E p j G F (by omega) (by omega)).1 (I j F (by omega))⟩) 1 (by omega)
   rw[show m+(15-m)=15 by omega]at this;rw[this,show 15-m=(14-m)+1 by omega,Ej,show 1+m=m+1 by omega,if_neg (by omega),(Mm l M bs E p (m+1) G (by omega) (by omega) H).2 x hit Z]
 . rw[G]at H;obtain rfl:=U (by decide);have:=Pc l (rowB bs E) p k (15-k) (fun j F T=>⟨by omega,(Mm l M bs E p j G F (by omega) (by omega)).1 (I j F T)⟩) 1 (by omega)
   rw[show k+(15-k)=15 by omega]at this;rw[this,show 15-k=(14-k)+1 by omega,Ej,if_pos (by omega)]
 . rw[G]at H;obtain rfl:=U (by decide);have:=Pc l (rowB bs E) p 15 0 (fun j F T=>⟨by omega,(Mm l M bs E p j G F (by omega) (by omega)).1 (I j F T)⟩) 1 (by omega)
   rw[this,Ej]
theorem Z0t (l:List Int)(F:Good l)(b H:Nat)(bs:List Nat)(E p:Nat)(w:World)(I:bs.length=E)(af:E<=100000)(aa:p<=8*E)(Z:Em w b H (Fg l l.length))(x u:Nat)(G:Int)(ag:Lt l (rowB bs E) p=(x,u,G)):
 Calls Tryz.prog 126 #[.map (some b),.string (text ((rowB bs E).drop p))] w fun e w'=>e=.returned (.tuple #[.int .i64 (x:Int),.int .i64 (u:Int),.int .i64 G])/\w'=w:=by
 refine(Z0u l F b H bs E p w I af aa Z).mono ?_;rintro e w' ⟨ac,O,Y,M,rfl,rfl,ae,_,U,T⟩;have:=Z0v l F bs E p ac O Y M I ae U T
 rw[ag]at this;simp only[YD]at this;obtain⟨rfl,rfl,rfl⟩:=this;exact⟨rfl,rfl⟩
theorem Xp (l:List Int)(row:List Bool)(p:Nat)(E:p<=row.length):p+(Lt l row p).2.1<=row.length:=by
 have:∀f n,p+(Ej l row p f n).2.1<=row.length:=by
  intro f
  induction f with
  |zero=>intro n;rw[Ej];exact E
  |succ f ih=>
   intro n;rw[Ej]
   by_cases h:row.length<p+n
   . rw[if_pos h];exact E
   . rw[if_neg h]
     cases F:Ok l ((row.drop p).take n)with
     |none=>exact ih (n+1)
     |some q=>show p+n<=row.length;omega
 exact this 15 1
theorem KZ (row:List Bool)(p N:Nat)(E:row.length=N):(text row).extract p N=text (row.drop p):=by
 apply ByteArray.ext
 simp only[ByteArray.data_extract];simp[text,List.map_drop,<-E]
 exact VV (by simp)
theorem Km (No:Nat->Prop)(B b G O E:Nat)(l:List Int)(bs:List Nat)(u:US)(w:World)(M:UIs No B w b (rowB bs E) u)(af:Good l)(ai:bs.length=E)(ao:E<=25000)(ac:u.p<=8*E)(Z:Em w G O (Fg l l.length))(al:G≠b):
 Calls Tryz.prog 98 #[.pointer (some ⟨b,0,none⟩),.map (some G)] w fun e w'=>e=.returned (.int .i64 ((uplace l (rowB bs E) u).1:Int))/\UUp No B w b (rowB bs E) (uplace l (rowB bs E) u).2 w':=by
 obtain⟨c0,c1,Y,ap⟩:=M.cell;have H:=Ab M;have ak:(text (rowB bs E)).size=8*E:=by rw[Ct,Af]
 clear M
 by_cases F:u.e=0
 . rw[F]at Y;have ar:=KZ (rowB bs E) u.p (8*E) (Af bs E);obtain⟨x,v,err,hr⟩:∃x v err,Lt l (rowB bs E) u.p=(x,v,err):=⟨_,_,_,rfl⟩
   have ae:=Xp l (rowB bs E) u.p (by rw[Af];exact ac);rw[Af,hr]at ae;simp only at ae
   have ah:=Ab (fun(W:World) (ag:Em W G O (Fg l l.length))=>Z0t l af G O bs E u.p W ai (by omega) ac ag x v err hr);have aj:=Ab Z;have I:Hid (uplace l (rowB bs E) u=(x,{u with e:=err,p:=u.p+v})):=Ab (by unfold uplace;rw[if_pos F,hr]);rw[Aa I];clear Z F I hr;generalize text ((rowB bs E).drop u.p)=S at*;generalize text (rowB bs E)=T at*;obtain⟨p,out,ks,e⟩:=u;simp only at*
   go_enter Tryz.func98,Tryz.ntmps98
   go_wp2;go_quiet ((go_at_call 126;refine Calls.quiet_of_same (Aa ah _ (Aa aj))))
   go_wp2;go_ret;have U:=(UUp.refl (Aa H)).drewN nq;have aa:=U.trans (U.is.setE err);exact⟨rfl,aa.trans (aa.is.setP (p+v))⟩
 . have I:Hid (uplace l (rowB bs E) u=(0,u)):=Ab (by unfold uplace;rw[if_neg F]);rw[Aa I];have hb:(u.e !=0)=true:=by rw[bne_iff_ne];exact F
   generalize u.e=e0 at Y hb;clear F I;go_enter Tryz.func98,Tryz.ntmps98
   go_wp2;go_ret;exact⟨rfl,UUp.refl (Aa H)⟩
theorem Gn (row:List Bool)(n:Nat)(u:US)(E:u.p<=row.length):(uget row n u).2.p<=row.length:=by
 unfold uget
 by_cases G:u.e=0
 . rw[if_pos G]
   by_cases F:row.length<u.p+n
   . rw[if_pos F];exact E
   . rw[if_neg F];show u.p+n<=row.length;omega
 . rw[if_neg G];exact E
theorem Fu (row:List Bool)(n:Nat)(u:US):(uget row n u).1<2^n:=by
 have E:0<2^n:=YQ n;unfold uget
 by_cases G:u.e=0
 . rw[if_pos G]
   by_cases F:row.length<u.p+n
   . rw[if_pos F];exact E
   . rw[if_neg F];refine VG (Jy _) (VO (by omega) ?_);simp
     omega
 . rw[if_neg G];exact E
theorem Wl (x:Int)(u:US):(Am x u).p=u.p:=by unfold Am;split<;>rfl
theorem SV (l:List Int)(row:List Bool)(u:US)(E:u.p<=row.length):(uplace l row u).2.p<=row.length:=by
 unfold uplace
 by_cases F:u.e=0
 . rw[if_pos F];exact Xp l row u.p E
 . rw[if_neg F];exact E
theorem Hm (No:Nat->Prop)(B b n:Nat)(row:List Bool)(u:US)(w:World)(G:UIs No B w b row u)(E:n<=16)(F:row.length<=200000)(H:u.p<=row.length)(r:Nat)(v:US)(I:uget row n u=(r,v)):
 Calls Tryz.prog 91 #[.pointer (some ⟨b,0,none⟩),.int .i64 (n:Int)] w fun e w'=>e=.returned (.int .i64 (r:Int))/\UUp No B w b row v w':=by
 have:=Z51 No B b n row u w G E F H
 rw[I]at this;exact this
theorem UIs.more {No No':Nat->Prop}{B b:Nat}{w:World}{row:List Bool}{u:US}(M:UIs No B w b row u)(U:¬No' b)(G:∀g,No' g->No g\/w.heap.size<=g):UIs No' B w b row u:=by
 obtain⟨ov,kv,T,I,H,O,Y,Z⟩:=M.ex;refine⟨M.base,U,ov,kv,T,I,H,O, ?_, ?_⟩
 . intro g E F
   rcases G g F with e|e
   . exact Y g E e
   . have:=(I.lt g E).2;omega
 . intro g E F
   rcases G g F with e|e
   . exact Z g E e
   . have:=(H.lt g E).2;omega
end Go.Proofs.YtleocpdblhbimaaGreatDoor
