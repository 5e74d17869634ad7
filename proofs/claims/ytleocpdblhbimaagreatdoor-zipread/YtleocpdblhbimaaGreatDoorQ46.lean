import Derived.Test.YtleocpdblhbimaaGreatDoorQ45
import Derived.Maps.Own
import Derived.Maps.OwnSet
import Derived.Maps.Views
import Derived.StringKeys
set_option linter.unusedSimpArgs false
set_option linter.unusedVariables false
set_option maxRecDepth 100000
set_option maxHeartbeats 2000000
namespace Go.Proofs.YtleocpdblhbimaaGreatDoor
open Go.RowKit Go.Maps
def kT (s:List Bool):Lit:=.string (text s).data.toList
theorem Z2q {s t:List Bool}(F:kT s=kT t):s=t:=by
 unfold kT text at F;simp only[Lit.string.injEq]at F;(have E:s.map chr=t.map chr:=by simpa using F);have G:∀a b:Bool,chr a=chr b->a=b:=by intro a b;cases a<;>cases b<;>decide
 induction s generalizing t with
 |nil=>cases t with
  |nil=>rfl
  |cons y r=>simp at E
 |cons x r ih=>cases t with
  |nil=>simp at E
  |cons y r2=>
   simp only[WQ,List.cons.injEq]at E
   rw[G x y E.1,ih (t:=r2) (by simp[E.2]) E.2]
theorem Z2p (s:List Bool):WideAt.IsKeyLit (kT s):=by first|trivial|exact⟨⟩|(unfold kT WideAt.IsKeyLit;simp)
def Fg (l:List Int):Nat->DataW Unit
 |0=>.map []
 |k+1=>if codeT l k= []then Fg l k else (Fg l k).put (kT (codeT l k)) (.lit (.int .i64 (k:Int)))
theorem Mt (l:List Int):∀k,IsMap (Fg l k)
 |0=>isMap_empty
 |k+1=>by rw[Fg];split;exact Mt l k;exact(Mt l k).put _ _
theorem DU (l:List Int)(s:List Bool)(H:s≠ []):∀k,Maps.has (Fg l k) (kT s)=decide (∃q,q<k/\codeT l q=s)
 |0=>by rw[decide_eq_false (by rintro ⟨q,h,_⟩;omega)];rfl
 |k+1=>by have ih:=DU l s H k;(have e:(∃q,q<k+1/\codeT l q=s)↔((∃q,q<k/\codeT l q=s)\/codeT l k=s):=by constructor;rintro ⟨q,M,E⟩;by_cases I:q=k;subst I;exact .inr E;exact .inl ⟨q,om,E⟩;rintro (⟨q,M,E⟩|h);exact⟨q,om,E⟩;exact⟨k,om,h⟩);rw[Fg];by_cases G:codeT l k= [];rw[if_pos G,ih,XZ];simp only[decide_eq_true_eq,e];constructor;exact .inl;rintro (h|h);exact h;rw[G]at h;exact absurd h.symm H;rw[if_neg G];by_cases F:codeT l k=s;rw[F,has_put_same (Mt l k) (Z2p s),decide_eq_true (e.2 (.inr F))];rw[has_put_other (fun h=>F (Z2q h).symm),ih,XZ];simp only[decide_eq_true_eq,e];constructor;exact .inl;rintro (h|h);exact h;exact absurd h F
theorem AG (l:List Int)(s:List Bool)(E:s≠ [])(F:∀q q',q<l.length->q'<l.length->codeT l q=s->codeT l q'=s->q=q')(G:DataW Unit):∀k,k<=l.length->∀q,q<k->codeT l q=s->(Fg l k).atKey (kT s) G=.lit (.int .i64 (q:Int))
 |0,_,q,h,_=>om
 |k+1,hk,q,h,hq=>by rw[Fg];by_cases H:codeT l k= [];rw[if_pos H];(have:q≠k:=fun e=>by subst e;rw[H]at hq;exact E hq.symm);exact AG l s E F G k om q om hq;rw[if_neg H];by_cases e:codeT l k=s;have:=F q k om om hq e;subst this;rw[e,atKey_put_same (Mt l _) (Z2p s)];rw[atKey_put_other (fun h=>e (Z2q h).symm)];(have:q≠k:=fun e2=>by subst e2;exact e hq);exact AG l s E F G k om q om hq
theorem Z8m:Keyed Tryz.prog 9:=string_keyed Tryz.underlying9
abbrev Em (w:World)(b n:Nat)(D:DataW Unit):Prop:=w.ownsMap Tryz.prog 9 (plainElem Tryz.prog 3) b n D
theorem Jm (a:Option Addr)(E ag:Nat)(l:List Int)(w:World)(al:l.length=E)(af:RowIn .i64 w a l)(H:Good l):Calls Tryz.prog 97 #[.slice a E ag] w fun e w'=>∃b n,e=.returned (.map (some b))/\w.heap.size<=b/\Em w' b n (Fg l E)/\Below w.heap.size w w':=by
 have a7:=H.len;have a6:= @run_makeMap Tryz.prog;have ap:=Ab H;go_enter Tryz.func97,Tryz.ntmps97;go_wp2_with fail;refine(Z9 a E ag l _ al (af.alloc _) H).mono ?_;rintro e ae ⟨g,rfl,M,ak,aa⟩;have ao:=Ab aa;have a4:=(aa.lt g rfl).2;have ar:Hid (Em ae w.heap.size 0 (Fg l 0)):=(World.ownsMap_made w Tryz.prog 9 (plainElem Tryz.prog 3)).kept (Sy M) oS;have a1:=Ab (((Below.refl w.heap.size w).alloc (VB _) _).trans (M.mono oS));have aw:=M.size;simp only[World.size_alloc]at aw ak;clear M aa af H;go_wp2;go_loopw [10] (fun U wr=>∃k n:Nat,k<=E/\n<=k/\U=.int .i64 (k:Int)/\Em wr w.heap.size n (Fg l k)/\ae.grownBy wr (some w.heap.size)) (fun U _=>E-(intOf U).toNat);case atStart=>exact⟨0,0,VH _,VB _,rfl,Aa ar,Aw _ _⟩
 case round=>
  obtain⟨k,n,a8,hn,rfl,Y,I⟩:=hrel;have ac:=Ab Y;have Z:=Ab I;by_cases az:k<E
  . (have a3:wr.cell? ⟨g,k,none⟩=some (.string (text (codeT l k))):=by refine I.cell ?_ oO;rw[(Aa ao).cellAt k om];simp[az]);have O:Hid (Fg l (k+1)=if codeT l k= []then Fg l k else (Fg l k).put (kT (codeT l k)) (.lit (.int .i64 (k:Int)))):=rfl;have aj:Hid (keyOf Tryz.prog 9 (.string (text (codeT l k)))=some (kT (codeT l k))):=Go.WideMaps.keyOf_string_mk Tryz.underlying9 (by rw[Ct];unfold codeT;rw[Bd];have:=(Aa ap).ok k om;unfold maxLen;omega);clear Y I;(have G:(text (codeT l k)).toList.isEmpty=(codeT l k).isEmpty:=by rw[Lib.toList_data];cases codeT l k<;>rfl);by_cases F:codeT l k= [];. rw[if_pos F]at O;(have au:(text (codeT l k)).toList.isEmpty=true:=by rw[G,F];rfl);clear G F aj;generalize text (codeT l k)=T at*;go_wp2;go_roundw;(case rel=>exact⟨k+1,n,om,om,by go_num,by rw[Aa O];exact Aa ac,Aa Z⟩);case measure=>simp[intOf];omega
    . rw[if_neg F]at O
      have au:(text (codeT l k)).toList.isEmpty=false:=by
       rw[G]
       cases e:codeT l k with
       |nil=>exact absurd e F
       |cons _ _=>rfl
      have av:(Lit.int .i64 (k:Int)).wf=true:=WalkArith.wf_i64 om;clear G F;generalize text (codeT l k)=T at*;generalize kT (codeT l k)=a5 at*;go_wp2_with (at_mapUpdate;refine wpList_mapUpdate_own _ rfl _ _ _ 161 rfl 9 3 Z8m Tryz.underlying161 _ w.heap.size n _ rfl (Aa ac) ou _ _ _ rfl rfl (Aa aj) _ [] (plainElem_int Tryz.underlying3 av) ?_);intro a2 ah ai;have ay:=Ab ah;have ax:=Ab (Aj (Aa Z) ai);clear ah ai;go_wp2;go_roundw;(case rel=>exact⟨k+1,n+1,om,om,by go_num,by rw[Aa O];exact Aa ay,Aa ax⟩);case measure=>simp[intOf];omega
  . obtain rfl:k=E:=om;clear Y I;go_wp2;go_ret;exact⟨w.heap.size,n,rfl,VB _,Aa ac,(Aa a1).grown (Aa Z) om (fun j h=>by cases h;exact VB _)⟩
theorem BS (l:List Int)(m:Nat):∀k,k<=l.length->∀i q,(Qy l m k)[i]? =some q->q<k/\l.getD q 0=(m:Int)/\cnt (l.take q) m=i
 |0,_,i,q,h=>by simp[Qy]at h
 |k+1,hk,i,q,h=>by rw[Qy]at h;have H:=Hu l m k om;by_cases hi:i<(Qy l m k).length;rw[WN hi]at h;obtain⟨a,b,c⟩:=BS l m k om i q h;exact⟨om,b,c⟩;rw[VX om]at h;by_cases e:l.getD k 0=(m:Int);rw[if_pos e]at h;(have F:i-(Qy l m k).length=0:=by by_cases E:i-(Qy l m k).length=0;exact E;obtain⟨j,G⟩:∃j,i-(Qy l m k).length=j+1:=⟨_,(Nat.succ_pred E).symm⟩;rw[G]at h;simp at h);rw[F]at h;simp at h;subst h;exact⟨om,e,om⟩;rw[if_neg e]at h;simp at h
theorem Yd (l:List Int)(G:Good l)(bs:List Nat)(p n:Nat)(O:1<=n)(T:n<=15):Hit l bs p n↔∃q,q<l.length/\codeT l q=hb (Ce bs p n) n:=by constructor;rintro ⟨a,b⟩;obtain⟨q,E⟩:=Z0b l (k:=n) (i:=Ce bs p n-Az (cnt l) n) om;obtain⟨I,F,M⟩:=BS l n l.length (VB _) _ _ E;refine⟨q,I, ?_⟩;have e:=Gh l F;unfold nxt at e;rw[if_neg om]at e;unfold codeT;rw[F,WM,e,M,show Az (cnt l) n+(Ce bs p n-Az (cnt l) n)=Ce bs p n by omega];rintro ⟨q,E,e⟩;obtain⟨m,hm⟩:=WF (G.ok q E).1;have hl:=congrArg List.length e;unfold codeT at hl e;rw[hm,WM]at hl e;rw[Bd,Bd]at hl;subst hl;obtain⟨c1,c2,H⟩:=Ig l G E hm om;have:=CX m _ _ H (Ss bs p m) e;unfold Hit;rw[<-this];exact⟨c1,c2⟩
theorem J2 (l:List Int)(F:Good l)(bs:List Nat)(p n q:Nat)(H:1<=n)(E:q<l.length)(e:codeT l q=hb (Ce bs p n) n):(Qy l n l.length)[Ce bs p n-Az (cnt l) n]? =some q:=by obtain⟨m,hm⟩:=WF (F.ok q E).1;have hl:=congrArg List.length e;unfold codeT at hl e;rw[hm,WM]at hl e;rw[Bd,Bd]at hl;subst hl;obtain⟨c1,c2,G⟩:=Ig l F E hm om;have e2:=CX m _ _ G (Ss bs p m) e;have e3:=Gh l hm;unfold nxt at e3;rw[if_neg om]at e3;rw[<-e2,show codeN l q-Az (cnt l) m=cnt (l.take q) m by omega];exact W0 l E hm
theorem MH (bs:List Nat)(E p:Nat):∀n,p+n<=8*E->((rowB bs E).drop p).take n=hb (Ce bs p n) n
 |0,_=>by simp[hb]
 |n+1,h=>by have ih:=MH bs E p n om;have H:=Af bs E;have I:=RL bs (p+n);(have G:n<((rowB bs E).drop p).length:=by rw[VQ];omega);rw[XB G,ih,Ce,hb,show (2*Ce bs p n+Z7d bs (p+n))/2=Ce bs p n by omega];congr 2;(have F:((rowB bs E).drop p)[n]=(rowB bs E).getD (p+n) false:=by rw[List.getElem_drop];simp[List.getD,show p+n<(rowB bs E).length by omega]);rw[F,Hf bs E (p+n) om,Z5m];cases Iq bs (p+n)<;>simp<;>omega
instance (l:List Int) (bs:List Nat) (p n:Nat):Decidable (Hit l bs p n):=by unfold Hit;infer_instance
theorem Z34 (w:World):(zeroValue 3).run Tryz.prog w=.ok (.int .i64 0) w:=oR
theorem KY (l:List Bool)(n:Nat):(text l).extract 0 n=text (l.take n):=by apply ByteArray.ext;simp[text,List.map_take]
theorem Z0u (l:List Int)(H:Good l)(b au:Nat)(bs:List Nat)(E p:Nat)(w:World)(a9:bs.length=E)(bq:E<=100000)(bj:p<=8*E)(ar:Em w b au (Fg l l.length)):Calls Tryz.prog 126 #[.map (some b),.string (text ((rowB bs E).drop p))] w fun e w'=>∃(x u aj:Nat) (M:Int),e=.returned (.tuple #[.int .i64 (x:Int),.int .i64 (u:Int),.int .i64 M])/\w'=w/\Ta l bs p x M aj/\aj<=8*E/\(M=0->aj=p+u)/\(M≠0->u=0):=by
 have bk:=Ab H;have bd:=Ab ar;have ap:=Ab a9;(have bm:(text ((rowB bs E).drop p)).size=8*E-p:=by rw[Ct,VQ,Af]);(have U:Hid (∀n,p+n<=8*E->(text ((rowB bs E).drop p)).extract 0 n=text (hb (Ce bs p n) n)):=fun n h=>by rw[KY,MH bs E p n h]);have aa:Hid (∀n,n<=15->keyOf Tryz.prog 9 (.string (text (hb (Ce bs p n) n)))=some (kT (hb (Ce bs p n) n))):=fun n h=>WideMaps.keyOf_string_mk Tryz.underlying9 (by rw[Ct,Bd];unfold maxLen;omega);(have Y:Hid (∀n,1<=n->n<=15->Maps.has (Fg l l.length) (kT (hb (Ce bs p n) n))=decide (Hit l bs p n)):=fun n I O=>by rw[DU l _ (fun e=>by have:=congrArg List.length e;rw[Bd]at this;simp at this;omega)];rw[XZ];simp only[decide_eq_true_eq];exact(Yd l H bs p n I O).symm);(have Z:Hid (∀n,1<=n->n<=15->Hit l bs p n->∃q:Nat,(Qy l n l.length)[Ce bs p n-Az (cnt l) n]? =some q/\(Fg l l.length).atKey (kT (hb (Ce bs p n) n)) (.lit (.int .i64 0))=.lit (.int .i64 (q:Int))):=fun n I O F=>by obtain⟨q,ax,e⟩:=(Yd l H bs p n I O).1 F;(have av:hb (Ce bs p n) n≠ []:=fun e=>by have:=congrArg List.length e;rw[Bd]at this;simp at this;omega);exact⟨q,J2 l H bs p n q I ax e,AG l _ av (Sr l H _ av) _ l.length (VB _) q ax e⟩);clear H ar;generalize text ((rowB bs E).drop p)=T at*;generalize Fg l l.length=D at*;go_enter Tryz.func126,Tryz.ntmps126;go_wp2;go_loop [7] (fun ac=>∃k:Nat,k<=15/\ac=.int .i64 ((k:Int)+1)/\p+k<=8*E/\∀j,1<=j->j<=k->¬Hit l bs p j) (fun ac=>16-(intOf ac).toNat);case atStart=>exact⟨0,om,rfl,om,fun j I O=>om⟩
 case round=>
  obtain⟨k,bu,rfl,af,a3⟩:=hrel;have G:=Ab a3;clear a3;by_cases bg:k<15
  . by_cases bi:p+k=8*E;. have bf:((8*E-p:Nat):Int)<(k:Int)+1:=om;have ag:Hid (Ta l bs p 0 7 (p+k)):=.inr (.inl ⟨k,bg,Aa G,by rw[Aa ap];exact bi,rfl,rfl,rfl⟩);clear U aa Y Z G;go_wp2;go_ret3;exact⟨0,0,p+k,7,rfl,rfl,Aa ag,af,(fun h=>by cases h),fun _=>rfl⟩
    . have bf:¬((8*E-p:Nat):Int)<(k:Int)+1:=om;have a5:=Aa U (k+1) om;have ay:=Aa aa (k+1) om;have a1:=Aa Y (k+1) om om;have a6:=Ab a5;have bc:=Ab ay;have ak:=Ab a1;have ai:=Ab (Aa Z (k+1) om om);have al:Hid (¬Hit l bs p (k+1)->∀j,1<=j->j<=k+1->¬Hit l bs p j):=fun F j ao ba=>by by_cases e:j=k+1;rw[e];exact F;exact Aa G j ao om
      have ah:Hid (∀x,Hit l bs p (k+1)->(Qy l (k+1) l.length)[Ce bs p (k+1)-Az (cnt l) (k+1)]? =some x->Ta l bs p x 0 (p+(k+1))):=fun x F a7=>
       .inl ⟨k+1,om,om,fun j ao ba=>Aa G j ao om,by rw[Aa ap];omega,F,rfl,rfl,a7⟩
      have aw:p+(k+1)<=8*E:=om;clear a5 ay a1 U aa Y Z G;generalize text (hb (Ce bs p (k+1)) (k+1))=S at*;generalize kT (hb (Ce bs p (k+1)) (k+1))=bn at*;have bo:(k:Int)+1<=((8*E-p:Nat):Int):=om;have hex:T.extract 0 (k+1)=S:=Aa a6;go_wp2_with (at_lookup;refine wpList_lookup_own_ok_int _ rfl _ _ 161 rfl 9 3 .i64 Z8m Tryz.underlying161 Tryz.underlying3 (Z34 _) b au D rfl (Aa bd) _ _ rfl (Aa bc) ?_);intro c a2 a8;have ae:=Ab a2;clear a2 a8;rw[Aa ak];by_cases F:Hit l bs p (k+1);(. obtain⟨q,a4,az⟩:=Aa ai F;(have hc:c=(q:Int):=by have:=(Aa ae).symm.trans az;simpa using this);have bh:=Ab (Aa ah q F a4);rw[decide_eq_true F];subst hc;clear F a4 az ah al ai ak ae;go_wp2;go_ret3;exact⟨q,k+1,p+(k+1),0,rfl,rfl,Aa bh,aw,fun _=>rfl,fun h=>absurd rfl h⟩);. have bb:=Ab (Aa al F);rw[decide_eq_false F];clear F ah al ai ak ae;go_wp2;go_round;(case rel=>exact⟨k+1,om,by go_num,aw,Aa bb⟩);case measure=>simp[intOf];omega
  . obtain rfl:k=15:=om;have ag:Hid (Ta l bs p 0 8 (p+15)):=.inr (.inr ⟨Aa G,by rw[Aa ap];exact af,rfl,rfl,rfl⟩);clear U aa Y Z G;go_wp2;go_ret3;exact⟨0,0,p+15,8,rfl,rfl,Aa ag,af,(fun h=>by cases h),fun _=>rfl⟩
open Go.RowKit
theorem UIs.rows {No:Nat->Prop}{B b:Nat}{w:World}{row:List Bool}{u:US}(G:UIs No B w b row u):∃ov kv,w.cell? ⟨b,2,none⟩=some ov/\w.cell? ⟨b,3,none⟩=some kv/\w.heap[b]? =some (.cells (ucells row u ov kv) 110 (0,0))/\w.ownsRow (b+1) 5 1 ov u.out.length (u8s u.out)/\w.ownsRow (b+1) 3 1 kv u.ks.length (i64s u.ks)/\(ov.ownBlock=none\/ov.ownBlock≠kv.ownBlock)/\(∀g,ov.ownBlock=some g->¬No g)/\(∀g,kv.ownBlock=some g->¬No g):=by obtain⟨ov,kv,E,F⟩:=G.ex;exact⟨ov,kv,Ac E,Ac E,E,F⟩
theorem S8 (No:Nat->Prop)(B b c:Nat)(row:List Bool)(u:US)(w:World)(E:UIs No B w b row u)(a8:u.out.length<=3000)(ap:∀g,w.heap.size<=g->¬No g):Calls Tryz.prog 93 #[.pointer (some ⟨b,0,none⟩),.int .u8 (c:Int)] w fun e w'=>e=.returned (.tuple #[])/\UUp No B w b row (Fd c u) w':=by
 obtain⟨bj,hi,a3,bd,bf⟩:=info_parts Gz;obtain⟨c0,c1,au,bu⟩:=E.cell;obtain⟨ov,kv,c2,bi,aa,I,Y,ah,ae,af⟩:=E.rows;have H:=Ab E;have a6:=E.lt;have a2:=E.base;have ax:=E.no;clear E;by_cases M:u.e=0
 . rw[M]at au;by_cases hl:u.out.length=3000;. have O:Hid (Fd c u= {u with e:=2}):=Ab (by unfold Fd;rw[if_pos M,if_pos hl]);obtain⟨a,cc,rfl⟩:=An I;rw[hl]at c2;rw[Aa O];clear I Y aa O M ae af ah;go_enter Tryz.func93,Tryz.ntmps93;go_wp2;go_end0;exact⟨rfl,(Aa H).setE 2⟩
   . have O:Hid (Fd c u= {u with out:=u.out++ [c]}):=Ab (by unfold Fd;rw[if_pos M,if_neg hl]);obtain⟨L,ak⟩:=exq (u.out.length);rw[ak]at hl a8 I;have a5:=Ab ak;obtain⟨a,cc,a9⟩:=An I;(have bn:((L:Int)==3000)=false:=by rw[beq_eq_false_iff_ne];omega);have av:=Ab I;have Z:=Ab Y;have az:=Ab aa;have aw:=Ab ah;have al:=Ab ae;have ba:=Ab af;have bk:=Ab ap
     have bg:Hid (ov.ownBlock=none\/ov.ownBlock≠some b):=by
      cases U:ov.ownBlock with
      |none=>exact .inl rfl
      |some g=>refine .inr (fun e=> ?_);have:=(I.lt g U).1;cases e;omega
     subst a9;rw[Aa O];clear I Y aa O M ae af ah ak ap;go_enter Tryz.func93,Tryz.ntmps93;go_wp2_with (at_builtin;refine wpList_append_own_at _ rfl _ _ 23 rfl (b+1) 5 bj (.int .u8 0) 1 1 Tryz.underlying23 hi a3 bd bf rfl od _ L (u8s u.out) rfl ((Aa av).alloc _) ⟨w.heap.size,0,none⟩ 1 1 [.int .u8 (c:Int)] rfl rfl (cell_one_new _ _ _) (Bc rfl) ou om oO ?_);intro v' w3 ac T _ aj;obtain⟨bo,bq,bc,_,_⟩:=Ba ac om;(have ai:w3.heap[b]? =some (.cells (ucells row u (.slice a L cc) kv) 110 (0,0)):=by rw[T.block b oO (fun e=>by rcases Aa bg with E|E;rw[E]at e;cases e;exact E e.symm)];exact(Below.heap_alloc w _ b a6).trans (Aa az));(have ag:∀g,g<w.heap.size->(Value.slice a L cc).ownBlock≠some g->w3.heap[g]? =w.heap[g]? :=fun g F a1=>by rw[T.block g oO (fun e=>a1 e.symm)];exact Below.heap_alloc w _ g F);have bm:w3.cell? ⟨b,2,none⟩=some (.slice a L cc):=Ac ai;have f2:=frozen_of_row w3 b 2 _ _ ai;have ar:=T.size
     have ay:Hid (UUp No B w b row {u with out:=u.out++ [c]} (w3.setCell ⟨b,2,none⟩ v')):=by
      have G:=Ad w3 b 2 v';simp only[World.size_alloc]at ar
      have bb:v'.ownBlock=none\/v'.ownBlock≠some b:=by
       cases U:v'.ownBlock with
       |none=>exact .inl rfl
       |some g=>refine .inr (fun e=> ?_);have:=(ac.lt g U).1;cases e;omega
      have bh:w3.ownsRow (b+1) 3 1 kv u.ks.length (i64s u.ks):=Au (Aa Z) (fun g F=>ag g ((Aa Z).lt g F).2 (fun e=>by
       rcases Aa aw with E|E
       . rw[E]at e;cases e
       . exact E (by rw[F];exact e)))
      have a4:kv.ownBlock=none\/kv.ownBlock≠some b:=by
       cases U:kv.ownBlock with
       |none=>exact .inl rfl
       |some g=>refine .inr (fun e=> ?_);have:=((Aa Z).lt g U).1;cases e;omega
      refine⟨⟨a2,ax,v',kv, ?_, ?_,bh.kept G a4, ?_, ?_,Aa ba⟩, ?_, ?_⟩;rw[heap_setCell_same w3 b 2 _ _ _ ai];rfl;have:=ac.kept G bb;show (w3.setCell ⟨b,2,none⟩ v').ownsRow (b+1) 5 1 v' (u.out++ [c]).length (u8s (u.out++ [c]));rw[Wx,VE,Aa a5];exact this;rcases aj with E|E;rw[E];exact Aa aw;refine .inr (fun e=> ?_);rw[E]at e;have:=((Aa Z).lt _ e.symm).2;omega;intro g F;rcases aj with E|E;exact Aa al g (by rw[<-E];exact F);rw[E]at F;have:=VM F;exact Aa bk g om;refine⟨G.os.trans (T.os.trans rfl),G.tape.trans (T.tape.trans rfl),G.output.trans (T.output.trans rfl),by have:=G.size;omega, ?_⟩;intro g F;rw[G.block g om (fun e=>by simp at e;omega),ag g om (fun e=>by have:=((Aa av).lt g e).1;omega)];intro g a7 ao;rw[G.block g om (fun e=>by simp at e;subst e;exact ax ao),ag g a7 (fun e=>Aa al g e ao)]
     subst bc;clear ac T aj ai ag ar;go_wp2;go_end0;exact⟨rfl,Aa ay⟩
 . have O:Hid (Fd c u=u):=Ab (by unfold Fd;rw[if_neg M]);(have hb:(u.e==0)=false:=by rw[beq_eq_false_iff_ne];exact M);rw[Aa O];generalize u.e=e0 at au hb;clear M O I Y aa ae af ah c2 bi;go_enter Tryz.func93,Tryz.ntmps93;go_wp2;go_end0;exact⟨rfl,UUp.refl (Aa H)⟩
theorem Mm (l:List Int)(H:Good l)(bs:List Nat)(F p n:Nat)(ae:bs.length=F)(I:1<=n)(O:n<=15)(U:p+n<=8*F):(¬Hit l bs p n->Ok l (((rowB bs F).drop p).take n)=none)/\(∀x,Hit l bs p n->(Qy l n l.length)[Ce bs p n-Az (cnt l) n]? =some x->Ok l (((rowB bs F).drop p).take n)=some x):=by
 rw[MH bs F p n U];(have aa:hb (Ce bs p n) n≠ []:=fun e=>by have:=congrArg List.length e;rw[Bd]at this;simp at this;omega);constructor;intro M;unfold Ok;rw[List.find?_eq_none];intro q E;simp only[decide_eq_true_eq];intro e;exact M ((Yd l H bs p n I O).2 ⟨q,by simpa using E,e⟩)
 . intro x M Y;obtain⟨q,E,e⟩:=(Yd l H bs p n I O).1 M;(have ac:x=q:=by have:=J2 l H bs p n q I E e;rw[Y]at this;exact VM this);subst ac;unfold Ok
   cases G:(List.range l.length).find? (fun q=>decide (codeT l q=hb (Ce bs p n) n))with
   |none=>rw[List.find?_eq_none]at G;exact absurd (by simpa using e) (G x (by simpa using E))
   |some y=>have T:=List.find?_some G;have Z:=List.mem_of_find?_eq_some G;simp only[decide_eq_true_eq]at T;rw[Sr l H _ aa y x (by simpa using Z) E T e]
theorem Z0v (l:List Int)(T:Good l)(bs:List Nat)(E p x u U:Nat)(O:Int)(G:bs.length=E)(Z:Ta l bs p x O U)(ae:O=0->U=p+u)(Y:O≠0->u=0):Lt l (rowB bs E) p=(x,u,O):=by have af:=Af bs E;unfold Lt;(rcases Z with ⟨k,k1,ac,I,H,hit,rfl,rfl,aa⟩|⟨k,ac,I,H,rfl,rfl,rfl⟩|⟨I,H,rfl,rfl,rfl⟩);rw[G]at H;have ag:=ae rfl;obtain rfl:u=k:=om;obtain⟨m,rfl⟩:∃m,u=m+1:=⟨u-1,om⟩;have:=Pc l (rowB bs E) p m (15-m) (fun j F M=>⟨om,(Mm l T bs E p j G F om om).1 (I j F om)⟩) 1 om;rw[show m+(15-m)=15 by omega]at this;rw[this,show 15-m=(14-m)+1 by omega,Ej,show 1+m=m+1 by omega,if_neg om,(Mm l T bs E p (m+1) G om om H).2 x hit aa];rw[G]at H;obtain rfl:=Y od;have:=Pc l (rowB bs E) p k (15-k) (fun j F M=>⟨om,(Mm l T bs E p j G F om om).1 (I j F M)⟩) 1 om;rw[show k+(15-k)=15 by omega]at this;rw[this,show 15-k=(14-k)+1 by omega,Ej,if_pos om];rw[G]at H;obtain rfl:=Y od;have:=Pc l (rowB bs E) p 15 0 (fun j F M=>⟨om,(Mm l T bs E p j G F om om).1 (I j F M)⟩) 1 om;rw[this,Ej]
theorem Z0t (l:List Int)(I:Good l)(b H:Nat)(bs:List Nat)(E p:Nat)(w:World)(F:bs.length=E)(ae:E<=100000)(T:p<=8*E)(M:Em w b H (Fg l l.length))(x u:Nat)(G:Int)(Z:Lt l (rowB bs E) p=(x,u,G)):Calls Tryz.prog 126 #[.map (some b),.string (text ((rowB bs E).drop p))] w fun e w'=>e=.returned (.tuple #[.int .i64 (x:Int),.int .i64 (u:Int),.int .i64 G])/\w'=w:=by refine(Z0u l I b H bs E p w F ae T M).mono ?_;rintro e w' ⟨ag,aa,O,af,rfl,rfl,U,_,ac,Y⟩;have:=Z0v l I bs E p ag aa O af F U ac Y;rw[Z]at this;simp only[YD]at this;obtain⟨rfl,rfl,rfl⟩:=this;exact⟨rfl,rfl⟩
theorem Xp (l:List Int)(row:List Bool)(p:Nat)(E:p<=row.length):p+(Lt l row p).2.1<=row.length:=by
 have:∀f n,p+(Ej l row p f n).2.1<=row.length:=by
  intro f
  induction f with
  |zero=>intro n;rw[Ej];exact E
  |succ f ih=>
   intro n;rw[Ej];by_cases h:row.length<p+n;rw[if_pos h];exact E
   . rw[if_neg h]
     cases F:Ok l ((row.drop p).take n)with
     |none=>exact ih (n+1)
     |some q=>show p+n<=row.length;omega
 exact this 15 1
theorem KZ (row:List Bool)(p N:Nat)(E:row.length=N):(text row).extract p N=text (row.drop p):=by apply ByteArray.ext;simp only[ByteArray.data_extract];simp[text,List.map_drop,<-E];exact VV oS
theorem Km (No:Nat->Prop)(B b G M E:Nat)(l:List Int)(bs:List Nat)(u:US)(w:World)(O:UIs No B w b (rowB bs E) u)(ag:Good l)(af:bs.length=E)(ar:E<=25000)(Z:u.p<=8*E)(U:Em w G M (Fg l l.length))(ak:G≠b):Calls Tryz.prog 98 #[.pointer (some ⟨b,0,none⟩),.map (some G)] w fun e w'=>e=.returned (.int .i64 ((uplace l (rowB bs E) u).1:Int))/\UUp No B w b (rowB bs E) (uplace l (rowB bs E) u).2 w':=by obtain⟨c0,c1,ae,ap⟩:=O.cell;have H:=Ab O;(have ao:(text (rowB bs E)).size=8*E:=by rw[Ct,Af]);clear O;by_cases F:u.e=0;(. rw[F]at ae;have al:=KZ (rowB bs E) u.p (8*E) (Af bs E);obtain⟨x,v,err,hr⟩:∃x v err,Lt l (rowB bs E) u.p=(x,v,err):=⟨_,_,_,rfl⟩;have Y:=Xp l (rowB bs E) u.p (by rw[Af];exact Z);rw[Af,hr]at Y;simp only at Y;have ai:=Ab (fun(W:World) (ah:Em W G M (Fg l l.length))=>Z0t l ag G M bs E u.p W af om Z ah x v err hr);have aj:=Ab U;have I:Hid (uplace l (rowB bs E) u=(x,{u with e:=err,p:=u.p+v})):=Ab (by unfold uplace;rw[if_pos F,hr]);rw[Aa I];clear U F I hr;generalize text ((rowB bs E).drop u.p)=S at*;generalize text (rowB bs E)=T at*;obtain⟨p,out,ks,e⟩:=u;simp only at*;go_enter Tryz.func98,Tryz.ntmps98;go_wp2;go_quiet ((go_at_call 126;refine Calls.quiet_of_same (Aa ai _ (Aa aj))));go_wp2;go_ret;have ac:=(UUp.refl (Aa H)).drewN nq;have aa:=ac.trans (ac.is.setE err);exact⟨rfl,aa.trans (aa.is.setP (p+v))⟩);. have I:Hid (uplace l (rowB bs E) u=(0,u)):=Ab (by unfold uplace;rw[if_neg F]);rw[Aa I];(have hb:(u.e !=0)=true:=by rw[bne_iff_ne];exact F);generalize u.e=e0 at ae hb;clear F I;go_enter Tryz.func98,Tryz.ntmps98;go_wp2;go_ret;exact⟨rfl,UUp.refl (Aa H)⟩
open Go.RowKit
theorem Gn (row:List Bool)(n:Nat)(u:US)(F:u.p<=row.length):(uget row n u).2.p<=row.length:=by unfold uget;by_cases G:u.e=0;rw[if_pos G];by_cases E:row.length<u.p+n;rw[if_pos E];exact F;rw[if_neg E];show u.p+n<=row.length;omega;rw[if_neg G];exact F
theorem Fu (row:List Bool)(n:Nat)(u:US):(uget row n u).1<2^n:=by have E:0<2^n:=YQ n;unfold uget;by_cases G:u.e=0;rw[if_pos G];by_cases F:row.length<u.p+n;rw[if_pos F];exact E;rw[if_neg F];refine VG (Jy _) (VO om ?_);simp;omega;rw[if_neg G];exact E
theorem Wl (x:Int)(u:US):(Am x u).p=u.p:=by unfold Am;split<;>rfl
theorem SV (l:List Int)(row:List Bool)(u:US)(E:u.p<=row.length):(uplace l row u).2.p<=row.length:=by unfold uplace;by_cases F:u.e=0;rw[if_pos F];exact Xp l row u.p E;rw[if_neg F];exact E
theorem Hm (No:Nat->Prop)(B b n:Nat)(row:List Bool)(u:US)(w:World)(I:UIs No B w b row u)(E:n<=16)(H:row.length<=200000)(F:u.p<=row.length)(r:Nat)(v:US)(G:uget row n u=(r,v)):Calls Tryz.prog 91 #[.pointer (some ⟨b,0,none⟩),.int .i64 (n:Int)] w fun e w'=>e=.returned (.int .i64 (r:Int))/\UUp No B w b row v w':=by have:=Z51 No B b n row u w I E H F;rw[G]at this;exact this
theorem UIs.more {No No':Nat->Prop}{B b:Nat}{w:World}{row:List Bool}{u:US}(M:UIs No B w b row u)(Y:¬No' b)(I:∀g,No' g->No g\/w.heap.size<=g):UIs No' B w b row u:=by obtain⟨ov,kv,T,G,H,O,Z,U⟩:=M.ex;refine⟨M.base,Y,ov,kv,T,G,H,O, ?_, ?_⟩;intro g E F;rcases I g F with e|e;exact Z g E e;have:=(G.lt g E).2;omega;intro g E F;rcases I g F with e|e;exact U g E e;have:=(H.lt g E).2;omega
end Go.Proofs.YtleocpdblhbimaaGreatDoor
