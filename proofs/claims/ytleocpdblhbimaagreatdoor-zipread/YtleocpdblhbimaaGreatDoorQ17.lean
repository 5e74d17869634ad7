import Derived.Test.YtleocpdblhbimaaGreatDoorQ10
import Derived.Test.YtleocpdblhbimaaGreatDoorQ16
import Derived.Maps.Own
import Derived.Maps.OwnSet
import Derived.WideKeyPair
import Derived.Deep.DeepCutAuto
import Derived.Deep.WholeRow
import Derived.Laws.ResultCell
set_option linter.unusedSimpArgs false
set_option linter.unusedVariables false
set_option maxRecDepth 100000
set_option maxHeartbeats 4000000
namespace Go.Proofs.YtleocpdblhbimaaGreatDoor
open Go.RowKit
structure RdK (bs:List Nat)(es:List Ev)(ok:Bool):Prop where
 few:es.length<=12
 by_:∀x∈es,x.e.f.bytes.length<=12000
 no:ok=false->readE bs=7
 torn:errM ((es.map Ev.e).map En.f)≠0->readE bs=7
 sum:ok=true->errM ((es.map Ev.e).map En.f)=0->sumsF (es.map Ev.e)=false->readE bs=10
 yes:ok=true->errM ((es.map Ev.e).map En.f)=0->sumsF (es.map Ev.e)=true->readE bs=0/\readL bs=(es.map Ev.e).map En.f
theorem EnD.ways {w w':World}{bs:List Nat}{e:Ending}(H:EnD w bs e w')(ae:bs.length<=12000)(U:∀x∈bs,x<256):Below w.heap.size w w'/\∃es ad c ok,e=.returned (.tuple #[.slice ad es.length c,.bool ok])/\RsIn w' ad es/\RdK bs es ok:=by
 obtain⟨ac,H⟩:=H;obtain⟨M,af⟩:=Z07 bs ae U;refine⟨ac, ?_⟩
 rcases H with ⟨F,rfl⟩|⟨es,ad,c,F,rfl,aa⟩
 . have T:readE bs=7:=by rw[<-M];unfold Kf;rw[F]
   exact⟨[],none,0,false,rfl,⟨.inl rfl,fun x E=>by cases E⟩,VH _,(fun x E=>by cases E),fun _=>T,fun _=>T,(fun e=>by cases e),(fun e=>by cases e)⟩
 . have I:=DJ U F;have G:readE bs=if errM ((es.map Ev.e).map En.f)≠0\/Be (es.map Ev.e)≠bs then 7 else if sumsF (es.map Ev.e)=false then 10 else 0:=by rw[<-M];unfold Kf;rw[F]
   refine⟨es,ad,c,_,rfl,aa,by simpa using I.1,fun x E=> ?_,fun e=> ?_,fun e=> ?_,fun e e2 e3=> ?_,fun e e2 e3=> ?_⟩
   . have ag:=(I.2 x.e (XV E)).ok.un;have Y:=BC (m:=x.e.meth) (pk:=x.e.pk) (ys:=n8 x.e.f.bytes) (by have:=(I.2 x.e (XV E)).pl;omega) (by rw[Le];exact ag);rw[Da]at Y;exact Y
   . rw[beq_eq_false_iff_ne]at e;rw[G,if_pos (.inr e)]
   . rw[G,if_pos (.inl e)]
   . have O:=eq_of_beq e;rw[G,if_neg (by rintro (k|k);exact k e2;exact k O),if_pos e3]
   . have O:=eq_of_beq e;have Z:readE bs=0:=by rw[G,if_neg (by rintro (k|k);exact k e2;exact k O),if_neg (by rw[e3];decide)]
     refine⟨Z, ?_⟩;rw[<-af];unfold Vb;rw[if_neg (by rw[M,Z];decide),F];rfl
theorem Qw (a:Option Addr)(n af:Nat)(bs:List Nat)(w:World)(cj:bs.length=n)(dl:n<=12000)(da:n<=af)(bv:PkIn w a af bs)(a1:∀x∈bs,x<256)(bq:UnC True):
 Calls Tryz.prog 16 #[.slice a n af] w fun e w'=>RdA w bs e w':=by
 have cq:=Ab (Z4 a n af bs w cj dl da bv a1 True (.inl trivial) bq);have a5:Hid (bs.length<=12000/\∀x∈bs,x<256):=Ab ⟨by omega,a1⟩;clear bv a1 bq cj;go_enter Tryz.func16,Tryz.ntmps16
 go_wp2_with fail
 refine(Aa cq).mono ?_;rintro e H cu;obtain⟨b8,es,ad,c,ok,rfl,ce,hK⟩:=cu.ways (Aa a5).1 (Aa a5).2;obtain⟨F,ba⟩:=exq (es.length);rw[ba];obtain⟨aj,ak⟩:=exq (sumsF (es.map Ev.e));have dn:F<=12:=by have:=hK.few;omega
 have bf:=Ab ce;have ac:=Ab hK;have T:=Ab ba;have ax:=Ab b8;have bb:=Ab ak;clear cu b8 ce hK ba ak cq a5;go_wp2;go_loopw [6,7,9,17] (fun cz c7 _ i wr=>∃(k:Nat) (S:Bool),k<=F/\i=.int .i64 (k:Int)/\c7=.bool S/\Hid ((S&&sumsF ((es.map Ev.e).drop k))=aj)/\Hid (GR wr H.heap.size cz (es.take k))/\Hid (Below H.heap.size H wr)) (fun _ _ _ i _=>F-(intOf i).toNat)
 case atStart=>exact⟨0,true,VH _,rfl,rfl,Ab (by rw[ZF];exact Aa bb),Ab (GR.nil _ _),Ab (Below.refl _ _)⟩
 case round=>
  obtain⟨k,S,dp,rfl,rfl,au,ae,Z⟩:=hrel
  by_cases db:k<F
  . obtain⟨x,aw,bh⟩:∃x,es[k]? =some x/\x∈es:=⟨es[k]'(by rw[Aa T];exact db),VP _,WK _⟩
    obtain⟨b,o,rfl,hb,c0,c1,c2,dc,c8,dh,c6,df⟩:=(Aa bf).get (Aa Z) aw;have ct:=(Aa Z).size;have ah:=((Aa bf).all x bh).1;have M:=A6 (l:=es.map Ev.e) (k:=k) (x:=x.e) (by simp[aw]);have O:=fun(W:World) (U:Below H.heap.size H W)=>QF 0 x.fa x.e.f.bytes.length x.fc (n8 x.e.f.bytes) W (Da _) ((Aa ac).by_ x bh) (by decide) (ah.below U).fb.1 (Er (Lv _))
    have bu:=Ab (Eu aw);have bn:=Ab (fun o1 o2:Obj=>(ah.below ((Aa Z).trans ((Below.refl H.heap.size wr).alloc ct o1))).below ((Below.refl _ _).alloc (VB _) o2));have a3:∀g,some g=u6.ownBlock->H.heap.size<=g/\g<wr.heap.size:=fun g e=>(Aa ae).own.lt g e.symm
    have bw:Hid (x.lies (fun g=>some g≠u6.ownBlock)):=Ab (ah.lt.mono (fun g ay e=>by have:=(a3 g e).1;omega));have cg:=Ab (fun o1 o2:Obj=>((Aa ae).below ((Below.refl _ _).alloc (VB _) o1)).below ((Below.refl _ _).alloc (VB _) o2));have ci:=Ab (fun o1 o2:Obj=>((Aa Z).alloc ct o1).alloc (by simp;omega) o2);have cd:Hid ((es.take k).length+1<=100000):=Ab (by rw[VL];omega)
    have cm:Hid (∀o1 o2,o2=Obj.cells x.fv.cells.toArray 30->∀j u,x.fv.cells[j]? =some u->((wr.alloc o1).alloc o2).cell? ⟨wr.heap.size+1,j,none⟩=some u):=Ab (fun o1 o2 e j u cw=>by
     subst e;have cn:=heap_alloc_new (wr.alloc o1) (.cells x.fv.cells.toArray 30);simp only[World.size_alloc]at cn;rw[Ac cn];simpa using cw)
    have bo:Hid (∀(o1 o2:Obj) (w3:World),((wr.alloc o1).alloc o2).grownBy w3 u6.ownBlock->w3.heap[wr.heap.size]? =some o1/\wr.heap.size<w3.heap.size):=Ab (fun o1 o2 w3 ay=>by
     have dj:=ay.block wr.heap.size (by simp;omega) (fun e=>by have:=(a3 _ e).2;omega);rw[dj];refine⟨?_,VG (by simp;omega) ay.size⟩;have cy:=((Below.refl (wr.alloc o1).heap.size (wr.alloc o1)).alloc (VB _) o2).block wr.heap.size (by simp);rw[cy];exact heap_alloc_new wr o1)
    have b0:=Ab M;have cv:=Ab O;clear aw bh ah a3 M O;go_wp2_with (at_builtin;refine Ij _ rfl _ _ rfl H.heap.size _ (es.take k) rfl (Aa cg _ _) (wr.heap.size+1) x rfl (Aa cm _ _ rfl) (Aa bn _ _) (Aa bw) (Aa cd) (by simp;omega) ?_)
    intro v' w3 b4 b7 Y;have bi:Hid (GR w3 H.heap.size v' (es.take (k+1))):=Ab (by rw[Aa bu];exact Aa b4);have G:=Ab ((Aa ci _ _).trans (Aa Y));obtain⟨a8,bm⟩:=Aa bo _ _ _ (Aa b7);have ar:=Ac (i:=1) a8;have av:=Ac (i:=7) a8;simp only[VZ,VY,WI]at ar av;have M:=Aa b0;obtain⟨m,hm⟩:=exq (crcN 0 (n8 x.e.f.bytes));have O:=Aa cv;rw[hm]at M O;generalize x.e.f.bytes.length=bl at ar O;generalize x.e.crc=cr at av M;have k1:∀W:World,Below w3.heap.size w3 W->W.cell? ⟨wr.heap.size,1,none⟩=some (.slice x.fa bl x.fc):=fun W U=>(U.cell (p:=⟨wr.heap.size,1,none⟩) bm).trans ar
    have b5:∀W:World,Below w3.heap.size w3 W->W.cell? ⟨wr.heap.size,7,none⟩=some (.int .u32 (cr:Int)):=fun W U=>(U.cell (p:=⟨wr.heap.size,7,none⟩) bm).trans av
    have bk:=Ab (fun(W:World) (U:Below w3.heap.size w3 W)=>O W ((Aa G).trans (U.mono (by have:=(Aa G).size;omega))));have ck:=(Aa G).size;have bg:=Aa au;rw[M]at bg;have al:=Ab bg;clear b4 Y b7 a8 M O hm bg c0 c1 c2 dc c8 dh c6 df au ae Z cg ci bn bw cd cm bo b0 cv bu ar av
    cases S with
    |true=>
     obtain⟨b9,di⟩:=exq (((m:Int)==(cr:Int)))
     have a4:Hid ((b9&&sumsF ((es.map Ev.e).drop (k+1)))=aj):=Ab (by
      have h:=Aa al;rw[ZF]at h;rw[<-h,<-di]
      congr 1
      by_cases e:cr=m
      . subst e;rw[decide_eq_true rfl,beq_self_eq_true]
      . rw[decide_eq_false e,beq_eq_false_iff_ne];omega)
     clear al;go_wp2;go_region_held3 (fun W=>Below w3.heap.size w3 W) (first|exact Ea (Below.refl _ _)|exact ap) ((go_at_call 12;refine(Aa bk _ (Ea (Below.refl _ _))).mono ?_;rintro e c9 ⟨rfl,co⟩;have ap:Below w3.heap.size w3 c9:=(by rw[co];exact Ea (Below.refl _ _));clear co))
     all_goals
      have a9:=Ab ((Aa bi).below ap);have az:=Ab ((Aa G).trans (ap.mono ck));clear k1 b5 bk bi G ap
      try go_wp2
      go_roundw
      case rel=>exact⟨k+1,b9,by omega,by go_num,rfl,a4,a9,az⟩
      case measure=>simp[intOf];omega
    |false=>
     have a4:Hid ((false&&sumsF ((es.map Ev.e).drop (k+1)))=aj):=Ab (by
      have h:=Aa al;rw[Bool.false_and]at h ⊢;exact h)
     clear al k1 b5 bk;go_wp2;go_region
     all_goals
      have a9:=Ab ((Aa bi).below (Ea (Below.refl _ _)));have az:=Ab ((Aa G).trans ((Ea (Below.refl _ _)).mono ck))
      try go_wp2
      go_roundw
      case rel=>exact⟨k+1,false,by omega,by go_num,rfl,a4,a9,az⟩
      case measure=>simp[intOf];omega
  . obtain rfl:F=k:=by omega
    have ai:es.take F=es:=VV (by rw[Aa T];exact VB _);have cp:(es.map Ev.e).drop F= []:=XQ (by simp[Aa T]);have ak:S=aj:=by have:=Aa au;rw[cp]at this;rw[<-this];cases S<;>rfl
    obtain⟨ao,c2,bz,aa⟩:=(Aa ae).files (by rw[ai,Aa T];omega);rw[ai]at aa;rw[ai,Aa T]at bz;subst ak bz;have dd:(es.map Ev.fv).length=F:=by simpa using Aa T
    have a6:=Ab ((Aa ax).trans ((Aa Z).mono (Aa ax).size));have bj:=Ab aa;clear ai cp au ae ax bf
    cases ok with
    |false=>
     have I:=Ab (RdA.bad (w:=w) (w':=wr) (bs:=bs) (k:=7) ((Aa ac).no rfl) (by decide) (Aa a6));clear bj aa;go_wp2;go_ret2;exact Aa I
    |true=>
     have a7:=Ab (Tw ao c2 (es.map Ev.fv) wr aa F dd);obtain⟨E,ag⟩:=exq (errM (fls (es.map Ev.fv)));rw[ag]at a7;rw[DA]at ag;have a2:=Ab ag;clear aa ag;go_wp2_with fail
     refine(Aa a7).mono ?_;rintro e w3 ⟨rfl,Y⟩;have c5:=Ab ((Aa bj).below Y (VB _));have G:=Ab ((Aa a6).trans (Y.mono (Aa a6).size));clear Y a7 bj
     by_cases bc:E=0
     . subst bc
       cases S with
       |false=>
        have I:=Ab (RdA.bad (w:=w) (w':=w3) (bs:=bs) (k:=10) ((Aa ac).sum rfl (Aa a2) (Aa bb)) (by decide) (Aa G));go_wp2;go_ret2;exact Aa I
       |true=>
        obtain⟨b3,bd⟩:=(Aa ac).yes rfl (Aa a2) (Aa bb);have I:Hid (RdA w bs (.returned (.tuple #[.slice ao F c2,.int .i64 0])) w3):=Ab ⟨.slice ao F c2,by rw[b3];rfl,⟨ao,c2,es.map Ev.fv,by rw[bd];simp[Aa T],Aa c5,by rw[DA,bd]⟩,Aa G⟩;clear b3 bd;go_wp2;go_ret2;exact Aa I
     . have I:=Ab (RdA.bad (w:=w) (w':=w3) (bs:=bs) (k:=7) ((Aa ac).torn (by rw[Aa a2];exact bc)) (by decide) (Aa G));have de:((E:Int)==0)=false:=by rw[beq_eq_false_iff_ne];omega
       have dm:((E:Int)!=0)=true:=by rw[bne,de];rfl
       clear bc;go_wp2;go_ret2;exact Aa I
theorem D8 (a b:List Bool):Eb (a++b)=Eb a+2^a.length*Eb b:=by
 induction a with
 |nil=>simp[Eb]
 |cons x r ih=>
  rw[XL,Eb,ih,Eb,VJ,XC,Nat.mul_add,<-XY,YF 2 (2^r.length),WT]
open Go.RowKit Go.Maps Go.WideMaps Go.ChangeShapes
theorem Z8p:ArrKey Tryz.prog 351 3 2:=⟨Tryz.underlying351,by kernel_rfl,by kernel_rfl,by kernel_rfl⟩
theorem Z80:Keyed Tryz.prog 351:=Keyed.of_law Z8p.law
theorem Z29:∃m,Tryz.prog.types.size=m+1:=⟨Tryz.prog.types.size-1,by have:0<Tryz.prog.types.size:=of_decide_eq_true (by kernel_rfl);omega⟩
def kw (c:Nat×Nat):Value:=.agg #[.int .i64 (c.1:Int),.int .i64 (c.2:Int)]
def kwl (c:Nat×Nat):Lit:=.string (keyBytes [.int .i64 (c.1:Int),.int .i64 (c.2:Int)])
def OkW (c:Nat×Nat):Prop:=c.1<65536/\c.2<65536
theorem Wj {x:Nat}(E:x<65536):(Lit.int .i64 (x:Int)).wf=true:=by
 simp[Lit.wf,IntKind.min,IntKind.max,IntKind.signed,IntKind.bits];omega
theorem Pf {c:Nat×Nat}(E:OkW c):keyOf Tryz.prog 351 (kw c)=some (kwl c):=by
 have A:=Z8p;have F:=A.keyType Z29;obtain⟨m,hm⟩:=Z29;have I:Tryz.prog.underlying 3=some (.int .i64):=Tryz.underlying3;have G:=Wj E.1;have H:=Wj E.2;unfold keyOf kw kwl;simp only[A.hu];rw[if_pos (by simp[F,Value.formed,A.hu,A.size]),hm];unfold Program.keyLits;simp only[A.hu,Value.cells];rw[if_pos (by rw[A.size];rfl),show List.range 2= [0,1] from rfl,List.mapM_cons,List.mapM_cons,List.mapM_nil];simp[A.one,Program.keyLits,I,G,H]
theorem Z4u {c d:Nat×Nat}(F:OkW c)(G:OkW d)(E:kwl c=kwl d):c=d:=by
 have:=Z80.inj (Pf F) (by rw[E];exact Pf G)
 obtain⟨c1,c2⟩:=c;obtain⟨H,I⟩:=d;simp[kw]at this
 simp only[YD];omega
def vH:List Bool->Nat
 | []=>0
 |b::r=>(if b then 2^r.length else 0)+vH r
theorem JZ:∀s,vH s<2^s.length
 | []=>by simp[vH]
 |b::r=>by
  have:=JZ r
  rw[vH,VJ,XC]
  split<;>omega
theorem Q8:∀(s:List Bool) (b:Bool),vH (s++ [b])=2*vH s+(if b then 1 else 0)
 | [],b=>by cases b<;>rfl
 |x::r,b=>by
  rw[XL,vH,Q8 r b,vH,VE];simp only[VJ,WE,WG,XC]
  cases x<;>simp<;>omega
theorem KA:∀ {s t:List Bool},s.length=t.length->vH s=vH t->s=t
 | [],[],_,_=>rfl
 | [],_::_,h,_=>by simp at h
 |_::_,[],h,_=>by simp at h
 |a::s,b::t,h,e=>by
  have hl:s.length=t.length:=by simpa using h
  have E:=JZ s;have F:=JZ t;rw[vH,vH,hl]at e;rw[hl]at E
  cases a<;>cases b<;>simp at e
  . rw[KA hl e]
  . omega
  . omega
  . rw[KA hl e]
theorem Z60:∀n c,c<2^n->vH (hb c n)=c
 |0,c,h=>by simp at h;subst h;rfl
 |n+1,c,h=>by
  rw[hb,Q8,Z60 n (c/2) (by rw[XC]at h;omega)];have:=WY c
  rcases this with e|e<;>simp[e]<;>omega
def kb (s:List Bool):Lit:=kwl (s.length,vH s)
theorem okb {s:List Bool}(E:s.length<=15):OkW (s.length,vH s):=by
 have F:=JZ s;have G:2^s.length<=2^15:=VO (by decide) E;exact⟨by simp only;omega,by simp only;omega⟩
theorem Z2o {s t:List Bool}(G:s.length<=15)(E:t.length<=15)(F:kb s=kb t):s=t:=by
 have:=Z4u (okb G) (okb E) F
 exact KA (VN this).1 (VN this).2
theorem Z2n (s:List Bool):WideAt.IsKeyLit (kb s):=by
 first|trivial|exact⟨⟩|(unfold kb kwl WideAt.IsKeyLit;simp)
def decD (l:List Int):Nat->DataW Unit
 |0=>.map []
 |k+1=>if codeT l k= []then decD l k else (decD l k).put (kb (codeT l k)) (.lit (.int .i64 (k:Int)))
theorem Pn (l:List Int):∀k,IsMap (decD l k)
 |0=>isMap_empty
 |k+1=>by
  rw[decD]
  split
  . exact Pn l k
  . exact(Pn l k).put _ _
theorem QC (l:List Int)(M:∀k,(codeT l k).length<=15)(s:List Bool)(H:s≠ [])(I:s.length<=15):∀k,Maps.has (decD l k) (kb s)=decide (∃q,q<k/\codeT l q=s)
 |0=>by
  rw[decide_eq_false (by rintro ⟨q,h,_⟩;omega)];rfl
 |k+1=>by
  have ih:=QC l M s H I k
  have e:(∃q,q<k+1/\codeT l q=s)↔((∃q,q<k/\codeT l q=s)\/codeT l k=s):=by
   constructor
   . rintro ⟨q,T,E⟩
     by_cases O:q=k
     . subst O;exact .inr E
     . exact .inl ⟨q,by omega,E⟩
   . rintro (⟨q,T,E⟩|h)
     . exact⟨q,by omega,E⟩
     . exact⟨k,by omega,h⟩
  rw[decD]
  by_cases G:codeT l k= []
  . rw[if_pos G,ih,XZ];simp only[decide_eq_true_eq,e]
    constructor
    . exact .inl
    . rintro (h|h)
      . exact h
      . rw[G]at h;exact absurd h.symm H
  . rw[if_neg G]
    by_cases F:codeT l k=s
    . rw[F,has_put_same (Pn l k) (Z2n s),decide_eq_true (e.2 (.inr F))]
    . rw[has_put_other (fun h=>F (Z2o (M k) I (by first|exact h|exact h.symm))),ih,XZ];simp only[decide_eq_true_eq,e]
      constructor
      . exact .inl
      . rintro (h|h)
        . exact h
        . exact absurd h F
theorem QD (l:List Int)(I:∀k,(codeT l k).length<=15)(s:List Bool)(F:s≠ [])(G:s.length<=15)(H:∀q q',q<l.length->q'<l.length->codeT l q=s->codeT l q'=s->q=q')(E:DataW Unit):∀k,k<=l.length->∀q,q<k->codeT l q=s->(decD l k).atKey (kb s) E=.lit (.int .i64 (q:Int))
 |0,_,q,h,_=>by omega
 |k+1,hk,q,h,hq=>by
  rw[decD]
  by_cases M:codeT l k= []
  . rw[if_pos M];have:q≠k:=fun e=>by subst e;rw[M]at hq;exact F hq.symm
    exact QD l I s F G H E k (by omega) q (by omega) hq
  . rw[if_neg M]
    by_cases e:codeT l k=s
    . have:=H q k (by omega) (by omega) hq e
      subst this;rw[e,atKey_put_same (Pn l _) (Z2n s)]
    . rw[atKey_put_other (fun h=>e (Z2o (I k) G (by first|exact h|exact h.symm)))];have:q≠k:=fun e2=>by subst e2;exact e hq
      exact QD l I s F G H E k (by omega) q (by omega) hq
theorem Sq {l:List Int}(E:Good l)(k:Nat):(codeT l k).length<=15:=by
 unfold codeT;rw[Bd]
 by_cases F:k<l.length
 . have:=(E.ok k F).2;omega
 . rw[List.getD,WJ (by omega)];exact(by decide:(0:Int).toNat<=15)
theorem QM {l:List Int}(G:Good l){k n:Nat}(F:k<l.length)(E:l.getD k 0=(n:Int))(I:0<n):kb (codeT l k)=kwl (n,codeN l k)/\codeT l k≠ []/\OkW (n,codeN l k):=by
 have M:=(Ig l G F E I).2.2;have H:=(G.ok k F).2;rw[E]at H;have e:codeT l k=hb (codeN l k) n:=by unfold codeT;rw[E];rfl
 have O:2^n<=2^15:=VO (by decide) (by omega);have T:(2:Nat)^15=32768:=by decide
 refine⟨?_, ?_,⟨by simp only;omega,by simp only;omega⟩⟩
 . rw[e];unfold kb;rw[Bd,Z60 n _ M]
 . intro h;have:=congrArg List.length h
   rw[e,Bd]at this;simp at this
   omega
abbrev Flt (x:Int):Ending:=.panicked [{v:=.iface 310 (.agg #[.int .i64 x]),recovered:=false}]
theorem Cf (x:Int)(w:World):Calls Tryz.prog 253 #[.int .i64 x] w fun e w'=>e=Flt x/\w'=w:=by
 go_enter Tryz.func253,Tryz.ntmps253
 go_wp2;exact⟨rfl,rfl,rfl⟩
def icells (R:Value)(f1 f2:Value)(u:US)(ov kv:Value):Array Value:= #[R,.int .i64 (u.p:Int),ov,kv,f1,f2]
structure IIs (No:Nat->Prop)(B:Nat)(w:World)(b:Nat)(R f1 f2:Value)(u:US):Prop where
 base:B<=b
 no:¬No b
 ex:∃ov kv,w.heap[b]? =some (.cells (icells R f1 f2 u ov kv) 284 (0,0))/\w.ownsRow (b+1) 5 1 ov u.out.length (u8s u.out)/\w.ownsRow (b+1) 3 1 kv u.ks.length (i64s u.ks)/\(ov.ownBlock=none\/ov.ownBlock≠kv.ownBlock)/\(∀g,ov.ownBlock=some g->¬No g)/\(∀g,kv.ownBlock=some g->¬No g)
structure IUp (No:Nat->Prop)(B:Nat)(w:World)(b:Nat)(R f1 f2:Value)(u:US)(w':World):Prop where
 is:IIs No B w' b R f1 f2 u
 below:Below B w w'
 kp:Kp No w w'
theorem IIs.lt {No:Nat->Prop}{B b:Nat}{w:World}{R H G:Value}{u:US}(F:IIs No B w b R H G u):b<w.heap.size:=by
 obtain⟨ov,kv,E,_⟩:=F.ex;exact(VK.1 E).1
theorem IIs.cell {No:Nat->Prop}{B b:Nat}{w:World}{R H G:Value}{u:US}(F:IIs No B w b R H G u):w.cell? ⟨b,0,none⟩=some R/\w.cell? ⟨b,1,none⟩=some (.int .i64 (u.p:Int))/\∀j,w.frozen? ⟨b,j,none⟩=false:=by
 obtain⟨ov,kv,E,_⟩:=F.ex;exact⟨Ac E,Ac E,fun j=>frozen_of_row w b j _ _ E⟩
theorem IUp.refl {No:Nat->Prop}{B b:Nat}{w:World}{R F E:Value}{u:US}(G:IIs No B w b R F E u):IUp No B w b R F E u w:=⟨G,Below.refl _ _,Kp.refl _ _⟩
theorem IUp.trans {No:Nat->Prop}{B b:Nat}{w F G:World}{R H I g1 g2:Value}{u v:US}(E:IUp No B w b R H I u F)(k:IUp No B F b R g1 g2 v G):IUp No B w b R g1 g2 v G:=⟨k.is,E.below.trans k.below,E.kp.trans k.kp E.below.size⟩
theorem IIs.grown {No:Nat->Prop}{B b:Nat}{w w':World}{R G H:Value}{u:US}(E:IIs No B w b R G H u)(F:w.grownBy w' none):IIs No B w' b R G H u:=by
 obtain⟨ov,kv,M,I,T,O⟩:=E.ex;exact⟨E.base,E.no,ov,kv,(F.block b E.lt (by simp)).trans M,Hv I F,Hv T F,O⟩
theorem IUp.drewN {No:Nat->Prop}{B b:Nat}{w w':World}{R G F:Value}{u:US}(E:IUp No B w b R G F u w')(q:Nat):IUp No B w b R G F u (w'.drewN q):=
 ⟨E.is.grown ⟨rfl,rfl,rfl,VB _,fun _ _ _=>rfl⟩,Ae E.below q,E.kp⟩
theorem IIs.set {No:Nat->Prop}{B b:Nat}{w:World}{R M O g1 g2:Value}{u:US}(E:IIs No B w b R M O u)(i:Nat)(v:Value)(G:US)(H:G.out=u.out)(Y:G.ks=u.ks)(ag:∀ov kv,(icells R M O u ov kv).setIfInBounds i v=icells R g1 g2 G ov kv):IUp No B w b R g1 g2 G (w.setCell ⟨b,i,none⟩ v):=by
 obtain⟨ov,kv,aa,I,U,ac,Z,ae⟩:=E.ex;have F:=Ad w b i v
 have T:∀ {e size n:Nat} {x:Value} {xs:List Value},w.ownsRow (b+1) e size x n xs->x.ownBlock=none\/x.ownBlock≠some b:=fun {e size n x xs} H=>by
  cases af:x.ownBlock with
  |none=>exact .inl rfl
  |some g=>
   refine .inr (fun e=> ?_);have:=(H.lt g af).1
   cases e
   omega
 refine⟨⟨E.base,E.no,ov,kv, ?_,by rw[H];exact I.kept F (T I),by rw[Y];exact U.kept F (T U),ac,Z,ae⟩, ?_, ?_⟩
 . rw[heap_setCell_same w b i _ _ _ aa,ag]
 . exact(Below.refl B w).grown F (VU E.base (YX E.lt)) (fun g e=>by cases e;exact E.base)
 . exact(Kp.refl No w).grown F (VB _) (fun g e=>by cases e;exact E.no)
theorem IIs.setP {No:Nat->Prop}{B b:Nat}{w:World}{R F E:Value}{u:US}(G:IIs No B w b R F E u)(q:Nat):IUp No B w b R F E {u with p:=q} (w.setCell ⟨b,1,none⟩ (.int .i64 (q:Int))):=G.set 1 _ _ rfl rfl (fun _ _=>rfl)
structure Bl (No:Nat->Prop)(B:Nat)(w w':World):Prop where
 below:Below B w w'
 kp:Kp No w w'
theorem Bl.refl (No:Nat->Prop)(B:Nat)(w:World):Bl No B w w:=⟨Below.refl _ _,Kp.refl _ _⟩
theorem Bl.trans {No:Nat->Prop}{B:Nat}{w F G:World}(E:Bl No B w F)(k:Bl No B F G):Bl No B w G:=⟨E.below.trans k.below,E.kp.trans k.kp E.below.size⟩
theorem Bl.drewN {No:Nat->Prop}{B:Nat}{w E:World}(F:Bl No B w E)(q:Nat):Bl No B w (E.drewN q):=⟨Ae F.below q,F.kp⟩
theorem Bl.weaken {No No':Nat->Prop}{B:Nat}{w E:World}(F:Bl No' B w E)(G:∀g,No g->No' g):Bl No B w E:=⟨F.below,F.kp.weaken G⟩
theorem IUp.bl {No:Nat->Prop}{B b:Nat}{w w':World}{R G F:Value}{u:US}(E:IUp No B w b R G F u w'):Bl No B w w':=⟨E.below,E.kp⟩
def Got (No:Nat->Prop)(B:Nat)(w:World)(b:Nat)(R f1 f2:Value)(v:Value)(u:US)(e:Ending)(w':World):Prop:=
 (u.e=0/\e=.returned v/\IUp No B w b R f1 f2 u w')\/ (u.e≠0/\e=Flt u.e/\Bl No B w w')
def Mx (b:Nat)(w w':World):Prop:=∀j,j≠1->w'.cell? ⟨b,j,none⟩=w.cell? ⟨b,j,none⟩
def GotK (No:Nat->Prop)(B:Nat)(w:World)(b:Nat)(R f1 f2:Value)(v:Value)(u:US)(e:Ending)(w':World):Prop:=
 (u.e=0/\e=.returned v/\IUp No B w b R f1 f2 u w'/\Mx b w w')\/ (u.e≠0/\e=Flt u.e/\Bl No B w w')
theorem GotK.got {No:Nat->Prop}{B b:Nat}{w w':World}{R F G v:Value}{u:US}{e:Ending}(E:GotK No B w b R F G v u e w'):Got No B w b R F G v u e w':=by
 rcases E with ⟨I,H,M,_⟩|E
 . exact .inl ⟨I,H,M⟩
 . exact .inr E
theorem OS (x r:Nat)(G:x<256):bits .and .i64 (wrap64 ((x:Int)/2^r)) 1=((x/2^r%2:Nat):Int):=by
 have e:((x:Int)/2^r)=((x/2^r:Nat):Int):=by push_cast;rfl
 have h:x/2^r<=x:=YO _ _
 have E:wrap64 ((x:Int)/2^r)=((x/2^r:Nat):Int):=by
  rw[e];generalize x/2^r=y at*;unfold wrap64;omega
 rw[E];have F:=Y7 (x/2^r) 0 (by omega);simpa using F
theorem Z5l (bs:List Nat)(p:Nat):bs.getD (p/8) 0/2^(p%8)%2=if Iq bs p then 1 else 0:=by
 unfold Iq;exact RK _ _
structure Rd (w:World)(No:Nat->Prop)(a:Option Addr)(n:Nat)(bs:List Nat):Prop where
 len:bs.length=n
 few:n<=6000
 byt:BytesIn w a bs
 val:∀j,bs.getD j 0<256
 no:∀b o,a=some ⟨b,o,none⟩->bs≠ []->No b
theorem Rd.keep {w w':World}{No:Nat->Prop}{a:Option Addr}{n:Nat}{bs:List Nat}(E:Rd w No a n bs)(O:w.heap.size<=w'.heap.size)(G:Kp No w w'):Rd w' No a n bs:=by
 refine⟨E.len,E.few, ?_,E.val,E.no⟩
 by_cases e:bs= []
 . exact .inl e
 . rcases E.byt with I|⟨b,o,F,hb,H⟩
   . exact absurd I e
   . exact .inr ⟨b,o,F,by omega,fun j M=>(World.cell?_of_block (w:=w) (a:=⟨b,_,none⟩) (G b hb (E.no b o F e))).trans (H j M)⟩
theorem BO (No:Nat->Prop)(B b:Nat)(a:Option Addr)(n M:Nat)(bs:List Nat)(U O:Value)(u:US)(w:World)(Z:IIs No B w b (.slice a n M) U O u)(aa:Rd w No a n bs)(aj:u.p<=8*n)(ag:u.e=0):
 Calls Tryz.prog 248 #[.pointer (some ⟨b,0,none⟩)] w fun e w'=>GotK No B w b (.slice a n M) U O (.int .i64 (if Iq bs u.p then 1 else 0)) (if u.p=8*n then {u with e:=7}else {u with p:=u.p+1}) e w':=by
 obtain⟨c0,c1,ai⟩:=Z.cell;have ar:=ai 1;have aw:=aa.few;have H:=Ab Z;have I:=Ab aa;clear Z aa ai;obtain⟨p,T⟩:=exq (u.p);rw[T]at c1 aj ⊢;have ay:=Ab T;have ap:=Ab ag;clear T ag;obtain⟨af,ac⟩:∃af:Int,(if Iq bs p then (1:Int)else 0)=af:=⟨_,rfl⟩
 rw[ac];have ak:=Ab ac;clear ac
 by_cases Y:p=8*n
 . have hb:((p:Int)==8*(n:Int))=true:=by rw[beq_iff_eq];omega
   rw[if_pos Y];obtain⟨u7,E⟩:∃u7:US,({p:=p,out:=u.out,ks:=u.ks,e:=7}:US)=u7:=⟨_,rfl⟩
   rw[E];have F:=Ab E;clear Y E;go_enter Tryz.func248,Tryz.ntmps248
   go_wp2;go_quiet (fail)
   go_wp2_with fail
   refine(Cf 7 _).mono ?_;rintro e au ⟨rfl,rfl⟩;go_wp2;refine⟨rfl,.inr ⟨by rw[<-Aa F];exact(by decide:(7:Int)≠0),by rw[<-Aa F],(Bl.refl _ _ _).drewN _⟩⟩
 . have hb:((p:Int)==8*(n:Int))=false:=by rw[beq_eq_false_iff_ne];omega
   rw[if_neg Y];obtain⟨u7,E⟩:∃u7:US,({p:=p+1,out:=u.out,ks:=u.ks,e:=u.e}:US)=u7:=⟨_,rfl⟩
   rw[E];have F:=Ab E;clear E;obtain⟨b2,o2,rfl,az,ae⟩:=Dz (Aa I).byt (by rw[(Aa I).len];omega);have G:p/8<bs.length:=by rw[(Aa I).len];omega
   have av:=ae _ G;have al:=(Aa I).val (p/8);have ax:(p:Int)/8<(n:Int):=by omega
   have ao:=Ab (Z5l bs p);clear ae G;generalize bs.getD (p/8) 0=x at*;go_enter Tryz.func248,Tryz.ntmps248
   go_wp2;go_quiet (fail)
   go_wp2;go_quiet (fail)
   go_wp2;go_ret;refine .inl ⟨by rw[<-Aa F];exact Aa ap,Dd ?_, ?_, ?_⟩
   . rw[<-Aa ak];refine(OS x (p%8) al).trans ?_;rw[Aa ao]
     split<;>rfl
   . rw[<-Aa F]
     have key:∀q:Nat,IUp No B w b (.slice (some ⟨b2,o2,none⟩) n M) U O {p:=p+1,out:=u.out,ks:=u.ks,e:=u.e} ((w.drewN q).setCell ⟨b,1,none⟩ (.int .i64 ((p:Int)+1))):=fun q=>by
      have ah:=((Aa H).grown (w':=w.drewN q) ⟨rfl,rfl,rfl,VB _,fun _ _ _=>rfl⟩).setP (p+1);rw[show ((p+1:Nat):Int)=(p:Int)+1 by omega]at ah;exact((IUp.refl (Aa H)).drewN q).trans ah
     exact key _
   . intro j G;exact World.cell?_setCell_other _ _ _ _ (by intro e;exact G (by cases e;rfl))
theorem FT (row:List Bool)(p i:Nat)(E:p+i<row.length):Eb ((row.drop p).take (i+1))=Eb ((row.drop p).take i)+2^i*(if row.getD (p+i) false then 1 else 0):=by
 have hl:((row.drop p).take i).length=i:=by rw[VL,VQ];omega
 have e:(row.drop p).take (i+1)=(row.drop p).take i++ [row.getD (p+i) false]:=by
  rw[XM,XJ];simp[List.getD,E]
 rw[e,D8,hl]
 cases row.getD (p+i) false<;>simp[Eb]
theorem Z4a (m i x:Nat)(E:m<2^i)(F:i<=16)(I:x<2):bits .or .i64 (m:Int) ((x:Int)*2^i)=((m+2^i*x:Nat):Int):=by
 have G:2^i<=2^16:=VO (by decide) F;have e:((x:Int)*2^i)=((2^i*x:Nat):Int):=by push_cast;rw[Int.mul_comm]
 have H:2^i*x<=2^i*1:=Nat.mul_le_mul_left _ (by omega);have M:(2:Nat)^16=65536:=by decide
 rw[e,Nn _ _ (by omega) (by omega)];have:=Nat.two_pow_add_eq_or_of_lt (i:=i) (b:=m) E x
 rw[Nat.or_comm,<-this,Nat.add_comm]
theorem Re (No:Nat->Prop)(B b:Nat)(a:Option Addr)(n G E:Nat)(bs:List Nat)(O I:Value)(u:US)(w:World)(h:IIs No B w b (.slice a n G) O I u)(af:Rd w No a n bs)(a2:u.p<=8*n)(ak:u.e=0)(bu:E<=16)(r:Nat)(v:US)(bh:Hid (uget (rowB bs n) E u=(r,v))):
 Calls Tryz.prog 230 #[.pointer (some ⟨b,0,none⟩),.int .i64 (E:Int)] w fun e w'=>GotK No B w b (.slice a n G) O I (.int .i64 (r:Int)) v e w':=by
 have ao:=Af bs n;have H:=Ab h;have a1:=Ab af;have Z:=Ab ak;have bo:=af.few;clear h af ak;obtain⟨p,Y⟩:=exq (u.p);rw[Y]at a2;have bf:=Ab Y
 have ap:Hid ((8*n<p+E->v= {p:=p,out:=u.out,ks:=u.ks,e:=7})/\(p+E<=8*n->r=Eb (((rowB bs n).drop p).take E)/\v= {u with p:=p+E})):=by
  have:=Aa bh
  unfold uget at this;rw[if_pos (Aa Z),ao,Y]at this
  constructor
  . intro az;rw[if_pos az]at this;exact(VN this).2.symm
  . intro az;rw[if_neg (by omega)]at this;exact⟨(VN this).1.symm,(VN this).2.symm⟩
 clear Y ao;go_enter Tryz.func230,Tryz.ntmps230
 go_wp2;go_loopw [5,8] (fun bb ac wr=>∃i m:Nat,i<=E/\p+i<=8*n/\ac=.int .i64 (i:Int)/\bb=.int .i64 (m:Int)/\Hid (m=Eb (((rowB bs n).drop p).take i))/\Hid (IUp No B w b (.slice a n G) O I {u with p:=p+i} wr/\Mx b w wr)) (fun _ ac _=>E-(intOf ac).toNat)
 case atStart=>exact⟨0,0,VH _,by omega,rfl,rfl,Ab (by simp[Eb]),Ab (by
  have:=IUp.refl (Aa H)
  rw[<-Aa bf];exact⟨this,fun _ _=>rfl⟩)⟩
 case round=>
  obtain⟨i,m,hi,ax,rfl,rfl,hm,F⟩:=hrel
  by_cases bk:i<E
  . have bq:(i:Int)<(E:Int):=by omega
    have al:=(Aa F).1.is;have ag:=Ab (BO No B b a n G bs O I {u with p:=p+i} wr al ((Aa a1).keep (Aa F).1.below.size (Aa F).1.kp) ax (Aa Z))
    have a5:∃x:Nat,(if Iq bs (p+i)then (1:Int)else 0)=(x:Int)/\x<2/\x=(if (rowB bs n).getD (p+i) false then 1 else 0):=by
     by_cases a8:p+i<8*n
     . rw[Hf bs n (p+i) a8]
       cases Iq bs (p+i)
       . exact⟨0,rfl,by decide,rfl⟩
       . exact⟨1,rfl,by decide,rfl⟩
     . have ba:(rowB bs n).getD (p+i) false=false:=by
        simp only[List.getD];rw[WJ (by rw[Af];omega)];rfl
       by_cases hb:Iq bs (p+i)=true
       . exfalso
         unfold Iq at hb
         have:bs.getD ((p+i)/8) 0=0:=by
          simp only[List.getD];rw[WJ (by rw[(Aa a1).len];omega)];rfl
         rw[this]at hb;simp at hb
       . rw[if_neg hb,ba];exact⟨0,rfl,by decide,rfl⟩
    obtain⟨x,ai,bd,ar⟩:=a5;rw[ai]at ag
    have ae:m<2^i:=by
     rw[Aa hm];refine VG (Jy _) (VO (by decide) ?_);rw[VL];exact ZP _ _
    have ay:=Z4a m i x ae (by omega) bd
    have au:wrap64 ((x:Int)*2^i)=(x:Int)*2^i:=by
     have bm:2^i<=2^16:=VO (by decide) (by omega);have bj:(2:Nat)^16=65536:=by decide
     have e:((x:Int)*2^i)=((x*2^i:Nat):Int):=by push_cast;rfl
     have av:x*2^i<=1*2^i:=YZ _ (by omega);rw[e];generalize x*2^i=y at*;unfold wrap64;omega
    have bg:Hid (bits .or .i64 (m:Int) (wrap64 ((x:Int)*2^i))=((m+2^i*x:Nat):Int)):=Ab (by rw[au];exact ay);clear au ay;have a6:=Ab ar;have bn:=Ab ae;clear al ai ar ae;go_wp2_with fail
    refine(Aa ag).mono ?_;rintro e a3 a4
    rcases a4 with ⟨e0,rfl,aa,hK⟩|⟨e0,rfl,ah⟩
    . have M:¬p+i=8*n:=fun U=>by
       rw[if_pos U]at e0;exact absurd e0 (show ¬(7:Int)=0 by decide)
      rw[if_neg M]at aa;have bc:=Ab (And.intro ((Aa F).1.trans aa) (fun j aj=>(hK j aj).trans ((Aa F).2 j aj):Mx b w a3));have a7:Hid (m+2^i*x=Eb (((rowB bs n).drop p).take (i+1))):=Ab (by rw[FT _ _ _ (by rw[Af];omega),<-Aa hm,<-Aa a6]);have bv:p+i<8*n:=by omega
      clear e0 aa M hm hK;go_wp2;go_roundw
      case rel=>exact⟨i+1,m+2^i*x,by omega,by omega,by go_num,by rw[Aa bg],a7,by rw[<-WT];exact bc⟩
      case measure=>simp[intOf];omega
    . have M:p+i=8*n:=by
       by_cases U:p+i=8*n
       . exact U
       . rw[if_neg U]at e0;exact absurd (Aa Z) e0
      rw[if_pos M];have T:Hid (v= {p:=p,out:=u.out,ks:=u.ks,e:=7}):=Ab ((Aa ap).1 (by omega));have a9:=Ab ((Aa F).1.bl.trans ah);clear e0 ah M hm F ag;go_wp2;refine⟨rfl,.inr ⟨by rw[Aa T];exact(by decide:(7:Int)≠0),by rw[Aa T],Aa a9⟩⟩
  . obtain rfl:i=E:=by omega
    have T:Hid (GotK No B w b (.slice a n G) O I (.int .i64 (r:Int)) v (.returned (.int .i64 (m:Int))) wr):=by
     obtain⟨_,av⟩:=Aa ap;obtain⟨bi,aw⟩:=av ax;refine .inl ⟨by rw[aw];exact Aa Z,by rw[bi,Aa hm],by rw[aw];exact(Aa F).1,(Aa F).2⟩
    clear hm F;go_wp2;go_ret;exact Aa T
theorem Dx (No:Nat->Prop)(B b:Nat)(a:Option Addr)(n I E:Nat)(bs:List Nat)(G H:Value)(u:US)(w:World)(F:IIs No B w b (.slice a n I) G H u)(T:Rd w No a n bs)(M:u.p<=8*n)(Y:u.e=0)(O:E<=16)(r:Nat)(v:US)(U:Hid (uget (rowB bs n) E u=(r,v))):
 Calls Tryz.prog 230 #[.pointer (some ⟨b,0,none⟩),.int .i64 (E:Int)] w fun e w'=>Got No B w b (.slice a n I) G H (.int .i64 (r:Int)) v e w':=(Re No B b a n I E bs G H u w F T M Y O r v U).mono (fun _ _ F=>F.got)
def Arr (w:World)(b:Nat)(c:Nat->Nat):Prop:=w.heap[b]? =some (.cells (arr c) 328 (0,0))
theorem RS {c d:Nat->Nat}(E:∀n,n<16->c n=d n):arr c=arr d:=by
 unfold arr
 congr 1
 apply YR
 intro n hn;rw[E n (by simpa using hn)]
theorem Arr.congr {w:World}{b:Nat}{c d:Nat->Nat}(E:Arr w b c)(e:∀n,n<16->c n=d n):Arr w b d:=by
 unfold Arr;rw[<-RS e];exact E
theorem Arr.lt {w:World}{b:Nat}{c:Nat->Nat}(E:Arr w b c):b<w.heap.size:=by
 by_cases e:b<w.heap.size
 . exact e
 . have:w.heap[b]? =none:=by simp;omega
   rw[Arr,this]at E;cases E
theorem Arr.cell {w:World}{b:Nat}{c:Nat->Nat}(E:Arr w b c){j:Nat}(F:j<16):w.cell? ⟨b,j,none⟩=some (.int .i64 ((c j:Nat):Int)):=by
 rw[cell_of_row w b j _ _ _ E];exact RT c F
theorem Arr.frozen {w:World}{b:Nat}{c:Nat->Nat}(E:Arr w b c)(j:Nat):w.frozen? ⟨b,j,none⟩=false:=frozen_of_row w b j _ _ E
theorem Arr.new (w:World)(c:Nat->Nat){b:Nat}(E:b=w.heap.size):Arr (w.alloc (.cells (arr c) 328)) b c:=by rw[E];exact heap_alloc_new w _
theorem Arr.alloc {w:World}{b:Nat}{c:Nat->Nat}(E:Arr w b c)(o:Obj):Arr (w.alloc o) b c:=
 (Below.heap_alloc w o b E.lt).trans E
theorem Arr.below {w w':World}{B b:Nat}{c:Nat->Nat}(E:Arr w b c)(F:Below B w w')(G:b<B):Arr w' b c:=by
 unfold Arr;rw[F.block b G];exact E
theorem Arr.set {w:World}{b:Nat}{c:Nat->Nat}(E:Arr w b c)(j x:Nat):Arr (w.setCell ⟨b,j,none⟩ (.int .i64 ((x:Nat):Int))) b (upd c j x):=by
 unfold Arr;rw[heap_setCell_same w b j _ _ _ E,Z5q]
theorem Arr.other {w:World}{b:Nat}{c:Nat->Nat}(F:Arr w b c){a:Addr}(E:b≠a.block)(v:Value):Arr (w.setCell a v) b c:=by
 unfold Arr;rw[heap_setCell_other w a b v E];exact F
theorem Arr.setRow {w:World}{b:Nat}{c:Nat->Nat}(E:Arr w b c)(d:Nat->Nat):Arr (w.setRow b (arr d)) b d:=setRow_heap w b _ _ _ _ E
theorem Bg {B:Nat}{a w:World}(E:Below B a w){F:Nat}(I:B<=F)(G:Array Value):Below B a (w.setRow F G):=
 ⟨E.os,E.tape,E.output,by simp;exact E.size,fun k H=>(Go.setRow_other w F k G (by omega)).trans (E.block k H)⟩
theorem JV:(#[.int .i64 0,.int .i64 0,.int .i64 0,.int .i64 0,.int .i64 0,.int .i64 0,.int .i64 0,.int .i64 0,.int .i64 0,.int .i64 0,.int .i64 0,.int .i64 0,.int .i64 0,.int .i64 0,.int .i64 0,.int .i64 0]:Array Value)=arr (fun _=>0):=rfl
theorem Ph:(Tryz.prog.info? 328).map (·.size)=some 16:=by kernel_rfl
theorem Pd {E:Array Oper}{F:List Oper}{o:Oper}{a:Act}{w:World}{Q:Exit->Act->World->Prop}(M:o.guard=none)(x:Operand)(G:o.op=.load 328 x)
 (b:Nat) (c:Nat->Nat) (I:a.eval x=.pointer (some ⟨b,0,none⟩)) (H:Arr w b c) (k:wpList Tryz.prog E Q F (a.put o.dst (.agg (arr c))) w):wpList Tryz.prog E Q (o::F) a w:=
 wpList_load_row M 328 x G b I _ _ _ _ H Tryz.underlying328 rfl (by rw[Fm];exact Ph) k
theorem Fw {E:Array Oper}{F:List Oper}{o:Oper}{a:Act}{w:World}{Q:Exit->Act->World->Prop}(O:o.guard=none)(x y:Operand)(G:o.op=.store 328 x y)
 (b:Nat) (c d:Nat->Nat) (M:a.eval x=.pointer (some ⟨b,0,none⟩)) (I:a.eval y=.agg (arr d)) (H:Arr w b c) (k:wpList Tryz.prog E Q F (a.put o.dst undef) (w.setRow b (arr d))):wpList Tryz.prog E Q (o::F) a w:=
 wpList_store_row O 328 x y G b _ M I _ _ H (by rw[Fm];exact Ph) (by rw[Fm,Fm]) (Z5r d) k
theorem Ql {E:Array Oper}{F:List Oper}{o:Oper}{a:Act}{W:World}{Q:Exit->Act->World->Prop}(O:o.guard=none)(x y:Operand)(G:o.op=.store 328 x y)
 (w:World) (c d:Nat->Nat) (I:W=w.alloc (.cells (arr c) 328)) (M:a.eval x=.pointer (some ⟨w.heap.size,0,none⟩)) (H:a.eval y=.agg (arr d)) (k:wpList Tryz.prog E Q F (a.put o.dst undef) (w.alloc (.cells (arr d) 328))):wpList Tryz.prog E Q (o::F) a W:=by
 subst I;exact Fw O x y G _ c d M H (Arr.new w c rfl) (by rw[World.setRow_alloc_new];exact k)
theorem X8 {w:World}{b:Nat}{c:Nat->Nat}(E:Arr w b c):(loadVar 328 ⟨b,0,none⟩).run Tryz.prog w=.ok (.agg (arr c)) w:=
 run_loadVar_row w b _ _ _ _ _ E Tryz.underlying328 rfl (by rw[Fm];exact Ph)
theorem Fz {F:Func}{p u:Tmp}(H:F.results= #[.cell p 328,.tmp u])(E:Array Value)(w:World)(b:Nat)(c:Nat->Nat)(G:E.getD p undef=.pointer (some ⟨b,0,none⟩))(I:Arr w b c):
 (results F E).run Tryz.prog w=.ok (.tuple #[.agg (arr c),E.getD u undef]) w:=by
 rw[results_cell_tmp H,G];simp[asAddr,Result.andThen,X8 I]
theorem LD (c:Nat->Nat)(w:World)(O:∀n,c n<=288):
 Calls Tryz.prog 273 #[.agg (arr c)] w fun e w'=>e=.returned (.int .i64 (takenN c 15:Nat))/\Below w.heap.size w w':=by
 go_enter Tryz.func273,Tryz.ntmps273
 go_wp2;have I:=Ab (Arr.new w c rfl);have G:=Ab ((Below.refl w.heap.size w).alloc (VB _) (.cells (arr c) 328));go_loop [3,4] (fun s i=>∃k:Nat,k<=15/\i=.int .i64 ((k:Int)+1)/\s=.int .i64 (takenN c k:Nat)) (fun _ i=>16-(intOf i).toNat)
 case atStart=>exact⟨0,by omega,rfl,rfl⟩
 case round=>
  obtain⟨k,T,rfl,rfl⟩:=hrel
  by_cases Y:k<15
  . have c1:=(Aa I).cell (j:=k+1) (by omega);have E:=Zx c O (k+1);have H:Hid (takenN c (k+1)=takenN c k+c (k+1)*2^(14-k)):=rfl
    have F:wrap64 ((takenN c k:Int)+wrap64 ((c (k+1):Int)*2^(14-k)))=((takenN c (k+1):Nat):Int):=by
     rw[takenN]at E ⊢;have e:((c (k+1):Int)*2^(14-k))=((c (k+1)*2^(14-k):Nat):Int):=by push_cast;rfl
     rw[e];generalize c (k+1)*2^(14-k)=x at*;have U:(k+1)*(288*32768)<=15*(288*32768):=YZ _ (by omega);unfold wrap64;omega
    have M:=Ab F;clear E F;go_wp2;go_round
    case rel=>exact⟨k+1,by omega,by go_num,by rw[Aa M]⟩
    case measure=>simp[intOf];omega
  . obtain rfl:k=15:=by omega
    go_wp2;go_ret;exact⟨rfl,Aa G⟩
def K0 (c:Nat->Nat)(k:Nat):Nat->Nat:=fun n=>if 1<=n/\n<=k then Az c n else 0
theorem GU (c:Nat->Nat):K0 c 0=fun _=>0:=by funext n;simp[K0];omega
theorem GV (c:Nat->Nat)(k:Nat):upd (K0 c k) (k+1) (Az c (k+1))=K0 c (k+1):=by
 funext n
 simp only[upd,K0]
 by_cases e:n=k+1
 . subst e;simp
 . by_cases h:1<=n/\n<=k
   . have:1<=n/\n<=k+1:=by omega
     simp[e,h,this]
   . have:¬(1<=n/\n<=k+1):=by omega
     simp[e,h,this]
theorem PF (c:Nat->Nat)(n:Nat)(E:n<16):K0 c 15 n=Az c n:=by
 simp only[K0]
 by_cases e:n=0
 . subst e;simp[Az]
 . have:1<=n/\n<=15:=by omega
   simp[this]
theorem DC (c:Nat->Nat)(E:∀n,c n<=288):∀n,Az c (n+1)+576<=288*2^(n+1)
 |0=>by simp[Az]
 |n+1=>by
  have F:=DC c E n;have G:=E (n+1);rw[Az,XC];generalize 2^(n+1)=p at*;omega
def NL (c:Nat->Nat):Nat->Nat
 |0=>0
 |k+1=>Az c (k+1)+c (k+1)
theorem GY (c:Nat->Nat)(k:Nat):Az c (k+1)=2*NL c k:=by cases k<;>rfl
theorem Ry (c:Nat->Nat)(F:∀n,c n<=288){k:Nat}(G:k<=14):Az c (k+1)<=9437184:=by
 have H:=DC c F k;have E:=VO (n:=2) (by decide) (show k+1<=15 by omega);have I:288*2^(k+1)<=288*2^15:=Nat.mul_le_mul_left _ E;omega
set_option maxRecDepth 100000 in
theorem Ts (c:Nat->Nat)(w:World)(H:∀n,c n<=288):
 Calls Tryz.prog 255 #[.agg (arr c)] w fun e w'=>e=.returned (.agg (arr (Az c)))/\Below w.heap.size w w':=by
 go_enter Tryz.func255,Tryz.ntmps255
 go_wp2;simp only[JV];have O:=Ab (((Arr.new w c rfl).alloc (.cells (arr (fun _=>0)) 328)).alloc (.cells (arr (fun _=>0)) 328));have aa:=Ab ((Arr.new (w.alloc (.cells (arr c) 328)) (fun _=>0) (b:=w.heap.size+1) (by simp)).alloc (.cells (arr (fun _=>0)) 328));have I:=Ab (Arr.new ((w.alloc (.cells (arr c) 328)).alloc (.cells (arr (fun _=>0)) 328)) (fun _=>0) (b:=w.heap.size+1+1) (by simp));have Z:=Ab ((((Below.refl w.heap.size w).alloc (VB _) (.cells (arr c) 328)).alloc (by simp) (.cells (arr (fun _=>0)) 328)).alloc (by simp;omega) (.cells (arr (fun _=>0)) 328));go_loopw [4,5] (fun s i wr=>∃k:Nat,k<=15/\i=.int .i64 ((k:Int)+1)/\s=.int .i64 (NL c k:Nat)/\Arr wr w.heap.size c/\Arr wr (w.heap.size+1) (fun _=>0)/\Arr wr (w.heap.size+1+1) (K0 c k)/\Below w.heap.size w wr) (fun _ i _=>16-(intOf i).toNat)
 case atStart=>exact⟨0,by omega,rfl,rfl,Aa O,Aa aa,by rw[GU];exact Aa I,Aa Z⟩
 case round=>
  obtain⟨k,ap,rfl,rfl,E,Y,F,U⟩:=hrel;have ai:=Ab E;have G:=Ab Y;have T:=Ab F;have M:=Ab U
  by_cases aj:k<15
  . have c1:=E.cell (j:=k+1) (by omega);have c2:=F.cell (j:=k+1) (by omega);have f2:=F.frozen (k+1);have ak:(wr.setCell ⟨w.heap.size+1+1,k+1,none⟩ (.int .i64 (Az c (k+1):Nat))).cell? ⟨w.heap.size,k+1,none⟩=some (.int .i64 ((c (k+1):Nat):Int)):=(E.other (by simp;omega) _).cell (by omega);have ar:=Ry c H (k:=k) (by omega);have al:=H (k+1);have ag:=GY c k;have ae:Hid (NL c (k+1)=Az c (k+1)+c (k+1)):=rfl;have af:=Ab (GV c k);have ao:wrap64 ((NL c k:Int)*2)=((Az c (k+1):Nat):Int):=by unfold wrap64;omega
    clear E Y F U H O aa I Z ag;generalize NL c k=m at*;go_wp2;go_roundw
    case rel=>exact⟨k+1,by omega,by go_num,by rw[Aa ae];go_num,(Aa ai).other (by simp;omega) _,(Aa G).other (by simp) _,by rw[<-Aa af];exact(Aa T).set _ _,(Aa M).setCell (by simp;omega) _⟩
    case measure=>simp[intOf];omega
  . obtain rfl:k=15:=by omega
    have ac:=Ab ((Aa T).congr (PF c));go_wp2_with (first|(refine Pd rfl (.tmp 3) rfl _ (Az c) rfl (Aa ac) ?_)|(refine Fw rfl (.tmp 2) (.tmp 20) rfl _ _ (Az c) rfl rfl (Aa G) ?_))
    have ah:=Ab ((Aa G).setRow (Az c));refine bodyPost_ret (v:=.agg (arr (Az c))) ?_ rfl ⟨rfl,Bg (Aa M) (by omega) _⟩;exact results_cell_row rfl _ _ _ _ _ _ _ rfl (Aa ah) Tryz.underlying328 rfl (by rw[Fm];exact Ph)
end Go.Proofs.YtleocpdblhbimaaGreatDoor
