import Derived.Test.YtleocpdblhbimaaGreatDoorQ10
import Derived.Test.YtleocpdblhbimaaGreatDoorQ16
import Derived.Maps.Own
import Derived.Maps.OwnSet
import Derived.WideKeyPair
import Derived.Deep.DeepCutAuto
import Derived.Deep.WholeRow
import Derived.Laws.ResultCell
set_option linter.unusedSimpArgs false
set_option maxHeartbeats 4000000
namespace Go.Proofs.YtleocpdblhbimaaGreatDoor
open Go.RowKit
set_option linter.unusedVariables false
set_option maxRecDepth 100000
structure RdK (bs:List Nat)(es:List Ev)(ok:Bool):Prop where
 few:es.length<=12
 by_:∀x∈es,x.e.f.bytes.length<=12000
 no:ok=false->readE bs=7
 torn:errM ((es.map Ev.e).map En.f)≠0->readE bs=7
 sum:ok=true->errM ((es.map Ev.e).map En.f)=0->sumsF (es.map Ev.e)=false->readE bs=10
 yes:ok=true->errM ((es.map Ev.e).map En.f)=0->sumsF (es.map Ev.e)=true->readE bs=0/\readL bs=(es.map Ev.e).map En.f
theorem EnD.ways {w w':World}{bs:List Nat}{e:Ending}(O:EnD w bs e w')(ac:bs.length<=12000)(U:∀x∈bs,x<256):Below w.heap.size w w'/\∃es ad c ok,e=.returned (.tuple #[.slice ad es.length c,.bool ok])/\RsIn w' ad es/\RdK bs es ok:=by
 obtain⟨ag,O⟩:=O;obtain⟨M,aa⟩:=Z07 bs ac U;refine⟨ag, ?_⟩
 rcases O with ⟨F,rfl⟩|⟨es,ad,c,F,rfl,af⟩
 . have Y:readE bs=7:=by rw[<-M];unfold Kf;rw[F]
   exact⟨[],none,0,false,rfl,⟨.inl rfl,fun x E=>by cases E⟩,VH _,(fun x E=>by cases E),fun _=>Y,fun _=>Y,(fun e=>by cases e),(fun e=>by cases e)⟩
 . have H:=DJ U F;have G:readE bs=if errM ((es.map Ev.e).map En.f)≠0\/Be (es.map Ev.e)≠bs then 7 else if sumsF (es.map Ev.e)=false then 10 else 0:=by rw[<-M];unfold Kf;rw[F]
   refine⟨es,ad,c,_,rfl,af,by simpa using H.1,fun x E=> ?_,fun e=> ?_,fun e=> ?_,fun e e2 e3=> ?_,fun e e2 e3=> ?_⟩
   . have ae:=(H.2 x.e (XV E)).ok.un;have T:=BC (m:=x.e.meth) (pk:=x.e.pk) (ys:=n8 x.e.f.bytes) (by have:=(H.2 x.e (XV E)).pl;omega) (by rw[Le];exact ae);rw[Da]at T;exact T
   . rw[beq_eq_false_iff_ne]at e;rw[G,if_pos (.inr e)]
   . rw[G,if_pos (.inl e)]
   . have I:=eq_of_beq e;rw[G,if_neg (by rintro (k|k);exact k e2;exact k I),if_pos e3]
   . have I:=eq_of_beq e;have Z:readE bs=0:=by rw[G,if_neg (by rintro (k|k);exact k e2;exact k I),if_neg (by rw[e3];decide)]
     refine⟨Z, ?_⟩;rw[<-aa];unfold Vb;rw[if_neg (by rw[M,Z];decide),F];rfl
theorem Qw (a:Option Addr)(n ah:Nat)(bs:List Nat)(w:World)(b9:bs.length=n)(cy:n<=12000)(c6:n<=ah)(bz:PkIn w a ah bs)(az:∀x∈bs,x<256)(b4:UnC True):
 Calls Tryz.prog 16 #[.slice a n ah] w fun e w'=>RdA w bs e w':=by
 have ci:=Ab (Z4 a n ah bs w b9 cy c6 bz az True (.inl trivial) b4);have a7:Hid (bs.length<=12000/\∀x∈bs,x<256):=Ab ⟨by omega,az⟩;clear bz az b4 b9;go_enter Tryz.func16,Tryz.ntmps16
 go_wp2_with fail
 refine(Aa ci).mono ?_;rintro e H ck;obtain⟨cd,es,ad,c,ok,rfl,cm,hK⟩:=ck.ways (Aa a7).1 (Aa a7).2;obtain⟨F,a5⟩:=exq (es.length);rw[a5];obtain⟨aj,al⟩:=exq (sumsF (es.map Ev.e));have dn:F<=12:=by have:=hK.few;omega
 have bf:=Ab cm;have aa:=Ab hK;have I:=Ab a5;have a6:=Ab cd;have bg:=Ab al;clear ck cd cm hK a5 al ci a7;go_wp2;go_loopw [6,7,9,17] (fun dd dl _ i wr=>∃(k:Nat) (S:Bool),k<=F/\i=.int .i64 (k:Int)/\dl=.bool S/\Hid ((S&&sumsF ((es.map Ev.e).drop k))=aj)/\Hid (GR wr H.heap.size dd (es.take k))/\Hid (Below H.heap.size H wr)) (fun _ _ _ i _=>F-(intOf i).toNat)
 case atStart=>exact⟨0,true,VH _,rfl,rfl,Ab (by rw[ZF];exact Aa bg),Ab (GR.nil _ _),Ab (Below.refl _ _)⟩
 case round=>
  obtain⟨k,S,dm,rfl,rfl,ak,ac,Y⟩:=hrel
  by_cases df:k<F
  . obtain⟨x,au,ba⟩:∃x,es[k]? =some x/\x∈es:=⟨es[k]'(by rw[Aa I];exact df),VP _,WK _⟩
    obtain⟨b,o,rfl,hb,c0,c1,c2,c8,cz,di,dh,c5⟩:=(Aa bf).get (Aa Y) au;have bu:=(Aa Y).size;have af:=((Aa bf).all x ba).1;have U:=A6 (l:=es.map Ev.e) (k:=k) (x:=x.e) (by simp[au]);have T:=fun(W:World) (O:Below H.heap.size H W)=>QF 0 x.fa x.e.f.bytes.length x.fc (n8 x.e.f.bytes) W (Da _) ((Aa aa).by_ x ba) (by decide) (af.below O).fb.1 (Er (Lv _))
    have b5:=Ab (Eu au);have ct:=Ab (fun o1 o2:Obj=>(af.below ((Aa Y).trans ((Below.refl H.heap.size wr).alloc bu o1))).below ((Below.refl _ _).alloc (VB _) o2));have bk:∀g,some g=u6.ownBlock->H.heap.size<=g/\g<wr.heap.size:=fun g e=>(Aa ac).own.lt g e.symm
    have bo:Hid (x.lies (fun g=>some g≠u6.ownBlock)):=Ab (af.lt.mono (fun g bc e=>by have:=(bk g e).1;omega));have bv:=Ab (fun o1 o2:Obj=>((Aa ac).below ((Below.refl _ _).alloc (VB _) o1)).below ((Below.refl _ _).alloc (VB _) o2));have cn:=Ab (fun o1 o2:Obj=>((Aa Y).alloc bu o1).alloc (by simp;omega) o2);have co:Hid ((es.take k).length+1<=100000):=Ab (by rw[VL];omega)
    have b0:Hid (∀o1 o2,o2=Obj.cells x.fv.cells.toArray 30->∀j u,x.fv.cells[j]? =some u->((wr.alloc o1).alloc o2).cell? ⟨wr.heap.size+1,j,none⟩=some u):=Ab (fun o1 o2 e j u da=>by
     subst e;have cu:=heap_alloc_new (wr.alloc o1) (.cells x.fv.cells.toArray 30);simp only[World.size_alloc]at cu;rw[Ac cu];simpa using da)
    have bq:Hid (∀(o1 o2:Obj) (w3:World),((wr.alloc o1).alloc o2).grownBy w3 u6.ownBlock->w3.heap[wr.heap.size]? =some o1/\wr.heap.size<w3.heap.size):=Ab (fun o1 o2 w3 bc=>by
     have cw:=bc.block wr.heap.size (by simp;omega) (fun e=>by have:=(bk _ e).2;omega);rw[cw];refine⟨?_,VG (by simp;omega) bc.size⟩;have db:=((Below.refl (wr.alloc o1).heap.size (wr.alloc o1)).alloc (VB _) o2).block wr.heap.size (by simp);rw[db];exact heap_alloc_new wr o1)
    have cv:=Ab U;have bw:=Ab T;clear au ba af bk U T;go_wp2_with (at_builtin;refine Ij _ rfl _ _ rfl H.heap.size _ (es.take k) rfl (Aa bv _ _) (wr.heap.size+1) x rfl (Aa b0 _ _ rfl) (Aa ct _ _) (Aa bo) (Aa co) (by simp;omega) ?_)
    intro v' w3 bm cj Z;have a8:Hid (GR w3 H.heap.size v' (es.take (k+1))):=Ab (by rw[Aa b5];exact Aa bm);have G:=Ab ((Aa cn _ _).trans (Aa Z));obtain⟨a9,cq⟩:=Aa bq _ _ _ (Aa cj);have ai:=Ac (i:=1) a9;have ap:=Ac (i:=7) a9;simp only[VZ,VY,WI]at ai ap;have U:=Aa cv;obtain⟨m,hm⟩:=exq (crcN 0 (n8 x.e.f.bytes));have T:=Aa bw;rw[hm]at U T;generalize x.e.f.bytes.length=bl at ai T;generalize x.e.crc=cr at ap U;have k1:∀W:World,Below w3.heap.size w3 W->W.cell? ⟨wr.heap.size,1,none⟩=some (.slice x.fa bl x.fc):=fun W O=>(O.cell (p:=⟨wr.heap.size,1,none⟩) cq).trans ai
    have cg:∀W:World,Below w3.heap.size w3 W->W.cell? ⟨wr.heap.size,7,none⟩=some (.int .u32 (cr:Int)):=fun W O=>(O.cell (p:=⟨wr.heap.size,7,none⟩) cq).trans ap
    have bi:=Ab (fun(W:World) (O:Below w3.heap.size w3 W)=>T W ((Aa G).trans (O.mono (by have:=(Aa G).size;omega))));have b3:=(Aa G).size;have ax:=Aa ak;rw[U]at ax;have av:=Ab ax;clear bm Z cj a9 U T hm ax c0 c1 c2 c8 cz di dh c5 ak ac Y bv cn ct bo co b0 bq cv bw b5 ai ap
    cases S with
    |true=>
     obtain⟨b7,dj⟩:=exq (((m:Int)==(cr:Int)))
     have a4:Hid ((b7&&sumsF ((es.map Ev.e).drop (k+1)))=aj):=Ab (by
      have h:=Aa av;rw[ZF]at h;rw[<-h,<-dj]
      congr 1
      by_cases e:cr=m
      . subst e;rw[decide_eq_true rfl,beq_self_eq_true]
      . rw[decide_eq_false e,beq_eq_false_iff_ne];omega)
     clear av;go_wp2;go_region_held3 (fun W=>Below w3.heap.size w3 W) (first|exact Ea (Below.refl _ _)|exact ar) ((go_at_call 12;refine(Aa bi _ (Ea (Below.refl _ _))).mono ?_;rintro e c9 ⟨rfl,cp⟩;have ar:Below w3.heap.size w3 c9:=(by rw[cp];exact Ea (Below.refl _ _));clear cp))
     all_goals
      have a1:=Ab ((Aa a8).below ar);have a3:=Ab ((Aa G).trans (ar.mono b3));clear k1 cg bi a8 G ar
      try go_wp2
      go_roundw
      case rel=>exact⟨k+1,b7,by omega,by go_num,rfl,a4,a1,a3⟩
      case measure=>simp[intOf];omega
    |false=>
     have a4:Hid ((false&&sumsF ((es.map Ev.e).drop (k+1)))=aj):=Ab (by
      have h:=Aa av;rw[Bool.false_and]at h ⊢;exact h)
     clear av k1 cg bi;go_wp2;go_region
     all_goals
      have a1:=Ab ((Aa a8).below (Ea (Below.refl _ _)));have a3:=Ab ((Aa G).trans ((Ea (Below.refl _ _)).mono b3))
      try go_wp2
      go_roundw
      case rel=>exact⟨k+1,false,by omega,by go_num,rfl,a4,a1,a3⟩
      case measure=>simp[intOf];omega
  . obtain rfl:F=k:=by omega
    have ag:es.take F=es:=VV (by rw[Aa I];exact VB _);have b8:(es.map Ev.e).drop F= []:=XQ (by simp[Aa I]);have al:S=aj:=by have:=Aa ak;rw[b8]at this;rw[<-this];cases S<;>rfl
    obtain⟨aw,c2,bn,ae⟩:=(Aa ac).files (by rw[ag,Aa I];omega);rw[ag]at ae;rw[ag,Aa I]at bn;subst al bn;have dc:(es.map Ev.fv).length=F:=by simpa using Aa I
    have bh:=Ab ((Aa a6).trans ((Aa Y).mono (Aa a6).size));have bb:=Ab ae;clear ag b8 ak ac a6 bf
    cases ok with
    |false=>
     have M:=Ab (RdA.bad (w:=w) (w':=wr) (bs:=bs) (k:=7) ((Aa aa).no rfl) (by decide) (Aa bh));clear bb ae;go_wp2;go_ret2;exact Aa M
    |true=>
     have a2:=Ab (Tw aw c2 (es.map Ev.fv) wr ae F dc);obtain⟨E,ao⟩:=exq (errM (fls (es.map Ev.fv)));rw[ao]at a2;rw[DA]at ao;have ay:=Ab ao;clear ae ao;go_wp2_with fail
     refine(Aa a2).mono ?_;rintro e w3 ⟨rfl,Z⟩;have de:=Ab ((Aa bb).below Z (VB _));have G:=Ab ((Aa bh).trans (Z.mono (Aa bh).size));clear Z a2 bb
     by_cases bd:E=0
     . subst bd
       cases S with
       |false=>
        have M:=Ab (RdA.bad (w:=w) (w':=w3) (bs:=bs) (k:=10) ((Aa aa).sum rfl (Aa ay) (Aa bg)) (by decide) (Aa G));go_wp2;go_ret2;exact Aa M
       |true=>
        obtain⟨ce,bj⟩:=(Aa aa).yes rfl (Aa ay) (Aa bg);have M:Hid (RdA w bs (.returned (.tuple #[.slice aw F c2,.int .i64 0])) w3):=Ab ⟨.slice aw F c2,by rw[ce];rfl,⟨aw,c2,es.map Ev.fv,by rw[bj];simp[Aa I],Aa de,by rw[DA,bj]⟩,Aa G⟩;clear ce bj;go_wp2;go_ret2;exact Aa M
     . have M:=Ab (RdA.bad (w:=w) (w':=w3) (bs:=bs) (k:=7) ((Aa aa).torn (by rw[Aa ay];exact bd)) (by decide) (Aa G));have c7:((E:Int)==0)=false:=by rw[beq_eq_false_iff_ne];omega
       have dp:((E:Int)!=0)=true:=by rw[bne,c7];rfl
       clear bd;go_wp2;go_ret2;exact Aa M
end Go.Proofs.YtleocpdblhbimaaGreatDoor
namespace Go.Proofs.YtleocpdblhbimaaGreatDoor
set_option linter.unusedVariables false
theorem D8 (a b:List Bool):Eb (a++b)=Eb a+2^a.length*Eb b:=by
 induction a with
 |nil=>simp[Eb]
 |cons x r ih=>
  rw[XL,Eb,ih,Eb,VJ,XC,Nat.mul_add,<-XY,YF 2 (2^r.length),WT]
end Go.Proofs.YtleocpdblhbimaaGreatDoor
namespace Go.Proofs.YtleocpdblhbimaaGreatDoor
open Go.RowKit Go.Maps Go.WideMaps Go.ChangeShapes
set_option linter.unusedVariables false
set_option maxRecDepth 100000
theorem Z8p:ArrKey Tryz.prog 351 3 2:=⟨Tryz.underlying351,by kernel_rfl,by kernel_rfl,by kernel_rfl⟩
theorem Z80:Keyed Tryz.prog 351:=Keyed.of_law Z8p.law
theorem Z29:∃m,Tryz.prog.types.size=m+1:=⟨Tryz.prog.types.size-1,by have:0<Tryz.prog.types.size:=of_decide_eq_true (by kernel_rfl);omega⟩
def kw (c:Nat×Nat):Value:=.agg #[.int .i64 (c.1:Int),.int .i64 (c.2:Int)]
def kwl (c:Nat×Nat):Lit:=.string (keyBytes [.int .i64 (c.1:Int),.int .i64 (c.2:Int)])
def OkW (c:Nat×Nat):Prop:=c.1<65536/\c.2<65536
theorem Wj {x:Nat}(E:x<65536):(Lit.int .i64 (x:Int)).wf=true:=by
 simp[Lit.wf,IntKind.min,IntKind.max,IntKind.signed,IntKind.bits];omega
theorem Pf {c:Nat×Nat}(E:OkW c):keyOf Tryz.prog 351 (kw c)=some (kwl c):=by
 have A:=Z8p;have G:=A.keyType Z29;obtain⟨m,hm⟩:=Z29;have H:Tryz.prog.underlying 3=some (.int .i64):=Tryz.underlying3;have I:=Wj E.1;have F:=Wj E.2;unfold keyOf kw kwl;simp only[A.hu];rw[if_pos (by simp[G,Value.formed,A.hu,A.size]),hm];unfold Program.keyLits;simp only[A.hu,Value.cells];rw[if_pos (by rw[A.size];rfl),show List.range 2= [0,1] from rfl,List.mapM_cons,List.mapM_cons,List.mapM_nil];simp[A.one,Program.keyLits,H,I,F]
theorem Z4u {c d:Nat×Nat}(E:OkW c)(F:OkW d)(G:kwl c=kwl d):c=d:=by
 have:=Z80.inj (Pf E) (by rw[G];exact Pf F)
 obtain⟨c1,c2⟩:=c;obtain⟨I,H⟩:=d;simp[kw]at this
 simp only[YD];omega
def vH:List Bool->Nat
 | []=>0
 |b::r=>(if b then 2^r.length else 0)+vH r
theorem JZ:∀s,vH s<2^s.length
 | []=>by simp[vH]
 |b::r=>by
  have:=JZ r
  rw[vH,VJ,XC]
  split<;>omega
theorem Q8:∀(s:List Bool) (b:Bool),vH (s++ [b])=2*vH s+(if b then 1 else 0)
 | [],b=>by cases b<;>rfl
 |x::r,b=>by
  rw[XL,vH,Q8 r b,vH,VE];simp only[VJ,WE,WG,XC]
  cases x<;>simp<;>omega
theorem KA:∀ {s t:List Bool},s.length=t.length->vH s=vH t->s=t
 | [],[],_,_=>rfl
 | [],_::_,h,_=>by simp at h
 |_::_,[],h,_=>by simp at h
 |a::s,b::t,h,e=>by
  have hl:s.length=t.length:=by simpa using h
  have E:=JZ s;have F:=JZ t;rw[vH,vH,hl]at e;rw[hl]at E
  cases a<;>cases b<;>simp at e
  . rw[KA hl e]
  . omega
  . omega
  . rw[KA hl e]
theorem Z60:∀n c,c<2^n->vH (hb c n)=c
 |0,c,h=>by simp at h;subst h;rfl
 |n+1,c,h=>by
  rw[hb,Q8,Z60 n (c/2) (by rw[XC]at h;omega)];have:=WY c
  rcases this with e|e<;>simp[e]<;>omega
def kb (s:List Bool):Lit:=kwl (s.length,vH s)
theorem okb {s:List Bool}(E:s.length<=15):OkW (s.length,vH s):=by
 have G:=JZ s;have F:2^s.length<=2^15:=VO (by decide) E;exact⟨by simp only;omega,by simp only;omega⟩
theorem Z2o {s t:List Bool}(F:s.length<=15)(G:t.length<=15)(E:kb s=kb t):s=t:=by
 have:=Z4u (okb F) (okb G) E
 exact KA (VN this).1 (VN this).2
theorem Z2n (s:List Bool):WideAt.IsKeyLit (kb s):=by
 first|trivial|exact⟨⟩|(unfold kb kwl WideAt.IsKeyLit;simp)
def decD (l:List Int):Nat->DataW Unit
 |0=>.map []
 |k+1=>if codeT l k= []then decD l k else (decD l k).put (kb (codeT l k)) (.lit (.int .i64 (k:Int)))
theorem Pn (l:List Int):∀k,IsMap (decD l k)
 |0=>isMap_empty
 |k+1=>by
  rw[decD]
  split
  . exact Pn l k
  . exact(Pn l k).put _ _
theorem QC (l:List Int)(H:∀k,(codeT l k).length<=15)(s:List Bool)(M:s≠ [])(I:s.length<=15):∀k,Maps.has (decD l k) (kb s)=decide (∃q,q<k/\codeT l q=s)
 |0=>by
  rw[decide_eq_false (by rintro ⟨q,h,_⟩;omega)];rfl
 |k+1=>by
  have ih:=QC l H s M I k
  have e:(∃q,q<k+1/\codeT l q=s)↔((∃q,q<k/\codeT l q=s)\/codeT l k=s):=by
   constructor
   . rintro ⟨q,O,F⟩
     by_cases T:q=k
     . subst T;exact .inr F
     . exact .inl ⟨q,by omega,F⟩
   . rintro (⟨q,O,F⟩|h)
     . exact⟨q,by omega,F⟩
     . exact⟨k,by omega,h⟩
  rw[decD]
  by_cases G:codeT l k= []
  . rw[if_pos G,ih,XZ];simp only[decide_eq_true_eq,e]
    constructor
    . exact .inl
    . rintro (h|h)
      . exact h
      . rw[G]at h;exact absurd h.symm M
  . rw[if_neg G]
    by_cases E:codeT l k=s
    . rw[E,has_put_same (Pn l k) (Z2n s),decide_eq_true (e.2 (.inr E))]
    . rw[has_put_other (fun h=>E (Z2o (H k) I (by first|exact h|exact h.symm))),ih,XZ];simp only[decide_eq_true_eq,e]
      constructor
      . exact .inl
      . rintro (h|h)
        . exact h
        . exact absurd h E
theorem QD (l:List Int)(F:∀k,(codeT l k).length<=15)(s:List Bool)(H:s≠ [])(G:s.length<=15)(E:∀q q',q<l.length->q'<l.length->codeT l q=s->codeT l q'=s->q=q')(I:DataW Unit):∀k,k<=l.length->∀q,q<k->codeT l q=s->(decD l k).atKey (kb s) I=.lit (.int .i64 (q:Int))
 |0,_,q,h,_=>by omega
 |k+1,hk,q,h,hq=>by
  rw[decD]
  by_cases M:codeT l k= []
  . rw[if_pos M];have:q≠k:=fun e=>by subst e;rw[M]at hq;exact H hq.symm
    exact QD l F s H G E I k (by omega) q (by omega) hq
  . rw[if_neg M]
    by_cases e:codeT l k=s
    . have:=E q k (by omega) (by omega) hq e
      subst this;rw[e,atKey_put_same (Pn l _) (Z2n s)]
    . rw[atKey_put_other (fun h=>e (Z2o (F k) G (by first|exact h|exact h.symm)))];have:q≠k:=fun e2=>by subst e2;exact e hq
      exact QD l F s H G E I k (by omega) q (by omega) hq
theorem Sq {l:List Int}(E:Good l)(k:Nat):(codeT l k).length<=15:=by
 unfold codeT;rw[Bd]
 by_cases F:k<l.length
 . have:=(E.ok k F).2;omega
 . rw[List.getD,WJ (by omega)];exact(by decide:(0:Int).toNat<=15)
theorem QM {l:List Int}(F:Good l){k n:Nat}(G:k<l.length)(E:l.getD k 0=(n:Int))(M:0<n):kb (codeT l k)=kwl (n,codeN l k)/\codeT l k≠ []/\OkW (n,codeN l k):=by
 have I:=(Ig l F G E M).2.2;have H:=(F.ok k G).2;rw[E]at H;have e:codeT l k=hb (codeN l k) n:=by unfold codeT;rw[E];rfl
 have T:2^n<=2^15:=VO (by decide) (by omega);have O:(2:Nat)^15=32768:=by decide
 refine⟨?_, ?_,⟨by simp only;omega,by simp only;omega⟩⟩
 . rw[e];unfold kb;rw[Bd,Z60 n _ I]
 . intro h;have:=congrArg List.length h
   rw[e,Bd]at this;simp at this
   omega
end Go.Proofs.YtleocpdblhbimaaGreatDoor
namespace Go.Proofs.YtleocpdblhbimaaGreatDoor
open Go.RowKit
set_option linter.unusedVariables false
set_option maxRecDepth 100000
abbrev Flt (x:Int):Ending:=.panicked [{v:=.iface 310 (.agg #[.int .i64 x]),recovered:=false}]
theorem Cf (x:Int)(w:World):Calls Tryz.prog 253 #[.int .i64 x] w fun e w'=>e=Flt x/\w'=w:=by
 go_enter Tryz.func253,Tryz.ntmps253
 go_wp2;exact⟨rfl,rfl,rfl⟩
def icells (R:Value)(f1 f2:Value)(u:US)(ov kv:Value):Array Value:= #[R,.int .i64 (u.p:Int),ov,kv,f1,f2]
structure IIs (No:Nat->Prop)(B:Nat)(w:World)(b:Nat)(R f1 f2:Value)(u:US):Prop where
 base:B<=b
 no:¬No b
 ex:∃ov kv,w.heap[b]? =some (.cells (icells R f1 f2 u ov kv) 284 (0,0))/\w.ownsRow (b+1) 5 1 ov u.out.length (u8s u.out)/\w.ownsRow (b+1) 3 1 kv u.ks.length (i64s u.ks)/\(ov.ownBlock=none\/ov.ownBlock≠kv.ownBlock)/\(∀g,ov.ownBlock=some g->¬No g)/\(∀g,kv.ownBlock=some g->¬No g)
structure IUp (No:Nat->Prop)(B:Nat)(w:World)(b:Nat)(R f1 f2:Value)(u:US)(w':World):Prop where
 is:IIs No B w' b R f1 f2 u
 below:Below B w w'
 kp:Kp No w w'
theorem IIs.lt {No:Nat->Prop}{B b:Nat}{w:World}{R H E:Value}{u:US}(G:IIs No B w b R H E u):b<w.heap.size:=by
 obtain⟨ov,kv,F,_⟩:=G.ex;exact(VK.1 F).1
theorem IIs.cell {No:Nat->Prop}{B b:Nat}{w:World}{R H F:Value}{u:US}(G:IIs No B w b R H F u):w.cell? ⟨b,0,none⟩=some R/\w.cell? ⟨b,1,none⟩=some (.int .i64 (u.p:Int))/\∀j,w.frozen? ⟨b,j,none⟩=false:=by
 obtain⟨ov,kv,E,_⟩:=G.ex;exact⟨Ac E,Ac E,fun j=>frozen_of_row w b j _ _ E⟩
theorem IUp.refl {No:Nat->Prop}{B b:Nat}{w:World}{R F E:Value}{u:US}(G:IIs No B w b R F E u):IUp No B w b R F E u w:=⟨G,Below.refl _ _,Kp.refl _ _⟩
theorem IUp.trans {No:Nat->Prop}{B b:Nat}{w G F:World}{R H I g1 g2:Value}{u v:US}(E:IUp No B w b R H I u G)(k:IUp No B G b R g1 g2 v F):IUp No B w b R g1 g2 v F:=⟨k.is,E.below.trans k.below,E.kp.trans k.kp E.below.size⟩
theorem IIs.grown {No:Nat->Prop}{B b:Nat}{w w':World}{R G H:Value}{u:US}(E:IIs No B w b R G H u)(F:w.grownBy w' none):IIs No B w' b R G H u:=by
 obtain⟨ov,kv,M,T,O,I⟩:=E.ex;exact⟨E.base,E.no,ov,kv,(F.block b E.lt (by simp)).trans M,Hv T F,Hv O F,I⟩
theorem IUp.drewN {No:Nat->Prop}{B b:Nat}{w w':World}{R G F:Value}{u:US}(E:IUp No B w b R G F u w')(q:Nat):IUp No B w b R G F u (w'.drewN q):=
 ⟨E.is.grown ⟨rfl,rfl,rfl,VB _,fun _ _ _=>rfl⟩,Ae E.below q,E.kp⟩
theorem IIs.set {No:Nat->Prop}{B b:Nat}{w:World}{R I M g1 g2:Value}{u:US}(E:IIs No B w b R I M u)(i:Nat)(v:Value)(F:US)(H:F.out=u.out)(ae:F.ks=u.ks)(ac:∀ov kv,(icells R I M u ov kv).setIfInBounds i v=icells R g1 g2 F ov kv):IUp No B w b R g1 g2 F (w.setCell ⟨b,i,none⟩ v):=by
 obtain⟨ov,kv,aa,T,O,Z,af,ag⟩:=E.ex;have G:=Ad w b i v
 have U:∀ {e size n:Nat} {x:Value} {xs:List Value},w.ownsRow (b+1) e size x n xs->x.ownBlock=none\/x.ownBlock≠some b:=fun {e size n x xs} H=>by
  cases Y:x.ownBlock with
  |none=>exact .inl rfl
  |some g=>
   refine .inr (fun e=> ?_);have:=(H.lt g Y).1
   cases e
   omega
 refine⟨⟨E.base,E.no,ov,kv, ?_,by rw[H];exact T.kept G (U T),by rw[ae];exact O.kept G (U O),Z,af,ag⟩, ?_, ?_⟩
 . rw[heap_setCell_same w b i _ _ _ aa,ac]
 . exact(Below.refl B w).grown G (VU E.base (YX E.lt)) (fun g e=>by cases e;exact E.base)
 . exact(Kp.refl No w).grown G (VB _) (fun g e=>by cases e;exact E.no)
theorem IIs.setP {No:Nat->Prop}{B b:Nat}{w:World}{R F E:Value}{u:US}(G:IIs No B w b R F E u)(q:Nat):IUp No B w b R F E {u with p:=q} (w.setCell ⟨b,1,none⟩ (.int .i64 (q:Int))):=G.set 1 _ _ rfl rfl (fun _ _=>rfl)
structure Bl (No:Nat->Prop)(B:Nat)(w w':World):Prop where
 below:Below B w w'
 kp:Kp No w w'
theorem Bl.refl (No:Nat->Prop)(B:Nat)(w:World):Bl No B w w:=⟨Below.refl _ _,Kp.refl _ _⟩
theorem Bl.trans {No:Nat->Prop}{B:Nat}{w F G:World}(E:Bl No B w F)(k:Bl No B F G):Bl No B w G:=⟨E.below.trans k.below,E.kp.trans k.kp E.below.size⟩
theorem Bl.drewN {No:Nat->Prop}{B:Nat}{w F:World}(E:Bl No B w F)(q:Nat):Bl No B w (F.drewN q):=⟨Ae E.below q,E.kp⟩
theorem Bl.weaken {No No':Nat->Prop}{B:Nat}{w F:World}(E:Bl No' B w F)(G:∀g,No g->No' g):Bl No B w F:=⟨E.below,E.kp.weaken G⟩
theorem IUp.bl {No:Nat->Prop}{B b:Nat}{w w':World}{R G F:Value}{u:US}(E:IUp No B w b R G F u w'):Bl No B w w':=⟨E.below,E.kp⟩
def Got (No:Nat->Prop)(B:Nat)(w:World)(b:Nat)(R f1 f2:Value)(v:Value)(u:US)(e:Ending)(w':World):Prop:=
 (u.e=0/\e=.returned v/\IUp No B w b R f1 f2 u w')\/ (u.e≠0/\e=Flt u.e/\Bl No B w w')
def Mx (b:Nat)(w w':World):Prop:=∀j,j≠1->w'.cell? ⟨b,j,none⟩=w.cell? ⟨b,j,none⟩
def GotK (No:Nat->Prop)(B:Nat)(w:World)(b:Nat)(R f1 f2:Value)(v:Value)(u:US)(e:Ending)(w':World):Prop:=
 (u.e=0/\e=.returned v/\IUp No B w b R f1 f2 u w'/\Mx b w w')\/ (u.e≠0/\e=Flt u.e/\Bl No B w w')
theorem GotK.got {No:Nat->Prop}{B b:Nat}{w w':World}{R F G v:Value}{u:US}{e:Ending}(E:GotK No B w b R F G v u e w'):Got No B w b R F G v u e w':=by
 rcases E with ⟨H,M,I,_⟩|E
 . exact .inl ⟨H,M,I⟩
 . exact .inr E
theorem OS (x r:Nat)(G:x<256):bits .and .i64 (wrap64 ((x:Int)/2^r)) 1=((x/2^r%2:Nat):Int):=by
 have e:((x:Int)/2^r)=((x/2^r:Nat):Int):=by push_cast;rfl
 have h:x/2^r<=x:=YO _ _
 have E:wrap64 ((x:Int)/2^r)=((x/2^r:Nat):Int):=by
  rw[e];generalize x/2^r=y at*;unfold wrap64;omega
 rw[E];have F:=Y7 (x/2^r) 0 (by omega);simpa using F
theorem Z5l (bs:List Nat)(p:Nat):bs.getD (p/8) 0/2^(p%8)%2=if Iq bs p then 1 else 0:=by
 unfold Iq;exact RK _ _
structure Rd (w:World)(No:Nat->Prop)(a:Option Addr)(n:Nat)(bs:List Nat):Prop where
 len:bs.length=n
 few:n<=6000
 byt:BytesIn w a bs
 val:∀j,bs.getD j 0<256
 no:∀b o,a=some ⟨b,o,none⟩->bs≠ []->No b
theorem Rd.keep {w w':World}{No:Nat->Prop}{a:Option Addr}{n:Nat}{bs:List Nat}(E:Rd w No a n bs)(O:w.heap.size<=w'.heap.size)(H:Kp No w w'):Rd w' No a n bs:=by
 refine⟨E.len,E.few, ?_,E.val,E.no⟩
 by_cases e:bs= []
 . exact .inl e
 . rcases E.byt with G|⟨b,o,F,hb,M⟩
   . exact absurd G e
   . exact .inr ⟨b,o,F,by omega,fun j I=>(World.cell?_of_block (w:=w) (a:=⟨b,_,none⟩) (H b hb (E.no b o F e))).trans (M j I)⟩
theorem BO (No:Nat->Prop)(B b:Nat)(a:Option Addr)(n Z:Nat)(bs:List Nat)(O U:Value)(u:US)(w:World)(T:IIs No B w b (.slice a n Z) O U u)(aa:Rd w No a n bs)(ap:u.p<=8*n)(ag:u.e=0):
 Calls Tryz.prog 248 #[.pointer (some ⟨b,0,none⟩)] w fun e w'=>GotK No B w b (.slice a n Z) O U (.int .i64 (if Iq bs u.p then 1 else 0)) (if u.p=8*n then {u with e:=7}else {u with p:=u.p+1}) e w':=by
 obtain⟨c0,c1,ae⟩:=T.cell;have aw:=ae 1;have au:=aa.few;have H:=Ab T;have G:=Ab aa;clear T aa ae;obtain⟨p,Y⟩:=exq (u.p);rw[Y]at c1 ap ⊢;have av:=Ab Y;have al:=Ab ag;clear Y ag;obtain⟨ai,ac⟩:∃ai:Int,(if Iq bs p then (1:Int)else 0)=ai:=⟨_,rfl⟩
 rw[ac];have aj:=Ab ac;clear ac
 by_cases M:p=8*n
 . have hb:((p:Int)==8*(n:Int))=true:=by rw[beq_iff_eq];omega
   rw[if_pos M];obtain⟨u7,E⟩:∃u7:US,({p:=p,out:=u.out,ks:=u.ks,e:=7}:US)=u7:=⟨_,rfl⟩
   rw[E];have F:=Ab E;clear M E;go_enter Tryz.func248,Tryz.ntmps248
   go_wp2;go_quiet (fail)
   go_wp2_with fail
   refine(Cf 7 _).mono ?_;rintro e az ⟨rfl,rfl⟩;go_wp2;refine⟨rfl,.inr ⟨by rw[<-Aa F];exact(by decide:(7:Int)≠0),by rw[<-Aa F],(Bl.refl _ _ _).drewN _⟩⟩
 . have hb:((p:Int)==8*(n:Int))=false:=by rw[beq_eq_false_iff_ne];omega
   rw[if_neg M];obtain⟨u7,E⟩:∃u7:US,({p:=p+1,out:=u.out,ks:=u.ks,e:=u.e}:US)=u7:=⟨_,rfl⟩
   rw[E];have F:=Ab E;clear E;obtain⟨b2,o2,rfl,ay,ah⟩:=Dz (Aa G).byt (by rw[(Aa G).len];omega);have I:p/8<bs.length:=by rw[(Aa G).len];omega
   have ax:=ah _ I;have ak:=(Aa G).val (p/8);have ar:(p:Int)/8<(n:Int):=by omega
   have ao:=Ab (Z5l bs p);clear ah I;generalize bs.getD (p/8) 0=x at*;go_enter Tryz.func248,Tryz.ntmps248
   go_wp2;go_quiet (fail)
   go_wp2;go_quiet (fail)
   go_wp2;go_ret;refine .inl ⟨by rw[<-Aa F];exact Aa al,Dd ?_, ?_, ?_⟩
   . rw[<-Aa aj];refine(OS x (p%8) ak).trans ?_;rw[Aa ao]
     split<;>rfl
   . rw[<-Aa F]
     have key:∀q:Nat,IUp No B w b (.slice (some ⟨b2,o2,none⟩) n Z) O U {p:=p+1,out:=u.out,ks:=u.ks,e:=u.e} ((w.drewN q).setCell ⟨b,1,none⟩ (.int .i64 ((p:Int)+1))):=fun q=>by
      have af:=((Aa H).grown (w':=w.drewN q) ⟨rfl,rfl,rfl,VB _,fun _ _ _=>rfl⟩).setP (p+1);rw[show ((p+1:Nat):Int)=(p:Int)+1 by omega]at af;exact((IUp.refl (Aa H)).drewN q).trans af
     exact key _
   . intro j I;exact World.cell?_setCell_other _ _ _ _ (by intro e;exact I (by cases e;rfl))
theorem FT (row:List Bool)(p i:Nat)(E:p+i<row.length):Eb ((row.drop p).take (i+1))=Eb ((row.drop p).take i)+2^i*(if row.getD (p+i) false then 1 else 0):=by
 have hl:((row.drop p).take i).length=i:=by rw[VL,VQ];omega
 have e:(row.drop p).take (i+1)=(row.drop p).take i++ [row.getD (p+i) false]:=by
  rw[XM,XJ];simp[List.getD,E]
 rw[e,D8,hl]
 cases row.getD (p+i) false<;>simp[Eb]
theorem Z4a (m i x:Nat)(F:m<2^i)(E:i<=16)(G:x<2):bits .or .i64 (m:Int) ((x:Int)*2^i)=((m+2^i*x:Nat):Int):=by
 have M:2^i<=2^16:=VO (by decide) E;have e:((x:Int)*2^i)=((2^i*x:Nat):Int):=by push_cast;rw[Int.mul_comm]
 have I:2^i*x<=2^i*1:=Nat.mul_le_mul_left _ (by omega);have H:(2:Nat)^16=65536:=by decide
 rw[e,Nn _ _ (by omega) (by omega)];have:=Nat.two_pow_add_eq_or_of_lt (i:=i) (b:=m) F x
 rw[Nat.or_comm,<-this,Nat.add_comm]
theorem Re (No:Nat->Prop)(B b:Nat)(a:Option Addr)(n O E:Nat)(bs:List Nat)(G I:Value)(u:US)(w:World)(h:IIs No B w b (.slice a n O) G I u)(ag:Rd w No a n bs)(ba:u.p<=8*n)(ar:u.e=0)(bu:E<=16)(r:Nat)(v:US)(bb:Hid (uget (rowB bs n) E u=(r,v))):
 Calls Tryz.prog 230 #[.pointer (some ⟨b,0,none⟩),.int .i64 (E:Int)] w fun e w'=>GotK No B w b (.slice a n O) G I (.int .i64 (r:Int)) v e w':=by
 have ai:=Af bs n;have H:=Ab h;have au:=Ab ag;have Y:=Ab ar;have bj:=ag.few;clear h ag ar;obtain⟨p,Z⟩:=exq (u.p);rw[Z]at ba;have a8:=Ab Z
 have aj:Hid ((8*n<p+E->v= {p:=p,out:=u.out,ks:=u.ks,e:=7})/\(p+E<=8*n->r=Eb (((rowB bs n).drop p).take E)/\v= {u with p:=p+E})):=by
  have:=Aa bb
  unfold uget at this;rw[if_pos (Aa Y),ai,Z]at this
  constructor
  . intro ah;rw[if_pos ah]at this;exact(VN this).2.symm
  . intro ah;rw[if_neg (by omega)]at this;exact⟨(VN this).1.symm,(VN this).2.symm⟩
 clear Z ai;go_enter Tryz.func230,Tryz.ntmps230
 go_wp2;go_loopw [5,8] (fun a5 ac wr=>∃i m:Nat,i<=E/\p+i<=8*n/\ac=.int .i64 (i:Int)/\a5=.int .i64 (m:Int)/\Hid (m=Eb (((rowB bs n).drop p).take i))/\Hid (IUp No B w b (.slice a n O) G I {u with p:=p+i} wr/\Mx b w wr)) (fun _ ac _=>E-(intOf ac).toNat)
 case atStart=>exact⟨0,0,VH _,by omega,rfl,rfl,Ab (by simp[Eb]),Ab (by
  have:=IUp.refl (Aa H)
  rw[<-Aa a8];exact⟨this,fun _ _=>rfl⟩)⟩
 case round=>
  obtain⟨i,m,hi,av,rfl,rfl,hm,F⟩:=hrel
  by_cases bk:i<E
  . have bo:(i:Int)<(E:Int):=by omega
    have az:=(Aa F).1.is;have ae:=Ab (BO No B b a n O bs G I {u with p:=p+i} wr az ((Aa au).keep (Aa F).1.below.size (Aa F).1.kp) av (Aa Y))
    have bh:∃x:Nat,(if Iq bs (p+i)then (1:Int)else 0)=(x:Int)/\x<2/\x=(if (rowB bs n).getD (p+i) false then 1 else 0):=by
     by_cases bf:p+i<8*n
     . rw[Hf bs n (p+i) bf]
       cases Iq bs (p+i)
       . exact⟨0,rfl,by decide,rfl⟩
       . exact⟨1,rfl,by decide,rfl⟩
     . have a3:(rowB bs n).getD (p+i) false=false:=by
        simp only[List.getD];rw[WJ (by rw[Af];omega)];rfl
       by_cases hb:Iq bs (p+i)=true
       . exfalso
         unfold Iq at hb
         have:bs.getD ((p+i)/8) 0=0:=by
          simp only[List.getD];rw[WJ (by rw[(Aa au).len];omega)];rfl
         rw[this]at hb;simp at hb
       . rw[if_neg hb,a3];exact⟨0,rfl,by decide,rfl⟩
    obtain⟨x,ak,a4,a1⟩:=bh;rw[ak]at ae
    have aa:m<2^i:=by
     rw[Aa hm];refine VG (Jy _) (VO (by decide) ?_);rw[VL];exact ZP _ _
    have al:=Z4a m i x aa (by omega) a4
    have ay:wrap64 ((x:Int)*2^i)=(x:Int)*2^i:=by
     have bq:2^i<=2^16:=VO (by decide) (by omega);have bv:(2:Nat)^16=65536:=by decide
     have e:((x:Int)*2^i)=((x*2^i:Nat):Int):=by push_cast;rfl
     have ax:x*2^i<=1*2^i:=YZ _ (by omega);rw[e];generalize x*2^i=y at*;unfold wrap64;omega
    have a2:Hid (bits .or .i64 (m:Int) (wrap64 ((x:Int)*2^i))=((m+2^i*x:Nat):Int)):=Ab (by rw[ay];exact al);clear ay al;have bi:=Ab a1;have bn:=Ab aa;clear az ak a1 aa;go_wp2_with fail
    refine(Aa ae).mono ?_;rintro e bc a6
    rcases a6 with ⟨e0,rfl,af,hK⟩|⟨e0,rfl,ap⟩
    . have M:¬p+i=8*n:=fun T=>by
       rw[if_pos T]at e0;exact absurd e0 (show ¬(7:Int)=0 by decide)
      rw[if_neg M]at af;have a7:=Ab (And.intro ((Aa F).1.trans af) (fun j aw=>(hK j aw).trans ((Aa F).2 j aw):Mx b w bc));have bg:Hid (m+2^i*x=Eb (((rowB bs n).drop p).take (i+1))):=Ab (by rw[FT _ _ _ (by rw[Af];omega),<-Aa hm,<-Aa bi]);have bm:p+i<8*n:=by omega
      clear e0 af M hm hK;go_wp2;go_roundw
      case rel=>exact⟨i+1,m+2^i*x,by omega,by omega,by go_num,by rw[Aa a2],bg,by rw[<-WT];exact a7⟩
      case measure=>simp[intOf];omega
    . have M:p+i=8*n:=by
       by_cases T:p+i=8*n
       . exact T
       . rw[if_neg T]at e0;exact absurd (Aa Y) e0
      rw[if_pos M];have U:Hid (v= {p:=p,out:=u.out,ks:=u.ks,e:=7}):=Ab ((Aa aj).1 (by omega));have bd:=Ab ((Aa F).1.bl.trans ap);clear e0 ap M hm F ae;go_wp2;refine⟨rfl,.inr ⟨by rw[Aa U];exact(by decide:(7:Int)≠0),by rw[Aa U],Aa bd⟩⟩
  . obtain rfl:i=E:=by omega
    have U:Hid (GotK No B w b (.slice a n O) G I (.int .i64 (r:Int)) v (.returned (.int .i64 (m:Int))) wr):=by
     obtain⟨_,ax⟩:=Aa aj;obtain⟨a9,ao⟩:=ax av;refine .inl ⟨by rw[ao];exact Aa Y,by rw[a9,Aa hm],by rw[ao];exact(Aa F).1,(Aa F).2⟩
    clear hm F;go_wp2;go_ret;exact Aa U
theorem Dx (No:Nat->Prop)(B b:Nat)(a:Option Addr)(n H E:Nat)(bs:List Nat)(F G:Value)(u:US)(w:World)(I:IIs No B w b (.slice a n H) F G u)(U:Rd w No a n bs)(T:u.p<=8*n)(O:u.e=0)(M:E<=16)(r:Nat)(v:US)(Y:Hid (uget (rowB bs n) E u=(r,v))):
 Calls Tryz.prog 230 #[.pointer (some ⟨b,0,none⟩),.int .i64 (E:Int)] w fun e w'=>Got No B w b (.slice a n H) F G (.int .i64 (r:Int)) v e w':=(Re No B b a n H E bs F G u w I U T O M r v Y).mono (fun _ _ I=>I.got)
end Go.Proofs.YtleocpdblhbimaaGreatDoor
namespace Go.Proofs.YtleocpdblhbimaaGreatDoor
open Go.RowKit
set_option linter.unusedVariables false
def Arr (w:World)(b:Nat)(c:Nat->Nat):Prop:=w.heap[b]? =some (.cells (arr c) 328 (0,0))
theorem RS {c d:Nat->Nat}(E:∀n,n<16->c n=d n):arr c=arr d:=by
 unfold arr
 congr 1
 apply YR
 intro n hn;rw[E n (by simpa using hn)]
theorem Arr.congr {w:World}{b:Nat}{c d:Nat->Nat}(E:Arr w b c)(e:∀n,n<16->c n=d n):Arr w b d:=by
 unfold Arr;rw[<-RS e];exact E
theorem Arr.lt {w:World}{b:Nat}{c:Nat->Nat}(E:Arr w b c):b<w.heap.size:=by
 by_cases e:b<w.heap.size
 . exact e
 . have:w.heap[b]? =none:=by simp;omega
   rw[Arr,this]at E;cases E
theorem Arr.cell {w:World}{b:Nat}{c:Nat->Nat}(E:Arr w b c){j:Nat}(F:j<16):w.cell? ⟨b,j,none⟩=some (.int .i64 ((c j:Nat):Int)):=by
 rw[cell_of_row w b j _ _ _ E];exact RT c F
theorem Arr.frozen {w:World}{b:Nat}{c:Nat->Nat}(E:Arr w b c)(j:Nat):w.frozen? ⟨b,j,none⟩=false:=frozen_of_row w b j _ _ E
theorem Arr.new (w:World)(c:Nat->Nat){b:Nat}(E:b=w.heap.size):Arr (w.alloc (.cells (arr c) 328)) b c:=by rw[E];exact heap_alloc_new w _
theorem Arr.alloc {w:World}{b:Nat}{c:Nat->Nat}(E:Arr w b c)(o:Obj):Arr (w.alloc o) b c:=
 (Below.heap_alloc w o b E.lt).trans E
theorem Arr.below {w w':World}{B b:Nat}{c:Nat->Nat}(E:Arr w b c)(F:Below B w w')(G:b<B):Arr w' b c:=by
 unfold Arr;rw[F.block b G];exact E
theorem Arr.set {w:World}{b:Nat}{c:Nat->Nat}(E:Arr w b c)(j x:Nat):Arr (w.setCell ⟨b,j,none⟩ (.int .i64 ((x:Nat):Int))) b (upd c j x):=by
 unfold Arr;rw[heap_setCell_same w b j _ _ _ E,Z5q]
theorem Arr.other {w:World}{b:Nat}{c:Nat->Nat}(E:Arr w b c){a:Addr}(F:b≠a.block)(v:Value):Arr (w.setCell a v) b c:=by
 unfold Arr;rw[heap_setCell_other w a b v F];exact E
theorem Arr.setRow {w:World}{b:Nat}{c:Nat->Nat}(E:Arr w b c)(d:Nat->Nat):Arr (w.setRow b (arr d)) b d:=setRow_heap w b _ _ _ _ E
theorem Bg {B:Nat}{a w:World}(E:Below B a w){F:Nat}(I:B<=F)(G:Array Value):Below B a (w.setRow F G):=
 ⟨E.os,E.tape,E.output,by simp;exact E.size,fun k H=>(Go.setRow_other w F k G (by omega)).trans (E.block k H)⟩
theorem JV:(#[.int .i64 0,.int .i64 0,.int .i64 0,.int .i64 0,.int .i64 0,.int .i64 0,.int .i64 0,.int .i64 0,.int .i64 0,.int .i64 0,.int .i64 0,.int .i64 0,.int .i64 0,.int .i64 0,.int .i64 0,.int .i64 0]:Array Value)=arr (fun _=>0):=rfl
theorem Ph:(Tryz.prog.info? 328).map (·.size)=some 16:=by kernel_rfl
theorem Pd {F:Array Oper}{E:List Oper}{o:Oper}{a:Act}{w:World}{Q:Exit->Act->World->Prop}(H:o.guard=none)(x:Operand)(M:o.op=.load 328 x)
 (b:Nat) (c:Nat->Nat) (G:a.eval x=.pointer (some ⟨b,0,none⟩)) (I:Arr w b c) (k:wpList Tryz.prog F Q E (a.put o.dst (.agg (arr c))) w):wpList Tryz.prog F Q (o::E) a w:=
 wpList_load_row H 328 x M b G _ _ _ _ I Tryz.underlying328 rfl (by rw[Fm];exact Ph) k
theorem Fw {F:Array Oper}{E:List Oper}{o:Oper}{a:Act}{w:World}{Q:Exit->Act->World->Prop}(H:o.guard=none)(x y:Operand)(O:o.op=.store 328 x y)
 (b:Nat) (c d:Nat->Nat) (G:a.eval x=.pointer (some ⟨b,0,none⟩)) (I:a.eval y=.agg (arr d)) (M:Arr w b c) (k:wpList Tryz.prog F Q E (a.put o.dst undef) (w.setRow b (arr d))):wpList Tryz.prog F Q (o::E) a w:=
 wpList_store_row H 328 x y O b _ G I _ _ M (by rw[Fm];exact Ph) (by rw[Fm,Fm]) (Z5r d) k
theorem Ql {F:Array Oper}{E:List Oper}{o:Oper}{a:Act}{W:World}{Q:Exit->Act->World->Prop}(H:o.guard=none)(x y:Operand)(O:o.op=.store 328 x y)
 (w:World) (c d:Nat->Nat) (I:W=w.alloc (.cells (arr c) 328)) (G:a.eval x=.pointer (some ⟨w.heap.size,0,none⟩)) (M:a.eval y=.agg (arr d)) (k:wpList Tryz.prog F Q E (a.put o.dst undef) (w.alloc (.cells (arr d) 328))):wpList Tryz.prog F Q (o::E) a W:=by
 subst I;exact Fw H x y O _ c d G M (Arr.new w c rfl) (by rw[World.setRow_alloc_new];exact k)
theorem X8 {w:World}{b:Nat}{c:Nat->Nat}(E:Arr w b c):(loadVar 328 ⟨b,0,none⟩).run Tryz.prog w=.ok (.agg (arr c)) w:=
 run_loadVar_row w b _ _ _ _ _ E Tryz.underlying328 rfl (by rw[Fm];exact Ph)
theorem Fz {F:Func}{p u:Tmp}(H:F.results= #[.cell p 328,.tmp u])(E:Array Value)(w:World)(b:Nat)(c:Nat->Nat)(I:E.getD p undef=.pointer (some ⟨b,0,none⟩))(G:Arr w b c):
 (results F E).run Tryz.prog w=.ok (.tuple #[.agg (arr c),E.getD u undef]) w:=by
 rw[results_cell_tmp H,I];simp[asAddr,Result.andThen,X8 G]
theorem LD (c:Nat->Nat)(w:World)(G:∀n,c n<=288):
 Calls Tryz.prog 273 #[.agg (arr c)] w fun e w'=>e=.returned (.int .i64 (takenN c 15:Nat))/\Below w.heap.size w w':=by
 go_enter Tryz.func273,Tryz.ntmps273
 go_wp2;have M:=Ab (Arr.new w c rfl);have O:=Ab ((Below.refl w.heap.size w).alloc (VB _) (.cells (arr c) 328));go_loop [3,4] (fun s i=>∃k:Nat,k<=15/\i=.int .i64 ((k:Int)+1)/\s=.int .i64 (takenN c k:Nat)) (fun _ i=>16-(intOf i).toNat)
 case atStart=>exact⟨0,by omega,rfl,rfl⟩
 case round=>
  obtain⟨k,T,rfl,rfl⟩:=hrel
  by_cases Y:k<15
  . have c1:=(Aa M).cell (j:=k+1) (by omega);have F:=Zx c G (k+1);have H:Hid (takenN c (k+1)=takenN c k+c (k+1)*2^(14-k)):=rfl
    have E:wrap64 ((takenN c k:Int)+wrap64 ((c (k+1):Int)*2^(14-k)))=((takenN c (k+1):Nat):Int):=by
     rw[takenN]at F ⊢;have e:((c (k+1):Int)*2^(14-k))=((c (k+1)*2^(14-k):Nat):Int):=by push_cast;rfl
     rw[e];generalize c (k+1)*2^(14-k)=x at*;have U:(k+1)*(288*32768)<=15*(288*32768):=YZ _ (by omega);unfold wrap64;omega
    have I:=Ab E;clear F E;go_wp2;go_round
    case rel=>exact⟨k+1,by omega,by go_num,by rw[Aa I]⟩
    case measure=>simp[intOf];omega
  . obtain rfl:k=15:=by omega
    go_wp2;go_ret;exact⟨rfl,Aa O⟩
def K0 (c:Nat->Nat)(k:Nat):Nat->Nat:=fun n=>if 1<=n/\n<=k then Az c n else 0
theorem GU (c:Nat->Nat):K0 c 0=fun _=>0:=by funext n;simp[K0];omega
theorem GV (c:Nat->Nat)(k:Nat):upd (K0 c k) (k+1) (Az c (k+1))=K0 c (k+1):=by
 funext n
 simp only[upd,K0]
 by_cases e:n=k+1
 . subst e;simp
 . by_cases h:1<=n/\n<=k
   . have:1<=n/\n<=k+1:=by omega
     simp[e,h,this]
   . have:¬(1<=n/\n<=k+1):=by omega
     simp[e,h,this]
theorem PF (c:Nat->Nat)(n:Nat)(E:n<16):K0 c 15 n=Az c n:=by
 simp only[K0]
 by_cases e:n=0
 . subst e;simp[Az]
 . have:1<=n/\n<=15:=by omega
   simp[this]
theorem DC (c:Nat->Nat)(E:∀n,c n<=288):∀n,Az c (n+1)+576<=288*2^(n+1)
 |0=>by simp[Az]
 |n+1=>by
  have G:=DC c E n;have F:=E (n+1);rw[Az,XC];generalize 2^(n+1)=p at*;omega
def NL (c:Nat->Nat):Nat->Nat
 |0=>0
 |k+1=>Az c (k+1)+c (k+1)
theorem GY (c:Nat->Nat)(k:Nat):Az c (k+1)=2*NL c k:=by cases k<;>rfl
theorem Ry (c:Nat->Nat)(E:∀n,c n<=288){k:Nat}(H:k<=14):Az c (k+1)<=9437184:=by
 have G:=DC c E k;have F:=VO (n:=2) (by decide) (show k+1<=15 by omega);have I:288*2^(k+1)<=288*2^15:=Nat.mul_le_mul_left _ F;omega
set_option maxRecDepth 100000 in
theorem Ts (c:Nat->Nat)(w:World)(G:∀n,c n<=288):
 Calls Tryz.prog 255 #[.agg (arr c)] w fun e w'=>e=.returned (.agg (arr (Az c)))/\Below w.heap.size w w':=by
 go_enter Tryz.func255,Tryz.ntmps255
 go_wp2;simp only[JV];have O:=Ab (((Arr.new w c rfl).alloc (.cells (arr (fun _=>0)) 328)).alloc (.cells (arr (fun _=>0)) 328));have Y:=Ab ((Arr.new (w.alloc (.cells (arr c) 328)) (fun _=>0) (b:=w.heap.size+1) (by simp)).alloc (.cells (arr (fun _=>0)) 328));have M:=Ab (Arr.new ((w.alloc (.cells (arr c) 328)).alloc (.cells (arr (fun _=>0)) 328)) (fun _=>0) (b:=w.heap.size+1+1) (by simp));have U:=Ab ((((Below.refl w.heap.size w).alloc (VB _) (.cells (arr c) 328)).alloc (by simp) (.cells (arr (fun _=>0)) 328)).alloc (by simp;omega) (.cells (arr (fun _=>0)) 328));go_loopw [4,5] (fun s i wr=>∃k:Nat,k<=15/\i=.int .i64 ((k:Int)+1)/\s=.int .i64 (NL c k:Nat)/\Arr wr w.heap.size c/\Arr wr (w.heap.size+1) (fun _=>0)/\Arr wr (w.heap.size+1+1) (K0 c k)/\Below w.heap.size w wr) (fun _ i _=>16-(intOf i).toNat)
 case atStart=>exact⟨0,by omega,rfl,rfl,Aa O,Aa Y,by rw[GU];exact Aa M,Aa U⟩
 case round=>
  obtain⟨k,ao,rfl,rfl,E,aa,F,T⟩:=hrel;have ag:=Ab E;have H:=Ab aa;have Z:=Ab F;have I:=Ab T
  by_cases ak:k<15
  . have c1:=E.cell (j:=k+1) (by omega);have c2:=F.cell (j:=k+1) (by omega);have f2:=F.frozen (k+1);have ap:(wr.setCell ⟨w.heap.size+1+1,k+1,none⟩ (.int .i64 (Az c (k+1):Nat))).cell? ⟨w.heap.size,k+1,none⟩=some (.int .i64 ((c (k+1):Nat):Int)):=(E.other (by simp;omega) _).cell (by omega);have al:=Ry c G (k:=k) (by omega);have aj:=G (k+1);have ah:=GY c k;have ac:Hid (NL c (k+1)=Az c (k+1)+c (k+1)):=rfl;have ae:=Ab (GV c k);have ar:wrap64 ((NL c k:Int)*2)=((Az c (k+1):Nat):Int):=by unfold wrap64;omega
    clear E aa F T G O Y M U ah;generalize NL c k=m at*;go_wp2;go_roundw
    case rel=>exact⟨k+1,by omega,by go_num,by rw[Aa ac];go_num,(Aa ag).other (by simp;omega) _,(Aa H).other (by simp) _,by rw[<-Aa ae];exact(Aa Z).set _ _,(Aa I).setCell (by simp;omega) _⟩
    case measure=>simp[intOf];omega
  . obtain rfl:k=15:=by omega
    have ai:=Ab ((Aa Z).congr (PF c));go_wp2_with (first|(refine Pd rfl (.tmp 3) rfl _ (Az c) rfl (Aa ai) ?_)|(refine Fw rfl (.tmp 2) (.tmp 20) rfl _ _ (Az c) rfl rfl (Aa H) ?_))
    have af:=Ab ((Aa H).setRow (Az c));refine bodyPost_ret (v:=.agg (arr (Az c))) ?_ rfl ⟨rfl,Bg (Aa I) (by omega) _⟩;exact results_cell_row rfl _ _ _ _ _ _ _ rfl (Aa af) Tryz.underlying328 rfl (by rw[Fm];exact Ph)
end Go.Proofs.YtleocpdblhbimaaGreatDoor
