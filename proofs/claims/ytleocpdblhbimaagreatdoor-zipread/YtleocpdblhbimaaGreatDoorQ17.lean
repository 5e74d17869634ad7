import Derived.Test.YtleocpdblhbimaaGreatDoorQ11
import Derived.Maps.Own
import Derived.Maps.OwnSet
import Derived.WideKeyPair
import Derived.Deep.DeepCutAuto
import Derived.Deep.WholeRow
import Derived.Laws.ResultCell
set_option linter.unusedSimpArgs false
set_option linter.unusedVariables false
set_option maxRecDepth 100000
set_option maxHeartbeats 4000000
namespace Go.Proofs.YtleocpdblhbimaaGreatDoor
open Go.RowKit
theorem D8 (a b:List Bool):Eb (a++b)=Eb a+2^a.length*Eb b:=by
 induction a with
 |nil=>simp[Eb]
 |cons x r ih=>rw[XL,Eb,ih,Eb,VJ,XC,Nat.mul_add,<-XY,YF 2 (2^r.length),WT]
open Go.RowKit Go.Maps Go.WideMaps Go.ChangeShapes
theorem Z8p:ArrKey Tryz.prog 351 3 2:=⟨Tryz.underlying351,oR,oR,oR⟩
theorem Z80:Keyed Tryz.prog 351:=Keyed.of_law Z8p.law
theorem Z29:∃m,Tryz.prog.types.size=m+1:=⟨Tryz.prog.types.size-1,by have:0<Tryz.prog.types.size:=of_decide_eq_true oR;omega⟩
def kw (c:Nat×Nat):Value:=.agg #[.int .i64 (c.1:Int),.int .i64 (c.2:Int)]
def kwl (c:Nat×Nat):Lit:=.string (keyBytes [.int .i64 (c.1:Int),.int .i64 (c.2:Int)])
def OkW (c:Nat×Nat):Prop:=c.1<65536/\c.2<65536
theorem Wj {x:Nat}(E:x<65536):(Lit.int .i64 (x:Int)).wf=true:=by simp[Lit.wf,IntKind.min,IntKind.max,IntKind.signed,IntKind.bits];omega
theorem Pf {c:Nat×Nat}(E:OkW c):keyOf Tryz.prog 351 (kw c)=some (kwl c):=by have A:=Z8p;have G:=A.keyType Z29;obtain⟨m,hm⟩:=Z29;have F:Tryz.prog.underlying 3=some (.int .i64):=Tryz.underlying3;have H:=Wj E.1;have I:=Wj E.2;unfold keyOf kw kwl;simp only[A.hu];rw[if_pos (by simp[G,Value.formed,A.hu,A.size]),hm];unfold Program.keyLits;simp only[A.hu,Value.cells];rw[if_pos (by rw[A.size];rfl),show List.range 2= [0,1] from rfl,List.mapM_cons,List.mapM_cons,List.mapM_nil];simp[A.one,Program.keyLits,F,H,I]
theorem Z4u {c d:Nat×Nat}(F:OkW c)(E:OkW d)(G:kwl c=kwl d):c=d:=by have:=Z80.inj (Pf F) (by rw[G];exact Pf E);obtain⟨c1,c2⟩:=c;obtain⟨I,H⟩:=d;simp[kw]at this;simp only[YD];omega
def vH:List Bool->Nat
 | []=>0
 |b::r=>(if b then 2^r.length else 0)+vH r
theorem JZ:∀s,vH s<2^s.length
 | []=>by simp[vH]
 |b::r=>by have:=JZ r;rw[vH,VJ,XC];split<;>omega
theorem Q8:∀(s:List Bool) (b:Bool),vH (s++ [b])=2*vH s+(if b then 1 else 0)
 | [],b=>by cases b<;>rfl
 |x::r,b=>by rw[XL,vH,Q8 r b,vH,VE];simp only[VJ,WE,WG,XC];cases x<;>simp<;>omega
theorem KA:∀ {s t:List Bool},s.length=t.length->vH s=vH t->s=t
 | [],[],_,_=>rfl
 | [],_::_,h,_=>by simp at h
 |_::_,[],h,_=>by simp at h
 |a::s,b::t,h,e=>by(have hl:s.length=t.length:=by simpa using h);have E:=JZ s;have F:=JZ t;rw[vH,vH,hl]at e;rw[hl]at E;cases a<;>cases b<;>simp at e;rw[KA hl e];omega;omega;rw[KA hl e]
theorem Z60:∀n c,c<2^n->vH (hb c n)=c
 |0,c,h=>by simp at h;subst h;rfl
 |n+1,c,h=>by rw[hb,Q8,Z60 n (c/2) (by rw[XC]at h;omega)];have:=WY c;rcases this with e|e<;>simp[e]<;>omega
def kb (s:List Bool):Lit:=kwl (s.length,vH s)
theorem okb {s:List Bool}(E:s.length<=15):OkW (s.length,vH s):=by have G:=JZ s;have F:2^s.length<=2^15:=VO od E;exact⟨by simp only;omega,by simp only;omega⟩
theorem Z2o {s t:List Bool}(E:s.length<=15)(F:t.length<=15)(G:kb s=kb t):s=t:=by have:=Z4u (okb E) (okb F) G;exact KA (VN this).1 (VN this).2
theorem Z2n (s:List Bool):WideAt.IsKeyLit (kb s):=by first|trivial|exact⟨⟩|(unfold kb kwl WideAt.IsKeyLit;simp)
def decD (l:List Int):Nat->DataW Unit
 |0=>.map []
 |k+1=>if codeT l k= []then decD l k else (decD l k).put (kb (codeT l k)) (.lit (.int .i64 (k:Int)))
theorem Pn (l:List Int):∀k,IsMap (decD l k)
 |0=>isMap_empty
 |k+1=>by rw[decD];split;exact Pn l k;exact(Pn l k).put _ _
theorem QC (l:List Int)(M:∀k,(codeT l k).length<=15)(s:List Bool)(I:s≠ [])(H:s.length<=15):∀k,Maps.has (decD l k) (kb s)=decide (∃q,q<k/\codeT l q=s)
 |0=>by rw[decide_eq_false (by rintro ⟨q,h,_⟩;omega)];rfl
 |k+1=>by have ih:=QC l M s I H k;(have e:(∃q,q<k+1/\codeT l q=s)↔((∃q,q<k/\codeT l q=s)\/codeT l k=s):=by constructor;rintro ⟨q,T,E⟩;by_cases O:q=k;subst O;exact .inr E;exact .inl ⟨q,om,E⟩;rintro (⟨q,T,E⟩|h);exact⟨q,om,E⟩;exact⟨k,om,h⟩);rw[decD];by_cases G:codeT l k= [];rw[if_pos G,ih,XZ];simp only[decide_eq_true_eq,e];constructor;exact .inl;rintro (h|h);exact h;rw[G]at h;exact absurd h.symm I;rw[if_neg G];by_cases F:codeT l k=s;rw[F,has_put_same (Pn l k) (Z2n s),decide_eq_true (e.2 (.inr F))];rw[has_put_other (fun h=>F (Z2o (M k) H (by first|exact h|exact h.symm))),ih,XZ];simp only[decide_eq_true_eq,e];constructor;exact .inl;rintro (h|h);exact h;exact absurd h F
theorem QD (l:List Int)(I:∀k,(codeT l k).length<=15)(s:List Bool)(G:s≠ [])(F:s.length<=15)(E:∀q q',q<l.length->q'<l.length->codeT l q=s->codeT l q'=s->q=q')(H:DataW Unit):∀k,k<=l.length->∀q,q<k->codeT l q=s->(decD l k).atKey (kb s) H=.lit (.int .i64 (q:Int))
 |0,_,q,h,_=>om
 |k+1,hk,q,h,hq=>by rw[decD];by_cases M:codeT l k= [];rw[if_pos M];(have:q≠k:=fun e=>by subst e;rw[M]at hq;exact G hq.symm);exact QD l I s G F E H k om q om hq;rw[if_neg M];by_cases e:codeT l k=s;have:=E q k om om hq e;subst this;rw[e,atKey_put_same (Pn l _) (Z2n s)];rw[atKey_put_other (fun h=>e (Z2o (I k) F (by first|exact h|exact h.symm)))];(have:q≠k:=fun e2=>by subst e2;exact e hq);exact QD l I s G F E H k om q om hq
theorem Sq {l:List Int}(E:Good l)(k:Nat):(codeT l k).length<=15:=by unfold codeT;rw[Bd];by_cases F:k<l.length;have:=(E.ok k F).2;omega;rw[List.getD,WJ om];exact(by decide:(0:Int).toNat<=15)
theorem QM {l:List Int}(G:Good l){k n:Nat}(F:k<l.length)(E:l.getD k 0=(n:Int))(M:0<n):kb (codeT l k)=kwl (n,codeN l k)/\codeT l k≠ []/\OkW (n,codeN l k):=by have H:=(Ig l G F E M).2.2;have I:=(G.ok k F).2;rw[E]at I;(have e:codeT l k=hb (codeN l k) n:=by unfold codeT;rw[E];rfl);have O:2^n<=2^15:=VO od om;have T:(2:Nat)^15=32768:=od;refine⟨?_, ?_,⟨by simp only;omega,by simp only;omega⟩⟩;rw[e];unfold kb;rw[Bd,Z60 n _ H];intro h;have:=congrArg List.length h;rw[e,Bd]at this;simp at this;omega
abbrev Flt (x:Int):Ending:=.panicked [{v:=.iface 310 (.agg #[.int .i64 x]),recovered:=false}]
theorem Cf (x:Int)(w:World):Calls Tryz.prog 253 #[.int .i64 x] w fun e w'=>e=Flt x/\w'=w:=by go_enter Tryz.func253,Tryz.ntmps253;go_wp2;exact⟨rfl,rfl,rfl⟩
def icells (R:Value)(f1 f2:Value)(u:US)(ov kv:Value):Array Value:= #[R,.int .i64 (u.p:Int),ov,kv,f1,f2]
structure IIs (No:Nat->Prop)(B:Nat)(w:World)(b:Nat)(R f1 f2:Value)(u:US):Prop where
 base:B<=b
 no:¬No b
 ex:∃ov kv,w.heap[b]? =some (.cells (icells R f1 f2 u ov kv) 284 (0,0))/\w.ownsRow (b+1) 5 1 ov u.out.length (u8s u.out)/\w.ownsRow (b+1) 3 1 kv u.ks.length (i64s u.ks)/\(ov.ownBlock=none\/ov.ownBlock≠kv.ownBlock)/\(∀g,ov.ownBlock=some g->¬No g)/\(∀g,kv.ownBlock=some g->¬No g)
structure IUp (No:Nat->Prop)(B:Nat)(w:World)(b:Nat)(R f1 f2:Value)(u:US)(w':World):Prop where
 is:IIs No B w' b R f1 f2 u
 below:Below B w w'
 kp:Kp No w w'
theorem IIs.lt {No:Nat->Prop}{B b:Nat}{w:World}{R E H:Value}{u:US}(G:IIs No B w b R E H u):b<w.heap.size:=by obtain⟨ov,kv,F,_⟩:=G.ex;exact(VK.1 F).1
theorem IIs.cell {No:Nat->Prop}{B b:Nat}{w:World}{R F H:Value}{u:US}(G:IIs No B w b R F H u):w.cell? ⟨b,0,none⟩=some R/\w.cell? ⟨b,1,none⟩=some (.int .i64 (u.p:Int))/\∀j,w.frozen? ⟨b,j,none⟩=false:=by obtain⟨ov,kv,E,_⟩:=G.ex;exact⟨Ac E,Ac E,fun j=>frozen_of_row w b j _ _ E⟩
theorem IUp.refl {No:Nat->Prop}{B b:Nat}{w:World}{R E F:Value}{u:US}(G:IIs No B w b R E F u):IUp No B w b R E F u w:=⟨G,Below.refl _ _,Kp.refl _ _⟩
theorem IUp.trans {No:Nat->Prop}{B b:Nat}{w F G:World}{R I H g1 g2:Value}{u v:US}(E:IUp No B w b R I H u F)(k:IUp No B F b R g1 g2 v G):IUp No B w b R g1 g2 v G:=⟨k.is,E.below.trans k.below,E.kp.trans k.kp E.below.size⟩
theorem IIs.grown {No:Nat->Prop}{B b:Nat}{w w':World}{R H G:Value}{u:US}(E:IIs No B w b R H G u)(F:w.grownBy w' none):IIs No B w' b R H G u:=by obtain⟨ov,kv,T,I,M,O⟩:=E.ex;exact⟨E.base,E.no,ov,kv,(F.block b E.lt oS).trans T,Hv I F,Hv M F,O⟩
theorem IUp.drewN {No:Nat->Prop}{B b:Nat}{w w':World}{R F G:Value}{u:US}(E:IUp No B w b R F G u w')(q:Nat):IUp No B w b R F G u (w'.drewN q):=
 ⟨E.is.grown ⟨rfl,rfl,rfl,VB _,fun _ _ _=>rfl⟩,Ae E.below q,E.kp⟩
theorem IIs.set {No:Nat->Prop}{B b:Nat}{w:World}{R T M g1 g2:Value}{u:US}(E:IIs No B w b R T M u)(i:Nat)(v:Value)(G:US)(H:G.out=u.out)(ae:G.ks=u.ks)(ag:∀ov kv,(icells R T M u ov kv).setIfInBounds i v=icells R g1 g2 G ov kv):IUp No B w b R g1 g2 G (w.setCell ⟨b,i,none⟩ v):=by
 obtain⟨ov,kv,Z,I,O,Y,af,ac⟩:=E.ex;have F:=Ad w b i v
 have U:∀ {e size n:Nat} {x:Value} {xs:List Value},w.ownsRow (b+1) e size x n xs->x.ownBlock=none\/x.ownBlock≠some b:=fun {e size n x xs} H=>by
  cases aa:x.ownBlock with
  |none=>exact .inl rfl
  |some g=>refine .inr (fun e=> ?_);have:=(H.lt g aa).1;cases e;omega
 refine⟨⟨E.base,E.no,ov,kv, ?_,by rw[H];exact I.kept F (U I),by rw[ae];exact O.kept F (U O),Y,af,ac⟩, ?_, ?_⟩;rw[heap_setCell_same w b i _ _ _ Z,ag];exact(Below.refl B w).grown F (VU E.base (YX E.lt)) (fun g e=>by cases e;exact E.base);exact(Kp.refl No w).grown F (VB _) (fun g e=>by cases e;exact E.no)
theorem IIs.setP {No:Nat->Prop}{B b:Nat}{w:World}{R E F:Value}{u:US}(G:IIs No B w b R E F u)(q:Nat):IUp No B w b R E F {u with p:=q} (w.setCell ⟨b,1,none⟩ (.int .i64 (q:Int))):=G.set 1 _ _ rfl rfl (fun _ _=>rfl)
structure Bl (No:Nat->Prop)(B:Nat)(w w':World):Prop where
 below:Below B w w'
 kp:Kp No w w'
theorem Bl.refl (No:Nat->Prop)(B:Nat)(w:World):Bl No B w w:=⟨Below.refl _ _,Kp.refl _ _⟩
theorem Bl.trans {No:Nat->Prop}{B:Nat}{w F G:World}(E:Bl No B w F)(k:Bl No B F G):Bl No B w G:=⟨E.below.trans k.below,E.kp.trans k.kp E.below.size⟩
theorem Bl.drewN {No:Nat->Prop}{B:Nat}{w E:World}(F:Bl No B w E)(q:Nat):Bl No B w (E.drewN q):=⟨Ae F.below q,F.kp⟩
theorem Bl.weaken {No No':Nat->Prop}{B:Nat}{w E:World}(F:Bl No' B w E)(G:∀g,No g->No' g):Bl No B w E:=⟨F.below,F.kp.weaken G⟩
theorem IUp.bl {No:Nat->Prop}{B b:Nat}{w w':World}{R F G:Value}{u:US}(E:IUp No B w b R F G u w'):Bl No B w w':=⟨E.below,E.kp⟩
def Got (No:Nat->Prop)(B:Nat)(w:World)(b:Nat)(R f1 f2:Value)(v:Value)(u:US)(e:Ending)(w':World):Prop:=
 (u.e=0/\e=.returned v/\IUp No B w b R f1 f2 u w')\/ (u.e≠0/\e=Flt u.e/\Bl No B w w')
def Mx (b:Nat)(w w':World):Prop:=∀j,j≠1->w'.cell? ⟨b,j,none⟩=w.cell? ⟨b,j,none⟩
def GotK (No:Nat->Prop)(B:Nat)(w:World)(b:Nat)(R f1 f2:Value)(v:Value)(u:US)(e:Ending)(w':World):Prop:=
 (u.e=0/\e=.returned v/\IUp No B w b R f1 f2 u w'/\Mx b w w')\/ (u.e≠0/\e=Flt u.e/\Bl No B w w')
theorem GotK.got {No:Nat->Prop}{B b:Nat}{w w':World}{R G F v:Value}{u:US}{e:Ending}(E:GotK No B w b R G F v u e w'):Got No B w b R G F v u e w':=by(rcases E with ⟨M,H,I,_⟩|E);exact .inl ⟨M,H,I⟩;exact .inr E
theorem OS (x r:Nat)(G:x<256):bits .and .i64 (wrap64 ((x:Int)/2^r)) 1=((x/2^r%2:Nat):Int):=by(have e:((x:Int)/2^r)=((x/2^r:Nat):Int):=by push_cast;rfl);have h:x/2^r<=x:=YO _ _;(have E:wrap64 ((x:Int)/2^r)=((x/2^r:Nat):Int):=by rw[e];generalize x/2^r=y at*;unfold wrap64;omega);rw[E];have F:=Y7 (x/2^r) 0 om;simpa using F
theorem Z5l (bs:List Nat)(p:Nat):bs.getD (p/8) 0/2^(p%8)%2=if Iq bs p then 1 else 0:=by unfold Iq;exact RK _ _
structure Rd (w:World)(No:Nat->Prop)(a:Option Addr)(n:Nat)(bs:List Nat):Prop where
 len:bs.length=n
 few:n<=6000
 byt:BytesIn w a bs
 val:∀j,bs.getD j 0<256
 no:∀b o,a=some ⟨b,o,none⟩->bs≠ []->No b
theorem Rd.keep {w w':World}{No:Nat->Prop}{a:Option Addr}{n:Nat}{bs:List Nat}(E:Rd w No a n bs)(O:w.heap.size<=w'.heap.size)(H:Kp No w w'):Rd w' No a n bs:=by refine⟨E.len,E.few, ?_,E.val,E.no⟩;by_cases e:bs= [];exact .inl e;rcases E.byt with G|⟨b,o,F,hb,I⟩;exact absurd G e;exact .inr ⟨b,o,F,om,fun j M=>(World.cell?_of_block (w:=w) (a:=⟨b,_,none⟩) (H b hb (E.no b o F e))).trans (I j M)⟩
theorem BO (No:Nat->Prop)(B b:Nat)(a:Option Addr)(n aa:Nat)(bs:List Nat)(T M:Value)(u:US)(w:World)(Z:IIs No B w b (.slice a n aa) T M u)(U:Rd w No a n bs)(aj:u.p<=8*n)(ah:u.e=0):Calls Tryz.prog 248 #[.pointer (some ⟨b,0,none⟩)] w fun e w'=>GotK No B w b (.slice a n aa) T M (.int .i64 (if Iq bs u.p then 1 else 0)) (if u.p=8*n then {u with e:=7}else {u with p:=u.p+1}) e w':=by obtain⟨c0,c1,af⟩:=Z.cell;have ar:=af 1;have ay:=U.few;have H:=Ab Z;have G:=Ab U;clear Z U af;obtain⟨p,ac⟩:=exq (u.p);rw[ac]at c1 aj ⊢;have ax:=Ab ac;have ap:=Ab ah;clear ac ah;obtain⟨ai,O⟩:∃ai:Int,(if Iq bs p then (1:Int)else 0)=ai:=⟨_,rfl⟩;rw[O];have ak:=Ab O;clear O;by_cases Y:p=8*n;(. (have hb:((p:Int)==8*(n:Int))=true:=by rw[beq_iff_eq];omega);rw[if_pos Y];obtain⟨u7,E⟩:∃u7:US,({p:=p,out:=u.out,ks:=u.ks,e:=7}:US)=u7:=⟨_,rfl⟩;rw[E];have F:=Ab E;clear Y E;go_enter Tryz.func248,Tryz.ntmps248;go_wp2;go_quiet (fail);go_wp2_with fail;refine(Cf 7 _).mono ?_;rintro e au ⟨rfl,rfl⟩;go_wp2;refine⟨rfl,.inr ⟨by rw[<-Aa F];exact(by decide:(7:Int)≠0),by rw[<-Aa F],(Bl.refl _ _ _).drewN _⟩⟩);. (have hb:((p:Int)==8*(n:Int))=false:=by rw[beq_eq_false_iff_ne];omega);rw[if_neg Y];obtain⟨u7,E⟩:∃u7:US,({p:=p+1,out:=u.out,ks:=u.ks,e:=u.e}:US)=u7:=⟨_,rfl⟩;rw[E];have F:=Ab E;clear E;obtain⟨b2,o2,rfl,av,ag⟩:=Dz (Aa G).byt (by rw[(Aa G).len];omega);(have I:p/8<bs.length:=by rw[(Aa G).len];omega);have az:=ag _ I;have ao:=(Aa G).val (p/8);have aw:(p:Int)/8<(n:Int):=om;have al:=Ab (Z5l bs p);clear ag I;generalize bs.getD (p/8) 0=x at*;go_enter Tryz.func248,Tryz.ntmps248;go_wp2;go_quiet (fail);go_wp2;go_quiet (fail);go_wp2;go_ret;refine .inl ⟨by rw[<-Aa F];exact Aa ap,Dd ?_, ?_, ?_⟩;(. rw[<-Aa ak];refine(OS x (p%8) ao).trans ?_;rw[Aa al];split<;>rfl);rw[<-Aa F];(have key:∀q:Nat,IUp No B w b (.slice (some ⟨b2,o2,none⟩) n aa) T M {p:=p+1,out:=u.out,ks:=u.ks,e:=u.e} ((w.drewN q).setCell ⟨b,1,none⟩ (.int .i64 ((p:Int)+1))):=fun q=>by have ae:=((Aa H).grown (w':=w.drewN q) ⟨rfl,rfl,rfl,VB _,fun _ _ _=>rfl⟩).setP (p+1);rw[show ((p+1:Nat):Int)=(p:Int)+1 by omega]at ae;exact((IUp.refl (Aa H)).drewN q).trans ae);exact key _;intro j I;exact World.cell?_setCell_other _ _ _ _ (by intro e;exact I (by cases e;rfl))
theorem FT (row:List Bool)(p i:Nat)(E:p+i<row.length):Eb ((row.drop p).take (i+1))=Eb ((row.drop p).take i)+2^i*(if row.getD (p+i) false then 1 else 0):=by(have hl:((row.drop p).take i).length=i:=by rw[VL,VQ];omega);(have e:(row.drop p).take (i+1)=(row.drop p).take i++ [row.getD (p+i) false]:=by rw[XM,XJ];simp[List.getD,E]);rw[e,D8,hl];cases row.getD (p+i) false<;>simp[Eb]
theorem Z4a (m i x:Nat)(F:m<2^i)(E:i<=16)(M:x<2):bits .or .i64 (m:Int) ((x:Int)*2^i)=((m+2^i*x:Nat):Int):=by have I:2^i<=2^16:=VO od E;(have e:((x:Int)*2^i)=((2^i*x:Nat):Int):=by push_cast;rw[Int.mul_comm]);have G:2^i*x<=2^i*1:=Nat.mul_le_mul_left _ om;have H:(2:Nat)^16=65536:=od;rw[e,Nn _ _ om om];have:=Nat.two_pow_add_eq_or_of_lt (i:=i) (b:=m) F x;rw[Nat.or_comm,<-this,Nat.add_comm]
theorem Re (No:Nat->Prop)(B b:Nat)(a:Option Addr)(n O E:Nat)(bs:List Nat)(M I:Value)(u:US)(w:World)(h:IIs No B w b (.slice a n O) M I u)(ae:Rd w No a n bs)(a2:u.p<=8*n)(az:u.e=0)(bk:E<=16)(r:Nat)(v:US)(a9:Hid (uget (rowB bs n) E u=(r,v))):Calls Tryz.prog 230 #[.pointer (some ⟨b,0,none⟩),.int .i64 (E:Int)] w fun e w'=>GotK No B w b (.slice a n O) M I (.int .i64 (r:Int)) v e w':=by have av:=Af bs n;have H:=Ab h;have ai:=Ab ae;have Y:=Ab az;have bq:=ae.few;clear h ae az;obtain⟨p,Z⟩:=exq (u.p);rw[Z]at a2;have ba:=Ab Z;(have au:Hid ((8*n<p+E->v= {p:=p,out:=u.out,ks:=u.ks,e:=7})/\(p+E<=8*n->r=Eb (((rowB bs n).drop p).take E)/\v= {u with p:=p+E})):=by have:=Aa a9;unfold uget at this;rw[if_pos (Aa Y),av,Z]at this;constructor;intro ar;rw[if_pos ar]at this;exact(VN this).2.symm;intro ar;rw[if_neg om]at this;exact⟨(VN this).1.symm,(VN this).2.symm⟩);clear Z av;go_enter Tryz.func230,Tryz.ntmps230;go_wp2;go_loopw [5,8] (fun a7 ac wr=>∃i m:Nat,i<=E/\p+i<=8*n/\ac=.int .i64 (i:Int)/\a7=.int .i64 (m:Int)/\Hid (m=Eb (((rowB bs n).drop p).take i))/\Hid (IUp No B w b (.slice a n O) M I {u with p:=p+i} wr/\Mx b w wr)) (fun _ ac _=>E-(intOf ac).toNat);(case atStart=>exact⟨0,0,VH _,om,rfl,rfl,Ab (by simp[Eb]),Ab (by have:=IUp.refl (Aa H);rw[<-Aa ba];exact⟨this,fun _ _=>rfl⟩)⟩);case round=>obtain⟨i,m,hi,ao,rfl,rfl,hm,F⟩:=hrel;by_cases bu:i<E;(. have bo:(i:Int)<(E:Int):=om;have aw:=(Aa F).1.is;have af:=Ab (BO No B b a n O bs M I {u with p:=p+i} wr aw ((Aa ai).keep (Aa F).1.below.size (Aa F).1.kp) ao (Aa Y));(have bf:∃x:Nat,(if Iq bs (p+i)then (1:Int)else 0)=(x:Int)/\x<2/\x=(if (rowB bs n).getD (p+i) false then 1 else 0):=by by_cases a8:p+i<8*n;(. rw[Hf bs n (p+i) a8];cases Iq bs (p+i);exact⟨0,rfl,od,rfl⟩;exact⟨1,rfl,od,rfl⟩);(have bh:(rowB bs n).getD (p+i) false=false:=by simp only[List.getD];rw[WJ (by rw[Af];omega)];rfl);by_cases hb:Iq bs (p+i)=true;exfalso;unfold Iq at hb;(have:bs.getD ((p+i)/8) 0=0:=by simp only[List.getD];rw[WJ (by rw[(Aa ai).len];omega)];rfl);rw[this]at hb;simp at hb;rw[if_neg hb,bh];exact⟨0,rfl,od,rfl⟩);obtain⟨x,ay,bb,ap⟩:=bf;rw[ay]at af;(have aa:m<2^i:=by rw[Aa hm];refine VG (Jy _) (VO od ?_);rw[VL];exact ZP _ _);have a1:=Z4a m i x aa om bb;(have aj:wrap64 ((x:Int)*2^i)=(x:Int)*2^i:=by have bv:2^i<=2^16:=VO od om;have bm:(2:Nat)^16=65536:=od;(have e:((x:Int)*2^i)=((x*2^i:Nat):Int):=by push_cast;rfl);have al:x*2^i<=1*2^i:=YZ _ om;rw[e];generalize x*2^i=y at*;unfold wrap64;omega);have a6:Hid (bits .or .i64 (m:Int) (wrap64 ((x:Int)*2^i))=((m+2^i*x:Nat):Int)):=Ab (by rw[aj];exact a1);clear aj a1;have bi:=Ab ap;have bj:=Ab aa;clear aw ay ap aa;go_wp2_with fail;refine(Aa af).mono ?_;rintro e a4 bg;(rcases bg with ⟨e0,rfl,ag,hK⟩|⟨e0,rfl,ak⟩);(. (have G:¬p+i=8*n:=fun U=>by rw[if_pos U]at e0;exact absurd e0 (show ¬(7:Int)=0 by decide));rw[if_neg G]at ag;have bd:=Ab (And.intro ((Aa F).1.trans ag) (fun j ax=>(hK j ax).trans ((Aa F).2 j ax):Mx b w a4));have bc:Hid (m+2^i*x=Eb (((rowB bs n).drop p).take (i+1))):=Ab (by rw[FT _ _ _ (by rw[Af];omega),<-Aa hm,<-Aa bi]);have bn:p+i<8*n:=om;clear e0 ag G hm hK;go_wp2;go_roundw;(case rel=>exact⟨i+1,m+2^i*x,om,om,by go_num,by rw[Aa a6],bc,by rw[<-WT];exact bd⟩);case measure=>simp[intOf];omega);. (have G:p+i=8*n:=by by_cases U:p+i=8*n;exact U;rw[if_neg U]at e0;exact absurd (Aa Y) e0);rw[if_pos G];have T:Hid (v= {p:=p,out:=u.out,ks:=u.ks,e:=7}):=Ab ((Aa au).1 om);have a3:=Ab ((Aa F).1.bl.trans ak);clear e0 ak G hm F af;go_wp2;refine⟨rfl,.inr ⟨by rw[Aa T];exact(by decide:(7:Int)≠0),by rw[Aa T],Aa a3⟩⟩);. obtain rfl:i=E:=om;(have T:Hid (GotK No B w b (.slice a n O) M I (.int .i64 (r:Int)) v (.returned (.int .i64 (m:Int))) wr):=by obtain⟨_,al⟩:=Aa au;obtain⟨a5,ah⟩:=al ao;refine .inl ⟨by rw[ah];exact Aa Y,by rw[a5,Aa hm],by rw[ah];exact(Aa F).1,(Aa F).2⟩);clear hm F;go_wp2;go_ret;exact Aa T
theorem Dx (No:Nat->Prop)(B b:Nat)(a:Option Addr)(n I E:Nat)(bs:List Nat)(G F:Value)(u:US)(w:World)(H:IIs No B w b (.slice a n I) G F u)(Y:Rd w No a n bs)(O:u.p<=8*n)(M:u.e=0)(U:E<=16)(r:Nat)(v:US)(T:Hid (uget (rowB bs n) E u=(r,v))):
 Calls Tryz.prog 230 #[.pointer (some ⟨b,0,none⟩),.int .i64 (E:Int)] w fun e w'=>Got No B w b (.slice a n I) G F (.int .i64 (r:Int)) v e w':=(Re No B b a n I E bs G F u w H Y O M U r v T).mono (fun _ _ H=>H.got)
def Arr (w:World)(b:Nat)(c:Nat->Nat):Prop:=w.heap[b]? =some (.cells (arr c) 328 (0,0))
theorem RS {c d:Nat->Nat}(E:∀n,n<16->c n=d n):arr c=arr d:=by unfold arr;congr 1;apply YR;intro n hn;rw[E n (by simpa using hn)]
theorem Arr.congr {w:World}{b:Nat}{c d:Nat->Nat}(E:Arr w b c)(e:∀n,n<16->c n=d n):Arr w b d:=by unfold Arr;rw[<-RS e];exact E
theorem Arr.lt {w:World}{b:Nat}{c:Nat->Nat}(E:Arr w b c):b<w.heap.size:=by by_cases e:b<w.heap.size;exact e;. have:w.heap[b]? =none:=oO;rw[Arr,this]at E;cases E
theorem Arr.cell {w:World}{b:Nat}{c:Nat->Nat}(F:Arr w b c){j:Nat}(E:j<16):w.cell? ⟨b,j,none⟩=some (.int .i64 ((c j:Nat):Int)):=by rw[cell_of_row w b j _ _ _ F];exact RT c E
theorem Arr.frozen {w:World}{b:Nat}{c:Nat->Nat}(E:Arr w b c)(j:Nat):w.frozen? ⟨b,j,none⟩=false:=frozen_of_row w b j _ _ E
theorem Arr.new (w:World)(c:Nat->Nat){b:Nat}(E:b=w.heap.size):Arr (w.alloc (.cells (arr c) 328)) b c:=by rw[E];exact heap_alloc_new w _
theorem Arr.alloc {w:World}{b:Nat}{c:Nat->Nat}(E:Arr w b c)(o:Obj):Arr (w.alloc o) b c:=
 (Below.heap_alloc w o b E.lt).trans E
theorem Arr.below {w w':World}{B b:Nat}{c:Nat->Nat}(F:Arr w b c)(E:Below B w w')(G:b<B):Arr w' b c:=by unfold Arr;rw[E.block b G];exact F
theorem Arr.set {w:World}{b:Nat}{c:Nat->Nat}(E:Arr w b c)(j x:Nat):Arr (w.setCell ⟨b,j,none⟩ (.int .i64 ((x:Nat):Int))) b (upd c j x):=by unfold Arr;rw[heap_setCell_same w b j _ _ _ E,Z5q]
theorem Arr.other {w:World}{b:Nat}{c:Nat->Nat}(E:Arr w b c){a:Addr}(F:b≠a.block)(v:Value):Arr (w.setCell a v) b c:=by unfold Arr;rw[heap_setCell_other w a b v F];exact E
theorem Arr.setRow {w:World}{b:Nat}{c:Nat->Nat}(E:Arr w b c)(d:Nat->Nat):Arr (w.setRow b (arr d)) b d:=setRow_heap w b _ _ _ _ E
theorem Bg {B:Nat}{a w:World}(E:Below B a w){F:Nat}(I:B<=F)(G:Array Value):Below B a (w.setRow F G):=
 ⟨E.os,E.tape,E.output,by simp;exact E.size,fun k H=>(Go.setRow_other w F k G om).trans (E.block k H)⟩
theorem JV:(#[.int .i64 0,.int .i64 0,.int .i64 0,.int .i64 0,.int .i64 0,.int .i64 0,.int .i64 0,.int .i64 0,.int .i64 0,.int .i64 0,.int .i64 0,.int .i64 0,.int .i64 0,.int .i64 0,.int .i64 0,.int .i64 0]:Array Value)=arr (fun _=>0):=rfl
theorem Ph:(Tryz.prog.info? 328).map (·.size)=some 16:=oR
theorem Pd {E:Array Oper}{F:List Oper}{o:Oper}{a:Act}{w:World}{Q:Exit->Act->World->Prop}(G:o.guard=none)(x:Operand)(H:o.op=.load 328 x)
 (b:Nat) (c:Nat->Nat) (I:a.eval x=.pointer (some ⟨b,0,none⟩)) (M:Arr w b c) (k:wpList Tryz.prog E Q F (a.put o.dst (.agg (arr c))) w):wpList Tryz.prog E Q (o::F) a w:=
 wpList_load_row G 328 x H b I _ _ _ _ M Tryz.underlying328 rfl (by rw[Fm];exact Ph) k
theorem Fw {E:Array Oper}{F:List Oper}{o:Oper}{a:Act}{w:World}{Q:Exit->Act->World->Prop}(G:o.guard=none)(x y:Operand)(I:o.op=.store 328 x y)
 (b:Nat) (c d:Nat->Nat) (M:a.eval x=.pointer (some ⟨b,0,none⟩)) (H:a.eval y=.agg (arr d)) (O:Arr w b c) (k:wpList Tryz.prog E Q F (a.put o.dst undef) (w.setRow b (arr d))):wpList Tryz.prog E Q (o::F) a w:=
 wpList_store_row G 328 x y I b _ M H _ _ O (by rw[Fm];exact Ph) (by rw[Fm,Fm]) (Z5r d) k
theorem Ql {E:Array Oper}{F:List Oper}{o:Oper}{a:Act}{W:World}{Q:Exit->Act->World->Prop}(G:o.guard=none)(x y:Operand)(I:o.op=.store 328 x y) (w:World) (c d:Nat->Nat) (M:W=w.alloc (.cells (arr c) 328)) (O:a.eval x=.pointer (some ⟨w.heap.size,0,none⟩)) (H:a.eval y=.agg (arr d)) (k:wpList Tryz.prog E Q F (a.put o.dst undef) (w.alloc (.cells (arr d) 328))):wpList Tryz.prog E Q (o::F) a W:=by subst M;exact Fw G x y I _ c d O H (Arr.new w c rfl) (by rw[World.setRow_alloc_new];exact k)
theorem X8 {w:World}{b:Nat}{c:Nat->Nat}(E:Arr w b c):(loadVar 328 ⟨b,0,none⟩).run Tryz.prog w=.ok (.agg (arr c)) w:=
 run_loadVar_row w b _ _ _ _ _ E Tryz.underlying328 rfl (by rw[Fm];exact Ph)
theorem Fz {F:Func}{p u:Tmp}(I:F.results= #[.cell p 328,.tmp u])(E:Array Value)(w:World)(b:Nat)(c:Nat->Nat)(G:E.getD p undef=.pointer (some ⟨b,0,none⟩))(H:Arr w b c):(results F E).run Tryz.prog w=.ok (.tuple #[.agg (arr c),E.getD u undef]) w:=by rw[results_cell_tmp I,G];simp[asAddr,Result.andThen,X8 H]
theorem LD (c:Nat->Nat)(w:World)(O:∀n,c n<=288):Calls Tryz.prog 273 #[.agg (arr c)] w fun e w'=>e=.returned (.int .i64 (takenN c 15:Nat))/\Below w.heap.size w w':=by go_enter Tryz.func273,Tryz.ntmps273;go_wp2;have G:=Ab (Arr.new w c rfl);have M:=Ab ((Below.refl w.heap.size w).alloc (VB _) (.cells (arr c) 328));go_loop [3,4] (fun s i=>∃k:Nat,k<=15/\i=.int .i64 ((k:Int)+1)/\s=.int .i64 (takenN c k:Nat)) (fun _ i=>16-(intOf i).toNat);(case atStart=>exact⟨0,om,rfl,rfl⟩);case round=>obtain⟨k,Y,rfl,rfl⟩:=hrel;by_cases U:k<15;(. have c1:=(Aa G).cell (j:=k+1) om;have E:=Zx c O (k+1);have H:Hid (takenN c (k+1)=takenN c k+c (k+1)*2^(14-k)):=rfl;(have F:wrap64 ((takenN c k:Int)+wrap64 ((c (k+1):Int)*2^(14-k)))=((takenN c (k+1):Nat):Int):=by rw[takenN]at E ⊢;(have e:((c (k+1):Int)*2^(14-k))=((c (k+1)*2^(14-k):Nat):Int):=by push_cast;rfl);rw[e];generalize c (k+1)*2^(14-k)=x at*;have T:(k+1)*(288*32768)<=15*(288*32768):=YZ _ om;unfold wrap64;omega);have I:=Ab F;clear E F;go_wp2;go_round;(case rel=>exact⟨k+1,om,by go_num,by rw[Aa I]⟩);case measure=>simp[intOf];omega);. obtain rfl:k=15:=om;go_wp2;go_ret;exact⟨rfl,Aa M⟩
def K0 (c:Nat->Nat)(k:Nat):Nat->Nat:=fun n=>if 1<=n/\n<=k then Az c n else 0
theorem GU (c:Nat->Nat):K0 c 0=fun _=>0:=by funext n;simp[K0];omega
theorem GV (c:Nat->Nat)(k:Nat):upd (K0 c k) (k+1) (Az c (k+1))=K0 c (k+1):=by funext n;simp only[upd,K0];by_cases e:n=k+1;subst e;simp;by_cases h:1<=n/\n<=k;have:1<=n/\n<=k+1:=om;simp[e,h,this];have:¬(1<=n/\n<=k+1):=om;simp[e,h,this]
theorem PF (c:Nat->Nat)(n:Nat)(E:n<16):K0 c 15 n=Az c n:=by simp only[K0];by_cases e:n=0;subst e;simp[Az];have:1<=n/\n<=15:=om;simp[this]
theorem DC (c:Nat->Nat)(E:∀n,c n<=288):∀n,Az c (n+1)+576<=288*2^(n+1)
 |0=>by simp[Az]
 |n+1=>by have G:=DC c E n;have F:=E (n+1);rw[Az,XC];generalize 2^(n+1)=p at*;omega
def NL (c:Nat->Nat):Nat->Nat
 |0=>0
 |k+1=>Az c (k+1)+c (k+1)
theorem GY (c:Nat->Nat)(k:Nat):Az c (k+1)=2*NL c k:=by cases k<;>rfl
theorem Ry (c:Nat->Nat)(F:∀n,c n<=288){k:Nat}(I:k<=14):Az c (k+1)<=9437184:=by have H:=DC c F k;have E:=VO (n:=2) od (show k+1<=15 by omega);have G:288*2^(k+1)<=288*2^15:=Nat.mul_le_mul_left _ E;omega
set_option maxRecDepth 100000 in
theorem Ts (c:Nat->Nat)(w:World)(G:∀n,c n<=288):Calls Tryz.prog 255 #[.agg (arr c)] w fun e w'=>e=.returned (.agg (arr (Az c)))/\Below w.heap.size w w':=by go_enter Tryz.func255,Tryz.ntmps255;go_wp2;simp only[JV];have O:=Ab (((Arr.new w c rfl).alloc (.cells (arr (fun _=>0)) 328)).alloc (.cells (arr (fun _=>0)) 328));have I:=Ab ((Arr.new (w.alloc (.cells (arr c) 328)) (fun _=>0) (b:=w.heap.size+1) oS).alloc (.cells (arr (fun _=>0)) 328));have M:=Ab (Arr.new ((w.alloc (.cells (arr c) 328)).alloc (.cells (arr (fun _=>0)) 328)) (fun _=>0) (b:=w.heap.size+1+1) oS);have Y:=Ab ((((Below.refl w.heap.size w).alloc (VB _) (.cells (arr c) 328)).alloc oS (.cells (arr (fun _=>0)) 328)).alloc oO (.cells (arr (fun _=>0)) 328));go_loopw [4,5] (fun s i wr=>∃k:Nat,k<=15/\i=.int .i64 ((k:Int)+1)/\s=.int .i64 (NL c k:Nat)/\Arr wr w.heap.size c/\Arr wr (w.heap.size+1) (fun _=>0)/\Arr wr (w.heap.size+1+1) (K0 c k)/\Below w.heap.size w wr) (fun _ i _=>16-(intOf i).toNat);(case atStart=>exact⟨0,om,rfl,rfl,Aa O,Aa I,by rw[GU];exact Aa M,Aa Y⟩);case round=>obtain⟨k,ap,rfl,rfl,E,U,F,Z⟩:=hrel;have af:=Ab E;have H:=Ab U;have T:=Ab F;have aa:=Ab Z;by_cases ar:k<15;(. have c1:=E.cell (j:=k+1) om;have c2:=F.cell (j:=k+1) om;have f2:=F.frozen (k+1);have ao:(wr.setCell ⟨w.heap.size+1+1,k+1,none⟩ (.int .i64 (Az c (k+1):Nat))).cell? ⟨w.heap.size,k+1,none⟩=some (.int .i64 ((c (k+1):Nat):Int)):=(E.other oO _).cell om;have ak:=Ry c G (k:=k) om;have al:=G (k+1);have ai:=GY c k;have ag:Hid (NL c (k+1)=Az c (k+1)+c (k+1)):=rfl;have ae:=Ab (GV c k);(have aj:wrap64 ((NL c k:Int)*2)=((Az c (k+1):Nat):Int):=by unfold wrap64;omega);clear E U F Z G O I M Y ai;generalize NL c k=m at*;go_wp2;go_roundw;(case rel=>exact⟨k+1,om,by go_num,by rw[Aa ag];go_num,(Aa af).other oO _,(Aa H).other oS _,by rw[<-Aa ae];exact(Aa T).set _ _,(Aa aa).setCell oO _⟩);case measure=>simp[intOf];omega);. obtain rfl:k=15:=om;have ah:=Ab ((Aa T).congr (PF c));go_wp2_with (first|(refine Pd rfl (.tmp 3) rfl _ (Az c) rfl (Aa ah) ?_)|(refine Fw rfl (.tmp 2) (.tmp 20) rfl _ _ (Az c) rfl rfl (Aa H) ?_));have ac:=Ab ((Aa H).setRow (Az c));refine bodyPost_ret (v:=.agg (arr (Az c))) ?_ rfl ⟨rfl,Bg (Aa aa) om _⟩;exact results_cell_row rfl _ _ _ _ _ _ _ rfl (Aa ac) Tryz.underlying328 rfl (by rw[Fm];exact Ph)
end Go.Proofs.YtleocpdblhbimaaGreatDoor
