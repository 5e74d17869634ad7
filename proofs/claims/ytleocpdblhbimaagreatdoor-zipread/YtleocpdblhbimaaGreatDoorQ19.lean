import Derived.Test.YtleocpdblhbimaaGreatDoorQ18
import Derived.Deep.DeepCutAuto
import Derived.Deep.WholeRow
import Derived.Laws.ResultCell
import Derived.OwnWalk
set_option linter.unusedSimpArgs false
set_option maxHeartbeats 1000000
namespace Go.Proofs.YtleocpdblhbimaaGreatDoor
open Go.RowKit
set_option linter.unusedVariables false
set_option maxRecDepth 100000
abbrev Flt (x:Int):Ending:=.panicked [{v:=.iface 310 (.agg #[.int .i64 x]),recovered:=false}]
theorem Cf (x:Int)(w:World):Calls Tryz.prog 253 #[.int .i64 x] w fun e w'=>e=Flt x/\w'=w:=by
 go_enter Tryz.func253,Tryz.ntmps253
 go_wp2;exact⟨rfl,rfl,rfl⟩
def icells (R:Value)(f1 f2:Value)(u:US)(ov kv:Value):Array Value:= #[R,.int .i64 (u.p:Int),ov,kv,f1,f2]
structure IIs (No:Nat->Prop)(B:Nat)(w:World)(b:Nat)(R f1 f2:Value)(u:US):Prop where
 base:B<=b
 no:¬No b
 ex:∃ov kv,w.heap[b]? =some (.cells (icells R f1 f2 u ov kv) 284 (0,0))/\w.ownsRow (b+1) 5 1 ov u.out.length (u8s u.out)/\w.ownsRow (b+1) 3 1 kv u.ks.length (i64s u.ks)/\(ov.ownBlock=none\/ov.ownBlock≠kv.ownBlock)/\(∀g,ov.ownBlock=some g->¬No g)/\(∀g,kv.ownBlock=some g->¬No g)
structure IUp (No:Nat->Prop)(B:Nat)(w:World)(b:Nat)(R f1 f2:Value)(u:US)(w':World):Prop where
 is:IIs No B w' b R f1 f2 u
 below:Below B w w'
 kp:Kp No w w'
theorem IIs.lt {No:Nat->Prop}{B b:Nat}{w:World}{R F E:Value}{u:US}(H:IIs No B w b R F E u):b<w.heap.size:=by
 obtain⟨ov,kv,G,_⟩:=H.ex;exact(VK.1 G).1
theorem IIs.cell {No:Nat->Prop}{B b:Nat}{w:World}{R G F:Value}{u:US}(H:IIs No B w b R G F u):w.cell? ⟨b,0,none⟩=some R/\w.cell? ⟨b,1,none⟩=some (.int .i64 (u.p:Int))/\∀j,w.frozen? ⟨b,j,none⟩=false:=by
 obtain⟨ov,kv,E,_⟩:=H.ex;exact⟨Ac E,Ac E,fun j=>frozen_of_row w b j _ _ E⟩
theorem IUp.refl {No:Nat->Prop}{B b:Nat}{w:World}{R F E:Value}{u:US}(G:IIs No B w b R F E u):IUp No B w b R F E u w:=⟨G,Below.refl _ _,Kp.refl _ _⟩
theorem IUp.trans {No:Nat->Prop}{B b:Nat}{w G F:World}{R I H g1 g2:Value}{u v:US}(E:IUp No B w b R I H u G)(k:IUp No B G b R g1 g2 v F):IUp No B w b R g1 g2 v F:=⟨k.is,E.below.trans k.below,E.kp.trans k.kp E.below.size⟩
theorem IIs.grown {No:Nat->Prop}{B b:Nat}{w w':World}{R H G:Value}{u:US}(E:IIs No B w b R H G u)(F:w.grownBy w' none):IIs No B w' b R H G u:=by
 obtain⟨ov,kv,T,M,I,O⟩:=E.ex;exact⟨E.base,E.no,ov,kv,(F.block b E.lt (by simp)).trans T,Hv M F,Hv I F,O⟩
theorem IUp.drewN {No:Nat->Prop}{B b:Nat}{w w':World}{R G F:Value}{u:US}(E:IUp No B w b R G F u w')(q:Nat):IUp No B w b R G F u (w'.drewN q):=
 ⟨E.is.grown ⟨rfl,rfl,rfl,VB _,fun _ _ _=>rfl⟩,Ae E.below q,E.kp⟩
theorem IIs.set {No:Nat->Prop}{B b:Nat}{w:World}{R M I g1 g2:Value}{u:US}(E:IIs No B w b R M I u)(i:Nat)(v:Value)(F:US)(H:F.out=u.out)(aa:F.ks=u.ks)(ae:∀ov kv,(icells R M I u ov kv).setIfInBounds i v=icells R g1 g2 F ov kv):IUp No B w b R g1 g2 F (w.setCell ⟨b,i,none⟩ v):=by
 obtain⟨ov,kv,af,T,O,ab,Z,ac⟩:=E.ex;have G:=Ad w b i v
 have U:∀ {e size n:Nat} {x:Value} {xs:List Value},w.ownsRow (b+1) e size x n xs->x.ownBlock=none\/x.ownBlock≠some b:=fun {e size n x xs} H=>by
  cases Y:x.ownBlock with
  |none=>exact .inl rfl
  |some g=>
   refine .inr (fun e=> ?_);have:=(H.lt g Y).1
   cases e
   omega
 refine⟨⟨E.base,E.no,ov,kv, ?_,by rw[H];exact T.kept G (U T),by rw[aa];exact O.kept G (U O),ab,Z,ac⟩, ?_, ?_⟩
 . rw[heap_setCell_same w b i _ _ _ af,ae]
 . exact(Below.refl B w).grown G (VU E.base (YX E.lt)) (fun g e=>by cases e;exact E.base)
 . exact(Kp.refl No w).grown G (VB _) (fun g e=>by cases e;exact E.no)
theorem IIs.setP {No:Nat->Prop}{B b:Nat}{w:World}{R F E:Value}{u:US}(G:IIs No B w b R F E u)(q:Nat):IUp No B w b R F E {u with p:=q} (w.setCell ⟨b,1,none⟩ (.int .i64 (q:Int))):=G.set 1 _ _ rfl rfl (fun _ _=>rfl)
structure Bl (No:Nat->Prop)(B:Nat)(w w':World):Prop where
 below:Below B w w'
 kp:Kp No w w'
theorem Bl.refl (No:Nat->Prop)(B:Nat)(w:World):Bl No B w w:=⟨Below.refl _ _,Kp.refl _ _⟩
theorem Bl.trans {No:Nat->Prop}{B:Nat}{w F G:World}(E:Bl No B w F)(k:Bl No B F G):Bl No B w G:=⟨E.below.trans k.below,E.kp.trans k.kp E.below.size⟩
theorem Bl.drewN {No:Nat->Prop}{B:Nat}{w E:World}(F:Bl No B w E)(q:Nat):Bl No B w (E.drewN q):=⟨Ae F.below q,F.kp⟩
theorem Bl.weaken {No No':Nat->Prop}{B:Nat}{w E:World}(F:Bl No' B w E)(G:∀g,No g->No' g):Bl No B w E:=⟨F.below,F.kp.weaken G⟩
theorem IUp.bl {No:Nat->Prop}{B b:Nat}{w w':World}{R G F:Value}{u:US}(E:IUp No B w b R G F u w'):Bl No B w w':=⟨E.below,E.kp⟩
def Got (No:Nat->Prop)(B:Nat)(w:World)(b:Nat)(R f1 f2:Value)(v:Value)(u:US)(e:Ending)(w':World):Prop:=
 (u.e=0/\e=.returned v/\IUp No B w b R f1 f2 u w')\/ (u.e≠0/\e=Flt u.e/\Bl No B w w')
def Mx (b:Nat)(w w':World):Prop:=∀j,j≠1->w'.cell? ⟨b,j,none⟩=w.cell? ⟨b,j,none⟩
def GotK (No:Nat->Prop)(B:Nat)(w:World)(b:Nat)(R f1 f2:Value)(v:Value)(u:US)(e:Ending)(w':World):Prop:=
 (u.e=0/\e=.returned v/\IUp No B w b R f1 f2 u w'/\Mx b w w')\/ (u.e≠0/\e=Flt u.e/\Bl No B w w')
theorem GotK.got {No:Nat->Prop}{B b:Nat}{w w':World}{R G F v:Value}{u:US}{e:Ending}(E:GotK No B w b R G F v u e w'):Got No B w b R G F v u e w':=by
 rcases E with ⟨M,I,H,_⟩|E
 . exact .inl ⟨M,I,H⟩
 . exact .inr E
theorem OS (x r:Nat)(G:x<256):bits .and .i64 (wrap64 ((x:Int)/2^r)) 1=((x/2^r%2:Nat):Int):=by
 have e:((x:Int)/2^r)=((x/2^r:Nat):Int):=by push_cast;rfl
 have h:x/2^r<=x:=YO _ _
 have F:wrap64 ((x:Int)/2^r)=((x/2^r:Nat):Int):=by
  rw[e];generalize x/2^r=y at*;unfold wrap64;omega
 rw[F];have E:=Y7 (x/2^r) 0 (by omega);simpa using E
theorem Z5l (bs:List Nat)(p:Nat):bs.getD (p/8) 0/2^(p%8)%2=if Iq bs p then 1 else 0:=by
 unfold Iq;exact RK _ _
structure Rd (w:World)(No:Nat->Prop)(a:Option Addr)(n:Nat)(bs:List Nat):Prop where
 len:bs.length=n
 few:n<=6000
 byt:BytesIn w a bs
 val:∀j,bs.getD j 0<256
 no:∀b o,a=some ⟨b,o,none⟩->bs≠ []->No b
theorem Rd.keep {w w':World}{No:Nat->Prop}{a:Option Addr}{n:Nat}{bs:List Nat}(E:Rd w No a n bs)(O:w.heap.size<=w'.heap.size)(G:Kp No w w'):Rd w' No a n bs:=by
 refine⟨E.len,E.few, ?_,E.val,E.no⟩
 by_cases e:bs= []
 . exact .inl e
 . rcases E.byt with M|⟨b,o,F,hb,I⟩
   . exact absurd M e
   . exact .inr ⟨b,o,F,by omega,fun j H=>(World.cell?_of_block (w:=w) (a:=⟨b,_,none⟩) (G b hb (E.no b o F e))).trans (I j H)⟩
theorem BO (No:Nat->Prop)(B b:Nat)(a:Option Addr)(n U:Nat)(bs:List Nat)(O M:Value)(u:US)(w:World)(Y:IIs No B w b (.slice a n U) O M u)(ab:Rd w No a n bs)(al:u.p<=8*n)(af:u.e=0):
 Calls Tryz.prog 248 #[.pointer (some ⟨b,0,none⟩)] w fun e w'=>GotK No B w b (.slice a n U) O M (.int .i64 (if Iq bs u.p then 1 else 0)) (if u.p=8*n then {u with e:=7}else {u with p:=u.p+1}) e w':=by
 obtain⟨c0,c1,ag⟩:=Y.cell;have ao:=ag 1;have ar:=ab.few;have H:=Ab Y;have G:=Ab ab;clear Y ab ag;obtain⟨p,aa⟩:=exq (u.p);rw[aa]at c1 al ⊢;have au:=Ab aa;have am:=Ab af;clear aa af;obtain⟨ah,Z⟩:∃ah:Int,(if Iq bs p then (1:Int)else 0)=ah:=⟨_,rfl⟩
 rw[Z];have aj:=Ab Z;clear Z
 by_cases T:p=8*n
 . have hb:((p:Int)==8*(n:Int))=true:=by rw[beq_iff_eq];omega
   rw[if_pos T];obtain⟨u7,E⟩:∃u7:US,({p:=p,out:=u.out,ks:=u.ks,e:=7}:US)=u7:=⟨_,rfl⟩
   rw[E];have F:=Ab E;clear T E;go_enter Tryz.func248,Tryz.ntmps248
   go_wp2;go_quiet (fail)
   go_wp2_with fail
   refine(Cf 7 _).mono ?_;rintro e an ⟨rfl,rfl⟩;go_wp2;refine⟨rfl,.inr ⟨by rw[<-Aa F];exact(by decide:(7:Int)≠0),by rw[<-Aa F],(Bl.refl _ _ _).drewN _⟩⟩
 . have hb:((p:Int)==8*(n:Int))=false:=by rw[beq_eq_false_iff_ne];omega
   rw[if_neg T];obtain⟨u7,E⟩:∃u7:US,({p:=p+1,out:=u.out,ks:=u.ks,e:=u.e}:US)=u7:=⟨_,rfl⟩
   rw[E];have F:=Ab E;clear E;obtain⟨b2,o2,rfl,ap,ac⟩:=Dz (Aa G).byt (by rw[(Aa G).len];omega);have I:p/8<bs.length:=by rw[(Aa G).len];omega
   have aq:=ac _ I;have ak:=(Aa G).val (p/8);have as:(p:Int)/8<(n:Int):=by omega
   have ai:=Ab (Z5l bs p);clear ac I;generalize bs.getD (p/8) 0=x at*;go_enter Tryz.func248,Tryz.ntmps248
   go_wp2;go_quiet (fail)
   go_wp2;go_quiet (fail)
   go_wp2;go_ret;refine .inl ⟨by rw[<-Aa F];exact Aa am,Dd ?_, ?_, ?_⟩
   . rw[<-Aa aj];refine(OS x (p%8) ak).trans ?_;rw[Aa ai]
     split<;>rfl
   . rw[<-Aa F]
     have key:∀q:Nat,IUp No B w b (.slice (some ⟨b2,o2,none⟩) n U) O M {p:=p+1,out:=u.out,ks:=u.ks,e:=u.e} ((w.drewN q).setCell ⟨b,1,none⟩ (.int .i64 ((p:Int)+1))):=fun q=>by
      have ae:=((Aa H).grown (w':=w.drewN q) ⟨rfl,rfl,rfl,VB _,fun _ _ _=>rfl⟩).setP (p+1);rw[show ((p+1:Nat):Int)=(p:Int)+1 by omega]at ae;exact((IUp.refl (Aa H)).drewN q).trans ae
     exact key _
   . intro j I;exact World.cell?_setCell_other _ _ _ _ (by intro e;exact I (by cases e;rfl))
theorem FT (row:List Bool)(p i:Nat)(E:p+i<row.length):Eb ((row.drop p).take (i+1))=Eb ((row.drop p).take i)+2^i*(if row.getD (p+i) false then 1 else 0):=by
 have hl:((row.drop p).take i).length=i:=by rw[VL,VQ];omega
 have e:(row.drop p).take (i+1)=(row.drop p).take i++ [row.getD (p+i) false]:=by
  rw[XM,XJ];simp[List.getD,E]
 rw[e,D8,hl]
 cases row.getD (p+i) false<;>simp[Eb]
theorem Z4a (m i x:Nat)(E:m<2^i)(F:i<=16)(G:x<2):bits .or .i64 (m:Int) ((x:Int)*2^i)=((m+2^i*x:Nat):Int):=by
 have M:2^i<=2^16:=VO (by decide) F;have e:((x:Int)*2^i)=((2^i*x:Nat):Int):=by push_cast;rw[Int.mul_comm]
 have I:2^i*x<=2^i*1:=Nat.mul_le_mul_left _ (by omega);have H:(2:Nat)^16=65536:=by decide
 rw[e,Nn _ _ (by omega) (by omega)];have:=Nat.two_pow_add_eq_or_of_lt (i:=i) (b:=m) E x
 rw[Nat.or_comm,<-this,Nat.add_comm]
theorem Re (No:Nat->Prop)(B b:Nat)(a:Option Addr)(n M E:Nat)(bs:List Nat)(I G:Value)(u:US)(w:World)(h:IIs No B w b (.slice a n M) I G u)(af:Rd w No a n bs)(a5:u.p<=8*n)(as:u.e=0)(bc:E<=16)(r:Nat)(v:US)(bb:Hid (uget (rowB bs n) E u=(r,v))):
 Calls Tryz.prog 230 #[.pointer (some ⟨b,0,none⟩),.int .i64 (E:Int)] w fun e w'=>GotK No B w b (.slice a n M) I G (.int .i64 (r:Int)) v e w':=by
 have aq:=Af bs n;have H:=Ab h;have ag:=Ab af;have Z:=Ab as;have bg:=af.few;clear h af as;obtain⟨p,Y⟩:=exq (u.p);rw[Y]at a5;have a9:=Ab Y
 have ah:Hid ((8*n<p+E->v= {p:=p,out:=u.out,ks:=u.ks,e:=7})/\(p+E<=8*n->r=Eb (((rowB bs n).drop p).take E)/\v= {u with p:=p+E})):=by
  have:=Aa bb
  unfold uget at this;rw[if_pos (Aa Z),aq,Y]at this
  constructor
  . intro ak;rw[if_pos ak]at this;exact(VN this).2.symm
  . intro ak;rw[if_neg (by omega)]at this;exact⟨(VN this).1.symm,(VN this).2.symm⟩
 clear Y aq;go_enter Tryz.func230,Tryz.ntmps230
 go_wp2;go_loopw [5,8] (fun aw ab wr=>∃i m:Nat,i<=E/\p+i<=8*n/\ab=.int .i64 (i:Int)/\aw=.int .i64 (m:Int)/\Hid (m=Eb (((rowB bs n).drop p).take i))/\Hid (IUp No B w b (.slice a n M) I G {u with p:=p+i} wr/\Mx b w wr)) (fun _ ab _=>E-(intOf ab).toNat)
 case atStart=>exact⟨0,0,VH _,by omega,rfl,rfl,Ab (by simp[Eb]),Ab (by
  have:=IUp.refl (Aa H)
  rw[<-Aa a9];exact⟨this,fun _ _=>rfl⟩)⟩
 case round=>
  obtain⟨i,m,hi,al,rfl,rfl,hm,F⟩:=hrel
  by_cases bf:i<E
  . have bj:(i:Int)<(E:Int):=by omega
    have ar:=(Aa F).1.is;have ae:=Ab (BO No B b a n M bs I G {u with p:=p+i} wr ar ((Aa ag).keep (Aa F).1.below.size (Aa F).1.kp) al (Aa Z))
    have az:∃x:Nat,(if Iq bs (p+i)then (1:Int)else 0)=(x:Int)/\x<2/\x=(if (rowB bs n).getD (p+i) false then 1 else 0):=by
     by_cases a6:p+i<8*n
     . rw[Hf bs n (p+i) a6]
       cases Iq bs (p+i)
       . exact⟨0,rfl,by decide,rfl⟩
       . exact⟨1,rfl,by decide,rfl⟩
     . have ay:(rowB bs n).getD (p+i) false=false:=by
        simp only[List.getD];rw[WJ (by rw[Af];omega)];rfl
       by_cases hb:Iq bs (p+i)=true
       . exfalso
         unfold Iq at hb
         have:bs.getD ((p+i)/8) 0=0:=by
          simp only[List.getD];rw[WJ (by rw[(Aa ag).len];omega)];rfl
         rw[this]at hb;simp at hb
       . rw[if_neg hb,ay];exact⟨0,rfl,by decide,rfl⟩
    obtain⟨x,ap,ba,an⟩:=az;rw[ap]at ae
    have aa:m<2^i:=by
     rw[Aa hm];refine VG (Jy _) (VO (by decide) ?_);rw[VL];exact ZP _ _
    have ai:=Z4a m i x aa (by omega) ba
    have aj:wrap64 ((x:Int)*2^i)=(x:Int)*2^i:=by
     have bd:2^i<=2^16:=VO (by decide) (by omega);have be:(2:Nat)^16=65536:=by decide
     have e:((x:Int)*2^i)=((x*2^i:Nat):Int):=by push_cast;rfl
     have am:x*2^i<=1*2^i:=YZ _ (by omega);rw[e];generalize x*2^i=y at*;unfold wrap64;omega
    have a1:Hid (bits .or .i64 (m:Int) (wrap64 ((x:Int)*2^i))=((m+2^i*x:Nat):Int)):=Ab (by rw[aj];exact ai);clear aj ai;have a3:=Ab an;have bh:=Ab aa;clear ar ap an aa;go_wp2_with fail
    refine(Aa ae).mono ?_;rintro e ax a4
    rcases a4 with ⟨e0,rfl,ac,hK⟩|⟨e0,rfl,au⟩
    . have O:¬p+i=8*n:=fun U=>by
       rw[if_pos U]at e0;exact absurd e0 (show ¬(7:Int)=0 by decide)
      rw[if_neg O]at ac;have a2:=Ab (And.intro ((Aa F).1.trans ac) (fun j ao=>(hK j ao).trans ((Aa F).2 j ao):Mx b w ax));have a0:Hid (m+2^i*x=Eb (((rowB bs n).drop p).take (i+1))):=Ab (by rw[FT _ _ _ (by rw[Af];omega),<-Aa hm,<-Aa a3]);have bi:p+i<8*n:=by omega
      clear e0 ac O hm hK;go_wp2;go_roundw
      case rel=>exact⟨i+1,m+2^i*x,by omega,by omega,by go_num,by rw[Aa a1],a0,by rw[<-WT];exact a2⟩
      case measure=>simp[intOf];omega
    . have O:p+i=8*n:=by
       by_cases U:p+i=8*n
       . exact U
       . rw[if_neg U]at e0;exact absurd (Aa Z) e0
      rw[if_pos O];have T:Hid (v= {p:=p,out:=u.out,ks:=u.ks,e:=7}):=Ab ((Aa ah).1 (by omega));have a7:=Ab ((Aa F).1.bl.trans au);clear e0 au O hm F ae;go_wp2;refine⟨rfl,.inr ⟨by rw[Aa T];exact(by decide:(7:Int)≠0),by rw[Aa T],Aa a7⟩⟩
  . obtain rfl:i=E:=by omega
    have T:Hid (GotK No B w b (.slice a n M) I G (.int .i64 (r:Int)) v (.returned (.int .i64 (m:Int))) wr):=by
     obtain⟨_,am⟩:=Aa ah;obtain⟨a8,av⟩:=am al;refine .inl ⟨by rw[av];exact Aa Z,by rw[a8,Aa hm],by rw[av];exact(Aa F).1,(Aa F).2⟩
    clear hm F;go_wp2;go_ret;exact Aa T
theorem Dx (No:Nat->Prop)(B b:Nat)(a:Option Addr)(n I E:Nat)(bs:List Nat)(G F:Value)(u:US)(w:World)(H:IIs No B w b (.slice a n I) G F u)(M:Rd w No a n bs)(T:u.p<=8*n)(U:u.e=0)(Y:E<=16)(r:Nat)(v:US)(O:Hid (uget (rowB bs n) E u=(r,v))):
 Calls Tryz.prog 230 #[.pointer (some ⟨b,0,none⟩),.int .i64 (E:Int)] w fun e w'=>Got No B w b (.slice a n I) G F (.int .i64 (r:Int)) v e w':=(Re No B b a n I E bs G F u w H M T U Y r v O).mono (fun _ _ H=>H.got)
end Go.Proofs.YtleocpdblhbimaaGreatDoor
namespace Go.Proofs.YtleocpdblhbimaaGreatDoor
open Go.RowKit
set_option linter.unusedVariables false
def Arr (w:World)(b:Nat)(c:Nat->Nat):Prop:=w.heap[b]? =some (.cells (arr c) 328 (0,0))
theorem RS {c d:Nat->Nat}(E:∀n,n<16->c n=d n):arr c=arr d:=by
 unfold arr
 congr 1
 apply YR
 intro n hn;rw[E n (by simpa using hn)]
theorem Arr.congr {w:World}{b:Nat}{c d:Nat->Nat}(E:Arr w b c)(e:∀n,n<16->c n=d n):Arr w b d:=by
 unfold Arr;rw[<-RS e];exact E
theorem Arr.lt {w:World}{b:Nat}{c:Nat->Nat}(E:Arr w b c):b<w.heap.size:=by
 by_cases e:b<w.heap.size
 . exact e
 . have:w.heap[b]? =none:=by simp;omega
   rw[Arr,this]at E;cases E
theorem Arr.cell {w:World}{b:Nat}{c:Nat->Nat}(F:Arr w b c){j:Nat}(E:j<16):w.cell? ⟨b,j,none⟩=some (.int .i64 ((c j:Nat):Int)):=by
 rw[cell_of_row w b j _ _ _ F];exact RT c E
theorem Arr.frozen {w:World}{b:Nat}{c:Nat->Nat}(E:Arr w b c)(j:Nat):w.frozen? ⟨b,j,none⟩=false:=frozen_of_row w b j _ _ E
theorem Arr.new (w:World)(c:Nat->Nat){b:Nat}(E:b=w.heap.size):Arr (w.alloc (.cells (arr c) 328)) b c:=by rw[E];exact heap_alloc_new w _
theorem Arr.alloc {w:World}{b:Nat}{c:Nat->Nat}(E:Arr w b c)(o:Obj):Arr (w.alloc o) b c:=
 (Below.heap_alloc w o b E.lt).trans E
theorem Arr.below {w w':World}{B b:Nat}{c:Nat->Nat}(G:Arr w b c)(F:Below B w w')(E:b<B):Arr w' b c:=by
 unfold Arr;rw[F.block b E];exact G
theorem Arr.set {w:World}{b:Nat}{c:Nat->Nat}(E:Arr w b c)(j x:Nat):Arr (w.setCell ⟨b,j,none⟩ (.int .i64 ((x:Nat):Int))) b (upd c j x):=by
 unfold Arr;rw[heap_setCell_same w b j _ _ _ E,Z5q]
theorem Arr.other {w:World}{b:Nat}{c:Nat->Nat}(F:Arr w b c){a:Addr}(E:b≠a.block)(v:Value):Arr (w.setCell a v) b c:=by
 unfold Arr;rw[heap_setCell_other w a b v E];exact F
theorem Arr.setRow {w:World}{b:Nat}{c:Nat->Nat}(E:Arr w b c)(d:Nat->Nat):Arr (w.setRow b (arr d)) b d:=setRow_heap w b _ _ _ _ E
theorem Bg {B:Nat}{a w:World}(E:Below B a w){F:Nat}(I:B<=F)(G:Array Value):Below B a (w.setRow F G):=
 ⟨E.os,E.tape,E.output,by simp;exact E.size,fun k H=>(Go.setRow_other w F k G (by omega)).trans (E.block k H)⟩
theorem JV:(#[.int .i64 0,.int .i64 0,.int .i64 0,.int .i64 0,.int .i64 0,.int .i64 0,.int .i64 0,.int .i64 0,.int .i64 0,.int .i64 0,.int .i64 0,.int .i64 0,.int .i64 0,.int .i64 0,.int .i64 0,.int .i64 0]:Array Value)=arr (fun _=>0):=rfl
theorem Ph:(Tryz.prog.info? 328).map (·.size)=some 16:=by kernel_rfl
theorem Pd {E:Array Oper}{F:List Oper}{o:Oper}{a:Act}{w:World}{Q:Exit->Act->World->Prop}(M:o.guard=none)(x:Operand)(H:o.op=.load 328 x)
 (b:Nat) (c:Nat->Nat) (G:a.eval x=.pointer (some ⟨b,0,none⟩)) (I:Arr w b c) (k:wpList Tryz.prog E Q F (a.put o.dst (.agg (arr c))) w):wpList Tryz.prog E Q (o::F) a w:=
 wpList_load_row M 328 x H b G _ _ _ _ I Tryz.underlying328 rfl (by rw[Fm];exact Ph) k
theorem Fw {E:Array Oper}{F:List Oper}{o:Oper}{a:Act}{w:World}{Q:Exit->Act->World->Prop}(M:o.guard=none)(x y:Operand)(H:o.op=.store 328 x y)
 (b:Nat) (c d:Nat->Nat) (G:a.eval x=.pointer (some ⟨b,0,none⟩)) (O:a.eval y=.agg (arr d)) (I:Arr w b c) (k:wpList Tryz.prog E Q F (a.put o.dst undef) (w.setRow b (arr d))):wpList Tryz.prog E Q (o::F) a w:=
 wpList_store_row M 328 x y H b _ G O _ _ I (by rw[Fm];exact Ph) (by rw[Fm,Fm]) (Z5r d) k
theorem Ql {E:Array Oper}{F:List Oper}{o:Oper}{a:Act}{W:World}{Q:Exit->Act->World->Prop}(I:o.guard=none)(x y:Operand)(H:o.op=.store 328 x y)
 (w:World) (c d:Nat->Nat) (O:W=w.alloc (.cells (arr c) 328)) (G:a.eval x=.pointer (some ⟨w.heap.size,0,none⟩)) (M:a.eval y=.agg (arr d)) (k:wpList Tryz.prog E Q F (a.put o.dst undef) (w.alloc (.cells (arr d) 328))):wpList Tryz.prog E Q (o::F) a W:=by
 subst O;exact Fw I x y H _ c d G M (Arr.new w c rfl) (by rw[World.setRow_alloc_new];exact k)
theorem X8 {w:World}{b:Nat}{c:Nat->Nat}(E:Arr w b c):(loadVar 328 ⟨b,0,none⟩).run Tryz.prog w=.ok (.agg (arr c)) w:=
 run_loadVar_row w b _ _ _ _ _ E Tryz.underlying328 rfl (by rw[Fm];exact Ph)
theorem Fz {F:Func}{p u:Tmp}(H:F.results= #[.cell p 328,.tmp u])(E:Array Value)(w:World)(b:Nat)(c:Nat->Nat)(I:E.getD p undef=.pointer (some ⟨b,0,none⟩))(G:Arr w b c):
 (results F E).run Tryz.prog w=.ok (.tuple #[.agg (arr c),E.getD u undef]) w:=by
 rw[results_cell_tmp H,I];simp[asAddr,Result.andThen,X8 G]
theorem LD (c:Nat->Nat)(w:World)(M:∀n,c n<=288):
 Calls Tryz.prog 273 #[.agg (arr c)] w fun e w'=>e=.returned (.int .i64 (takenN c 15:Nat))/\Below w.heap.size w w':=by
 go_enter Tryz.func273,Tryz.ntmps273
 go_wp2;have G:=Ab (Arr.new w c rfl);have I:=Ab ((Below.refl w.heap.size w).alloc (VB _) (.cells (arr c) 328));go_loop [3,4] (fun s i=>∃k:Nat,k<=15/\i=.int .i64 ((k:Int)+1)/\s=.int .i64 (takenN c k:Nat)) (fun _ i=>16-(intOf i).toNat)
 case atStart=>exact⟨0,by omega,rfl,rfl⟩
 case round=>
  obtain⟨k,U,rfl,rfl⟩:=hrel
  by_cases Y:k<15
  . have c1:=(Aa G).cell (j:=k+1) (by omega);have E:=Zx c M (k+1);have H:Hid (takenN c (k+1)=takenN c k+c (k+1)*2^(14-k)):=rfl
    have F:wrap64 ((takenN c k:Int)+wrap64 ((c (k+1):Int)*2^(14-k)))=((takenN c (k+1):Nat):Int):=by
     rw[takenN]at E ⊢;have e:((c (k+1):Int)*2^(14-k))=((c (k+1)*2^(14-k):Nat):Int):=by push_cast;rfl
     rw[e];generalize c (k+1)*2^(14-k)=x at*;have T:(k+1)*(288*32768)<=15*(288*32768):=YZ _ (by omega);unfold wrap64;omega
    have O:=Ab F;clear E F;go_wp2;go_round
    case rel=>exact⟨k+1,by omega,by go_num,by rw[Aa O]⟩
    case measure=>simp[intOf];omega
  . obtain rfl:k=15:=by omega
    go_wp2;go_ret;exact⟨rfl,Aa I⟩
def K0 (c:Nat->Nat)(k:Nat):Nat->Nat:=fun n=>if 1<=n/\n<=k then Az c n else 0
theorem GU (c:Nat->Nat):K0 c 0=fun _=>0:=by funext n;simp[K0];omega
theorem GV (c:Nat->Nat)(k:Nat):upd (K0 c k) (k+1) (Az c (k+1))=K0 c (k+1):=by
 funext n
 simp only[upd,K0]
 by_cases e:n=k+1
 . subst e;simp
 . by_cases h:1<=n/\n<=k
   . have:1<=n/\n<=k+1:=by omega
     simp[e,h,this]
   . have:¬(1<=n/\n<=k+1):=by omega
     simp[e,h,this]
theorem PF (c:Nat->Nat)(n:Nat)(E:n<16):K0 c 15 n=Az c n:=by
 simp only[K0]
 by_cases e:n=0
 . subst e;simp[Az]
 . have:1<=n/\n<=15:=by omega
   simp[this]
theorem DC (c:Nat->Nat)(E:∀n,c n<=288):∀n,Az c (n+1)+576<=288*2^(n+1)
 |0=>by simp[Az]
 |n+1=>by
  have G:=DC c E n;have F:=E (n+1);rw[Az,XC];generalize 2^(n+1)=p at*;omega
def NL (c:Nat->Nat):Nat->Nat
 |0=>0
 |k+1=>Az c (k+1)+c (k+1)
theorem GY (c:Nat->Nat)(k:Nat):Az c (k+1)=2*NL c k:=by cases k<;>rfl
theorem Ry (c:Nat->Nat)(F:∀n,c n<=288){k:Nat}(H:k<=14):Az c (k+1)<=9437184:=by
 have I:=DC c F k;have E:=VO (n:=2) (by decide) (show k+1<=15 by omega);have G:288*2^(k+1)<=288*2^15:=Nat.mul_le_mul_left _ E;omega
set_option maxRecDepth 100000 in
theorem Ts (c:Nat->Nat)(w:World)(H:∀n,c n<=288):
 Calls Tryz.prog 255 #[.agg (arr c)] w fun e w'=>e=.returned (.agg (arr (Az c)))/\Below w.heap.size w w':=by
 go_enter Tryz.func255,Tryz.ntmps255
 go_wp2;simp only[JV];have U:=Ab (((Arr.new w c rfl).alloc (.cells (arr (fun _=>0)) 328)).alloc (.cells (arr (fun _=>0)) 328));have I:=Ab ((Arr.new (w.alloc (.cells (arr c) 328)) (fun _=>0) (b:=w.heap.size+1) (by simp)).alloc (.cells (arr (fun _=>0)) 328));have O:=Ab (Arr.new ((w.alloc (.cells (arr c) 328)).alloc (.cells (arr (fun _=>0)) 328)) (fun _=>0) (b:=w.heap.size+1+1) (by simp));have T:=Ab ((((Below.refl w.heap.size w).alloc (VB _) (.cells (arr c) 328)).alloc (by simp) (.cells (arr (fun _=>0)) 328)).alloc (by simp;omega) (.cells (arr (fun _=>0)) 328));go_loopw [4,5] (fun s i wr=>∃k:Nat,k<=15/\i=.int .i64 ((k:Int)+1)/\s=.int .i64 (NL c k:Nat)/\Arr wr w.heap.size c/\Arr wr (w.heap.size+1) (fun _=>0)/\Arr wr (w.heap.size+1+1) (K0 c k)/\Below w.heap.size w wr) (fun _ i _=>16-(intOf i).toNat)
 case atStart=>exact⟨0,by omega,rfl,rfl,Aa U,Aa I,by rw[GU];exact Aa O,Aa T⟩
 case round=>
  obtain⟨k,ai,rfl,rfl,E,aa,F,Y⟩:=hrel;have ah:=Ab E;have G:=Ab aa;have M:=Ab F;have Z:=Ab Y
  by_cases am:k<15
  . have c1:=E.cell (j:=k+1) (by omega);have c2:=F.cell (j:=k+1) (by omega);have f2:=F.frozen (k+1);have an:(wr.setCell ⟨w.heap.size+1+1,k+1,none⟩ (.int .i64 (Az c (k+1):Nat))).cell? ⟨w.heap.size,k+1,none⟩=some (.int .i64 ((c (k+1):Nat):Int)):=(E.other (by simp;omega) _).cell (by omega);have al:=Ry c H (k:=k) (by omega);have ak:=H (k+1);have ab:=GY c k;have ae:Hid (NL c (k+1)=Az c (k+1)+c (k+1)):=rfl;have af:=Ab (GV c k);have aj:wrap64 ((NL c k:Int)*2)=((Az c (k+1):Nat):Int):=by unfold wrap64;omega
    clear E aa F Y H U I O T ab;generalize NL c k=m at*;go_wp2;go_roundw
    case rel=>exact⟨k+1,by omega,by go_num,by rw[Aa ae];go_num,(Aa ah).other (by simp;omega) _,(Aa G).other (by simp) _,by rw[<-Aa af];exact(Aa M).set _ _,(Aa Z).setCell (by simp;omega) _⟩
    case measure=>simp[intOf];omega
  . obtain rfl:k=15:=by omega
    have ac:=Ab ((Aa M).congr (PF c));go_wp2_with (first|(refine Pd rfl (.tmp 3) rfl _ (Az c) rfl (Aa ac) ?_)|(refine Fw rfl (.tmp 2) (.tmp 20) rfl _ _ (Az c) rfl rfl (Aa G) ?_))
    have ag:=Ab ((Aa G).setRow (Az c));refine bodyPost_ret (v:=.agg (arr (Az c))) ?_ rfl ⟨rfl,Bg (Aa Z) (by omega) _⟩;exact results_cell_row rfl _ _ _ _ _ _ _ rfl (Aa ag) Tryz.underlying328 rfl (by rw[Fm];exact Ph)
theorem IM (a:Option Addr)(E G:Nat)(w:World)(I:288<E)(M:E<=9223372036854775807):
 Calls Tryz.prog 254 #[.slice a E G] w fun e w'=>e=.returned (.tuple #[.agg (arr fun _=>0),.int .i64 2])/\Below w.heap.size w w':=by
 go_enter Tryz.func254,Tryz.ntmps254
 have F:=Ab (Arr.new w (fun _=>0) rfl);go_wp2_with (refine Fw rfl (.tmp 2) (.tmp 10) rfl _ _ (fun _=>0) rfl rfl (Aa F) ?_)
 have H:=Ab ((Aa F).setRow (fun _=>0));exact bodyPost_ret (Fz rfl _ _ _ _ rfl (Aa H)) rfl ⟨rfl,Bg ((Below.refl _ _).alloc (VB _) _) (VB _) _⟩
theorem QK (a:Option Addr)(G aj:Nat)(l:List Int)(w:World)(ah:l.length=G)(au:G<=288)(M:RowIn .i64 w a l)(E:Nat)(av:E<G)(ab:Rc (l.getD E 0)=false)(ac:∀j,j<E->Rc (l.getD j 0)=true):
 Calls Tryz.prog 254 #[.slice a G aj] w fun e w'=>e=.returned (.tuple #[.agg (arr fun _=>0),.int .i64 3])/\Below w.heap.size w w':=by
 obtain⟨b,o,rfl,hb,M⟩:∃b o,a=some ⟨b,o,none⟩/\b<w.heap.size/\Row .i64 w b o l:=by
  rcases M with rfl|h
  . simp at ah;omega
  . exact h
 go_enter Tryz.func254,Tryz.ntmps254
 go_wp2;simp only[JV];have Y:=Ab ((Arr.new w (fun _=>0) rfl).alloc (.cells (arr (fun _=>0)) 328));have O:=Ab (Arr.new (w.alloc (.cells (arr (fun _=>0)) 328)) (fun _=>0) (b:=w.heap.size+1) (by simp));have af:=Ab (((Below.refl w.heap.size w).alloc (VB _) (.cells (arr (fun _=>0)) 328)).alloc (by simp) (.cells (arr (fun _=>0)) 328));have ap:=Ab M;have ax:=Ab ah;clear M;go_loopw [13] (fun i wr=>∃k:Nat,k<=E/\i=.int .i64 k/\Arr wr w.heap.size (fun _=>0)/\Arr wr (w.heap.size+1) (cnt (l.take k))/\Below w.heap.size w wr) (fun i _=>G-(intOf i).toNat)
 case atStart=>exact⟨0,by omega,rfl,Aa Y,Aa O,Aa af⟩
 case round=>
  obtain⟨k,aq,rfl,Z,F,I⟩:=hrel;have H:=Ab Z;have al:=Ab F;have U:=Ab I;have ag:k<l.length:=by omega
  have c1:=(I.cell (p:=⟨b,o+k,none⟩) hb).trans (Aa ap k ag)
  by_cases ak:k<E
  . have aa:=ac k ak;obtain⟨n,hn⟩:=WF (Dw aa).1;have an:=(Dw aa).2;have am:=Ab hn;rw[hn]at c1 an;have ai:n<16:=by omega
    have c2:=F.cell ai;have f2:=F.frozen n;have aw:=Vy (l.take k) n;have as:(l.take k).length<=288:=by simp;omega
    clear Z F I ac ab aa hn Y O af;go_wp2;go_roundw
    case rel=>exact⟨k+1,by omega,by go_num,(Aa H).other (by simp) _,by rw[<-Ih l ag (Aa am)];exact(Aa al).set _ _,(Aa U).setCell (by simp) _⟩
    case measure=>simp[intOf];omega
  . obtain rfl:k=E:=by omega
    clear Z F I ac Y O af;generalize l.getD k 0=x at*;have ao:=Hw ab;have T:x<0\/15<x:=by omega
    clear ao ab
    rcases T with T|T
    . go_wp2_with (refine Fw rfl (.tmp 2) (.tmp 23) rfl _ _ (fun _=>0) rfl rfl (Aa H) ?_)
      have ae:=Ab ((Aa H).setRow (fun _=>0));exact bodyPost_ret (Fz rfl _ _ _ _ rfl (Aa ae)) rfl ⟨rfl,Bg (Aa U) (VB _) _⟩
    . have ar:¬(x<0):=by omega
      go_wp2_with (refine Fw rfl (.tmp 2) (.tmp 23) rfl _ _ (fun _=>0) rfl rfl (Aa H) ?_)
      have ae:=Ab ((Aa H).setRow (fun _=>0));exact bodyPost_ret (Fz rfl _ _ _ _ rfl (Aa ae)) rfl ⟨rfl,Bg (Aa U) (VB _) _⟩
theorem IO (a:Option Addr)(E an:Nat)(l:List Int)(w:World)(as:l.length=E)(ay:E<=288)(G:RowIn .i64 w a l)(ag:∀j,j<E->Rc (l.getD j 0)=true):
 Calls Tryz.prog 254 #[.slice a E an] w fun e w'=>e=.returned (.tuple #[.agg (arr (if 32768<takenN (cnt l) 15 then fun _=>0 else cnt l)),.int .i64 (if 32768<takenN (cnt l) 15 then 8 else 0)])/\Below w.heap.size w w':=by
 go_enter Tryz.func254,Tryz.ntmps254
 go_wp2;simp only[JV];have aa:=Ab ((Arr.new w (fun _=>0) rfl).alloc (.cells (arr (fun _=>0)) 328));have Y:=Ab (Arr.new (w.alloc (.cells (arr (fun _=>0)) 328)) (fun _=>0) (b:=w.heap.size+1) (by simp));have ai:=Ab (((Below.refl w.heap.size w).alloc (VB _) (.cells (arr (fun _=>0)) 328)).alloc (by simp) (.cells (arr (fun _=>0)) 328));have ar:=Ab G;have a0:=Ab as;clear G;go_loopw [13] (fun i wr=>∃k:Nat,k<=E/\i=.int .i64 k/\Arr wr w.heap.size (fun _=>0)/\Arr wr (w.heap.size+1) (cnt (l.take k))/\Below w.heap.size w wr) (fun i _=>E-(intOf i).toNat)
 case atStart=>exact⟨0,by omega,rfl,Aa aa,Aa Y,Aa ai⟩
 case round=>
  obtain⟨k,aw,rfl,ae,F,O⟩:=hrel;have ab:=Ab ae;have Z:=Ab F;have I:=Ab O
  by_cases ao:k<E
  . have ac:k<l.length:=by omega
    obtain⟨b,o,rfl,hb,G⟩:∃b o,a=some ⟨b,o,none⟩/\b<w.heap.size/\Row .i64 w b o l:=by
     rcases Aa ar with rfl|h
     . simp at ac
     . exact h
    have c1:=(O.cell (p:=⟨b,o+k,none⟩) hb).trans (G k ac);have af:=ag k ao;obtain⟨n,hn⟩:=WF (Dw af).1;have aq:=(Dw af).2;have ap:=Ab hn;rw[hn]at c1 aq;have am:n<16:=by omega
    have c2:=F.cell am;have f2:=F.frozen n;have az:=Vy (l.take k) n;have ax:(l.take k).length<=288:=by simp;omega
    clear ae F O ag af hn aa Y ai G;go_wp2;go_roundw
    case rel=>exact⟨k+1,by omega,by go_num,(Aa ab).other (by simp) _,by rw[<-Ih l ac (Aa ap)];exact(Aa Z).set _ _,(Aa I).setCell (by simp) _⟩
    case measure=>simp[intOf];omega
  . obtain rfl:k=E:=by omega
    have a2:=F.lt;have ak:l.take k=l:=VV (by omega);have M:=Z;rw[ak]at M;have aj:∀n,cnt l n<=288:=fun n=>VU (Vy l n) (by omega)
    have au:=Ab aj;clear ae F O ag aa Y ai Z ak aj;go_wp2_with (refine Pd rfl (.tmp 4) rfl _ (cnt l) rfl (Aa M) ?_)
    refine(LD (cnt l) wr (Aa au)).mono ?_;rintro e a1 ⟨rfl,T⟩;have U:=Ab ((Aa ab).below T (by omega));have av:=Ab ((Aa M).below T (by omega));have al:=Ab ((Aa I).trans (T.mono (Aa I).size));clear T ab M I
    by_cases H:32768<takenN (cnt l) 15
    . go_wp2_with (refine Fw rfl (.tmp 2) (.tmp 33) rfl _ _ (fun _=>0) rfl rfl (Aa U) ?_)
      have ah:=Ab ((Aa U).setRow (fun _=>0));exact bodyPost_ret (Fz rfl _ _ _ _ rfl (Aa ah)) rfl ⟨by first|rfl|(rw[if_pos H,if_pos H];rfl),Bg (Aa al) (VB _) _⟩
    . go_wp2_with (first|(refine Pd rfl (.tmp 4) rfl _ (cnt l) rfl (Aa av) ?_)|(refine Fw rfl (.tmp 2) (.tmp 34) rfl _ _ (cnt l) rfl rfl (Aa U) ?_))
      have ah:=Ab ((Aa U).setRow (cnt l));exact bodyPost_ret (Fz rfl _ _ _ _ rfl (Aa ah)) rfl ⟨by first|rfl|(rw[if_neg H,if_neg H];rfl),Bg (Aa al) (VB _) _⟩
theorem N8 (a:Option Addr)(E F:Nat)(l:List Int)(w:World)(H:l.length=E)(Y:E<=9223372036854775807)(I:RowIn .i64 w a l):
 Calls Tryz.prog 254 #[.slice a E F] w fun e w'=>e=.returned (.tuple #[.agg (arr (QP l)),.int .i64 (errL l)])/\Below w.heap.size w w':=by
 by_cases hm:288<E
 . have e:errL l=2:=by unfold errL;rw[if_pos (by omega)]
   have e2:QP l=fun _=>0:=by unfold QP;rw[e];rfl
   rw[e,e2];exact IM a E F w hm Y
 . rcases Ml (fun j=>Rc (l.getD j 0)) E with G|⟨O,U,M,G⟩
   . have hn:¬ ∃j,j<l.length/\Rc (l.getD j 0)=false:=by
      rintro ⟨j,Z,e⟩;have:=G j (by omega)
      simp only[e]at this
      cases this
     have h:=IO a E F l w H (by omega) I G;have e:errL l=if 32768<takenN (cnt l) 15 then 8 else 0:=by unfold errL;rw[if_neg (by omega),if_neg hn]
     have e2:QP l=if 32768<takenN (cnt l) 15 then fun _=>0 else cnt l:=by
      unfold QP;rw[e]
      by_cases T:32768<takenN (cnt l) 15
      . simp[T]
      . simp[T]
     rw[e,e2];exact h
   . have e:errL l=3:=by unfold errL;rw[if_neg (by omega),if_pos ⟨O,by omega,M⟩]
     have e2:QP l=fun _=>0:=by unfold QP;rw[e];rfl
     rw[e,e2];exact QK a E F l w H (by omega) I O U M G
theorem QL (a:Option Addr)(E G:Nat)(l:List Int)(w:World)(I:l.length=E)(T:E<=9223372036854775807)(M:RowIn .i64 w a l)(H:errL l≠0):
 Calls Tryz.prog 235 #[.slice a E G] w fun e w'=>e=.returned (.tuple #[.slice none 0 0,.int .i64 (errL l)])/\Below w.heap.size w w':=by
 have hb:(errL l !=0)=true:=by rw[bne_iff_ne];exact H
 go_enter Tryz.func235,Tryz.ntmps235
 go_wp2_with fail
 refine(N8 a E G l w I T M).mono ?_;rintro e U ⟨rfl,F⟩;have Y:=F.size;have O:=Ab (F.alloc Y (.cells (arr (QP l)) 328));clear F H;go_wp2_with (refine Ql rfl (.tmp 4) (.tmp 13) rfl U (fun _=>0) (QP l) rfl rfl rfl ?_)
 go_ret2;exact⟨rfl,Aa O⟩
theorem Z6l (l:List Int)(E:Good l)(k:Nat){n:Nat}(I:n<=15):nxt l k n<=9437472:=by
 unfold nxt
 by_cases e:n=0
 . simp[e]
 . have G:=Ry (cnt l) (fun n=>VU (Vy l n) E.len) (k:=n-1) (by omega);have F:n-1+1=n:=by omega
   rw[F]at G;have H:=Vy (l.take k) n;have M:(l.take k).length<=288:=by have:=E.len;simp;omega
   simp[e];omega
set_option maxRecDepth 100000 in
theorem DM (a:Option Addr)(E al:Nat)(l:List Int)(w:World)(ax:l.length=E)(G:RowIn .i64 w a l)(I:Good l):
 Calls Tryz.prog 235 #[.slice a E al] w fun e w'=>∃g,e=.returned (.tuple #[.slice (some ⟨g,0,none⟩) E E,.int .i64 0])/\
  w'.ownsRow w.heap.size 3 1 (.slice (some ⟨g,0,none⟩) E E) E (i64s (St l E))/\Below w.heap.size w w'/\w.heap.size<=g:=by
 obtain⟨bb,hi,bg,bd,a7⟩:=info_parts Bv;have bm:=I.len;have au:=Ab I;have bh:=Ab (J6 I);have a6:=Ab (QO I);have bj:Hid (∀n,cnt l n<=288):=fun n=>VU (Vy l n) I.len
 have ay:=Ab G;have ba:=Ab ax;go_enter Tryz.func235,Tryz.ntmps235
 go_wp2_with fail
 refine(N8 a E al l w ax (by omega) G).mono ?_;rintro e av ⟨rfl,ag⟩;rw[Aa a6,Aa bh];have bi:=ag.size;have ap:=Ab (ag.alloc bi (.cells (arr (cnt l)) 328));have ar:=Ab (Arr.new av (cnt l) rfl);clear ag G I;go_wp2_with (first|(refine Ql rfl (.tmp 4) (.tmp 13) rfl av (fun _=>0) (cnt l) rfl rfl rfl ?_)|(refine Pd rfl (.tmp 4) rfl _ (cnt l) rfl (Aa ar) ?_))
 refine(Ts (cnt l) _ (Aa bj)).mono ?_;rintro e F ⟨rfl,ac⟩;have a8:=ac.size;simp only[World.size_alloc]at a8;have aj:=Ab (((Aa ap).trans (ac.mono (by simp;omega))).alloc (by omega) (.cells (arr (Az (cnt l))) 328));have aq:=Ab (Arr.new F (Az (cnt l)) rfl);clear ac ar ap;go_wp2_with (first|(refine Ql rfl (.tmp 6) (.tmp 19) rfl F (fun _=>0) (Az (cnt l)) rfl rfl rfl ?_)|(at_make;refine wpList_make_full _ rfl _ _ 76 rfl w.heap.size 3 bb (.int .i64 0) 1 Tryz.underlying76 hi bg bd _ _ _ _ E rfl rfl rfl rfl (by rw[a7];omega) (by unfold maxLen;omega) (by simp;omega) ?_))
 intro w3 U af
 have e0:(madeCells #[Value.int .i64 0] E).toList=i64s (St l 0):=by
  rw[St,Aa ba];exact CC E
 have a3:(F.alloc (.cells (arr (Az (cnt l))) 328)).heap.size=F.heap.size+1:=by simp
 rw[e0]at U;have ab:=Ab U;have ah:=Ab ((Aa aj).grown af (by omega) (fun j h=>by cases h));have ae:Hid (Arr w3 F.heap.size (Az (cnt l))):=(af.block F.heap.size (by omega) (by simp)).trans (Aa aq);have bz:F.heap.size+1≠F.heap.size:=by omega
 have b3:=(U.lt _ rfl).2;have bw:w.heap.size<=F.heap.size:=by omega
 have bt:w.heap.size<=F.heap.size+1:=by omega
 clear U af e0 a3 aq aj;generalize F.heap.size+1=g at*;generalize F.heap.size=b6 at*;go_wp2;go_loopw [25] (fun i wr=>∃k:Nat,k<=E/\i=.int .i64 k/\wr.ownsRow w.heap.size 3 1 (.slice (some ⟨g,0,none⟩) E E) E (i64s (St l k))/\Arr wr b6 (nxt l k)/\Below w.heap.size w wr) (fun i _=>E-(intOf i).toNat)
 case atStart=>exact⟨0,VH _,rfl,Aa ab,(Aa ae).congr (fun n _=>(Z0o l n).symm),Aa ah⟩
 case round=>
  obtain⟨k,bo,rfl,M,T,O⟩:=hrel;have ai:=Ab M;have bk:=Ab T;have aw:=Ab O
  by_cases bv:k<E
  . have H:k<l.length:=by omega
    obtain⟨b,o,rfl,hb,G⟩:∃b o,a=some ⟨b,o,none⟩/\b<w.heap.size/\Row .i64 w b o l:=by
     rcases Aa ay with rfl|h
     . simp at H
     . exact h
    have c1:=(O.cell (p:=⟨b,o+k,none⟩) hb).trans (G k H);have aa:=(Aa au).ok k H;obtain⟨n,hn⟩:=WF aa.1;have be:=aa.2;have a9:=Ab hn;rw[hn]at c1 be;have ak:n<16:=by omega
    have c2:=T.cell ak;obtain⟨y,an⟩:=exq ((St l k).getD k 0)
    have b4:wr.cell? ⟨g,k,none⟩=some (.int .i64 ((y:Nat):Int)):=by
     rw[M.cellAt k (by simp;omega),<-an];simp[List.getD,Du,H]
    clear an;have bn:=M.frozenAt k;have bq:=Z6l l (Aa au) k (n:=n) (by omega);have Z:=Gh l hn
    by_cases a5:0<n
    . have am:=M.stored k (.int .i64 ((nxt l k n:Nat):Int));have Y:=T.other (a:=⟨g,k,none⟩) (by simp;omega) (.int .i64 ((nxt l k n:Nat):Int));have b0:=Y.cell ak;have bu:=Y.frozen n;have a4:=Ab am;have a2:=Ab Y;have a1:=Ab (O.setCell (p:=⟨g,k,none⟩) (by simp;omega) (.int .i64 ((nxt l k n:Nat):Int)));have az:=Ab Z;clear M T O G aa hn am Y ae ah ab Z;generalize ao:nxt l k n=x at*;have bc:=Ab ao;clear ao;go_wp2;go_roundw
      case rel=>
       refine⟨k+1,by omega,by go_num, ?_, ?_, ?_⟩
       . have e:i64s (St l (k+1))=(i64s (St l k)).set k (.int .i64 ((x:Nat):Int)):=by
          rw[St,Aa az,i64s,List.map_set]
         rw[e];exact(Aa a4).1.kept (Ad _ b6 n _) (.inr (by simp[Value.ownBlock];omega))
       . have e:=Z0p l H (Aa a9) a5;rw[Aa bc]at e;rw[<-e];exact(Aa a2).set n (x+1)
       . exact(Aa a1).setCell (by simp;omega) _
      case measure=>simp[intOf];omega
    . obtain rfl:n=0:=by omega
      have as:codeN l k=0:=by rw[Z];rfl
      have a0:=Ab (QN l k as);have bf:=Ab (Z0q l H hn);clear M T O G aa hn ae ah ab Z as;go_wp2;go_roundw
      case rel=>exact⟨k+1,by omega,by go_num,by rw[Aa a0];exact Aa ai,by rw[<-Aa bf];exact Aa bk,Aa aw⟩
      case measure=>simp[intOf];omega
  . obtain rfl:k=E:=by omega
    go_wp2;go_ret2;exact⟨g,rfl,Aa ai,Aa aw,by omega⟩
end Go.Proofs.YtleocpdblhbimaaGreatDoor
