import Derived.Test.YtleocpdblhbimaaGreatDoorQ18
import Derived.Deep.DeepCutAuto
import Derived.Deep.WholeRow
import Derived.Laws.ResultCell
import Derived.OwnWalk
set_option linter.unusedSimpArgs false
set_option maxHeartbeats 1000000
namespace Go.Proofs.YtleocpdblhbimaaGreatDoor
open Go.RowKit
set_option linter.unusedVariables false
set_option maxRecDepth 100000
abbrev Flt (x:Int):Ending:=.panicked [{v:=.iface 310 (.agg #[.int .i64 x]),recovered:=false}]
theorem Cf (x:Int)(w:World):Calls Tryz.prog 253 #[.int .i64 x] w fun e w'=>e=Flt x/\w'=w:=by
 go_enter Tryz.func253,Tryz.ntmps253
 go_wp2;exact⟨rfl,rfl,rfl⟩
def icells (R:Value)(f1 f2:Value)(u:US)(ov kv:Value):Array Value:= #[R,.int .i64 (u.p:Int),ov,kv,f1,f2]
structure IIs (No:Nat->Prop)(B:Nat)(w:World)(b:Nat)(R f1 f2:Value)(u:US):Prop where
 base:B<=b
 no:¬No b
 ex:∃ov kv,w.heap[b]? =some (.cells (icells R f1 f2 u ov kv) 284 (0,0))/\w.ownsRow (b+1) 5 1 ov u.out.length (u8s u.out)/\w.ownsRow (b+1) 3 1 kv u.ks.length (i64s u.ks)/\(ov.ownBlock=none\/ov.ownBlock≠kv.ownBlock)/\(∀g,ov.ownBlock=some g->¬No g)/\(∀g,kv.ownBlock=some g->¬No g)
structure IUp (No:Nat->Prop)(B:Nat)(w:World)(b:Nat)(R f1 f2:Value)(u:US)(w':World):Prop where
 is:IIs No B w' b R f1 f2 u
 below:Below B w w'
 kp:Kp No w w'
theorem IIs.lt {No:Nat->Prop}{B b:Nat}{w:World}{R f1 f2:Value}{u:US}(h:IIs No B w b R f1 f2 u):b<w.heap.size:=by
 obtain⟨ov,kv,h1,_⟩:=h.ex;exact(VK.1 h1).1
theorem IIs.cell {No:Nat->Prop}{B b:Nat}{w:World}{R f1 f2:Value}{u:US}(h:IIs No B w b R f1 f2 u):w.cell? ⟨b,0,none⟩=some R/\w.cell? ⟨b,1,none⟩=some (.int .i64 (u.p:Int))/\∀j,w.frozen? ⟨b,j,none⟩=false:=by
 obtain⟨ov,kv,h1,_⟩:=h.ex;exact⟨Ac h1,Ac h1,fun j=>frozen_of_row w b j _ _ h1⟩
theorem IUp.refl {No:Nat->Prop}{B b:Nat}{w:World}{R f1 f2:Value}{u:US}(h:IIs No B w b R f1 f2 u):IUp No B w b R f1 f2 u w:=⟨h,Below.refl _ _,Kp.refl _ _⟩
theorem IUp.trans {No:Nat->Prop}{B b:Nat}{w w1 w2:World}{R f1 f2 g1 g2:Value}{u v:US}(h:IUp No B w b R f1 f2 u w1)(k:IUp No B w1 b R g1 g2 v w2):IUp No B w b R g1 g2 v w2:=⟨k.is,h.below.trans k.below,h.kp.trans k.kp h.below.size⟩
theorem IIs.grown {No:Nat->Prop}{B b:Nat}{w w':World}{R f1 f2:Value}{u:US}(h:IIs No B w b R f1 f2 u)(hg:w.grownBy w' none):IIs No B w' b R f1 f2 u:=by
 obtain⟨ov,kv,h1,h2,h3,h4⟩:=h.ex;exact⟨h.base,h.no,ov,kv,(hg.block b h.lt (by simp)).trans h1,Hv h2 hg,Hv h3 hg,h4⟩
theorem IUp.drewN {No:Nat->Prop}{B b:Nat}{w w':World}{R f1 f2:Value}{u:US}(h:IUp No B w b R f1 f2 u w')(q:Nat):IUp No B w b R f1 f2 u (w'.drewN q):=
 ⟨h.is.grown ⟨rfl,rfl,rfl,VB _,fun _ _ _=>rfl⟩,Ae h.below q,h.kp⟩
theorem IIs.set {No:Nat->Prop}{B b:Nat}{w:World}{R f1 f2 g1 g2:Value}{u:US}(h:IIs No B w b R f1 f2 u)(i:Nat)(v:Value)(u':US)(ho:u'.out=u.out)(hk:u'.ks=u.ks)(hc:∀ov kv,(icells R f1 f2 u ov kv).setIfInBounds i v=icells R g1 g2 u' ov kv):IUp No B w b R g1 g2 u' (w.setCell ⟨b,i,none⟩ v):=by
 obtain⟨ov,kv,h1,h2,h3,h4,h5,h6⟩:=h.ex;have hg:=Ad w b i v
 have hne:∀ {e size n:Nat} {x:Value} {xs:List Value},w.ownsRow (b+1) e size x n xs->x.ownBlock=none\/x.ownBlock≠some b:=fun {e size n x xs} ho=>by
  cases hx:x.ownBlock with
  |none=>exact .inl rfl
  |some g=>
   refine .inr (fun e=> ?_);have:=(ho.lt g hx).1
   cases e
   omega
 refine⟨⟨h.base,h.no,ov,kv, ?_,by rw[ho];exact h2.kept hg (hne h2),by rw[hk];exact h3.kept hg (hne h3),h4,h5,h6⟩, ?_, ?_⟩
 . rw[heap_setCell_same w b i _ _ _ h1,hc]
 . exact(Below.refl B w).grown hg (VU h.base (YX h.lt)) (fun g e=>by cases e;exact h.base)
 . exact(Kp.refl No w).grown hg (VB _) (fun g e=>by cases e;exact h.no)
theorem IIs.setP {No:Nat->Prop}{B b:Nat}{w:World}{R f1 f2:Value}{u:US}(h:IIs No B w b R f1 f2 u)(q:Nat):IUp No B w b R f1 f2 {u with p:=q} (w.setCell ⟨b,1,none⟩ (.int .i64 (q:Int))):=h.set 1 _ _ rfl rfl (fun _ _=>rfl)
structure Bl (No:Nat->Prop)(B:Nat)(w w':World):Prop where
 below:Below B w w'
 kp:Kp No w w'
theorem Bl.refl (No:Nat->Prop)(B:Nat)(w:World):Bl No B w w:=⟨Below.refl _ _,Kp.refl _ _⟩
theorem Bl.trans {No:Nat->Prop}{B:Nat}{w w1 w2:World}(h:Bl No B w w1)(k:Bl No B w1 w2):Bl No B w w2:=⟨h.below.trans k.below,h.kp.trans k.kp h.below.size⟩
theorem Bl.drewN {No:Nat->Prop}{B:Nat}{w w1:World}(h:Bl No B w w1)(q:Nat):Bl No B w (w1.drewN q):=⟨Ae h.below q,h.kp⟩
theorem Bl.weaken {No No':Nat->Prop}{B:Nat}{w w1:World}(h:Bl No' B w w1)(hn:∀g,No g->No' g):Bl No B w w1:=⟨h.below,h.kp.weaken hn⟩
theorem IUp.bl {No:Nat->Prop}{B b:Nat}{w w':World}{R f1 f2:Value}{u:US}(h:IUp No B w b R f1 f2 u w'):Bl No B w w':=⟨h.below,h.kp⟩
def Got (No:Nat->Prop)(B:Nat)(w:World)(b:Nat)(R f1 f2:Value)(v:Value)(u:US)(e:Ending)(w':World):Prop:=
 (u.e=0/\e=.returned v/\IUp No B w b R f1 f2 u w')\/ (u.e≠0/\e=Flt u.e/\Bl No B w w')
def Mx (b:Nat)(w w':World):Prop:=∀j,j≠1->w'.cell? ⟨b,j,none⟩=w.cell? ⟨b,j,none⟩
def GotK (No:Nat->Prop)(B:Nat)(w:World)(b:Nat)(R f1 f2:Value)(v:Value)(u:US)(e:Ending)(w':World):Prop:=
 (u.e=0/\e=.returned v/\IUp No B w b R f1 f2 u w'/\Mx b w w')\/ (u.e≠0/\e=Flt u.e/\Bl No B w w')
theorem GotK.got {No:Nat->Prop}{B b:Nat}{w w':World}{R f1 f2 v:Value}{u:US}{e:Ending}(h:GotK No B w b R f1 f2 v u e w'):Got No B w b R f1 f2 v u e w':=by
 rcases h with ⟨h1,h2,h3,_⟩|h
 . exact .inl ⟨h1,h2,h3⟩
 . exact .inr h
theorem OS (x r:Nat)(hx:x<256):bits .and .i64 (wrap64 ((x:Int)/2^r)) 1=((x/2^r%2:Nat):Int):=by
 have e:((x:Int)/2^r)=((x/2^r:Nat):Int):=by push_cast;rfl
 have h:x/2^r<=x:=YO _ _
 have h1:wrap64 ((x:Int)/2^r)=((x/2^r:Nat):Int):=by
  rw[e];generalize x/2^r=y at*;unfold wrap64;omega
 rw[h1];have h2:=Y7 (x/2^r) 0 (by omega);simpa using h2
theorem Z5l (bs:List Nat)(p:Nat):bs.getD (p/8) 0/2^(p%8)%2=if Iq bs p then 1 else 0:=by
 unfold Iq;exact RK _ _
structure Rd (w:World)(No:Nat->Prop)(a:Option Addr)(n:Nat)(bs:List Nat):Prop where
 len:bs.length=n
 few:n<=6000
 byt:BytesIn w a bs
 val:∀j,bs.getD j 0<256
 no:∀b o,a=some ⟨b,o,none⟩->bs≠ []->No b
theorem Rd.keep {w w':World}{No:Nat->Prop}{a:Option Addr}{n:Nat}{bs:List Nat}(h:Rd w No a n bs)(hs:w.heap.size<=w'.heap.size)(hk:Kp No w w'):Rd w' No a n bs:=by
 refine⟨h.len,h.few, ?_,h.val,h.no⟩
 by_cases e:bs= []
 . exact .inl e
 . rcases h.byt with h1|⟨b,o,e1,hb,hB⟩
   . exact absurd h1 e
   . exact .inr ⟨b,o,e1,by omega,fun j hj=>(World.cell?_of_block (w:=w) (a:=⟨b,_,none⟩) (hk b hb (h.no b o e1 e))).trans (hB j hj)⟩
theorem BO (No:Nat->Prop)(B b:Nat)(a:Option Addr)(n cap:Nat)(bs:List Nat)(f1 f2:Value)(u:US)(w:World)(h:IIs No B w b (.slice a n cap) f1 f2 u)(hR:Rd w No a n bs)(hp:u.p<=8*n)(he:u.e=0):
 Calls Tryz.prog 248 #[.pointer (some ⟨b,0,none⟩)] w fun e w'=>GotK No B w b (.slice a n cap) f1 f2 (.int .i64 (if Iq bs u.p then 1 else 0)) (if u.p=8*n then {u with e:=7}else {u with p:=u.p+1}) e w':=by
 obtain⟨c0,c1,fr⟩:=h.cell;have fr1:=fr 1;have hfew:=hR.few;have H:=Ab h;have HR:=Ab hR;clear h hR fr;obtain⟨p,hpp⟩:∃p,u.p=p:=⟨_,rfl⟩
 rw[hpp]at c1 hp ⊢;have HPP:=Ab hpp;have HE:=Ab he;clear hpp he;obtain⟨vb,hvb⟩:∃vb:Int,(if Iq bs p then (1:Int)else 0)=vb:=⟨_,rfl⟩
 rw[hvb];have HVB:=Ab hvb;clear hvb
 by_cases h0:p=8*n
 . have hb:((p:Int)==8*(n:Int))=true:=by rw[beq_iff_eq];omega
   rw[if_pos h0];obtain⟨u7,hu7⟩:∃u7:US,({p:=p,out:=u.out,ks:=u.ks,e:=7}:US)=u7:=⟨_,rfl⟩
   rw[hu7];have HU:=Ab hu7;clear h0 hu7;go_enter Tryz.func248,Tryz.ntmps248
   go_wp2;go_quiet (fail)
   go_wp2_with fail
   refine(Cf 7 _).mono ?_;rintro e w2 ⟨rfl,rfl⟩;go_wp2;refine⟨rfl,.inr ⟨by rw[<-Aa HU];exact(by decide:(7:Int)≠0),by rw[<-Aa HU],(Bl.refl _ _ _).drewN _⟩⟩
 . have hb:((p:Int)==8*(n:Int))=false:=by rw[beq_eq_false_iff_ne];omega
   rw[if_neg h0];obtain⟨u7,hu7⟩:∃u7:US,({p:=p+1,out:=u.out,ks:=u.ks,e:=u.e}:US)=u7:=⟨_,rfl⟩
   rw[hu7];have HU:=Ab hu7;clear hu7;obtain⟨b2,o2,rfl,hb2,hBy⟩:=Dz (Aa HR).byt (by rw[(Aa HR).len];omega);have hj:p/8<bs.length:=by rw[(Aa HR).len];omega
   have c3:=hBy _ hj;have hx1:=(Aa HR).val (p/8);have hj2:(p:Int)/8<(n:Int):=by omega
   have HBN:=Ab (Z5l bs p);clear hBy hj;generalize bs.getD (p/8) 0=x at*;go_enter Tryz.func248,Tryz.ntmps248
   go_wp2;go_quiet (fail)
   go_wp2;go_quiet (fail)
   go_wp2;go_ret;refine .inl ⟨by rw[<-Aa HU];exact Aa HE,Dd ?_, ?_, ?_⟩
   . rw[<-Aa HVB];refine(OS x (p%8) hx1).trans ?_;rw[Aa HBN]
     split<;>rfl
   . rw[<-Aa HU]
     have key:∀q:Nat,IUp No B w b (.slice (some ⟨b2,o2,none⟩) n cap) f1 f2 {p:=p+1,out:=u.out,ks:=u.ks,e:=u.e} ((w.drewN q).setCell ⟨b,1,none⟩ (.int .i64 ((p:Int)+1))):=fun q=>by
      have hs:=((Aa H).grown (w':=w.drewN q) ⟨rfl,rfl,rfl,VB _,fun _ _ _=>rfl⟩).setP (p+1);rw[show ((p+1:Nat):Int)=(p:Int)+1 by omega]at hs;exact((IUp.refl (Aa H)).drewN q).trans hs
     exact key _
   . intro j hj;exact World.cell?_setCell_other _ _ _ _ (by intro e;exact hj (by cases e;rfl))
theorem FT (row:List Bool)(p i:Nat)(h:p+i<row.length):Eb ((row.drop p).take (i+1))=Eb ((row.drop p).take i)+2^i*(if row.getD (p+i) false then 1 else 0):=by
 have hl:((row.drop p).take i).length=i:=by rw[VL,VQ];omega
 have e:(row.drop p).take (i+1)=(row.drop p).take i++ [row.getD (p+i) false]:=by
  rw[XM,XJ];simp[List.getD,h]
 rw[e,D8,hl]
 cases row.getD (p+i) false<;>simp[Eb]
theorem Z4a (m i x:Nat)(hm:m<2^i)(hi:i<=16)(hx:x<2):bits .or .i64 (m:Int) ((x:Int)*2^i)=((m+2^i*x:Nat):Int):=by
 have hp:2^i<=2^16:=VO (by decide) hi;have e:((x:Int)*2^i)=((2^i*x:Nat):Int):=by push_cast;rw[Int.mul_comm]
 have h2:2^i*x<=2^i*1:=Nat.mul_le_mul_left _ (by omega);have h3:(2:Nat)^16=65536:=by decide
 rw[e,Nn _ _ (by omega) (by omega)];have:=Nat.two_pow_add_eq_or_of_lt (i:=i) (b:=m) hm x
 rw[Nat.or_comm,<-this,Nat.add_comm]
theorem Re (No:Nat->Prop)(B b:Nat)(a:Option Addr)(n cap size:Nat)(bs:List Nat)(f1 f2:Value)(u:US)(w:World)(h:IIs No B w b (.slice a n cap) f1 f2 u)(hR:Rd w No a n bs)(hp:u.p<=8*n)(he:u.e=0)(hs:size<=16)(r:Nat)(v:US)(hr:Hid (uget (rowB bs n) size u=(r,v))):
 Calls Tryz.prog 230 #[.pointer (some ⟨b,0,none⟩),.int .i64 (size:Int)] w fun e w'=>GotK No B w b (.slice a n cap) f1 f2 (.int .i64 (r:Int)) v e w':=by
 have hrl:=Af bs n;have H:=Ab h;have HR:=Ab hR;have HE:=Ab he;have hfew:=hR.few;clear h hR he;obtain⟨p,hpp⟩:∃p,u.p=p:=⟨_,rfl⟩
 rw[hpp]at hp;have HPP:=Ab hpp
 have hUV:Hid ((8*n<p+size->v= {p:=p,out:=u.out,ks:=u.ks,e:=7})/\(p+size<=8*n->r=Eb (((rowB bs n).drop p).take size)/\v= {u with p:=p+size})):=by
  have:=Aa hr
  unfold uget at this;rw[if_pos (Aa HE),hrl,hpp]at this
  constructor
  . intro h1;rw[if_pos h1]at this;exact(VN this).2.symm
  . intro h1;rw[if_neg (by omega)]at this;exact⟨(VN this).1.symm,(VN this).2.symm⟩
 clear hpp hrl;go_enter Tryz.func230,Tryz.ntmps230
 go_wp2;go_loopw [5,8] (fun v5 v8 wr=>∃i m:Nat,i<=size/\p+i<=8*n/\v8=.int .i64 (i:Int)/\v5=.int .i64 (m:Int)/\Hid (m=Eb (((rowB bs n).drop p).take i))/\Hid (IUp No B w b (.slice a n cap) f1 f2 {u with p:=p+i} wr/\Mx b w wr)) (fun _ v8 _=>size-(intOf v8).toNat)
 case atStart=>exact⟨0,0,VH _,by omega,rfl,rfl,Ab (by simp[Eb]),Ab (by
  have:=IUp.refl (Aa H)
  rw[<-Aa HPP];exact⟨this,fun _ _=>rfl⟩)⟩
 case round=>
  obtain⟨i,m,hi,hpi,rfl,rfl,hm,hI⟩:=hrel
  by_cases hlt:i<size
  . have hiI:(i:Int)<(size:Int):=by omega
    have hIs:=(Aa hI).1.is;have HB:=Ab (BO No B b a n cap bs f1 f2 {u with p:=p+i} wr hIs ((Aa HR).keep (Aa hI).1.below.size (Aa hI).1.kp) hpi (Aa HE))
    have hxx:∃x:Nat,(if Iq bs (p+i)then (1:Int)else 0)=(x:Int)/\x<2/\x=(if (rowB bs n).getD (p+i) false then 1 else 0):=by
     by_cases hq:p+i<8*n
     . rw[Hf bs n (p+i) hq]
       cases Iq bs (p+i)
       . exact⟨0,rfl,by decide,rfl⟩
       . exact⟨1,rfl,by decide,rfl⟩
     . have e1:(rowB bs n).getD (p+i) false=false:=by
        simp only[List.getD];rw[WJ (by rw[Af];omega)];rfl
       by_cases hb:Iq bs (p+i)=true
       . exfalso
         unfold Iq at hb
         have:bs.getD ((p+i)/8) 0=0:=by
          simp only[List.getD];rw[WJ (by rw[(Aa HR).len];omega)];rfl
         rw[this]at hb;simp at hb
       . rw[if_neg hb,e1];exact⟨0,rfl,by decide,rfl⟩
    obtain⟨x,hx1,hx2,hx3⟩:=hxx;rw[hx1]at HB
    have hml:m<2^i:=by
     rw[Aa hm];refine VG (Jy _) (VO (by decide) ?_);rw[VL];exact ZP _ _
    have hor:=Z4a m i x hml (by omega) hx2
    have hw:wrap64 ((x:Int)*2^i)=(x:Int)*2^i:=by
     have hp16:2^i<=2^16:=VO (by decide) (by omega);have h16:(2:Nat)^16=65536:=by decide
     have e:((x:Int)*2^i)=((x*2^i:Nat):Int):=by push_cast;rfl
     have h2:x*2^i<=1*2^i:=YZ _ (by omega);rw[e];generalize x*2^i=y at*;unfold wrap64;omega
    have HOR:Hid (bits .or .i64 (m:Int) (wrap64 ((x:Int)*2^i))=((m+2^i*x:Nat):Int)):=Ab (by rw[hw];exact hor);clear hw hor;have HX3:=Ab hx3;have HML:=Ab hml;clear hIs hx1 hx3 hml;go_wp2_with fail
    refine(Aa HB).mono ?_;rintro e w2 hg
    rcases hg with ⟨e0,rfl,hU,hK⟩|⟨e0,rfl,hBl⟩
    . have hne:¬p+i=8*n:=fun hh=>by
       rw[if_pos hh]at e0;exact absurd e0 (show ¬(7:Int)=0 by decide)
      rw[if_neg hne]at hU;have HU:=Ab (And.intro ((Aa hI).1.trans hU) (fun j hj=>(hK j hj).trans ((Aa hI).2 j hj):Mx b w w2));have HM:Hid (m+2^i*x=Eb (((rowB bs n).drop p).take (i+1))):=Ab (by rw[FT _ _ _ (by rw[Af];omega),<-Aa hm,<-Aa HX3]);have hp8:p+i<8*n:=by omega
      clear e0 hU hne hm hK;go_wp2;go_roundw
      case rel=>exact⟨i+1,m+2^i*x,by omega,by omega,by go_num,by rw[Aa HOR],HM,by rw[<-WT];exact HU⟩
      case measure=>simp[intOf];omega
    . have hne:p+i=8*n:=by
       by_cases hh:p+i=8*n
       . exact hh
       . rw[if_neg hh]at e0;exact absurd (Aa HE) e0
      rw[if_pos hne];have HF:Hid (v= {p:=p,out:=u.out,ks:=u.ks,e:=7}):=Ab ((Aa hUV).1 (by omega));have HBl:=Ab ((Aa hI).1.bl.trans hBl);clear e0 hBl hne hm hI HB;go_wp2;refine⟨rfl,.inr ⟨by rw[Aa HF];exact(by decide:(7:Int)≠0),by rw[Aa HF],Aa HBl⟩⟩
  . obtain rfl:i=size:=by omega
    have HF:Hid (GotK No B w b (.slice a n cap) f1 f2 (.int .i64 (r:Int)) v (.returned (.int .i64 (m:Int))) wr):=by
     obtain⟨_,h2⟩:=Aa hUV;obtain⟨h3,h4⟩:=h2 hpi;refine .inl ⟨by rw[h4];exact Aa HE,by rw[h3,Aa hm],by rw[h4];exact(Aa hI).1,(Aa hI).2⟩
    clear hm hI;go_wp2;go_ret;exact Aa HF
theorem Dx (No:Nat->Prop)(B b:Nat)(a:Option Addr)(n cap size:Nat)(bs:List Nat)(f1 f2:Value)(u:US)(w:World)(h:IIs No B w b (.slice a n cap) f1 f2 u)(hR:Rd w No a n bs)(hp:u.p<=8*n)(he:u.e=0)(hs:size<=16)(r:Nat)(v:US)(hr:Hid (uget (rowB bs n) size u=(r,v))):
 Calls Tryz.prog 230 #[.pointer (some ⟨b,0,none⟩),.int .i64 (size:Int)] w fun e w'=>Got No B w b (.slice a n cap) f1 f2 (.int .i64 (r:Int)) v e w':=(Re No B b a n cap size bs f1 f2 u w h hR hp he hs r v hr).mono (fun _ _ h=>h.got)
end Go.Proofs.YtleocpdblhbimaaGreatDoor
namespace Go.Proofs.YtleocpdblhbimaaGreatDoor
open Go.RowKit
set_option linter.unusedVariables false
def Arr (w:World)(b:Nat)(c:Nat->Nat):Prop:=w.heap[b]? =some (.cells (arr c) 328 (0,0))
theorem RS {c d:Nat->Nat}(h:∀n,n<16->c n=d n):arr c=arr d:=by
 unfold arr
 congr 1
 apply YR
 intro n hn;rw[h n (by simpa using hn)]
theorem Arr.congr {w:World}{b:Nat}{c d:Nat->Nat}(h:Arr w b c)(e:∀n,n<16->c n=d n):Arr w b d:=by
 unfold Arr;rw[<-RS e];exact h
theorem Arr.lt {w:World}{b:Nat}{c:Nat->Nat}(h:Arr w b c):b<w.heap.size:=by
 by_cases e:b<w.heap.size
 . exact e
 . have:w.heap[b]? =none:=by simp;omega
   rw[Arr,this]at h;cases h
theorem Arr.cell {w:World}{b:Nat}{c:Nat->Nat}(h:Arr w b c){j:Nat}(hj:j<16):w.cell? ⟨b,j,none⟩=some (.int .i64 ((c j:Nat):Int)):=by
 rw[cell_of_row w b j _ _ _ h];exact RT c hj
theorem Arr.frozen {w:World}{b:Nat}{c:Nat->Nat}(h:Arr w b c)(j:Nat):w.frozen? ⟨b,j,none⟩=false:=frozen_of_row w b j _ _ h
theorem Arr.new (w:World)(c:Nat->Nat){b:Nat}(hb:b=w.heap.size):Arr (w.alloc (.cells (arr c) 328)) b c:=by rw[hb];exact heap_alloc_new w _
theorem Arr.alloc {w:World}{b:Nat}{c:Nat->Nat}(h:Arr w b c)(o:Obj):Arr (w.alloc o) b c:=
 (Below.heap_alloc w o b h.lt).trans h
theorem Arr.below {w w':World}{B b:Nat}{c:Nat->Nat}(h:Arr w b c)(hB:Below B w w')(hb:b<B):Arr w' b c:=by
 unfold Arr;rw[hB.block b hb];exact h
theorem Arr.set {w:World}{b:Nat}{c:Nat->Nat}(h:Arr w b c)(j x:Nat):Arr (w.setCell ⟨b,j,none⟩ (.int .i64 ((x:Nat):Int))) b (upd c j x):=by
 unfold Arr;rw[heap_setCell_same w b j _ _ _ h,Z5q]
theorem Arr.other {w:World}{b:Nat}{c:Nat->Nat}(h:Arr w b c){a:Addr}(hb:b≠a.block)(v:Value):Arr (w.setCell a v) b c:=by
 unfold Arr;rw[heap_setCell_other w a b v hb];exact h
theorem Arr.setRow {w:World}{b:Nat}{c:Nat->Nat}(h:Arr w b c)(d:Nat->Nat):Arr (w.setRow b (arr d)) b d:=setRow_heap w b _ _ _ _ h
theorem Bg {B:Nat}{a w:World}(h:Below B a w){g:Nat}(hg:B<=g)(cs:Array Value):Below B a (w.setRow g cs):=
 ⟨h.os,h.tape,h.output,by simp;exact h.size,fun k hk=>(Go.setRow_other w g k cs (by omega)).trans (h.block k hk)⟩
theorem JV:(#[.int .i64 0,.int .i64 0,.int .i64 0,.int .i64 0,.int .i64 0,.int .i64 0,.int .i64 0,.int .i64 0,.int .i64 0,.int .i64 0,.int .i64 0,.int .i64 0,.int .i64 0,.int .i64 0,.int .i64 0,.int .i64 0]:Array Value)=arr (fun _=>0):=rfl
theorem Ph:(Tryz.prog.info? 328).map (·.size)=some 16:=by kernel_rfl
theorem Pd {ops:Array Oper}{rest:List Oper}{o:Oper}{a:Act}{w:World}{Q:Exit->Act->World->Prop}(hgd:o.guard=none)(x:Operand)(ho:o.op=.load 328 x)
 (b:Nat) (c:Nat->Nat) (hx:a.eval x=.pointer (some ⟨b,0,none⟩)) (h:Arr w b c) (k:wpList Tryz.prog ops Q rest (a.put o.dst (.agg (arr c))) w):wpList Tryz.prog ops Q (o::rest) a w:=
 wpList_load_row hgd 328 x ho b hx _ _ _ _ h Tryz.underlying328 rfl (by rw[Fm];exact Ph) k
theorem Fw {ops:Array Oper}{rest:List Oper}{o:Oper}{a:Act}{w:World}{Q:Exit->Act->World->Prop}(hgd:o.guard=none)(x y:Operand)(ho:o.op=.store 328 x y)
 (b:Nat) (c d:Nat->Nat) (hx:a.eval x=.pointer (some ⟨b,0,none⟩)) (hy:a.eval y=.agg (arr d)) (h:Arr w b c) (k:wpList Tryz.prog ops Q rest (a.put o.dst undef) (w.setRow b (arr d))):wpList Tryz.prog ops Q (o::rest) a w:=
 wpList_store_row hgd 328 x y ho b _ hx hy _ _ h (by rw[Fm];exact Ph) (by rw[Fm,Fm]) (Z5r d) k
theorem Ql {ops:Array Oper}{rest:List Oper}{o:Oper}{a:Act}{W:World}{Q:Exit->Act->World->Prop}(hgd:o.guard=none)(x y:Operand)(ho:o.op=.store 328 x y)
 (w:World) (c d:Nat->Nat) (hW:W=w.alloc (.cells (arr c) 328)) (hx:a.eval x=.pointer (some ⟨w.heap.size,0,none⟩)) (hy:a.eval y=.agg (arr d)) (k:wpList Tryz.prog ops Q rest (a.put o.dst undef) (w.alloc (.cells (arr d) 328))):wpList Tryz.prog ops Q (o::rest) a W:=by
 subst hW;exact Fw hgd x y ho _ c d hx hy (Arr.new w c rfl) (by rw[World.setRow_alloc_new];exact k)
theorem X8 {w:World}{b:Nat}{c:Nat->Nat}(h:Arr w b c):(loadVar 328 ⟨b,0,none⟩).run Tryz.prog w=.ok (.agg (arr c)) w:=
 run_loadVar_row w b _ _ _ _ _ h Tryz.underlying328 rfl (by rw[Fm];exact Ph)
theorem Fz {fn:Func}{p u:Tmp}(h:fn.results= #[.cell p 328,.tmp u])(tmps:Array Value)(w:World)(b:Nat)(c:Nat->Nat)(hp:tmps.getD p undef=.pointer (some ⟨b,0,none⟩))(hA:Arr w b c):
 (results fn tmps).run Tryz.prog w=.ok (.tuple #[.agg (arr c),tmps.getD u undef]) w:=by
 rw[results_cell_tmp h,hp];simp[asAddr,Result.andThen,X8 hA]
theorem LD (c:Nat->Nat)(w:World)(hc:∀n,c n<=288):
 Calls Tryz.prog 273 #[.agg (arr c)] w fun e w'=>e=.returned (.int .i64 (takenN c 15:Nat))/\Below w.heap.size w w':=by
 go_enter Tryz.func273,Tryz.ntmps273
 go_wp2;have hA:=Ab (Arr.new w c rfl);have hB:=Ab ((Below.refl w.heap.size w).alloc (VB _) (.cells (arr c) 328));go_loop [3,4] (fun s i=>∃k:Nat,k<=15/\i=.int .i64 ((k:Int)+1)/\s=.int .i64 (takenN c k:Nat)) (fun _ i=>16-(intOf i).toNat)
 case atStart=>exact⟨0,by omega,rfl,rfl⟩
 case round=>
  obtain⟨k,hk,rfl,rfl⟩:=hrel
  by_cases hlt:k<15
  . have c1:=(Aa hA).cell (j:=k+1) (by omega);have ht:=Zx c hc (k+1);have H:Hid (takenN c (k+1)=takenN c k+c (k+1)*2^(14-k)):=rfl
    have hw:wrap64 ((takenN c k:Int)+wrap64 ((c (k+1):Int)*2^(14-k)))=((takenN c (k+1):Nat):Int):=by
     rw[takenN]at ht ⊢;have e:((c (k+1):Int)*2^(14-k))=((c (k+1)*2^(14-k):Nat):Int):=by push_cast;rfl
     rw[e];generalize c (k+1)*2^(14-k)=x at*;have h3:(k+1)*(288*32768)<=15*(288*32768):=YZ _ (by omega);unfold wrap64;omega
    have HW:=Ab hw;clear ht hw;go_wp2;go_round
    case rel=>exact⟨k+1,by omega,by go_num,by rw[Aa HW]⟩
    case measure=>simp[intOf];omega
  . obtain rfl:k=15:=by omega
    go_wp2;go_ret;exact⟨rfl,Aa hB⟩
def K0 (c:Nat->Nat)(k:Nat):Nat->Nat:=fun n=>if 1<=n/\n<=k then Az c n else 0
theorem GU (c:Nat->Nat):K0 c 0=fun _=>0:=by funext n;simp[K0];omega
theorem GV (c:Nat->Nat)(k:Nat):upd (K0 c k) (k+1) (Az c (k+1))=K0 c (k+1):=by
 funext n
 simp only[upd,K0]
 by_cases e:n=k+1
 . subst e;simp
 . by_cases h:1<=n/\n<=k
   . have:1<=n/\n<=k+1:=by omega
     simp[e,h,this]
   . have:¬(1<=n/\n<=k+1):=by omega
     simp[e,h,this]
theorem PF (c:Nat->Nat)(n:Nat)(h:n<16):K0 c 15 n=Az c n:=by
 simp only[K0]
 by_cases e:n=0
 . subst e;simp[Az]
 . have:1<=n/\n<=15:=by omega
   simp[this]
theorem DC (c:Nat->Nat)(hc:∀n,c n<=288):∀n,Az c (n+1)+576<=288*2^(n+1)
 |0=>by simp[Az]
 |n+1=>by
  have h1:=DC c hc n;have h2:=hc (n+1);rw[Az,XC];generalize 2^(n+1)=p at*;omega
def NL (c:Nat->Nat):Nat->Nat
 |0=>0
 |k+1=>Az c (k+1)+c (k+1)
theorem GY (c:Nat->Nat)(k:Nat):Az c (k+1)=2*NL c k:=by cases k<;>rfl
theorem Ry (c:Nat->Nat)(hc:∀n,c n<=288){k:Nat}(hk:k<=14):Az c (k+1)<=9437184:=by
 have h1:=DC c hc k;have h2:=VO (n:=2) (by decide) (show k+1<=15 by omega);have h3:288*2^(k+1)<=288*2^15:=Nat.mul_le_mul_left _ h2;omega
set_option maxRecDepth 100000 in
theorem Ts (c:Nat->Nat)(w:World)(hc:∀n,c n<=288):
 Calls Tryz.prog 255 #[.agg (arr c)] w fun e w'=>e=.returned (.agg (arr (Az c)))/\Below w.heap.size w w':=by
 go_enter Tryz.func255,Tryz.ntmps255
 go_wp2;simp only[JV];have HA:=Ab (((Arr.new w c rfl).alloc (.cells (arr (fun _=>0)) 328)).alloc (.cells (arr (fun _=>0)) 328));have HR:=Ab ((Arr.new (w.alloc (.cells (arr c) 328)) (fun _=>0) (b:=w.heap.size+1) (by simp)).alloc (.cells (arr (fun _=>0)) 328));have HF:=Ab (Arr.new ((w.alloc (.cells (arr c) 328)).alloc (.cells (arr (fun _=>0)) 328)) (fun _=>0) (b:=w.heap.size+1+1) (by simp));have HB:=Ab ((((Below.refl w.heap.size w).alloc (VB _) (.cells (arr c) 328)).alloc (by simp) (.cells (arr (fun _=>0)) 328)).alloc (by simp;omega) (.cells (arr (fun _=>0)) 328));go_loopw [4,5] (fun s i wr=>∃k:Nat,k<=15/\i=.int .i64 ((k:Int)+1)/\s=.int .i64 (NL c k:Nat)/\Arr wr w.heap.size c/\Arr wr (w.heap.size+1) (fun _=>0)/\Arr wr (w.heap.size+1+1) (K0 c k)/\Below w.heap.size w wr) (fun _ i _=>16-(intOf i).toNat)
 case atStart=>exact⟨0,by omega,rfl,rfl,Aa HA,Aa HR,by rw[GU];exact Aa HF,Aa HB⟩
 case round=>
  obtain⟨k,hk,rfl,rfl,hA,hR,hF,hB⟩:=hrel;have HA1:=Ab hA;have HR1:=Ab hR;have HF1:=Ab hF;have HB1:=Ab hB
  by_cases hlt:k<15
  . have c1:=hA.cell (j:=k+1) (by omega);have c2:=hF.cell (j:=k+1) (by omega);have f2:=hF.frozen (k+1);have c3:(wr.setCell ⟨w.heap.size+1+1,k+1,none⟩ (.int .i64 (Az c (k+1):Nat))).cell? ⟨w.heap.size,k+1,none⟩=some (.int .i64 ((c (k+1):Nat):Int)):=(hA.other (by simp;omega) _).cell (by omega);have hs:=Ry c hc (k:=k) (by omega);have hcc:=hc (k+1);have hfn:=GY c k;have HN:Hid (NL c (k+1)=Az c (k+1)+c (k+1)):=rfl;have HP:=Ab (GV c k);have hw:wrap64 ((NL c k:Int)*2)=((Az c (k+1):Nat):Int):=by unfold wrap64;omega
    clear hA hR hF hB hc HA HR HF HB hfn;generalize NL c k=m at*;go_wp2;go_roundw
    case rel=>exact⟨k+1,by omega,by go_num,by rw[Aa HN];go_num,(Aa HA1).other (by simp;omega) _,(Aa HR1).other (by simp) _,by rw[<-Aa HP];exact(Aa HF1).set _ _,(Aa HB1).setCell (by simp;omega) _⟩
    case measure=>simp[intOf];omega
  . obtain rfl:k=15:=by omega
    have HX:=Ab ((Aa HF1).congr (PF c));go_wp2_with (first|(refine Pd rfl (.tmp 3) rfl _ (Az c) rfl (Aa HX) ?_)|(refine Fw rfl (.tmp 2) (.tmp 20) rfl _ _ (Az c) rfl rfl (Aa HR1) ?_))
    have HY:=Ab ((Aa HR1).setRow (Az c));refine bodyPost_ret (v:=.agg (arr (Az c))) ?_ rfl ⟨rfl,Bg (Aa HB1) (by omega) _⟩;exact results_cell_row rfl _ _ _ _ _ _ _ rfl (Aa HY) Tryz.underlying328 rfl (by rw[Fm];exact Ph)
theorem IM (a:Option Addr)(len cap:Nat)(w:World)(hm:288<len)(hM:len<=9223372036854775807):
 Calls Tryz.prog 254 #[.slice a len cap] w fun e w'=>e=.returned (.tuple #[.agg (arr fun _=>0),.int .i64 2])/\Below w.heap.size w w':=by
 go_enter Tryz.func254,Tryz.ntmps254
 have HR:=Ab (Arr.new w (fun _=>0) rfl);go_wp2_with (refine Fw rfl (.tmp 2) (.tmp 10) rfl _ _ (fun _=>0) rfl rfl (Aa HR) ?_)
 have HY:=Ab ((Aa HR).setRow (fun _=>0));exact bodyPost_ret (Fz rfl _ _ _ _ rfl (Aa HY)) rfl ⟨rfl,Bg ((Below.refl _ _).alloc (VB _) _) (VB _) _⟩
theorem QK (a:Option Addr)(len cap:Nat)(l:List Int)(w:World)(hl:l.length=len)(hm:len<=288)(hR:RowIn .i64 w a l)(j0:Nat)(hj0:j0<len)(hbad:Rc (l.getD j0 0)=false)(hf:∀j,j<j0->Rc (l.getD j 0)=true):
 Calls Tryz.prog 254 #[.slice a len cap] w fun e w'=>e=.returned (.tuple #[.agg (arr fun _=>0),.int .i64 3])/\Below w.heap.size w w':=by
 obtain⟨b,o,rfl,hb,hR⟩:∃b o,a=some ⟨b,o,none⟩/\b<w.heap.size/\Row .i64 w b o l:=by
  rcases hR with rfl|h
  . simp at hl;omega
  . exact h
 go_enter Tryz.func254,Tryz.ntmps254
 go_wp2;simp only[JV];have HR0:=Ab ((Arr.new w (fun _=>0) rfl).alloc (.cells (arr (fun _=>0)) 328));have HC0:=Ab (Arr.new (w.alloc (.cells (arr (fun _=>0)) 328)) (fun _=>0) (b:=w.heap.size+1) (by simp));have HB0:=Ab (((Below.refl w.heap.size w).alloc (VB _) (.cells (arr (fun _=>0)) 328)).alloc (by simp) (.cells (arr (fun _=>0)) 328));have HRow:=Ab hR;have HL:=Ab hl;clear hR;go_loopw [13] (fun i wr=>∃k:Nat,k<=j0/\i=.int .i64 k/\Arr wr w.heap.size (fun _=>0)/\Arr wr (w.heap.size+1) (cnt (l.take k))/\Below w.heap.size w wr) (fun i _=>len-(intOf i).toNat)
 case atStart=>exact⟨0,by omega,rfl,Aa HR0,Aa HC0,Aa HB0⟩
 case round=>
  obtain⟨k,hk,rfl,hA,hC,hB⟩:=hrel;have HA:=Ab hA;have HC:=Ab hC;have HB:=Ab hB;have hlk:k<l.length:=by omega
  have c1:=(hB.cell (p:=⟨b,o+k,none⟩) hb).trans (Aa HRow k hlk)
  by_cases hlt:k<j0
  . have hok:=hf k hlt;obtain⟨n,hn⟩:=WF (Dw hok).1;have hn15:=(Dw hok).2;have HX:=Ab hn;rw[hn]at c1 hn15;have hn16:n<16:=by omega
    have c2:=hC.cell hn16;have f2:=hC.frozen n;have hle:=Vy (l.take k) n;have hle2:(l.take k).length<=288:=by simp;omega
    clear hA hC hB hf hbad hok hn HR0 HC0 HB0;go_wp2;go_roundw
    case rel=>exact⟨k+1,by omega,by go_num,(Aa HA).other (by simp) _,by rw[<-Ih l hlk (Aa HX)];exact(Aa HC).set _ _,(Aa HB).setCell (by simp) _⟩
    case measure=>simp[intOf];omega
  . obtain rfl:k=j0:=by omega
    clear hA hC hB hf HR0 HC0 HB0;generalize l.getD k 0=x at*;have hno:=Hw hbad;have hg:x<0\/15<x:=by omega
    clear hno hbad
    rcases hg with hg|hg
    . go_wp2_with (refine Fw rfl (.tmp 2) (.tmp 23) rfl _ _ (fun _=>0) rfl rfl (Aa HA) ?_)
      have HY:=Ab ((Aa HA).setRow (fun _=>0));exact bodyPost_ret (Fz rfl _ _ _ _ rfl (Aa HY)) rfl ⟨rfl,Bg (Aa HB) (VB _) _⟩
    . have hg0:¬(x<0):=by omega
      go_wp2_with (refine Fw rfl (.tmp 2) (.tmp 23) rfl _ _ (fun _=>0) rfl rfl (Aa HA) ?_)
      have HY:=Ab ((Aa HA).setRow (fun _=>0));exact bodyPost_ret (Fz rfl _ _ _ _ rfl (Aa HY)) rfl ⟨rfl,Bg (Aa HB) (VB _) _⟩
theorem IO (a:Option Addr)(len cap:Nat)(l:List Int)(w:World)(hl:l.length=len)(hm:len<=288)(hR:RowIn .i64 w a l)(hf:∀j,j<len->Rc (l.getD j 0)=true):
 Calls Tryz.prog 254 #[.slice a len cap] w fun e w'=>e=.returned (.tuple #[.agg (arr (if 32768<takenN (cnt l) 15 then fun _=>0 else cnt l)),.int .i64 (if 32768<takenN (cnt l) 15 then 8 else 0)])/\Below w.heap.size w w':=by
 go_enter Tryz.func254,Tryz.ntmps254
 go_wp2;simp only[JV];have HR0:=Ab ((Arr.new w (fun _=>0) rfl).alloc (.cells (arr (fun _=>0)) 328));have HC0:=Ab (Arr.new (w.alloc (.cells (arr (fun _=>0)) 328)) (fun _=>0) (b:=w.heap.size+1) (by simp));have HB0:=Ab (((Below.refl w.heap.size w).alloc (VB _) (.cells (arr (fun _=>0)) 328)).alloc (by simp) (.cells (arr (fun _=>0)) 328));have HRow:=Ab hR;have HL:=Ab hl;clear hR;go_loopw [13] (fun i wr=>∃k:Nat,k<=len/\i=.int .i64 k/\Arr wr w.heap.size (fun _=>0)/\Arr wr (w.heap.size+1) (cnt (l.take k))/\Below w.heap.size w wr) (fun i _=>len-(intOf i).toNat)
 case atStart=>exact⟨0,by omega,rfl,Aa HR0,Aa HC0,Aa HB0⟩
 case round=>
  obtain⟨k,hk,rfl,hA,hC,hB⟩:=hrel;have HA:=Ab hA;have HC:=Ab hC;have HB:=Ab hB
  by_cases hlt:k<len
  . have hlk:k<l.length:=by omega
    obtain⟨b,o,rfl,hb,hR⟩:∃b o,a=some ⟨b,o,none⟩/\b<w.heap.size/\Row .i64 w b o l:=by
     rcases Aa HRow with rfl|h
     . simp at hlk
     . exact h
    have c1:=(hB.cell (p:=⟨b,o+k,none⟩) hb).trans (hR k hlk);have hok:=hf k hlt;obtain⟨n,hn⟩:=WF (Dw hok).1;have hn15:=(Dw hok).2;have HX:=Ab hn;rw[hn]at c1 hn15;have hn16:n<16:=by omega
    have c2:=hC.cell hn16;have f2:=hC.frozen n;have hle:=Vy (l.take k) n;have hle2:(l.take k).length<=288:=by simp;omega
    clear hA hC hB hf hok hn HR0 HC0 HB0 hR;go_wp2;go_roundw
    case rel=>exact⟨k+1,by omega,by go_num,(Aa HA).other (by simp) _,by rw[<-Ih l hlk (Aa HX)];exact(Aa HC).set _ _,(Aa HB).setCell (by simp) _⟩
    case measure=>simp[intOf];omega
  . obtain rfl:k=len:=by omega
    have hz:=hC.lt;have hall:l.take k=l:=VV (by omega);have HC1:=HC;rw[hall]at HC1;have hcl:∀n,cnt l n<=288:=fun n=>VU (Vy l n) (by omega)
    have HCL:=Ab hcl;clear hA hC hB hf HR0 HC0 HB0 HC hall hcl;go_wp2_with (refine Pd rfl (.tmp 4) rfl _ (cnt l) rfl (Aa HC1) ?_)
    refine(LD (cnt l) wr (Aa HCL)).mono ?_;rintro e w1 ⟨rfl,hB1⟩;have HA1:=Ab ((Aa HA).below hB1 (by omega));have HC2:=Ab ((Aa HC1).below hB1 (by omega));have HB1:=Ab ((Aa HB).trans (hB1.mono (Aa HB).size));clear hB1 HA HC1 HB
    by_cases ht:32768<takenN (cnt l) 15
    . go_wp2_with (refine Fw rfl (.tmp 2) (.tmp 33) rfl _ _ (fun _=>0) rfl rfl (Aa HA1) ?_)
      have HY:=Ab ((Aa HA1).setRow (fun _=>0));exact bodyPost_ret (Fz rfl _ _ _ _ rfl (Aa HY)) rfl ⟨by first|rfl|(rw[if_pos ht,if_pos ht];rfl),Bg (Aa HB1) (VB _) _⟩
    . go_wp2_with (first|(refine Pd rfl (.tmp 4) rfl _ (cnt l) rfl (Aa HC2) ?_)|(refine Fw rfl (.tmp 2) (.tmp 34) rfl _ _ (cnt l) rfl rfl (Aa HA1) ?_))
      have HY:=Ab ((Aa HA1).setRow (cnt l));exact bodyPost_ret (Fz rfl _ _ _ _ rfl (Aa HY)) rfl ⟨by first|rfl|(rw[if_neg ht,if_neg ht];rfl),Bg (Aa HB1) (VB _) _⟩
theorem N8 (a:Option Addr)(len cap:Nat)(l:List Int)(w:World)(hl:l.length=len)(hM:len<=9223372036854775807)(hR:RowIn .i64 w a l):
 Calls Tryz.prog 254 #[.slice a len cap] w fun e w'=>e=.returned (.tuple #[.agg (arr (QP l)),.int .i64 (errL l)])/\Below w.heap.size w w':=by
 by_cases hm:288<len
 . have e:errL l=2:=by unfold errL;rw[if_pos (by omega)]
   have e2:QP l=fun _=>0:=by unfold QP;rw[e];rfl
   rw[e,e2];exact IM a len cap w hm hM
 . rcases Ml (fun j=>Rc (l.getD j 0)) len with hf|⟨j0,hj0,hbad,hf⟩
   . have hn:¬ ∃j,j<l.length/\Rc (l.getD j 0)=false:=by
      rintro ⟨j,hj,e⟩;have:=hf j (by omega)
      simp only[e]at this
      cases this
     have h:=IO a len cap l w hl (by omega) hR hf;have e:errL l=if 32768<takenN (cnt l) 15 then 8 else 0:=by unfold errL;rw[if_neg (by omega),if_neg hn]
     have e2:QP l=if 32768<takenN (cnt l) 15 then fun _=>0 else cnt l:=by
      unfold QP;rw[e]
      by_cases ht:32768<takenN (cnt l) 15
      . simp[ht]
      . simp[ht]
     rw[e,e2];exact h
   . have e:errL l=3:=by unfold errL;rw[if_neg (by omega),if_pos ⟨j0,by omega,hbad⟩]
     have e2:QP l=fun _=>0:=by unfold QP;rw[e];rfl
     rw[e,e2];exact QK a len cap l w hl (by omega) hR j0 hj0 hbad hf
theorem QL (a:Option Addr)(len cap:Nat)(l:List Int)(w:World)(hl:l.length=len)(hM:len<=9223372036854775807)(hR:RowIn .i64 w a l)(he:errL l≠0):
 Calls Tryz.prog 235 #[.slice a len cap] w fun e w'=>e=.returned (.tuple #[.slice none 0 0,.int .i64 (errL l)])/\Below w.heap.size w w':=by
 have hb:(errL l !=0)=true:=by rw[bne_iff_ne];exact he
 go_enter Tryz.func235,Tryz.ntmps235
 go_wp2_with fail
 refine(N8 a len cap l w hl hM hR).mono ?_;rintro e w1 ⟨rfl,hB1⟩;have hz:=hB1.size;have HB:=Ab (hB1.alloc hz (.cells (arr (QP l)) 328));clear hB1 he;go_wp2_with (refine Ql rfl (.tmp 4) (.tmp 13) rfl w1 (fun _=>0) (QP l) rfl rfl rfl ?_)
 go_ret2;exact⟨rfl,Aa HB⟩
theorem Z6l (l:List Int)(h:Good l)(k:Nat){n:Nat}(hn:n<=15):nxt l k n<=9437472:=by
 unfold nxt
 by_cases e:n=0
 . simp[e]
 . have h1:=Ry (cnt l) (fun n=>VU (Vy l n) h.len) (k:=n-1) (by omega);have h2:n-1+1=n:=by omega
   rw[h2]at h1;have h3:=Vy (l.take k) n;have h4:(l.take k).length<=288:=by have:=h.len;simp;omega
   simp[e];omega
set_option maxRecDepth 100000 in
theorem DM (a:Option Addr)(len cap:Nat)(l:List Int)(w:World)(hl:l.length=len)(hR:RowIn .i64 w a l)(hG:Good l):
 Calls Tryz.prog 235 #[.slice a len cap] w fun e w'=>∃g,e=.returned (.tuple #[.slice (some ⟨g,0,none⟩) len len,.int .i64 0])/\
  w'.ownsRow w.heap.size 3 1 (.slice (some ⟨g,0,none⟩) len len) len (i64s (St l len))/\Below w.heap.size w w'/\w.heap.size<=g:=by
 obtain⟨i0,hi,hz0,hz1,hz2⟩:=info_parts Bv;have hlen:=hG.len;have HG:=Ab hG;have HE:=Ab (J6 hG);have HC:=Ab (QO hG);have HCL:Hid (∀n,cnt l n<=288):=fun n=>VU (Vy l n) hG.len
 have HR:=Ab hR;have HL:=Ab hl;go_enter Tryz.func235,Tryz.ntmps235
 go_wp2_with fail
 refine(N8 a len cap l w hl (by omega) hR).mono ?_;rintro e w1 ⟨rfl,hB1⟩;rw[Aa HC,Aa HE];have hz:=hB1.size;have HB:=Ab (hB1.alloc hz (.cells (arr (cnt l)) 328));have HA:=Ab (Arr.new w1 (cnt l) rfl);clear hB1 hR hG;go_wp2_with (first|(refine Ql rfl (.tmp 4) (.tmp 13) rfl w1 (fun _=>0) (cnt l) rfl rfl rfl ?_)|(refine Pd rfl (.tmp 4) rfl _ (cnt l) rfl (Aa HA) ?_))
 refine(Ts (cnt l) _ (Aa HCL)).mono ?_;rintro e w2 ⟨rfl,hB2⟩;have hz2':=hB2.size;simp only[World.size_alloc]at hz2';have HB2:=Ab (((Aa HB).trans (hB2.mono (by simp;omega))).alloc (by omega) (.cells (arr (Az (cnt l))) 328));have HA2:=Ab (Arr.new w2 (Az (cnt l)) rfl);clear hB2 HA HB;go_wp2_with (first|(refine Ql rfl (.tmp 6) (.tmp 19) rfl w2 (fun _=>0) (Az (cnt l)) rfl rfl rfl ?_)|(at_make;refine wpList_make_full _ rfl _ _ 76 rfl w.heap.size 3 i0 (.int .i64 0) 1 Tryz.underlying76 hi hz0 hz1 _ _ _ _ len rfl rfl rfl rfl (by rw[hz2];omega) (by unfold maxLen;omega) (by simp;omega) ?_))
 intro w3 hown3 hgrow3
 have e0:(madeCells #[Value.int .i64 0] len).toList=i64s (St l 0):=by
  rw[St,Aa HL];exact CC len
 have e1:(w2.alloc (.cells (arr (Az (cnt l))) 328)).heap.size=w2.heap.size+1:=by simp
 rw[e0]at hown3;have HO:=Ab hown3;have HB3:=Ab ((Aa HB2).grown hgrow3 (by omega) (fun j h=>by cases h));have HA3:Hid (Arr w3 w2.heap.size (Az (cnt l))):=(hgrow3.block w2.heap.size (by omega) (by simp)).trans (Aa HA2);have hne:w2.heap.size+1≠w2.heap.size:=by omega
 have hgl:=(hown3.lt _ rfl).2;have hb6:w.heap.size<=w2.heap.size:=by omega
 have hgw:w.heap.size<=w2.heap.size+1:=by omega
 clear hown3 hgrow3 e0 e1 HA2 HB2;generalize w2.heap.size+1=g at*;generalize w2.heap.size=b6 at*;go_wp2;go_loopw [25] (fun i wr=>∃k:Nat,k<=len/\i=.int .i64 k/\wr.ownsRow w.heap.size 3 1 (.slice (some ⟨g,0,none⟩) len len) len (i64s (St l k))/\Arr wr b6 (nxt l k)/\Below w.heap.size w wr) (fun i _=>len-(intOf i).toNat)
 case atStart=>exact⟨0,VH _,rfl,Aa HO,(Aa HA3).congr (fun n _=>(Z0o l n).symm),Aa HB3⟩
 case round=>
  obtain⟨k,hk,rfl,hO,hA,hB⟩:=hrel;have HO1:=Ab hO;have HA1:=Ab hA;have HB1:=Ab hB
  by_cases hlt:k<len
  . have hlk:k<l.length:=by omega
    obtain⟨b,o,rfl,hb,hR⟩:∃b o,a=some ⟨b,o,none⟩/\b<w.heap.size/\Row .i64 w b o l:=by
     rcases Aa HR with rfl|h
     . simp at hlk
     . exact h
    have c1:=(hB.cell (p:=⟨b,o+k,none⟩) hb).trans (hR k hlk);have hok:=(Aa HG).ok k hlk;obtain⟨n,hn⟩:=WF hok.1;have hn15:=hok.2;have HX:=Ab hn;rw[hn]at c1 hn15;have hn16:n<16:=by omega
    have c2:=hA.cell hn16;obtain⟨y,hy⟩:∃y,(St l k).getD k 0=y:=⟨_,rfl⟩
    have cg:wr.cell? ⟨g,k,none⟩=some (.int .i64 ((y:Nat):Int)):=by
     rw[hO.cellAt k (by simp;omega),<-hy];simp[List.getD,Du,hlk]
    clear hy;have fg:=hO.frozenAt k;have hxl:=Z6l l (Aa HG) k (n:=n) (by omega);have hcode:=Gh l hn
    by_cases hn0:0<n
    . have hst:=hO.stored k (.int .i64 ((nxt l k n:Nat):Int));have hAo:=hA.other (a:=⟨g,k,none⟩) (by simp;omega) (.int .i64 ((nxt l k n:Nat):Int));have c3:=hAo.cell hn16;have f3:=hAo.frozen n;have HST:=Ab hst;have HAO:=Ab hAo;have HB4:=Ab (hB.setCell (p:=⟨g,k,none⟩) (by simp;omega) (.int .i64 ((nxt l k n:Nat):Int)));have HCO:=Ab hcode;clear hO hA hB hR hok hn hst hAo HA3 HB3 HO hcode;generalize hxx:nxt l k n=x at*;have HXX:=Ab hxx;clear hxx;go_wp2;go_roundw
      case rel=>
       refine⟨k+1,by omega,by go_num, ?_, ?_, ?_⟩
       . have e:i64s (St l (k+1))=(i64s (St l k)).set k (.int .i64 ((x:Nat):Int)):=by
          rw[St,Aa HCO,i64s,List.map_set]
         rw[e];exact(Aa HST).1.kept (Ad _ b6 n _) (.inr (by simp[Value.ownBlock];omega))
       . have e:=Z0p l hlk (Aa HX) hn0;rw[Aa HXX]at e;rw[<-e];exact(Aa HAO).set n (x+1)
       . exact(Aa HB4).setCell (by simp;omega) _
      case measure=>simp[intOf];omega
    . obtain rfl:n=0:=by omega
      have hc0:codeN l k=0:=by rw[hcode];rfl
      have HK:=Ab (QN l k hc0);have HK2:=Ab (Z0q l hlk hn);clear hO hA hB hR hok hn HA3 HB3 HO hcode hc0;go_wp2;go_roundw
      case rel=>exact⟨k+1,by omega,by go_num,by rw[Aa HK];exact Aa HO1,by rw[<-Aa HK2];exact Aa HA1,Aa HB1⟩
      case measure=>simp[intOf];omega
  . obtain rfl:k=len:=by omega
    go_wp2;go_ret2;exact⟨g,rfl,Aa HO1,Aa HB1,by omega⟩
end Go.Proofs.YtleocpdblhbimaaGreatDoor
