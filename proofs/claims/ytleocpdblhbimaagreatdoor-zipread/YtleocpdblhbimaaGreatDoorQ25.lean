import Derived.Test.YtleocpdblhbimaaGreatDoorQ24
import Derived.Maps.AppendAt
set_option linter.unusedSimpArgs false
set_option maxHeartbeats 8000000
namespace Go.Proofs.YtleocpdblhbimaaGreatDoor
open Go.RowKit
set_option linter.unusedVariables false
set_option maxRecDepth 100000
theorem Rk.aside {No:Nat->Prop}{B b:Nat}{w w1 w2:World}{R f1 f2:Value}{u:US}{r:Option Nat}(h:Rk No B w b R f1 f2 u w1)(hg:w1.grownBy w2 r)(hr:∀g,r=some g->w.heap.size<=g)(hNo:∀g,w.heap.size<=g->¬No g)(hbw:b<w.heap.size):Rk No B w b R f1 f2 u w2:=by
 have hs:=h.bl.below.size;obtain⟨ov,kv,d1,d2,d3,d4,d5,d6⟩:=h.is.ex
 have hx:∀ {e size n:Nat} {z:Value} {xs:List Value},w1.ownsRow (b+1) e size z n xs->(∀g,z.ownBlock=some g->¬NJ No w.heap.size g)->∀g,z.ownBlock=some g->w2.heap[g]? =w1.heap[g]? :=fun {e size n z xs} ho hz g hg2=>
  hg.block g (ho.lt g hg2).2 (fun e=>hz g hg2 (.inr (hr g e.symm)))
 refine⟨⟨h.is.base,h.is.no,ov,kv,(hg.block b h.is.lt (fun e=> ?_)).trans d1,Au d2 (hx d2 d5),Au d3 (hx d3 d6),d4,d5,d6⟩,h.bl.trans ⟨(Below.refl B w1).grown hg (VU h.is.base (YX h.is.lt)) (fun g e=>by have:=hr g e;have:=h.is.base;omega),fun g h1 h2=>hg.block g h1 (fun e=>hNo g (hr g e.symm) h2)⟩⟩;have:=hr b e.symm
 omega
theorem Rk.step {No:Nat->Prop}{B b:Nat}{w w1 w2:World}{R f1 f2 g1 g2:Value}{u v:US}(h:Rk No B w b R f1 f2 u w1)(k:Rk (NK No w.heap.size w1.heap.size) B w1 b R g1 g2 v w2):Rk No B w b R g1 g2 v w2:=by
 have hs:=h.bl.below.size;refine⟨k.is.weak (fun g hg=> ?_),h.bl.trans (k.bl.weaken (fun _ h=>.inl h))⟩
 rcases hg with e|e
 . exact .inl (.inl e)
 . by_cases c:g<w1.heap.size
   . exact .inl (.inr ⟨e,c⟩)
   . exact .inr (by omega)
theorem Rk.inner {No:Nat->Prop}{B b:Nat}{w w1:World}{R f1 f2:Value}{u:US}(h:Rk No B w b R f1 f2 u w1):IIs (NK No w.heap.size w1.heap.size) B w1 b R f1 f2 u:=h.is.weak (fun g hg=>by
 rcases hg with e|e
 . exact .inl e
 . exact .inr e.1)
theorem Rk.sym {No:Nat->Prop}{B b:Nat}{w w1 w2:World}{R f1 f2:Value}{u v:US}(h:Rk No B w b R f1 f2 u w1)(k:IUp (NK No w.heap.size w1.heap.size) B w1 b R f1 f2 v w2)(hK:Mx b w1 w2):Rk No B w b R f1 f2 v w2:=⟨h.is.back k.is hK,h.bl.trans (k.bl.weaken (fun _ h=>.inl h))⟩
def Z9d:Value->Nat
 | .slice _ n _=>n
 |_=>0
theorem Z0g {w:World}{B e size n g c:Nat}{xs:List Value}(h:w.ownsRow B e size (.slice (some ⟨g,0,none⟩) n c) n xs):n<=c:=by
 rcases h.2 with ⟨h1,_⟩|⟨g',cap,cur,h1,h2,h3,h4⟩
 . cases h1
 . cases h1
   exact h4.1
theorem Xh {w:World}{B n:Nat}{v:Value}{xs:List Int}(h:w.ownsRow B 3 1 v n (iv xs)):∃a c,v=.slice a n c/\xs.length=n/\RowIn .i64 w a xs/\∀g o,a=some ⟨g,o,none⟩->xs≠ []->B<=g:=by
 have hn:xs.length=n:=by have:=h.1;simpa using this
 rcases h.2 with ⟨h1,h2⟩|⟨g,cap,cur,h1,h2,h3⟩
 . subst h2;exact⟨none,0,h1,hn,.inl (WV hn),fun g o e=>by cases e⟩
 . subst h1;refine⟨_,_,rfl,hn,.inr ⟨g,0,rfl,(h.lt g rfl).2,fun j hj=> ?_⟩,fun g' o e _=>by cases e;exact h2⟩;rw[WG,h.cellAt j (by omega)];simp[iv,List.getD,hj]
theorem X9 (No:Nat->Prop)(B b:Nat)(a:Option Addr)(n cap:Nat)(bs:List Nat)(f1 f2:Value)(u:US)(w:World)(h:IIs No B w b (.slice a n cap) f1 f2 u)(hR:Rd w No a n bs)(hp:u.p<=8*n)(he:u.e=0)(hNo:∀g,w.heap.size<=g->¬No g)(gr gm mb nn:Nat)(S:List Int)(hD:DIs w gr gm mb nn b S)(hG:Good S)(hN3:No gr/\No gm/\No mb)(hS:S.length=19)(tot:Nat)(htot:tot<=400)(L:List Int)(v:US)(hr:Hid (ulens (rowB bs n) S tot tot [] u=(L,v))):
 Calls Tryz.prog 271 #[.pointer (some ⟨b,0,none⟩),DV gr gm,.int .i64 (tot:Int)] w fun e w'=>(v.e≠0/\e=Flt v.e/\Bl No B w w')\/ (v.e=0/\Rk No B w b (.slice a n cap) f1 f2 v w'/\∃sv,e=.returned sv/\w'.ownsRow w.heap.size 3 1 sv L.length (iv L)/\L.length=tot):=by
 have hrl:=Af bs n;have hbl:=h.lt;obtain⟨i0,hi0,hz0,hz1,hz2⟩:=info_parts Bv;have HK0:=Ab (Rk.refl h);have HPE:=Ab (And.intro he hp);have HNo:=Ab hNo;have HRW:Hid (∀wr,Bl No B w wr->Rd wr (NJ No w.heap.size) a n bs/\Rd wr (NK No w.heap.size wr.heap.size) a n bs):=Ab (fun wr hb=>⟨(hR.keep hb.below.size hb.kp).wide (fun _ h=>.inl h),(hR.keep hb.below.size hb.kp).wide (fun _ h=>.inl h)⟩)
 have HSY:Hid (∀wr x k y,Rk No B w b (.slice a n cap) f1 f2 x wr->x.p<=8*n->x.e=0->uplace S (rowB bs n) x=(k,y)->Calls Tryz.prog 281 #[.pointer (some ⟨gr,0,none⟩),.pointer (some ⟨gm,0,none⟩)] wr fun e w'=>GotK (NK No w.heap.size wr.heap.size) B wr b (.slice a n cap) f1 f2 (.int .i64 (k:Int)) y e w'):=Ab (fun wr x k y hk h1 h2 h3=>by
  have l1:=hD.lt;have l2:=hD.is.lt;have hs:=hk.bl.below.size
  exact BI (NK No w.heap.size wr.heap.size) B b a n cap bs f1 f2 x wr hk.inner (Aa HRW wr hk.bl).2 h1 h2 gr gm mb nn S (hD.keep hs (hk.bl.kp gr l1.1 hN3.1) (hk.bl.kp gm l1.2 hN3.2.1) (hk.bl.kp mb l2 hN3.2.2)) hG ⟨.inl hN3.1,.inl hN3.2.1,.inl hN3.2.2⟩ (fun g hg e=>by
   rcases e with e|e
   . exact hNo g (by omega) e
   . omega) k y (Ab h3))
 have HRN:Hid (∀wr x (al:Option Addr) (M cp:Nat) (l:List Int) k xv t y,Rk No B w b (.slice a n cap) f1 f2 x wr->x.p<=8*n->x.e=0->l.length=M->M<=1000->RowIn .i64 wr al l->(∀g o,al=some ⟨g,o,none⟩->l≠ []->w.heap.size<=g)->k<19->ukind (rowB bs n) l k x=(xv,t,y)->Calls Tryz.prog 282 #[.pointer (some ⟨b,0,none⟩),.int .i64 (k:Int),.slice al M cp] wr fun e w'=>Got (NJ No w.heap.size) B wr b (.slice a n cap) f1 f2 (.tuple #[.int .i64 xv,.int .i64 (t:Int)]) y e w'):=Ab (fun wr x al M cp l k xv t y hk h1 h2 h3 h4 h5 h6 h7 h8=>
  Z3v (NJ No w.heap.size) B b a n cap bs f1 f2 x wr hk.is (Aa HRW wr hk.bl).1 h1 h2 al M cp l h3 h4 h5 (fun g o e1 e2=>.inr (h6 g o e1 e2)) k h7 xv t y (Ab h8))
 clear h hR hp he hNo hD hG hN3;go_enter Tryz.func271,Tryz.ntmps271
 go_wp2;go_loopw [7] (fun v7 wr=>∃(l:List Int) (F:Nat) (x:US),Hid (ulens (rowB bs n) S tot F l x=(L,v))/\Hid (tot<=l.length+F)/\Hid (l.length<=tot)/\Hid (x.e=0/\x.p<=8*n)/\Hid (Rk No B w b (.slice a n cap) f1 f2 x wr)/\Hid (wr.ownsRow w.heap.size 3 1 v7 l.length (iv l))) (fun v7 _=>1000-Z9d v7)
 case atStart=>exact⟨[],tot,u,hr,Ab (by simp),Ab (by simp),HPE,HK0,Ab (World.ownsRow_nil _ _ _ _)⟩
 case round=>
  obtain⟨l,F,x,hL,hF,hle,hxe,hK,hO⟩:=hrel;obtain⟨aL,cL,rfl,hlM,hRI,hNg⟩:=Xh (Aa hO);obtain⟨M,hM⟩:∃M,l.length=M:=⟨_,rfl⟩
  have HLM:=Ab hM;rw[hM]at hF hle hO ⊢;have hF2:=Aa hF;have hle2:=Aa hle;obtain⟨hx0,hxp⟩:=Aa hxe;clear hF hle hlM
  by_cases hlt:M<tot
  . cases F with
    |zero=>exact absurd hF2 (by omega)
    |succ F=>
     have hst:=Aa hL;rw[ulens,if_pos ⟨by rw[hM];exact hlt,hx0⟩]at hst;obtain⟨k,v1,h1⟩:∃k v1,uplace S (rowB bs n) x=(k,v1):=⟨_,_,rfl⟩
     unfold ustep at hst;rw[h1]at hst;obtain⟨xv,t,v2,h2⟩:∃xv t v2,ukind (rowB bs n) l k v1=(xv,t,v2):=⟨_,_,_,rfl⟩
     simp only at hst
     rw[h2]at hst;have HST:=Ab hst;have HS1:=Ab (Aa HSY wr x k v1 (Aa hK) hxp hx0 h1)
     have hv1p:v1.p<=8*n:=by
      have:=Ix S (rowB bs n) x (by omega)
      rw[h1,hrl]at this;exact this
     have H1:=Ab h1;have H2:=Ab h2;have hltI:(M:Int)<(tot:Int):=by omega
     clear hst h1 h2 hL hM;go_wp2_with fail
     refine(Aa HS1).mono ?_;rintro e w1 hg
     rcases hg with ⟨e1,rfl,hU1,hKB1⟩|⟨e1,rfl,hB1⟩
     rotate_left
     . have HF:Hid (v=v1):=Ab (by
        have e2:v2=v1:=by have:=KI (rowB bs n) l k v1 e1;rw[Aa H2]at this;exact this
        have e3:=Zl tot l (xv,t,v2) (by rw[show (xv,t,v2).2.2=v2 from rfl,e2];exact e1);have:=Aa HST
        rw[Js (by rw[e3,show (xv,t,v2).2.2=v2 from rfl,e2];exact e1)]at this;rw[<-(VN this).2,e3];exact e2)
       have HB:=Ab ((Aa hK).bl.trans (hB1.weaken (fun _ h=>.inl h)));clear hB1;go_wp2;exact⟨rfl,.inl ⟨by rw[Aa HF];exact e1,by rw[Aa HF],Aa HB⟩⟩
     have hk19:k<19:=by
      have:=(Cn (Aa H1) e1).2.2.2.2.2
      omega
     have HK1:=Ab ((Aa hK).sym hU1 hKB1);have HO1:Hid (w1.ownsRow w.heap.size 3 1 (.slice aL M cL) M (iv l)):=Ab (Au (Aa hO) (fun g hg=>hU1.kp g ((Aa hO).lt g hg).2 (.inr ⟨((Aa hO).lt g hg).1,((Aa hO).lt g hg).2⟩)));obtain⟨aL',cL',eL,hlM,hRI1,hNg1⟩:=Xh (Aa HO1);obtain⟨rfl,rfl⟩:aL'=aL/\cL'=cL:=by cases eL;exact⟨rfl,rfl⟩
     have HR2:=Ab (Aa HRN w1 v1 aL' M cL' l k xv t v2 (Aa HK1) hv1p e1 hlM (by omega) hRI1 hNg1 hk19 (Aa H2));have htpos:=Zn (rowB bs n) l k v1;rw[Aa H2]at htpos;have ht1:1<=t:=htpos.1;have ht2:t<=138:=htpos.2
     have hv2p:v2.e=0->v2.p<=8*n:=fun e=>by
      have:=(KH (row:=rowB bs n) (l:=l) (k:=k) (u:=v1) (by rw[Aa H2];exact e) (by omega)).2.1
      rw[Aa H2,hrl]at this;exact this
     have HV2P:=Ab hv2p;clear hU1 hKB1 hRI hNg hRI1 hNg1 htpos hv2p eL hO hK HS1;go_wp2_with fail
     refine(Aa HR2).mono ?_;rintro e w2 hg
     rcases hg with ⟨e2,rfl,hU2⟩|⟨e2,rfl,hB2⟩
     rotate_left
     . have HF:Hid (v=v2):=Ab (by
        have e3:=Zl tot l (xv,t,v2) e2;have:=Aa HST
        rw[Js (by rw[e3];exact e2)]at this;rw[<-(VN this).2,e3])
       have HB:=Ab ((Aa HK1).bl.trans (hB2.weaken (fun _ h=>.inl h)));clear hB2;go_wp2;exact⟨rfl,.inl ⟨by rw[Aa HF];exact e2,by rw[Aa HF],Aa HB⟩⟩
     have HK2:=Ab ((Aa HK1).num hU2);have HO2:Hid (w2.ownsRow w.heap.size 3 1 (.slice aL' M cL') M (iv l)):=Ab (Au (Aa HO1) (fun g hg=>hU2.kp g ((Aa HO1).lt g hg).2 (.inr ((Aa HO1).lt g hg).1)));clear hU2 HO1 HK1 HR2
     by_cases hfit:tot<M+t
     . have HF:Hid (v.e=8):=Ab (by
        have:=Aa HST
        unfold Td at this;rw[if_pos ⟨e2,by rw[Aa HLM];exact hfit⟩]at this;have h8:(Am 8 v2).e=8:=by unfold Am;rw[if_pos e2]
        rw[Js (by show (Am 8 v2).e≠0;rw[h8];decide)]at this;rw[<-(VN this).2];exact h8)
       have hfI:(tot:Int)<(M:Int)+(t:Int):=by omega
       have HG:=Ab (Cf 8 w2);clear HST;go_wp2_with fail
       refine(Aa HG).mono ?_;rintro e w3 ⟨rfl,rfl⟩;go_wp2;exact⟨rfl,.inl ⟨by rw[Aa HF];decide,by rw[Aa HF],(Aa HK2).bl⟩⟩
     . have hfI:¬(tot:Int)<(M:Int)+(t:Int):=by omega
       have HSN:Hid (ulens (rowB bs n) S tot F (l++List.replicate t xv) v2=(L,v)):=Ab (by
        have:=Aa HST
        unfold Td at this;rw[if_neg (fun c=>hfit (by rw[<-Aa HLM];exact c.2))]at this;exact this)
       clear HST;generalize wr=wl at*;go_wp2;go_loopw [7,30] (fun v7 v30 wr=>∃j:Nat,j<=t/\v30=.int .i64 (j:Int)/\Hid (Rk No B w b (.slice a n cap) f1 f2 v2 wr)/\Hid (wr.ownsRow w.heap.size 3 1 v7 (M+j) (iv (l++List.replicate j xv)))) (fun _ v30 _=>t-(intOf v30).toNat)
       case atStart=>exact⟨0,VH _,rfl,HK2,Ab (by rw[ZI,XA];exact Aa HO2)⟩
       case round=>
        obtain⟨j,hj,rfl,hKj,hOj⟩:=hrel;obtain⟨aJ,cJ,rfl⟩:=An (Aa hOj)
        by_cases hjt:j<t
        . have hjI:(j:Int)<(t:Int):=by omega
          have hsj:=(Aa hKj).bl.below.size;go_wp2_with (at_builtin;refine wpList_append_own_at _ rfl _ _ 76 rfl w.heap.size 3 i0 (.int .i64 0) 1 8 Tryz.underlying76 hi0 hz0 hz1 hz2 rfl (by decide) _ (M+j) (iv (l++List.replicate j xv)) rfl ((Aa hOj).alloc _) ⟨wr.heap.size,0,none⟩ 1 1 [.int .i64 xv] rfl rfl (cell_one_new _ _ _) (Bc rfl) (by unfold maxLen;omega) (by omega) (by simp;omega) ?_)
          intro v' w5 hO5 hgrow5 _ hspot5;have HK5:Hid (Rk No B w b (.slice a n cap) f1 f2 v2 w5):=Ab (((Aa hKj).past ((Below.refl _ _).alloc (VB _) _)).aside hgrow5 (fun g e=>((Aa hOj).lt g e).1) (Aa HNo) hbl)
          have HO5:Hid (w5.ownsRow w.heap.size 3 1 v' (M+(j+1)) (iv (l++List.replicate (j+1) xv))):=Ab (by
           have e1:iv (l++List.replicate (j+1) xv)=List.map (Value.int .i64) l++(List.replicate j (.int .i64 xv)++ [.int .i64 xv]):=by
            rw[YY];simp[iv]
           rw[e1];exact hO5)
          obtain⟨a9,c9,rfl⟩:=An hO5;clear hO5 hgrow5 hspot5;go_wp2;go_roundw
          case rel=>exact⟨j+1,by omega,by go_num,HK5,HO5⟩
          case measure=>simp[intOf];omega
        . obtain rfl:j=t:=by omega
          have hll:(l++List.replicate j xv).length=M+j:=by rw[VE,XD,Aa HLM]
          have HFN:Hid (wr.ownsRow w.heap.size 3 1 (.slice aJ (M+j) cJ) (l++List.replicate j xv).length (iv (l++List.replicate j xv))):=Ab (by rw[hll];exact Aa hOj);have HFN2:=Ab hll;clear hll;go_wp2;go_roundw
          case rel=>exact⟨l++List.replicate j xv,F,v2,HSN,Ab (by rw[Aa HFN2];omega),Ab (by rw[Aa HFN2];omega),Ab ⟨e2,Aa HV2P e2⟩,hKj,HFN⟩
          case measure=>show 1000-(M+j)<1000-M;omega
  . have HF:Hid (L=l/\v=x):=Ab (by
     have:=Aa hL
     cases F with
     |zero=>exact⟨(VN this).1.symm,(VN this).2.symm⟩
     |succ F=>
      rw[ulens,if_neg (fun c=>hlt (by rw[<-hM];exact c.1))]at this;exact⟨(VN this).1.symm,(VN this).2.symm⟩)
    have hltI:¬(M:Int)<(tot:Int):=by omega
    have hMt:M=tot:=by omega
    have HMT:=Ab hMt;clear hL hM hMt;go_wp2;go_ret;refine .inr ⟨by rw[(Aa HF).2];exact hx0,by rw[(Aa HF).2];exact Aa hK,_,rfl, ?_, ?_⟩
    . rw[(Aa HF).1,Aa HLM];exact Aa hO
    . rw[(Aa HF).1,Aa HLM];exact Aa HMT
theorem Fq:(Tryz.prog.info? 282).map (·.size)=some 2:=by kernel_rfl
theorem Te {ops:Array Oper}{o:Oper}{a:Act}{W:World}{K:Act->World->Prop}{Q:Exit->Act->World->Prop}{E:Prop}(hgd:o.guard=none)(T:TypeId)(x y:Operand)(ho:o.op=.store T x y)
 (g:Nat) (vs old:Array Value) (hx:a.eval x=.pointer (some ⟨g,0,none⟩)) (hy:a.eval y=.agg vs) (hA:W.heap[g]? =some (.cells old T (0,0))) (hi:(Tryz.prog.info? T).map (·.size)=some vs.size) (hsz:old.size=vs.size) (h1:vs.all (·.oneCell')=true) (h:K (a.put o.dst undef) (W.setRow g vs)):if Region.wanted o (yielded ops a.tmps)=true then Oper.wp Tryz.prog o a W K Q else E:=by
 have e:Region.wanted o (yielded ops a.tmps)=true:=by unfold Region.wanted;rw[hgd]
 rw[if_pos e];exact wp_store_row T x y ho g vs hx hy T old hA hi hsz h1 h
theorem Nz (w:World)(g:Nat)(cs:Array Value):w.grownBy (w.setRow g cs) (some g):=by
 have hb:=Bg (Below.refl 0 w) (VH g) cs;exact⟨hb.os,hb.tape,hb.output,hb.size,fun g' _ hne=>Go.setRow_other _ _ _ _ (fun e=>hne (by rw[e]))⟩
theorem EE (row:List Bool)(u u1 u2 u3:US)(m0 n0 c0:Nat)(g1:uget row 5 u=(m0,u1))(g2:uget row 5 u1=(n0,u2))(g3:uget row 4 u2=(c0,u3))(h3:u3.e≠0):(Db row u).2=u3:=My row u u1 u2 u3 m0 n0 c0 g1 g2 g3 u3 h3 (by
 split
 . rw[Ua 8 u3 h3];exact Jr _ _ _ _ h3
 . exact Jr _ _ _ _ h3)
theorem KB (row:List Bool)(u u1 u2 u3 us:US)(m0 n0 c0:Nat)(S:List Int)(g1:uget row 5 u=(m0,u1))(g2:uget row 5 u1=(n0,u2))(g3:uget row 4 u2=(c0,u3))(hm:m0+257<=286)(hn:n0+1<=30)(sm:usmall row (ord19.take (c0+4)) (List.replicate 19 0) u3=(S,us))(es:us.e=0)(cs:errL S≠0):(Db row u).2= {us with e:=8}:=by
 have hs:Gk row (m0+257) (n0+1) (c0+4) u3=(S,us):=by
  unfold Gk;rw[if_neg (by omega)];exact sm
 have hu:Qa (S,us)= {us with e:=8}:=by
  unfold Qa Am;rw[if_pos ⟨es,cs⟩,if_pos es]
 unfold Db;simp only[g1,g2,g3];rw[hs];unfold Ke;rw[hu,if_pos (by exact(by decide:(8:Int)≠0))]
theorem EF (row:List Bool)(u u1 u2 u3:US)(m0 n0 c0:Nat)(g1:uget row 5 u=(m0,u1))(g2:uget row 5 u1=(n0,u2))(g3:uget row 4 u2=(c0,u3))(e3:u3.e=0)(hm:286<m0+257\/30<n0+1):(Db row u).2= {u3 with e:=8}:=My row u u1 u2 u3 m0 n0 c0 g1 g2 g3 _ (by exact(by decide:(8:Int)≠0)) (by
 rw[if_pos hm];have e8:Am 8 u3= {u3 with e:=8}:=by unfold Am;rw[if_pos e3]
 rw[e8];exact Jr _ _ _ _ (by exact(by decide:(8:Int)≠0)))
def Z8r (No:Nat->Prop)(B:Nat)(w:World)(b:Nat)(R f1 f2:Value)(A C:List Int)(v:US)(e:Ending)(w':World):Prop:=
 (v.e≠0/\e=Flt v.e/\Bl No B w w')\/ (v.e=0/\Rk No B w b R f1 f2 v w'/\Good A/\Good C/\∃g1 m1 b1 n1 g2 m2 b2 n2,e=.returned (.agg #[DV g1 m1,DV g2 m2])/\DIs w' g1 m1 b1 n1 b A/\DIs w' g2 m2 b2 n2 b C/\(w.heap.size<=g1/\w.heap.size<=m1/\w.heap.size<=b1)/\(w.heap.size<=g2/\w.heap.size<=m2/\w.heap.size<=b2))
theorem D4 (No:Nat->Prop)(B b:Nat)(a:Option Addr)(n cap:Nat)(bs:List Nat)(f1 f2:Value)(u:US)(w:World)(h:IIs No B w b (.slice a n cap) f1 f2 u)(hR:Rd w No a n bs)(hp:u.p<=8*n)(he:u.e=0)(hNo:∀g,w.heap.size<=g->¬No g)(A C:List Int)(v:US)(hr:Hid (Db (rowB bs n) u=((A,C),v))):
 Calls Tryz.prog 252 #[.pointer (some ⟨b,0,none⟩)] w fun e w'=>Z8r No B w b (.slice a n cap) f1 f2 A C v e w':=by
 have hrl:=Af bs n;have hbl:=h.lt;have HK0:=Ab (Rk.refl h)
 have HNK:Hid (∀wr:World,w.heap.size<=wr.heap.size->∀g,wr.heap.size<=g->¬NK No w.heap.size wr.heap.size g):=Ab (fun wr hs g hg e=>by
  rcases e with e|e
  . exact hNo g (by omega) e
  . omega)
 have HNo:=Ab hNo;have HRW:Hid (∀wr:World,Bl No B w wr->Rd wr (NJ No w.heap.size) a n bs/\Rd wr (NK No w.heap.size wr.heap.size) a n bs):=Ab (fun wr hb=>⟨(hR.keep hb.below.size hb.kp).wide (fun _ h=>.inl h),(hR.keep hb.below.size hb.kp).wide (fun _ h=>.inl h)⟩);obtain⟨m0,u1,h1⟩:∃r y,uget (rowB bs n) 5 u=(r,y):=⟨_,_,rfl⟩
 obtain⟨n0,u2,h2⟩:∃r y,uget (rowB bs n) 5 u1=(r,y):=⟨_,_,rfl⟩
 obtain⟨c0,u3,h3⟩:∃r y,uget (rowB bs n) 4 u2=(r,y):=⟨_,_,rfl⟩
 have p1:u1.p<=8*n:=by have:=Gr (rowB bs n) 5 u (by omega);rw[h1,hrl]at this;exact this
 have p2:u2.p<=8*n:=by have:=Gr (rowB bs n) 5 u1 (by omega);rw[h2,hrl]at this;exact this
 have p3:u3.p<=8*n:=by have:=Gr (rowB bs n) 4 u2 (by omega);rw[h3,hrl]at this;exact this
 have l1:m0<32:=by have:=SD (rowB bs n) 5 u;rw[h1]at this;exact this
 have l2:n0<32:=by have:=SD (rowB bs n) 5 u1;rw[h2]at this;exact this
 have l3:c0<16:=by have:=SD (rowB bs n) 4 u2;rw[h3]at this;exact this
 have HV:Hid (v=(Db (rowB bs n) u).2):=Ab (by rw[Aa hr]);have HST:Hid (u3.e≠0->v=u3):=Ab (fun e=>by rw[Aa HV];exact EE (rowB bs n) u u1 u2 u3 m0 n0 c0 h1 h2 h3 e)
 have HB1:Hid (u1.e≠0->u3=u1):=Ab (fun e=>by
  have q2:u2=u1:=by have:=Fj (rowB bs n) 5 u1 e;rw[h2]at this;exact this
  have q3:u3=u2:=by have:=Fj (rowB bs n) 4 u2 (by rw[q2];exact e);rw[h3]at this;exact this
  rw[q3,q2])
 have HB2:Hid (u2.e≠0->u3=u2):=Ab (fun e=>by have:=Fj (rowB bs n) 4 u2 e;rw[h3]at this;exact this);have HMANY:Hid (u3.e=0->(286<m0+257\/30<n0+1)->v= {u3 with e:=8}):=Ab (fun e h4=>by rw[Aa HV];exact EF (rowB bs n) u u1 u2 u3 m0 n0 c0 h1 h2 h3 e h4);have HN1:Hid (∀W,Rk No B w b (.slice a n cap) f1 f2 u W->Calls Tryz.prog 230 #[.pointer (some ⟨b,0,none⟩),.int .i64 5] W fun e w'=>Got (NJ No w.heap.size) B W b (.slice a n cap) f1 f2 (.int .i64 (m0:Int)) u1 e w'):=Ab (fun W hk=>Dx (NJ No w.heap.size) B b a n cap 5 bs f1 f2 u W hk.is (Aa HRW W hk.bl).1 hp he (by decide) m0 u1 (Ab h1));have HN2:Hid (∀W,u1.e=0->Rk No B w b (.slice a n cap) f1 f2 u1 W->Calls Tryz.prog 230 #[.pointer (some ⟨b,0,none⟩),.int .i64 5] W fun e w'=>Got (NJ No w.heap.size) B W b (.slice a n cap) f1 f2 (.int .i64 (n0:Int)) u2 e w'):=Ab (fun W he hk=>Dx (NJ No w.heap.size) B b a n cap 5 bs f1 f2 u1 W hk.is (Aa HRW W hk.bl).1 p1 he (by decide) n0 u2 (Ab h2));have HN3:Hid (∀W,u2.e=0->Rk No B w b (.slice a n cap) f1 f2 u2 W->Calls Tryz.prog 230 #[.pointer (some ⟨b,0,none⟩),.int .i64 4] W fun e w'=>Got (NJ No w.heap.size) B W b (.slice a n cap) f1 f2 (.int .i64 (c0:Int)) u3 e w'):=Ab (fun W he hk=>Dx (NJ No w.heap.size) B b a n cap 4 bs f1 f2 u2 W hk.is (Aa HRW W hk.bl).1 p2 he (by decide) c0 u3 (Ab h3));obtain⟨S,us,hS⟩:∃S us,usmall (rowB bs n) (ord19.take (c0+4)) (List.replicate 19 0) u3=(S,us):=⟨_,_,rfl⟩
 have HCL:Hid (∀W,u3.e=0->Rk No B w b (.slice a n cap) f1 f2 u3 W->Calls Tryz.prog 272 #[.pointer (some ⟨b,0,none⟩),.int .i64 (4+(c0:Int))] W fun e w'=>Z7j (NK No w.heap.size W.heap.size) B W b (.slice a n cap) f1 f2 S us e w'):=Ab (fun W he hk=>by
  have:=Ns (NK No w.heap.size W.heap.size) B b a n cap bs f1 f2 u3 W hk.inner (Aa HRW W hk.bl).2 p3 he (Aa HNK W hk.bl.below.size) (c0+4) (by omega) S us (Ab hS)
  rw[show ((c0+4:Nat):Int)=4+(c0:Int) by omega]at this;exact this)
 have hSl:S.length=19:=by have:=Uc (row:=rowB bs n) (ks:=ord19.take (c0+4)) (s:=List.replicate 19 0) (u:=u3);rw[hS]at this;simpa using this
 have hSv:∀x∈S,0<=x/\x<=7:=by have:=Px (row:=rowB bs n) (ord19.take (c0+4)) (List.replicate 19 0) u3 (by intro x hx;rw[List.eq_of_mem_replicate hx];decide);rw[hS]at this;exact this
 have HSE:Hid (errL S≠0->errL S=8):=Ab (fun e=>by
  rcases Z2 S (by omega) (fun x hx=>by have:=hSv x hx;omega)with h|h
  . exact absurd h e
  . exact h)
 have HVS:Hid (286<m0+257\/30<n0+1\/ (us.e≠0->v=us)/\(us.e=0->errL S≠0->v= {us with e:=8})):=Ab (by
  by_cases q1:286<m0+257
  . exact .inl q1
  . by_cases q2:30<n0+1
    . exact .inr (.inl q2)
    . refine .inr (.inr ⟨fun e=> ?_,fun e1 e2=> ?_⟩)
      . rw[Aa HV];exact My (rowB bs n) u u1 u2 u3 m0 n0 c0 h1 h2 h3 us e (by rw[if_neg (by omega),hS])
      . rw[Aa HV];exact KB (rowB bs n) u u1 u2 u3 us m0 n0 c0 S h1 h2 h3 (by omega) (by omega) hS e1 e2)
 obtain⟨L,v',hL⟩:∃L v',ulens (rowB bs n) S (m0+257+(n0+1)) (m0+257+(n0+1)) [] us=(L,v'):=⟨_,_,rfl⟩
 obtain⟨tot,htot⟩:∃tot,m0+257+(n0+1)=tot:=⟨_,rfl⟩
 have HLN:Hid (∀W gr gm mb nn,us.e=0->errL S=0->Rk No B w b (.slice a n cap) f1 f2 us W->DIs W gr gm mb nn b S->w.heap.size<=gr->w.heap.size<=gm->w.heap.size<=mb->Calls Tryz.prog 271 #[.pointer (some ⟨b,0,none⟩),DV gr gm,.int .i64 (257+(m0:Int)+(1+(n0:Int)))] W fun e w'=>(v'.e≠0/\e=Flt v'.e/\Bl (NK No w.heap.size W.heap.size) B W w')\/ (v'.e=0/\Rk (NK No w.heap.size W.heap.size) B W b (.slice a n cap) f1 f2 v' w'/\∃sv,e=.returned sv/\w'.ownsRow W.heap.size 3 1 sv L.length (iv L)/\L.length=tot)):=Ab (fun W gr gm mb nn he hes hk hd q1 q2 q3=>by
  have r1:=hd.lt;have r2:=hd.is.lt;have pus:us.p<=8*n:=by have:=(Wn (ks:=ord19.take (c0+4)) (s:=List.replicate 19 0) (row:=rowB bs n) (u:=u3) (by rw[hS];exact he) (by omega)).2.1;rw[hS,hrl]at this;exact this
  have:=X9 (NK No w.heap.size W.heap.size) B b a n cap bs f1 f2 us W hk.inner (Aa HRW W hk.bl).2 pus he (Aa HNK W hk.bl.below.size) gr gm mb nn S hd (Ch hes) ⟨.inr ⟨q1,r1.1⟩,.inr ⟨q2,r1.2⟩,.inr ⟨q3,r2⟩⟩ hSl tot (by omega) L v' (Ab (by rw[<-htot];exact hL))
  rw[show ((tot:Nat):Int)=257+(m0:Int)+(1+(n0:Int)) by omega]at this;exact this)
 have HE:Hid (m0+257<=286->n0+1<=30->us.e=0->errL S=0->Gl (m0+257) (L,v')=((A,C),v)):=Ab (fun q1 q2 q3 q4=>by
  rw[<-Aa hr,SQ (rowB bs n) u u1 u2 u3 us m0 n0 c0 S h1 h2 h3 q1 q2 hS q3 q4,hL])
 have HLV:Hid (v'.e=0->∀x∈L,0<=x/\x<=15):=Ab (fun e=>by
  have:=Uf (row:=rowB bs n) (tot:=m0+257+(n0+1)) hSl (m0+257+(n0+1)) [] us (by simp) (by rw[hL];exact e)
  rw[hL]at this;exact this)
 clear h hR hp he hNo h1 h2 h3 hS hL hSv hr;go_enter Tryz.func252,Tryz.ntmps252
 go_wp2_with fail
 refine(Aa HN1 _ ((Aa HK0).past ((Below.refl _ _).alloc (VB _) _))).mono ?_;have K1:=Ab ((Aa HK0).past ((Below.refl _ _).alloc (VB _) (.cells #[.nilFunc,.nilFunc] 282)));have hcw:(w.alloc (.cells #[.nilFunc,.nilFunc] 282)).heap[w.heap.size]? =some (.cells #[.nilFunc,.nilFunc] 282 (0,0)):=heap_alloc_new _ _;have HCW:=Ab hcw;have hzA:w.heap.size<(w.alloc (.cells #[.nilFunc,.nilFunc] 282)).heap.size:=by simp
 clear hcw;generalize w.alloc (.cells #[.nilFunc,.nilFunc] 282)=wA at*;rintro e w1 hg
 rcases hg with ⟨e1,rfl,hU1⟩|⟨e1,rfl,hB1⟩
 rotate_left
 . have HF:Hid (v=u1):=Ab (by rw[Aa HST (by rw[Aa HB1 e1];exact e1),Aa HB1 e1]);have HB:=Ab ((Aa K1).bl.trans (hB1.weaken (fun _ h=>.inl h)));clear hB1;go_wp2;exact⟨rfl,.inl ⟨by rw[Aa HF];exact e1,by rw[Aa HF],Aa HB⟩⟩
 have K2:=Ab ((Aa K1).num hU1);have HC1:Hid (w1.heap[w.heap.size]? =some (.cells #[.nilFunc,.nilFunc] 282 (0,0))):=Ab ((hU1.kp _ hzA (.inr (VB _))).trans (Aa HCW));have hz1:w.heap.size<w1.heap.size:=by have:=hU1.below.size;omega
 clear hU1;go_wp2_with fail
 refine(Aa HN2 w1 e1 (Aa K2)).mono ?_;rintro e w2 hg
 rcases hg with ⟨e2,rfl,hU2⟩|⟨e2,rfl,hB2⟩
 rotate_left
 . have HF:Hid (v=u2):=Ab (by rw[Aa HST (by rw[Aa HB2 e2];exact e2),Aa HB2 e2]);have HB:=Ab ((Aa K2).bl.trans (hB2.weaken (fun _ h=>.inl h)));clear hB2;go_wp2;exact⟨rfl,.inl ⟨by rw[Aa HF];exact e2,by rw[Aa HF],Aa HB⟩⟩
 have K3:=Ab ((Aa K2).num hU2);have HC2:Hid (w2.heap[w.heap.size]? =some (.cells #[.nilFunc,.nilFunc] 282 (0,0))):=Ab ((hU2.kp _ hz1 (.inr (VB _))).trans (Aa HC1));have hz2:w.heap.size<w2.heap.size:=by have:=hU2.below.size;omega
 clear hU2;go_wp2_with fail
 refine(Aa HN3 w2 e2 (Aa K3)).mono ?_;rintro e w3 hg
 rcases hg with ⟨e3,rfl,hU3⟩|⟨e3,rfl,hB3⟩
 rotate_left
 . have HF:Hid (v=u3):=Ab (Aa HST e3);have HB:=Ab ((Aa K3).bl.trans (hB3.weaken (fun _ h=>.inl h)));clear hB3;go_wp2;exact⟨rfl,.inl ⟨by rw[Aa HF];exact e3,by rw[Aa HF],Aa HB⟩⟩
 have K4:=Ab ((Aa K3).num hU3);have HC3:Hid (w3.heap[w.heap.size]? =some (.cells #[.nilFunc,.nilFunc] 282 (0,0))):=Ab ((hU3.kp _ hz2 (.inr (VB _))).trans (Aa HC2));have hz3:w.heap.size<w3.heap.size:=by have:=hU3.below.size;omega
 clear hU3;have HGU:=Ab (Cf 8 w3)
 by_cases q1:286<m0+257
 . have HF:Hid (v= {u3 with e:=8}):=Ab (Aa HMANY e3 (.inl q1));have q1I:(286:Int)<257+(m0:Int):=by omega
   go_wp2_with fail
   refine(Aa HGU).mono ?_;rintro e w4 ⟨rfl,rfl⟩;go_wp2;exact⟨rfl,.inl ⟨by rw[Aa HF];exact(by decide:(8:Int)≠0),by rw[Aa HF],(Aa K4).bl⟩⟩
 have q1I:¬(286:Int)<257+(m0:Int):=by omega
 by_cases q2:30<n0+1
 . have HF:Hid (v= {u3 with e:=8}):=Ab (Aa HMANY e3 (.inr q2));have q2I:(30:Int)<1+(n0:Int):=by omega
   go_wp2_with fail
   refine(Aa HGU).mono ?_;rintro e w4 ⟨rfl,rfl⟩;go_wp2;exact⟨rfl,.inl ⟨by rw[Aa HF];exact(by decide:(8:Int)≠0),by rw[Aa HF],(Aa K4).bl⟩⟩
 have q2I:¬(30:Int)<1+(n0:Int):=by omega
 have HVS2:Hid ((us.e≠0->v=us)/\(us.e=0->errL S≠0->v= {us with e:=8})):=Ab (by
  rcases Aa HVS with h|h|h
  . exact absurd h q1
  . exact absurd h q2
  . exact h)
 clear HGU HVS HMANY HST HB1 HB2 HN1 HN2 HN3;go_wp2_with fail
 refine(Aa HCL w3 e3 (Aa K4)).mono ?_;rintro e w4 hg
 rcases hg with ⟨e4,rfl,hB4⟩|⟨e4,es4,rfl,hB4⟩|⟨e4,es4,hK4,gr,gm,mb,nn,rfl,d1,d2,d3,d4,d5⟩
 . have HF:Hid (v=us):=Ab ((Aa HVS2).1 e4);have HB:=Ab ((Aa K4).bl.trans (hB4.weaken (fun _ h=>.inl h)));clear hB4;go_wp2;exact⟨rfl,.inl ⟨by rw[Aa HF];exact e4,by rw[Aa HF],Aa HB⟩⟩
 . have HF:Hid (v= {us with e:=8}):=Ab ((Aa HVS2).2 e4 es4);have HB:=Ab ((Aa K4).bl.trans (hB4.weaken (fun _ h=>.inl h)));have HE8:=Ab (Aa HSE es4);clear hB4;go_wp2;exact⟨rfl,.inl ⟨by rw[Aa HF];exact(by decide:(8:Int)≠0),by rw[Aa HF,Aa HE8],Aa HB⟩⟩
 have K5:=Ab ((Aa K4).step hK4);have HC4:Hid (w4.heap[w.heap.size]? =some (.cells #[.nilFunc,.nilFunc] 282 (0,0))):=Ab ((hK4.bl.kp _ hz3 (.inr ⟨VB _,hz3⟩)).trans (Aa HC3));have hz4:w.heap.size<w4.heap.size:=by have:=hK4.bl.below.size;omega
 have HLC:=Ab (Aa HLN w4 gr gm mb nn e4 es4 (Aa K5) d5 (by omega) (by omega) (by omega));clear hK4 d1 d2 d3 d4 d5 HLN HCL HVS2 HSE;go_wp2_with fail
 refine(Aa HLC).mono ?_;rintro e w5 hg
 rcases hg with ⟨e5,rfl,hB5⟩|⟨e5,hK5,sv,rfl,hO5,hlen⟩
 . have HF:Hid (v=v'):=Ab (by
    have:=Aa HE (by omega) (by omega) e4 es4
    unfold Gl at this;rw[if_pos e5]at this;exact(VN this).2.symm)
   have HB:=Ab ((Aa K5).bl.trans (hB5.weaken (fun _ h=>.inl h)));clear hB5;go_wp2;exact⟨rfl,.inl ⟨by rw[Aa HF];exact e5,by rw[Aa HF],Aa HB⟩⟩
 have K6:=Ab ((Aa K5).step hK5);have HC5:Hid (w5.heap[w.heap.size]? =some (.cells #[.nilFunc,.nilFunc] 282 (0,0))):=Ab ((hK5.bl.kp _ hz4 (.inr ⟨VB _,hz4⟩)).trans (Aa HC4));have hz5:w.heap.size<w5.heap.size:=by have:=hK5.bl.below.size;omega
 rw[hlen]at hO5;obtain⟨gL,cL,rfl,hgL1,hgL2⟩:=Ba hO5 (by omega);have hcap:=Z0g hO5
 have hRL:Row .i64 w5 gL 0 L:=by
  obtain⟨a',c',eL,hl2,hRI,_⟩:=Xh hO5
  cases eL
  rcases hRI with h0|⟨g',o',e',_,h3⟩
  . rw[h0]at hl2;simp at hl2;omega
  . cases e';exact h3
 have HRL:=Ab hRL;have HLEN:=Ab hlen;have c256:w5.cell? ⟨gL,256,none⟩=some (.int .i64 (L.getD 256 0)):=by have:=hRL 256 (by omega);rw[WG]at this;exact this
 have HEE:Hid (Gl (m0+257) (L,v')=((A,C),v)):=Ab (Aa HE (by omega) (by omega) e4 es4);have HLV2:=Ab (Aa HLV e5);obtain⟨z,hz⟩:∃z,L.getD 256 0=z:=⟨_,rfl⟩
 rw[hz]at c256;have HZ:=Ab hz;clear hK5 hO5 hRL hz HE HLV HLC K1 K2 K3 K4 K5 HC1 HC2 HC3 HC4 HCW HK0;have h256I:(256:Int)<(tot:Int):=by omega
 by_cases z0:z=0
 . have HF:Hid (v= {v' with e:=8}):=Ab (by
    have:=Aa HEE
    unfold Gl at this;rw[if_neg (fun c=>c e5),if_pos (.inl ((Aa HZ).trans z0))]at this;rw[<-(VN this).2];unfold Am;rw[if_pos e5])
   have HGU:=Ab (Cf 8 w5);subst z0;go_wp2_with fail
   refine(Aa HGU).mono ?_;rintro e w6 ⟨rfl,rfl⟩;go_wp2;exact⟨rfl,.inl ⟨by rw[Aa HF];exact(by decide:(8:Int)≠0),by rw[Aa HF],(Aa K6).bl⟩⟩
 have z0b:(z==0)=false:=by rw[beq_eq_false_iff_ne];exact z0
 obtain⟨m,hm⟩:∃m,m0+257=m:=⟨_,rfl⟩
 have hmI:257+(m0:Int)=(m:Int):=by omega
 have hmt:m<=tot:=by omega
 have hA1:(L.take m).length=m:=by rw[VL];have:=Aa HLEN;omega
 have hA2:(L.drop m).length=tot-m:=by rw[VQ,Aa HLEN]
 have HD1:=Ab (fun q=>Kt b (some ⟨gL,0,none⟩) m cL (L.take m) (w5.drewN q) hA1 (by omega) (.inr ⟨gL,0,rfl,hgL2,fun j hj=>by
  have:=Aa HRL j (by have:=Aa HLEN;omega)
  have e:(L.take m).getD j 0=L.getD j 0:=by simp only[List.getD];rw[XX (by omega)]
  rw[e];exact this⟩))
 have HD2:Hid (∀W,Below w5.heap.size w5 W->Calls Tryz.prog 270 #[.pointer (some ⟨b,0,none⟩),.slice (some ⟨gL,m,none⟩) (tot-m) (cL-m)] W fun e w'=>Z8s b (L.drop m) W e w'):=Ab (fun W hB=>Kt b (some ⟨gL,m,none⟩) (tot-m) (cL-m) (L.drop m) W hA2 (by omega) (.inr ⟨gL,m,rfl,by have:=hB.size;omega,fun j hj=>by
  have hj2:m+j<L.length:=by rw[VQ]at hj;omega
  have:=Aa HRL (m+j) hj2
  rw[WG]at this;have e:(L.drop m).getD j 0=L.getD (m+j) 0:=by simp only[List.getD];rw[XJ]
  rw[e];exact(hB.cell (p:=⟨gL,m+j,none⟩) hgL2).trans this⟩))
 have HBAD:Hid (errL (L.take m)≠0\/errL (L.drop m)≠0->v= {v' with e:=8}):=Ab (fun hbad=>by
  have:=Aa HEE
  unfold Gl at this;rw[if_neg (fun c=>c e5),hm,if_pos (.inr hbad)]at this;rw[<-(VN this).2];unfold Am;rw[if_pos e5])
 have HOK:Hid (errL (L.take m)=0->errL (L.drop m)=0->A=L.take m/\C=L.drop m/\v=v'):=Ab (fun ha hc=>by
  have:=Aa HEE
  unfold Gl at this
  rw[if_neg (fun c=>c e5),hm,if_neg (by
   rintro (c|c|c)
   . exact z0 ((Aa HZ).symm.trans c)
   . exact c ha
   . exact c hc)]at this
  exact⟨(VN (VN this).1).1.symm,(VN (VN this).1).2.symm,(VN this).2.symm⟩)
 have H8:Hid ((errL (L.take m)≠0->errL (L.take m)=8)/\(errL (L.drop m)≠0->errL (L.drop m)=8)):=Ab (by
  constructor
  . intro e
    rcases Z2 (L.take m) (by omega) (fun x hx=>Aa HLV2 x (VR hx))with h|h
    . exact absurd h e
    . exact h
  . intro e
    rcases Z2 (L.drop m) (by omega) (fun x hx=>Aa HLV2 x (VW hx))with h|h
    . exact absurd h e
    . exact h)
 have hm0:(m:Int)<=(tot:Int):=by omega
 have hm1:(m:Int)<=(cL:Int):=by omega
 have hm2:(tot:Int)<=(cL:Int):=by omega
 have hcm:¬cL=m:=by omega
 rw[hmI];clear hmI;clear hA1 hA2;go_wp2;refine wp_region_any (by kernel_rfl) ?_
 try (change wpAny _ _ _ _ _ _ _ (World.drew _))
 refine wpAny_take (i:=0) (v:=.pointer (some ⟨b,0,none⟩)) rfl (by kernel_rfl) (by kernel_rfl) (by kernel_rfl) (fun _ _ _ h=>h) (Or.inl ⟨by rfl,fun W=>by go_simp⟩) ?_;simp only[Act.put,VA,VC,VD];refine wpAny_take (i:=1) (v:=.slice (some ⟨gL,0,none⟩) tot cL) rfl (by kernel_rfl) (by kernel_rfl) (by kernel_rfl) (fun _ _ _ h=>h) (Or.inl ⟨by rfl,fun W=>by go_simp⟩) ?_;simp only[Act.put,VA,VC,VD];refine wpAny_take (i:=2) (v:=.int .i64 (m:Int)) rfl (by kernel_rfl) (by kernel_rfl) (by kernel_rfl) (fun _ _ _ h=>h) (Or.inl ⟨by rfl,fun W=>by go_simp⟩) ?_;simp only[Act.put,VA,VC,VD];refine wpAny_take (i:=3) (v:=.slice (some ⟨gL,0,none⟩) m cL) rfl (by kernel_rfl) (by kernel_rfl) (by kernel_rfl) (fun _ _ _ h=>h) (Or.inl ⟨by rfl,fun W=>by go_simp⟩) ?_;simp only[Act.put,VA,VC,VD];refine wpAny_take (i:=5) (v:=.pointer (some ⟨b,0,none⟩)) rfl (by kernel_rfl) (by kernel_rfl) (by kernel_rfl) (fun _ _ _ h=>h) (Or.inl ⟨by rfl,fun W=>by go_simp⟩) ?_;simp only[Act.put,VA,VC,VD];refine wpAny_take (i:=6) (v:=.slice (some ⟨gL,0,none⟩) tot cL) rfl (by kernel_rfl) (by kernel_rfl) (by kernel_rfl) (fun _ _ _ h=>h) (Or.inl ⟨by rfl,fun W=>by go_simp⟩) ?_;simp only[Act.put,VA,VC,VD];refine wpAny_take (i:=7) (v:=.int .i64 (m:Int)) rfl (by kernel_rfl) (by kernel_rfl) (by kernel_rfl) (fun _ _ _ h=>h) (Or.inl ⟨by rfl,fun W=>by go_simp⟩) ?_;simp only[Act.put,VA,VC,VD];refine wpAny_take (i:=8) (v:=.slice (some ⟨gL,m,none⟩) (tot-m) (cL-m)) rfl (by kernel_rfl) (by kernel_rfl) (by kernel_rfl) (fun _ _ _ h=>h) (Or.inl ⟨by rfl,fun W=>by go_simp⟩) ?_;simp only[Act.put,VA,VC,VD];refine wpAny_ready (rs:= [4]) (by kernel_rfl) (by simp) (AllReady.cons rfl (fun K hK=> ?_) AllReady.nil);go_simp
 refine(Aa HD1 _).mono ?_;rintro e w6 ⟨hB6,hd6⟩;have HB6:Hid (Below w5.heap.size w5 w6):=Ab ((Ae (Below.refl _ _) _).trans hB6);clear hB6
 rcases hd6 with ⟨d0,g1,m1,b1,n1,rfl,d1,d2,d3,d4,d5⟩|⟨d0,rfl⟩
 rotate_left
 . have HF:Hid (v= {v' with e:=8}):=Ab (Aa HBAD (.inl d0));rw[(Aa H8).1 d0];exact And.intro rfl (Or.inl ⟨by rw[Aa HF];exact(by decide:(8:Int)≠0),by rw[Aa HF],((Aa K6).past (Aa HB6)).bl⟩)
 dsimp only;refine hK _ _ ?_;clear hK K;refine wpAny_ready (rs:= [9]) (by kernel_rfl) (by simp) (AllReady.cons rfl (fun K hK=> ?_) AllReady.nil);go_simp
 refine(Aa HD2 _ (Aa HB6)).mono ?_;rintro e w7 ⟨hB7,hd7⟩;have HB7:=Ab hB7;have HB57:Hid (Below w5.heap.size w5 w7):=Ab ((Aa HB6).trans (hB7.mono (Aa HB6).size));clear hB7
 rcases hd7 with ⟨x0,g2,m2,b2,n2,rfl,x1,x2,x3,x4,x5⟩|⟨x0,rfl⟩
 rotate_left
 . have HF:Hid (v= {v' with e:=8}):=Ab (Aa HBAD (.inr x0));rw[(Aa H8).2 x0];exact And.intro rfl (Or.inl ⟨by rw[Aa HF];exact(by decide:(8:Int)≠0),by rw[Aa HF],((Aa K6).past (Aa HB57)).bl⟩)
 dsimp only;refine hK _ _ ?_;clear hK K;refine wpAny_ready (rs:= [10]) (by kernel_rfl) (by simp) (AllReady.cons rfl (fun K hK=> ?_) AllReady.nil);go_simp
 refine hK _ _ ?_;clear hK K;refine wpAny_ready (rs:= [11]) (by kernel_rfl) (by simp) (AllReady.cons rfl (fun K hK=> ?_) AllReady.nil);have c70:w7.heap[w.heap.size]? =some (.cells #[.nilFunc,.nilFunc] 282 (0,0)):=((Aa HB57).block _ hz5).trans (Aa HC5);refine Te rfl 282 (.tmp 2) (.tmp 46) rfl w.heap.size #[DV g1 m1,DV g2 m2] _ rfl rfl c70 Fq rfl (by first|rfl|simp[Value.oneCell']) ?_;refine hK _ _ ?_;clear hK K;refine wpAny_done (by kernel_rfl) ?_ _;simp only[Act.put,VA,VC,VD];obtain⟨w8,hw8⟩:∃w8,w7.setRow w.heap.size #[DV g1 m1,DV g2 m2]=w8:=⟨_,rfl⟩
 have c80:w8.heap[w.heap.size]? =some (.cells #[DV g1 m1,DV g2 m2] 282 (0,0)):=by rw[<-hw8];exact setRow_heap _ _ _ _ _ _ c70
 have hgr:w7.grownBy w8 (some w.heap.size):=by rw[<-hw8];exact Nz _ _ _
 have HK8:Hid (Rk No B w b (.slice a n cap) f1 f2 v' w8):=Ab (((Aa K6).past (Aa HB57)).aside hgr (fun g e=>by cases e;exact VB _) (Aa HNo) hbl)
 have D1:Hid (DIs w8 g1 m1 b1 n1 b (L.take m)):=Ab (by
  have t1:=d5.lt;have t2:=d5.is.lt;have hs7:=(Aa HB7).size;refine(d5.keep hs7 ((Aa HB7).block g1 t1.1) ((Aa HB7).block m1 t1.2) ((Aa HB7).block b1 t2)).keep hgr.size (hgr.block g1 (by omega) ?_) (hgr.block m1 (by omega) ?_) (hgr.block b1 (by omega) ?_)<;>(intro e;have:=VM e;have hs5:=hz5;have d1':w5.heap.size<=g1:=d1;have d2':w5.heap.size<=m1:=d2;have d3':w5.heap.size<=b1:=d3;omega))
 have D2:Hid (DIs w8 g2 m2 b2 n2 b (L.drop m)):=Ab (by
  have t1:=x5.lt;have t2:=x5.is.lt;have hs6:=(Aa HB6).size;refine x5.keep hgr.size (hgr.block g2 t1.1 ?_) (hgr.block m2 t1.2 ?_) (hgr.block b2 t2 ?_)<;>(intro e;have:=VM e;omega))
 have HF:Hid (Z8r No B w b (.slice a n cap) f1 f2 A C v (.returned (.agg #[DV g1 m1,DV g2 m2])) w8):=Ab (by
  obtain⟨r1,r2,r3⟩:=Aa HOK d0 x0;have hs6:=(Aa HB6).size;have e1:w.heap.size<=g1:=by have d':w5.heap.size<=g1:=d1;omega
  have e2:w.heap.size<=m1:=by have d':w5.heap.size<=m1:=d2;omega
  have e3:w.heap.size<=b1:=by have d':w5.heap.size<=b1:=d3;omega
  refine .inr ⟨by rw[r3];exact e5,by rw[r3];exact Aa HK8,by rw[r1];exact Ch d0,by rw[r2];exact Ch x0,g1,m1,b1,n1,g2,m2,b2,n2,rfl,by rw[r1];exact Aa D1,by rw[r2];exact Aa D2,⟨e1,e2,e3⟩,⟨by omega,by omega,by omega⟩⟩)
 rw[hw8];clear hw8 hgr d0 d1 d2 d3 d4 d5 x0 x1 x2 x3 x4 x5 D1 D2 HK8 c70;go_wp2;refine bodyPost_ret (v:=.agg #[DV g1 m1,DV g2 m2]) ?_ rfl (Aa HF);exact results_cell_row rfl _ _ w.heap.size _ _ _ _ (by first|rfl|kernel_rfl|simp) c80 Tryz.underlying282 rfl Fq
end Go.Proofs.YtleocpdblhbimaaGreatDoor
