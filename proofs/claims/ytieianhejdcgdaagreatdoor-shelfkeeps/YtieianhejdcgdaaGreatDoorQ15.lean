import Derived.Test.YtieianhejdcgdaaGreatDoorQ14
import Derived.Maps.AppendAt
set_option maxHeartbeats 8000000
namespace Go.Proofs.YtieianhejdcgdaaGreatDoor
set_option linter.unusedVariables false
set_option maxRecDepth 100000
theorem Jf (row:List Bool):∀(ks:List Nat) (s:List Int) (u:US),u.e≠0->(usmall row ks s u).2=u
 | [],s,u,h=>rfl
 |k::r,s,u,h=>by
  rw[usmall,Ff row 3 u h];exact Jf row r _ u h
theorem Tj (x:Int)(u:US)(h:u.e≠0):Ay x u=u:=by unfold Ay;rw[if_neg h]
theorem IU (row:List Bool)(l:List Int)(k:Nat)(u:US)(h:u.e≠0):(ukind row l k u).2.2=u:=by
 unfold ukind
 split
 . split
   . exact Tj 8 u h
   . exact Ff row 2 u h
 . split
   . exact Ff row 3 u h
   . split
     . exact Ff row 7 u h
     . rfl
theorem Yv (tot:Nat)(l:List Int)(r:Int×Nat×US)(h:r.2.2.e≠0):(Sr tot l r).2=r.2.2:=by
 unfold Sr;simp only
 rw[if_neg (fun c=>h c.1)]
theorem QM (row:List Bool)(u u1 u2 u3 us:US)(m0 n0 c0:Nat)(S:List Int)(g1:uget row 5 u=(m0,u1))(g2:uget row 5 u1=(n0,u2))(g3:uget row 4 u2=(c0,u3))(hm:m0+257<=286)(hn:n0+1<=30)(sm:usmall row (ord19.take (c0+4)) (List.replicate 19 0) u3=(S,us))(es:us.e=0)(cs:errL S=0):Db row u=Ig (m0+257) (ulens row S (m0+257+(n0+1)) (m0+257+(n0+1)) [] us):=by
 have hs:Gj row (m0+257) (n0+1) (c0+4) u3=(S,us):=by
  unfold Gj;rw[if_neg (by omega)];exact sm
 have hu:Tq (S,us)=us:=by
  unfold Tq;rw[if_neg (fun c=>c.2 cs)]
 unfold Db;simp only[g1,g2,g3];rw[hs];unfold Nn;rw[hu,if_neg (fun c=>c es)]
theorem Mp (row:List Bool)(u u1 u2 u3:US)(m0 n0 c0:Nat)(g1:uget row 5 u=(m0,u1))(g2:uget row 5 u1=(n0,u2))(g3:uget row 4 u2=(c0,u3))(x:US)(hx:x.e≠0)(sm:(usmall row (ord19.take (c0+4)) (List.replicate 19 0) (if 286<m0+257\/30<n0+1 then Ay 8 u3 else u3)).2=x):(Db row u).2=x:=by
 obtain⟨s,hs⟩:∃s,Gj row (m0+257) (n0+1) (c0+4) u3=s:=⟨_,rfl⟩
 have h2:s.2=x:=by rw[<-hs];exact sm
 have hu:Tq s=x:=by
  unfold Tq;rw[if_neg (fun c=>hx (by rw[<-h2];exact c.1))];exact h2
 unfold Db;simp only[g1,g2,g3];rw[hs];unfold Nn;rw[hu,if_pos hx]
theorem Rg (row:List Bool)(N:Nat)(hN:row.length=8*N):∀(F:Nat) (u:US),u.e=0->u.p<=row.length->u.out.length<=3000->row.length+1<=u.p+F->(Ce row F u).e=0->u.p+3<=(Ce row F u).p/\(Ce row F u).p<=row.length/\(Ce row F u).out.length<=3000/\u.ks.length+1<=(Ce row F u).ks.length/\(Ce row F u).ks.length+u.p<=u.ks.length+(Ce row F u).p
 |0,u,he,hp,ho,hF,h=>by omega
 |F+1,u,he,hp,ho,hF,h=>by
  rw[Ce]at h ⊢
  by_cases c:(Bv row u).1=0/\(Bv row u).2.e=0
  . rw[if_pos c]at h ⊢;obtain⟨a1,a2,a3,a4⟩:=Jp row N hN u he hp ho c.2;obtain⟨i1,i2,i3,i4,i5⟩:=Rg row N hN F _ c.2 a3 a4 (by omega) h;exact⟨by omega,i2,i3,by omega,by omega⟩
  . rw[if_neg c]at h ⊢;obtain⟨a1,a2,a3,a4⟩:=Jp row N hN u he hp ho h;exact⟨by omega,a3,a4,by omega,by omega⟩
theorem D8 (row:List Bool)(N:Nat)(hN:row.length=8*N)(h:(Dd row).e=0):3<=(Dd row).p/\(Dd row).p<=row.length/\(Dd row).out.length<=3000/\1<=(Dd row).ks.length/\(Dd row).ks.length<=row.length:=by
 have:=Rg row N hN (row.length+1) US0 rfl (VM _) (VM _) (by show _<=0+_;omega) h
 obtain⟨i1,i2,i3,i4,i5⟩:=this;have z1:US0.p=0:=rfl;have z2:US0.ks.length=0:=rfl;unfold Dd;exact⟨by omega,i2,i3,by omega,by omega⟩
theorem U9 (l:List Int)(hl:l.length<=288)(h:∀x∈l,0<=x/\x<=15):errL l=0\/errL l=8:=by
 unfold errL;rw[if_neg (by omega),if_neg]
 . split
   . exact .inr rfl
   . exact .inl rfl
 . rintro ⟨j,hj,hb⟩;have hm:=h (l.getD j 0) (by rw[List.getD,VR hj];exact WR hj);have:=Kf hb
   omega
theorem IQ (row:List Bool)(l:List Int)(k:Nat)(u:US)(hk:k<19)(hl:∀x∈l,0<=x/\x<=15)(he:(ukind row l k u).2.2.e=0):0<=(ukind row l k u).1/\(ukind row l k u).1<=15:=by
 unfold ukind at he ⊢
 by_cases c:k=16
 . rw[if_pos c]at he ⊢
   by_cases d:l.length=0
   . rw[if_pos d]at he;exact absurd he (Da (by decide))
   . rw[if_neg d];have hj:l.length-1<l.length:=by omega
     exact hl _ (by rw[List.getD,VR hj];exact WR hj)
 . rw[if_neg c]
   split
   . exact⟨by simp,by simp⟩
   . split
     . exact⟨by simp,by simp⟩
     . simp only
       omega
theorem To {row:List Bool}{S:List Int}{tot:Nat}(hS:S.length=19):∀(F:Nat) (l:List Int) (u:US),(∀x∈l,0<=x/\x<=15)->(ulens row S tot F l u).2.e=0->∀x∈(ulens row S tot F l u).1,0<=x/\x<=15
 |0,l,u,hl,h=>hl
 |F+1,l,u,hl,h=>by
  by_cases hc:l.length<tot/\u.e=0
  . obtain⟨r,e⟩:=Ka hc.1 hc.2 h;rw[e]at h ⊢;refine To hS F _ _ ?_ h;rw[r.st];have hk:=(Di (k:=(uplace S row u).1) (v:=(uplace S row u).2) rfl r.pe).2.2.2.2.2;have hv:=IQ row l (uplace S row u).1 (uplace S row u).2 (by omega) hl r.ke;intro x hx
    rcases VZ.1 hx with h1|h1
    . exact hl x h1
    . rw[List.eq_of_mem_replicate h1];exact hv
  . rw[ulens,if_neg hc];exact hl
theorem Px {row:List Bool}:∀(ks:List Nat) (s:List Int) (u:US),(∀x∈s,0<=x/\x<=7)->∀x∈(usmall row ks s u).1,0<=x/\x<=7
 | [],s,u,h=>h
 |k::r,s,u,h=>by
  rw[usmall];refine Px r _ _ ?_;intro x hx;have hl:=PY row 3 u
  rcases List.mem_or_eq_of_mem_set hx with h1|h1
  . exact h x h1
  . subst h1;omega
end Go.Proofs.YtieianhejdcgdaaGreatDoor
namespace Go.Proofs.YtieianhejdcgdaaGreatDoor
open Go.RowKit
set_option linter.unusedVariables false
set_option linter.unusedSimpArgs false
set_option maxRecDepth 100000
theorem Rk.aside {No:Nat->Prop}{B b:Nat}{w w1 w2:World}{R f1 f2:Value}{u:US}{r:Option Nat}(h:Rk No B w b R f1 f2 u w1)(hg:w1.grownBy w2 r)(hr:∀g,r=some g->w.heap.size<=g)(hNo:∀g,w.heap.size<=g->¬No g)(hbw:b<w.heap.size):Rk No B w b R f1 f2 u w2:=by
 have hs:=h.bl.below.size;obtain⟨ov,kv,d1,d2,d3,d4,d5,d6⟩:=h.is.ex
 have hx:∀ {e size n:Nat} {z:Value} {xs:List Value},w1.ownsRow (b+1) e size z n xs->(∀g,z.ownBlock=some g->¬NJ No w.heap.size g)->∀g,z.ownBlock=some g->w2.heap[g]? =w1.heap[g]? :=fun {e size n z xs} ho hz g hg2=>
  hg.block g (ho.lt g hg2).2 (fun e=>hz g hg2 (.inr (hr g e.symm)))
 refine⟨⟨h.is.base,h.is.no,ov,kv,(hg.block b h.is.lt (fun e=> ?_)).trans d1,Ar d2 (hx d2 d5),Ar d3 (hx d3 d6),d4,d5,d6⟩,h.bl.trans ⟨(Below.refl B w1).grown hg (VX h.is.base (YU h.is.lt)) (fun g e=>by have:=hr g e;have:=h.is.base;omega),fun g h1 h2=>hg.block g h1 (fun e=>hNo g (hr g e.symm) h2)⟩⟩;have:=hr b e.symm
 omega
theorem Rk.step {No:Nat->Prop}{B b:Nat}{w w1 w2:World}{R f1 f2 g1 g2:Value}{u v:US}(h:Rk No B w b R f1 f2 u w1)(k:Rk (NK No w.heap.size w1.heap.size) B w1 b R g1 g2 v w2):Rk No B w b R g1 g2 v w2:=by
 have hs:=h.bl.below.size;refine⟨k.is.weak (fun g hg=> ?_),h.bl.trans (k.bl.weaken (fun _ h=>.inl h))⟩
 rcases hg with e|e
 . exact .inl (.inl e)
 . by_cases c:g<w1.heap.size
   . exact .inl (.inr ⟨e,c⟩)
   . exact .inr (by omega)
theorem Rk.inner {No:Nat->Prop}{B b:Nat}{w w1:World}{R f1 f2:Value}{u:US}(h:Rk No B w b R f1 f2 u w1):IIs (NK No w.heap.size w1.heap.size) B w1 b R f1 f2 u:=h.is.weak (fun g hg=>by
 rcases hg with e|e
 . exact .inl e
 . exact .inr e.1)
theorem Rk.sym {No:Nat->Prop}{B b:Nat}{w w1 w2:World}{R f1 f2:Value}{u v:US}(h:Rk No B w b R f1 f2 u w1)(k:IUp (NK No w.heap.size w1.heap.size) B w1 b R f1 f2 v w2)(hK:Ml b w1 w2):Rk No B w b R f1 f2 v w2:=⟨h.is.back k.is hK,h.bl.trans (k.bl.weaken (fun _ h=>.inl h))⟩
def Z7g:Value->Nat
 | .slice _ n _=>n
 |_=>0
theorem RZ {w:World}{B e size n g c:Nat}{xs:List Value}(h:w.ownsRow B e size (.slice (some ⟨g,0,none⟩) n c) n xs):n<=c:=by
 rcases h.2 with ⟨h1,_⟩|⟨g',cap,cur,h1,h2,h3,h4⟩
 . cases h1
 . cases h1
   exact h4.1
theorem Wd {w:World}{B n:Nat}{v:Value}{xs:List Int}(h:w.ownsRow B 3 1 v n (iv xs)):∃a c,v=.slice a n c/\xs.length=n/\RowIn .i64 w a xs/\∀g o,a=some ⟨g,o,none⟩->xs≠ []->B<=g:=by
 have hn:xs.length=n:=by have:=h.1;simpa using this
 rcases h.2 with ⟨h1,h2⟩|⟨g,cap,cur,h1,h2,h3⟩
 . subst h2;exact⟨none,0,h1,hn,.inl (WP hn),fun g o e=>by cases e⟩
 . subst h1;refine⟨_,_,rfl,hn,.inr ⟨g,0,rfl,(h.lt g rfl).2,fun j hj=> ?_⟩,fun g' o e _=>by cases e;exact h2⟩;rw[WI,h.cellAt j (by omega)];simp[iv,List.getD,hj]
theorem T3 (No:Nat->Prop)(B b:Nat)(a:Option Addr)(n cap:Nat)(bs:List Nat)(f1 f2:Value)(u:US)(w:World)(h:IIs No B w b (.slice a n cap) f1 f2 u)(hR:Rd w No a n bs)(hp:u.p<=8*n)(he:u.e=0)(hNo:∀g,w.heap.size<=g->¬No g)(gr gm mb nn:Nat)(S:List Int)(hD:DIs w gr gm mb nn b S)(hG:Good S)(hN3:No gr/\No gm/\No mb)(hS:S.length=19)(tot:Nat)(htot:tot<=400)(L:List Int)(v:US)(hr:Hid (ulens (rowB bs n) S tot tot [] u=(L,v))):
 Calls Tryz.prog 279 #[.pointer (some ⟨b,0,none⟩),DV gr gm,.int .i64 (tot:Int)] w fun e w'=>(v.e≠0/\e=Flt v.e/\Bl No B w w')\/ (v.e=0/\Rk No B w b (.slice a n cap) f1 f2 v w'/\∃sv,e=.returned sv/\w'.ownsRow w.heap.size 3 1 sv L.length (iv L)/\L.length=tot):=by
 have hrl:=Ag bs n;have hbl:=h.lt;obtain⟨i0,hi0,hz0,hz1,hz2⟩:=info_parts Cn;have HK0:=Ab (Rk.refl h);have HPE:=Ab (And.intro he hp);have HNo:=Ab hNo;have HRW:Hid (∀wr,Bl No B w wr->Rd wr (NJ No w.heap.size) a n bs/\Rd wr (NK No w.heap.size wr.heap.size) a n bs):=Ab (fun wr hb=>⟨(hR.keep hb.below.size hb.kp).wide (fun _ h=>.inl h),(hR.keep hb.below.size hb.kp).wide (fun _ h=>.inl h)⟩)
 have HSY:Hid (∀wr x k y,Rk No B w b (.slice a n cap) f1 f2 x wr->x.p<=8*n->x.e=0->uplace S (rowB bs n) x=(k,y)->Calls Tryz.prog 289 #[.pointer (some ⟨gr,0,none⟩),.pointer (some ⟨gm,0,none⟩)] wr fun e w'=>GotK (NK No w.heap.size wr.heap.size) B wr b (.slice a n cap) f1 f2 (.int .i64 (k:Int)) y e w'):=Ab (fun wr x k y hk h1 h2 h3=>by
  have l1:=hD.lt;have l2:=hD.is.lt;have hs:=hk.bl.below.size
  exact Z5 (NK No w.heap.size wr.heap.size) B b a n cap bs f1 f2 x wr hk.inner (Aa HRW wr hk.bl).2 h1 h2 gr gm mb nn S (hD.keep hs (hk.bl.kp gr l1.1 hN3.1) (hk.bl.kp gm l1.2 hN3.2.1) (hk.bl.kp mb l2 hN3.2.2)) hG ⟨.inl hN3.1,.inl hN3.2.1,.inl hN3.2.2⟩ (fun g hg e=>by
   rcases e with e|e
   . exact hNo g (by omega) e
   . omega) k y (Ab h3))
 have HRN:Hid (∀wr x (al:Option Addr) (M cp:Nat) (l:List Int) k xv t y,Rk No B w b (.slice a n cap) f1 f2 x wr->x.p<=8*n->x.e=0->l.length=M->M<=1000->RowIn .i64 wr al l->(∀g o,al=some ⟨g,o,none⟩->l≠ []->w.heap.size<=g)->k<19->ukind (rowB bs n) l k x=(xv,t,y)->Calls Tryz.prog 290 #[.pointer (some ⟨b,0,none⟩),.int .i64 (k:Int),.slice al M cp] wr fun e w'=>Got (NJ No w.heap.size) B wr b (.slice a n cap) f1 f2 (.tuple #[.int .i64 xv,.int .i64 (t:Int)]) y e w'):=Ab (fun wr x al M cp l k xv t y hk h1 h2 h3 h4 h5 h6 h7 h8=>
  Z2b (NJ No w.heap.size) B b a n cap bs f1 f2 x wr hk.is (Aa HRW wr hk.bl).1 h1 h2 al M cp l h3 h4 h5 (fun g o e1 e2=>.inr (h6 g o e1 e2)) k h7 xv t y (Ab h8))
 clear h hR hp he hNo hD hG hN3;go_enter Tryz.func279,Tryz.ntmps279
 go_wp2;go_loopw [7] (fun v7 wr=>∃(l:List Int) (F:Nat) (x:US),Hid (ulens (rowB bs n) S tot F l x=(L,v))/\Hid (tot<=l.length+F)/\Hid (l.length<=tot)/\Hid (x.e=0/\x.p<=8*n)/\Hid (Rk No B w b (.slice a n cap) f1 f2 x wr)/\Hid (wr.ownsRow w.heap.size 3 1 v7 l.length (iv l))) (fun v7 _=>1000-Z7g v7)
 case atStart=>exact⟨[],tot,u,hr,Ab (by simp),Ab (by simp),HPE,HK0,Ab (World.ownsRow_nil _ _ _ _)⟩
 case round=>
  obtain⟨l,F,x,hL,hF,hle,hxe,hK,hO⟩:=hrel;obtain⟨aL,cL,rfl,hlM,hRI,hNg⟩:=Wd (Aa hO);obtain⟨M,hM⟩:∃M,l.length=M:=⟨_,rfl⟩
  have HLM:=Ab hM;rw[hM]at hF hle hO ⊢;have hF2:=Aa hF;have hle2:=Aa hle;obtain⟨hx0,hxp⟩:=Aa hxe;clear hF hle hlM
  by_cases hlt:M<tot
  . cases F with
    |zero=>exact absurd hF2 (by omega)
    |succ F=>
     have hst:=Aa hL;rw[ulens,if_pos ⟨by rw[hM];exact hlt,hx0⟩]at hst;obtain⟨k,v1,h1⟩:∃k v1,uplace S (rowB bs n) x=(k,v1):=⟨_,_,rfl⟩
     unfold ustep at hst;rw[h1]at hst;obtain⟨xv,t,v2,h2⟩:∃xv t v2,ukind (rowB bs n) l k v1=(xv,t,v2):=⟨_,_,_,rfl⟩
     simp only at hst
     rw[h2]at hst;have HST:=Ab hst;have HS1:=Ab (Aa HSY wr x k v1 (Aa hK) hxp hx0 h1)
     have hv1p:v1.p<=8*n:=by
      have:=Ih S (rowB bs n) x (by omega)
      rw[h1,hrl]at this;exact this
     have H1:=Ab h1;have H2:=Ab h2;have hltI:(M:Int)<(tot:Int):=by omega
     clear hst h1 h2 hL hM;go_wp2_with fail
     refine(Aa HS1).mono ?_;rintro e w1 hg
     rcases hg with ⟨e1,rfl,hU1,hKB1⟩|⟨e1,rfl,hB1⟩
     rotate_left
     . have HF:Hid (v=v1):=Ab (by
        have e2:v2=v1:=by have:=IU (rowB bs n) l k v1 e1;rw[Aa H2]at this;exact this
        have e3:=Yv tot l (xv,t,v2) (by rw[show (xv,t,v2).2.2=v2 from rfl,e2];exact e1);have:=Aa HST
        rw[Jg (by rw[e3,show (xv,t,v2).2.2=v2 from rfl,e2];exact e1)]at this;rw[<-(VU this).2,e3];exact e2)
       have HB:=Ab ((Aa hK).bl.trans (hB1.weaken (fun _ h=>.inl h)));clear hB1;go_wp2;exact⟨rfl,.inl ⟨by rw[Aa HF];exact e1,by rw[Aa HF],Aa HB⟩⟩
     have hk19:k<19:=by
      have:=(Di (Aa H1) e1).2.2.2.2.2
      omega
     have HK1:=Ab ((Aa hK).sym hU1 hKB1);have HO1:Hid (w1.ownsRow w.heap.size 3 1 (.slice aL M cL) M (iv l)):=Ab (Ar (Aa hO) (fun g hg=>hU1.kp g ((Aa hO).lt g hg).2 (.inr ⟨((Aa hO).lt g hg).1,((Aa hO).lt g hg).2⟩)));obtain⟨aL',cL',eL,hlM,hRI1,hNg1⟩:=Wd (Aa HO1);obtain⟨rfl,rfl⟩:aL'=aL/\cL'=cL:=by cases eL;exact⟨rfl,rfl⟩
     have HR2:=Ab (Aa HRN w1 v1 aL' M cL' l k xv t v2 (Aa HK1) hv1p e1 hlM (by omega) hRI1 hNg1 hk19 (Aa H2));have htpos:=Yx (rowB bs n) l k v1;rw[Aa H2]at htpos;have ht1:1<=t:=htpos.1;have ht2:t<=138:=htpos.2
     have hv2p:v2.e=0->v2.p<=8*n:=fun e=>by
      have:=(IR (row:=rowB bs n) (l:=l) (k:=k) (u:=v1) (by rw[Aa H2];exact e) (by omega)).2.1
      rw[Aa H2,hrl]at this;exact this
     have HV2P:=Ab hv2p;clear hU1 hKB1 hRI hNg hRI1 hNg1 htpos hv2p eL hO hK HS1;go_wp2_with fail
     refine(Aa HR2).mono ?_;rintro e w2 hg
     rcases hg with ⟨e2,rfl,hU2⟩|⟨e2,rfl,hB2⟩
     rotate_left
     . have HF:Hid (v=v2):=Ab (by
        have e3:=Yv tot l (xv,t,v2) e2;have:=Aa HST
        rw[Jg (by rw[e3];exact e2)]at this;rw[<-(VU this).2,e3])
       have HB:=Ab ((Aa HK1).bl.trans (hB2.weaken (fun _ h=>.inl h)));clear hB2;go_wp2;exact⟨rfl,.inl ⟨by rw[Aa HF];exact e2,by rw[Aa HF],Aa HB⟩⟩
     have HK2:=Ab ((Aa HK1).num hU2);have HO2:Hid (w2.ownsRow w.heap.size 3 1 (.slice aL' M cL') M (iv l)):=Ab (Ar (Aa HO1) (fun g hg=>hU2.kp g ((Aa HO1).lt g hg).2 (.inr ((Aa HO1).lt g hg).1)));clear hU2 HO1 HK1 HR2
     by_cases hfit:tot<M+t
     . have HF:Hid (v.e=8):=Ab (by
        have:=Aa HST
        unfold Sr at this;rw[if_pos ⟨e2,by rw[Aa HLM];exact hfit⟩]at this;have h8:(Ay 8 v2).e=8:=by unfold Ay;rw[if_pos e2]
        rw[Jg (by show (Ay 8 v2).e≠0;rw[h8];decide)]at this;rw[<-(VU this).2];exact h8)
       have hfI:(tot:Int)<(M:Int)+(t:Int):=by omega
       have HG:=Ab (Bw 8 w2);clear HST;go_wp2_with fail
       refine(Aa HG).mono ?_;rintro e w3 ⟨rfl,rfl⟩;go_wp2;exact⟨rfl,.inl ⟨by rw[Aa HF];decide,by rw[Aa HF],(Aa HK2).bl⟩⟩
     . have hfI:¬(tot:Int)<(M:Int)+(t:Int):=by omega
       have HSN:Hid (ulens (rowB bs n) S tot F (l++List.replicate t xv) v2=(L,v)):=Ab (by
        have:=Aa HST
        unfold Sr at this;rw[if_neg (fun c=>hfit (by rw[<-Aa HLM];exact c.2))]at this;exact this)
       clear HST;generalize wr=wl at*;go_wp2;go_loopw [7,30] (fun v7 v30 wr=>∃j:Nat,j<=t/\v30=.int .i64 (j:Int)/\Hid (Rk No B w b (.slice a n cap) f1 f2 v2 wr)/\Hid (wr.ownsRow w.heap.size 3 1 v7 (M+j) (iv (l++List.replicate j xv)))) (fun _ v30 _=>t-(intOf v30).toNat)
       case atStart=>exact⟨0,VM _,rfl,HK2,Ab (by rw[YX,WO];exact Aa HO2)⟩
       case round=>
        obtain⟨j,hj,rfl,hKj,hOj⟩:=hrel;obtain⟨aJ,cJ,rfl⟩:=Ao (Aa hOj)
        by_cases hjt:j<t
        . have hjI:(j:Int)<(t:Int):=by omega
          have hsj:=(Aa hKj).bl.below.size;go_wp2_with (at_builtin;refine wpList_append_own_at _ rfl _ _ 81 rfl w.heap.size 3 i0 (.int .i64 0) 1 8 Tryz.underlying81 hi0 hz0 hz1 hz2 rfl (by decide) _ (M+j) (iv (l++List.replicate j xv)) rfl ((Aa hOj).alloc _) ⟨wr.heap.size,0,none⟩ 1 1 [.int .i64 xv] rfl rfl (cell_one_new _ _ _) (Bf rfl) (by unfold maxLen;omega) (by omega) (by simp;omega) ?_)
          intro v' w5 hO5 hgrow5 _ hspot5;have HK5:Hid (Rk No B w b (.slice a n cap) f1 f2 v2 w5):=Ab (((Aa hKj).past ((Below.refl _ _).alloc (VC _) _)).aside hgrow5 (fun g e=>((Aa hOj).lt g e).1) (Aa HNo) hbl)
          have HO5:Hid (w5.ownsRow w.heap.size 3 1 v' (M+(j+1)) (iv (l++List.replicate (j+1) xv))):=Ab (by
           have e1:iv (l++List.replicate (j+1) xv)=List.map (Value.int .i64) l++(List.replicate j (.int .i64 xv)++ [.int .i64 xv]):=by
            rw[List.replicate_succ'];simp[iv]
           rw[e1];exact hO5)
          obtain⟨a9,c9,rfl⟩:=Ao hO5;clear hO5 hgrow5 hspot5;go_wp2;go_roundw
          case rel=>exact⟨j+1,by omega,by go_num,HK5,HO5⟩
          case measure=>simp[intOf];omega
        . obtain rfl:j=t:=by omega
          have hll:(l++List.replicate j xv).length=M+j:=by rw[VB,XT,Aa HLM]
          have HFN:Hid (wr.ownsRow w.heap.size 3 1 (.slice aJ (M+j) cJ) (l++List.replicate j xv).length (iv (l++List.replicate j xv))):=Ab (by rw[hll];exact Aa hOj);have HFN2:=Ab hll;clear hll;go_wp2;go_roundw
          case rel=>exact⟨l++List.replicate j xv,F,v2,HSN,Ab (by rw[Aa HFN2];omega),Ab (by rw[Aa HFN2];omega),Ab ⟨e2,Aa HV2P e2⟩,hKj,HFN⟩
          case measure=>show 1000-(M+j)<1000-M;omega
  . have HF:Hid (L=l/\v=x):=Ab (by
     have:=Aa hL
     cases F with
     |zero=>exact⟨(VU this).1.symm,(VU this).2.symm⟩
     |succ F=>
      rw[ulens,if_neg (fun c=>hlt (by rw[<-hM];exact c.1))]at this;exact⟨(VU this).1.symm,(VU this).2.symm⟩)
    have hltI:¬(M:Int)<(tot:Int):=by omega
    have hMt:M=tot:=by omega
    have HMT:=Ab hMt;clear hL hM hMt;go_wp2;go_ret;refine .inr ⟨by rw[(Aa HF).2];exact hx0,by rw[(Aa HF).2];exact Aa hK,_,rfl, ?_, ?_⟩
    . rw[(Aa HF).1,Aa HLM];exact Aa hO
    . rw[(Aa HF).1,Aa HLM];exact Aa HMT
end Go.Proofs.YtieianhejdcgdaaGreatDoor
