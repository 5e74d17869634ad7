import Derived.Test.YtieianhejdcgdaaGreatDoorQ7
set_option maxHeartbeats 8000000
namespace Go.Proofs.YtieianhejdcgdaaGreatDoor
set_option linter.unusedVariables false
def Cv (row:List Bool)(lb:List Int)(k:Nat)(u:US):US:=
 if k<256 then (if 3000<u.out.length+1 then {u with e:=2}else {u with out:=u.out++ [k]})
 else if 285<k then {u with e:=8}
 else if (uget row (Cw k).2 u).2.e≠0 then (uget row (Cw k).2 u).2
 else if (Ok row lb (uget row (Cw k).2 u).2).2.e≠0 then (Ok row lb (uget row (Cw k).2 u).2).2
 else Ju (Ok row lb (uget row (Cw k).2 u).2).1 ((Cw k).1+(uget row (Cw k).2 u).1) (Ok row lb (uget row (Cw k).2 u).2).2
def EP (row:List Bool)(la lb:List Int):Nat->Nat->US->US
 |0,_,u=>u
 |f+1,k,u=>if k=256 then u
  else if (Cv row lb k u).e≠0 then Cv row lb k u
  else if (uplace la row (Cv row lb k u)).2.e≠0 then (uplace la row (Cv row lb k u)).2
  else EP row la lb f (uplace la row (Cv row lb k u)).1 (uplace la row (Cv row lb k u)).2
def Ib (row:List Bool)(la lb:List Int)(f:Nat)(u:US):US:=
 if (uplace la row u).2.e≠0 then (uplace la row u).2 else EP row la lb f (uplace la row u).1 (uplace la row u).2
theorem Uj (l:List Int)(row:List Bool)(p:Nat):∀f n,1<=n->(Fe l row p f n).2.2=0->1<=(Fe l row p f n).2.1
 |0,n,_,h=>absurd (show (8:Int)=0 from h) (by decide)
 |f+1,n,hn,h=>by
  unfold Fe at h ⊢
  split
  . rename_i hc
    rw[if_pos hc]at h;exact absurd (show (7:Int)=0 from h) (by decide)
  . rename_i hc
    rw[if_neg hc]at h
    split
    . exact hn
    . rename_i hf
      rw[hf]at h;exact Uj l row p f (n+1) (by omega) h
theorem Gk (l:List Int)(row:List Bool)(u:US):(uplace l row u).2.out=u.out/\(uplace l row u).2.ks=u.ks/\u.p<=(uplace l row u).2.p:=by
 unfold uplace
 split
 . exact⟨rfl,rfl,Nat.le_add_right _ _⟩
 . exact⟨rfl,rfl,VC _⟩
theorem IL (l:List Int)(row:List Bool)(u:US)(he:u.e=0)(h:(uplace l row u).2.e=0):u.p<(uplace l row u).2.p:=by
 unfold uplace at h ⊢;rw[if_pos he]at h ⊢;have:=Uj l row u.p 15 1 (VC _) h
 show u.p<u.p+(Qw l row u.p).2.1
 unfold Qw;omega
theorem O4 (row:List Bool)(n:Nat)(u:US):u.p<=(uget row n u).2.p:=by
 unfold uget
 split
 . split
   . exact VC _
   . exact Nat.le_add_right _ _
 . exact VC _
theorem EK:∀k,k<=29->1<=(Cy k).1/\(Cy k).1<=40000/\(Cy k).2<=13:=by decide
theorem T4:∀j,j<=28->1<=(Cw (257+j)).1/\(Cw (257+j)).1<=300/\(Cw (257+j)).2<=5:=by decide
theorem EJ (k:Nat)(h1:257<=k)(h2:k<=285):1<=(Cw k).1/\(Cw k).1<=300/\(Cw k).2<=5:=by
 obtain⟨j,rfl⟩:∃j,k=257+j:=⟨k-257,by omega⟩
 exact T4 j (by omega)
theorem Uo (row:List Bool)(l:List Int)(u:US)(hp:u.p<=row.length):(Ok row l u).2.out=u.out/\(Ok row l u).2.ks=u.ks/\u.p<=(Ok row l u).2.p/\(Ok row l u).2.p<=row.length:=by
 obtain⟨h1,h2,h3⟩:=Gk l row u;have h4:=Ih l row u hp;unfold Ok
 split
 . exact⟨h1,h2,h3,h4⟩
 . split
   . exact⟨h1,h2,h3,h4⟩
   . exact⟨(Cg row _ _).trans h1,(Ht row _ _).trans h2,VX h3 (O4 _ _ _),Gp row _ _ h4⟩
theorem TI (row:List Bool)(l:List Int)(u:US)(h:(Ok row l u).2.e=0):1<=(Ok row l u).1/\(Ok row l u).1<=80000:=by
 unfold Ok at h ⊢
 split
 . rename_i hc
   rw[if_pos hc]at h;exact absurd h hc
 . rename_i hc
   rw[if_neg hc]at h
   split
   . rename_i hd
     rw[if_pos hd]at h;exact absurd (show (8:Int)=0 from h) (by decide)
   . rename_i hd
     obtain⟨a1,a2,a3⟩:=EK (uplace l row u).1 (by omega);have:=My row (Cy (uplace l row u).1).2 (uplace l row u).2
     have h13:2^(Cy (uplace l row u).1).2<=2^13:=VV (by decide) a3;have:(2:Nat)^13=8192:=by decide
     dsimp only;omega
end Go.Proofs.YtieianhejdcgdaaGreatDoor
namespace Go.Proofs.YtieianhejdcgdaaGreatDoor
open Go.RowKit
set_option linter.unusedVariables false
set_option maxRecDepth 100000
def LY (n b:Nat)(w:World):Nat:=8*n+1-((w.cell? ⟨b,1,none⟩).map (fun x=>(intOf x).toNat)).getD 0
theorem Lp {No:Nat->Prop}{B b n:Nat}{w:World}{R f1 f2:Value}{u:US}(h:IIs No B w b R f1 f2 u):LY n b w=8*n+1-u.p:=by
 unfold LY;rw[h.cell.2.1];simp[intOf]
theorem Rh (d k:Nat)(u:US)(h:(Ju d k u).e=0):(Ju d k u).p=u.p/\(Ju d k u).ks=u.ks/\(u.out.length<=3000->(Ju d k u).out.length<=3000):=by
 unfold Ju at h ⊢
 split
 . rename_i hc
   rw[if_pos hc]at h;exact absurd (show (9:Int)=0 from h) (by decide)
 . rename_i hc
   rw[if_neg hc]at h
   split
   . rename_i hd
     rw[if_pos hd]at h;exact absurd (show (2:Int)=0 from h) (by decide)
   . rename_i hd
     rw[if_neg hd]at h;exact O5 h
theorem Tw (No:Nat->Prop)(B b:Nat)(a:Option Addr)(n cap:Nat)(bs:List Nat)(f1 f2:Value)(u:US)(w:World)(h:IIs No B w b (.slice a n cap) f1 f2 u)(hR:Rd w No a n bs)(hp:u.p<=8*n)(he:u.e=0)(ho:u.out.length<=3000)(g1 m1 b1 n1 g2 m2 b2 n2:Nat)(la lb:List Int)(hDa:DIs w g1 m1 b1 n1 b la)(hGa:Good la)(hNa:No g1/\No m1/\No b1)(hDb:DIs w g2 m2 b2 n2 b lb)(hGb:Good lb)(hNb:No g2/\No m2/\No b2)(hNo:∀g,w.heap.size<=g->¬No g)(V:US)(hV:Hid (Ib (rowB bs n) la lb (8*n+1) u=V)):
 Calls Tryz.prog 258 #[.pointer (some ⟨b,0,none⟩),.agg #[DV g1 m1,DV g2 m2]] w fun e w'=>Got No B w b (.slice a n cap) f1 f2 (.tuple #[]) V e w':=by
 have hrl:=Ag bs n;obtain⟨F,hF⟩:∃F,8*n+1=F:=⟨_,rfl⟩
 rw[hF]at hV;obtain⟨gB,hgB⟩:∃gB,w.heap.size=gB:=⟨_,rfl⟩
 obtain⟨W1,hW1⟩:∃W1,w.alloc (.cells #[DV g1 m1,DV g2 m2] 286)=W1:=⟨_,rfl⟩
 have hbl:=h.lt;have hBw:B<=gB:=by have:=h.base;omega
 have B1:Below gB w W1:=by rw[<-hW1,<-hgB];exact(Below.refl _ _).alloc (VC _) _
 have hK1:Kp No w W1:=fun g hg _=>B1.block g (by omega)
 have hz1:W1.heap.size=gB+1:=by rw[<-hW1,<-hgB];simp
 have hnew:W1.heap[gB]? =some (.cells #[DV g1 m1,DV g2 m2] 286 (0,0)):=by rw[<-hW1,<-hgB];exact heap_alloc_new _ _
 have I1:IIs (NI No gB) B W1 b (.slice a n cap) f1 f2 u:=(h.more (No':=NI No gB) (fun e=>by rcases e with e|e;exact h.no e;omega) (fun g hg=>by rcases hg with e|e;exact .inl e;exact .inr (by omega))).grown (w':=W1) (by rw[<-hW1];exact World.grownBy_alloc w _ none);have R1:Rd W1 (NI No gB) a n bs:=(hR.keep (w':=W1) (by omega) hK1).more;have la1:=hDa.lt;have la2:=hDa.is.lt;have lb1:=hDb.lt;have lb2:=hDb.is.lt;have A1:DIs W1 g1 m1 b1 n1 b la:=hDa.keep (by omega) (B1.block g1 (by omega)) (B1.block m1 (by omega)) (B1.block b1 (by omega));have C1:DIs W1 g2 m2 b2 n2 b lb:=hDb.keep (by omega) (B1.block g2 (by omega)) (B1.block m2 (by omega)) (B1.block b2 (by omega))
 have hNo1:∀g,W1.heap.size<=g->¬NI No gB g:=fun g hg e=>by
  rcases e with e|e
  . exact hNo g (by omega) e
  . omega
 have HCB:Hid (∀wr x,IUp (NI No gB) B W1 b (.slice a n cap) f1 f2 x wr->wr.cell? ⟨gB,0,none⟩=some (DV g1 m1)/\wr.cell? ⟨gB,1,none⟩=some (DV g2 m2)):=Ab (fun wr x hU=>by
  have:=(hU.kp gB (by omega) (.inr rfl)).trans hnew
  exact⟨Ac this,Ac this⟩)
 have HSYM:Hid (∀wr x,IUp (NI No gB) B W1 b (.slice a n cap) f1 f2 x wr->x.p<=8*n->x.e=0->∀k v,uplace la (rowB bs n) x=(k,v)->Calls Tryz.prog 289 #[.pointer (some ⟨g1,0,none⟩),.pointer (some ⟨m1,0,none⟩)] wr fun e w'=>Got (NI No gB) B wr b (.slice a n cap) f1 f2 (.int .i64 (k:Int)) v e w'):=Ab (fun wr x hU h1 h2 k v hk=>
  JO (NI No gB) B b a n cap bs f1 f2 x wr hU.is (R1.keep hU.below.size hU.kp) h1 h2 g1 m1 b1 n1 la (A1.keep hU.below.size (hU.kp g1 (by omega) (.inl hNa.1)) (hU.kp m1 (by omega) (.inl hNa.2.1)) (hU.kp b1 (by omega) (.inl hNa.2.2))) hGa ⟨.inl hNa.1,.inl hNa.2.1,.inl hNa.2.2⟩ (fun g hg=>hNo1 g (VX hU.below.size hg)) k v (Ab hk))
 have HHOW:Hid (∀wr x,IUp (NI No gB) B W1 b (.slice a n cap) f1 f2 x wr->x.p<=8*n->x.e=0->∀k v,Ok (rowB bs n) lb x=(k,v)->Calls Tryz.prog 277 #[.pointer (some ⟨b,0,none⟩),.agg #[DV g1 m1,DV g2 m2]] wr fun e w'=>Got (NI No gB) B wr b (.slice a n cap) f1 f2 (.int .i64 (k:Int)) v e w'):=Ab (fun wr x hU h1 h2 k v hk=>
  U0 (NI No gB) B b a n cap bs f1 f2 x wr hU.is (R1.keep hU.below.size hU.kp) h1 h2 g1 m1 g2 m2 b2 n2 lb (C1.keep hU.below.size (hU.kp g2 (by omega) (.inl hNb.1)) (hU.kp m2 (by omega) (.inl hNb.2.1)) (hU.kp b2 (by omega) (.inl hNb.2.2))) hGb ⟨.inl hNb.1,.inl hNb.2.1,.inl hNb.2.2⟩ (fun g hg=>hNo1 g (VX hU.below.size hg)) k v (Ab hk))
 have HWR:Hid (∀wr x,IUp (NI No gB) B W1 b (.slice a n cap) f1 f2 x wr->x.p<=8*n->x.e=0->∀(l size r:Nat) (v:US),size<=16->l<=40000->uget (rowB bs n) size x=(r,v)->Calls Tryz.prog 274 #[.pointer (some ⟨b,0,none⟩),.int .i64 (l:Int),.int .i64 (size:Int)] wr fun e w'=>Got (NI No gB) B wr b (.slice a n cap) f1 f2 (.int .i64 ((l+r:Nat):Int)) v e w'):=Ab (fun wr x hU h1 h2 l size r v hs hl hk=>
  Ie (NI No gB) B b a n cap size l bs f1 f2 x wr hU.is (R1.keep hU.below.size hU.kp) h1 h2 hs hl r v (Ab hk))
 have HBK:Hid (∀wr x,IUp (NI No gB) B W1 b (.slice a n cap) f1 f2 x wr->x.e=0->x.out.length<=3000->∀d k v,1<=d->d<=80000->k<=65535->Ju d k x=v->Calls Tryz.prog 276 #[.pointer (some ⟨b,0,none⟩),.int .i64 (k:Int),.int .i64 (d:Int)] wr fun e w'=>Got (NI No gB) B wr b (.slice a n cap) f1 f2 (.tuple #[]) v e w'):=Ab (fun wr x hU h1 h2 d k v hd hd2 hk hv=>
  Z0d (NI No gB) B b d k (.slice a n cap) f1 f2 x wr hU.is h1 h2 hd hd2 hk (fun g hg=>hNo1 g (VX hU.below.size hg)) v (Ab hv))
 have HRM:Hid (∀wr x,IUp (NI No gB) B W1 b (.slice a n cap) f1 f2 x wr->x.out.length<=3000->Calls Tryz.prog 273 #[.pointer (some ⟨b,0,none⟩),.int .i64 1] wr fun e w'=>w'=wr/\((x.out.length+1<=3000/\e=.returned (.tuple #[]))\/ (3000<x.out.length+1/\e=Flt 2))):=Ab (fun wr x hU h1=>Rf (NI No gB) B b 1 (.slice a n cap) f1 f2 x wr hU.is h1 (by decide))
 have HOK:Hid (∀x wr,V=x->x.e=0->IUp (NI No gB) B W1 b (.slice a n cap) f1 f2 x wr->Got No B w b (.slice a n cap) f1 f2 (.tuple #[]) V (.returned (.tuple #[])) wr):=Ab (fun x wr hx h0 hU=>by
  subst hx;exact Got.from (.inl ⟨h0,rfl,hU.less⟩) (B1.mono hBw) hK1)
 have HBAD:Hid (∀x wr,V=x->x.e≠0->Bl (NI No gB) B W1 wr->Got No B w b (.slice a n cap) f1 f2 (.tuple #[]) V (Flt x.e) wr):=Ab (fun x wr hx h0 hB=>by
  subst hx;exact .inr ⟨h0,rfl,(B1.mono hBw).trans hB.below,hK1.trans (hB.kp.weaken (fun _ h=>.inl h)) (by omega)⟩)
 have HTL:Hid (∀(f:Nat) (u' x:US) (k v),u'.p<=x.p->x.p<=8*n->x.e=0->x.out.length<=3000->uplace la (rowB bs n) x=(k,v)->v.e=0->v.p<=8*n/\v.out.length<=3000/\u'.p<v.p):=Ab (fun f u' x k v h1 h2 h3 h4 h5 h6=>by
  have q1:=Ih la (rowB bs n) x (by omega);have q2:=Gk la (rowB bs n) x;have q3:=IL la (rowB bs n) x h3 (by rw[h5];exact h6);rw[h5]at q1 q2 q3;rw[hrl]at q1;exact⟨q1,by rw[q2.1];exact h4,XV h1 q3⟩)
 have HI1:=Ab (IUp.refl I1);obtain⟨k0,v0,h0⟩:∃k0 v0,uplace la (rowB bs n) u=(k0,v0):=⟨_,_,rfl⟩
 have HS0:=Ab (Aa HSYM W1 u (Aa HI1) hp he k0 v0 h0);have HT0:=Ab (Aa HTL 0 u u k0 v0 (VC _) hp he ho h0)
 have HV0:Hid (V=if v0.e≠0 then v0 else EP (rowB bs n) la lb F k0 v0):=Ab (by
  have:=Aa hV
  unfold Ib at this;rw[h0]at this;exact this.symm)
 have cB0:W1.cell? ⟨gB,0,none⟩=some (DV g1 m1):=Ac hnew;have hfew:=hR.few;have HNo1:=Ab hNo1;clear h hR hp he ho hDa hGa hNa hDb hGb hNb hNo hV B1 hK1 hnew I1 R1 A1 C1 h0 la1 la2 lb1 lb2 hNo1;go_enter Tryz.func258,Tryz.ntmps258
 go_wp2_with fail
 refine(Aa HS0).mono ?_;rintro e w2 hg
 rcases hg with ⟨e0,rfl,hU⟩|⟨e0,rfl,hBl⟩
 rotate_left
 . have HBl:=Ab hBl;have HVx:Hid (V=v0):=Ab (by rw[Aa HV0,if_pos e0]);clear hBl;go_wp2;exact⟨rfl,Aa HBAD v0 w2 (Aa HVx) e0 (Aa HBl)⟩
 have HU:=Ab ((Aa HI1).trans hU);obtain⟨s1,s2,s3⟩:=Aa HT0 e0;have HV1:Hid (V=EP (rowB bs n) la lb F k0 v0):=Ab (by rw[Aa HV0,if_neg (fun h=>h e0)]);clear hU HS0 HT0 HV0 cB0 HI1;go_wp2;go_loopw [4] (fun v4 wr=>∃(k f:Nat) (x:US),v4=.int .i64 (k:Int)/\Hid (x.p<=8*n/\x.out.length<=3000/\x.e=0)/\Hid (8*n+1-x.p<=f)/\Hid (IUp (NI No gB) B W1 b (.slice a n cap) f1 f2 x wr)/\Hid (V=EP (rowB bs n) la lb f k x)) (fun _ wr=>LY n b wr)
 case atStart=>
  have hq:Hid (8*n+1-v0.p<=F):=Ab (by omega);exact⟨k0,F,v0,rfl,Ab ⟨s1,s2,e0⟩,hq,HU,HV1⟩
 case round=>
  clear HU HV1 s1 s2 s3 e0;obtain⟨k,f',u',rfl,hx3,hf,hI,hVi⟩:=hrel;obtain⟨hxp,hxo,hxe⟩:=Aa hx3
  by_cases h256:k=256
  . have HVx:Hid (V=u'):=Ab (by
     rw[Aa hVi]
     cases f' with
     |zero=>rfl
     |succ f=>show (if k=256 then u' else _)=_;rw[if_pos h256])
    subst h256;clear hVi;go_wp2;go_end0
    exact Aa HOK u' wr (Aa HVx) hxe (Aa hI)
  obtain⟨f,rfl⟩:∃f,f'=f+1:=⟨f'-1,by have:=Aa hf;omega⟩
  have hfl:=Aa hf
  have HVs:Hid (V=if (Cv (rowB bs n) lb k u').e≠0 then Cv (rowB bs n) lb k u' else if (uplace la (rowB bs n) (Cv (rowB bs n) lb k u')).2.e≠0 then (uplace la (rowB bs n) (Cv (rowB bs n) lb k u')).2 else EP (rowB bs n) la lb f (uplace la (rowB bs n) (Cv (rowB bs n) lb k u')).1 (uplace la (rowB bs n) (Cv (rowB bs n) lb k u')).2):=Ab (by
   rw[Aa hVi];show (if k=256 then u' else _)=_
   rw[if_neg h256])
  have h256I:¬(k:Int)=256:=by omega
  clear hVi hf
  by_cases hlt:k<256
  . have hltI:(k:Int)<256:=by omega
    have HST:Hid (Cv (rowB bs n) lb k u'=if 3000<u'.out.length+1 then {u' with e:=2}else {u' with out:=u'.out++ [k]}):=Ab (by unfold Cv;rw[if_pos hlt]);go_wp2_with fail
    refine(Aa HRM wr u' (Aa hI) hxo).mono ?_;rintro e w3 ⟨rfl,hg⟩
    rcases hg with ⟨hl,rfl⟩|⟨hl,rfl⟩
    rotate_left
    . have HVx:Hid (V= {u' with e:=2}):=Ab (by
       rw[Aa HVs,Aa HST,if_pos hl,if_pos (show ({u' with e:=2}:US).e≠0 from (by decide:(2:Int)≠0))])
      clear hl;go_wp2;exact⟨rfl,Aa HBAD {u' with e:=2} _ (Aa HVx) (by decide:(2:Int)≠0) (Aa hI).bl⟩
    have HVn:Hid (V=if (uplace la (rowB bs n) {u' with out:=u'.out++ [k]}).2.e≠0 then (uplace la (rowB bs n) {u' with out:=u'.out++ [k]}).2 else EP (rowB bs n) la lb f (uplace la (rowB bs n) {u' with out:=u'.out++ [k]}).1 (uplace la (rowB bs n) {u' with out:=u'.out++ [k]}).2):=Ab (by
     have e1:Cv (rowB bs n) lb k u'= {u' with out:=u'.out++ [k]}:=by rw[Aa HST,if_neg (by omega)]
     have:=Aa HVs
     rw[e1,if_neg (fun h=>h hxe)]at this;exact this)
    obtain⟨i0,hi0,hz0,hz1',hz2⟩:=info_parts Hs;have hIs4:=(Aa hI).is;have hbl4:=hIs4.lt;obtain⟨ov4,kv4,d2,d3,hh4,hov4,hkv4,hap4,hn14,hn24⟩:=hIs4.rows;obtain⟨L,hL⟩:∃L,u'.out.length=L:=⟨_,rfl⟩
    have hovL:=hov4;rw[hL]at hovL;have hLl:L+1<=3000:=by omega
    obtain⟨oa,oc,rfl⟩:=Ao hovL;have HOL:=Ab hovL;have HIS:=Ab hIs4;have HH4:=Ab hh4;have HO4:=Ab hov4;have HK4:=Ab hkv4;have HA4:=Ab hap4;have HN1:=Ab hn14;have HN2:=Ab hn24;have HLL:=Ab hL;have hw256:IntKind.u8.wrap (k:Int)=(k:Int):=by unfold IntKind.wrap;simp[IntKind.bits,IntKind.signed];omega
    have hsz4:=(Aa hI).below.size;clear hIs4 hh4 hov4 hkv4 hap4 hn14 hn24 hovL hL d3 HVs HST;go_wp2_with (at_builtin;refine wpList_append_own_at _ rfl _ _ 23 rfl (b+1) 5 i0 (.int .u8 0) 1 1 Tryz.underlying23 hi0 hz0 hz1' hz2 rfl (by decide) _ L (u8s u'.out) rfl ((Aa HOL).alloc _) ⟨_,0,none⟩ 1 1 [.int .u8 (k:Int)] rfl rfl (cell_one_new _ _ _) (Bf rfl) (by unfold maxLen;omega) (by omega) (by simp;omega) ?_)
    intro v' w5 hO5 hgrow5 _ hspot5;obtain⟨g9,c9,hv9,_,_⟩:=Bt hO5 (by omega);obtain⟨q3,f35,hI5⟩:=IIs.said (c:=k) (v':=v') (Aa HIS).base (Aa HIS).no (Aa HH4) (Aa HO4) (Aa HK4) (Aa HA4) (Aa HN1) (Aa HN2) (fun g hg=>Aa HNo1 g (by omega)) (by rw[Aa HLL];exact hO5) hgrow5 (by simpa using hspot5);have HI5:=Ab ((Aa hI).trans hI5);have hxo5:(u'.out++ [k]).length<=3000:=by rw[VB,Aa HLL];simp only[VH,VQ];omega
    subst hv9;clear hI5 hO5 hgrow5 hspot5;obtain⟨w9,hw9⟩:∃w9,w5.setCell ⟨b,2,none⟩ (.slice (some ⟨g9,0,none⟩) (L+1) c9)=w9:=⟨_,rfl⟩
    rw[hw9]at HI5;obtain⟨c50,c51⟩:=Aa HCB w9 _ (Aa HI5);obtain⟨k6,v6,h6⟩:∃k6 v6,uplace la (rowB bs n) {u' with out:=u'.out++ [k]}=(k6,v6):=⟨_,_,rfl⟩
    have HS6:=Ab (Aa HSYM w9 {u' with out:=u'.out++ [k]} (Aa HI5) (hxp) (hxe) k6 v6 h6);have HT6:=Ab (Aa HTL f u' {u' with out:=u'.out++ [k]} k6 v6 (VC _) (hxp) (hxe) (hxo5) h6)
    have HV6:Hid (V=if v6.e≠0 then v6 else EP (rowB bs n) la lb f k6 v6):=Ab (by
     have:=Aa HVn
     rw[h6]at this;exact this)
    clear h6 HSYM HHOW HRM HBK HTL HVn;go_wp2_with fail
    refine(Aa HS6).mono ?_;rintro e w6 hg
    rcases hg with ⟨e6,rfl,hU6⟩|⟨e6,rfl,hB6⟩
    . have HI6:=Ab ((Aa HI5).trans hU6);clear hU6;obtain⟨t1,t2,t3⟩:=Aa HT6 e6;have HV7:Hid (V=EP (rowB bs n) la lb f k6 v6):=Ab (by rw[Aa HV6,if_neg (fun h=>h e6)]);go_wp2;go_roundw
      case rel=>exact⟨k6,f,v6,rfl,Ab ⟨t1,t2,e6⟩,Ab (by omega),HI6,HV7⟩
      case measure=>rw[Lp (Aa HI6).is,Lp (Aa hI).is];omega
    . have HB6:=Ab ((Aa HI5).bl.trans hB6);have HV7:Hid (V=v6):=Ab (by rw[Aa HV6,if_pos e6]);clear hB6;go_wp2;exact⟨rfl,Aa HBAD v6 w6 (Aa HV7) e6 (Aa HB6)⟩
  . have hltI:¬(k:Int)<256:=by omega
    by_cases h285:285<k
    . have h285I:¬(k:Int)<=285:=by omega
      have HVx:Hid (V= {u' with e:=8}):=Ab (by
       have e1:Cv (rowB bs n) lb k u'= {u' with e:=8}:=by unfold Cv;rw[if_neg hlt,if_pos h285]
       rw[Aa HVs,e1,if_pos (show ({u' with e:=8}:US).e≠0 from (by decide:(8:Int)≠0))])
      clear HVs;go_wp2_with fail
      refine(Bw 8 _).mono ?_;rintro e w3 ⟨rfl,rfl⟩;go_wp2;exact⟨rfl,Aa HBAD {u' with e:=8} _ (Aa HVx) (by decide:(8:Int)≠0) (Aa hI).bl⟩
    have h285I:(k:Int)<=285:=by omega
    obtain⟨L1,L2,L3⟩:=EJ k (by omega) (by omega);have HLS:=Ab (fun w=>Xb k w (by omega) (by omega));obtain⟨S1,S2,hS⟩:∃S1 S2,Cw k=(S1,S2):=⟨_,_,rfl⟩
    rw[hS]at HLS L1 L2 L3;obtain⟨r,v3,h3⟩:∃r v3,uget (rowB bs n) S2 u'=(r,v3):=⟨_,_,rfl⟩
    obtain⟨d,v4,h4⟩:∃d v4,Ok (rowB bs n) lb v3=(d,v4):=⟨_,_,rfl⟩
    have HST:Hid (Cv (rowB bs n) lb k u'=if v3.e≠0 then v3 else if v4.e≠0 then v4 else Ju d (S1+r) v4):=Ab (by unfold Cv;rw[if_neg hlt,if_neg h285,hS,h3,h4])
    have hrb:r<32:=by
     have:=My (rowB bs n) S2 u'
     rw[h3]at this;exact VK this (VV (j:=5) (by decide) L3)
    have p3:v3.p<=8*n/\u'.p<=v3.p/\v3.out=u'.out:=by
     have q1:=Gp (rowB bs n) S2 u' (by omega);have q2:=O4 (rowB bs n) S2 u';have q3:=Cg (rowB bs n) S2 u';rw[h3]at q1 q2 q3;rw[hrl]at q1;exact⟨q1,q2,q3⟩
    have p4:v4.p<=8*n/\v3.p<=v4.p/\v4.out=v3.out:=by
     have q1:=Uo (rowB bs n) lb v3 (by omega);rw[h4,hrl]at q1;exact⟨q1.2.2.2,q1.2.2.1,q1.1⟩
    obtain⟨p31,p32,p33⟩:=p3;obtain⟨p41,p42,p43⟩:=p4
    have hd4:v4.e=0->1<=d/\d<=80000:=fun e=>by
     have:=TI (rowB bs n) lb v3 (by rw[h4];exact e)
     rw[h4]at this;exact this
    have HD4:=Ab hd4;have HW3:=Ab (Aa HWR wr u' (Aa hI) hxp hxe S1 S2 r v3 (by omega) (by omega) h3);have HH4:=Ab (fun wr' (hU:IUp (NI No gB) B W1 b (.slice a n cap) f1 f2 v3 wr') he3=>Aa HHOW wr' v3 hU p31 he3 d v4 h4);clear hS h3 h4 hd4;dsimp only at HLS L1 L2 L3;go_wp2_with fail
    refine(Aa HLS _).mono ?_;rintro e w3 ⟨rfl,rfl⟩;go_wp2_with fail
    refine(Aa HW3).mono ?_;rintro e w3 hg
    rcases hg with ⟨e3,rfl,hU3⟩|⟨e3,rfl,hB3⟩
    rotate_left
    . have HB3:=Ab ((Aa hI).bl.trans hB3)
      have HVx:Hid (V=v3):=Ab (by
       have e1:Cv (rowB bs n) lb k u'=v3:=by rw[Aa HST,if_pos e3]
       have:=Aa HVs
       rw[e1,if_pos e3]at this;exact this)
      clear hB3;go_wp2;exact⟨rfl,Aa HBAD v3 w3 (Aa HVx) e3 (Aa HB3)⟩
    have HU3:=Ab ((Aa hI).trans hU3);obtain⟨c30,c31⟩:=Aa HCB w3 _ (Aa HU3);have HH5:=Ab (Aa HH4 w3 (Aa HU3) e3);clear hU3 HH4;go_wp2_with fail
    refine(Aa HH5).mono ?_;rintro e w4 hg
    rcases hg with ⟨e4,rfl,hU4⟩|⟨e4,rfl,hB4⟩
    rotate_left
    . have HB4:=Ab ((Aa HU3).bl.trans hB4)
      have HVx:Hid (V=v4):=Ab (by
       have e1:Cv (rowB bs n) lb k u'=v4:=by rw[Aa HST,if_neg (fun h=>h e3),if_pos e4]
       have:=Aa HVs
       rw[e1,if_pos e4]at this;exact this)
      clear hB4;go_wp2;exact⟨rfl,Aa HBAD v4 w4 (Aa HVx) e4 (Aa HB4)⟩
    have HU4:=Ab ((Aa HU3).trans hU4);obtain⟨hd1,hd2⟩:=Aa HD4 e4;obtain⟨v5,h5⟩:∃v5,Ju d (S1+r) v4=v5:=⟨_,rfl⟩
    have HB5:=Ab (Aa HBK w4 v4 (Aa HU4) e4 (by rw[p43,p33];exact hxo) d (S1+r) v5 hd1 hd2 (by omega) h5);have HST5:Hid (Cv (rowB bs n) lb k u'=v5):=Ab (by rw[Aa HST,if_neg (fun h=>h e3),if_neg (fun h=>h e4),h5])
    have HK5:Hid (v5.e=0->v5.p=v4.p/\v5.out.length<=3000):=Ab (fun e=>by
     have:=Rh d (S1+r) v4 (by rw[h5];exact e)
     rw[h5]at this;exact⟨this.1,this.2.2 (by rw[p43,p33];exact hxo)⟩)
    clear hU4 h5 HH5 HW3;go_wp2_with fail
    refine(Aa HB5).mono ?_;rintro e w5 hg
    rcases hg with ⟨e5,rfl,hU5⟩|⟨e5,rfl,hB5⟩
    rotate_left
    . have HB6:=Ab ((Aa HU4).bl.trans hB5)
      have HVx:Hid (V=v5):=Ab (by
       have:=Aa HVs
       rw[Aa HST5,if_pos e5]at this;exact this)
      clear hB5;go_wp2;exact⟨rfl,Aa HBAD v5 w5 (Aa HVx) e5 (Aa HB6)⟩
    have HU5:=Ab ((Aa HU4).trans hU5);obtain⟨k51,k52⟩:=Aa HK5 e5
    have HVn:Hid (V=if (uplace la (rowB bs n) v5).2.e≠0 then (uplace la (rowB bs n) v5).2 else EP (rowB bs n) la lb f (uplace la (rowB bs n) v5).1 (uplace la (rowB bs n) v5).2):=Ab (by
     have:=Aa HVs
     rw[Aa HST5,if_neg (fun h=>h e5)]at this;exact this)
    clear hU5 HVs HST HST5;obtain⟨c50,c51⟩:=Aa HCB w5 _ (Aa HU5);obtain⟨k6,v6,h6⟩:∃k6 v6,uplace la (rowB bs n) v5=(k6,v6):=⟨_,_,rfl⟩
    have HS6:=Ab (Aa HSYM w5 v5 (Aa HU5) (by omega) (e5) k6 v6 h6);have HT6:=Ab (Aa HTL f u' v5 k6 v6 (by omega) (by omega) (e5) (k52) h6)
    have HV6:Hid (V=if v6.e≠0 then v6 else EP (rowB bs n) la lb f k6 v6):=Ab (by
     have:=Aa HVn
     rw[h6]at this;exact this)
    clear h6 HSYM HHOW HRM HBK HTL HVn;go_wp2_with fail
    refine(Aa HS6).mono ?_;rintro e w6 hg
    rcases hg with ⟨e6,rfl,hU6⟩|⟨e6,rfl,hB6⟩
    . have HI6:=Ab ((Aa HU5).trans hU6);clear hU6;obtain⟨t1,t2,t3⟩:=Aa HT6 e6;have HV7:Hid (V=EP (rowB bs n) la lb f k6 v6):=Ab (by rw[Aa HV6,if_neg (fun h=>h e6)]);go_wp2;go_roundw
      case rel=>exact⟨k6,f,v6,rfl,Ab ⟨t1,t2,e6⟩,Ab (by omega),HI6,HV7⟩
      case measure=>rw[Lp (Aa HI6).is,Lp (Aa hI).is];omega
    . have HB6:=Ab ((Aa HU5).bl.trans hB6);have HV7:Hid (V=v6):=Ab (by rw[Aa HV6,if_pos e6]);clear hB6;go_wp2;exact⟨rfl,Aa HBAD v6 w6 (Aa HV7) e6 (Aa HB6)⟩
def US0:US:= {p:=0,out:= [],ks:= [],e:=0}
theorem PH:∀(args:Array Value) (w:World),(callFunc 213 args).run Tryz.prog w=.ok (.enter 213 args) w:=fun _ _=>by kernel_rfl
theorem CZ (a:Option Addr)(n cap:Nat)(bs:List Nat)(w:World)(hn:n<=6000)(U:US)(hB:∀(No:Nat->Prop) (B b:Nat) (W:World),IIs No B W b (.slice a n cap) .nilFunc .nilFunc US0->(∀g,w.heap.size+2<=g->¬No g)->(∀g,g<w.heap.size->No g)->W.heap.size=w.heap.size+2->B<=b->Below w.heap.size w W->
 Calls Tryz.prog 213 #[.pointer (some ⟨b,0,none⟩)] W fun e w'=>(U.e=0/\e=.returned (.tuple #[])/\∃g1 g2,IUp No B W b (.slice a n cap) g1 g2 U w')\/ (U.e≠0/\e=Flt U.e/\Below B W w'/\Kp No W w')) (hU:0<=U.e) (hUp:U.e=0->U.p<=48000):
 Calls Tryz.prog 174 #[.slice a n cap] w fun e w'=>Below w.heap.size w w'/\((U.e=0/\∃ov kv,e=.returned (.tuple #[ov,.int .i64 (((U.p+7)/8:Nat):Int),kv,.int .i64 0])/\w'.ownsRow (w.heap.size+1) 5 1 ov U.out.length (u8s U.out)/\w'.ownsRow (w.heap.size+1) 3 1 kv U.ks.length (i64s U.ks))\/ (U.e≠0/\e=.returned (.tuple #[.slice none 0 0,.int .i64 0,.slice none 0 0,.int .i64 U.e]))):=by
 have hmf:∀(fn:Fn) (first cap:Array Value) (w:World),(Instr.makeFunc fn first cap).run Tryz.prog w=.ok (.func fn first cap) w:=fun _ _ _ _=>rfl
 have HB:=Ab hB;clear hB;go_enter Tryz.func174,Tryz.ntmps174
 go_wp2_with fail
 obtain⟨wA,hwA⟩:∃wA,w.alloc (.cells #[.slice a n cap,.int .i64 0,.slice none 0 0,.slice none 0 0,.nilFunc,.nilFunc] 288)=wA:=⟨_,rfl⟩
 have hszA:wA.heap.size=w.heap.size+1:=by rw[<-hwA];simp
 have hbA:wA.heap[w.heap.size]? =some (.cells (icells (.slice a n cap) .nilFunc .nilFunc US0 (.slice none 0 0) (.slice none 0 0)) 288 (0,0)):=by rw[<-hwA];exact heap_alloc_new _ _
 have hBelA:Below w.heap.size w wA:=by rw[<-hwA];exact(Below.refl _ _).alloc (VC _) _
 rw[hwA];clear hwA;obtain⟨No,hNo⟩:∃No:Nat->Prop,No=fun g=>g<w.heap.size\/g=w.heap.size+1:=⟨_,rfl⟩
 have hIs:IIs No w.heap.size (wA.alloc (.cells #[.int .i64 0] 24)) w.heap.size (.slice a n cap) .nilFunc .nilFunc US0:=by
  refine⟨VC _,by rw[hNo];omega,.slice none 0 0,.slice none 0 0,(Below.heap_alloc _ _ _ (by omega)).trans hbA,World.ownsRow_nil _ _ _ _,World.ownsRow_nil _ _ _ _,.inl rfl, ?_, ?_⟩<;>(intro g e;simp[Value.ownBlock]at e)
 have hC:=Aa HB No w.heap.size w.heap.size _ hIs (fun g hg=>by rw[hNo];omega) (fun g hg=>by rw[hNo];exact .inl hg) (by simp[hszA]) (VC _) (hBelA.alloc (by omega) _)
 have hCa:=GK 213 #[.pointer (some ⟨w.heap.size,0,none⟩)] (fun x w'=>(x:Int)=U.e/\(U.e=0->∃g1 g2,IIs No w.heap.size w' w.heap.size (.slice a n cap) g1 g2 U)/\Below w.heap.size w w'/\w.heap.size+2<=w'.heap.size) wA PH (hC.mono (fun e w' hg=>by
  have hbb:Below w.heap.size w (wA.alloc (.cells #[.int .i64 0] 24)):=hBelA.alloc (by omega) _;have hblk:(wA.alloc (.cells #[.int .i64 0] 24)).heap[wA.heap.size]? =some (.cells #[.int .i64 0] 24 (0,0)):=heap_alloc_new _ _;have hNb:No wA.heap.size:=by rw[hNo,hszA];exact .inr rfl
  rcases hg with ⟨e0,rfl,g1,g2,hI⟩|⟨e0,rfl,hB,hK⟩
  . have hs:=hI.below.size;simp only[World.size_alloc]at hs;exact⟨⟨0,⟨by rw[e0];rfl,fun _=>⟨g1,g2,hI.is⟩,hbb.trans hI.below,by omega⟩,.inl ⟨rfl,rfl⟩⟩,(hI.kp _ (by simp) hNb).trans hblk⟩
  . have hs:=hB.size;simp only[World.size_alloc]at hs;have hx:((U.e.toNat:Nat):Int)=U.e:=YM hU;exact⟨⟨U.e.toNat,⟨hx,fun h=>absurd h e0,hbb.trans hB,by omega⟩,.inr ⟨by omega,by rw[hx]⟩⟩,(hK _ (by simp) hNb).trans hblk⟩))
 refine hCa.mono ?_;rintro e w2 ⟨x,w1,⟨hx,hI1,hB1,hs1⟩,rfl,hs2,hsame,hBl⟩;have HB2:=Ab (hB1.trans (hBl w.heap.size (by omega)));clear hCa hC hIs
 by_cases e0:U.e=0
 . obtain⟨g1,g2,hI⟩:=hI1 e0;have hUp:=hUp e0;have hx0:x=0:=by omega
   subst hx0;obtain⟨ov,kv,c2,c3,hh,hov,hkv,hap,hn1,hn2⟩:=hI.rows;have hkeep:∀g,g<w1.heap.size->g≠w.heap.size+1->w2.heap[g]? =w1.heap[g]? :=fun g h1 h2=>hsame g h1 (by rw[hszA];exact h2)
   have hb2:=(hkeep w.heap.size (by omega) (by omega)).trans hh;have hov2:=Ab (Ar hov (fun g hg=>hkeep g (hov.lt g hg).2 (fun h=>hn1 g hg (by rw[hNo,h];exact .inr rfl))));have hkv2:=Ab (Ar hkv (fun g hg=>hkeep g (hkv.lt g hg).2 (fun h=>hn2 g hg (by rw[hNo,h];exact .inr rfl))));have d1:w2.cell? ⟨w.heap.size,1,none⟩=some (.int .i64 (U.p:Int)):=Ac hb2;have d2:w2.cell? ⟨w.heap.size,2,none⟩=some ov:=Ac hb2;have d3:w2.cell? ⟨w.heap.size,3,none⟩=some kv:=Ac hb2;clear hI hh hov hkv hap hn1 hn2 hb2 hkeep hsame hBl hI1 hB1 c2 c3 hx;go_wp2;go_quiet (fail)
   go_wp2;refine bodyPost_ret (v:=.tuple #[ov,.int .i64 (((U.p:Int)+7)/8),kv,.int .i64 0]) ?_ rfl ⟨Af (Aa HB2) _,.inl ⟨e0,ov,kv,by rw[show (((U.p+7)/8:Nat):Int)=((U.p:Int)+7)/8 by omega],Ar (Aa hov2) (fun _ _=>rfl),Ar (Aa hkv2) (fun _ _=>rfl)⟩⟩
   first|rfl|kernel_rfl
 . have hx0:((x:Int)==0)=false:=by rw[beq_eq_false_iff_ne];omega
   have HX:=Ab hx;clear hsame hBl hI1 hB1 hx;go_wp2;refine bodyPost_ret (v:=.tuple #[.slice none 0 0,.int .i64 0,.slice none 0 0,.int .i64 (x:Int)]) ?_ rfl ⟨Aa HB2,.inr ⟨e0,by rw[Aa HX]⟩⟩
   first|rfl|kernel_rfl
end Go.Proofs.YtieianhejdcgdaaGreatDoor
