import Derived.Test.YtleocpdblhbimaaGreatDoorQ22
import Derived.Laws.Tables
import Derived.Laws.Rows
import Derived.Laws.ResultCell
import Derived.Laws.CopyRow
import Derived.Deep.RegionHeld3
import Derived.Deep.WholeRow
set_option linter.unusedSimpArgs false
set_option maxHeartbeats 8000000
namespace Go.Proofs.YtleocpdblhbimaaGreatDoor
open Go.RowKit
set_option linter.unusedVariables false
set_option maxRecDepth 100000
def NY (n b:Nat)(w:World):Nat:=8*n+1-((w.cell? ⟨b,1,none⟩).map (fun x=>(intOf x).toNat)).getD 0
theorem Mb {No:Nat->Prop}{B b n:Nat}{w:World}{R f1 f2:Value}{u:US}(h:IIs No B w b R f1 f2 u):NY n b w=8*n+1-u.p:=by
 unfold NY;rw[h.cell.2.1];simp[intOf]
theorem Un (No:Nat->Prop)(B b:Nat)(a:Option Addr)(n cap:Nat)(bs:List Nat)(f1 f2:Value)(u:US)(w:World)(h:IIs No B w b (.slice a n cap) f1 f2 u)(hR:Rd w No a n bs)(hp:u.p<=8*n)(he:u.e=0)(ho:u.out.length<=3000)(g1 m1 b1 n1 g2 m2 b2 n2:Nat)(la lb:List Int)(hDa:DIs w g1 m1 b1 n1 b la)(hGa:Good la)(hNa:No g1/\No m1/\No b1)(hDb:DIs w g2 m2 b2 n2 b lb)(hGb:Good lb)(hNb:No g2/\No m2/\No b2)(hNo:∀g,w.heap.size<=g->¬No g)(V:US)(hV:Hid (Hk (rowB bs n) la lb (8*n+1) u=V)):
 Calls Tryz.prog 250 #[.pointer (some ⟨b,0,none⟩),.agg #[DV g1 m1,DV g2 m2]] w fun e w'=>Got No B w b (.slice a n cap) f1 f2 (.tuple #[]) V e w':=by
 have hrl:=Af bs n;obtain⟨F,hF⟩:∃F,8*n+1=F:=⟨_,rfl⟩
 rw[hF]at hV;obtain⟨gB,hgB⟩:∃gB,w.heap.size=gB:=⟨_,rfl⟩
 obtain⟨W1,hW1⟩:∃W1,w.alloc (.cells #[DV g1 m1,DV g2 m2] 282)=W1:=⟨_,rfl⟩
 have hbl:=h.lt;have hBw:B<=gB:=by have:=h.base;omega
 have B1:Below gB w W1:=by rw[<-hW1,<-hgB];exact(Below.refl _ _).alloc (VB _) _
 have hK1:Kp No w W1:=fun g hg _=>B1.block g (by omega)
 have hz1:W1.heap.size=gB+1:=by rw[<-hW1,<-hgB];simp
 have hnew:W1.heap[gB]? =some (.cells #[DV g1 m1,DV g2 m2] 282 (0,0)):=by rw[<-hW1,<-hgB];exact heap_alloc_new _ _
 have I1:IIs (NI No gB) B W1 b (.slice a n cap) f1 f2 u:=(h.more (No':=NI No gB) (fun e=>by rcases e with e|e;exact h.no e;omega) (fun g hg=>by rcases hg with e|e;exact .inl e;exact .inr (by omega))).grown (w':=W1) (by rw[<-hW1];exact World.grownBy_alloc w _ none);have R1:Rd W1 (NI No gB) a n bs:=(hR.keep (w':=W1) (by omega) hK1).more;have la1:=hDa.lt;have la2:=hDa.is.lt;have lb1:=hDb.lt;have lb2:=hDb.is.lt;have A1:DIs W1 g1 m1 b1 n1 b la:=hDa.keep (by omega) (B1.block g1 (by omega)) (B1.block m1 (by omega)) (B1.block b1 (by omega));have C1:DIs W1 g2 m2 b2 n2 b lb:=hDb.keep (by omega) (B1.block g2 (by omega)) (B1.block m2 (by omega)) (B1.block b2 (by omega))
 have hNo1:∀g,W1.heap.size<=g->¬NI No gB g:=fun g hg e=>by
  rcases e with e|e
  . exact hNo g (by omega) e
  . omega
 have HCB:Hid (∀wr x,IUp (NI No gB) B W1 b (.slice a n cap) f1 f2 x wr->wr.cell? ⟨gB,0,none⟩=some (DV g1 m1)/\wr.cell? ⟨gB,1,none⟩=some (DV g2 m2)):=Ab (fun wr x hU=>by
  have:=(hU.kp gB (by omega) (.inr rfl)).trans hnew
  exact⟨Ac this,Ac this⟩)
 have HSYM:Hid (∀wr x,IUp (NI No gB) B W1 b (.slice a n cap) f1 f2 x wr->x.p<=8*n->x.e=0->∀k v,uplace la (rowB bs n) x=(k,v)->Calls Tryz.prog 281 #[.pointer (some ⟨g1,0,none⟩),.pointer (some ⟨m1,0,none⟩)] wr fun e w'=>Got (NI No gB) B wr b (.slice a n cap) f1 f2 (.int .i64 (k:Int)) v e w'):=Ab (fun wr x hU h1 h2 k v hk=>
  LK (NI No gB) B b a n cap bs f1 f2 x wr hU.is (R1.keep hU.below.size hU.kp) h1 h2 g1 m1 b1 n1 la (A1.keep hU.below.size (hU.kp g1 (by omega) (.inl hNa.1)) (hU.kp m1 (by omega) (.inl hNa.2.1)) (hU.kp b1 (by omega) (.inl hNa.2.2))) hGa ⟨.inl hNa.1,.inl hNa.2.1,.inl hNa.2.2⟩ (fun g hg=>hNo1 g (VU hU.below.size hg)) k v (Ab hk))
 have HHOW:Hid (∀wr x,IUp (NI No gB) B W1 b (.slice a n cap) f1 f2 x wr->x.p<=8*n->x.e=0->∀k v,Me (rowB bs n) lb x=(k,v)->Calls Tryz.prog 269 #[.pointer (some ⟨b,0,none⟩),.agg #[DV g1 m1,DV g2 m2]] wr fun e w'=>Got (NI No gB) B wr b (.slice a n cap) f1 f2 (.int .i64 (k:Int)) v e w'):=Ab (fun wr x hU h1 h2 k v hk=>
  Y5 (NI No gB) B b a n cap bs f1 f2 x wr hU.is (R1.keep hU.below.size hU.kp) h1 h2 g1 m1 g2 m2 b2 n2 lb (C1.keep hU.below.size (hU.kp g2 (by omega) (.inl hNb.1)) (hU.kp m2 (by omega) (.inl hNb.2.1)) (hU.kp b2 (by omega) (.inl hNb.2.2))) hGb ⟨.inl hNb.1,.inl hNb.2.1,.inl hNb.2.2⟩ (fun g hg=>hNo1 g (VU hU.below.size hg)) k v (Ab hk))
 have HWR:Hid (∀wr x,IUp (NI No gB) B W1 b (.slice a n cap) f1 f2 x wr->x.p<=8*n->x.e=0->∀(l size r:Nat) (v:US),size<=16->l<=40000->uget (rowB bs n) size x=(r,v)->Calls Tryz.prog 266 #[.pointer (some ⟨b,0,none⟩),.int .i64 (l:Int),.int .i64 (size:Int)] wr fun e w'=>Got (NI No gB) B wr b (.slice a n cap) f1 f2 (.int .i64 ((l+r:Nat):Int)) v e w'):=Ab (fun wr x hU h1 h2 l size r v hs hl hk=>
  Iw (NI No gB) B b a n cap size l bs f1 f2 x wr hU.is (R1.keep hU.below.size hU.kp) h1 h2 hs hl r v (Ab hk))
 have HBK:Hid (∀wr x,IUp (NI No gB) B W1 b (.slice a n cap) f1 f2 x wr->x.e=0->x.out.length<=3000->∀d k v,1<=d->d<=80000->k<=65535->Jh d k x=v->Calls Tryz.prog 268 #[.pointer (some ⟨b,0,none⟩),.int .i64 (k:Int),.int .i64 (d:Int)] wr fun e w'=>Got (NI No gB) B wr b (.slice a n cap) f1 f2 (.tuple #[]) v e w'):=Ab (fun wr x hU h1 h2 d k v hd hd2 hk hv=>
  Z21 (NI No gB) B b d k (.slice a n cap) f1 f2 x wr hU.is h1 h2 hd hd2 hk (fun g hg=>hNo1 g (VU hU.below.size hg)) v (Ab hv))
 have HRM:Hid (∀wr x,IUp (NI No gB) B W1 b (.slice a n cap) f1 f2 x wr->x.out.length<=3000->Calls Tryz.prog 265 #[.pointer (some ⟨b,0,none⟩),.int .i64 1] wr fun e w'=>w'=wr/\((x.out.length+1<=3000/\e=.returned (.tuple #[]))\/ (3000<x.out.length+1/\e=Flt 2))):=Ab (fun wr x hU h1=>Rq (NI No gB) B b 1 (.slice a n cap) f1 f2 x wr hU.is h1 (by decide))
 have HOK:Hid (∀x wr,V=x->x.e=0->IUp (NI No gB) B W1 b (.slice a n cap) f1 f2 x wr->Got No B w b (.slice a n cap) f1 f2 (.tuple #[]) V (.returned (.tuple #[])) wr):=Ab (fun x wr hx h0 hU=>by
  subst hx;exact Got.from (.inl ⟨h0,rfl,hU.less⟩) (B1.mono hBw) hK1)
 have HBAD:Hid (∀x wr,V=x->x.e≠0->Bl (NI No gB) B W1 wr->Got No B w b (.slice a n cap) f1 f2 (.tuple #[]) V (Flt x.e) wr):=Ab (fun x wr hx h0 hB=>by
  subst hx;exact .inr ⟨h0,rfl,(B1.mono hBw).trans hB.below,hK1.trans (hB.kp.weaken (fun _ h=>.inl h)) (by omega)⟩)
 have HTL:Hid (∀(f:Nat) (u' x:US) (k v),u'.p<=x.p->x.p<=8*n->x.e=0->x.out.length<=3000->uplace la (rowB bs n) x=(k,v)->v.e=0->v.p<=8*n/\v.out.length<=3000/\u'.p<v.p):=Ab (fun f u' x k v h1 h2 h3 h4 h5 h6=>by
  have q1:=Ix la (rowB bs n) x (by omega);have q2:=Gm la (rowB bs n) x;have q3:=KE la (rowB bs n) x h3 (by rw[h5];exact h6);rw[h5]at q1 q2 q3;rw[hrl]at q1;exact⟨q1,by rw[q2.1];exact h4,XO h1 q3⟩)
 have HI1:=Ab (IUp.refl I1);obtain⟨k0,v0,h0⟩:∃k0 v0,uplace la (rowB bs n) u=(k0,v0):=⟨_,_,rfl⟩
 have HS0:=Ab (Aa HSYM W1 u (Aa HI1) hp he k0 v0 h0);have HT0:=Ab (Aa HTL 0 u u k0 v0 (VB _) hp he ho h0)
 have HV0:Hid (V=if v0.e≠0 then v0 else GE (rowB bs n) la lb F k0 v0):=Ab (by
  have:=Aa hV
  unfold Hk at this;rw[h0]at this;exact this.symm)
 have cB0:W1.cell? ⟨gB,0,none⟩=some (DV g1 m1):=Ac hnew;have hfew:=hR.few;have HNo1:=Ab hNo1;clear h hR hp he ho hDa hGa hNa hDb hGb hNb hNo hV B1 hK1 hnew I1 R1 A1 C1 h0 la1 la2 lb1 lb2 hNo1;go_enter Tryz.func250,Tryz.ntmps250
 go_wp2_with fail
 refine(Aa HS0).mono ?_;rintro e w2 hg
 rcases hg with ⟨e0,rfl,hU⟩|⟨e0,rfl,hBl⟩
 rotate_left
 . have HBl:=Ab hBl;have HVx:Hid (V=v0):=Ab (by rw[Aa HV0,if_pos e0]);clear hBl;go_wp2;exact⟨rfl,Aa HBAD v0 w2 (Aa HVx) e0 (Aa HBl)⟩
 have HU:=Ab ((Aa HI1).trans hU);obtain⟨s1,s2,s3⟩:=Aa HT0 e0;have HV1:Hid (V=GE (rowB bs n) la lb F k0 v0):=Ab (by rw[Aa HV0,if_neg (fun h=>h e0)]);clear hU HS0 HT0 HV0 cB0 HI1;go_wp2;go_loopw [4] (fun v4 wr=>∃(k f:Nat) (x:US),v4=.int .i64 (k:Int)/\Hid (x.p<=8*n/\x.out.length<=3000/\x.e=0)/\Hid (8*n+1-x.p<=f)/\Hid (IUp (NI No gB) B W1 b (.slice a n cap) f1 f2 x wr)/\Hid (V=GE (rowB bs n) la lb f k x)) (fun _ wr=>NY n b wr)
 case atStart=>
  have hq:Hid (8*n+1-v0.p<=F):=Ab (by omega);exact⟨k0,F,v0,rfl,Ab ⟨s1,s2,e0⟩,hq,HU,HV1⟩
 case round=>
  clear HU HV1 s1 s2 s3 e0;obtain⟨k,f',u',rfl,hx3,hf,hI,hVi⟩:=hrel;obtain⟨hxp,hxo,hxe⟩:=Aa hx3
  by_cases h256:k=256
  . have HVx:Hid (V=u'):=Ab (by
     rw[Aa hVi]
     cases f' with
     |zero=>rfl
     |succ f=>show (if k=256 then u' else _)=_;rw[if_pos h256])
    subst h256;clear hVi;go_wp2;go_end0
    exact Aa HOK u' wr (Aa HVx) hxe (Aa hI)
  obtain⟨f,rfl⟩:∃f,f'=f+1:=⟨f'-1,by have:=Aa hf;omega⟩
  have hfl:=Aa hf
  have HVs:Hid (V=if (Co (rowB bs n) lb k u').e≠0 then Co (rowB bs n) lb k u' else if (uplace la (rowB bs n) (Co (rowB bs n) lb k u')).2.e≠0 then (uplace la (rowB bs n) (Co (rowB bs n) lb k u')).2 else GE (rowB bs n) la lb f (uplace la (rowB bs n) (Co (rowB bs n) lb k u')).1 (uplace la (rowB bs n) (Co (rowB bs n) lb k u')).2):=Ab (by
   rw[Aa hVi];show (if k=256 then u' else _)=_
   rw[if_neg h256])
  have h256I:¬(k:Int)=256:=by omega
  clear hVi hf
  by_cases hlt:k<256
  . have hltI:(k:Int)<256:=by omega
    have HST:Hid (Co (rowB bs n) lb k u'=if 3000<u'.out.length+1 then {u' with e:=2}else {u' with out:=u'.out++ [k]}):=Ab (by unfold Co;rw[if_pos hlt]);go_wp2_with fail
    refine(Aa HRM wr u' (Aa hI) hxo).mono ?_;rintro e w3 ⟨rfl,hg⟩
    rcases hg with ⟨hl,rfl⟩|⟨hl,rfl⟩
    rotate_left
    . have HVx:Hid (V= {u' with e:=2}):=Ab (by
       rw[Aa HVs,Aa HST,if_pos hl,if_pos (show ({u' with e:=2}:US).e≠0 from (by decide:(2:Int)≠0))])
      clear hl;go_wp2;exact⟨rfl,Aa HBAD {u' with e:=2} _ (Aa HVx) (by decide:(2:Int)≠0) (Aa hI).bl⟩
    have HVn:Hid (V=if (uplace la (rowB bs n) {u' with out:=u'.out++ [k]}).2.e≠0 then (uplace la (rowB bs n) {u' with out:=u'.out++ [k]}).2 else GE (rowB bs n) la lb f (uplace la (rowB bs n) {u' with out:=u'.out++ [k]}).1 (uplace la (rowB bs n) {u' with out:=u'.out++ [k]}).2):=Ab (by
     have e1:Co (rowB bs n) lb k u'= {u' with out:=u'.out++ [k]}:=by rw[Aa HST,if_neg (by omega)]
     have:=Aa HVs
     rw[e1,if_neg (fun h=>h hxe)]at this;exact this)
    obtain⟨i0,hi0,hz0,hz1',hz2⟩:=info_parts Gz;have hIs4:=(Aa hI).is;have hbl4:=hIs4.lt;obtain⟨ov4,kv4,d2,d3,hh4,hov4,hkv4,hap4,hn14,hn24⟩:=hIs4.rows;obtain⟨L,hL⟩:∃L,u'.out.length=L:=⟨_,rfl⟩
    have hovL:=hov4;rw[hL]at hovL;have hLl:L+1<=3000:=by omega
    obtain⟨oa,oc,rfl⟩:=An hovL;have HOL:=Ab hovL;have HIS:=Ab hIs4;have HH4:=Ab hh4;have HO4:=Ab hov4;have HK4:=Ab hkv4;have HA4:=Ab hap4;have HN1:=Ab hn14;have HN2:=Ab hn24;have HLL:=Ab hL;have hw256:IntKind.u8.wrap (k:Int)=(k:Int):=by unfold IntKind.wrap;simp[IntKind.bits,IntKind.signed];omega
    have hsz4:=(Aa hI).below.size;clear hIs4 hh4 hov4 hkv4 hap4 hn14 hn24 hovL hL d3 HVs HST;go_wp2_with (at_builtin;refine wpList_append_own_at _ rfl _ _ 23 rfl (b+1) 5 i0 (.int .u8 0) 1 1 Tryz.underlying23 hi0 hz0 hz1' hz2 rfl (by decide) _ L (u8s u'.out) rfl ((Aa HOL).alloc _) ⟨_,0,none⟩ 1 1 [.int .u8 (k:Int)] rfl rfl (cell_one_new _ _ _) (Bc rfl) (by unfold maxLen;omega) (by omega) (by simp;omega) ?_)
    intro v' w5 hO5 hgrow5 _ hspot5;obtain⟨g9,c9,hv9,_,_⟩:=Ba hO5 (by omega);obtain⟨q3,f35,hI5⟩:=IIs.said (c:=k) (v':=v') (Aa HIS).base (Aa HIS).no (Aa HH4) (Aa HO4) (Aa HK4) (Aa HA4) (Aa HN1) (Aa HN2) (fun g hg=>Aa HNo1 g (by omega)) (by rw[Aa HLL];exact hO5) hgrow5 (by simpa using hspot5);have HI5:=Ab ((Aa hI).trans hI5);have hxo5:(u'.out++ [k]).length<=3000:=by rw[VE,Aa HLL];simp only[VJ,WE];omega
    subst hv9;clear hI5 hO5 hgrow5 hspot5;obtain⟨w9,hw9⟩:∃w9,w5.setCell ⟨b,2,none⟩ (.slice (some ⟨g9,0,none⟩) (L+1) c9)=w9:=⟨_,rfl⟩
    rw[hw9]at HI5;obtain⟨c50,c51⟩:=Aa HCB w9 _ (Aa HI5);obtain⟨k6,v6,h6⟩:∃k6 v6,uplace la (rowB bs n) {u' with out:=u'.out++ [k]}=(k6,v6):=⟨_,_,rfl⟩
    have HS6:=Ab (Aa HSYM w9 {u' with out:=u'.out++ [k]} (Aa HI5) (hxp) (hxe) k6 v6 h6);have HT6:=Ab (Aa HTL f u' {u' with out:=u'.out++ [k]} k6 v6 (VB _) (hxp) (hxe) (hxo5) h6)
    have HV6:Hid (V=if v6.e≠0 then v6 else GE (rowB bs n) la lb f k6 v6):=Ab (by
     have:=Aa HVn
     rw[h6]at this;exact this)
    clear h6 HSYM HHOW HRM HBK HTL HVn;go_wp2_with fail
    refine(Aa HS6).mono ?_;rintro e w6 hg
    rcases hg with ⟨e6,rfl,hU6⟩|⟨e6,rfl,hB6⟩
    . have HI6:=Ab ((Aa HI5).trans hU6);clear hU6;obtain⟨t1,t2,t3⟩:=Aa HT6 e6;have HV7:Hid (V=GE (rowB bs n) la lb f k6 v6):=Ab (by rw[Aa HV6,if_neg (fun h=>h e6)]);go_wp2;go_roundw
      case rel=>exact⟨k6,f,v6,rfl,Ab ⟨t1,t2,e6⟩,Ab (by omega),HI6,HV7⟩
      case measure=>rw[Mb (Aa HI6).is,Mb (Aa hI).is];omega
    . have HB6:=Ab ((Aa HI5).bl.trans hB6);have HV7:Hid (V=v6):=Ab (by rw[Aa HV6,if_pos e6]);clear hB6;go_wp2;exact⟨rfl,Aa HBAD v6 w6 (Aa HV7) e6 (Aa HB6)⟩
  . have hltI:¬(k:Int)<256:=by omega
    by_cases h285:285<k
    . have h285I:¬(k:Int)<=285:=by omega
      have HVx:Hid (V= {u' with e:=8}):=Ab (by
       have e1:Co (rowB bs n) lb k u'= {u' with e:=8}:=by unfold Co;rw[if_neg hlt,if_pos h285]
       rw[Aa HVs,e1,if_pos (show ({u' with e:=8}:US).e≠0 from (by decide:(8:Int)≠0))])
      clear HVs;go_wp2_with fail
      refine(Cf 8 _).mono ?_;rintro e w3 ⟨rfl,rfl⟩;go_wp2;exact⟨rfl,Aa HBAD {u' with e:=8} _ (Aa HVx) (by decide:(8:Int)≠0) (Aa hI).bl⟩
    have h285I:(k:Int)<=285:=by omega
    obtain⟨L1,L2,L3⟩:=GB k (by omega) (by omega);have HLS:=Ab (fun w=>Xw k w (by omega) (by omega));obtain⟨S1,S2,hS⟩:∃S1 S2,Df k=(S1,S2):=⟨_,_,rfl⟩
    rw[hS]at HLS L1 L2 L3;obtain⟨r,v3,h3⟩:∃r v3,uget (rowB bs n) S2 u'=(r,v3):=⟨_,_,rfl⟩
    obtain⟨d,v4,h4⟩:∃d v4,Me (rowB bs n) lb v3=(d,v4):=⟨_,_,rfl⟩
    have HST:Hid (Co (rowB bs n) lb k u'=if v3.e≠0 then v3 else if v4.e≠0 then v4 else Jh d (S1+r) v4):=Ab (by unfold Co;rw[if_neg hlt,if_neg h285,hS,h3,h4])
    have hrb:r<32:=by
     have:=Nm (rowB bs n) S2 u'
     rw[h3]at this;exact VG this (VO (j:=5) (by decide) L3)
    have p3:v3.p<=8*n/\u'.p<=v3.p/\v3.out=u'.out:=by
     have q1:=Gr (rowB bs n) S2 u' (by omega);have q2:=R0 (rowB bs n) S2 u';have q3:=Cm (rowB bs n) S2 u';rw[h3]at q1 q2 q3;rw[hrl]at q1;exact⟨q1,q2,q3⟩
    have p4:v4.p<=8*n/\v3.p<=v4.p/\v4.out=v3.out:=by
     have q1:=Vm (rowB bs n) lb v3 (by omega);rw[h4,hrl]at q1;exact⟨q1.2.2.2,q1.2.2.1,q1.1⟩
    obtain⟨p31,p32,p33⟩:=p3;obtain⟨p41,p42,p43⟩:=p4
    have hd4:v4.e=0->1<=d/\d<=80000:=fun e=>by
     have:=Z1e (rowB bs n) lb v3 (by rw[h4];exact e)
     rw[h4]at this;exact this
    have HD4:=Ab hd4;have HW3:=Ab (Aa HWR wr u' (Aa hI) hxp hxe S1 S2 r v3 (by omega) (by omega) h3);have HH4:=Ab (fun wr' (hU:IUp (NI No gB) B W1 b (.slice a n cap) f1 f2 v3 wr') he3=>Aa HHOW wr' v3 hU p31 he3 d v4 h4);clear hS h3 h4 hd4;dsimp only at HLS L1 L2 L3;go_wp2_with fail
    refine(Aa HLS _).mono ?_;rintro e w3 ⟨rfl,rfl⟩;go_wp2_with fail
    refine(Aa HW3).mono ?_;rintro e w3 hg
    rcases hg with ⟨e3,rfl,hU3⟩|⟨e3,rfl,hB3⟩
    rotate_left
    . have HB3:=Ab ((Aa hI).bl.trans hB3)
      have HVx:Hid (V=v3):=Ab (by
       have e1:Co (rowB bs n) lb k u'=v3:=by rw[Aa HST,if_pos e3]
       have:=Aa HVs
       rw[e1,if_pos e3]at this;exact this)
      clear hB3;go_wp2;exact⟨rfl,Aa HBAD v3 w3 (Aa HVx) e3 (Aa HB3)⟩
    have HU3:=Ab ((Aa hI).trans hU3);obtain⟨c30,c31⟩:=Aa HCB w3 _ (Aa HU3);have HH5:=Ab (Aa HH4 w3 (Aa HU3) e3);clear hU3 HH4;go_wp2_with fail
    refine(Aa HH5).mono ?_;rintro e w4 hg
    rcases hg with ⟨e4,rfl,hU4⟩|⟨e4,rfl,hB4⟩
    rotate_left
    . have HB4:=Ab ((Aa HU3).bl.trans hB4)
      have HVx:Hid (V=v4):=Ab (by
       have e1:Co (rowB bs n) lb k u'=v4:=by rw[Aa HST,if_neg (fun h=>h e3),if_pos e4]
       have:=Aa HVs
       rw[e1,if_pos e4]at this;exact this)
      clear hB4;go_wp2;exact⟨rfl,Aa HBAD v4 w4 (Aa HVx) e4 (Aa HB4)⟩
    have HU4:=Ab ((Aa HU3).trans hU4);obtain⟨hd1,hd2⟩:=Aa HD4 e4;obtain⟨v5,h5⟩:∃v5,Jh d (S1+r) v4=v5:=⟨_,rfl⟩
    have HB5:=Ab (Aa HBK w4 v4 (Aa HU4) e4 (by rw[p43,p33];exact hxo) d (S1+r) v5 hd1 hd2 (by omega) h5);have HST5:Hid (Co (rowB bs n) lb k u'=v5):=Ab (by rw[Aa HST,if_neg (fun h=>h e3),if_neg (fun h=>h e4),h5])
    have HK5:Hid (v5.e=0->v5.p=v4.p/\v5.out.length<=3000):=Ab (fun e=>by
     have:=Ru d (S1+r) v4 (by rw[h5];exact e)
     rw[h5]at this;exact⟨this.1,this.2.2 (by rw[p43,p33];exact hxo)⟩)
    clear hU4 h5 HH5 HW3;go_wp2_with fail
    refine(Aa HB5).mono ?_;rintro e w5 hg
    rcases hg with ⟨e5,rfl,hU5⟩|⟨e5,rfl,hB5⟩
    rotate_left
    . have HB6:=Ab ((Aa HU4).bl.trans hB5)
      have HVx:Hid (V=v5):=Ab (by
       have:=Aa HVs
       rw[Aa HST5,if_pos e5]at this;exact this)
      clear hB5;go_wp2;exact⟨rfl,Aa HBAD v5 w5 (Aa HVx) e5 (Aa HB6)⟩
    have HU5:=Ab ((Aa HU4).trans hU5);obtain⟨k51,k52⟩:=Aa HK5 e5
    have HVn:Hid (V=if (uplace la (rowB bs n) v5).2.e≠0 then (uplace la (rowB bs n) v5).2 else GE (rowB bs n) la lb f (uplace la (rowB bs n) v5).1 (uplace la (rowB bs n) v5).2):=Ab (by
     have:=Aa HVs
     rw[Aa HST5,if_neg (fun h=>h e5)]at this;exact this)
    clear hU5 HVs HST HST5;obtain⟨c50,c51⟩:=Aa HCB w5 _ (Aa HU5);obtain⟨k6,v6,h6⟩:∃k6 v6,uplace la (rowB bs n) v5=(k6,v6):=⟨_,_,rfl⟩
    have HS6:=Ab (Aa HSYM w5 v5 (Aa HU5) (by omega) (e5) k6 v6 h6);have HT6:=Ab (Aa HTL f u' v5 k6 v6 (by omega) (by omega) (e5) (k52) h6)
    have HV6:Hid (V=if v6.e≠0 then v6 else GE (rowB bs n) la lb f k6 v6):=Ab (by
     have:=Aa HVn
     rw[h6]at this;exact this)
    clear h6 HSYM HHOW HRM HBK HTL HVn;go_wp2_with fail
    refine(Aa HS6).mono ?_;rintro e w6 hg
    rcases hg with ⟨e6,rfl,hU6⟩|⟨e6,rfl,hB6⟩
    . have HI6:=Ab ((Aa HU5).trans hU6);clear hU6;obtain⟨t1,t2,t3⟩:=Aa HT6 e6;have HV7:Hid (V=GE (rowB bs n) la lb f k6 v6):=Ab (by rw[Aa HV6,if_neg (fun h=>h e6)]);go_wp2;go_roundw
      case rel=>exact⟨k6,f,v6,rfl,Ab ⟨t1,t2,e6⟩,Ab (by omega),HI6,HV7⟩
      case measure=>rw[Mb (Aa HI6).is,Mb (Aa hI).is];omega
    . have HB6:=Ab ((Aa HU5).bl.trans hB6);have HV7:Hid (V=v6):=Ab (by rw[Aa HV6,if_pos e6]);clear hB6;go_wp2;exact⟨rfl,Aa HBAD v6 w6 (Aa HV7) e6 (Aa HB6)⟩
theorem RG:∀(args:Array Value) (w:World),(callFunc 205 args).run Tryz.prog w=.ok (.enter 205 args) w:=fun _ _=>by kernel_rfl
theorem EL (a:Option Addr)(n cap:Nat)(bs:List Nat)(w:World)(hn:n<=6000)(U:US)(hB:∀(No:Nat->Prop) (B b:Nat) (W:World),IIs No B W b (.slice a n cap) .nilFunc .nilFunc US0->(∀g,w.heap.size+2<=g->¬No g)->(∀g,g<w.heap.size->No g)->W.heap.size=w.heap.size+2->B<=b->Below w.heap.size w W->
 Calls Tryz.prog 205 #[.pointer (some ⟨b,0,none⟩)] W fun e w'=>(U.e=0/\e=.returned (.tuple #[])/\∃g1 g2,IUp No B W b (.slice a n cap) g1 g2 U w')\/ (U.e≠0/\e=Flt U.e/\Below B W w'/\Kp No W w')) (hU:0<=U.e) (hUp:U.e=0->U.p<=48000):
 Calls Tryz.prog 166 #[.slice a n cap] w fun e w'=>Below w.heap.size w w'/\((U.e=0/\∃ov kv,e=.returned (.tuple #[ov,.int .i64 (((U.p+7)/8:Nat):Int),kv,.int .i64 0])/\w'.ownsRow (w.heap.size+1) 5 1 ov U.out.length (u8s U.out)/\w'.ownsRow (w.heap.size+1) 3 1 kv U.ks.length (i64s U.ks))\/ (U.e≠0/\e=.returned (.tuple #[.slice none 0 0,.int .i64 0,.slice none 0 0,.int .i64 U.e]))):=by
 have hmf:∀(fn:Fn) (first cap:Array Value) (w:World),(Instr.makeFunc fn first cap).run Tryz.prog w=.ok (.func fn first cap) w:=fun _ _ _ _=>rfl
 have HB:=Ab hB;clear hB;go_enter Tryz.func166,Tryz.ntmps166
 go_wp2_with fail
 obtain⟨wA,hwA⟩:∃wA,w.alloc (.cells #[.slice a n cap,.int .i64 0,.slice none 0 0,.slice none 0 0,.nilFunc,.nilFunc] 284)=wA:=⟨_,rfl⟩
 have hszA:wA.heap.size=w.heap.size+1:=by rw[<-hwA];simp
 have hbA:wA.heap[w.heap.size]? =some (.cells (icells (.slice a n cap) .nilFunc .nilFunc US0 (.slice none 0 0) (.slice none 0 0)) 284 (0,0)):=by rw[<-hwA];exact heap_alloc_new _ _
 have hBelA:Below w.heap.size w wA:=by rw[<-hwA];exact(Below.refl _ _).alloc (VB _) _
 rw[hwA];clear hwA;obtain⟨No,hNo⟩:∃No:Nat->Prop,No=fun g=>g<w.heap.size\/g=w.heap.size+1:=⟨_,rfl⟩
 have hIs:IIs No w.heap.size (wA.alloc (.cells #[.int .i64 0] 24)) w.heap.size (.slice a n cap) .nilFunc .nilFunc US0:=by
  refine⟨VB _,by rw[hNo];omega,.slice none 0 0,.slice none 0 0,(Below.heap_alloc _ _ _ (by omega)).trans hbA,World.ownsRow_nil _ _ _ _,World.ownsRow_nil _ _ _ _,.inl rfl, ?_, ?_⟩<;>(intro g e;simp[Value.ownBlock]at e)
 have hC:=Aa HB No w.heap.size w.heap.size _ hIs (fun g hg=>by rw[hNo];omega) (fun g hg=>by rw[hNo];exact .inl hg) (by simp[hszA]) (VB _) (hBelA.alloc (by omega) _)
 have hCa:=JC 205 #[.pointer (some ⟨w.heap.size,0,none⟩)] (fun x w'=>(x:Int)=U.e/\(U.e=0->∃g1 g2,IIs No w.heap.size w' w.heap.size (.slice a n cap) g1 g2 U)/\Below w.heap.size w w'/\w.heap.size+2<=w'.heap.size) wA RG (hC.mono (fun e w' hg=>by
  have hbb:Below w.heap.size w (wA.alloc (.cells #[.int .i64 0] 24)):=hBelA.alloc (by omega) _;have hblk:(wA.alloc (.cells #[.int .i64 0] 24)).heap[wA.heap.size]? =some (.cells #[.int .i64 0] 24 (0,0)):=heap_alloc_new _ _;have hNb:No wA.heap.size:=by rw[hNo,hszA];exact .inr rfl
  rcases hg with ⟨e0,rfl,g1,g2,hI⟩|⟨e0,rfl,hB,hK⟩
  . have hs:=hI.below.size;simp only[World.size_alloc]at hs;exact⟨⟨0,⟨by rw[e0];rfl,fun _=>⟨g1,g2,hI.is⟩,hbb.trans hI.below,by omega⟩,.inl ⟨rfl,rfl⟩⟩,(hI.kp _ (by simp) hNb).trans hblk⟩
  . have hs:=hB.size;simp only[World.size_alloc]at hs;have hx:((U.e.toNat:Nat):Int)=U.e:=YU hU;exact⟨⟨U.e.toNat,⟨hx,fun h=>absurd h e0,hbb.trans hB,by omega⟩,.inr ⟨by omega,by rw[hx]⟩⟩,(hK _ (by simp) hNb).trans hblk⟩))
 refine hCa.mono ?_;rintro e w2 ⟨x,w1,⟨hx,hI1,hB1,hs1⟩,rfl,hs2,hsame,hBl⟩;have HB2:=Ab (hB1.trans (hBl w.heap.size (by omega)));clear hCa hC hIs
 by_cases e0:U.e=0
 . obtain⟨g1,g2,hI⟩:=hI1 e0;have hUp:=hUp e0;have hx0:x=0:=by omega
   subst hx0;obtain⟨ov,kv,c2,c3,hh,hov,hkv,hap,hn1,hn2⟩:=hI.rows;have hkeep:∀g,g<w1.heap.size->g≠w.heap.size+1->w2.heap[g]? =w1.heap[g]? :=fun g h1 h2=>hsame g h1 (by rw[hszA];exact h2)
   have hb2:=(hkeep w.heap.size (by omega) (by omega)).trans hh;have hov2:=Ab (Au hov (fun g hg=>hkeep g (hov.lt g hg).2 (fun h=>hn1 g hg (by rw[hNo,h];exact .inr rfl))));have hkv2:=Ab (Au hkv (fun g hg=>hkeep g (hkv.lt g hg).2 (fun h=>hn2 g hg (by rw[hNo,h];exact .inr rfl))));have d1:w2.cell? ⟨w.heap.size,1,none⟩=some (.int .i64 (U.p:Int)):=Ac hb2;have d2:w2.cell? ⟨w.heap.size,2,none⟩=some ov:=Ac hb2;have d3:w2.cell? ⟨w.heap.size,3,none⟩=some kv:=Ac hb2;clear hI hh hov hkv hap hn1 hn2 hb2 hkeep hsame hBl hI1 hB1 c2 c3 hx;go_wp2;go_quiet (fail)
   go_wp2;refine bodyPost_ret (v:=.tuple #[ov,.int .i64 (((U.p:Int)+7)/8),kv,.int .i64 0]) ?_ rfl ⟨Ae (Aa HB2) _,.inl ⟨e0,ov,kv,by rw[show (((U.p+7)/8:Nat):Int)=((U.p:Int)+7)/8 by omega],Au (Aa hov2) (fun _ _=>rfl),Au (Aa hkv2) (fun _ _=>rfl)⟩⟩
   first|rfl|kernel_rfl
 . have hx0:((x:Int)==0)=false:=by rw[beq_eq_false_iff_ne];omega
   have HX:=Ab hx;clear hsame hBl hI1 hB1 hx;go_wp2;refine bodyPost_ret (v:=.tuple #[.slice none 0 0,.int .i64 0,.slice none 0 0,.int .i64 (x:Int)]) ?_ rfl ⟨Aa HB2,.inr ⟨e0,by rw[Aa HX]⟩⟩
   first|rfl|kernel_rfl
theorem Z6 (b:Nat)(a:Option Addr)(len cap:Nat)(l:List Int)(w:World)(hl:l.length=len)(hM:len<=1000000)(hR:RowIn .i64 w a l)(he:errL l≠0):
 Calls Tryz.prog 270 #[.pointer (some ⟨b,0,none⟩),.slice a len cap] w fun e w'=>e=Flt (errL l)/\Below w.heap.size w w':=by
 have HC:=Ab (QL a len cap l (w.alloc (.cells #[.pointer (some ⟨b,0,none⟩)] 280)) hl (by omega) (hR.alloc _) he);have HA:Hid (Below w.heap.size w (w.alloc (.cells #[.pointer (some ⟨b,0,none⟩)] 280))):=Ab ((Below.refl _ _).alloc (VB _) _);have hb:(errL l !=0)=true:=by rw[bne_iff_ne];exact he
 obtain⟨E,hE⟩:∃E,errL l=E:=⟨_,rfl⟩
 rw[hE]at HC hb ⊢;clear hE he hR hl;go_enter Tryz.func270,Tryz.ntmps270
 go_wp2_with fail
 refine(Aa HC).mono ?_;rintro e w1 ⟨rfl,hB1⟩;have HB1:Hid (Below w.heap.size w w1):=Ab ((Aa HA).trans (hB1.mono (by simp)));clear hB1;go_wp2_with fail
 refine(Cf E w1).mono ?_;rintro e w2 ⟨rfl,rfl⟩;go_wp2;exact⟨rfl,rfl,Aa HB1⟩
def Z8s (b:Nat)(l:List Int)(w:World)(e:Ending)(w':World):Prop:=
 Below w.heap.size w w'/\((errL l=0/\∃gr gm mb nn,e=.returned (DV gr gm)/\w.heap.size<=gr/\w.heap.size<=gm/\w.heap.size<=mb/\mb<w'.heap.size/\DIs w' gr gm mb nn b l)\/ (errL l≠0/\e=Flt (errL l)))
theorem Kt (b:Nat)(a:Option Addr)(len cap:Nat)(l:List Int)(w:World)(hl:l.length=len)(hM:len<=1000000)(hR:RowIn .i64 w a l):
 Calls Tryz.prog 270 #[.pointer (some ⟨b,0,none⟩),.slice a len cap] w fun e w'=>Z8s b l w e w':=by
 by_cases he:errL l=0
 . refine(Nr b a len cap l w hl hR (Ch he)).mono ?_;rintro e w' ⟨gr,gm,mb,nn,h1,h2,h3,h4,h5,h6,h7⟩;exact⟨h7,.inl ⟨he,gr,gm,mb,nn,h1,h2,h3,h4,h5,h6⟩⟩
 . refine(Z6 b a len cap l w hl hM hR he).mono ?_;rintro e w' ⟨h1,h2⟩;exact⟨h2,.inr ⟨he,h1⟩⟩
def NJ (No:Nat->Prop)(N:Nat):Nat->Prop:=fun g=>No g\/N<=g
def NK (No:Nat->Prop)(N M:Nat):Nat->Prop:=fun g=>No g\/ (N<=g/\g<M)
theorem IIs.back {No1 No2:Nat->Prop}{B b:Nat}{w w':World}{R f1 f2 g1 g2:Value}{u u':US}(h1:IIs No1 B w b R f1 f2 u)(h2:IIs No2 B w' b R g1 g2 u')(hK:Mx b w w'):IIs No1 B w' b R g1 g2 u':=by
 obtain⟨ov,kv,a2,a3,a4,a5,a6,a7,a8,a9⟩:=h1.rows;obtain⟨ov',kv',b2,b3,b4,b5,b6,b7,b8,b9⟩:=h2.rows
 have e2:ov'=ov:=by
  have:=(b2.symm.trans (hK 2 (by decide))).trans a2
  exact VM this
 have e3:kv'=kv:=by
  have:=(b3.symm.trans (hK 3 (by decide))).trans a3
  exact VM this
 subst e2;subst e3;exact⟨h1.base,h1.no,ov',kv',b4,b5,b6,b7,a8,a9⟩
theorem IIs.newer {No:Nat->Prop}{B b:Nat}{w:World}{R f1 f2:Value}{u:US}(h:IIs No B w b R f1 f2 u):IIs (NJ No w.heap.size) B w b R f1 f2 u:=
 h.more (fun e=>by
  rcases e with e|e
  . exact h.no e
  . have:=h.lt;omega) (fun g hg=>hg)
theorem IIs.weak {No No':Nat->Prop}{B b:Nat}{w:World}{R f1 f2:Value}{u:US}(h:IIs No B w b R f1 f2 u)(hn:∀g,No' g->No g):IIs No' B w b R f1 f2 u:=
 h.more (fun e=>h.no (hn b e)) (fun g hg=>.inl (hn g hg))
theorem Rd.wide {w:World}{No No':Nat->Prop}{a:Option Addr}{n:Nat}{bs:List Nat}(h:Rd w No a n bs)(hn:∀g,No g->No' g):Rd w No' a n bs:=⟨h.len,h.few,h.byt,h.val,fun b' o' e1 e2=>hn _ (h.no b' o' e1 e2)⟩
theorem Z7c {No:Nat->Prop}{B:Nat}{w w':World}(h:Below w.heap.size w w')(hB:B<=w.heap.size):Bl No B w w':=⟨h.mono hB,fun g hg _=>h.block g hg⟩
theorem IIs.past {No:Nat->Prop}{B b:Nat}{w w':World}{R f1 f2:Value}{u:US}(h:IIs No B w b R f1 f2 u)(hB:Below w.heap.size w w'):IIs No B w' b R f1 f2 u:=by
 obtain⟨ov,kv,h1,h2,h3,h4⟩:=h.ex;exact⟨h.base,h.no,ov,kv,(hB.block b h.lt).trans h1,Au h2 (fun g hg=>hB.block g (h2.lt g hg).2),Au h3 (fun g hg=>hB.block g (h3.lt g hg).2),h4⟩
structure Rk (No:Nat->Prop)(B:Nat)(w:World)(b:Nat)(R f1 f2:Value)(u:US)(w':World):Prop where
 is:IIs (NJ No w.heap.size) B w' b R f1 f2 u
 bl:Bl No B w w'
theorem Rk.refl {No:Nat->Prop}{B b:Nat}{w:World}{R f1 f2:Value}{u:US}(h:IIs No B w b R f1 f2 u):Rk No B w b R f1 f2 u w:=⟨h.newer,Bl.refl _ _ _⟩
theorem Rk.num {No:Nat->Prop}{B b:Nat}{w w1 w2:World}{R f1 f2:Value}{u v:US}(h:Rk No B w b R f1 f2 u w1)(k:IUp (NJ No w.heap.size) B w1 b R f1 f2 v w2):Rk No B w b R f1 f2 v w2:=⟨k.is,h.bl.trans ⟨k.below,k.kp.weaken (fun _ h=>.inl h)⟩⟩
theorem Rk.past {No:Nat->Prop}{B b:Nat}{w w1 w2:World}{R f1 f2:Value}{u:US}(h:Rk No B w b R f1 f2 u w1)(k:Below w1.heap.size w1 w2):Rk No B w b R f1 f2 u w2:=⟨h.is.past k,h.bl.trans (Z7c k (VU h.is.base (YX h.is.lt)))⟩
theorem Rk.drewN {No:Nat->Prop}{B b:Nat}{w w1:World}{R f1 f2:Value}{u:US}(h:Rk No B w b R f1 f2 u w1)(q:Nat):Rk No B w b R f1 f2 u (w1.drewN q):=h.past (Ae (Below.refl _ _) q)
def ARow (T:TypeId)(w:World)(g:Nat)(xs:List Int):Prop:=w.heap[g]? =some (.cells (iv xs).toArray T (0,0))
theorem ARow.lt {T:TypeId}{w:World}{g:Nat}{xs:List Int}(h:ARow T w g xs):g<w.heap.size:=(VK.1 h).1
theorem Z83 (xs:List Int)(j:Nat)(hj:j<xs.length):(iv xs).toArray[j]? =some (.int .i64 (xs.getD j 0)):=by simp[iv,List.getD,hj]
theorem ARow.cell {T:TypeId}{w:World}{g:Nat}{xs:List Int}(h:ARow T w g xs)(j:Nat)(hj:j<xs.length):w.cell? ⟨g,j,none⟩=some (.int .i64 (xs.getD j 0)):=(Ac h).trans (Z83 xs j hj)
theorem ARow.frozen {T:TypeId}{w:World}{g:Nat}{xs:List Int}(h:ARow T w g xs)(j:Nat):w.frozen? ⟨g,j,none⟩=false:=frozen_of_row w g j _ _ h
theorem ARow.row {T:TypeId}{w:World}{g:Nat}{xs:List Int}(h:ARow T w g xs):Row .i64 w g 0 xs:=fun j hj=>by rw[WG];exact h.cell j hj
theorem ARow.keep {T:TypeId}{w w':World}{g:Nat}{xs:List Int}(h:ARow T w g xs)(hk:w'.heap[g]? =w.heap[g]?):ARow T w' g xs:=hk.trans h
theorem ARow.set {T:TypeId}{w:World}{g:Nat}{xs:List Int}(h:ARow T w g xs)(i:Nat)(v:Int):ARow T (w.setCell ⟨g,i,none⟩ (.int .i64 v)) g (xs.set i v):=by
 unfold ARow;rw[heap_setCell_same w g i _ _ _ h];simp[iv,List.map_set]
theorem Ln {fn:Func}{p u:Tmp}{ty tz:TypeId}(h:fn.results= #[.cell p ty,.cell u tz])(tmps:Array Value)(w:World)(g1 g2:Nat)(v1 v2:Value)
 (hp:tmps.getD p undef=.pointer (some ⟨g1,0,none⟩)) (hu:tmps.getD u undef=.pointer (some ⟨g2,0,none⟩)) (h1:(loadVar ty ⟨g1,0,none⟩).run Tryz.prog w=.ok v1 w) (h2:(loadVar tz ⟨g2,0,none⟩).run Tryz.prog w=.ok v2 w):
 (results fn tmps).run Tryz.prog w=.ok (.tuple #[v1,v2]) w:=by
 have hp':tmps[p]?.getD undef=.pointer (some ⟨g1,0,none⟩):=by simpa using hp
 have hu':tmps[u]?.getD undef=.pointer (some ⟨g2,0,none⟩):=by simpa using hu
 simp[results,h,hp',hu',asAddr,h1,h2]
theorem ARow.range {T:TypeId}{w:World}{g:Nat}{xs:List Int}(h:ARow T w g xs):w.rangeAt g 0 (iv xs):=fun j v hv=>by
 rw[WG];exact(Ac h).trans (by simpa using hv)
theorem Cy (xs:List Int):(iv xs).toArray.all (·.oneCell')=true:=by
 simp[iv]
 intro x hx;rfl
theorem Ei {ops:Array Oper}{o:Oper}{a:Act}{W:World}{K:Act->World->Prop}{Q:Exit->Act->World->Prop}{E:Prop}(hgd:o.guard=none)(T:TypeId)(x y:Operand)(ho:o.op=.store T x y)
 (g:Nat) (xs:List Int) (hx:a.eval x=.pointer (some ⟨g,0,none⟩)) (hy:a.eval y=.agg (iv xs).toArray) (hA:ARow T W g xs) (hi:(Tryz.prog.info? T).map (·.size)=some (iv xs).toArray.size) (h:K (a.put o.dst undef) W):if Region.wanted o (yielded ops a.tmps)=true then Oper.wp Tryz.prog o a W K Q else E:=by
 have e:Region.wanted o (yielded ops a.tmps)=true:=by unfold Region.wanted;rw[hgd]
 rw[if_pos e];refine wp_store_row T x y ho g _ hx hy T _ hA hi rfl (Cy xs) ?_;rw[setRow_self W g _ T (0,0) hA];exact h
theorem ARow.load {T:TypeId}{w:World}{g:Nat}{xs:List Int}(h:ARow T w g xs){d:TypeDesc}(hu:Tryz.prog.underlying T=some d)(hd:(match d with| .struct _| .array _ _=>true|_=>false)=true)(hi:(Tryz.prog.info? T).map (·.size)=some (iv xs).toArray.size):(loadVar T ⟨g,0,none⟩).run Tryz.prog w=.ok (.agg (iv xs).toArray) w:=
 run_loadVar_row w g T T _ (0,0) d h hu (by cases d<;>first|rfl|exact hd) hi
end Go.Proofs.YtleocpdblhbimaaGreatDoor
