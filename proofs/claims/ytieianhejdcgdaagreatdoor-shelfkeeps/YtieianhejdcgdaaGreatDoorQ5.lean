import Derived.Test.YtieianhejdcgdaaGreatDoorQ4
import Derived.Maps.OwnSet
import Derived.Maps.Views
set_option maxHeartbeats 4000000
namespace Go.Proofs.YtieianhejdcgdaaGreatDoor
set_option linter.unusedVariables false
set_option maxRecDepth 100000
theorem Yt {c:Nat}{u:US}(h:(Jt c u).e=0):u.e=0/\u.out.length≠3000/\Jt c u= {u with out:=u.out++ [c]}:=by
 unfold Jt at h ⊢
 by_cases e:u.e=0
 . rw[if_pos e]at h ⊢
   by_cases e2:u.out.length=3000
   . rw[if_pos e2]at h;exact absurd (show (2:Int)=0 from h) (by decide)
   . rw[if_neg e2];exact⟨e,e2,rfl⟩
 . rw[if_neg e]at h;exact absurd h e
theorem Br {row:List Bool}{n r:Nat}{u v:US}(h:uget row n u=(r,v))(hv:v.e=0):v.p=u.p+n/\v.p<=row.length/\v.out=u.out/\v.ks=u.ks/\u.e=0:=by
 have hu:u.e=0:=Tp (by rw[h];exact hv);unfold uget at h;rw[if_pos hu]at h
 by_cases e:row.length<u.p+n
 . rw[if_pos e]at h;have:=(VU h).2
   rw[<-this]at hv;exact absurd (show (7:Int)=0 from hv) (by decide)
 . rw[if_neg e]at h;have:=(VU h).2
   subst this;exact⟨rfl,by show u.p+n<=row.length;omega,rfl,rfl,hu⟩
theorem C2 {l:List Int}{row:List Bool}{p:Nat}:∀(f n:Nat),1<=n->(Fe l row p f n).2.2=0->1<=(Fe l row p f n).2.1/\p+(Fe l row p f n).2.1<=row.length/\(Fe l row p f n).1<l.length
 |0,n,_,h=>by rw[Fe]at h;exact absurd h (by decide)
 |f+1,n,hn,h=>by
  rw[Fe]at h ⊢
  by_cases e:row.length<p+n
  . rw[if_pos e]at h;exact absurd h (by decide)
  . rw[if_neg e]at h ⊢
    cases hf:Rs l ((row.drop p).take n)with
    |some q=>
     simp only
     refine⟨hn,by omega, ?_⟩;have:=List.mem_of_find?_eq_some hf
     simpa using this
    |none=>
     rw[hf]at h;simp only at h ⊢
     exact C2 f (n+1) (by omega) h
theorem Di {l:List Int}{row:List Bool}{k:Nat}{u v:US}(h:uplace l row u=(k,v))(hv:v.e=0):u.p+1<=v.p/\v.p<=row.length/\v.out=u.out/\v.ks=u.ks/\u.e=0/\k<l.length:=by
 have hu:u.e=0:=Y5 (by rw[h];exact hv);unfold uplace at h;rw[if_pos hu]at h;have h1:=(VU h).2;have h2:=(VU h).1;subst h1;have:=C2 (l:=l) (row:=row) (p:=u.p) 15 1 (VC _) hv
 refine⟨?_, ?_,rfl,rfl,hu, ?_⟩
 . show u.p+1<=u.p+(Qw l row u.p).2.1
   have h3:=this.1;unfold Qw;omega
 . show u.p+(Qw l row u.p).2.1<=row.length
   exact this.2.1
 . rw[<-h2];exact this.2.2
theorem Pz {d:Nat}:∀ {n:Nat} {u:US},(ucopy d n u).e=0->u.e=0
 |0,u,h=>h
 |n+1,u,h=>by
  rw[ucopy]at h
  by_cases e:u.e=0
  . exact e
  . rw[if_neg e]at h;exact h
theorem O5 {d:Nat}:∀ {n:Nat} {u:US},(ucopy d n u).e=0->(ucopy d n u).p=u.p/\(ucopy d n u).ks=u.ks/\(u.out.length<=3000->(ucopy d n u).out.length<=3000)
 |0,u,h=>⟨rfl,rfl,fun h=>h⟩
 |n+1,u,h=>by
  have e:=Pz h;rw[ucopy,if_pos e]at h ⊢;obtain⟨h1,h2,h3⟩:=Yt (Pz h);have ih:=O5 h;rw[h3]at ih ⊢;refine⟨ih.1,ih.2.1,fun ho=>ih.2.2 ?_⟩;simp only[VB,VH,VQ];omega
inductive Tok1 (row:List Bool)(a b:List Int)(u:US):Bool->US->Prop
 |stop (v:US):uplace a row u=(256,v)->v.e=0->Tok1 row a b u false v
 |byte (c:Nat) (x:US):uplace a row u=(c,x)->x.e=0->c<256->x.out.length≠3000->Tok1 row a b u true {x with out:=x.out++ [c]}
 |same (k n0 f d0:Nat) (x1 x2 x3 x4 v:US):uplace a row u=(k,x1)->x1.e=0->257<=k->k<=285->uget row (samesL.getD (k-257) (0,0)).2 x1=(n0,x2)->x2.e=0->uplace b row x2=(f,x3)->x3.e=0->f<=29->
  uget row (farsL.getD f (0,0)).2 x3=(d0,x4)->x4.e=0->(farsL.getD f (0,0)).1+d0<=x4.out.length->ucopy ((farsL.getD f (0,0)).1+d0) ((samesL.getD (k-257) (0,0)).1+n0) x4=v->v.e=0->Tok1 row a b u true v
theorem CY {row:List Bool}{a b:List Int}{u:US}(h:(Mq row a b u).2.e=0):Tok1 row a b u (Mq row a b u).1 (Mq row a b u).2:=by
 obtain⟨k,x1,e1⟩:∃k x1,uplace a row u=(k,x1):=⟨_,_,rfl⟩
 unfold Mq at h ⊢;simp only[e1]at h ⊢
 by_cases c1:x1.e≠0\/k=256
 . rw[if_pos c1]at h ⊢;simp only at h ⊢
   rcases c1 with c1|c1
   . exact absurd h c1
   . subst c1;exact .stop x1 e1 h
 . rw[if_neg c1]at h ⊢
   have hx1:x1.e=0:=by
    by_cases e:x1.e=0
    . exact e
    . exact absurd (.inl e) c1
   have hk:k≠256:=fun e=>c1 (.inr e)
   by_cases c2:k<256
   . rw[if_pos c2]at h ⊢;simp only at h ⊢
     obtain⟨_,h2,h3⟩:=Yt h;rw[h3];exact .byte k x1 e1 hx1 c2 h2
   . rw[if_neg c2]at h ⊢
     by_cases c3:285<k
     . rw[if_pos c3]at h;exact absurd h (Da (by decide))
     . rw[if_neg c3]at h ⊢;unfold Z1n at h ⊢;obtain⟨n0,x2,e2⟩:∃n0 x2,uget row (samesL.getD (k-257) (0,0)).2 x1=(n0,x2):=⟨_,_,rfl⟩
       obtain⟨f,x3,e3⟩:∃f x3,uplace b row x2=(f,x3):=⟨_,_,rfl⟩
       simp only[e2,e3]at h ⊢
       by_cases c4:x3.e=0/\29<f
       . rw[if_pos c4]at h;rw[if_pos (Da (by decide))]at h;exact absurd h (Da (by decide))
       . rw[if_neg c4]at h ⊢
         by_cases c5:x3.e≠0
         . rw[if_pos c5]at h;exact absurd h c5
         . rw[if_neg c5]at h ⊢;have hx3:x3.e=0:=by omega
           simp only at h ⊢
           unfold Z6c at h ⊢;obtain⟨d0,x4,e4⟩:∃d0 x4,uget row (farsL.getD f (0,0)).2 x3=(d0,x4):=⟨_,_,rfl⟩
           simp only[e4]at h ⊢;have hx:=Pz h
           by_cases c6:x4.e=0/\x4.out.length<(farsL.getD f (0,0)).1+d0
           . rw[if_pos c6]at hx;exact absurd hx (Da (by decide))
           . rw[if_neg c6]at h hx ⊢;have hx2:x2.e=0:=Y5 (by rw[e3];exact hx3);exact .same k n0 f d0 x1 x2 x3 x4 _ e1 hx1 (by omega) (by omega) e2 hx2 e3 hx3 (by omega) e4 hx (by omega) rfl h
theorem Tok1.ahead {row:List Bool}{a b:List Int}{u v:US}{t:Bool}(h:Tok1 row a b u t v):u.p+1<=v.p/\v.p<=row.length/\v.e=0/\v.ks=u.ks/\(u.out.length<=3000->v.out.length<=3000):=by
 cases h with
 |stop _ h1 h2=>
  have:=Di h1 h2
  exact⟨this.1,this.2.1,h2,this.2.2.2.1,fun h=>by rw[this.2.2.1];exact h⟩
 |byte c x h1 h2 h3 h4=>
  have:=Di h1 h2
  refine⟨this.1,this.2.1,h2,this.2.2.2.1,fun h=> ?_⟩;rw[this.2.2.1]at h4 ⊢;simp only[VB,VH,VQ];omega
 |same k n0 f d0 x1 x2 x3 x4 _ h1 h2 h3 h4 h5 h6 h7 h8 h9 h10 h11 h12 h13 h14=>
  have p1:=Di h1 h2;have p2:=Br h5 h6;have p3:=Di h7 h8;have p4:=Br h10 h11;have p5:=O5 (by rw[h13];exact h14:(ucopy ((farsL.getD f (0,0)).1+d0) ((samesL.getD (k-257) (0,0)).1+n0) x4).e=0);rw[h13]at p5;refine⟨by omega,by omega,h14, ?_,fun h=>p5.2.2 ?_⟩
  . rw[p5.2.1,p4.2.2.2.1,p3.2.2.2.1,p2.2.2.2.1,p1.2.2.2.1]
  . rw[p4.2.2.1,p3.2.2.1,p2.2.2.1,p1.2.2.1];exact h
theorem Z0i {row:List Bool}{a b:List Int}:∀ {F:Nat} {u:US},(utok row a b F u).e=0->u.e=0
 |0,u,h=>h
 |F+1,u,h=>by
  rw[utok]at h
  by_cases e:u.e=0
  . exact e
  . rw[if_neg e]at h;exact h
theorem Tl {row:List Bool}{a b:List Int}{F:Nat}{u:US}(h:(utok row a b (F+1) u).e=0):∃t x,Tok1 row a b u t x/\utok row a b (F+1) u=if t=true then utok row a b F x else x:=by
 have hu:=Z0i h;rw[utok,if_pos hu]at h ⊢;obtain⟨t,x,e⟩:∃t x,Mq row a b u=(t,x):=⟨_,_,rfl⟩
 have hg:=CY (row:=row) (a:=a) (b:=b) (u:=u);rw[e]at h hg ⊢;simp only at h hg ⊢
 refine⟨t,x,hg ?_,rfl⟩
 by_cases ht:t=true
 . rw[if_pos ht]at h;exact Z0i h
 . rw[if_neg ht]at h;exact h
inductive Blk1R (row:List Bool)(u:US):Bool->US->Prop
 |stored (l:Nat) (x1 x2:US):uget row 1 u=(l,x1)->uget row 2 x1=(0,x2)->x2.e=0->(ustored row x2).e=0->Blk1R row u (decide (l=1)) (ukept 0 (ustored row x2))
 |coded (l k:Nat) (x1 x2 x3:US) (a b:List Int):uget row 1 u=(l,x1)->uget row 2 x1=(k,x2)->x2.e=0->(k=1\/k=2)->uopen row k x2=((a,b),x3)->x3.e=0->(utok row a b row.length x3).e=0->Blk1R row u (decide (l=1)) (ukept k (utok row a b row.length x3))
theorem O6 {row:List Bool}{u:US}(h:(Fc row u).2.e=0):Blk1R row u (Fc row u).1 (Fc row u).2:=by
 obtain⟨l,x1,e1⟩:∃l x1,uget row 1 u=(l,x1):=⟨_,_,rfl⟩
 obtain⟨k,x2,e2⟩:∃k x2,uget row 2 x1=(k,x2):=⟨_,_,rfl⟩
 unfold Fc at h ⊢;simp only[e1,e2]at h ⊢
 by_cases c1:x2.e≠0
 . rw[if_pos c1]at h;exact absurd h c1
 . rw[if_neg c1]at h ⊢;have hx2:x2.e=0:=by omega
   by_cases c2:k=0
   . subst c2;rw[if_pos rfl]at h ⊢;exact .stored l x1 x2 e1 e2 hx2 h
   . rw[if_neg c2]at h ⊢;obtain⟨a,b,x3,e3⟩:∃a b x3,uopen row k x2=((a,b),x3):=⟨_,_,_,rfl⟩
     rw[e3]at h ⊢;simp only at h ⊢
     by_cases c3:x3.e≠0
     . rw[if_pos c3]at h;exact absurd h c3
     . rw[if_neg c3]at h ⊢;have hx3:x3.e=0:=by omega
       have hk:k=1\/k=2:=by
        by_cases d1:k=1
        . exact .inl d1
        . by_cases d2:k=2
          . exact .inr d2
          . unfold uopen at e3;rw[if_neg d1,if_neg d2]at e3;have:=(VU e3).2
            rw[<-this]at hx3;exact absurd hx3 (Da (by decide))
       exact .coded l k x1 x2 x3 a b e1 e2 hx2 hk e3 hx3 h
end Go.Proofs.YtieianhejdcgdaaGreatDoor
namespace Go.Proofs.YtieianhejdcgdaaGreatDoor
open Go.RowKit Go.Maps Go.WideMaps
set_option linter.unusedVariables false
set_option maxRecDepth 100000
theorem IIs.more {No No':Nat->Prop}{B b:Nat}{w:World}{R f1 f2:Value}{u:US}(h:IIs No B w b R f1 f2 u)(hb:¬No' b)(hn:∀g,No' g->No g\/w.heap.size<=g):IIs No' B w b R f1 f2 u:=by
 obtain⟨ov,kv,h1,h2,h3,h4,h5,h6⟩:=h.ex;refine⟨h.base,hb,ov,kv,h1,h2,h3,h4, ?_, ?_⟩
 . intro g hg hN
   rcases hn g hN with e|e
   . exact h5 g hg e
   . have:=(h2.lt g hg).2;omega
 . intro g hg hN
   rcases hn g hN with e|e
   . exact h6 g hg e
   . have:=(h3.lt g hg).2;omega
def NI (No:Nat->Prop)(g0:Nat):Nat->Prop:=fun g=>No g\/g=g0
theorem IUp.less {No:Nat->Prop}{B b g0:Nat}{w w':World}{R f1 f2:Value}{u:US}(h:IUp (NI No g0) B w b R f1 f2 u w'):IUp No B w b R f1 f2 u w':=
 ⟨h.is.more (fun e=>h.is.no (.inl e)) (fun g hg=>.inl (.inl hg)),h.below,h.kp.weaken (fun g hg=>.inl hg)⟩
theorem Rd.more {w:World}{No:Nat->Prop}{a:Option Addr}{n g0:Nat}{bs:List Nat}(h:Rd w No a n bs):Rd w (NI No g0) a n bs:=⟨h.len,h.few,h.byt,h.val,fun b' o' e1 e2=>.inl (h.no b' o' e1 e2)⟩
theorem IIs.aside {No:Nat->Prop}{B b g0:Nat}{w:World}{R f1 f2:Value}{u:US}(h:IIs (NI No g0) B w b R f1 f2 u)(hB:B<=g0)(hl:g0<w.heap.size)(hN:¬No g0)(i:Nat)(v:Value):IIs (NI No g0) B (w.setCell ⟨g0,i,none⟩ v) b R f1 f2 u/\Below B w (w.setCell ⟨g0,i,none⟩ v)/\Kp No w (w.setCell ⟨g0,i,none⟩ v):=by
 obtain⟨ov,kv,h1,h2,h3,h4,h5,h6⟩:=h.ex;have hg:=Ad w g0 i v
 have hne:∀ {x:Value},(∀g,x.ownBlock=some g->¬NI No g0 g)->x.ownBlock=none\/x.ownBlock≠some g0:=fun {x} ho=>by
  cases hx:x.ownBlock with
  |none=>exact .inl rfl
  |some g=>
   refine .inr (fun e=>ho g hx (.inr ?_))
   cases e
   rfl
 have hb:b≠g0:=fun e=>h.no (.inr e)
 refine⟨⟨h.base,h.no,ov,kv,(hg.block b h.lt (by simp;exact fun e=>hb e)).trans h1,h2.kept hg (hne h5),h3.kept hg (hne h6),h4,h5,h6⟩, ?_, ?_⟩
 . exact(Below.refl B w).grown hg (by omega) (fun g e=>by cases e;exact hB)
 . exact(Kp.refl No w).grown hg (VC _) (fun g e=>by cases e;exact hN)
theorem QC (w:World):(zeroValue 3).run Tryz.prog w=.ok (.int .i64 0) w:=by kernel_rfl
theorem PK (row:List Bool)(p i:Nat)(h:p+i<row.length):(row.drop p).take (i+1)=(row.drop p).take i++ [row.getD (p+i) false]:=by
 rw[XH,XP];simp[List.getD,h]
theorem Z59 (V x:Nat)(hV:V<32768)(hx:x<2):bits .or .i64 ((V:Int)*2) (x:Int)=((2*V+x:Nat):Int):=by
 have e:((V:Int)*2)=((2*V:Nat):Int):=by omega
 rw[e,Mz _ _ (by omega) (by omega)];have:=YL (i:=1) (b:=x) (by simpa using hx) V
 rw[Nat.pow_one]at this;rw[<-this]
def TF (No:Nat->Prop)(B:Nat)(W1:World)(b:Nat)(R f1 f2:Value)(u:US)(gw gr gm mb nn:Nat)(l:List Int)(i V:Nat)(w5:World):Prop:=
 w5.heap[gw]? =some (.cells #[.int .i64 (i:Int),.int .i64 (V:Int)] 355 (0,0))/\IUp No B W1 b R f1 f2 u w5/\IIs (NI No gw) B w5 b R f1 f2 u/\DIs w5 gr gm mb nn b l
theorem ME {b gw:Nat}{w wr w4:World}{x y:Value}(h4:Ml b wr w4)(h:Ml b w wr)(hne:b≠gw):Ml b w ((w4.setCell ⟨gw,0,none⟩ x).setCell ⟨gw,1,none⟩ y):=fun j hj=>by
 rw[World.cell?_setCell_other _ _ _ _ (by intro e;exact hne (by cases e;rfl)),World.cell?_setCell_other _ _ _ _ (by intro e;exact hne (by cases e;rfl))];exact(h4 j hj).trans (h j hj)
theorem Z5 (No:Nat->Prop)(B b:Nat)(a:Option Addr)(n cap:Nat)(bs:List Nat)(f1 f2:Value)(u:US)(w:World)(h:IIs No B w b (.slice a n cap) f1 f2 u)(hR:Rd w No a n bs)(hp:u.p<=8*n)(he:u.e=0)(gr gm mb nn:Nat)(l:List Int)(hD:DIs w gr gm mb nn b l)(hG:Good l)(hN:No gr/\No gm/\No mb)(hNo:∀g,w.heap.size<=g->¬No g)(k:Nat)(v:US)(hr:Hid (uplace l (rowB bs n) u=(k,v))):
 Calls Tryz.prog 289 #[.pointer (some ⟨gr,0,none⟩),.pointer (some ⟨gm,0,none⟩)] w fun e w'=>GotK No B w b (.slice a n cap) f1 f2 (.int .i64 (k:Int)) v e w':=by
 have hrl:=Ag bs n;have hfew:=hR.few;obtain⟨NX,hNX⟩:∃NX,Fe l (rowB bs n) u.p 15 1=NX:=⟨_,rfl⟩
 have hkv:k=NX.1/\v= {u with e:=NX.2.2,p:=u.p+NX.2.1}:=by
  have:=Aa hr
  unfold uplace Qw at this;rw[if_pos he,hNX]at this;exact⟨(VU this).1.symm,(VU this).2.symm⟩
 have H:=Ab h;have HR:=Ab hR;have HD:=Ab hD;have HG:=Ab hG;have HNX:=Ab hNX;have HKV:=Ab hkv;have HNo:=Ab hNo;obtain⟨hNr,hNm,hNb⟩:=hN;have HN3:=Ab (⟨hNr,hNm,hNb⟩:No gr/\No gm/\No mb);have hbl:=h.lt;have hgrl:=hD.lt;have hmbl:=hD.is.lt;obtain⟨p,hpp⟩:∃p,u.p=p:=⟨_,rfl⟩
 rw[hpp]at hp;have HPP:=Ab hpp;clear h hR hD hG hNX hkv hr hNo hNr hNm hNb hpp;go_enter Tryz.func289,Tryz.ntmps289
 go_wp2;obtain⟨gw,hgw⟩:∃gw,w.heap.size=gw:=⟨_,rfl⟩
 obtain⟨W1,hW1⟩:∃W1,w.alloc (.cells #[.int .i64 0,.int .i64 0] 355)=W1:=⟨_,rfl⟩
 have B1:Hid (Below gw w W1):=Ab (by rw[<-hW1,<-hgw];exact(Below.refl _ _).alloc (VC _) _);have hz1:W1.heap.size=gw+1:=by rw[<-hW1,<-hgw];simp
 have HW0:Hid (W1.heap[gw]? =some (.cells #[.int .i64 0,.int .i64 0] 355 (0,0))):=Ab (by rw[<-hW1,<-hgw];exact heap_alloc_new _ _)
 have I1:Hid (IIs (NI No gw) B W1 b (.slice a n cap) f1 f2 u):=Ab (by
  rw[<-hW1];exact((Aa H).more (No':=NI No gw) (fun e=>by rcases e with e|e;exact(Aa H).no e;omega) (fun g hg=>by rcases hg with e|e;exact .inl e;exact .inr (by omega))).grown (World.grownBy_alloc w _ none))
 have R1:Hid (Rd W1 No a n bs):=Ab ((Aa HR).keep (w':=W1) (by omega) (fun g hg _=>(Aa B1).block g (by omega)));have hNgw:¬No gw:=Aa HNo gw (by omega);have D1:Hid (DIs W1 gr gm mb nn b l):=Ab ((Aa HD).keep (by omega) ((Aa B1).block gr (by omega)) ((Aa B1).block gm (by omega)) ((Aa B1).block mb (by omega)));have hBg:B<=gw:=by have:=(Aa H).base;omega
 have hbgw:b≠gw:=by omega
 have HKB1:Hid (Ml b w W1):=Ab (fun j _=>by rw[<-hW1];exact World.cell?_alloc_past _ _ _ hbl);have BL1:Hid (Bl No B w W1):=Ab ⟨(Aa B1).mono hBg,fun g hg _=>(Aa B1).block g (by omega)⟩;rw[hW1];rw[hgw];clear hW1 HR HD;go_loopw [7] (fun v7 wr=>∃i:Nat,i<=15/\v7=.int .i64 (i:Int)/\Hid (wr.heap[gw]? =some (.cells #[.int .i64 (i:Int),.int .i64 ((vH (((rowB bs n).drop p).take i):Nat):Int)] 355 (0,0)))/\Hid (IUp No B W1 b (.slice a n cap) f1 f2 {u with p:=p+i} wr)/\Hid (IIs (NI No gw) B wr b (.slice a n cap) f1 f2 {u with p:=p+i})/\Hid (p+i<=8*n)/\Hid (Fe l (rowB bs n) p (15-i) (i+1)=NX)/\Hid (Ml b w wr)) (fun v7 _=>15-(intOf v7).toNat)
 case atStart=>exact⟨0,VM _,rfl,HW0,Ab (IUp.refl (by rw[show ({u with p:=p+0}:US)=u by rw[<-Aa HPP];rfl];exact(Aa I1).more (fun e=>(Aa I1).no (.inl e)) (fun g hg=>.inl (.inl hg)))),Ab (by rw[show ({u with p:=p+0}:US)=u by rw[<-Aa HPP];rfl];exact Aa I1),Ab hp,Ab (by rw[<-Aa HPP];exact Aa HNX),HKB1⟩
 case round=>
  obtain⟨i,hi,rfl,hW,hU,hJ,hpi,hX,hKB⟩:=hrel;have hzr:=(Aa hU).below.size
  by_cases hlt:i<15
  . have hpi2:=Aa hpi;have hRr:Rd wr (NI No gw) a n bs:=((Aa R1).keep hzr (Aa hU).kp).more;have hDr:DIs wr gr gm mb nn b l:=(Aa D1).keep hzr ((Aa hU).kp gr (by omega) (Aa HN3).1) ((Aa hU).kp gm (by omega) (Aa HN3).2.1) ((Aa hU).kp mb (by omega) (Aa HN3).2.2);have HBT:=Ab (fun q=>AB (NI No gw) B b a n cap bs f1 f2 {u with p:=p+i} (wr.drewN q) ((IUp.refl (Aa hJ)).drewN q).is (hRr.keep (VC _) (fun _ _ _=>rfl)) hpi2 he);have HDD:=Ab (fun q=>(IUp.refl (Aa hJ)).drewN q);have HDr:=Ab hDr;have s2:=hDr.r;have s0:wr.cell? ⟨gw,0,none⟩=some (.int .i64 (i:Int)):=Ac (Aa hW);obtain⟨V,hV⟩:∃V,vH (((rowB bs n).drop p).take i)=V:=⟨_,rfl⟩
    have s1:wr.cell? ⟨gw,1,none⟩=some (.int .i64 (V:Int)):=by rw[<-hV];exact Ac (Aa hW)
    have hVb:V<32768:=by
     have h1:=IF (((rowB bs n).drop p).take i);rw[hV,VL]at h1;exact VK h1 (VX (VV (by decide) (VX (ZE _ _) (show i<=15 by omega))) (by decide))
    have HV:=Ab hV;have hshl:IntKind.i64.wrap ((V:Int)*2)=(V:Int)*2:=by simp[IntKind.wrap,IntKind.signed,IntKind.bits];omega
    have hadd:IntKind.i64.wrap ((i:Int)+1)=(i:Int)+1:=by simp[IntKind.wrap,IntKind.signed,IntKind.bits];omega
    have hiI:(i:Int)<15:=by omega
    have hXs:=Aa hX;rw[show 15-i=(15-(i+1))+1 by omega,Fe,hrl]at hXs;clear hV hDr hRr
    by_cases hend:p+i=8*n
    . rw[if_pos (by omega)]at hXs;have HF:Hid (v.e=7):=Ab (by rw[(Aa HKV).2,<-hXs])
      have HP:Hid (∀q,Calls Tryz.prog 256 #[.pointer (some ⟨b,0,none⟩)] (wr.drewN q) fun e w'=>e=Flt 7/\Bl No B w w'):=Ab (fun q=>(Aa HBT q).mono (fun e w' hg=>by
       rw[if_pos hend]at hg
       rcases hg with ⟨e0,_⟩|⟨_,e1,e2⟩
       . exact absurd (show (7:Int)=0 from e0) (by decide)
       . exact⟨e1,Bl.trans (Aa BL1) (((Aa hU).bl.drewN q).trans (e2.weaken (fun _ h=>.inl h)))⟩))
      clear hXs HBT;go_wp2;refine wp_region_held_drew (S:=fun w'=>w'.cell? ⟨gw,0,none⟩=some (.int .i64 (i:Int))/\w'.cell? ⟨gw,1,none⟩=some (.int .i64 (V:Int))/\w'.cell? ⟨gr,0,none⟩=some (.pointer (some ⟨b,0,none⟩))) (by kernel_rfl) ⟨s0,s1,s2⟩ (fun hHeld=> ?_);refine wpAnyH_take (i:=0) (oi:= {dst:=some 9,op:=.indexAddr 355 (.tmp 3) (.const (.int .i64 0)),type:=0,pos:= "reader.go:140",after:= #[],guard:=none}) (v:=.pointer (some ⟨gw,0,none⟩)) rfl (by kernel_rfl) (by kernel_rfl) (by kernel_rfl) (fun _ _ _ h=>h) (Or.inl ⟨by rfl,fun W hS=>by obtain⟨h1,h2,h3⟩:=hS;go_simp⟩) hHeld ?_;simp only[Act.put,VA,VD,VE];refine wpAnyH_take (i:=1) (oi:= {dst:=some 10,op:=.load 3 (.tmp 9),type:=3,pos:= "reader.go:140",after:= #[{on:=0,ground:=.data}],guard:=none}) (v:=.int .i64 (i:Int)) rfl (by kernel_rfl) (by kernel_rfl) (by kernel_rfl) (fun _ _ _ h=>h) (Or.inl ⟨by rfl,fun W hS=>by obtain⟨h1,h2,h3⟩:=hS;go_simp⟩) hHeld ?_;simp only[Act.put,VA,VD,VE];refine wpAnyH_take (i:=2) (oi:= {dst:=some 11,op:=.binOp .add 3 (.tmp 10) (.const (.int .i64 1)) 3,type:=3,pos:= "reader.go:140",after:= #[{on:=1,ground:=.data}],guard:=none}) (v:=.int .i64 ((i:Int)+1)) rfl (by kernel_rfl) (by kernel_rfl) (by kernel_rfl) (fun _ _ _ h=>h) (Or.inl ⟨by rfl,fun W hS=>by obtain⟨h1,h2,h3⟩:=hS;go_simp⟩) hHeld ?_;simp only[Act.put,VA,VD,VE];refine wpAnyH_take (i:=3) (oi:= {dst:=some 12,op:=.indexAddr 355 (.tmp 3) (.const (.int .i64 1)),type:=0,pos:= "reader.go:140",after:= #[],guard:=none}) (v:=.pointer (some ⟨gw,1,none⟩)) rfl (by kernel_rfl) (by kernel_rfl) (by kernel_rfl) (fun _ _ _ h=>h) (Or.inl ⟨by rfl,fun W hS=>by obtain⟨h1,h2,h3⟩:=hS;go_simp⟩) hHeld ?_;simp only[Act.put,VA,VD,VE];refine wpAnyH_take (i:=4) (oi:= {dst:=some 13,op:=.load 3 (.tmp 12),type:=3,pos:= "reader.go:140",after:= #[{on:=3,ground:=.data}],guard:=none}) (v:=.int .i64 (V:Int)) rfl (by kernel_rfl) (by kernel_rfl) (by kernel_rfl) (fun _ _ _ h=>h) (Or.inl ⟨by rfl,fun W hS=>by obtain⟨h1,h2,h3⟩:=hS;go_simp⟩) hHeld ?_;simp only[Act.put,VA,VD,VE];refine wpAnyH_take (i:=5) (oi:= {dst:=some 14,op:=.binOp .shl 3 (.tmp 13) (.const (.int .u64 1)) 68,type:=3,pos:= "reader.go:140",after:= #[{on:=4,ground:=.data}],guard:=none}) (v:=.int .i64 ((V:Int)*2)) rfl (by kernel_rfl) (by kernel_rfl) (by kernel_rfl) (fun _ _ _ h=>h) (Or.inl ⟨by rfl,fun W hS=>by obtain⟨h1,h2,h3⟩:=hS;go_simp⟩) hHeld ?_;simp only[Act.put,VA,VD,VE];refine wpAnyH_take (i:=6) (oi:= {dst:=some 15,op:=.load 284 (.tmp 0),type:=284,pos:= "reader.go:140",after:= #[],guard:=none}) (v:=.pointer (some ⟨b,0,none⟩)) rfl (by kernel_rfl) (by kernel_rfl) (by kernel_rfl) (fun _ _ _ h=>h) (Or.inl ⟨by rfl,fun W hS=>by obtain⟨h1,h2,h3⟩:=hS;go_simp⟩) hHeld ?_;simp only[Act.put,VA,VD,VE];refine wpAnyH_ready (rs:= [7]) (by kernel_rfl) (by simp) (AllReadyH.cons rfl (fun K hK=> ?_) AllReadyH.nil);go_simp
      refine(Aa HP 1).mono ?_;rintro e w4 ⟨rfl,hB4⟩;exact And.intro rfl (Or.inr ⟨by rw[Aa HF];decide,by rw[Aa HF],hB4⟩)
    . rw[if_neg (by omega)]at hXs
      have hxx:∃x:Nat,(if Jy bs (p+i)then (1:Int)else 0)=(x:Int)/\x<2/\x=(if (rowB bs n).getD (p+i) false then 1 else 0):=by
       rw[Fy bs n (p+i) (by omega)]
       cases Jy bs (p+i)
       . exact⟨0,rfl,by decide,rfl⟩
       . exact⟨1,rfl,by decide,rfl⟩
      obtain⟨x,hx1,hx2,hx3⟩:=hxx
      have HP:Hid (∀q,Calls Tryz.prog 256 #[.pointer (some ⟨b,0,none⟩)] (wr.drewN q) fun e w'=>e=.returned (.int .i64 (x:Int))/\IUp (NI No gw) B wr b (.slice a n cap) f1 f2 {u with p:=p+(i+1)} w'/\Ml b wr w'):=Ab (fun q=>(Aa HBT q).mono (fun e w' hg=>by
       rw[if_neg hend]at hg
       rcases hg with ⟨_,e1,e2,e3⟩|⟨h1,_⟩
       . exact⟨by rw[e1];exact congrArg (fun z=>Ending.returned (Value.int .i64 z)) hx1,(Aa HDD q).trans e2,e3⟩
       . exact absurd he h1))
      obtain⟨s,hs⟩:∃s,((rowB bs n).drop p).take (i+1)=s:=⟨_,rfl⟩
      have hsv:vH s=2*V+x:=by
       rw[<-hs,PK _ _ _ (by rw[hrl];omega),O2,Aa HV,hx3]
      have hsl:s.length=i+1:=by rw[<-hs,VL,VO,hrl];omega
      have hne:s≠ []:=fun e=>by rw[e]at hsl;simp at hsl
      have HKY:Hid (keyOf Tryz.prog 355 (.agg #[.int .i64 ((i+1:Nat):Int),.int .i64 ((2*V+x:Nat):Int)])=some (kb s)):=Ab (by
       have:=Pc (okb (s:=s) (by omega))
       rw[kw,hsl,hsv]at this;rw[kb,hsl,hsv];exact this)
      have HHs:Hid (Maps.has (decD l l.length) (kb s)=decide (∃q,q<l.length/\An l q=s)):=Ab (OH l (Sd (Aa HG)) s hne (by omega) _);have HAt:Hid (∀q,q<l.length->An l q=s->(decD l l.length).atKey (kb s) (.lit (.int .i64 0))=.lit (.int .i64 (q:Int))):=Ab (fun q hq e=>OI l (Sd (Aa HG)) s hne (by omega) (K0 l (Aa HG) _ hne) _ l.length (VC _) q hq e);rw[hs]at hXs;have HXS:=Ab hXs;have HS:=Ab hs;have HSV:=Ab hsv;have hor:=Z59 V x hVb hx2
      have HGW:Hid (∀w4,IUp (NI No gw) B wr b (.slice a n cap) f1 f2 {u with p:=p+(i+1)} w4->w4.heap[gw]? =some (.cells #[.int .i64 (i:Int),.int .i64 (V:Int)] 355 (0,0))):=Ab (fun w4 h4=>by
       have:=(h4.kp gw (by omega) (.inr rfl)).trans (Aa hW)
       rw[Aa HV]at this;exact this)
      have HGR:Hid (∀w4,IUp (NI No gw) B wr b (.slice a n cap) f1 f2 {u with p:=p+(i+1)} w4->DIs w4 gr gm mb nn b l):=Ab (fun w4 h4=>(Aa HDr).keep h4.below.size (h4.kp gr (by omega) (.inl (Aa HN3).1)) (h4.kp gm (by omega) (.inl (Aa HN3).2.1)) (h4.kp mb (by omega) (.inl (Aa HN3).2.2)))
      have HT:Hid (∀w4,IUp (NI No gw) B wr b (.slice a n cap) f1 f2 {u with p:=p+(i+1)} w4->((w4.setCell ⟨gw,0,none⟩ (.int .i64 ((i:Int)+1))).setCell ⟨gw,1,none⟩ (.int .i64 (2*(V:Int)+(x:Int)))).cell? ⟨gw,0,none⟩=some (.int .i64 ((i:Int)+1))/\((w4.setCell ⟨gw,0,none⟩ (.int .i64 ((i:Int)+1))).setCell ⟨gw,1,none⟩ (.int .i64 (2*(V:Int)+(x:Int)))).cell? ⟨gw,1,none⟩=some (.int .i64 (2*(V:Int)+(x:Int)))/\TF No B W1 b (.slice a n cap) f1 f2 {u with p:=p+(i+1)} gw gr gm mb nn l (i+1) (2*V+x) ((w4.setCell ⟨gw,0,none⟩ (.int .i64 ((i:Int)+1))).setCell ⟨gw,1,none⟩ (.int .i64 (2*(V:Int)+(x:Int))))):=Ab (fun w4 h4=>by
       have g4:=Aa HGW w4 h4;have hl4:=h4.below.size;have g5:=heap_setCell_same w4 gw 0 _ _ (.int .i64 ((i:Int)+1)) g4;have g6:=heap_setCell_same _ gw 1 _ _ (.int .i64 (2*(V:Int)+(x:Int))) g5;have q6:((w4.setCell ⟨gw,0,none⟩ (.int .i64 ((i:Int)+1))).setCell ⟨gw,1,none⟩ (.int .i64 (2*(V:Int)+(x:Int)))).heap[gw]? =some (.cells #[.int .i64 ((i:Int)+1),.int .i64 (2*(V:Int)+(x:Int))] 355 (0,0)):=g6;obtain⟨a1,a2,a3⟩:=h4.is.aside hBg (by omega) hNgw 0 (.int .i64 ((i:Int)+1));obtain⟨b1,b2,b3⟩:=a1.aside hBg (by have:=a2.size;omega) hNgw 1 (.int .i64 (2*(V:Int)+(x:Int)));have hk:Kp No w4 ((w4.setCell ⟨gw,0,none⟩ (.int .i64 ((i:Int)+1))).setCell ⟨gw,1,none⟩ (.int .i64 (2*(V:Int)+(x:Int)))):=a3.trans b3 a2.size;have hu4:=(Aa hU).trans h4.less;have hsz:=(a2.trans b2).size;refine⟨Ac q6,Ac q6,by rw[q6];push_cast;rfl,⟨b1.more (fun e=>b1.no (.inl e)) (fun g hg=>.inl (.inl hg)),hu4.below.trans (a2.trans b2),hu4.kp.trans hk hu4.below.size⟩,b1, ?_⟩;exact(Aa HGR w4 h4).keep hsz (hk gr (by omega) (Aa HN3).1) (hk gm (by omega) (Aa HN3).2.1) (hk mb (by omega) (Aa HN3).2.2))
      have HSome:Hid (∀q,Rs l s=some q->Maps.has (decD l l.length) (kb s)=true/\(decD l l.length).atKey (kb s) (.lit (.int .i64 0))=.lit (.int .i64 (q:Int))):=Ab (fun q hf=>by
       have h1:An l q=s:=by simpa using List.find?_some hf
       have h2:q<l.length:=by simpa using List.mem_of_find?_eq_some hf
       exact⟨by rw[Aa HHs];exact decide_eq_true ⟨q,h2,h1⟩,Aa HAt q h2 h1⟩)
      have HV5:Hid (∀q w5,Rs l s=some q->IUp No B W1 b (.slice a n cap) f1 f2 {u with p:=p+(i+1)} w5->Ml b w w5->GotK No B w b (.slice a n cap) f1 f2 (.int .i64 (k:Int)) v (.returned (.int .i64 (q:Int))) w5):=Ab (fun q w5 hf h5 hkb5=>by
       have hx:=Aa HXS;rw[hf]at hx;have hx:(q,i+1,(0:Int))=NX:=hx;obtain⟨e1,e2⟩:=Aa HKV;rw[<-hx]at e1 e2;have e3:v= {u with p:=p+(i+1)}:=by rw[e2,Aa HPP,<-he]
       refine .inl ⟨by rw[e3];exact he,by rw[e1], ?_⟩;rw[e3];exact⟨⟨h5.is,((Aa B1).mono hBg).trans h5.below,fun g hg hN=>(h5.kp g (by omega) hN).trans ((Aa B1).block g (by omega))⟩,hkb5⟩)
      have HN5:Hid (Rs l s=none->Maps.has (decD l l.length) (kb s)=false/\Fe l (rowB bs n) p (15-(i+1)) (i+1+1)=NX):=Ab (fun hf=>by
       have hx:=Aa HXS;rw[hf]at hx;refine⟨?_,hx⟩;rw[Aa HHs];refine decide_eq_false ?_;rintro ⟨q,h1,h2⟩;have:=List.find?_eq_none.1 hf q (by simpa using h1)
       simp[h2]at this)
      clear hXs HBT hs hsv hne hsl hx1 hx3 HXS HHs HAt;have HKY2:=Aa HKY;push_cast at HKY2
      clear HKY;have HKY:=Ab HKY2;clear HKY2;go_wp2;go_region_with (go_at_call 256;refine(Aa HP _).mono ?_;rintro e w4 ⟨rfl,hI4,hKB4⟩;have HKB4:=Ab hKB4;have hg4:=Aa HGW _ hI4;have c0:w4.cell? ⟨gw,0,none⟩=some (.int .i64 (i:Int)):=Ac hg4;have c1:w4.cell? ⟨gw,1,none⟩=some (.int .i64 (V:Int)):=Ac hg4;have c2:=(Aa HGR _ hI4).r;have fr0:w4.frozen? ⟨gw,0,none⟩=false:=frozen_of_row w4 gw 0 _ _ hg4;have fr1:w4.frozen? ⟨gw,1,none⟩=false:=frozen_of_row w4 gw 1 _ _ hg4;have HI4:=Ab hI4;have HG4:=Ab hg4;clear hI4 hg4 hKB4)
      all_goals
       obtain⟨w5,hw5⟩:∃w5,(w4.setCell ⟨gw,0,none⟩ (.int .i64 ((i:Int)+1))).setCell ⟨gw,1,none⟩ (.int .i64 (2*(V:Int)+(x:Int)))=w5:=⟨_,rfl⟩
       have T5:=Aa HT w4 (Aa HI4);rw[hw5]at T5;rw[hw5];obtain⟨d0,d1,T5⟩:=T5;have d2:=T5.2.2.2.m;have HKB5:Hid (Ml b w w5):=Ab (by rw[<-hw5];exact ME (Aa HKB4) (Aa hKB) hbgw);have HT5:=Ab T5;clear hw5 T5 c0 c1 c2 fr0 fr1 s0 s1 s2 HI4 HG4 HGW HGR HT hor hshl hadd;go_wp2_with (at_lookup;refine wpList_lookup_own_ok_int _ rfl _ _ 354 rfl 355 3 .i64 Z6j Tryz.underlying354 Tryz.underlying3 (QC _) mb nn (decD l l.length) rfl (Aa HT5).2.2.2.is _ _ rfl (Aa HKY) ?_)
       intro c hat hwc;have HAT:=Ab hat;clear hat hwc
       cases hf:Rs l s with
       |some q=>
        obtain⟨hh1,hh2⟩:=Aa HSome q hf
        have hc:c=(q:Int):=by
         have:=(Aa HAT).symm.trans hh2
         simpa using this
        have HRes:=Ab (Aa HV5 q w5 hf (Aa HT5).2.1 (Aa HKB5));rw[hh1];subst hc;clear hh1 hh2 HAT HSome HV5 HN5 hf HKY;go_wp2;go_ret;exact Aa HRes
       |none=>
        obtain⟨hh1,hh2⟩:=Aa HN5 hf;have HXN:=Ab hh2;rw[hh1];clear hh1 hh2 HAT HSome HV5 HN5 hf HKY;go_wp2;go_round
        case rel=>exact⟨i+1,by omega,by go_num,Ab (by rw[Aa HS,Aa HSV];exact(Aa HT5).1),Ab (Aa HT5).2.1,Ab (Aa HT5).2.2.1,Ab (by omega),HXN,HKB5⟩
        case measure=>simp[intOf];omega
  . obtain rfl:i=15:=by omega
    have hX2:((0,0,8):Nat×Nat×Int)=NX:=Aa hX;have HF:Hid (v.e=8):=Ab (by rw[(Aa HKV).2,<-hX2]);have HBL:Hid (Bl No B w wr):=Ab ((Aa BL1).trans (Aa hU).bl);clear hX2;go_wp2;exact And.intro rfl (Or.inr ⟨by rw[Aa HF];decide,by rw[Aa HF],Aa HBL⟩)
theorem JO (No:Nat->Prop)(B b:Nat)(a:Option Addr)(n cap:Nat)(bs:List Nat)(f1 f2:Value)(u:US)(w:World)(h:IIs No B w b (.slice a n cap) f1 f2 u)(hR:Rd w No a n bs)(hp:u.p<=8*n)(he:u.e=0)(gr gm mb nn:Nat)(l:List Int)(hD:DIs w gr gm mb nn b l)(hG:Good l)(hN:No gr/\No gm/\No mb)(hNo:∀g,w.heap.size<=g->¬No g)(k:Nat)(v:US)(hr:Hid (uplace l (rowB bs n) u=(k,v))):
 Calls Tryz.prog 289 #[.pointer (some ⟨gr,0,none⟩),.pointer (some ⟨gm,0,none⟩)] w fun e w'=>Got No B w b (.slice a n cap) f1 f2 (.int .i64 (k:Int)) v e w':=(Z5 No B b a n cap bs f1 f2 u w h hR hp he gr gm mb nn l hD hG hN hNo k v hr).mono (fun _ _ h=>h.got)
end Go.Proofs.YtieianhejdcgdaaGreatDoor
