import Derived.Test.YtleocpdblhbimaaGreatDoorQ5
import Derived.Laws.EntriesVeiled
import Derived.Below
import Derived.Deep.RegionHeld3
import Derived.Deep.AppendLies
import Derived.Deep.DeepCutAuto
import Derived.Laws.AppendOwnNone
set_option linter.unusedVariables false
set_option linter.unusedSimpArgs false
set_option maxRecDepth 100000
set_option maxHeartbeats 8000000
namespace Go.Proofs.YtleocpdblhbimaaGreatDoor
open Go.RowKit Go.Proofs.Tryz
open Go.Value (int)
open Go.IntKind (i64)
variable{h5:Array Oper}{Q:Exit->Act->World->Prop}{l:List Int}{bs:List Nat}{G aa ac ai ak ar b g1 g2 k m n:Nat}{No No':Nat->Prop}{o:Oper}{a:Option Addr}{u:US}{E I R:Value}{O W w w':World}
theorem Gf:(prog.info? 282).map (·.size)=some 2:=oR
theorem Wg {a:Act}{K:Act->World->Prop}{E:Prop}(lk:o.guard=none)(T:TypeId)(x y:Operand)(I:o.op=.store T x y) (g:Nat) (G H:Array Value) (ae:a.eval x=.pointer (some ⟨g,0,none⟩)) (O:a.eval y=.agg G) (aa:W.heap[g]? =some (.cells H T (0,0))) (ac:(prog.info? T).map (·.size)=some G.size) (af:H.size=G.size) (U:G.all (·.oneCell')=true) (h:K (a.put o.dst undef) (W.setRow g G)):if Region.wanted o (yielded h5 a.tmps)=true then Oper.wp prog o a W K Q else E:=by have e:=fA;rw[kac e];exact wp_store_row T x y I g G ae O T H aa ac af U h
theorem Ql (w:World)(g:Nat)(E:Array Value):w.grownBy (w.setRow g E) (some g):=by have hb:=Az (kaa 0 w) (VF g) E;exact⟨hb.os,hb.tape,hb.output,hb.size,fun H _ G=>kbb _ _ _ _ (fun e=>G (by rw[e]))⟩
theorem KY (row:List Bool)(u u1 u2 u3:US)(G I H:Nat)(g1:uget row 5 u=(G,u1))(g2:uget row 5 u1=(I,u2))(O:uget row 4 u2=(H,u3))(E:u3.e≠0):(Dm row u).2=u3:=Pc row u u1 u2 u3 G I H g1 g2 O u3 E (by
 split
 . rw[Xi 8 u3 E];exact Ku _ _ _ _ E
 . exact Ku _ _ _ _ E)
theorem QP (row:List Bool)(u u1 u2 u3 E:US)(G I H:Nat)(S:List Int)(g1:uget row 5 u=(G,u1))(g2:uget row 5 u1=(I,u2))(af:uget row 4 u2=(H,u3))(ag:G+257<=286)(ah:I+1<=30)(ae:usmall row (ord19.take (H+4)) (List.replicate 19 0) u3=(S,E))(O:E.e=0)(U:errL S≠0):(Dm row u).2= {E with e:=8}:=by(have ac:Gx row (G+257) (I+1) (H+4) u3=(S,E):=by unfold Gx;rw[kab om];exact ae);(have aa:Sp (S,E)= {E with e:=8}:=by unfold Sp An;rw[kac ⟨O,U⟩,kac O]);unfold Dm;simp only[g1,g2,af];rw[ac];unfold Lk;rw[aa,kac (by exact(by decide:(8:Int)≠0))]
theorem KZ (row:List Bool)(u u1 u2 u3:US)(E G H:Nat)(g1:uget row 5 u=(E,u1))(g2:uget row 5 u1=(G,u2))(aa:uget row 4 u2=(H,u3))(O:u3.e=0)(I:286<E+257\/30<G+1):(Dm row u).2= {u3 with e:=8}:=Pc row u u1 u2 u3 E G H g1 g2 aa _ (by exact(by decide:(8:Int)≠0)) (by
 rw[kac I]
 have U:An 8 u3= {u3 with e:=8}:=by unfold An;rw[kac O]
 rw[U]
 exact Ku _ _ _ _ (by exact(by decide:(8:Int)≠0)))
def Ze1 (No:Nat->Prop)(B:Nat)(w:World)(b:Nat)(R f1 f2:Value)(A C:List Int)(v:US)(e:Ending)(w':World):Prop:=
 (v.e≠0/\e=Flt v.e/\Bl No B w w')\/ (v.e=0/\Rk No B w b R f1 f2 v w'/\Good A/\Good C/\∃g1 m1 b1 n1 g2 m2 b2 n2,e=.returned (.agg #[DV g1 m1,DV g2 m2])/\DIs w' g1 m1 b1 n1 b A/\DIs w' g2 m2 b2 n2 b C/\(w.heap.size<=g1/\w.heap.size<=m1/\w.heap.size<=b1)/\(w.heap.size<=g2/\w.heap.size<=m2/\w.heap.size<=b2))
theorem X0 {B:Nat}(h:IIs No B w b (.slice a n ac) E I u)(c7:Rd w No a n bs)(eu:u.p<=8*n)(aa:u.e=0)(cv:∀g,w.heap.size<=g->¬No g)(A C:List Int)(v:US)(cz:Hid (Dm (rowB bs n) u=((A,C),v))):Calls prog 252 #[.pointer (some ⟨b,0,none⟩)] w fun e w'=>Ze1 No B w b (.slice a n ac) E I A C v e w':=by
 have bm:=Af bs n;have fo:=h.lt;have cn:=Ab (Rk.refl h)
 have ep:Hid (∀wr:World,w.heap.size<=wr.heap.size->∀g,wr.heap.size<=g->¬NK No w.heap.size wr.heap.size g):=Ab (fun wr g4 g af e=>by
  rcases e with e|e
  . exact cv g om e
  . omega)
 have f7:=Ab cv;have a5:Hid (∀wr:World,Bl No B w wr->Rd wr (NJ No w.heap.size) a n bs/\Rd wr (NK No w.heap.size wr.heap.size) a n bs):=Ab (fun wr hb=>⟨(c7.keep hb.below.size hb.kp).wide (fun _ h=>.inl h),(c7.keep hb.below.size hb.kp).wide (fun _ h=>.inl h)⟩);obtain⟨m0,u1,aj⟩:∃r y,uget (rowB bs n) 5 u=(r,y):=⟨_,_,rfl⟩;obtain⟨n0,u2,ah⟩:∃r y,uget (rowB bs n) 5 u1=(r,y):=⟨_,_,rfl⟩;obtain⟨c0,u3,U⟩:∃r y,uget (rowB bs n) 4 u2=(r,y):=⟨_,_,rfl⟩;(have gi:u1.p<=8*n:=by have:=He (rowB bs n) 5 u om;rw[aj,bm]at this;exact this);(have e7:u2.p<=8*n:=by have:=He (rowB bs n) 5 u1 om;rw[ah,bm]at this;exact this);(have e6:u3.p<=8*n:=by have:=He (rowB bs n) 4 u2 om;rw[U,bm]at this;exact this);(have l1:m0<32:=by have:=Z39 (rowB bs n) 5 u;rw[aj]at this;exact this);(have l2:n0<32:=by have:=Z39 (rowB bs n) 5 u1;rw[ah]at this;exact this);(have gv:c0<16:=by have:=Z39 (rowB bs n) 4 u2;rw[U]at this;exact this);have b0:Hid (v=(Dm (rowB bs n) u).2):=Ab (by rw[Aa cz]);have b5:Hid (u3.e≠0->v=u3):=Ab (fun e=>by rw[Aa b0];exact KY (rowB bs n) u u1 u2 u3 m0 n0 c0 aj ah U e);have cm:Hid (u1.e≠0->u3=u1):=Ab (fun e=>by (have ae:u2=u1:=by have:=Fw (rowB bs n) 5 u1 e;rw[ah]at this;exact this);(have a7:u3=u2:=by have:=Fw (rowB bs n) 4 u2 (by rw[ae];exact e);rw[U]at this;exact this);rw[a7,ae]);have b9:Hid (u2.e≠0->u3=u2):=Ab (fun e=>by have:=Fw (rowB bs n) 4 u2 e;rw[U]at this;exact this);have cd:Hid (u3.e=0->(286<m0+257\/30<n0+1)->v= {u3 with e:=8}):=Ab (fun e fq=>by rw[Aa b0];exact KZ (rowB bs n) u u1 u2 u3 m0 n0 c0 aj ah U e fq);have dz:Hid (∀W,Rk No B w b (.slice a n ac) E I u W->Calls prog 230 #[.pointer (some ⟨b,0,none⟩),int i64 5] W fun e w'=>Got (NJ No w.heap.size) B W b (.slice a n ac) E I (int i64 (m0:Int)) u1 e w'):=Ab (fun W H=>Eg (NJ No w.heap.size) B b a n ac 5 bs E I u W H.is (a5 W H.bl).1 eu aa od m0 u1 (Ab aj));have dl:Hid (∀W,u1.e=0->Rk No B w b (.slice a n ac) E I u1 W->Calls prog 230 #[.pointer (some ⟨b,0,none⟩),int i64 5] W fun e w'=>Got (NJ No w.heap.size) B W b (.slice a n ac) E I (int i64 (n0:Int)) u2 e w'):=Ab (fun W aa H=>Eg (NJ No w.heap.size) B b a n ac 5 bs E I u1 W H.is (a5 W H.bl).1 gi aa od n0 u2 (Ab ah));have d5:Hid (∀W,u2.e=0->Rk No B w b (.slice a n ac) E I u2 W->Calls prog 230 #[.pointer (some ⟨b,0,none⟩),int i64 4] W fun e w'=>Got (NJ No w.heap.size) B W b (.slice a n ac) E I (int i64 (c0:Int)) u3 e w'):=Ab (fun W aa H=>Eg (NJ No w.heap.size) B b a n ac 4 bs E I u2 W H.is (a5 W H.bl).1 e7 aa od c0 u3 (Ab U));obtain⟨S,us,ak⟩:∃S us,usmall (rowB bs n) (ord19.take (c0+4)) (List.replicate 19 0) u3=(S,us):=⟨_,_,rfl⟩;have e4:Hid (∀W,u3.e=0->Rk No B w b (.slice a n ac) E I u3 W->Calls prog 272 #[.pointer (some ⟨b,0,none⟩),int i64 (4+(c0:Int))] W fun e w'=>Zcu (NK No w.heap.size W.heap.size) B W b (.slice a n ac) E I S us e w'):=Ab (fun W aa H=>by have:=Qb H.inner (a5 W H.bl).2 e6 aa (ep W H.bl.below.size) (c0+4) om S us (Ab ak);rw[show ((c0+4:Nat):Int)=4+(c0:Int) by omega]at this;exact this);(have dj:S.length=19:=by have:=Xk (row:=rowB bs n) (ks:=ord19.take (c0+4)) (s:=List.replicate 19 0) (u:=u3);rw[ak]at this;simpa using this);have dq:∀x∈S,0<=x/\x<=7:=by have:=Sm (rowx:=rowB bs n) (ord19.take (c0+4)) (List.replicate 19 0) u3 (by intro x au;rw[List.eq_of_mem_replicate au];decide);rw[ak]at this;exact this
 have ew:Hid (errL S≠0->errL S=8):=Ab (fun e=>by
  rcases FC S om (fun x au=>by have:=dq x au;omega)with h|h
  . exact absurd h e
  . exact h)
 have eb:Hid (286<m0+257\/30<n0+1\/ (us.e≠0->v=us)/\(us.e=0->errL S≠0->v= {us with e:=8})):=Ab (by
  by_cases ar:286<m0+257
  . exact .inl ar
  . by_cases ae:30<n0+1
    . exact .inr (.inl ae)
    . refine .inr (.inr ⟨fun e=> ?_,fun e1 e2=> ?_⟩)
      . rw[Aa b0]
        exact Pc (rowB bs n) u u1 u2 u3 m0 n0 c0 aj ah U us e (by rw[kab om,ak])
      . rw[Aa b0]
        exact QP (rowB bs n) u u1 u2 u3 us m0 n0 c0 S aj ah U om om ak e1 e2)
 obtain⟨L,v',ba⟩:∃L v',ulens (rowB bs n) S (m0+257+(n0+1)) (m0+257+(n0+1)) [] us=(L,v'):=⟨_,_,rfl⟩;obtain⟨tot,e9⟩:=exq (m0+257+(n0+1));have eh:Hid (∀W gr gm mb nn,us.e=0->errL S=0->Rk No B w b (.slice a n ac) E I us W->DIs W gr gm mb nn b S->w.heap.size<=gr->w.heap.size<=gm->w.heap.size<=mb->Calls prog 271 #[.pointer (some ⟨b,0,none⟩),DV gr gm,int i64 (257+(m0:Int)+(1+(n0:Int)))] W fun e w'=>(v'.e≠0/\e=Flt v'.e/\Bl (NK No w.heap.size W.heap.size) B W w')\/ (v'.e=0/\Rk (NK No w.heap.size W.heap.size) B W b (.slice a n ac) E I v' w'/\∃cy,e=.returned cy/\w'.ownsRow W.heap.size 3 1 cy L.length (iv L)/\L.length=tot)):=Ab (fun W gr gm mb nn aa fy H co ar ae a7=>by have r1:=co.lt;have r2:=co.is.lt;(have e5:us.p<=8*n:=by have:=(Zt (ks:=ord19.take (c0+4)) (s:=List.replicate 19 0) (row:=rowB bs n) (u:=u3) (by rw[ak];exact aa) om).2.1;rw[ak,bm]at this;exact this);have:=EG H.inner (a5 W H.bl).2 e5 aa (ep W H.bl.below.size) co (Cl fy) ⟨.inr ⟨ar,r1.1⟩,.inr ⟨ae,r1.2⟩,.inr ⟨a7,r2⟩⟩ dj tot om L v' (Ab (by rw[<-e9];exact ba));rw[show ((tot:Nat):Int)=257+(m0:Int)+(1+(n0:Int)) by omega]at this;exact this);have cg:Hid (m0+257<=286->n0+1<=30->us.e=0->errL S=0->Gy (m0+257) (L,v')=((A,C),v)):=Ab (fun ar ae a7 gj=>by rw[<-Aa cz,Z3m (rowB bs n) u u1 u2 u3 us m0 n0 c0 S aj ah U ar ae ak a7 gj,ba]);have dv:Hid (v'.e=0->∀x∈L,0<=x/\x<=15):=Ab (fun e=>by have:=Xn (rowx:=rowB bs n) (tot:=m0+257+(n0+1)) dj (m0+257+(n0+1)) [] us oS (by rw[ba];exact e);rw[ba]at this;exact this);clear h c7 eu aa cv aj ah U ak ba dq cz;go_enter func252,ntmps252;go_wp2_with fail;refine(dz _ (cn.past ((kaa _ _).alloc (VA _) _))).mono ?_;have cj:=Ab (cn.past ((kaa _ _).alloc (VA _) (.cells #[.nilFunc,.nilFunc] 282)));have dn:=cS;have ey:=Ab dn;have f8:w.heap.size<(w.alloc (.cells #[.nilFunc,.nilFunc] 282)).heap.size:=oS;clear dn;generalize w.alloc (.cells #[.nilFunc,.nilFunc] 282)=hh at*;rintro e ct af;(rcases af with ⟨e1,rfl,bk⟩|⟨e1,rfl,cp⟩);rotate_left;have O:Hid (v=u1):=Ab (by rw[Aa b5 (by rw[Aa cm e1];exact e1),Aa cm e1]);have ap:=Ab (cj.bl.trans (cp.weaken (fun _ h=>.inl h)));exact jC;have bq:=Ab (cj.num bk);have dp:Hid (ct.heap[w.heap.size]? =some (.cells #[.nilFunc,.nilFunc] 282 (0,0))):=Ab ((bk.kp _ f8 (.inr (VA _))).trans (Aa ey));(have f9:w.heap.size<ct.heap.size:=by have:=bk.below.size;omega);clear bk;go_wp2_with fail;refine(dl ct e1 bq).mono ?_;rintro e c8 af;(rcases af with ⟨e2,rfl,bw⟩|⟨e2,rfl,g8⟩);rotate_left;have O:Hid (v=u2):=Ab (by rw[Aa b5 (by rw[Aa b9 e2];exact e2),Aa b9 e2]);have ap:=Ab (bq.bl.trans (g8.weaken (fun _ h=>.inl h)));exact jD;have bd:=Ab (bq.num bw);have d6:Hid (c8.heap[w.heap.size]? =some (.cells #[.nilFunc,.nilFunc] 282 (0,0))):=Ab ((bw.kp _ f9 (.inr (VA _))).trans (Aa dp));(have fu:w.heap.size<c8.heap.size:=by have:=bw.below.size;omega);clear bw;go_wp2_with fail;refine(d5 c8 e2 bd).mono ?_;rintro e bi af;(rcases af with ⟨e3,rfl,bh⟩|⟨e3,rfl,di⟩);rotate_left;(. have O:Hid (v=u3):=Ab (b5 e3);have ap:=Ab (bd.bl.trans (di.weaken (fun _ h=>.inl h)));clear di;go_wp2;exact⟨rfl,.inl ⟨by rw[Aa O];exact e3,by rw[Aa O],ap⟩⟩);have k3:=Ab (bd.num bh);have dx:Hid (bi.heap[w.heap.size]? =some (.cells #[.nilFunc,.nilFunc] 282 (0,0))):=Ab ((bh.kp _ fu (.inr (VA _))).trans (Aa d6));(have db:w.heap.size<bi.heap.size:=by have:=bh.below.size;omega);clear bh;have ng:=Ab (Ci 8 bi);by_cases ar:286<m0+257;have O:Hid (v= {u3 with e:=8}):=Ab (cd e3 (.inl ar));have ff:(286:Int)<257+(m0:Int):=om;exact zE;have ff:¬(286:Int)<257+(m0:Int):=om;by_cases ae:30<n0+1;have O:Hid (v= {u3 with e:=8}):=Ab (cd e3 (.inr ae));have fw:(30:Int)<1+(n0:Int):=om;exact zE;have fw:¬(30:Int)<1+(n0:Int):=om
 have ck:Hid ((us.e≠0->v=us)/\(us.e=0->errL S≠0->v= {us with e:=8})):=Ab (by
  rcases Aa eb with h|h|h
  . exact absurd h ar
  . exact absurd h ae
  . exact h)
 clear ng eb cd b5 cm b9 dz dl d5;go_wp2_with fail;refine(e4 bi e3 k3).mono ?_;rintro e gw af;(rcases af with ⟨ao,rfl,a9⟩|⟨ao,az,rfl,a9⟩|⟨ao,az,bf,gr,gm,mb,nn,rfl,d1,a4,a8,ce,av⟩);(. have O:Hid (v=us):=Ab (ck.1 ao);have ap:=Ab (k3.bl.trans (a9.weaken (fun _ h=>.inl h)));clear a9;go_wp2;exact⟨rfl,.inl ⟨by rw[Aa O];exact ao,by rw[Aa O],ap⟩⟩);(. have O:Hid (v= {us with e:=8}):=Ab (ck.2 ao az);have ap:=Ab (k3.bl.trans (a9.weaken (fun _ h=>.inl h)));have fe:=Ab (ew az);clear a9;go_wp2;exact⟨rfl,.inl ⟨by rw[Aa O];exact(by decide:(8:Int)≠0),by rw[Aa O,Aa fe],ap⟩⟩);have bz:=Ab (k3.step bf);have dh:Hid (gw.heap[w.heap.size]? =some (.cells #[.nilFunc,.nilFunc] 282 (0,0))):=Ab ((bf.bl.kp _ db (.inr ⟨VA _,db⟩)).trans (Aa dx));(have et:w.heap.size<gw.heap.size:=by have:=bf.bl.below.size;omega);have dy:=Ab (eh gw gr gm mb nn ao az bz av om om om);clear bf d1 a4 a8 ce av eh e4 ck ew;go_wp2_with fail;refine dy.mono ?_;rintro e G af;(rcases af with ⟨ag,rfl,en⟩|⟨ag,bj,cy,rfl,a6,c9⟩);(. have O:Hid (v=v'):=Ab (by have:=Aa cg om om ao az;unfold Gy at this;rw[kac ag]at this;exact(VM this).2.symm);have ap:=Ab (bz.bl.trans (en.weaken (fun _ h=>.inl h)));clear en;go_wp2;exact⟨rfl,.inl ⟨by rw[Aa O];exact ag,by rw[Aa O],ap⟩⟩);have bu:=Ab (bz.step bj);have ft:Hid (G.heap[w.heap.size]? =some (.cells #[.nilFunc,.nilFunc] 282 (0,0))):=Ab ((bj.bl.kp _ et (.inr ⟨VA _,et⟩)).trans (Aa dh));(have du:w.heap.size<G.heap.size:=by have:=bj.bl.below.size;omega);rw[c9]at a6;obtain⟨al,a3,rfl,hk,eo⟩:=Ax a6 om;have gq:=Z4r a6;(have c6:Row .i64 G al 0 L:=by obtain⟨hf,hj,gh,ej,fi,_⟩:=C3 a6;cases gh;rcases fi with f5|⟨gu,g5,gg,_,U⟩;rw[f5]at ej;simp at ej;omega;. cases gg;exact U);have dt:=Ab c6;have ci:=Ab c9;(have f6:G.cell? ⟨al,256,none⟩=some (int i64 (L.getD 256 0)):=by have:=c6 256 om;rw[VY]at this;exact this);have cu:Hid (Gy (m0+257) (L,v')=((A,C),v)):=Ab (cg om om ao az);have d7:=Ab (dv ag);obtain⟨z,b7⟩:=exq (L.getD 256 0);rw[b7]at f6;have df:=Ab b7;clear bj a6 c6 b7 cg dv dy cj bq bd k3 bz dp d6 dx dh ey cn;have gy:(256:Int)<tot:=om;by_cases bg:z=0;(. have O:Hid (v= {v' with e:=8}):=Ab (by have:=Aa cu;unfold Gy at this;rw[kab (fun c=>c ag),kac (.inl ((Aa df).trans bg))]at this;rw[<-(VM this).2];unfold An;rw[kac ag]);have ng:=Ab (Ci 8 G);subst bg;go_wp2_with fail;refine ng.mono ?_;rintro e w6 ⟨rfl,rfl⟩;go_wp2;exact⟨rfl,.inl ⟨by rw[Aa O];exact(by decide:(8:Int)≠0),by rw[Aa O],bu.bl⟩⟩);(have hp:(z==0)=false:=by rw[kad];exact bg);obtain⟨m,hm⟩:=exq (m0+257);have ek:257+(m0:Int)=m:=om;have hg:m<=tot:=om;(have ei:(L.take m).length=m:=by rw[VL];have:=Aa ci;omega);(have da:(L.drop m).length=tot-m:=by rw[VR,Aa ci]);have fk:=Ab (fun q=>Mf b (some ⟨al,0,none⟩) m a3 (L.take m) (G.drewN q) ei om (.inr ⟨al,0,rfl,eo,fun j de=>by have:=Aa dt j (oh ci);(have e:(L.take m).getD j 0=L.getD j 0:=by simp only[List.getD];rw[XR om]);rw[e];exact this⟩));have e8:Hid (∀W,Below G.heap.size G W->Calls prog 270 #[.pointer (some ⟨b,0,none⟩),.slice (some ⟨al,m,none⟩) (tot-m) (a3-m)] W fun e w'=>Ze2 b (L.drop m) W e w'):=Ab (fun W d8=>Mf b (some ⟨al,m,none⟩) (tot-m) (a3-m) (L.drop m) W da om (.inr ⟨al,m,rfl,by have:=d8.size;omega,fun j de=>by (have gn:m+j<L.length:=by rw[VR]at de;omega);have:=Aa dt (m+j) gn;rw[VY]at this;(have e:(L.drop m).getD j 0=L.getD (m+j) 0:=by simp only[List.getD];rw[XL]);rw[e];exact(d8.cell (p:=⟨al,m+j,none⟩) eo).trans this⟩));have eg:Hid (errL (L.take m)≠0\/errL (L.drop m)≠0->v= {v' with e:=8}):=Ab (fun fx=>by have:=Aa cu;unfold Gy at this;rw[kab (fun c=>c ag),hm,kac (.inr fx)]at this;rw[<-(VM this).2];unfold An;rw[kac ag])
 have fp:Hid (errL (L.take m)=0->errL (L.drop m)=0->A=L.take m/\C=L.drop m/\v=v'):=Ab (fun f3 hc=>by
  have:=Aa cu
  unfold Gy at this
  rw[kab (fun c=>c ag),hm,kab (by
   rintro (c|c|c)
   . exact bg (df.symm.trans c)
   . exact c f3
   . exact c hc)]at this
  exact⟨(VM (VM this).1).1.symm,(VM (VM this).1).2.symm,(VM this).2.symm⟩)
 have dw:Hid ((errL (L.take m)≠0->errL (L.take m)=8)/\(errL (L.drop m)≠0->errL (L.drop m)=8)):=Ab (by
  constructor
  . intro e
    rcases FC (L.take m) om (fun x au=>Aa d7 x (VU au))with h|h
    . exact absurd h e
    . exact h
  . intro e
    rcases FC (L.drop m) om (fun x au=>Aa d7 x (WM au))with h|h
    . exact absurd h e
    . exact h)
 have gz:(m:Int)<=tot:=om;have ho:(m:Int)<=a3:=om;have g0:(tot:Int)<=a3:=om;have g9:¬a3=m:=om;rw[ek];clear ek;clear ei da;go_wp2;refine wp_region_any oR ?_;(try (change wpAny _ _ _ _ _ _ _ (World.drew _)));refine tvA 0 ?_;refine tvA 1 ?_;refine tvA 2 ?_;refine tvA 3 ?_;refine tvA 5 ?_;refine tvA 6 ?_;refine tvA 7 ?_;refine tvA 8 ?_;refine rdA 4 fun K hK=> ?_;go_simp;refine(fk _).mono ?_;rintro e w6 ⟨d9,fg⟩;have ax:Hid (Below G.heap.size G w6):=Ab ((Ae (kaa _ _) _).trans d9);clear d9;(rcases fg with ⟨d0,g1,m1,b1,n1,rfl,d1,a4,a8,ce,av⟩|⟨d0,rfl⟩);rotate_left;have O:Hid (v= {v' with e:=8}):=Ab (eg (.inl d0));rw[(Aa dw).1 d0];exact And.intro rfl (Or.inl ⟨by rw[Aa O];exact(by decide:(8:Int)≠0),by rw[Aa O],(bu.past ax).bl⟩);dsimp only;refine hK _ _ ?_;clear hK K;refine rdA 9 fun K hK=> ?_;go_simp;refine(e8 _ ax).mono ?_;rintro e bc ⟨cw,gd⟩;have bv:=Ab cw;have c5:Hid (Below G.heap.size G bc):=Ab (ax.trans (cw.mono ax.size));clear cw;(rcases gd with ⟨aw,g2,m2,b2,n2,rfl,x1,x2,x3,x4,bn⟩|⟨aw,rfl⟩);rotate_left;have O:Hid (v= {v' with e:=8}):=Ab (eg (.inr aw));rw[(Aa dw).2 aw];exact And.intro rfl (Or.inl ⟨by rw[Aa O];exact(by decide:(8:Int)≠0),by rw[Aa O],(bu.past c5).bl⟩);dsimp only;refine hK _ _ ?_;clear hK K;refine rjA 10 ?_;refine rdA 11 fun K hK=> ?_;have b8:bc.heap[w.heap.size]? =some (.cells #[.nilFunc,.nilFunc] 282 (0,0)):=(c5.block _ du).trans (Aa ft);refine Wg rfl 282 (.tmp 2) (.tmp 46) rfl w.heap.size #[DV g1 m1,DV g2 m2] _ rfl rfl b8 Gf rfl qAD ?_;refine hK _ _ ?_;clear hK K;refine wpAny_done oR ?_ _;simp only[Act.put,VE,VH,VJ];obtain⟨ay,bo⟩:=exq (bc.setRow w.heap.size #[DV g1 m1,DV g2 m2]);(have fj:ay.heap[w.heap.size]? =some (.cells #[DV g1 m1,DV g2 m2] 282 (0,0)):=by rw[<-bo];exact ka9 _ _ _ _ _ _ b8);(have ai:bc.grownBy ay (some w.heap.size):=by rw[<-bo];exact Ql _ _ _);have ed:Hid (Rk No B w b (.slice a n ac) E I v' ay):=Ab ((bu.past c5).aside ai (fun g e=>by cases e;exact VA _) (Aa f7) fo);have dm:Hid (DIs ay g1 m1 b1 n1 b (L.take m)):=Ab (by have bb:=av.lt;have cq:=av.is.lt;have f4:=bv.size;refine(av.keep f4 (bv.block g1 bb.1) (bv.block m1 bb.2) (bv.block b1 cq)).keep ai.size (ai.block g1 om ?_) (ai.block m1 om ?_) (ai.block b1 om ?_)<;>(intro e;have:=VK e;have hs5:=du;have g7:G.heap.size<=g1:=d1;have ha:G.heap.size<=m1:=a4;have gx:G.heap.size<=b1:=a8;omega));have em:Hid (DIs ay g2 m2 b2 n2 b (L.drop m)):=Ab (by have bb:=bn.lt;have cq:=bn.is.lt;have fh:=ax.size;refine bn.keep ai.size (ai.block g2 bb.1 ?_) (ai.block m2 bb.2 ?_) (ai.block b2 cq ?_)<;>(intro e;have:=VK e;omega));have O:Hid (Ze1 No B w b (.slice a n ac) E I A C v (.returned (.agg #[DV g1 m1,DV g2 m2])) ay):=Ab (by obtain⟨r1,r2,ee⟩:=Aa fp d0 aw;have fh:=ax.size;(have e1:w.heap.size<=g1:=by have d':G.heap.size<=g1:=d1;omega);(have e2:w.heap.size<=m1:=by have d':G.heap.size<=m1:=a4;omega);(have e3:w.heap.size<=b1:=by have d':G.heap.size<=b1:=a8;omega);refine .inr ⟨by rw[ee];exact ag,by rw[ee];exact Aa ed,by rw[r1];exact Cl d0,by rw[r2];exact Cl aw,g1,m1,b1,n1,g2,m2,b2,n2,rfl,by rw[r1];exact Aa dm,by rw[r2];exact Aa em,⟨e1,e2,e3⟩,⟨om,om,om⟩⟩);rw[bo];clear bo ai d0 d1 a4 a8 ce av aw x1 x2 x3 x4 bn dm em ed b8;go_wp2;refine kal (v:=.agg #[DV g1 m1,DV g2 m2]) ?_ rfl O;exact kav rfl _ _ w.heap.size _ _ _ _ qAH fj underlying282 rfl Gf
def Fx (No:Nat->Prop)(w:World)(b:Nat)(f1 f2:Value):Prop:=
 (f1=.nilFunc/\f2=.nilFunc)\/∃g1 m1 b1 n1 g2 m2 b2 n2,f1=DV g1 m1/\f2=DV g2 m2/\DIs w g1 m1 b1 n1 b Pu/\DIs w g2 m2 b2 n2 b Lj/\(No g1/\No m1/\No b1)/\(No g2/\No m2/\No b2)
theorem Fx.keep (h:Fx No w b E I)(ae:w.heap.size<=w'.heap.size)(G:Kp No w w'):Fx No w' b E I:=by rcases h with h|⟨g1,m1,b1,n1,g2,m2,b2,n2,e1,e2,d1,H,⟨a1,a2,ac⟩,⟨c1,c2,aa⟩⟩;exact .inl h;have U:=d1.lt;have af:=d1.is.lt;have O:=H.lt;have ag:=H.is.lt;exact .inr ⟨g1,m1,b1,n1,g2,m2,b2,n2,e1,e2,d1.keep ae (G g1 U.1 a1) (G m1 U.2 a2) (G b1 af ac),H.keep ae (G g2 O.1 c1) (G m2 O.2 c2) (G b2 ag aa),⟨a1,a2,ac⟩,⟨c1,c2,aa⟩⟩
def Zco (No:Nat->Prop)(B:Nat)(w:World)(b:Nat)(R:Value)(u:US)(e:Ending)(w':World):Prop:=
 ∃No' g1 m1 b1 n1 g2 m2 b2 n2,(∀g,No g->No' g)/\(∀g,w'.heap.size<=g->¬No' g)/\e=.returned (.agg #[DV g1 m1,DV g2 m2])/\IIs No' B w' b R (DV g1 m1) (DV g2 m2) u/\DIs w' g1 m1 b1 n1 b Pu/\DIs w' g2 m2 b2 n2 b Lj/\(No' g1/\No' m1/\No' b1)/\(No' g2/\No' m2/\No' b2)/\Bl No B w w'
theorem IIs.cells45 {B:Nat}(h:IIs No B w b R E I u):w.cell? ⟨b,4,none⟩=some E/\w.cell? ⟨b,5,none⟩=some I/\∀j,w.frozen? ⟨b,j,none⟩=false:=by exact vY
theorem G1 {B:Nat}(h:IIs No B w b R (DV g1 ac) (DV g2 G) u)(I:DIs w g1 ac aa ak b Pu)(H:DIs w g2 G ai ar b Lj)(aj:No g1/\No ac/\No aa)(al:No g2/\No G/\No ai)(U:∀g,w.heap.size<=g->¬No g):Calls prog 251 #[.pointer (some ⟨b,0,none⟩)] w fun e w'=>Zco No B w b R u e w':=by have aw:=h.lt;have a4:=h.base;obtain⟨az,a3,_⟩:=h.cells45;have av:Hid (∀w',Below w.heap.size w w'->Zco No B w b R u (.returned (.agg #[DV g1 ac,DV g2 G])) w'):=Ab (fun w' E=>by have ag:=E.size;have af:=I.lt;have ao:=I.is.lt;have O:=H.lt;have au:=H.is.lt;exact⟨No,g1,ac,aa,ak,g2,G,ai,ar,fun _ h=>h,fun g ay=>U g om,rfl,h.past E,I.keep ag (E.block g1 af.1) (E.block ac af.2) (E.block aa ao),H.keep ag (E.block g2 O.1) (E.block G O.2) (E.block ai au),aj,al,Zcl E om⟩);clear h I H aj al U;(have ax:∀W:World,(binOp .eql 259 (DV g1 ac) .nilFunc).run prog W=.ok (.bool false) W:=fun W=>by first|rfl|kernel_rfl);go_enter func251,ntmps251;have ae:=cS;have ah:=Ab ae;have ap:Hid (Below w.heap.size w ((w.alloc (.cells #[.nilFunc,.nilFunc] 282)).setRow w.heap.size #[DV g1 ac,DV g2 G])):=Ab (Az ((kaa w.heap.size w).alloc (VA _) _) (VA _) _);clear ae;go_wp2_with (refine kay rfl 282 (.tmp 2) (.tmp 28) rfl w.heap.size #[DV g1 ac,DV g2 G] rfl rfl 282 #[.nilFunc,.nilFunc] ah Gf rfl qAD ?_);refine kal (v:=.agg #[DV g1 ac,DV g2 G]) ?_ rfl (av _ ap);exact kav rfl _ _ w.heap.size _ _ _ _ qAH (ka9 _ _ _ _ _ _ ah) underlying282 rfl Gf
theorem AM {B:Nat}(h:IIs No B w b R .nilFunc .nilFunc u)(bw:∀g,w.heap.size<=g->¬No g):Calls prog 251 #[.pointer (some ⟨b,0,none⟩)] w fun e w'=>Zco No B w b R u e w':=by
 have cv:=h.lt;have di:=h.base;obtain⟨du,dy,dp⟩:=h.cells45;(have dm:∀W:World,(binOp .eql 259 .nilFunc .nilFunc).run prog W=.ok (.bool true) W:=fun W=>by first|rfl|kernel_rfl);have c6:=Ab (Rk.refl h);have bz:=Ab bw;obtain⟨bv,ay⟩:=exq (Pu);obtain⟨ix,az⟩:=exq (Lj);have g4:=Nz;have j6:=Fz;have aw:=Ob;have a9:=Ny;have bi:=Ab (fun W=>AK W);simp only[ay,az]at bi g4 j6 aw a9;obtain⟨cj,ci,db,c8⟩:=ydD aw a9 ay az;have bg:=cS;have c9:=Ab bg;have cw:Hid (Below w.heap.size w (w.alloc (.cells #[.nilFunc,.nilFunc] 282))):=Ab ((kaa w.heap.size w).alloc (VA _) _);clear h bw ay az aw a9 bg;have ck:=dL;have cd:=nK;go_enter func251,ntmps251;go_wp2_with fail;refine(bi _).mono ?_;rintro e au ⟨rfl,af⟩;have df:=af.size;simp only[kaf]at df;have c5:Hid (Below w.heap.size w au):=Ab (cw.trans (af.mono oS));have cn:Hid (au.heap[w.heap.size]? =some (.cells #[.nilFunc,.nilFunc] 282 (0,0))):=Ab ((af.block _ oS).trans (Aa c9));clear af;have bb:=cY;have b0:(((au.alloc (.cells (iv (List.replicate 288 0)).toArray 247)).alloc (.cells (iv (List.replicate 32 0)).toArray 248)).setRow au.heap.size (iv bv).toArray).heap[au.heap.size+1]? =some (.cells (iv (List.replicate 32 0)).toArray 248 (0,0)):=kF;obtain⟨bc,bj,b5⟩:=ydC bb b0 (fun x y=>Kw au au x y 247 248 bv ix (kaa _ _) oS);clear bb b0;go_upto_region 3 with (first|refine kay rfl 247 (.tmp 3) (.tmp 13) rfl au.heap.size _ rfl rfl 247 (iv (List.replicate 288 0)).toArray bc ck (by simp[g4]) (Dj bv) ?_|refine kay rfl 248 (.tmp 4) (.tmp 14) rfl (au.heap.size+1) _ rfl rfl 248 (iv (List.replicate 32 0)).toArray bj cd (by simp[j6]) (Dj ix) ?_);simp only[Act.put];generalize hw:World.setRow (World.setRow (World.alloc (World.alloc _ _) _) _ _) _ _=W2;have G:=sG;have H:=rE;(have O:Below au.heap.size au W2:=by rw[<-hw];exact(b5 _ _).2.2);clear hw b5 bc bj;have dq:=O.size;have cz:Hid (Rk No B w b R .nilFunc .nilFunc u W2):=Ab (c6.past (c5.trans (O.mono om)));have cp:Hid (W2.heap[w.heap.size]? =some (.cells #[.nilFunc,.nilFunc] 282 (0,0))):=Ab ((O.block _ om).trans (Aa cn));have cu:=Ab (fun k=>Pz b (some ⟨au.heap.size,0,none⟩) 288 288 (W2.drewN k) g4 (.inr ⟨_,0,rfl,G.lt,G.row⟩) cj);have b8:Hid (∀W,Below W2.heap.size W2 W->Calls prog 270 #[.pointer (some ⟨b,0,none⟩),.slice (some ⟨au.heap.size+1,0,none⟩) 32 32] W fun e w'=>∃gr gm mb nn,e=.returned (DV gr gm)/\W.heap.size<=gr/\W.heap.size<=gm/\W.heap.size<=mb/\mb<w'.heap.size/\DIs w' gr gm mb nn b ix/\Below W.heap.size W w'):=Ab (fun W bk=>Pz b (some ⟨au.heap.size+1,0,none⟩) 32 32 W j6 (.inr ⟨_,0,rfl,(H.keep (bk.block _ H.lt)).lt,(H.keep (bk.block _ H.lt)).row⟩) ci);clear G H O;refine wp_region_any oR ?_;(try (change wpAny _ _ _ _ _ _ _ (World.drew _)));refine tvA 0 ?_;refine tvA 1 ?_;refine tvA 2 ?_;refine tvA 4 ?_;refine tvA 5 ?_;refine rdA 3 fun K hK=> ?_;go_simp;refine(cu _).mono ?_;rintro e w6 ⟨g1,m1,b1,n1,rfl,d1,ba,bd,ct,ar,bm⟩;have ah:Hid (Below W2.heap.size W2 w6):=Ab ((Ae (kaa _ _) _).trans bm);clear bm;dsimp only;refine hK _ _ ?_;clear hK K;refine rdA 6 fun K hK=> ?_;go_simp;refine(b8 _ ah).mono ?_;rintro e E ⟨g2,m2,b2,n2,rfl,x1,x2,x3,x4,ak,a8⟩;have ap:=Ab a8;have a7:Hid (Below W2.heap.size W2 E):=Ab (ah.trans (a8.mono ah.size));clear a8;dsimp only;refine hK _ _ ?_;clear hK K;refine rjA 7 ?_;refine rjA 8 ?_;refine rjA 9 ?_;have a5:=cz.past a7;have bu:=Ab a5;obtain⟨b9,cm,ax⟩:=a5.is.cells45;have c7:=ax 4;have cq:=ax 5;clear a5;refine rjA 10 ?_;refine wpAny_done oR ?_ _;obtain⟨aa,ac⟩:=exq ((E.setCell ⟨b,4,none⟩ (DV g1 m1)).setCell ⟨b,5,none⟩ (DV g2 m2));have ae:=bu.is.set (g1:=DV g1 m1) (g2:=.nilFunc) 4 (DV g1 m1) u rfl rfl (fun _ _=>rfl);have al:=ae.is.set (g1:=DV g1 m1) (g2:=DV g2 m2) 5 (DV g2 m2) u rfl rfl (fun _ _=>rfl);have dt:=a7.size;(have a6:Rk No B w b R (DV g1 m1) (DV g2 m2) u aa:=by rw[<-ac];exact⟨al.is,bu.bl.trans ((ae.bl.trans al.bl).weaken (fun _ h=>.inl h))⟩);(have a4:∀g,g≠b->aa.heap[g]? =E.heap[g]? :=fun g a3=>by rw[<-ac];by_cases bf:g<E.heap.size;have de:=(Ad E b 4 (DV g1 m1)).block g bf (fun e=>a3 (VK e));have da:=(Ad (E.setCell ⟨b,4,none⟩ (DV g1 m1)) b 5 (DV g2 m2)).block g (VC bf ae.below.size) (fun e=>a3 (VK e));exact da.trans de;have dn:((E.setCell ⟨b,4,none⟩ (DV g1 m1)).setCell ⟨b,5,none⟩ (DV g2 m2)).heap.size=E.heap.size:=oS;rw[XY om,XY om]);(have dj:E.heap.size<=aa.heap.size:=by rw[<-ac];exact WJ ae.below.size al.below.size);obtain⟨dz,dx,_⟩:=a6.is.cells45;have bq:Hid (aa.heap[w.heap.size]? =some (.cells #[.nilFunc,.nilFunc] 282 (0,0))):=Ab ((a4 _ om).trans ((a7.block _ om).trans (Aa cp)));obtain⟨I,ag⟩:=exq (aa.setRow w.heap.size #[DV g1 m1,DV g2 m2]);(have av:aa.grownBy I (some w.heap.size):=by rw[<-ag];exact Ql _ _ _);have ce:Hid (I.heap[w.heap.size]? =some (.cells #[DV g1 m1,DV g2 m2] 282 (0,0))):=Ab (by rw[<-ag];exact ka9 _ _ _ _ _ _ bq);have aj:Rk No B w b R (DV g1 m1) (DV g2 m2) u I:=a6.aside av (fun g e=>by cases e;exact VA _) bz cv;have dv:=av.size;have dh:=ah.size;have bn:W2.heap.size<=g1:=d1;have bo:W2.heap.size<=m1:=ba;have bh:W2.heap.size<=b1:=bd;have U:∀g,W2.heap.size<=g->g<E.heap.size->I.heap[g]? =E.heap[g]? :=fun g dw dl=>(av.block g om (fun e=>by have:=VK e;omega)).trans (a4 g om);(have ai:DIs I g1 m1 b1 n1 b bv:=by have G:=ar.lt;have H:=ar.is.lt;have cg:=ap.size;exact(ar.keep cg (ap.block g1 G.1) (ap.block m1 G.2) (ap.block b1 H)).keep om (U g1 bn om) (U m1 bo om) (U b1 bh om));have ao:DIs I g2 m2 b2 n2 b ix:=by have G:=ak.lt;have H:=ak.is.lt;exact ak.keep om (U g2 om G.1) (U m2 om G.2) (U b2 om H)
 have co:Hid (Zco No B w b R u (.returned (.agg #[DV g1 m1,DV g2 m2])) I):=Ab (by
  have G:=ai.lt
  have H:=ai.is.lt
  have O:=ao.lt
  have cy:=ao.is.lt
  refine⟨NK No w.heap.size I.heap.size,g1,m1,b1,n1,g2,m2,b2,n2,fun _ h=>.inl h,fun g a3 e=> ?_,rfl,aj.inner,by rw[Aa db];exact ai,by rw[Aa c8];exact ao,⟨.inr ⟨om,G.1⟩,.inr ⟨om,G.2⟩,.inr ⟨om,H⟩⟩,⟨.inr ⟨om,O.1⟩,.inr ⟨om,O.2⟩,.inr ⟨om,cy⟩⟩,aj.bl⟩
  rcases e with e|e
  . exact bz g (oI aj.bl.below.size) e
  . omega)
 clear ai ao U bn bo bh aj av a4 a6 ae al d1 ba bd ct ar x1 x2 x3 x4 ak b9 cm ax c7 cq;have b7:=Ab ag;clear ag;change Exit.then _ _ Exit.normal _ ((E.setCell ⟨b,4,none⟩ (DV g1 m1)).setCell ⟨b,5,none⟩ (DV g2 m2));rw[ac];clear ac;go_wp2_with (refine kay rfl 282 (.tmp 2) (.tmp 28) rfl w.heap.size #[DV g1 m1,DV g2 m2] rfl rfl 282 #[.nilFunc,.nilFunc] bq Gf rfl qAD ?_);rw[Aa b7];refine kal (v:=.agg #[DV g1 m1,DV g2 m2]) ?_ rfl co;exact kav rfl _ _ w.heap.size _ _ _ _ qAH ce underlying282 rfl Gf
theorem Wy {B:Nat}(h:IIs No B w b R E I u)(O:Fx No w b E I)(G:∀g,w.heap.size<=g->¬No g):Calls prog 251 #[.pointer (some ⟨b,0,none⟩)] w fun e w'=>Zco No B w b R u e w':=by(rcases O with ⟨rfl,rfl⟩|⟨g1,m1,b1,n1,g2,m2,b2,n2,rfl,rfl,d1,H,a1,a2⟩);exact AM h G;exact G1 h d1 H a1 a2 G
def Bk (No:Nat->Prop)(B:Nat)(w0:World)(b:Nat)(R:Value)(u:US)(w:World):Prop:=
 ∃No' f1 f2,(∀g,No g->No' g)/\(∀g,w.heap.size<=g->¬No' g)/\IIs No' B w b R f1 f2 u/\Fx No' w b f1 f2/\Bl No B w0 w
def Z38 (No:Nat->Prop)(B:Nat)(w0:World)(b:Nat)(R:Value)(V:US)(e:Ending)(w':World):Prop:=
 (V.e=0/\e=.returned (.tuple #[])/\Bk No B w0 b R V w')\/ (V.e≠0/\e=Flt V.e/\Bl No B w0 w')
theorem Bl.outer {B:Nat}(h:Bl No B O w)(k:Bl No' B w w')(E:∀g,No g->No' g):Bl No B O w':=h.trans (k.weaken E)
theorem PY {B:Nat}(h:Bk No B O b (.slice a n ac) u w)(ae:Rd w No a n bs)(G:u.p<=8*n)(aa:u.e=0)(U:u.out.length<=3000)(H:u.ks.length<=48000):Calls prog 231 #[.pointer (some ⟨b,0,none⟩),int i64 0] w fun e w'=>Z38 No B O b (.slice a n ac) (Ed (rowB bs n) 0 u) e w':=by obtain⟨No',f1,f2,hn,d8,E,rh,I⟩:=h;have ag:Ed (rowB bs n) 0 u=(if (Cn (rowB bs n) u).e=0 then ukept 0 (Cn (rowB bs n) u)else Cn (rowB bs n) u):=rfl;rw[ag];refine(Vs E (ae.wide hn) G aa U H d8 E.base _ (Ab rfl)).mono ?_;rintro e w' (⟨e0,rfl,ep⟩|⟨e0,rfl,ah⟩);exact kM;exact .inr ⟨e0,rfl,I.outer ah hn⟩
theorem PV {B:Nat}(k:Nat)(row:List Bool)(h:Bk No B O b R u w)(ae:3<=k)(af:k<4):Calls prog 231 #[.pointer (some ⟨b,0,none⟩),int i64 (k:Int)] w fun e w'=>Z38 No B O b R (Ed row k u) e w':=by obtain rfl:k=3:=om;obtain⟨No',f1,f2,hn,ag,I,aa,G⟩:=h;have U:=Ab G;have E:Hid (Ed row 3 u= {u with e:=4}):=Ab rfl;obtain⟨V,H⟩:=exq (Ed row 3 u);rw[H]at E ⊢;clear I aa G H;go_enter func231,ntmps231;go_wp2_with fail;refine(Ci 4 w).mono ?_;rintro e ac ⟨rfl,rfl⟩;go_wp2;exact⟨rfl,.inr ⟨by rw[Aa E];exact(by decide:(4:Int)≠0),by rw[Aa E],U⟩⟩
theorem PX {B:Nat}(h:Bk No B O b (.slice a n ac) u w)(bo:Rd w No a n bs)(bk:u.p<=8*n)(bh:u.e=0)(ap:u.out.length<=3000)(a7:u.ks.length<=48000):Calls prog 231 #[.pointer (some ⟨b,0,none⟩),int i64 1] w fun e w'=>Z38 No B O b (.slice a n ac) (Ed (rowB bs n) 1 u) e w':=by have ce:=Af bs n;obtain⟨No',f1,f2,hn,bi,bm,a9,bb⟩:=h;obtain⟨b9,co,b5,ct,ck⟩:=kas Ce;obtain⟨V,ag⟩:=exq (Hz (rowB bs n) Pu Lj (8*n+1) u);obtain⟨X,ao⟩:=exq (Ed (rowB bs n) 1 u);have dl:Hid ((if V.e=0 then ukept 1 V else V)=X):=Ab (by rw[<-ao,<-ag,<-ce];rfl);rw[ao];have cp:Hid (V.e=0->V.ks.length<=48000):=Ab (fun e=>by have:=(Kf (rowB bs n) Pu Lj (8*n+1) u om ap (by rw[ag];exact e)).ks;rw[ag]at this;rw[this];exact a7);obtain⟨cz,b8,bj,af,a3,c5⟩:=ydF (Wy bm a9 bi) (bo.wide hn) bb hn (And.intro bk (And.intro bh ap)) ag;clear bm a9 bb bo bk bh ap a7 bi ag ao hn;go_enter func231,ntmps231;go_wp2_with fail;refine cz.mono ?_;rintro e aj ⟨ae,g1,m1,b1,n1,g2,m2,b2,n2,I,ak,rfl,a5,ax,ar,aw,au,H⟩;obtain⟨U,az⟩:=exq (DV g1 m1);obtain⟨aa,a4⟩:=exq (DV g2 m2);have bv:=Ab (Xu B ac U aa u (by rw[<-az,<-a4];exact a5) ((b8.keep H.below.size H.kp).wide I) a3.1 a3.2.1 a3.2.2 ax Z1j aw ar Z1i au ak c5);have cw:Hid (∀Y w',IUp ae B aj b (.slice a n ac) U aa Y w'->Bk No B O b (.slice a n ac) Y w'):=Ab (fun Y w' G=>⟨ae,U,aa,fun g E=>I g (af g E),fun g E=>ak g (WJ G.below.size E),G.is,by have:Fx ae aj b U aa:=.inr ⟨g1,m1,b1,n1,g2,m2,b2,n2,az.symm,a4.symm,ax,ar,aw,au⟩;exact this.keep G.below.size G.kp,(bj.outer H af).outer G.bl (fun g E=>I g (af g E))⟩);have jj:Hid (∀w',Bl ae B aj w'->Bl No B O w'):=Ab (fun w' hb=>(bj.outer H af).outer hb (fun g E=>I g (af g E)));have cj:=Ab ak;clear I ak a5 ax ar aw au H az a4;go_wp2_with fail;refine bv.mono ?_;rintro e ci E;(rcases E with ⟨e0,rfl,ah⟩|⟨e0,rfl,il⟩);rotate_left;exact zA;have ie:Hid (X= {V with ks:=V.ks++ [1]}):=Ab (by rw[<-Aa dl,kac e0];rfl);have bz:=ah.below.size;have al:=ah.is;have c8:=al.lt;obtain⟨dh,db,bq,da,bd,ba,av,bc,bf,bg⟩:=al.rows;obtain⟨L,ay⟩:=exq (V.ks.length);have ai:=av;have bu:=Aa cp e0;rw[ay]at ai bu;obtain⟨dj,c6,rfl⟩:=Am ai;obtain⟨cn,a6,b7,cg,cq,bw,cd,b0,ed,cy⟩:=ydJ ai al bd ba av bc bf bg ay ah;clear ah al bd ba av bc bf bg ai ay bq;go_wp2_with (at_builtin;refine kao _ rfl _ _ 76 rfl (b+1) 3 b9 (int i64 0) 1 8 underlying76 co b5 ct ck rfl od _ L (i64s V.ks) rfl (cn.alloc _) ⟨ci.heap.size,0,none⟩ 1 1 [int i64 ((1:Nat):Int)] rfl rfl (kbd _ _ _) (Df rfl) ou om oO ?_);intro v' di e6 bn _ ia;obtain⟨de,c7,cu,_,_⟩:=Ax e6 om;obtain⟨c9,df,a8⟩:=IIs.kept (c:=1) (v':=v') a6.base a6.no b7 cg cq bw cd b0 (fun g E=>Aa cj g (WJ bz E)) uO bn qAZ;have cv:=Ab (cy.trans a8);have cm:Hid (∀w',IUp ae B aj b (.slice a n ac) U aa {V with ks:=V.ks++ [1]} w'->Z38 No B O b (.slice a n ac) X (.returned (.tuple #[])) w'):=Ab (fun w' G=>.inl ⟨by rw[Aa ie];exact e0,rfl,by rw[Aa ie];exact Aa cw _ w' G⟩);subst cu;clear a8 e6 bn ia;go_wp2;go_end0;exact cm _ cv
theorem PW {B:Nat}(h:Bk No B O b (.slice a n ac) u w)(bd:Rd w No a n bs)(ck:u.p<=8*n)(ce:u.e=0)(bj:u.out.length<=3000)(bo:u.ks.length<=48000):Calls prog 231 #[.pointer (some ⟨b,0,none⟩),int i64 2] w fun e w'=>Z38 No B O b (.slice a n ac) (Ed (rowB bs n) 2 u) e w':=by
 have bv:=Af bs n;obtain⟨No',ai,aj,hn,ba,cm,bu,bz⟩:=h;obtain⟨c6,di,cy,du,de⟩:=kas Ce;obtain⟨A,C,x,ag⟩:∃A C x,Dm (rowB bs n) u=((A,C),x):=⟨_,_,_,rfl⟩;obtain⟨V,ak⟩:=exq (Hz (rowB bs n) A C (8*n+1) x);obtain⟨X,az⟩:=exq (Ed (rowB bs n) 2 u);(have b9:X=if x.e≠0 then x else (if V.e=0 then ukept 2 V else V):=by rw[<-az,<-ak,<-bv];show (if (Dm (rowB bs n) u).2.e≠0 then (Dm (rowB bs n) u).2 else Kg 2 (Hz (rowB bs n) (Dm (rowB bs n) u).1.1 (Dm (rowB bs n) u).1.2 ((rowB bs n).length+1) (Dm (rowB bs n) u).2))=_;rw[ag];rfl);rw[az];have cj:=Ab b9;have bm:Hid (x.e=0->Ahd (rowB bs n) u x):=Ab (fun e=>by have:=Sk (rowB bs n) u om bj (by rw[ag];exact e);rw[ag]at this;exact this);have aw:Hid (V.e=0->x.e=0->V.ks.length<=48000):=Ab (fun e e2=>by have q:=Aa bm e2;have:=(Kf (rowB bs n) A C (8*n+1) x q.le q.out (by rw[ak];exact e)).ks;rw[ak]at this;rw[this,q.ks];exact bo);obtain⟨cv,c5,bc,af,mj,dm,dz⟩:=ydG (X0 cm (bd.wide hn) ck ce ba A C x (Ab ag)) (bd.wide hn) bz hn ba bu ak;clear cm bu bz bd ck ce bj bo ba ak az hn ag b9;go_enter func231,ntmps231;go_wp2_with fail;refine cv.mono ?_;rintro e aa E;(rcases E with ⟨ex,rfl,ci⟩|⟨ex,H,bf,bn,g1,m1,b1,n1,g2,m2,b2,n2,rfl,av,al,au,ao⟩);(. have ie:Hid (X=x):=Ab (by rw[Aa cj,kac ex]);have pz:=Ab (bc.outer ci af);clear ci;go_wp2;exact⟨rfl,.inr ⟨by rw[Aa ie];exact ex,by rw[Aa ie],pz⟩⟩);have dl:Hid ((if V.e=0 then ukept 2 V else V)=X):=Ab (by have:=Aa cj;rw[kab (show ¬x.e≠0 from fun c=>c ex)]at this;exact this.symm);have bb:=Aa bm ex;have a9:=bb.le;rw[bv]at a9;have bi:=Ab (fun e=>Aa aw e ex);clear aw;have aw:=bi;clear bi;obtain⟨I,ah⟩:=exq (NK No' w.heap.size aa.heap.size);(have G:∀g,No' g->I g:=fun g E=>by rw[<-ah];exact .inl E);(have ax:∀g,aa.heap.size<=g->¬I g:=fun g E e=>by rw[<-ah]at e;have:=H.bl.below.size;exact jL);(have ae:∀g,w.heap.size<=g->g<aa.heap.size->I g:=fun g dq da=>by rw[<-ah];exact .inr ⟨dq,da⟩);(have bg:IIs I B aa b (.slice a n ac) ai aj x:=by rw[<-ah];exact H.inner);have a7:=av.lt;have cg:=av.is.lt;have a8:=al.lt;have b5:=al.is.lt;have cq:=Ab (Xu B ac ai aj x bg ((c5.keep H.bl.below.size H.bl.kp).wide G) a9 ex bb.out av bf ⟨ae _ au.1 a7.1,ae _ au.2.1 a7.2,ae _ au.2.2 cg⟩ al bn ⟨ae _ ao.1 a8.1,ae _ ao.2.1 a8.2,ae _ ao.2.2 b5⟩ ax dz)
 have dx:Hid (∀Y w',IUp I B aa b (.slice a n ac) ai aj Y w'->Bk No B O b (.slice a n ac) Y w'):=Ab (fun Y w' U=>⟨I,ai,aj,fun g E=>G g (af g E),fun g E=>ax g (WJ U.below.size E),U.is,by
  have f1:=dm.keep H.bl.below.size H.bl.kp
  have f2:=f1.keep U.below.size (U.kp.weaken G)
  rcases f2 with f2|⟨g1,m1,b1,n1,g2,m2,b2,n2,dp,dj,bh,dw,a6,a3⟩
  . exact .inl f2
  . exact .inr ⟨g1,m1,b1,n1,g2,m2,b2,n2,dp,dj,bh,dw,⟨G _ a6.1,G _ a6.2.1,G _ a6.2.2⟩,⟨G _ a3.1,G _ a3.2.1,G _ a3.2.2⟩⟩,(bc.outer H.bl af).outer U.bl (fun g E=>G g (af g E))⟩)
 have jj:Hid (∀w',Bl I B aa w'->Bl No B O w'):=Ab (fun w' hb=>(bc.outer H.bl af).outer hb (fun g E=>G g (af g E)));have db:=Ab ax;clear G ax bg av al au ao H ah ae a7 cg a8 b5 bb a9 bf bn;go_wp2_with fail;refine cq.mono ?_;rintro e c9 E;(rcases E with ⟨e0,rfl,ap⟩|⟨e0,rfl,il⟩);rotate_left;exact zA;have ie:Hid (X= {V with ks:=V.ks++ [2]}):=Ab (by rw[<-Aa dl,kac e0];rfl);have cu:=ap.below.size;have ay:=ap.is;have d7:=ay.lt;obtain⟨eg,d9,co,d8,b7,bw,a4,b0,b8,cd⟩:=ay.rows;obtain⟨L,a5⟩:=exq (V.ks.length);have ar:=a4;have cp:=Aa aw e0;rw[a5]at ar cp;obtain⟨eh,d5,rfl⟩:=Am ar;obtain⟨dh,bk,cz,c8,dn,ct,c7,cw,ed,dy⟩:=ydJ ar ay b7 bw a4 b0 b8 cd a5 ap;clear ap ay b7 bw a4 b0 b8 cd ar a5 co;go_wp2_with (at_builtin;refine kao _ rfl _ _ 76 rfl (b+1) 3 c6 (int i64 0) 1 8 underlying76 di cy du de rfl od _ L (i64s V.ks) rfl (dh.alloc _) ⟨c9.heap.size,0,none⟩ 1 1 [int i64 ((2:Nat):Int)] rfl rfl (kbd _ _ _) (Df rfl) ou om oO ?_);intro v' ei e6 cn _ ia;obtain⟨eb,d6,dt,_,_⟩:=Ax e6 om;obtain⟨bh,ee,bq⟩:=IIs.kept (c:=2) (v':=v') bk.base bk.no cz c8 dn ct c7 cw (fun g E=>Aa db g (WJ cu E)) uO cn qAZ;have dv:=Ab (dy.trans bq);have df:Hid (∀w',IUp I B aa b (.slice a n ac) ai aj {V with ks:=V.ks++ [2]} w'->Z38 No B O b (.slice a n ac) X (.returned (.tuple #[])) w'):=Ab (fun w' U=>.inl ⟨by rw[Aa ie];exact e0,rfl,by rw[Aa ie];exact Aa dx _ w' U⟩);subst dt;clear bq e6 cn ia;go_wp2;go_end0;exact df _ dv
theorem Z2p {B:Nat}(h:Bk No B O b (.slice a n ac) u w)(U:Rd w No a n bs)(E:u.p<=8*n)(I:u.e=0)(H:u.out.length<=3000)(G:u.ks.length<=48000)(aa:k<4):Calls prog 231 #[.pointer (some ⟨b,0,none⟩),int i64 (k:Int)] w fun e w'=>Z38 No B O b (.slice a n ac) (Ed (rowB bs n) k u) e w':=by rcases(by omega:k=0\/k=1\/k=2\/k=3)with rfl|rfl|rfl|rfl;exact PY h U E I H G;exact PX h U E I H G;exact PW h U E I H G;exact PV 3 (rowB bs n) h od od
theorem Bk.cellP {B:Nat}(h:Bk No B O b R u w):Z0j n b w=8*n+1-u.p:=by obtain⟨No',f1,f2,_,_,E,_⟩:=h;exact Nr E
theorem BT (B b E:Nat)(G:Nat)(u:US)(H:World)(h:Bk No B H b (.slice a n G) u w)(ae:Rd w No a n bs)(O:u.p<=8*n)(aa:u.e=0)(ah:E<=16)(r:Nat)(v:US)(ag:uget (rowB bs n) E u=(r,v)):Calls prog 230 #[.pointer (some ⟨b,0,none⟩),int i64 (E:Int)] w fun e w'=>(v.e=0/\e=.returned (int i64 (r:Int))/\Bk No B H b (.slice a n G) v w')\/ (v.e≠0/\e=Flt v.e/\Bl No B H w'):=by obtain⟨No',f1,f2,hn,d8,U,rh,I⟩:=h;refine(Eg No' B b a n G E bs f1 f2 u w U (ae.wide hn) O aa ah r v (Ab ag)).mono ?_;rintro e w' (⟨e0,rfl,ep⟩|⟨e0,rfl,ac⟩);exact kM;exact .inr ⟨e0,rfl,I.outer ac hn⟩
theorem Bk.bl {B:Nat}(h:Bk No B O b R u w):Bl No B O w:=by obtain⟨No',f1,f2,_,_,_,_,E⟩:=h;exact E
theorem PQ {B:Nat}(h:IIs No B w b (.slice a n ac) .nilFunc .nilFunc US0)(av:Rd w No a n bs)(az:∀g,w.heap.size<=g->¬No g):Calls prog 205 #[.pointer (some ⟨b,0,none⟩)] w fun e w'=>Z38 No B w b (.slice a n ac) (Du (rowB bs n)) e w':=by
 have aa:=Af bs n;have cu:=av.few;obtain⟨row,ah⟩:=exq (rowB bs n);obtain⟨V,ax⟩:=exq (Du row);have ci:Hid (Bk No B w b (.slice a n ac) US0 w):=Ab ⟨No,.nilFunc,.nilFunc,fun _ h=>h,az,h,.inl ⟨rfl,rfl⟩,Bl.refl _ _ _⟩;have ay:Hid (∀wr,Bl No B w wr->Rd wr No a n bs):=Ab (fun wr hb=>av.keep hb.below.size hb.kp);have bg:Hid (∀(wr:World) (u:US) (size r:Nat) (v:US),Bk No B w b (.slice a n ac) u wr->u.p<=8*n->u.e=0->size<=16->uget row size u=(r,v)->Calls prog 230 #[.pointer (some ⟨b,0,none⟩),int i64 (size:Int)] wr fun e w'=>(v.e=0/\e=.returned (int i64 (r:Int))/\Bk No B w b (.slice a n ac) v w')\/ (v.e≠0/\e=Flt v.e/\Bl No B w w')):=Ab (fun wr u size r v hb I G U O=>BT B b size ac u w hb (ay wr hb.bl) I G U r v (by rw[ah];exact O));have bj:Hid (∀(wr:World) (u:US) (k:Nat),Bk No B w b (.slice a n ac) u wr->u.p<=8*n->u.e=0->u.out.length<=3000->u.ks.length<=48000->k<4->Calls prog 231 #[.pointer (some ⟨b,0,none⟩),int i64 (k:Int)] wr fun e w'=>Z38 No B w b (.slice a n ac) (Ed row k u) e w'):=Ab (fun wr u k hb I G U O bz=>by have:=Z2p hb (ay wr hb.bl) I G U O bz;rw[ah]at this;exact this);rw[ah]at aa ⊢;rw[ax];obtain⟨ak,al⟩:=exq (row.length+1);have cm:Hid (Bz row ak US0=V):=Ab (by rw[<-al];exact ax);have bu:Hid (8*n+1<=US0.p+ak):=Ab (by rw[<-al,aa];show _<=0+_;omega);clear h av az ah ax al;go_enter func205,ntmps205;go_wp2;go_loopw [2] (fun v2 wr=>∃(u:US) (l f:Nat),v2=int i64 (l:Int)/\Hid (u.e=0/\u.p<=8*n/\u.out.length<=3000/\u.ks.length<=u.p)/\Hid (Bk No B w b (.slice a n ac) u wr)/\((l=0/\Hid (Bz row f u=V)/\Hid (8*n+1<=u.p+f))\/ (l≠0/\Hid (u=V)))) (fun _ wr=>Z0j n b wr);exact⟨US0,0,ak,rfl,Ab ⟨rfl,VF _,VF _,VF _⟩,ci,.inl ⟨rfl,cm,bu⟩⟩;obtain⟨u,l,f,rfl,bn,aw,b9⟩:=hrel;obtain⟨au,b7,bc,ct⟩:=Aa bn;rcases b9 with ⟨rfl,bf,bb⟩|⟨hl,ap⟩
 . have ck:=Aa bb
   cases f with
   |zero=>exact absurd ck om
   |succ f=>
    have ao:=Aa bf;rw[Bz]at ao;obtain⟨r1,E,I⟩:∃r1 E,uget row 1 u=(r1,E):=⟨_,_,rfl⟩;obtain⟨r2,v2,G⟩:∃r2 v2,uget row 2 E=(r2,v2):=⟨_,_,rfl⟩;(have a3:Bh row u=if E.e≠0 then (1,E)else if v2.e≠0 then (1,v2)else (r1,Ed row r2 v2):=by unfold Bh;rw[I];simp only;rw[G]);(have bv:E.p<=8*n:=by have:=He row 1 u om;rw[I,aa]at this;exact this);(have co:v2.p<=8*n:=by have:=He row 2 E om;rw[G,aa]at this;exact this);(have o1:E.out=u.out:=by have:=Cs row 1 u;rw[I]at this;exact this);(have o2:v2.out=u.out:=by have:=Cs row 2 E;rw[G]at this;exact this.trans o1);(have s1:E.ks=u.ks:=by have:=Ix row 1 u;rw[I]at this;exact this);(have a6:v2.ks=u.ks:=by have:=Ix row 2 E;rw[G]at this;exact this.trans s1);(have l2:r2<4:=by have:=Z39 row 2 E;rw[G]at this;exact this);have b0:Hid ((Bh row u).2.e=0->(Bh row u).2.ks.length=u.ks.length+1/\u.p+3<=(Bh row u).2.p/\(Bh row u).2.p<=row.length/\(Bh row u).2.out.length<=3000):=Ab (Ia n aa u au om bc);have b8:=Ab (bg wr u 1 r1 E aw b7 au od I);have bm:Hid (∀W,E.e=0->Bk No B w b (.slice a n ac) E W->Calls prog 230 #[.pointer (some ⟨b,0,none⟩),int i64 2] W fun e w'=>(v2.e=0/\e=.returned (int i64 (r2:Int))/\Bk No B w b (.slice a n ac) v2 w')\/ (v2.e≠0/\e=Flt v2.e/\Bl No B w w')):=Ab (fun W U O=>Aa bg W E 2 r2 v2 O bv U od G);have cd:Hid (∀W,v2.e=0->Bk No B w b (.slice a n ac) v2 W->Calls prog 231 #[.pointer (some ⟨b,0,none⟩),int i64 (r2:Int)] W fun e w'=>Z38 No B w b (.slice a n ac) (Ed row r2 v2) e w'):=Ab (fun W U O=>Aa bj W v2 r2 O co U (by rw[o2];exact bc) (by rw[a6];omega) l2);obtain⟨ai,ar,bo⟩:=ydC a3 ao (aw.cellP (n:=n));clear ao a3 I G o1 o2 s1 a6 bf bb;go_wp2_with fail;refine b8.mono ?_;rintro e bk (⟨e1,rfl,bh⟩|⟨e1,rfl,a7⟩);rotate_left;(. have H:Hid (V=E):=Ab (by have:=Aa ar;rw[Aa ai,kac e1,kab (fun c=>absurd (show (1:Nat)=0 from c.1) od)]at this;exact this.symm);have ae:=Ab a7;clear a7;go_wp2;exact⟨rfl,.inr ⟨by rw[Aa H];exact e1,by rw[Aa H],ae⟩⟩);have bw:=Ab bh;clear bh;go_wp2_with fail;refine(bm bk e1 bw).mono ?_;rintro e cp (⟨e2,rfl,a9⟩|⟨e2,rfl,bi⟩);rotate_left;(. have H:Hid (V=v2):=Ab (by have:=Aa ar;rw[Aa ai,kab (show ¬E.e≠0 from fun c=>c e1),kac e2,kab (fun c=>absurd (show (1:Nat)=0 from c.1) od)]at this;exact this.symm);have ae:=Ab bi;clear bi;go_wp2;exact⟨rfl,.inr ⟨by rw[Aa H];exact e2,by rw[Aa H],ae⟩⟩);have b5:=Ab a9;have a5:Hid (Bh row u=(r1,Ed row r2 v2)):=Ab (by rw[Aa ai,kab (show ¬E.e≠0 from fun c=>c e1),kab (show ¬v2.e≠0 from fun c=>c e2)]);clear a9;go_wp2_with fail;refine(cd cp e2 b5).mono ?_;obtain⟨Y,ba⟩:=exq (Ed row r2 v2);rw[ba]at a5 ⊢;have ag:=Aa ar;have af:=Aa b0;rw[Aa a5]at ag af;simp only at ag af;have bd:=Ab ag;have bq:=Ab af;clear ag af ba;rintro e cq (⟨e3,rfl,aj⟩|⟨e3,rfl,a8⟩);rotate_left;(. have H:Hid (V=Y):=Ab (by have:=Aa bd;rw[kab (fun c=>e3 c.2)]at this;exact this.symm);have ae:=Ab a8;clear a8;go_wp2;exact⟨rfl,.inr ⟨by rw[Aa H];exact e3,by rw[Aa H],ae⟩⟩);obtain⟨y1,y2,a4,ce⟩:=Aa bq e3;rw[aa]at a4;have cn:=Ab aj;have cj:=Ab (aj.cellP (n:=n))
    have cg:Hid ((r1=0/\Hid (Bz row f Y=V)/\Hid (8*n+1<=Y.p+f))\/ (r1≠0/\Hid (Y=V))):=Ab (by
     have:=Aa bd
     by_cases c:r1=0
     . rw[kac ⟨c,e3⟩]at this
       exact .inl ⟨c,this,Ab om⟩
     . rw[kab (fun d=>c d.1)]at this
       exact .inr ⟨c,this⟩)
    clear aj;go_wp2;go_roundw;exact⟨Y,r1,f,rfl,Ab ⟨e3,a4,ce,om⟩,cn,cg⟩;rw[Aa cj,Aa bo];omega
 . have hb:((l:Int)==0)=false:=sV;have H:Hid (Z38 No B w b (.slice a n ac) V (.returned (.tuple #[])) wr):=Ab (.inl ⟨by rw[<-Aa ap];exact au,rfl,by rw[<-Aa ap];exact Aa aw⟩);clear ap;go_wp2;go_end0;exact H
theorem Cm (row:List Bool)(n:Nat)(u:US)(h:0<=u.e):0<=(uget row n u).2.e:=by unfold uget;split;(. split;exact(by decide:(0:Int)<=7);exact h);exact h
theorem IV (l:List Int)(row:List Bool)(p:Nat):∀f n,0<=(Er l row p f n).2.2
 |0,n=>(by decide:(0:Int)<=8)
 |f+1,n=>by unfold Er;split;exact(by decide:(0:Int)<=7);. split;exact(by decide:(0:Int)<=0);exact IV l row p f (n+1)
theorem Ek (l:List Int)(row:List Bool)(u:US)(h:0<=u.e):0<=(uplace l row u).2.e:=by unfold uplace;split;exact IV l row u.p 15 1;exact h
theorem Gh (x:Int)(u:US)(E:0<=x)(h:0<=u.e):0<=(An x u).e:=by unfold An;split;exact E;exact h
theorem QR (c:Nat)(u:US)(h:0<=u.e):0<=(Fo c u).e:=by unfold Fo;split;(. split;exact wU;exact h);exact h
theorem M2 (row:List Bool):∀(k:Nat) (u:US),0<=u.e->0<=(ustore row k u).e
 |0,u,h=>h
 |k+1,u,h=>by unfold ustore;split;exact M2 row k _ (QR _ _ (Cm _ _ _ h));exact h
theorem GQ (d:Nat):∀(k:Nat) (u:US),0<=u.e->0<=(ucopy d k u).e
 |0,u,h=>h
 |k+1,u,h=>by unfold ucopy;split;exact GQ d k _ (QR _ _ h);exact h
theorem NP (row:List Bool)(u:US)(h:0<=u.e):0<=(Cn row u).e:=by(have E:0<=(Cr row u).2.e:=by unfold Cr;dsimp only;split;exact Gh _ _ od (Cm _ _ _ (Cm _ _ _ h));exact Cm _ _ _ (Cm _ _ _ h));unfold Cn;dsimp only;split;exact Gh _ _ od E;exact M2 _ _ _ E
theorem Z12 (row:List Bool)(l:List Int)(u:US)(h:0<=u.e):0<=(Nt row l u).2.e:=by unfold Nt;split;exact yS;. split;exact(by decide:(0:Int)<=8);exact Cm _ _ _ (Ek _ _ _ h)
theorem Z5t (d k:Nat)(u:US)(h:0<=u.e):0<=(Kh d k u).e:=by unfold Kh;split;exact(by decide:(0:Int)<=9);. split;exact wU;exact GQ _ _ _ h
theorem JF (row:List Bool)(lb:List Int)(k:Nat)(u:US)(h:0<=u.e):0<=(Cu row lb k u).e:=by unfold Cu;split;(. split;exact wU;exact h);. split;exact(by decide:(0:Int)<=8);. split;exact Cm _ _ _ h;. split;exact Z12 _ _ _ (Cm _ _ _ h);exact Z5t _ _ _ (Z12 _ _ _ (Cm _ _ _ h))
theorem E9 (row:List Bool)(E lb:List Int):∀(f:Nat) (u:US),0<=u.e->0<=(Hz row E lb f u).e
 |0,u,h=>by unfold Hz;split;exact yS;exact yS
 |f+1,u,h=>by rw[Hy];split;exact yS;. split;exact yS;. split;exact JF _ _ _ _ (Ek _ _ _ h);exact E9 row E lb f _ (JF _ _ _ _ (Ek _ _ _ h))
theorem M3 (row:List Bool):∀(ks:List Nat) (s:List Int) (u:US),0<=u.e->0<=(usmall row ks s u).2.e
 | [],s,u,h=>h
 |k::r,s,u,h=>by rw[usmall];exact M3 row r _ _ (Cm _ _ _ h)
theorem Z3t (row:List Bool)(l:List Int)(k:Nat)(u:US)(h:0<=u.e):0<=(ukind row l k u).2.2.e:=by unfold ukind;split;(. split;exact Gh _ _ od h;exact Cm _ _ _ h);. split;exact Cm _ _ _ h;. split;exact Cm _ _ _ h;exact h
theorem Z3q (tot:Nat)(l:List Int)(r:Int×Nat×US)(h:0<=r.2.2.e):0<=(Wb tot l r).2.e:=by unfold Wb;dsimp only;split;exact Gh _ _ od h;exact h
theorem GO (row:List Bool)(S:List Int)(tot:Nat):∀(F:Nat) (l:List Int) (u:US),0<=u.e->0<=(ulens row S tot F l u).2.e
 |0,l,u,h=>h
 |F+1,l,u,h=>by rw[ulens];split;exact GO row S tot F _ _ (Z3q _ _ _ (Z3t _ _ _ _ (Ek _ _ _ h)));exact h
theorem GJ (row:List Bool)(u:US)(h:0<=u.e):0<=(Dm row u).2.e:=by unfold Dm;dsimp only;have G:=Cm row 4 _ (Cm row 5 _ (Cm row 5 u h));generalize (uget row 5 u).1=m0 at*;generalize (uget row 5 (uget row 5 u).2).1=n0 at*;generalize uget row 4 (uget row 5 (uget row 5 u).2).2=g at*;(have E:0<=(Gx row (m0+257) (n0+1) (g.1+4) g.2).2.e:=by unfold Gx;refine M3 _ _ _ _ ?_;split;exact Gh _ _ od G;exact G);generalize Gx row (m0+257) (n0+1) (g.1+4) g.2=s at*;(have hc:0<=(Sp s).e:=by unfold Sp;split;exact Gh _ _ od E;exact E);unfold Lk;split;exact hc;. have hl:=GO row s.1 (m0+257+(n0+1)) (m0+257+(n0+1)) [] (Sp s) hc;generalize ulens row s.1 (m0+257+(n0+1)) (m0+257+(n0+1)) [] (Sp s)=r at*;unfold Gy;split;exact hl;. split;exact Gh _ _ od hl;exact hl
theorem F6 (k:Nat)(u:US)(h:0<=u.e):0<=(Kg k u).e:=by unfold Kg;split;exact h;exact h
theorem Z5q (row:List Bool)(k:Nat)(u:US)(h:0<=u.e):0<=(Ed row k u).e:=by unfold Ed;split;exact F6 _ _ (NP _ _ h);. split;exact F6 _ _ (E9 _ _ _ _ _ h);. split;(. split;exact GJ _ _ h;exact F6 _ _ (E9 _ _ _ _ _ (GJ _ _ h)));exact(by decide:(0:Int)<=4)
theorem Z7 (row:List Bool)(u:US)(h:0<=u.e):0<=(Bh row u).2.e:=by unfold Bh;split;exact Cm _ _ _ h;. split;exact Cm _ _ _ (Cm _ _ _ h);exact Z5q _ _ _ (Cm _ _ _ (Cm _ _ _ h))
theorem Yr (row:List Bool):∀(F:Nat) (u:US),0<=u.e->0<=(Bz row F u).e
 |0,u,h=>h
 |F+1,u,h=>by rw[Bz];split;exact Yr row F _ (Z7 row u h);exact Z7 row u h
theorem Z5k (row:List Bool):0<=(Du row).e:=Yr row _ _ od
theorem Zx (a:Option Addr)(n G:Nat)(bs:List Nat)(w:World)(ak:bs.length=n)(aa:n<=6000)(O:BytesIn w a bs)(ar:∀j,bs.getD j 0<256):Calls prog 166 #[.slice a n G] w fun e w'=>Zdp w bs n e w':=by
 refine(LK a G bs w aa (Du (rowB bs n)) ?_ (Z5k _) (fun e=> ?_)).mono (fun e w' h=>h)
 . intro No B b W aj ah ae ay ax U
   have ao:Rd w No a n bs:=⟨ak,aa,O,ar,fun b o ea ac=>ae b (by
    rcases O with ag|⟨av,az,H,ap,_⟩
    . exact absurd ag ac
    . rw[ea]at H;cases H;exact ap)⟩
   have af:Rd W No a n bs:=ao.keep U.size (fun g E _=>U.block g E);refine(PQ aj af (fun g E=>ah g om)).mono ?_;rintro e w' (⟨e0,rfl,hK⟩|⟨e0,rfl,hb⟩);obtain⟨No',f1,f2,ai,aw,al,au,I⟩:=hK;exact .inl ⟨e0,rfl,f1,f2,al.weak ai,I.below,I.kp⟩;exact .inr ⟨e0,rfl,hb.below,hb.kp⟩
 have:=(Ue (rowB bs n) n (Af bs n) e).2.1;rw[Af]at this;omega
theorem Wa (a:Option Addr)(n E:Nat)(w:World)(I:6000<n)(G:n<=9223372036854775807):Calls prog 166 #[.slice a n E] w fun e w'=>e=.returned (.tuple #[.slice none 0 0,int i64 0,.slice none 0 0,int i64 2])/\w'=w:=by have H:(6000:Int)<n:=om;go_enter func166,ntmps166;go_wp2;refine kal (v:=.tuple #[.slice none 0 0,int i64 0,.slice none 0 0,int i64 2]) ?_ rfl ⟨rfl,rfl⟩;first|rfl|kernel_rfl
theorem Ze7:Zar:=⟨Zx,Wa⟩
abbrev Tk:=Nat×Int×Int
def wid (t:Tk):Nat:=if t.2.1=0 then 1 else t.2.1.toNat
def Zdk (acc:List Nat)(f:Nat):Nat->List Nat
 |0=>acc
 |m+1=>Zdk (acc++ [acc.getD (acc.length-f) 0]) f m
theorem Za1 {l:List Tk}(h:k<l.length):l.drop k=l.getD k (0,0,0)::l.drop (k+1):=by rw[WX h];congr 1;simp[List.getD,h]
def lcp (bs:List Nat):Nat->Nat->Nat->Nat
 |_,_,0=>0
 |i,k,m+1=>if bs.getD i 0=bs.getD k 0 then lcp bs (i+1) (k+1) m+1 else 0
def mst (n k:Nat):Nat:=min 258 (n-k)
def bst (bs:List Nat)(k m:Nat):Nat->Nat×Nat
 |0=>(0,0)
 |d+1=>if (bst bs k m d).1<lcp bs (k-(d+1)) k m then (lcp bs (k-(d+1)) k m,d+1)else bst bs k m d
def lng (bs:List Nat)(k:Nat):Nat×Nat:=if (bst bs k (mst bs.length k) k).1<3 then (0,0)else bst bs k (mst bs.length k) k
def Zdu (bs:List Nat)(k:Nat):Tk:=if (lng bs k).1=0 then (bs.getD k 0,0,0)else if (lng bs k).1<(lng bs (k+1)).1 then (bs.getD k 0,0,0)else (0,((lng bs k).1:Int),((lng bs k).2:Int))
def tks (bs:List Nat):Nat->Nat->List Tk
 |0,_=> []
 |m+1,k=>if k<bs.length then Zdu bs k::tks bs m (k+wid (Zdu bs k))else []
def Ie (bs:List Nat):List Tk:=tks bs bs.length 0
def wpl (l:List Int):Nat->List Nat
 |0=> []
 |k+1=>wpl l k++(if 0<l.getD k 0 then [k]else [])
theorem Sg (l:List Int):∀k,(wpl l k).length<=k
 |0=>by simp[wpl]
 |k+1=>by have:=Sg l k;rw[wpl,VB];split<;>simp<;>omega
theorem ED (l:List Int)(p:Nat):∀k,p∈wpl l k↔p<k/\0<l.getD p 0
 |0=>by simp[wpl]
 |k+1=>by rw[wpl,WG,ED l p k];by_cases h:0<l.getD k 0;rw[kac h,WR];constructor;rintro (⟨G,E⟩|rfl);exact⟨om,E⟩;exact⟨om,h⟩;rintro ⟨G,E⟩;by_cases e:p=k;exact .inr e;exact .inl ⟨om,E⟩;. rw[kab h];constructor;(. rintro (⟨G,E⟩|G);exact⟨om,E⟩;. cases G);rintro ⟨G,E⟩;by_cases e:p=k;subst e;exact absurd E h;exact .inl ⟨om,E⟩
theorem QM (l:List Int)(k:Nat):∀p∈wpl l k,p<k:=fun p h=>((ED l p k).1 h).1
theorem GI (l:List Int):∀k,(wpl l k).Pairwise (· < ·)
 |0=>.nil
 |k+1=>by rw[wpl,List.pairwise_append];refine⟨GI l k,by split<;>simp,fun a E b hb=> ?_⟩;have:=QM l k a E;split at hb;rw[WR]at hb;omega;. cases hb
def okW (n:Int):Bool:=decide (0<=n/\n<=1000000)
theorem IQ {n:Int}(h:okW n=true):0<=n/\n<=1000000:=kax h
theorem X5 {n:Int}(h:okW n=false):¬(0<=n/\n<=1000000):=kbj h
def Z7n (l:List Int)(most:Int):Int:=if 288<l.length then 2 else if ∃j,j<l.length/\okW (l.getD j 0)=false then 3 else if ¬(1<=most/\most<=15)then 3 else if 2^most.toNat<(wpl l l.length).length then 11 else 0
structure GoodW (l:List Int)(m:Nat):Prop where
 len:l.length<=288
 ok:∀j,j<l.length->0<=l.getD j 0/\l.getD j 0<=1000000
 lo:1<=m
 hi:m<=15
 room:(wpl l l.length).length<=2^m
theorem Z1c (h:GoodW l m):Z7n l m=0:=by unfold Z7n;have I:=h.len;have G:=h.lo;have O:=h.hi;have H:=h.room;rw[kab om,kab,kab om,kab oO];rintro ⟨j,E,e⟩;exact X5 e (h.ok j E)
def Zbq (x:Int)(f:List Int->List (Int×Bool)):List Int->List (Int×Bool)
 | []=>(x,true)::f []
 |y::ys=>if x<=y then (x,true)::f (y::ys)else (y,false)::Zbq x f ys
def mrg:List Int->List Int->List (Int×Bool)
 | []=>fun ys=>ys.map fun y=>(y,false)
 |x::xs=>Zbq x (mrg xs)
theorem Lx (ys:List Int):mrg [] ys=ys.map fun y=>(y,false):=rfl
theorem Pn (x:Int)(xs:List Int):mrg (x::xs) []=(x,true)::mrg xs []:=rfl
theorem Kc (x:Int)(xs:List Int)(y:Int)(ys:List Int):mrg (x::xs) (y::ys)=if x<=y then (x,true)::mrg xs (y::ys)else (y,false)::mrg (x::xs) ys:=rfl
def prs:List Int->List Int
 |a::b::t=>(a+b)::prs t
 |_=> []
def rowAt (W:List Int):Nat->List (Int×Bool)
 |0=>mrg W []
 |k+1=>mrg W (prs ((rowAt W k).map Prod.fst))
def Ca (r:List (Int×Bool))(t:Nat):Nat:=((r.take t).filter Prod.snd).length
def Dc (W:List Int)(most:Nat):Nat->Nat
 |0=>2*(W.length-1)
 |i+1=>2*(Dc W most i-Ca (rowAt W (most-1-i)) (Dc W most i))
def Bg (W:List Int)(most i:Nat):Nat:=Ca (rowAt W (most-1-i)) (Dc W most i)
def Vy (xs:List Int)(p:Nat):List Int:=xs.set p (xs.getD p 0+1)
def Da (xs:List Int)(ps:List Nat):List Int:=ps.foldl Vy xs
def Fh (n:Nat)(P:List Nat)(W:List Int)(most:Nat):Nat->List Int
 |0=>List.replicate n 0
 |i+1=>Da (Fh n P W most i) (P.take (Bg W most i))
def Dd (l:List Int)(P:List Nat)(most:Nat):List Int:=
 if P.length<2 then Da (List.replicate l.length 0) P else Fh l.length P (P.map fun p=>l.getD p 0) most most
structure RiseOf (l:List Int)(P:List Nat):Prop where
 perm:P.Perm (wpl l l.length)
 srt:P.Pairwise fun a b=>l.getD a 0<l.getD b 0\/ (l.getD a 0=l.getD b 0/\a<b)
def IsLens (l:List Int)(most:Nat)(s:List Int):Prop:=∃P,RiseOf l P/\s=Dd l P most
end Go.Proofs.YtleocpdblhbimaaGreatDoor
namespace Go.Proofs.YtleocpdblhbimaaGreatDoor
open Go.Value (int)
open Go.IntKind (i64)
inductive It where
 |sym (k:Nat)
 |far (k:Nat)
 |rest (n s:Nat)
deriving DecidableEq
def Ta (g n:Nat):Nat->Nat->Nat
 |0,s=>s
 |f+1,s=>if n/2^s<2*g then s else Ta g n f (s+1)
def Mx (g n:Nat):Nat:=Ta g n 12 0
def B5 (g n:Nat):Nat:=g*Mx g n+n/2^Mx g n
def Wi (g n:Nat):Nat:=n%2^Mx g n
def Dq (n:Nat):Nat×Nat×Nat:=if n=258 then (285,0,0)else (257+B5 4 (n-3),Wi 4 (n-3),Mx 4 (n-3))
def Of (d:Nat):Nat×Nat×Nat:=(B5 2 (d-1),Wi 2 (d-1),Mx 2 (d-1))
def NM (t:Tk):List It:=
 if t.2.1=0 then [.sym t.1]else [.sym (Dq t.2.1.toNat).1,.rest (Dq t.2.1.toNat).2.1 (Dq t.2.1.toNat).2.2,.far (Of t.2.2.toNat).1,.rest (Of t.2.2.toNat).2.1 (Of t.2.2.toNat).2.2]
def Wv (ts:List Tk):List It:=ts.flatMap NM
def itsOf (ts:List Tk):List It:=Wv ts++ [.sym 256]
def Zbd (a b:List Int):It->List Bool
 | .sym k=>codeT a k
 | .far k=>codeT b k
 | .rest n s=>Al n s
def putIs (a b:List Int)(is:List It):List Bool:=is.flatMap (Zbd a b)
def Z41 (is:List It):List Nat:=is.filterMap (fun i=>match i with| .sym k=>some k|_=>none)
def Z60 (is:List It):List Nat:=is.filterMap (fun i=>match i with| .far k=>some k|_=>none)
def symC (is:List It):List Int:=Da (List.replicate 286 0) (Z41 is)
def farC (is:List It):List Int:=Da (List.replicate 30 0) (Z60 is)
noncomputable def lensD (l:List Int)(m:Nat):List Int:= @Classical.epsilon (List Int) ⟨[]⟩ (fun s=>IsLens l m s)
def Hj (l:List Int)(least:Nat):Nat->Nat
 |0=>0
 |n+1=>if least<n+1/\l.getD n 0=0 then Hj l least n else n+1
def trimL (l:List Int)(least:Nat):List Int:=l.take (Hj l least l.length)
def Hu (x:Nat):Nat->Nat->List (Nat×Nat×Nat)
 |0,_=> []
 |f+1,m=>if m=0 then []else if m<3 then (x,0,0)::Hu x f (m-1)else if 0<x then (16,min m 6-3,2)::Hu x f (m-min m 6)else if m<11 then (17,m-3,3)::Hu x f 0 else (18,min m 138-11,7)::Hu x f (m-min m 138)
def Th (x m:Nat):List (Nat×Nat×Nat):=if 0<x then (x,0,0)::Hu x m (m-1)else Hu x m m
def Cv (x:Int):List Int->Nat
 | []=>0
 |y::r=>if y=x then Cv x r+1 else 0
def E6:Nat->List Int->List (Nat×Nat×Nat)
 |0,_=> []
 |f+1,l=>match l with
  | []=> []
  |x::r=>Th x.toNat (Cv x r+1)++E6 f (r.drop (Cv x r))
def lenIs (l:List Int):List (Nat×Nat×Nat):=E6 l.length l
def S8 (is:List (Nat×Nat×Nat)):List Int:=Da (List.replicate 19 0) (is.map Prod.fst)
def Z8t (own:List Int)(i:Nat×Nat×Nat):List Bool:=codeT own i.1++Al i.2.1 i.2.2
def putRs (own:List Int)(is:List (Nat×Nat×Nat)):List Bool:=is.flatMap (Z8t own)
def DX (own:List Int):Nat->Nat
 |0=>0
 |n+1=>if 4<n+1/\own.getD (ord19.getD n 0) 0=0 then DX own n else n+1
noncomputable def TS (all:List Int):List Int:=lensD (S8 (lenIs all)) 7
def Ww (a b own:List Int):List Bool:=
 Al (a.length-257) 5++(Al (b.length-1) 5++(Al (DX own 19-4) 4++((ord19.take (DX own 19)).flatMap (fun k=>Al (own.getD k 0).toNat 3)++putRs own (lenIs (a++b)))))
noncomputable def Z42 (ts:List Tk):List Int:=trimL (lensD (symC (itsOf ts)) 15) 257
noncomputable def Z61 (ts:List Tk):List Int:=trimL (lensD (farC (itsOf ts)) 15) 1
noncomputable def Hm (a b:List Int)(ts:List Tk):List Bool:=Ww a b (TS (a++b))++putIs a b (itsOf ts)
def Me:List Int:=List.replicate 255 8++ [9,9]
def Uu:List Int:= [0]
def Gs (bs:List Nat):List Tk:=bs.map (fun b=>(b,0,0))
open Classical in
noncomputable def Z1s (bs:List Nat):List Bool:=
 if (Hm Me Uu (Gs bs)).length<(Hm (Z42 (Ie bs)) (Z61 (Ie bs)) (Ie bs)).length then Hm Me Uu (Gs bs)else Hm (Z42 (Ie bs)) (Z61 (Ie bs)) (Ie bs)
def Ja (ts:List Tk):List Bool:=putIs Pu Lj (itsOf ts)
def freeN (n:Nat):Nat:=(8-n%8)%8
def We (S:List Bool)(bs:List Nat):List Bool:=
 S++List.replicate (freeN S.length) false++Al bs.length 16++Al (65535-bs.length) 16++rowB bs bs.length
noncomputable def Z3c (S:List Bool)(bs:List Nat)(kind:Nat)(last:Bool):List Bool:=
 if kind=0 then We (S++ [last]++Al kind 2) bs
 else if kind=1 then S++ [last]++Al kind 2++Ja (Ie bs)
 else S++ [last]++Al kind 2++Z1s bs
noncomputable def Wp:List (List Nat×Nat)->List Bool->List Bool
 | [],S=>S
 | (bs,k)::r,S=>Wp r (Z3c S bs k (decide (r= [])))
def padB (S:List Bool):List Bool:=S++List.replicate (freeN S.length) false
end Go.Proofs.YtleocpdblhbimaaGreatDoor
namespace Go.Proofs.YtleocpdblhbimaaGreatDoor
open Go.RowKit Go.Proofs.Tryz
open Go.Value (int)
open Go.IntKind (i64)
variable{l:List Int}{bs:List Nat}{G H N aa ac ae ai ak ar b bl cj co cu m n p q:Nat}{No No':Nat->Prop}{a:Option Addr}{r:Option Nat}{O W W' ao w w':World}
theorem T8 (xs ys:List Nat):∀q,q<=xs.length->rowB (xs++ys) q=rowB xs q
 |0,_=>rfl
 |q+1,h=>by rw[rowB,rowB,T8 xs ys q om];congr 2;simp only[List.getD];rw[WT om]
theorem Rf (xs ys:List Nat):∀q,rowB (xs++ys) (xs.length+q)=rowB xs xs.length++rowB ys q
 |0=>by rw[XS,T8 xs ys _ (VA _)];simp[rowB]
 |q+1=>by rw[<-WV,rowB,Rf xs ys q,rowB,VO];congr 3;simp only[List.getD];rw[VX om];congr 2;omega
theorem Ry (n:Nat):freeN n<8:=by unfold freeN;omega
theorem Uq (n:Nat):(n+freeN n)%8=0:=by unfold freeN;omega
theorem OC:freeN (n+1)=(if freeN n=0 then 8 else freeN n)-1:=by unfold freeN;split<;>omega
theorem Ec (S:List Bool):(padB S).length=S.length+freeN S.length:=by simp[padB]
theorem Z8s {f:Nat}(x k:Nat)(S:List Bool)(ag:bs.length=n)(af:1<=f)(ae:f<=8)(h:rowB bs n=S++List.replicate f false):rowB (bs.set (n-1) (bs.getD (n-1) 0|||x/2^k%2*2^(8-f))) n=S++ [x.testBit k]++List.replicate (f-1) false:=by have ac:=congrArg List.length h;rw[Af,VB,XJ]at ac;(have hb:∀i,i<8*n->Jh bs i=(S++List.replicate f false).getD i false:=fun i hi=>by rw[<-h,Fe bs n i hi]);apply XM;rw[Af];simp;omega;intro i H ah;rw[Af]at H;(have e1:∀(l:List Bool) (hi:i<l.length),l[i]=l.getD i false:=fun l hi=>by simp[List.getD,hi]);rw[e1,e1,Fe _ n i H];unfold Jh;rw[JP];have G:=hb i H;unfold Jh at G;by_cases e:i/8=n-1;rw[e]at G ⊢;rw[kac ⟨rfl,om⟩,Nat.testBit_or,Su,G];by_cases E:i<S.length;have:¬i%8=8-f:=om;rw[kak this,Bool.false_and,Bool.or_false];simp only[List.getD];rw[VO,WT E,WT E];by_cases aa:i=S.length;subst aa;have:S.length%8=8-f:=om;rw[kap this,ZP];simp only[List.getD];rw[VX (VA _),XT,VO,VX (VA _),XT];obtain⟨I,rfl⟩:∃I,f=I+1:=⟨f-1,om⟩;simp[List.replicate_succ];have:¬i%8=8-f:=om;rw[kak this,Bool.false_and,Bool.or_false];simp only[List.getD];rw[VX om,VX oO];(have hr:∀(m j:Nat),((List.replicate m false:List Bool)[j]?).getD false=false:=by intro m j;by_cases O:j<m<;>simp[O]);rw[hr,hr];rw[kab (fun U=>e U.1.symm),G];have E:i<S.length:=om;simp only[List.getD];rw[VO,WT E,WT E]
theorem Z8g {y:Nat}(h:∀j,bs.getD j 0<256)(E:y<256)(j:Nat):(bs++ [y]).getD j 0<256:=by simp only[List.getD];by_cases e:j<bs.length;rw[WT e];exact h j;rw[VX om];by_cases e2:j-bs.length=0;rw[e2];simpa using E;obtain⟨q,G⟩:∃q,j-bs.length=q+1:=⟨j-bs.length-1,om⟩;rw[G];simp
structure RIs (No:Nat->Prop)(B:Nat)(w:World)(b:Nat)(S:List Bool):Prop where
 base:B<=b
 no:¬No b
 ex:∃ov bs,w.heap[b]? =some (.cells #[ov,int i64 (freeN S.length:Nat)] 179 (0,0))/\w.ownsRow (b+1) 5 1 ov bs.length (u8s bs)/\(∀g,ov.ownBlock=some g->¬No g)/\(∀j,bs.getD j 0<256)/\rowB bs bs.length=padB S
structure Rp (No:Nat->Prop)(B:Nat)(w:World)(b:Nat)(S:List Bool)(w':World):Prop where
 is:RIs No B w' b S
 below:Below B w w'
 kp:Kp No w w'
theorem RIs.lt {B:Nat}{S:List Bool}(h:RIs No B w b S):b<w.heap.size:=by obtain⟨ov,bs,E,_⟩:=h.ex;exact(VD.1 E).1
theorem Rp.refl {B:Nat}{S:List Bool}(h:RIs No B w b S):Rp No B w b S w:=⟨h,kaa _ _,Kp.refl _ _⟩
theorem Rp.trans {B:Nat}{S E:List Bool}(h:Rp No B w b S O)(k:Rp No B O b E ao):Rp No B w b E ao:=⟨k.is,h.below.trans k.below,h.kp.trans k.kp h.below.size⟩
theorem RIs.grow {B:Nat}{S:List Bool}(h:RIs No B w b S)(H:Below w.heap.size w w')(I:∀g,No' g->No g\/w.heap.size<=g):RIs No' B w' b S:=by obtain⟨ov,bs,U,G,ac,O,aa⟩:=h.ex;refine⟨h.base, ?_,ov,bs,(H.block b h.lt).trans U,Bv G (fun g E=>H.block g (G.lt g E).2), ?_,O,aa⟩;intro e;rcases I b e with e|e;exact h.no e;have:=h.lt;omega;intro g E e;rcases I g e with e|e;exact ac g E e;have:=(G.lt g E).2;omega
theorem RIs.drewN {B:Nat}{S:List Bool}(h:RIs No B w b S)(q:Nat):RIs No B (w.drewN q) b S:=h.grow (Ae (kaa _ _) q) (fun g e=>.inl e)
theorem RIs.drew {B:Nat}{S:List Bool}(h:RIs No B w b S)(q:Nat):Rp No B w b S (w.drewN q):=⟨h.drewN q,Ae (kaa _ _) q,fun _ _ _=>rfl⟩
def Zdr (No:Nat->Prop)(B:Nat)(w:World)(b:Nat)(S:List Bool)(n f g cap:Nat)(bs:List Nat)(wc:World):Prop:=
 wc.heap[b]? =some (.cells #[.slice (some ⟨g,0,none⟩) n cap,int i64 (f:Nat)] 179 (0,0))/\wc.ownsRow (b+1) 5 1 (.slice (some ⟨g,0,none⟩) n cap) n (u8s bs)/\¬No g/\bs.length=n/\(∀j,bs.getD j 0<256)/\rowB bs n=S++List.replicate f false/\1<=f/\f<=8/\(f-1=freeN (S.length+1))/\Below B w wc/\Kp No w wc
theorem Eb {B:Nat}(n s:Nat)(S:List Bool)(w:World)(h:RIs No B w b S)(dm:n<65536)(d6:s<=16)(ej:S.length<=300000)(cg:∀g,w.heap.size<=g->¬No g):Calls prog 147 #[.pointer (some ⟨b,0,none⟩),int i64 (n:Int),int i64 (s:Int)] w fun e w'=>e=.returned (.tuple #[])/\Rp No B w b (S++Al n s) w':=by
 obtain⟨c5,hi,cw,bq,de⟩:=kas Gq;have H:=Ab h;have df:=Ab cg;clear h cg;go_enter func147,ntmps147;go_wp2;go_loopw [8] (fun i wr=>∃k:Nat,k<=s/\i=int i64 k/\Rp No B w b (S++Al n k) wr) (fun i _=>s-(intOf i).toNat);exact⟨0,VF _,rfl,by simpa[Al]using Rp.refl H⟩;obtain⟨k,dy,rfl,aa⟩:=hrel;by_cases dx:k<s
 . (have co:(S++Al n k).length=S.length+k:=by rw[VB,Ai]);(have cj:S++Al n (k+1)=S++Al n k++ [n.testBit k]:=by rw[Al,VO]);have dn:=Ab cj;obtain⟨E,bj⟩:=exq (S++Al n k);rw[bj]at co aa;have cz:=Ab bj;clear bj cj;obtain⟨ov,bs,O,av,b5,b9,G⟩:=aa.is.ex;have bd:=congrArg List.length G;rw[Af,Ec]at bd;have c6:=Ry E.length;have c9:=aa.is.lt;have ar:=aa.is.base;have a9:=aa.is.no;have ao:=Ab aa;have di:=aa.below.size;have c0:wr.cell? ⟨b,0,none⟩=some ov:=Ac O;have c1:wr.cell? ⟨b,1,none⟩=some (int i64 (freeN E.length:Nat)):=Ac O;have f0:=kag wr b 0 _ _ O;have f1:=kag wr b 1 _ _ O;obtain⟨a,cc,a5⟩:=mO;obtain⟨b0,jg,bg,bw,bv⟩:=ydE O av b5 b9 G;have bm:=OC (n:=E.length);obtain⟨az,bn⟩:=exq (freeN E.length);obtain⟨L,bi⟩:=exq (bs.length);rw[bn]at c1 bd c6 bm;have ax:=Ab bn;have ay:=Ab bi;rw[bi]at a5 bd;clear O av b5 b9 G bn bi aa;go_upto_if 15 with (fail);go_cut [] (fun wc=>∃n2 f g cap ag,Hid (Zdr No B w b E n2 f g cap ag wc)/\n2<=40000)
   . by_cases ce:az=0
     . subst ce;subst a5
       have dl:Hid ((Value.slice a L cc).ownBlock=none\/ (Value.slice a L cc).ownBlock≠some b):=by
        cases ac:(Value.slice a L cc).ownBlock with
        |none=>exact .inl rfl
        |some g=>refine .inr (fun e=> ?_);have:=(jg.lt g ac).1;cases e;omega
       have cu:Hid (wr.ownsRow (b+1) 5 1 (.slice a L cc) L (u8s bs)):=bF;go_wp2_with (at_builtin;refine kao _ rfl _ _ 23 rfl (b+1) 5 c5 (int .u8 0) 1 1 underlying23 hi cw bq de rfl od _ L (u8s bs) rfl (cu.alloc _) ⟨wr.heap.size,0,none⟩ 1 1 [int .u8 0] rfl rfl (kbd _ _ _) (Df rfl) ou om oO ?_);intro v' I bh al _ bz;have bb:=bh;obtain⟨ae,ai,U,bu,bc⟩:=Ax bh om;(have a8:I.heap[b]? =some (.cells #[.slice a L cc,int i64 ((0:Nat):Int)] 179 (0,0)):=by rw[al.block b oO (fun e=>by rcases Aa dl with h|h;rw[h]at e;cases e;exact h e.symm)];have:=Aa b0;rw[Aa ax]at this;exact(kai wr _ b c9).trans this);have eb:I.cell? ⟨b,0,none⟩=some (.slice a L cc):=Ac a8;have dw:=kag I b 0 _ _ a8;(have a6:(I.setCell ⟨b,0,none⟩ v').heap[b]? =some (.cells #[v',int i64 ((0:Nat):Int)] 179 (0,0)):=by rw[kah I b 0 _ _ _ a8];rfl);have ee:(I.setCell ⟨b,0,none⟩ v').cell? ⟨b,1,none⟩=some (int i64 ((0:Nat):Int)):=Ac a6;have ek:=kag (I.setCell ⟨b,0,none⟩ v') b 1 _ _ a6
       have bk:Hid (Zdr No B w b E (L+1) 8 ae ai (bs++ [0]) ((I.setCell ⟨b,0,none⟩ v').setCell ⟨b,1,none⟩ (int i64 8))):=by
        have a4:=Ad I b 0 v';have af:=Ad (I.setCell ⟨b,0,none⟩ v') b 1 (int i64 8);have cp:=al.size;simp only[kaf]at cp;have bq:=a4.size
        have b7:v'.ownBlock=none\/v'.ownBlock≠some b:=by
         cases ac:v'.ownBlock with
         |none=>exact .inl rfl
         |some g=>refine .inr (fun e=> ?_);have:=(bb.lt g ac).1;cases e;omega
        have ci:=Aa ao;refine⟨?_, ?_, ?_, ?_,Z8g bw od, ?_,om,om, ?_, ?_, ?_⟩;rw[kah _ b 1 _ _ _ a6,<-U];rfl;rw[<-U];have:=(bb.kept a4 b7).kept af b7;rw[A5];exact this;rcases bz with h|h;exact bg ae (by rw[<-h,U];rfl);rw[U]at h;have:=VK h;exact df ae (by simp at this;omega);rw[VB,Aa ay];rfl;have G:=Aa bv;have e:=Rf bs [0] 1;rw[Aa ay]at e G;rw[e,G];unfold padB;rw[Aa ax];simp only[ZS,XB];rfl;rw[bm];rfl;have cm:=ci.below;have b1:=cm.alloc om (.cells #[int .u8 0] 5);have b2:=b1.grown al oO (fun g e=>by have:=(jg.lt g e).1;omega);exact(b2.grown a4 om (fun g e=>by cases e;exact ar)).grown af om (fun g e=>by cases e;exact ar);have dh:=ci.kp;have k1:=dh.grown (ga (Av wr none) (.cells #[int .u8 0] 5)) di (fun j e=>by cases e);have k2:=k1.grown al oO (fun j e=>Aa bg j e);exact(k2.grown a4 om (fun g e=>by cases e;exact a9)).grown af om (fun g e=>by cases e;exact a9)
       subst U;clear bh bb al bz a8 a6 bu bc;go_wp2;(all_goals go_meet);all_goals exact⟨L+1,8,ae,ai,bs++ [0],bk,om⟩
     . have dz:((az:Int)==0)=false:=sV;have b8:Hid (wr.ownsRow (b+1) 5 1 ov L (u8s bs)):=bF;obtain⟨ae,ai,U,bu,bc⟩:=Ax b8 om;(have bk:Hid (Zdr No B w b E L az ae ai bs wr):=by have O:=Aa b0;have G:=Aa bv;rw[Aa ax]at O;rw[Aa ay]at G;unfold padB at G;rw[Aa ax]at G;rw[U]at O;refine⟨O,by rw[<-U];exact Aa b8,Aa bg ae (by rw[U];rfl),ay,bw,G,om,om, ?_,ao.below,ao.kp⟩;rw[bm,kab ce]);subst a5;clear bu bc U;go_wp2;(all_goals go_meet);all_goals exact⟨L,az,ae,ai,bs,bk,om⟩
   obtain⟨n2,f,g,cap,ag,bf,eg⟩:=hcut;obtain⟨m1,m2,a3,ah,au,aw,dv,em,a7,ap,ba⟩:=Aa bf;clear c0 c1 f0 f1 a5;(have ak:g≠b:=by have:=(m2.lt g rfl).1;omega);(have d7:1<=n2:=by have:=congrArg List.length aw;rw[Af,VB,XJ]at this;omega);have c0:wc.cell? ⟨b,0,none⟩=some (.slice (some ⟨g,0,none⟩) n2 cap):=Ac m1;have c1:wc.cell? ⟨b,1,none⟩=some (int i64 (f:Nat)):=Ac m1;have f1:=kag wc b 1 _ _ m1;obtain⟨x,ac⟩:=exq (ag.getD (n2-1) 0);have bo:=au (n2-1);rw[ac]at bo;(have ei:wc.cell? ⟨g,n2-1,none⟩=some (int .u8 (x:Int)):=by rw[m2.cellAt (n2-1) om,<-ac];simp[List.getD,ah,show n2-1<n2 by omega]);have fl:=m2.frozenAt (n2-1);have c8:=Ab (Z4k k (8-f) bo dm om);have cq:=bf;have d9:((n2:Int)-1).toNat=n2-1:=om;have d8:(0:Int)<=n2-1:=om;have d5:(n2:Int)-1<(n2:Int):=om;have du:(0:Int)<=8-(f:Int):=om;have ed:∀v,(wc.setCell ⟨g,n2-1,none⟩ v).cell? ⟨b,1,none⟩=some (int i64 (f:Nat)):=fun v=>(kan _ _ _ _ uC).trans c1;(have eh:∀v,(wc.setCell ⟨g,n2-1,none⟩ v).frozen? ⟨b,1,none⟩=false:=fun v=>by simp[f1]);have dt:=Ab ac;have da:=Ab ak;clear m1 m2 a3 ah au aw a7 ap ba ac bf ak;go_wp2;go_big_region;go_wp2;go_roundw
   . obtain⟨m1,m2,a3,ah,au,aw,dj,db,a7,ap,ba⟩:=Aa cq;have cv:=Aa c8;have ak:=Aa da;rw[cv];have c7:(x|||n/2^k%2*2^(8-f))<256:=Nat.or_lt_two_pow (n:=8) bo (Nat.lt_of_le_of_lt (Zi (IH (k:=8-f) om)) od);have aj:=m2.stored (n2-1) (int .u8 ((x|||n/2^k%2*2^(8-f):Nat):Int));have cd:=Z8s n k E ah dj db aw;rw[Aa dt]at cd;generalize (x|||n/2^k%2*2^(8-f))=y at*;have af:=Ad (wc.setCell ⟨g,n2-1,none⟩ (int .u8 ((y:Nat):Int))) b 1 (int i64 ((f:Int)-1))
     have dq:(wc.setCell ⟨g,n2-1,none⟩ (int .u8 ((y:Nat):Int))).heap[b]? =some (.cells #[.slice (some ⟨g,0,none⟩) n2 cap,int i64 (f:Nat)] 179 (0,0)):=
      (aj.2.block b (VD.1 m1).1 (fun e=>ak (VK e).symm)).trans m1
     have en:b<wc.heap.size:=(VD.1 m1).1;have bq:=aj.2.size;refine⟨k+1,om,by go_num, ?_⟩;(have ck:S++Al n (k+1)=E++ [n.testBit k]:=by rw[Aa dn,Aa cz]);rw[ck];refine⟨⟨ar,a9,.slice (some ⟨g,0,none⟩) n2 cap,ag.set (n2-1) y, ?_, ?_, ?_, ?_, ?_⟩, ?_, ?_⟩;show (((wc.setCell ⟨g,n2-1,none⟩ (int .u8 ((y:Nat):Int))).setCell ⟨b,1,none⟩ (int i64 ((f:Int)-1))).heap)[b]? =_;rw[kah _ b 1 _ _ _ dq,VB];show some (Obj.cells #[_,int i64 ((f:Int)-1)] _ _)=some (Obj.cells #[_,int i64 ((freeN (E.length+1):Nat):Int)] _ _);rw[<-a7,show ((f:Int)-1)=((f-1:Nat):Int) by omega];have ct:=Z4q (aj.1.kept af (.inr (fun e=>ak (VK e))));(have dp:u8s (ag.set (n2-1) y)=(u8s ag).set (n2-1) (int .u8 ((y:Nat):Int)):=by rw[u8s,List.map_set]);rw[YA,ah,dp];exact ct;intro cn cy;(have:g=cn:=by simpa[Value.ownBlock]using cy);rw[<-this];exact a3;(. intro j;rw[JP];split;exact c7;exact au j);rw[YA,ah,cd];unfold padB;rw[VB];show _=E++ [n.testBit k]++List.replicate (freeN (E.length+1)) false;rw[<-a7];exact((ap.grown aj.2 om (fun j e=>by have:=VK e;have:=(m2.lt g rfl).1;omega)).grown af om (fun j e=>by cases e;exact ar)).drew;have k1:=ba.grown aj.2 ap.size (fun j e=>by rw[<-VK e];exact a3);exact k1.grown (Cw af) (oI ap.size) (fun j e=>by cases e;exact a9)
   simp[intOf];omega
 . obtain rfl:k=s:=om;have ao:=Ab aa;clear aa;go_wp2;go_end0;exact⟨rfl,ao⟩
theorem SQ {B:Nat}{S:List Bool}(h:RIs No B w b S):Calls prog 176 #[.pointer (some ⟨b,0,none⟩)] w fun e w'=>e=.returned (.tuple #[])/\Rp No B w b (padB S) w':=by
 obtain⟨ov,bs,E,G,ac,U,aa⟩:=h.ex;have I:=h.base;have O:=h.no;have ag:=h.lt;have c1:w.cell? ⟨b,1,none⟩=some (int i64 (freeN S.length:Nat)):=Ac E;have f1:=kag w b 1 _ _ E
 have ae:Hid (Rp No B w b (padB S) (w.setCell ⟨b,1,none⟩ (int i64 0))):=by
  have H:=Ad w b 1 (int i64 0);(have e0:freeN (padB S).length=0:=by rw[Ec];have:=Uq S.length;unfold freeN at*;omega);refine⟨⟨I,O,ov,bs, ?_, ?_,ac,U, ?_⟩, ?_, ?_⟩;rw[kah w b 1 _ _ _ E,e0];rfl
  . refine G.kept H ?_
    cases af:ov.ownBlock with
    |none=>exact .inl rfl
    |some g=>refine .inr (fun e=> ?_);have:=(G.lt g af).1;cases e;omega
  rw[aa];unfold padB;unfold padB at e0;rw[e0];simp;exact(kaa B w).grown H om (fun g e=>by cases e;exact I);exact(Kp.refl No w).grown H (VA _) (fun g e=>by cases e;exact O)
 clear h E G ac U aa;generalize (freeN S.length)=ah at*;go_enter func176,ntmps176;go_wp2;go_end0;exact⟨rfl,ae⟩
theorem Z5y (S:List Bool):freeN (padB S).length=0:=by rw[Ec];have:=Uq S.length;unfold freeN at*;omega
theorem pdS {S:List Bool}(h:freeN S.length=0):padB S=S:=by unfold padB;rw[h];simp
theorem LP:(List.range 3001).all (fun n=>bits .and .i64 (bits .xor .i64 (-1) (n:Int)) 65535==((65535-n:Nat):Int))=true:=by decide+kernel
theorem RG (h:n<=3000):bits .and .i64 (bits .xor .i64 (-1) (n:Int)) 65535=((65535-n:Nat):Int):=by have:=XA.1 LP n oO;simpa using this
theorem RY (O:bs.length=n)(H:BytesIn w a bs)(I:a=none->ac=0):(a=none/\n=0/\ac=0/\bs= [])\/∃ad,a=some ad/\∀j u,(u8s bs)[j]? =some u->w.cell? (ad.add j)=some u:=by
 cases a with
 |none=>rcases H with h|⟨b,o,e,_⟩;subst h;exact .inl ⟨rfl,O.symm,I rfl,rfl⟩;. cases e
 |some ad=>refine .inr ⟨ad,rfl, ?_⟩;rcases H with h|⟨b,o,e,hb,h⟩;subst h;intro j u E;simp at E;. cases e;intro j u E;have e1:=dP;(have G:j<bs.length:=by by_cases c:j<bs.length;exact c;. rw[VZ oO]at E;cases E);rw[e1,h j G];simp[G]at E;subst E;simp[List.getD,G]
theorem J5 (h:BytesIn w a bs)(I:w.heap.size<=w'.heap.size)(G:∀b o,a=some ⟨b,o,none⟩->bs≠ []->b<w.heap.size->w'.heap[b]? =w.heap[b]?):BytesIn w' a bs:=by by_cases e:bs= [];exact .inl e;rcases h with h|⟨b,o,rfl,hb,H⟩;exact absurd h e;exact .inr ⟨b,o,rfl,om,fun j E=>(kaj (w:=w) (a:=⟨b,_,none⟩) (G b o rfl e hb)).trans (H j E)⟩
theorem C6 {B:Nat}(a6:Nat){S:List Bool}(h:RIs No B w ac S)(a4:bs.length=n)(cv:n<=3000)(ba:a=none->a6=0)(bo:BytesIn w a bs)(ai:∀j,bs.getD j 0<256)(bz:∀b o,a=some ⟨b,o,none⟩->bs≠ []->No b)(ar:∀g,w.heap.size<=g->¬No g)(db:S.length<=290000):Calls prog 148 #[.pointer (some ⟨ac,0,none⟩),.slice a n a6] w fun e w'=>e=.returned (.tuple #[])/\Rp No B w ac (We S bs) w':=by
 obtain⟨bi,hi,ci,cu,co⟩:=kas Gq;have cn:=Ec S;have c7:=Ry S.length;obtain⟨bc,bv,bq⟩:=ydC (SQ h) (fun ap (r:Rp No B w ac (padB S) ap)=>Eb n 16 (padB S) ap r.is om od om (fun g ae=>ar g (oI r.below.size))) (fun au (r:Rp No B w ac (padB S++Al n 16) au)=>Eb (65535-n) 16 (padB S++Al n 16) au r.is om od (by rw[VB,Ai];omega) (fun g ae=>ar g (oI r.below.size)));(have bj:We S bs=padB S++Al n 16++Al (65535-n) 16++rowB bs bs.length:=by unfold We padB;rw[a4]);rw[bj];have b9:=RG cv;obtain⟨b5,ao,cy,cm,cq⟩:=ydE (fun G af (r:Rp No B w ac af G)=>J5 bo r.below.size (fun b o e b8 hb=>r.kp b hb (bz b o e b8))) a4 ai ba ar;have c8:=h.lt;have bb:=h.base;have b7:=h.no;clear bj h bo bz ba ai a4 ar;go_enter func148,ntmps148;go_wp2_with fail;refine bc.mono ?_;rintro e ap ⟨rfl,a5⟩;have bf:=Ab (bv ap a5);have bd:=Ab a5;clear a5 bc bv;go_wp2_with fail;refine bf.mono ?_;rintro e au ⟨rfl,bw⟩;have a7:=bd.trans bw;have bg:=Ab (bq au a7);have b0:=Ab a7;clear bw a7 bq bf bd;go_wp2_with fail;refine bg.mono ?_;rintro e G ⟨rfl,a9⟩;have H:=b0.trans a9;obtain⟨af,aa⟩:=exq (padB S++Al n 16++Al (65535-n) 16);rw[aa]at H;(have bm:af.length=(padB S).length+32:=by rw[<-aa];simp[Ai]);(have ax:freeN af.length=0:=by have:=Z5y S;rw[bm];unfold freeN at*;omega);have c6:=Ab aa;obtain⟨ov,old,ag,U,av,bu,aj⟩:=H.is.ex;rw[pdS ax]at aj;rw[ax]at ag;have aw:=congrArg List.length aj;rw[Af]at aw;have cw:=RY ao (b5 G _ H) cm;have c0:G.cell? ⟨ac,0,none⟩=some ov:=Ac ag;have f0:=kag G ac 0 _ _ ag;obtain⟨L,a3⟩:=exq (old.length);rw[a3]at U aw;have cd:=H.below.size
 have al:Hid (∀v' E,E.ownsRow (ac+1) 5 1 v' (L+n) (u8s old++u8s bs)->G.grownBy E ov.ownBlock->(v'.ownBlock=ov.ownBlock\/v'.ownBlock=some G.heap.size)->E.cell? ⟨ac,0,none⟩=some ov/\E.frozen? ⟨ac,0,none⟩=false/\Rp No B w ac (padB S++Al n 16++Al (65535-n) 16++rowB bs bs.length) (E.setCell ⟨ac,0,none⟩ v')):=by
  intro v' E O I ah;have a8:E.heap[ac]? =some (.cells #[ov,int i64 ((0:Nat):Int)] 179 (0,0)):=(I.block ac om (fun e=>by have:=(U.lt ac e.symm).1;omega)).trans ag;have az:=Ad E ac 0 v';have c5:=I.size;(have cg:(rowB bs bs.length).length=8*n:=by rw[Af,Aa ao]);(have bk:freeN (af++rowB bs bs.length).length=0:=by rw[VB,cg];unfold freeN at*;omega);refine⟨Ac a8,kag E ac 0 _ _ a8, ?_⟩;rw[aa];refine⟨⟨bb,b7,v',old++bs, ?_, ?_, ?_, ?_, ?_⟩, ?_, ?_⟩;rw[bk,kah _ ac 0 _ _ _ a8];rfl
  . rw[VB,a3,Aa ao];have e:u8s (old++bs)=u8s old++u8s bs:=oS;rw[e];refine O.kept az ?_
    cases ai:v'.ownBlock with
    |none=>exact .inl rfl
    |some g=>refine .inr (fun e=> ?_);have:=(O.lt g ai).1;cases e;omega
  intro g ae;rcases ah with e|e;exact av g (by rw[<-e];exact ae);rw[e]at ae;have:=VK ae;exact cq g om;intro j;by_cases ce:j<old.length;have:=bu j;simp only[List.getD]at this ⊢;rw[WT ce];exact this;have:=Aa cy (j-old.length);simp only[List.getD]at this ⊢;rw[VX om];exact this;rw[pdS bk,VB,Rf old bs bs.length,<-a3]at*;rw[aj];exact(H.below.grown I om (fun g e=>by have:=(U.lt g e).1;omega)).grown az om (fun g e=>by cases e;exact bb);exact(H.kp.grown I cd (fun g e=>av g e)).grown az om (fun g e=>by cases e;exact b7)
 have ak:=Ab U;have da:L<=40000:=om;have ck:0<L:=om;obtain⟨ga,ca,cj,_,_⟩:=Ax U ck;clear ag U av bu aj a9 H bg b0 aw cn aa bm ax b5 b9;subst cj;(rcases cw with ⟨rfl,rfl,rfl,rfl⟩|⟨ad,rfl,bn⟩);(. have bh:=Aa al _ G (by simpa using Aa ak) (Av G _) (.inl rfl);have ay:=Ab bh.2.2;clear bh al;go_wp2_with (at_builtin;refine wpList_append_own_none rfl _ _ 23 rfl (ac+1) 5 bi 1 underlying23 hi _ L (u8s old) rfl ak rfl ?_);go_end0;exact⟨rfl,ay⟩);. have cp:=Ab bn;clear bn;go_wp2_with (at_builtin;refine kao _ rfl _ _ 23 rfl (ac+1) 5 bi (int .u8 0) 1 1 underlying23 hi ci cu co rfl od _ L (u8s old) rfl ak ad n a6 (u8s bs) rfl (by rw[WP,Aa ao,Nat.mul_one]) cp qAU ou om om ?_);intro v' E O I _ ah;obtain⟨r0,r1,r2⟩:=Aa al v' E O I ah;obtain⟨c9,cz,ct,_,_⟩:=Ax O om;have ay:=Ab r2;subst ct;clear O I ah r2 al ak;go_wp2;go_end0;exact⟨rfl,ay⟩
def PC (N bp:Nat)(l:List Int)(d:Nat->Int×Int)(W:World):Prop:=
 ∀k,k<N->(W.cell? ⟨bp,k,none⟩=some (int i64 (d k).2)/\W.frozen? ⟨bp,k,none⟩=false)/\∃p:Nat,(d k).2=p/\p<l.length/\(d k).1=l.getD p 0
structure Cx (bp bx bl ol ln lc:Nat)(l:List Int)(W:World):Prop where
 box:W.cell? ⟨bx,0,none⟩=some (.slice (some ⟨bl,ol,none⟩) ln lc)
 row:Row .i64 W bl ol l
 len:l.length=ln
 sm:ln<=288
 xlt:bx<W.heap.size
 llt:bl<W.heap.size
 plt:bp<W.heap.size
 xne:bx≠bp
 lne:bl≠bp
theorem Cx.grown (h:Cx ac G aa ai ak ar l W)(g:W.grownBy W' (some ac)):Cx ac G aa ai ak ar l W':=
 ⟨g.cell h.box (by simpa using h.xne),fun j E=>g.cell (h.row j E) (by simpa using h.lne),h.len,h.sm,VC h.xlt g.size,VC h.llt g.size,VC h.plt g.size,h.xne,h.lne⟩
theorem Cx.drewN (h:Cx ac G aa ai ak ar l W)(n:Nat):Cx ac G aa ai ak ar l (W.drewN n):=⟨h.box,h.row,h.len,h.sm,h.xlt,h.llt,h.plt,h.xne,h.lne⟩
def Zav (x y:Int):Int:=if x<y then-1 else if y<x then 1 else 0
theorem I9 (x y:Int):decide (Zav x y<0)=decide (x<y):=by unfold Zav;by_cases h:x<y;rw[kac h];simp[h];rw[kab h];by_cases E:y<x;rw[kac E];simp[h];rw[kab E];simp[h]
theorem FK (x y:Int)(w:World):Calls prog 130 #[int i64 x,int i64 y] w fun e w'=>e=.returned (int i64 (Zav x y))/\∃q,w'=w.drewN q:=by(have hn:∀(x:Int) w,Calls prog 168 #[int i64 x] w fun e w'=>e=.returned (.bool false)/\w'=w:=by intro x w;have I:(x !=x)=false:=oS;exact yK);unfold Zav;go_enter func130,ntmps130;go_wp2_with fail;refine(hn x w).mono ?_;rintro e E ⟨rfl,rfl⟩;go_wp2_with fail;refine(hn y E).mono ?_;rintro e H ⟨rfl,rfl⟩;by_cases h:x<y;(. go_wp2;go_ret;exact⟨rfl,0,rfl⟩);. by_cases G:y<x;(. go_wp2;go_ret;exact⟨rfl,0,rfl⟩);. go_wp2;go_ret;exact⟨rfl,0,rfl⟩
abbrev CF (bx:Nat):Value:=.func (.func 276) #[] #[.pointer (some ⟨bx,0,none⟩)]
theorem FN (W:World)(H:p<l.length)(I:q<l.length)(E:Cx aa G ai ak ac ar l W):Calls prog 276 #[int i64 p,int i64 q,.pointer (some ⟨G,0,none⟩)] W fun e w'=>e=.returned (int i64 (Zav (l.getD p 0) (l.getD q 0)))/\∃q,w'=W.drewN q:=by have hb:=E.box;have c1:=E.row p H;have c2:=E.row q I;have hl:=E.len;have ae:=E.sm;generalize l.getD p 0=x at*;generalize l.getD q 0=y at*;have O:(p:Int)<ac:=om;have U:(q:Int)<ac:=om;clear E;go_enter func276,ntmps276;go_wp2;go_quiet ((go_at_call 130;refine kbz (FK _ _ _)));go_wp2;go_ret;exact⟨rfl,_,rfl⟩
theorem KC {d:Nat->Int×Int}(E:PC N ac l d W)(ag:Cx ac G aa ai ak ar l W)(i j:Nat)(ah:i<N)(O:j<N)(n:Nat):Calls prog 276 #[int i64 (d i).2,int i64 (d j).2,.pointer (some ⟨G,0,none⟩)] (W.drewN n) fun e w'=>e=.returned (int i64 (Zav (d i).1 (d j).1))/\∃q,w'=(W.drewN n).drewN q:=by obtain⟨_,p,I,U,af⟩:=E i ah;obtain⟨_,q,H,aj,ae⟩:=E j O;rw[I,H,af,ae];exact FN (W.drewN n) U aj (ag.drewN n)
def swC (W:World)(bp:Nat)(x y:Int)(i j:Nat):World:=(W.setCell ⟨bp,i,none⟩ (int i64 y)).setCell ⟨bp,j,none⟩ (int i64 x)
theorem Nu (W:World)(E:Nat)(x y:Int)(i j:Nat):W.grownBy (swC W E x y i j) (some E):=Aj (Ad W E i _) (Ad _ E j _)
theorem PC.sw {d:Nat->Int×Int}(E:PC N ac l d W)(i j:Nat)(af:i<N)(I:j<N):PC N ac l (Stab.swp d i j) (swC W ac (d i).2 (d j).2 i j):=by intro k H;obtain⟨⟨c0,f0⟩,ae⟩:=E k H;obtain⟨⟨G,_⟩,U⟩:=E i af;obtain⟨⟨aa,_⟩,O⟩:=E j I;unfold swC;(have e2:(W.setCell ⟨ac,i,none⟩ (int i64 (d j).2)).cell? ⟨ac,j,none⟩≠none:=by by_cases e:i=j;subst e;rw[World.cell?_setCell_same' _ _ _ (by rw[G];rfl)];simp;rw[kan _ _ _ _ uC,aa];simp);refine⟨⟨?_,by simp[f0]⟩, ?_⟩;unfold Stab.swp;by_cases e:k=j;subst e;rw[World.cell?_setCell_same' _ _ _ (by rw[Option.isSome_iff_ne_none];exact e2)];by_cases e1:k=i;subst e1;rw[kac rfl];rw[kab e1,kac rfl];rw[kan _ _ _ _ uC];by_cases e1:k=i;subst e1;rw[kac rfl,World.cell?_setCell_same' _ _ _ (by rw[G];rfl)];rw[kab e1,kab e,kan _ _ _ _ uC];exact c0;unfold Stab.swp;by_cases e1:k=i;rw[kac e1];exact O;rw[kab e1];by_cases e:k=j;rw[kac e];exact U;rw[kab e];exact ae
theorem PC.c2 {d:Nat->Int×Int}(E:PC N ac l d W)(i j:Nat)(H:i<N)(G:j<N)(v:Value):∃u,(W.setCell ⟨ac,i,none⟩ v).cell? ⟨ac,j,none⟩=some u:=by by_cases e:i=j;subst e;exact⟨v,kat _ _ _ (E i H).1.1⟩;exact⟨_,(kan _ _ _ _ uC).trans (E j G).1.1⟩
theorem PC.drewN {d:Nat->Int×Int}(E:PC N ac l d W)(n:Nat):PC N ac l d (W.drewN n):=E
theorem Gr {a b:World}(h:a.grownBy b r)(n:Nat):a.grownBy (b.drewN n) r:=⟨h.os,h.tape,h.output,h.size,h.block⟩
set_option maxRecDepth 100000 in
theorem Ph (ao:Value)(aj:Nat)(d:Nat->Int×Int)(a b n:Nat)(az:N<=288)(ax:a+n<=N)(au:b+n<=N)(ai:PC N ac l d w):Calls prog 287 #[.slice (some ⟨ac,0,none⟩) N aj,int i64 a,int i64 b,int i64 n,ao] w fun e w'=>e=.returned (.tuple #[])/\PC N ac l (Stab.swr d a b n) w'/\w.grownBy w' (some ac):=by have ap:=Ab ai;clear ai;go_enter func287,ntmps287;go_wp2;go_loopw [10] (fun O wr=>∃i:Nat,i<=n/\O=int i64 i/\PC N ac l (Stab.swr d a b i) wr/\w.grownBy wr (some ac)) (fun O _=>n-(intOf O).toNat);exact⟨0,VF _,rfl,ap,Av _ _⟩;obtain⟨i,hi,rfl,aa,ae⟩:=hrel;have ij:=Ab aa;have g5:=Ab ae;have ag:=pE;clear aa ae;by_cases ar:i<n;(. generalize Stab.swr d a b i=E at*;obtain⟨s,ah⟩:∃s,s=a+i:=⟨_,rfl⟩;obtain⟨t,U⟩:∃t,t=b+i:=⟨_,rfl⟩;have G:s<N:=om;have H:t<N:=om;have c1:=((Aa ij) s G).1.1;have f1:=((Aa ij) s G).1.2;have c2:=((Aa ij) t H).1.1;have f2:=((Aa ij) t H).1.2;have af:=Ab (ij.sw s t G H);have I:=Ab (Aj g5 (Nu wr ac (E s).2 (E t).2 s t));obtain⟨u,ak⟩:=PC.c2 ij s t G H (int i64 (E t).2);generalize (E s).2=x at*;generalize (E t).2=y at*;have ea:((a:Int)+i).toNat=s:=om;have pa:(0:Int)<=a+(i:Int):=om;have av:(a:Int)+i<(N:Int):=om;have ra:IntKind.i64.wrap ((a:Int)+i)=(a:Int)+i:=sZ;have ec:((b:Int)+i).toNat=t:=om;have pc:(0:Int)<=b+(i:Int):=om;have aw:(b:Int)+i<(N:Int):=om;have ay:IntKind.i64.wrap ((b:Int)+i)=(b:Int)+i:=sZ;rw[<-ah,<-U]at ag;clear ah U G H ij;go_wp2_with fail;go_big_region;clear c1 c2 ak f1 f2;unfold swC at af I;have al:=Ab (Cw I);clear I;go_wp2;go_roundw;exact⟨i+1,om,by go_num,by rw[Aa ag];exact Aa af,al⟩;simp[intOf];omega);exact wO
theorem C5 (ae:Value)(aa:Nat)(d:Nat->Int×Int)(a m b:Nat)(al:N<=288)(a9:a<m)(a8:m<b)(a7:b<=N)(av:PC N ac l d w):Calls prog 286 #[.slice (some ⟨ac,0,none⟩) N aa,int i64 a,int i64 m,int i64 b,ae] w fun e w'=>e=.returned (.tuple #[])/\PC N ac l (Stab.rot d a m b) w'/\w.grownBy w' (some ac):=by have a6:=Ab av;have ay:=fL;clear av;go_enter func286,ntmps286;go_wp2;go_loopw [10,11] (fun ak af wr=>∃(i j:Nat) (dk:Nat->Int×Int),0<i/\0<j/\i<=m-a/\j<=b-m/\ak=int i64 i/\af=int i64 j/\Stab.rot dk (m-i) m (m+j)=Stab.rot d a m b/\PC N ac l dk wr/\w.grownBy wr (some ac)) (fun ak af _=>(intOf ak).toNat+(intOf af).toNat);exact⟨m-a,b-m,d,om,om,VA _,VA _,by go_num,by go_num,ay,a6,Av _ _⟩;obtain⟨i,j,dk,a5,az,hi,a3,rfl,rfl,ao,ar,au⟩:=hrel;obtain⟨ag,ah,aj⟩:=ydC ar au ao;clear ar au ao;rcases UD i j with H|H|H;(. have ap:=dZ;have a4:¬(j:Int)<i:=om;have U:=bW;have ax:Hid ((m:Int)+j-(i:Int)=((m+j-i:Nat):Int)):=tI;go_wp2_with fail;rw[Aa U,Aa ax];refine(Ph ae aa dk _ _ _ al om om ag).mono ?_;rintro e aw ⟨rfl,E,G⟩;obtain⟨O,I,ai⟩:=ydC E (Aj ah G) ((Stab.rot_lt dk m i j H om).trans (Aa aj));clear E G;go_wp2;go_roundw;exact⟨i,j-i,_,a5,om,hi,om,rfl,by go_num,ai,O,I⟩;simp[intOf];omega);(. subst H;have ap:((i:Int)!=i)=false:=oS;have U:=bW;go_wp2_with fail;rw[Aa U];refine(Ph ae aa dk _ _ _ al om om ag).mono ?_;rintro e aw ⟨rfl,E,G⟩;rw[Stab.rot_eq dk m i om,Aa aj]at E;have O:=Ab E;have I:=Ab (Aj ah G);clear E G;go_wp2;go_end0;exact⟨rfl,O,I⟩);. have ap:=dZ;have a4:(j:Int)<i:=om;have U:=bW;go_wp2_with fail;rw[Aa U];refine(Ph ae aa dk _ _ _ al om om ag).mono ?_;rintro e aw ⟨rfl,E,G⟩;obtain⟨O,I,ai⟩:=ydC E (Aj ah G) ((Stab.rot_gt dk m i j H om).trans (Aa aj));clear E G;go_wp2;go_roundw;exact⟨i-j,j,_,om,az,om,a3,by go_num,rfl,ai,O,I⟩;simp[intOf];omega
set_option maxRecDepth 100000 in
theorem MY (ba:Nat)(d:Nat->Int×Int){a:Nat}(hm:Hid (m=a+1))(ci:N<=288)(bm:m<b)(bn:b<=N)(ak:Cx H ae bl cu co cj l w) (ay:PC N H l d w) (ap:Stab.Srt Stab.lx d m b) (a3:Stab.Cross d a m b):Calls prog 285 #[.slice (some ⟨H,0,none⟩) N ba,int i64 a,int i64 m,int i64 b,CF ae] w fun e w'=>e=.returned (.tuple #[])/\∃d',PC N H l d' w'/\Stab.Moved a b d d'/\Stab.Srt Stab.lx d' a b/\w.grownBy w' (some H):=by
 obtain⟨f5,a9,bc,dl⟩:=ydD ay ap a3 ak;have b8:=pM;(have a6:a<m:=by have:=Aa hm;omega);clear ay ap a3 ak;go_enter func285,ntmps285;go_wp2;go_loopw [10,11,12] (fun ag af ce wr=>∃i j q:Nat,m<=i/\i<=j/\j<=b/\ag=int i64 i/\af=int i64 j/\(m<i->Stab.lx (d (i-1)) (d a))/\(j<b->Stab.lx (d a) (d j))/\wr=w.drewN q) (fun ag af _ _=>(intOf af).toNat-(intOf ag).toNat);exact jX;obtain⟨i,j,q,hi,bo,hj,rfl,rfl,ax,ar,au⟩:=hrel;obtain⟨em,fp,gx⟩:=ydC au ax ar;clear ax ar au;by_cases bj:i<j
 . obtain⟨c,a7⟩:=mP;have bz:i<=c:=om;have b7:c<j:=om;have E:=dF;have aa:=Ab (Stab.cross_less (bc a c (VA _) a6 om om));have I:=mF;have az:=fY;have aw:=fun n=>KC I az c a om om n;have cc:=(I c om).1.1;have ca:=(I a om).1.1;generalize (d c).2=y at*;generalize (d a).2=z at*;have bg:=Ab aw;clear a7 I az aw;have b0:(c:Int)<N:=om;have bq:(a:Int)<N:=om;go_wp2_with fail;rw[Aa E];go_wp2_with fail;go_quiet ((go_at_call 276;refine kbz (bg _)));rw[I9]
   cases G:decide ((d c).1<(d a).1)with
   |true=>have ml:=Ab (aa.1 G);clear aa G;go_wp2;go_roundw;exact vT;simp[intOf];omega
   |false=>have ml:=Ab (aa.2 G);clear aa G;go_wp2;go_roundw;exact jH;simp[intOf];omega
 . obtain rfl:i=j:=om;have bi:=nL;have bb:=rR;have a8:=sM;have a4:=nT;go_wp2;go_loopw [13] (fun vk ao=>∃k:Nat,a<=k/\k<i/\vk=int i64 k/\PC N H l (Stab.rot d a (a+1) (k+1)) ao/\w.grownBy ao (some H)) (fun vk _=>i-(intOf vk).toNat);exact⟨a,VA _,om,rfl,by rw[Aa bb];exact Aa a8,a4⟩;obtain⟨k,a5,bk,rfl,aj,al⟩:=hrel;have bw:=Ab aj;have g5:=Ab al;clear aj al;by_cases cd:k<i-1;(. have b5:(k:Int)<i-1:=om;have bf:=Ab (Stab.rot_up d a k a5);generalize Stab.rot d a (a+1) (k+1)=dk at*;obtain⟨t,ai⟩:∃t,t=k+1:=⟨_,rfl⟩;have U:k<N:=om;have ac:t<N:=om;have c1:=((Aa bw) k U).1.1;have f1:=((Aa bw) k U).1.2;have c2:=((Aa bw) t ac).1.1;have f2:=((Aa bw) t ac).1.2;have av:=Ab (bw.sw k t U ac);have ah:=pP;obtain⟨u,bd⟩:=PC.c2 bw k t U ac (int i64 (dk t).2);generalize (dk k).2=x at*;generalize (dk t).2=y at*;have bu:=nW;have ec:((k:Int)+1).toNat=t:=om;have pc:(0:Int)<=k+1:=om;have bv:(k:Int)+1<(N:Int):=om;have cg:IntKind.i64.wrap ((k:Int)+1)=(k:Int)+1:=sZ;have bh:=Ab ai;clear ai bw;go_wp2_with fail;go_big_region;clear c1 c2 bd f1 f2;unfold swC at av ah;go_wp2;go_roundw;exact⟨k+1,om,om,by go_num,by rw[<-Aa bf,<-Aa bh];exact Aa av,ah⟩;simp[intOf];omega);obtain rfl:k=i-1:=om;have b9:¬((i-1:Nat):Int)<(i:Int)-1:=om;have nq:i-1+1=i:=om;(have O:Hid (PC N H l (Stab.rot d a (a+1) i) wr):=by rw[nq]at bw;exact bw);exact xG
set_option maxRecDepth 100000 in
theorem EC (a6:Nat)(d:Nat->Int×Int){a:Nat}(bu:Hid (b=m+1))(ce:N<=288)(bk:a+1<m)(ba:m<b)(bj:b<=N)(aj:Cx H ae bl cu co cj l w) (ax:PC N H l d w) (ao:Stab.Srt Stab.lx d a m) (az:Stab.Cross d a m b):Calls prog 285 #[.slice (some ⟨H,0,none⟩) N a6,int i64 a,int i64 m,int i64 b,CF ae] w fun e w'=>e=.returned (.tuple #[])/\∃d',PC N H l d' w'/\Stab.Moved a b d d'/\Stab.Srt Stab.lx d' a b/\w.grownBy w' (some H):=by
 obtain⟨f5,a9,a8,dl⟩:=ydD ax ao az aj;have bn:=dS;have b7:=pK;clear ax ao az aj;go_enter func285,ntmps285;go_wp2;go_loopw [14,15,16] (fun af ac b9 wr=>∃i j q:Nat,a<=i/\i<=j/\j<=m/\af=int i64 i/\ac=int i64 j/\(a<i->Stab.lx (d (i-1)) (d m))/\(j<m->Stab.lx (d m) (d j))/\wr=w.drewN q) (fun af ac _ _=>(intOf ac).toNat-(intOf af).toNat);exact jW;obtain⟨i,j,q,hi,bm,hj,rfl,rfl,aw,ap,ar⟩:=hrel;obtain⟨em,fp,gx⟩:=ydC ar aw ap;clear aw ap ar;by_cases bh:i<j
 . obtain⟨c,a4⟩:=mP;have bz:i<=c:=om;have b5:c<j:=om;have E:=dF;have U:=Ab (Stab.cross_less (a8 c m om om (VA _) ba));have I:=mF;have ay:=fY;have av:=fun n=>KC I ay m c om om n;have cc:=(I c om).1.1;have ca:=(I m om).1.1;generalize (d c).2=y at*;generalize (d m).2=z at*;have bd:=Ab av;clear a4 I ay av;have b0:(c:Int)<N:=om;have bo:(m:Int)<N:=om;go_wp2_with fail;rw[Aa E];go_wp2_with fail;go_quiet ((go_at_call 276;refine kbz (bd _)));rw[I9]
   cases G:decide ((d m).1<(d c).1)with
   |true=>have ml:=Ab (U.1 G);clear U G;go_wp2;go_roundw;exact jH;simp[intOf];omega
   |false=>have ml:=Ab (U.2 G);clear U G;go_wp2;go_roundw;exact vT;simp[intOf];omega
 . obtain rfl:i=j:=om;have bg:=nL;have a7:=sJ;have a5:=sM;have a3:=nT;go_wp2;go_loopw [17] (fun vk al=>∃k:Nat,i<=k/\k<=m/\vk=int i64 k/\PC N H l (Stab.rot d k m (m+1)) al/\w.grownBy al (some H)) (fun vk _=>(intOf vk).toNat);exact⟨m,hj,VA _,rfl,by rw[Aa a7];exact Aa a5,a3⟩;obtain⟨k,bi,dv,rfl,ai,ak⟩:=hrel;have bw:=Ab ai;have g5:=Ab ak;clear ai ak;by_cases b8:i<k;(. have bc:=Ab (Stab.rot_down d k m om dv);generalize Stab.rot d k m (m+1)=dk at*;obtain⟨t,ah⟩:∃t,t=k-1:=⟨_,rfl⟩;have O:k<N:=om;have aa:t<N:=om;have c1:=((Aa bw) k O).1.1;have f1:=((Aa bw) k O).1.2;have c2:=((Aa bw) t aa).1.1;have f2:=((Aa bw) t aa).1.2;have au:=Ab (bw.sw k t O aa);have ag:=pP;obtain⟨u,bb⟩:=PC.c2 bw k t O aa (int i64 (dk t).2);generalize (dk k).2=x at*;generalize (dk t).2=y at*;have bq:=nW;have ec:((k:Int)-1).toNat=t:=om;have pc:(0:Int)<=k-1:=om;have bv:(k:Int)-1<(N:Int):=om;have cd:IntKind.i64.wrap ((k:Int)-1)=(k:Int)-1:=sZ;have bf:=Ab ah;clear ah bw;go_wp2_with fail;go_big_region;clear c1 c2 bb f1 f2;unfold swC at au ag;go_wp2;go_roundw;exact⟨k-1,om,om,by go_num,by rw[<-Aa bc,<-Aa bf];exact Aa au,ag⟩;simp[intOf];omega);exact qU
end Go.Proofs.YtleocpdblhbimaaGreatDoor
