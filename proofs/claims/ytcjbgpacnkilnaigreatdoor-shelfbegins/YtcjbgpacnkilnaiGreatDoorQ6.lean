import Derived.Test.YtcjbgpacnkilnaiGreatDoorQ3
import Derived.Defers
import Derived.Recover
import Derived.Laws.Pointers
import Derived.Test.YtcjbgpacnkilnaiGreatDoorQ2
import Derived.Test.YtcjbgpacnkilnaiGreatDoorQ5
set_option maxHeartbeats 4000000
namespace Go.Proofs.YtcjbgpacnkilnaiGreatDoor
open Go.RowKit
set_option linter.unusedVariables false
set_option maxRecDepth 100000
theorem Zhl (v:Value)(w:World):(Instr.typeAssert (.iface 174 v) 20 174 true).run Tryz.prog w=.ok (.tuple #[v,.bool true]) w:=by kernel_rfl
theorem Zhm (w:World):(Instr.typeAssert .nilIface 20 174 true).run Tryz.prog w=.ok (.tuple #[.agg #[.int .i64 0],.bool false]) w:=by kernel_rfl
theorem Z1h (p:Addr)(x y:Int)(older:List PanicEntry)(w:World)(hc:w.cell? p=some (.int .i64 y))(hz:w.frozen? p=false)(hk:p.block<w.heap.size):
 CallsD Tryz.prog 105 #[.pointer (some p)] (.panicking ({v:=.iface 174 (.agg #[.int .i64 x]),recovered:=false}::older)) w fun e u' w'=>
  e=.returned (.tuple #[])/\u'=.panicking ({v:=.iface 174 (.agg #[.int .i64 x]),recovered:=true}::older)/\w'=(w.alloc (.cells #[.int .i64 x] 174)).setCell p (.int .i64 x):=by
 refine callsD_of_wpS Tryz.func105 rfl fun c₀ cs hu=> ?_
 apply wpS_seq
 apply wpS_region
 simp[wpOpsS,go_sem,recoverD,hu,Tryz.ntmps105,Exit.thenS]
 apply wpS_seq
 apply wpS_region
 simp[wpOpsS,go_sem,Zhl,Exit.thenS,Array.replicate]
 apply wpS_seq
 apply wpS_region
 simp[wpOpsS,go_sem,Exit.thenS]
 refine wpS_cond (t:=true) (by simp[Act.eval]) ?_;simp only[if_true];have hc':=(World.cell?_alloc_lt w (.cells #[Value.int .i64 x] 174) p hk).trans hc;have hz':=(frozen?_alloc_cells w #[Value.int .i64 x] 174 p).trans hz;apply wpS_region
 simp[wpOpsS,go_sem,hc',hz',bodyPostS,results,Tryz.results105]
theorem Z68 (p:Addr)(w:World):
 CallsD Tryz.prog 105 #[.pointer (some p)] .returning w fun e u' w'=>
  e=.returned (.tuple #[])/\u'=.returning/\w'=w.alloc (.cells #[.int .i64 0] 174):=by
 refine callsD_of_wpS Tryz.func105 rfl fun c₀ cs hu=> ?_
 apply wpS_seq
 apply wpS_region
 simp[wpOpsS,go_sem,recoverD,hu,Tryz.ntmps105,Exit.thenS]
 apply wpS_seq
 apply wpS_region
 simp[wpOpsS,go_sem,Zhm,Exit.thenS,Array.replicate]
 apply wpS_seq
 apply wpS_region
 simp[wpOpsS,go_sem,Exit.thenS]
 refine wpS_cond (t:=false) (by simp[Act.eval]) ?_;simp only[Bool.false_eq_true,if_false];apply wpS_seq
 apply wpS_region
 simp[wpOpsS,go_sem,Exit.thenS]
 refine wpS_cond (t:=false) (by simp[Act.eval]) ?_;simp only[Bool.false_eq_true,if_false];refine wpS_of_wp (wp_skip ?_)
 cases c₀
 simp_all [bodyPostS,results,Tryz.results105]
theorem Z67 (kf:Nat)(br:Array Value)(Q:Nat->World->Prop)(w:World)(hf:∀(args:Array Value) (w:World),(callFunc kf args).run Tryz.prog w=.ok (.enter kf args) w)
 (hr:Calls Tryz.prog kf br (w.alloc (.cells #[.int .i64 0] 24)) fun e w'=>(∃x,Q x w'/\((x=0/\e=.returned (.tuple #[]))\/ (x≠0/\e=Flt x)))/\w'.heap[w.heap.size]? =some (.cells #[.int .i64 0] 24 (0,0))):
 Calls Tryz.prog 86 #[.func (.func kf) br #[]] w fun e w''=>∃x w',Q x w'/\e=.returned (.int .i64 (x:Int))/\w'.heap.size<=w''.heap.size/\(∀j,j<w'.heap.size->j≠w.heap.size->(w''.heap[j]? =w'.heap[j]?))/\∀B,B<=w.heap.size->Below B w' w'':=by
 have hmf:∀(fn:Fn) (first cap:Array Value) (w:World),(Instr.makeFunc fn first cap).run Tryz.prog w=.ok (.func fn first cap) w:=fun _ _ _ _=>rfl
 go_enter_defers Tryz.func86,Tryz.ntmps86
 go_wp2;refine hr.mono ?_;rintro e w' ⟨⟨x,hq,hx⟩,hb⟩;have hlt:w.heap.size<w'.heap.size:=(Array.getElem?_eq_some_iff.1 hb).1;have hcl:w'.cell? ⟨w.heap.size,0,none⟩=some (.int .i64 0):=by simp[World.cell?,hb]
 have hzl:w'.frozen? ⟨w.heap.size,0,none⟩=false:=by simp[World.frozen?,hb]
 rcases hx with ⟨rfl,rfl⟩|⟨hx,rfl⟩
 . go_wp2;refine leaves_cons (f:=105) (args:= #[.pointer (some ⟨w.heap.size,0,none⟩)]) (by simp) (by simp[go_sem]) ?_;refine(Z68 ⟨w.heap.size,0,none⟩ _).mono ?_;rintro e u' w'' ⟨rfl,rfl,rfl⟩;have c1:((w'.setCell ⟨w.heap.size,0,none⟩ (.int .i64 0)).alloc (.cells #[.int .i64 0] 174)).cell? ⟨w.heap.size,0,none⟩=some (.int .i64 0):=(World.cell?_alloc_lt _ _ _ (by simpa using hlt)).trans (World.cell?_setCell_same _ _ _ hcl);simp[Leaves,settle,results,Tryz.results86,go_sem,c1]
   refine⟨0,w',hq,rfl,by omega,fun j hj hn=> ?_,fun B hB=> ?_⟩
   rotate_left
   . have hb1:=(Below.refl B w').grown (Ad w' w.heap.size 0 (.int .i64 0)) (by omega) (fun g e=>by cases e;exact hB);exact hb1.alloc (by simp;omega) _
   exact(Below.heap_alloc _ _ j (by simpa using hj)).trans (Below.heap_setCell _ _ _ j hn)
 . go_wp2;refine leaves_cons (f:=105) (args:= #[.pointer (some ⟨w.heap.size,0,none⟩)]) (by simp) (by simp[go_sem]) ?_;refine(Z1h ⟨w.heap.size,0,none⟩ x 0 [] _ hcl hzl hlt).mono ?_;rintro e u' w'' ⟨rfl,rfl,rfl⟩;have c1:((w'.alloc (.cells #[.int .i64 (x:Int)] 174)).setCell ⟨w.heap.size,0,none⟩ (.int .i64 (x:Int))).cell? ⟨w.heap.size,0,none⟩=some (.int .i64 (x:Int)):=World.cell?_setCell_same _ _ _ ((World.cell?_alloc_lt _ _ _ hlt).trans hcl);have hw:∀j,j<w'.heap.size->¬j=w.heap.size->((w'.alloc (.cells #[.int .i64 (x:Int)] 174)).setCell ⟨w.heap.size,0,none⟩ (.int .i64 (x:Int))).heap[j]? =w'.heap[j]? :=fun j hj hn=>(Below.heap_setCell _ _ _ j hn).trans (Below.heap_alloc _ _ j hj)
   have hs:((w'.alloc (.cells #[.int .i64 (x:Int)] 174)).setCell ⟨w.heap.size,0,none⟩ (.int .i64 (x:Int))).heap.size=w'.heap.size+1:=by simp
   have hbl:∀B,B<=w.heap.size->Below B w' ((w'.alloc (.cells #[.int .i64 (x:Int)] 174)).setCell ⟨w.heap.size,0,none⟩ (.int .i64 (x:Int))):=fun B hB=>
    ((Below.refl B w').alloc (by omega) _).grown (Ad _ w.heap.size 0 _) (by simp;omega) (fun g e=>by cases e;exact hB)
   generalize (w'.alloc (.cells #[.int .i64 (x:Int)] 174)).setCell ⟨w.heap.size,0,none⟩ (.int .i64 (x:Int))=W at c1 hw hs hbl ⊢;simp[Leaves,settle,results,Tryz.results86,go_sem,c1]
   exact⟨x,w',hq,rfl,by omega,hw,hbl⟩
theorem IIs.rows {No:Nat->Prop}{B b:Nat}{w:World}{R f1 f2:Value}{u:US}(h:IIs No B w b R f1 f2 u):∃ov kv,w.cell? ⟨b,2,none⟩=some ov/\w.cell? ⟨b,3,none⟩=some kv/\w.heap[b]? =some (.cells (icells R f1 f2 u ov kv) 149 (0,0))/\w.ownsRow (b+1) 5 1 ov u.out.length (u8s u.out)/\w.ownsRow (b+1) 3 1 kv u.ks.length (i64s u.ks)/\(ov.ownBlock=none\/ov.ownBlock≠kv.ownBlock)/\(∀g,ov.ownBlock=some g->¬No g)/\(∀g,kv.ownBlock=some g->¬No g):=by
 obtain⟨ov,kv,h1,h2⟩:=h.ex;exact⟨ov,kv,Ac h1,Ac h1,h1,h2⟩
theorem Oy (No:Nat->Prop)(B b m:Nat)(R f1 f2:Value)(u:US)(w:World)(h:IIs No B w b R f1 f2 u)(ho:u.out.length<=3000)(hm:m<=65535):
 Calls Tryz.prog 145 #[.pointer (some ⟨b,0,none⟩),.int .i64 (m:Int)] w fun e w'=>w'=w/\((u.out.length+m<=3000/\e=.returned (.tuple #[]))\/ (3000<u.out.length+m/\e=Flt 2)):=by
 obtain⟨ov,kv,c2,c3,hh,hov,hkv,hap,hn1,hn2⟩:=h.rows;obtain⟨a,cc,rfl⟩:=An hov;clear h hh hov hkv hap hn1 hn2 c3;have HG:=Ab (Bo 2 w)
 by_cases hl:u.out.length+m<=3000
 . go_enter Tryz.func145,Tryz.ntmps145
   go_wp2;go_end0
   exact⟨rfl,.inl ⟨hl,rfl⟩⟩
 . go_enter Tryz.func145,Tryz.ntmps145
   go_wp2_with fail
   refine(Aa HG).mono ?_;rintro e w' ⟨rfl,rfl⟩;go_wp2;exact⟨rfl,rfl,.inr ⟨by omega,rfl⟩⟩
theorem Z9w:∀g∈ [2,4],∀s∈List.range 41,
 (0<=wrap64 (wrap64 ((s:Int)/(g:Nat))-1)->IntKind.i64.wrap (wrap64 ((s:Int)-wrap64 ((g:Int)*wrap64 (wrap64 ((s:Int)/(g:Nat))-1)))*2^min (wrap64 (wrap64 ((s:Int)/(g:Nat))-1)).toNat 64)=(((s-g*(s/g-1))*2^(s/g-1):Nat):Int)/\wrap64 (wrap64 ((s:Int)/(g:Nat))-1)=((s/g-1:Nat):Int))/\
 (wrap64 (wrap64 ((s:Int)/(g:Nat))-1)<0->IntKind.i64.wrap (wrap64 ((s:Int)-wrap64 0))=(((s-g*(s/g-1))*2^(s/g-1):Nat):Int)/\(0:Int)=((s/g-1:Nat):Int)):=by decide+kernel
theorem Pj (s g z:Nat)(w:World)(hg:g=2\/g=4)(hs:s<=40)(hz:z=s/g-1):
 Calls Tryz.prog 166 #[.int .i64 (s:Int),.int .i64 (g:Int)] w fun e w'=>w'=w/\e=.returned (.tuple #[.int .i64 (((s-g*z)*2^z:Nat):Int),.int .i64 (z:Int)]):=by
 subst hz;have HK:=Ab (Z9w g (by rcases hg with rfl|rfl<;>simp) s (by simp;omega));go_enter Tryz.func166,Tryz.ntmps166
 go_wp2
 all_goals first
  | (obtain⟨k1,k2⟩:=(Aa HK).1 h
     rw[k1,k2];go_ret2;exact⟨rfl,rfl⟩)
  | (obtain⟨k1,k2⟩:=(Aa HK).2 h
     rw[k1];go_ret2;refine⟨rfl, ?_⟩;show Ending.returned (.tuple #[.int .i64 (((s-g*(s/g-1))*2^(s/g-1):Nat):Int),.int .i64 0])=_
     rw[<-k2])
def Cv (s:Nat):Nat×Nat:=if s=285 then (258,0)else (3+((s-257)-4*((s-257)/4-1))*2^((s-257)/4-1),(s-257)/4-1)
def Cw (s:Nat):Nat×Nat:=(1+(s-2*(s/2-1))*2^(s/2-1),s/2-1)
theorem Uc (s:Nat)(w:World)(h1:257<=s)(h2:s<=285):
 Calls Tryz.prog 147 #[.int .i64 (s:Int)] w fun e w'=>w'=w/\e=.returned (.tuple #[.int .i64 ((Cv s).1:Int),.int .i64 ((Cv s).2:Int)]):=by
 by_cases h5:s=285
 . subst h5;go_enter Tryz.func147,Tryz.ntmps147
   go_wp2;go_ret2;exact⟨rfl,rfl⟩
 . have HF:=Ab (Pj (s-257) 4 _ w (.inr rfl) (by omega) rfl);have HL:Hid (Cv s=(3+((s-257)-4*((s-257)/4-1))*2^((s-257)/4-1),(s-257)/4-1)):=Ab (by unfold Cv;rw[if_neg h5])
   have hb:((s-257)-4*((s-257)/4-1))*2^((s-257)/4-1)<=300:=by
    have:∀k∈List.range 29,(k-4*(k/4-1))*2^(k/4-1)<=300:=by decide+kernel
    exact this (s-257) (by simp;omega)
   generalize ((s-257)-4*((s-257)/4-1))*2^((s-257)/4-1)=y at HF HL hb;generalize (s-257)/4-1=z at HF HL;have e1:((s-257:Nat):Int)=(s:Int)-257:=by omega
   rw[e1]at HF;go_enter Tryz.func147,Tryz.ntmps147
   go_wp2_with fail
   refine(Aa HF).mono ?_;rintro e w' ⟨rfl,rfl⟩;go_wp2;go_ret2;refine⟨rfl, ?_⟩;rw[Aa HL];go_num
theorem Xr (s:Nat)(w:World)(h2:s<=29):
 Calls Tryz.prog 167 #[.int .i64 (s:Int)] w fun e w'=>w'=w/\e=.returned (.tuple #[.int .i64 ((Cw s).1:Int),.int .i64 ((Cw s).2:Int)]):=by
 have HF:=Ab (Pj s 2 _ w (.inl rfl) (by omega) rfl);have HL:Hid (Cw s=(1+(s-2*(s/2-1))*2^(s/2-1),s/2-1)):=Ab rfl
 have hb:(s-2*(s/2-1))*2^(s/2-1)<=40000:=by
  have:∀k∈List.range 30,(k-2*(k/2-1))*2^(k/2-1)<=40000:=by decide+kernel
  exact this s (by simp;omega)
 generalize (s-2*(s/2-1))*2^(s/2-1)=y at HF HL hb;generalize s/2-1=z at HF HL;go_enter Tryz.func167,Tryz.ntmps167
 go_wp2_with fail
 refine(Aa HF).mono ?_;rintro e w' ⟨rfl,rfl⟩;go_wp2;go_ret2;refine⟨rfl, ?_⟩;rw[Aa HL];go_num
theorem Lj (row:List Bool)(n:Nat)(u:US):(uget row n u).1<2^n:=by
 have h0:0<2^n:=Nat.two_pow_pos n;unfold uget
 split
 . split
   . exact h0
   . exact Nat.lt_of_lt_of_le (Jx _) (Nat.pow_le_pow_right (by decide) (by rw[List.length_take];exact Nat.min_le_left _ _))
 . exact h0
theorem Hj (No:Nat->Prop)(B b:Nat)(a:Option Addr)(n cap size l:Nat)(bs:List Nat)(f1 f2:Value)(u:US)(w:World)(h:IIs No B w b (.slice a n cap) f1 f2 u)(hR:Rd w No a n bs)(hp:u.p<=8*n)(he:u.e=0)(hs:size<=16)(hl:l<=40000)(r:Nat)(v:US)(hr:Hid (uget (rowB bs n) size u=(r,v))):
 Calls Tryz.prog 146 #[.pointer (some ⟨b,0,none⟩),.int .i64 (l:Int),.int .i64 (size:Int)] w fun e w'=>Got No B w b (.slice a n cap) f1 f2 (.int .i64 ((l+r:Nat):Int)) v e w':=by
 have HN:=Ab (Df No B b a n cap size bs f1 f2 u w h hR hp he hs r v hr)
 have hrl:r<65536:=by
  have:=Lj (rowB bs n) size u
  rw[Aa hr]at this;exact Nat.lt_of_lt_of_le this (Nat.pow_le_pow_right (j:=16) (by decide) hs)
 clear h hR hp he hs hr;go_enter Tryz.func146,Tryz.ntmps146
 go_wp2_with fail
 refine(Aa HN).mono ?_;rintro e w2 hg
 rcases hg with ⟨e0,rfl,hU⟩|⟨e0,rfl,hBl⟩
 . have HU:=Ab hU;clear hU;go_wp2;go_ret;exact .inl ⟨e0,by go_num,Aa HU⟩
 . have HB:=Ab hBl;clear hBl;go_wp2;exact⟨rfl,.inr ⟨e0,rfl,Aa HB⟩⟩
def Pa (row:List Bool)(lb:List Int)(u:US):Nat×US:=
 if (uplace lb row u).2.e≠0 then (0,(uplace lb row u).2)
 else if 29<(uplace lb row u).1 then (0,{(uplace lb row u).2 with e:=8})
 else ((Cw (uplace lb row u).1).1+(uget row (Cw (uplace lb row u).1).2 (uplace lb row u).2).1,(uget row (Cw (uplace lb row u).1).2 (uplace lb row u).2).2)
theorem Z2u (l:List Int)(row:List Bool)(p:Nat)(hp:p<=row.length):∀f n,p+(Gh l row p f n).2.1<=row.length
 |0,n=>by simpa[Gh]using hp
 |f+1,n=>by
  unfold Gh
  split
  . simpa using hp
  . split
    . show p+n<=row.length
      omega
    . exact Z2u l row p hp f (n+1)
theorem Hk (l:List Int)(row:List Bool)(u:US)(hp:u.p<=row.length):(uplace l row u).2.p<=row.length:=by
 unfold uplace
 split
 . exact Z2u l row u.p hp 15 1
 . exact hp
theorem Z92:∀k,k<=29->(Cw k).1<=40000/\(Cw k).2<=16:=by decide
theorem Got.from {No:Nat->Prop}{B b:Nat}{w w1 w':World}{R f1 f2 v:Value}{u:US}{e:Ending}(h:Got No B w1 b R f1 f2 v u e w')(hB:Below B w w1)(hK:Kp No w w1):Got No B w b R f1 f2 v u e w':=by
 rcases h with ⟨h1,h2,h3⟩|⟨h1,h2,h3⟩
 . exact .inl ⟨h1,h2,h3.is,hB.trans h3.below,hK.trans h3.kp hB.size⟩
 . exact .inr ⟨h1,h2,hB.trans h3.below,hK.trans h3.kp hB.size⟩
theorem Z10 (No:Nat->Prop)(B b:Nat)(a:Option Addr)(n cap:Nat)(bs:List Nat)(f1 f2:Value)(u:US)(w:World)(h:IIs No B w b (.slice a n cap) f1 f2 u)(hR:Rd w No a n bs)(hp:u.p<=8*n)(he:u.e=0)(g1 g2 gr gm mb nn:Nat)(l:List Int)(hD:DIs w gr gm mb nn b l)(hG:Good l)(hN:No gr/\No gm/\No mb)(hNo:∀g,w.heap.size<=g->¬No g)(k:Nat)(v:US)(hr:Hid (Pa (rowB bs n) l u=(k,v))):
 Calls Tryz.prog 149 #[.pointer (some ⟨b,0,none⟩),.agg #[DV g1 g2,DV gr gm]] w fun e w'=>Got No B w b (.slice a n cap) f1 f2 (.int .i64 (k:Int)) v e w':=by
 have hrl:=Ag bs n;obtain⟨k1,v1,h1⟩:∃k1 v1,uplace l (rowB bs n) u=(k1,v1):=⟨_,_,rfl⟩
 have hv1p:v1.p<=8*n:=by
  have:=Hk l (rowB bs n) u (by omega)
  rw[h1,hrl]at this;exact this
 have HI:Hid ((v1.e≠0->v=v1)/\(v1.e=0->29<k1->v= {v1 with e:=8})/\(v1.e=0->k1<=29->k=(Cw k1).1+(uget (rowB bs n) (Cw k1).2 v1).1/\v=(uget (rowB bs n) (Cw k1).2 v1).2)):=Ab (by
  have:=Aa hr
  unfold Pa at this;rw[h1]at this;refine⟨fun e=> ?_,fun e e2=> ?_,fun e e2=> ?_⟩
  . rw[if_pos e]at this;exact(Prod.mk.inj this).2.symm
  . rw[if_neg (by simpa using e),if_pos e2]at this;exact(Prod.mk.inj this).2.symm
  . rw[if_neg (by simpa using e),if_neg (by omega)]at this;exact⟨(Prod.mk.inj this).1.symm,(Prod.mk.inj this).2.symm⟩)
 obtain⟨W1,hW1⟩:∃W1,w.alloc (.cells #[DV g1 g2,DV gr gm] 147)=W1:=⟨_,rfl⟩
 have hbl:=h.lt;have hbw:B<=w.heap.size:=by have:=h.base;omega
 have B1:Below w.heap.size w W1:=by rw[<-hW1];exact(Below.refl _ _).alloc (Nat.le_refl _) _
 have hK1:Kp No w W1:=fun g hg _=>B1.block g hg
 have hz1:W1.heap.size=w.heap.size+1:=by rw[<-hW1];simp
 have hnew:W1.heap[w.heap.size]? =some (.cells #[DV g1 g2,DV gr gm] 147 (0,0)):=by rw[<-hW1];exact heap_alloc_new _ _
 have cW1:W1.cell? ⟨w.heap.size,1,none⟩=some (DV gr gm):=Ac hnew;have I1:=h.grown (w':=W1) (by rw[<-hW1];exact World.grownBy_alloc w _ none);have R1:=hR.keep (by omega) hK1;have hgl:=hD.lt;have hml:=hD.is.lt;have D1:DIs W1 gr gm mb nn b l:=hD.keep (by omega) (B1.block gr (by omega)) (B1.block gm (by omega)) (B1.block mb (by omega));have HS:=Ab (Z7l No B b a n cap bs f1 f2 u W1 I1 R1 hp he gr gm mb nn l D1 hG hN (fun g hg=>hNo g (by omega)) k1 v1 (Ab h1));have HB1:=Ab (B1.mono hbw);have HK1:=Ab hK1;have HR1:=Ab R1;have HZ:=Ab hz1;clear h hR hp he hD hG hN hNo hr h1 B1 hK1 I1 R1 D1 hz1 hgl hml hnew;go_enter Tryz.func149,Tryz.ntmps149
 go_wp2_with fail
 refine(Aa HS).mono ?_;rintro e w2 hg
 rcases hg with ⟨e0,rfl,hU⟩|⟨e0,rfl,hBl⟩
 . have HU:=Ab hU;clear hU
   by_cases hk:29<k1
   . have hkI:(30:Int)<=(k1:Int):=by omega
     have hv:=(Aa HI).2.1 e0 hk;have HV:=Ab hv;clear hv HI;go_wp2_with fail
     refine(Bo 8 _).mono ?_;rintro e w3 ⟨rfl,rfl⟩;go_wp2;exact⟨rfl,.inr ⟨by rw[Aa HV];exact(by decide:(8:Int)≠0),by rw[Aa HV],(Aa HB1).trans (Aa HU).below,(Aa HK1).trans (Aa HU).kp (Aa HB1).size⟩⟩
   . have hkI:¬(30:Int)<=(k1:Int):=by omega
     obtain⟨hk1,hv⟩:=(Aa HI).2.2 e0 (by omega);obtain⟨hl1,hl2⟩:=Z92 k1 (by omega);obtain⟨r,v2,hg⟩:∃r v2,uget (rowB bs n) (Cw k1).2 v1=(r,v2):=⟨_,_,rfl⟩
     rw[hg]at hk1 hv;have HWR:=Ab (Hj No B b a n cap (Cw k1).2 (Cw k1).1 bs f1 f2 v1 w2 (Aa HU).is ((Aa HR1).keep (Aa HU).below.size (Aa HU).kp) hv1p e0 hl2 hl1 r v2 (Ab hg));have HLF:=Ab (Xr k1 w2 (by omega));have HKV:Hid (k=(Cw k1).1+r/\v=v2):=Ab ⟨hk1,hv⟩;clear hk1 hv hg HI hl1 hl2;generalize Cw k1=LF at*;obtain⟨L1,L2⟩:=LF;go_wp2_with fail
     refine(Aa HLF).mono ?_;rintro e w3 ⟨rfl,rfl⟩;go_wp2_with fail
     refine(Aa HWR).mono ?_;rintro e w4 hg;have HG4:=Ab (Got.from hg ((Aa HB1).trans (Aa HU).below) ((Aa HK1).trans (Aa HU).kp (Aa HB1).size))
     rcases hg with ⟨e4,rfl,hU4⟩|⟨e4,rfl,hB4⟩
     . clear hU4;go_wp2;go_ret;rw[(Aa HKV).1,(Aa HKV).2];exact Aa HG4
     . clear hB4;go_wp2;refine⟨rfl, ?_⟩;rw[(Aa HKV).1,(Aa HKV).2];exact Aa HG4
 . have HBl:=Ab hBl;have HV:=Ab ((Aa HI).1 e0);clear hBl;go_wp2;exact⟨rfl,.inr ⟨by rw[Aa HV];exact e0,by rw[Aa HV],(Aa HB1).trans (Aa HBl).below,(Aa HK1).trans (Aa HBl).kp (Aa HB1).size⟩⟩
theorem IIs.said {No:Nat->Prop}{B b c:Nat}{w w3:World}{R f1 f2 ov kv v':Value}{u:US}{o:Obj}(hb:B<=b)(hbn:¬No b)(hh:w.heap[b]? =some (.cells (icells R f1 f2 u ov kv) 149 (0,0)))
 (hov:w.ownsRow (b+1) 5 1 ov u.out.length (u8s u.out)) (hkv:w.ownsRow (b+1) 3 1 kv u.ks.length (i64s u.ks)) (hap:ov.ownBlock=none\/ov.ownBlock≠kv.ownBlock) (hn1:∀g,ov.ownBlock=some g->¬No g) (hn2:∀g,kv.ownBlock=some g->¬No g) (hNo:∀g,w.heap.size<=g->¬No g)
 (hO3:w3.ownsRow (b+1) 5 1 v' (u.out.length+1) (u8s u.out++ [.int .u8 (c:Int)])) (hgrow:(w.alloc o).grownBy w3 ov.ownBlock) (hspot:v'.ownBlock=ov.ownBlock\/v'.ownBlock=some (w.alloc o).heap.size):
 w3.cell? ⟨b,2,none⟩=some ov/\w3.frozen? ⟨b,2,none⟩=false/\IUp No B w b R f1 f2 {u with out:=u.out++ [c]} (w3.setCell ⟨b,2,none⟩ v'):=by
 have hbl:b<w.heap.size:=(Array.getElem?_eq_some_iff.1 hh).1
 have hVb:ov.ownBlock=none\/ov.ownBlock≠some b:=by
  cases hx:ov.ownBlock with
  |none=>exact .inl rfl
  |some g=>
   refine .inr (fun e=> ?_);have:=(hov.lt g hx).1
   cases e
   omega
 have hgb:w3.heap[b]? =some (.cells (icells R f1 f2 u ov kv) 149 (0,0)):=by
  rw[hgrow.block b (by simp;omega) (fun e=>by rcases hVb with h|h;rw[h]at e;cases e;exact h e.symm)];exact(Below.heap_alloc w _ b hbl).trans hh
 have hgw:∀g,g<w.heap.size->ov.ownBlock≠some g->w3.heap[g]? =w.heap[g]? :=fun g hg hne=>by
  rw[hgrow.block g (by simp;omega) (fun e=>hne e.symm)];exact Below.heap_alloc w _ g hg
 have hsz:=hgrow.size;simp only[World.size_alloc]at hsz hspot;have hset:=Ad w3 b 2 v'
 have hv'b:v'.ownBlock=none\/v'.ownBlock≠some b:=by
  cases hx:v'.ownBlock with
  |none=>exact .inl rfl
  |some g=>
   refine .inr (fun e=> ?_);have:=(hO3.lt g hx).1
   cases e
   omega
 have hk3:w3.ownsRow (b+1) 3 1 kv u.ks.length (i64s u.ks):=Ap hkv (fun g hg=>hgw g (hkv.lt g hg).2 (fun e=>by
  rcases hap with h|h
  . rw[h]at e;cases e
  . exact h (by rw[hg];exact e)))
 have hkb:kv.ownBlock=none\/kv.ownBlock≠some b:=by
  cases hx:kv.ownBlock with
  |none=>exact .inl rfl
  |some g=>
   refine .inr (fun e=> ?_);have:=(hkv.lt g hx).1
   cases e
   omega
 refine⟨Ac hgb,frozen_of_row w3 b 2 _ _ hgb,⟨hb,hbn,v',kv, ?_, ?_,hk3.kept hset hkb, ?_, ?_,hn2⟩, ?_, ?_⟩
 . rw[heap_setCell_same w3 b 2 _ _ _ hgb];rfl
 . have:=hO3.kept hset hv'b
   show (w3.setCell ⟨b,2,none⟩ v').ownsRow (b+1) 5 1 v' (u.out++ [c]).length (u8s (u.out++ [c]))
   rw[Z78,List.length_append];exact this
 . rcases hspot with h|h
   . rw[h];exact hap
   . refine .inr (fun e=> ?_);rw[h]at e;have:=(hkv.lt _ e.symm).2
     omega
 . intro g hg
   rcases hspot with h|h
   . exact hn1 g (by rw[<-h];exact hg)
   . rw[h]at hg;have:=Option.some.inj hg
     exact hNo g (by omega)
 . refine⟨hset.os.trans (hgrow.os.trans rfl),hset.tape.trans (hgrow.tape.trans rfl),hset.output.trans (hgrow.output.trans rfl),by have:=hset.size;omega, ?_⟩;intro g hg;rw[hset.block g (by omega) (fun e=>by simp at e;omega),hgw g (by omega) (fun e=>by have:=(hov.lt g e).1;omega)]
 . intro g h1 h2;rw[hset.block g (by omega) (fun e=>by simp at e;subst e;exact hbn h2),hgw g h1 (fun e=>hn1 g e h2)]
end Go.Proofs.YtcjbgpacnkilnaiGreatDoor
