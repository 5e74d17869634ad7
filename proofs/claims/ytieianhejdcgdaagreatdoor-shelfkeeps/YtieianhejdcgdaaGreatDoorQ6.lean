import Derived.Defers
import Derived.Recover
import Derived.Laws.Pointers
import Derived.Test.YtieianhejdcgdaaGreatDoorQ5
import Derived.Deep.RegionHeld3
import Derived.Deep.AppendLies
import Derived.Maps.AppendAt
set_option maxHeartbeats 4000000
namespace Go.Proofs.YtieianhejdcgdaaGreatDoor
open Go.RowKit
set_option linter.unusedVariables false
set_option maxRecDepth 100000
theorem Z4d (v:Value)(w:World):(Instr.typeAssert (.iface 314 v) 20 314 true).run Tryz.prog w=.ok (.tuple #[v,.bool true]) w:=by kernel_rfl
theorem Z4e (w:World):(Instr.typeAssert .nilIface 20 314 true).run Tryz.prog w=.ok (.tuple #[.agg #[.int .i64 0],.bool false]) w:=by kernel_rfl
theorem W0 (p:Addr)(x y:Int)(older:List PanicEntry)(w:World)(hc:w.cell? p=some (.int .i64 y))(hz:w.frozen? p=false)(hk:p.block<w.heap.size):
 CallsD Tryz.prog 237 #[.pointer (some p)] (.panicking ({v:=.iface 314 (.agg #[.int .i64 x]),recovered:=false}::older)) w fun e u' w'=>
  e=.returned (.tuple #[])/\u'=.panicking ({v:=.iface 314 (.agg #[.int .i64 x]),recovered:=true}::older)/\w'=(w.alloc (.cells #[.int .i64 x] 314)).setCell p (.int .i64 x):=by
 refine callsD_of_wpS Tryz.func237 rfl fun c₀ cs hu=> ?_
 apply wpS_seq
 apply wpS_region
 simp[wpOpsS,go_sem,recoverD,hu,Tryz.ntmps237,Exit.thenS]
 apply wpS_seq
 apply wpS_region
 simp[wpOpsS,go_sem,Z4d,Exit.thenS,Array.replicate]
 apply wpS_seq
 apply wpS_region
 simp[wpOpsS,go_sem,Exit.thenS]
 refine wpS_cond (t:=true) (by simp[Act.eval]) ?_;simp only[if_true];have hc':=(World.cell?_alloc_lt w (.cells #[Value.int .i64 x] 314) p hk).trans hc;have hz':=(frozen?_alloc_cells w #[Value.int .i64 x] 314 p).trans hz;apply wpS_region
 simp[wpOpsS,go_sem,hc',hz',bodyPostS,results,Tryz.results237]
theorem GL (p:Addr)(w:World):
 CallsD Tryz.prog 237 #[.pointer (some p)] .returning w fun e u' w'=>
  e=.returned (.tuple #[])/\u'=.returning/\w'=w.alloc (.cells #[.int .i64 0] 314):=by
 refine callsD_of_wpS Tryz.func237 rfl fun c₀ cs hu=> ?_
 apply wpS_seq
 apply wpS_region
 simp[wpOpsS,go_sem,recoverD,hu,Tryz.ntmps237,Exit.thenS]
 apply wpS_seq
 apply wpS_region
 simp[wpOpsS,go_sem,Z4e,Exit.thenS,Array.replicate]
 apply wpS_seq
 apply wpS_region
 simp[wpOpsS,go_sem,Exit.thenS]
 refine wpS_cond (t:=false) (by simp[Act.eval]) ?_;simp only[Bool.false_eq_true,if_false];apply wpS_seq
 apply wpS_region
 simp[wpOpsS,go_sem,Exit.thenS]
 refine wpS_cond (t:=false) (by simp[Act.eval]) ?_;simp only[Bool.false_eq_true,if_false];refine wpS_of_wp (wp_skip ?_)
 cases c₀
 simp_all [bodyPostS,results,Tryz.results237]
theorem GK (kf:Nat)(br:Array Value)(Q:Nat->World->Prop)(w:World)(hf:∀(args:Array Value) (w:World),(callFunc kf args).run Tryz.prog w=.ok (.enter kf args) w)
 (hr:Calls Tryz.prog kf br (w.alloc (.cells #[.int .i64 0] 24)) fun e w'=>(∃x,Q x w'/\((x=0/\e=.returned (.tuple #[]))\/ (x≠0/\e=Flt x)))/\w'.heap[w.heap.size]? =some (.cells #[.int .i64 0] 24 (0,0))):
 Calls Tryz.prog 212 #[.func (.func kf) br #[]] w fun e w''=>∃x w',Q x w'/\e=.returned (.int .i64 (x:Int))/\w'.heap.size<=w''.heap.size/\(∀j,j<w'.heap.size->j≠w.heap.size->(w''.heap[j]? =w'.heap[j]?))/\∀B,B<=w.heap.size->Below B w' w'':=by
 have hmf:∀(fn:Fn) (first cap:Array Value) (w:World),(Instr.makeFunc fn first cap).run Tryz.prog w=.ok (.func fn first cap) w:=fun _ _ _ _=>rfl
 go_enter_defers Tryz.func212,Tryz.ntmps212
 go_wp2;refine hr.mono ?_;rintro e w' ⟨⟨x,hq,hx⟩,hb⟩;have hlt:w.heap.size<w'.heap.size:=(VG.1 hb).1;have hcl:w'.cell? ⟨w.heap.size,0,none⟩=some (.int .i64 0):=by simp[World.cell?,hb]
 have hzl:w'.frozen? ⟨w.heap.size,0,none⟩=false:=by simp[World.frozen?,hb]
 rcases hx with ⟨rfl,rfl⟩|⟨hx,rfl⟩
 . go_wp2;refine leaves_cons (f:=237) (args:= #[.pointer (some ⟨w.heap.size,0,none⟩)]) (by simp) (by simp[go_sem]) ?_;refine(GL ⟨w.heap.size,0,none⟩ _).mono ?_;rintro e u' w'' ⟨rfl,rfl,rfl⟩;have c1:((w'.setCell ⟨w.heap.size,0,none⟩ (.int .i64 0)).alloc (.cells #[.int .i64 0] 314)).cell? ⟨w.heap.size,0,none⟩=some (.int .i64 0):=(World.cell?_alloc_lt _ _ _ (by simpa using hlt)).trans (World.cell?_setCell_same _ _ _ hcl);simp[Leaves,settle,results,Tryz.results212,go_sem,c1]
   refine⟨0,w',hq,rfl,by omega,fun j hj hn=> ?_,fun B hB=> ?_⟩
   rotate_left
   . have hb1:=(Below.refl B w').grown (Ad w' w.heap.size 0 (.int .i64 0)) (by omega) (fun g e=>by cases e;exact hB);exact hb1.alloc (by simp;omega) _
   exact(Below.heap_alloc _ _ j (by simpa using hj)).trans (Below.heap_setCell _ _ _ j hn)
 . go_wp2;refine leaves_cons (f:=237) (args:= #[.pointer (some ⟨w.heap.size,0,none⟩)]) (by simp) (by simp[go_sem]) ?_;refine(W0 ⟨w.heap.size,0,none⟩ x 0 [] _ hcl hzl hlt).mono ?_;rintro e u' w'' ⟨rfl,rfl,rfl⟩;have c1:((w'.alloc (.cells #[.int .i64 (x:Int)] 314)).setCell ⟨w.heap.size,0,none⟩ (.int .i64 (x:Int))).cell? ⟨w.heap.size,0,none⟩=some (.int .i64 (x:Int)):=World.cell?_setCell_same _ _ _ ((World.cell?_alloc_lt _ _ _ hlt).trans hcl);have hw:∀j,j<w'.heap.size->¬j=w.heap.size->((w'.alloc (.cells #[.int .i64 (x:Int)] 314)).setCell ⟨w.heap.size,0,none⟩ (.int .i64 (x:Int))).heap[j]? =w'.heap[j]? :=fun j hj hn=>(Below.heap_setCell _ _ _ j hn).trans (Below.heap_alloc _ _ j hj)
   have hs:((w'.alloc (.cells #[.int .i64 (x:Int)] 314)).setCell ⟨w.heap.size,0,none⟩ (.int .i64 (x:Int))).heap.size=w'.heap.size+1:=by simp
   have hbl:∀B,B<=w.heap.size->Below B w' ((w'.alloc (.cells #[.int .i64 (x:Int)] 314)).setCell ⟨w.heap.size,0,none⟩ (.int .i64 (x:Int))):=fun B hB=>
    ((Below.refl B w').alloc (by omega) _).grown (Ad _ w.heap.size 0 _) (by simp;omega) (fun g e=>by cases e;exact hB)
   generalize (w'.alloc (.cells #[.int .i64 (x:Int)] 314)).setCell ⟨w.heap.size,0,none⟩ (.int .i64 (x:Int))=W at c1 hw hs hbl ⊢;simp[Leaves,settle,results,Tryz.results212,go_sem,c1]
   exact⟨x,w',hq,rfl,by omega,hw,hbl⟩
theorem IIs.rows {No:Nat->Prop}{B b:Nat}{w:World}{R f1 f2:Value}{u:US}(h:IIs No B w b R f1 f2 u):∃ov kv,w.cell? ⟨b,2,none⟩=some ov/\w.cell? ⟨b,3,none⟩=some kv/\w.heap[b]? =some (.cells (icells R f1 f2 u ov kv) 288 (0,0))/\w.ownsRow (b+1) 5 1 ov u.out.length (u8s u.out)/\w.ownsRow (b+1) 3 1 kv u.ks.length (i64s u.ks)/\(ov.ownBlock=none\/ov.ownBlock≠kv.ownBlock)/\(∀g,ov.ownBlock=some g->¬No g)/\(∀g,kv.ownBlock=some g->¬No g):=by
 obtain⟨ov,kv,h1,h2⟩:=h.ex;exact⟨ov,kv,Ac h1,Ac h1,h1,h2⟩
theorem Rf (No:Nat->Prop)(B b m:Nat)(R f1 f2:Value)(u:US)(w:World)(h:IIs No B w b R f1 f2 u)(ho:u.out.length<=3000)(hm:m<=65535):
 Calls Tryz.prog 273 #[.pointer (some ⟨b,0,none⟩),.int .i64 (m:Int)] w fun e w'=>w'=w/\((u.out.length+m<=3000/\e=.returned (.tuple #[]))\/ (3000<u.out.length+m/\e=Flt 2)):=by
 obtain⟨ov,kv,c2,c3,hh,hov,hkv,hap,hn1,hn2⟩:=h.rows;obtain⟨a,cc,rfl⟩:=Ao hov;clear h hh hov hkv hap hn1 hn2 c3;have HG:=Ab (Bw 2 w)
 by_cases hl:u.out.length+m<=3000
 . go_enter Tryz.func273,Tryz.ntmps273
   go_wp2;go_end0
   exact⟨rfl,.inl ⟨hl,rfl⟩⟩
 . go_enter Tryz.func273,Tryz.ntmps273
   go_wp2_with fail
   refine(Aa HG).mono ?_;rintro e w' ⟨rfl,rfl⟩;go_wp2;exact⟨rfl,rfl,.inr ⟨by omega,rfl⟩⟩
theorem NQ:∀g∈ [2,4],∀s∈List.range 41,
 (0<=wrap64 (wrap64 ((s:Int)/(g:Nat))-1)->IntKind.i64.wrap (wrap64 ((s:Int)-wrap64 ((g:Int)*wrap64 (wrap64 ((s:Int)/(g:Nat))-1)))*2^min (wrap64 (wrap64 ((s:Int)/(g:Nat))-1)).toNat 64)=(((s-g*(s/g-1))*2^(s/g-1):Nat):Int)/\wrap64 (wrap64 ((s:Int)/(g:Nat))-1)=((s/g-1:Nat):Int))/\
 (wrap64 (wrap64 ((s:Int)/(g:Nat))-1)<0->IntKind.i64.wrap (wrap64 ((s:Int)-wrap64 0))=(((s-g*(s/g-1))*2^(s/g-1):Nat):Int)/\(0:Int)=((s/g-1:Nat):Int)):=by decide+kernel
theorem Rr (s g z:Nat)(w:World)(hg:g=2\/g=4)(hs:s<=40)(hz:z=s/g-1):
 Calls Tryz.prog 287 #[.int .i64 (s:Int),.int .i64 (g:Int)] w fun e w'=>w'=w/\e=.returned (.tuple #[.int .i64 (((s-g*z)*2^z:Nat):Int),.int .i64 (z:Int)]):=by
 subst hz;have HK:=Ab (NQ g (by rcases hg with rfl|rfl<;>simp) s (by simp;omega));go_enter Tryz.func287,Tryz.ntmps287
 go_wp2
 all_goals first
  | (obtain⟨k1,k2⟩:=(Aa HK).1 h
     rw[k1,k2];go_ret2;exact⟨rfl,rfl⟩)
  | (obtain⟨k1,k2⟩:=(Aa HK).2 h
     rw[k1];go_ret2;refine⟨rfl, ?_⟩;show Ending.returned (.tuple #[.int .i64 (((s-g*(s/g-1))*2^(s/g-1):Nat):Int),.int .i64 0])=_
     rw[<-k2])
def Cw (s:Nat):Nat×Nat:=if s=285 then (258,0)else (3+((s-257)-4*((s-257)/4-1))*2^((s-257)/4-1),(s-257)/4-1)
def Cy (s:Nat):Nat×Nat:=(1+(s-2*(s/2-1))*2^(s/2-1),s/2-1)
theorem Xb (s:Nat)(w:World)(h1:257<=s)(h2:s<=285):
 Calls Tryz.prog 275 #[.int .i64 (s:Int)] w fun e w'=>w'=w/\e=.returned (.tuple #[.int .i64 ((Cw s).1:Int),.int .i64 ((Cw s).2:Int)]):=by
 by_cases h5:s=285
 . subst h5;go_enter Tryz.func275,Tryz.ntmps275
   go_wp2;go_ret2;exact⟨rfl,rfl⟩
 . have HF:=Ab (Rr (s-257) 4 _ w (.inr rfl) (by omega) rfl);have HL:Hid (Cw s=(3+((s-257)-4*((s-257)/4-1))*2^((s-257)/4-1),(s-257)/4-1)):=Ab (by unfold Cw;rw[if_neg h5])
   have hb:((s-257)-4*((s-257)/4-1))*2^((s-257)/4-1)<=300:=by
    have:∀k∈List.range 29,(k-4*(k/4-1))*2^(k/4-1)<=300:=by decide+kernel
    exact this (s-257) (by simp;omega)
   generalize ((s-257)-4*((s-257)/4-1))*2^((s-257)/4-1)=y at HF HL hb;generalize (s-257)/4-1=z at HF HL;have e1:((s-257:Nat):Int)=(s:Int)-257:=by omega
   rw[e1]at HF;go_enter Tryz.func275,Tryz.ntmps275
   go_wp2_with fail
   refine(Aa HF).mono ?_;rintro e w' ⟨rfl,rfl⟩;go_wp2;go_ret2;refine⟨rfl, ?_⟩;rw[Aa HL];go_num
theorem D5 (s:Nat)(w:World)(h2:s<=29):
 Calls Tryz.prog 288 #[.int .i64 (s:Int)] w fun e w'=>w'=w/\e=.returned (.tuple #[.int .i64 ((Cy s).1:Int),.int .i64 ((Cy s).2:Int)]):=by
 have HF:=Ab (Rr s 2 _ w (.inl rfl) (by omega) rfl);have HL:Hid (Cy s=(1+(s-2*(s/2-1))*2^(s/2-1),s/2-1)):=Ab rfl
 have hb:(s-2*(s/2-1))*2^(s/2-1)<=40000:=by
  have:∀k∈List.range 30,(k-2*(k/2-1))*2^(k/2-1)<=40000:=by decide+kernel
  exact this s (by simp;omega)
 generalize (s-2*(s/2-1))*2^(s/2-1)=y at HF HL hb;generalize s/2-1=z at HF HL;go_enter Tryz.func288,Tryz.ntmps288
 go_wp2_with fail
 refine(Aa HF).mono ?_;rintro e w' ⟨rfl,rfl⟩;go_wp2;go_ret2;refine⟨rfl, ?_⟩;rw[Aa HL];go_num
theorem LZ (s:Nat)(h1:257<=s)(h2:s<=285):Cw s=samesL.getD (s-257) (0,0):=by
 have:∀k∈List.range 29,Cw (k+257)=samesL.getD k (0,0):=by decide+kernel
 have:=this (s-257) (by simp;omega)
 rwa [Nat.sub_add_cancel h1]at this
theorem MD (s:Nat)(h2:s<=29):Cy s=farsL.getD s (0,0):=by
 have:∀k∈List.range 30,Cy k=farsL.getD k (0,0):=by decide+kernel
 exact this s (by simp;omega)
theorem My (row:List Bool)(n:Nat)(u:US):(uget row n u).1<2^n:=by
 have h0:0<2^n:=ZD n;unfold uget
 split
 . split
   . exact h0
   . exact VK (Lk _) (VV (by decide) (by rw[VL];exact ZE _ _))
 . exact h0
theorem Ie (No:Nat->Prop)(B b:Nat)(a:Option Addr)(n cap size l:Nat)(bs:List Nat)(f1 f2:Value)(u:US)(w:World)(h:IIs No B w b (.slice a n cap) f1 f2 u)(hR:Rd w No a n bs)(hp:u.p<=8*n)(he:u.e=0)(hs:size<=16)(hl:l<=40000)(r:Nat)(v:US)(hr:Hid (uget (rowB bs n) size u=(r,v))):
 Calls Tryz.prog 274 #[.pointer (some ⟨b,0,none⟩),.int .i64 (l:Int),.int .i64 (size:Int)] w fun e w'=>Got No B w b (.slice a n cap) f1 f2 (.int .i64 ((l+r:Nat):Int)) v e w':=by
 have HN:=Ab (Dt No B b a n cap size bs f1 f2 u w h hR hp he hs r v hr)
 have hrl:r<65536:=by
  have:=My (rowB bs n) size u
  rw[Aa hr]at this;exact VK this (VV (j:=16) (by decide) hs)
 clear h hR hp he hs hr;go_enter Tryz.func274,Tryz.ntmps274
 go_wp2_with fail
 refine(Aa HN).mono ?_;rintro e w2 hg
 rcases hg with ⟨e0,rfl,hU⟩|⟨e0,rfl,hBl⟩
 . have HU:=Ab hU;clear hU;go_wp2;go_ret;exact .inl ⟨e0,by go_num,Aa HU⟩
 . have HB:=Ab hBl;clear hBl;go_wp2;exact⟨rfl,.inr ⟨e0,rfl,Aa HB⟩⟩
def Ok (row:List Bool)(lb:List Int)(u:US):Nat×US:=
 if (uplace lb row u).2.e≠0 then (0,(uplace lb row u).2)
 else if 29<(uplace lb row u).1 then (0,{(uplace lb row u).2 with e:=8})
 else ((Cy (uplace lb row u).1).1+(uget row (Cy (uplace lb row u).1).2 (uplace lb row u).2).1,(uget row (Cy (uplace lb row u).1).2 (uplace lb row u).2).2)
theorem AW (l:List Int)(row:List Bool)(p:Nat)(hp:p<=row.length):∀f n,p+(Fe l row p f n).2.1<=row.length
 |0,n=>by simpa[Fe]using hp
 |f+1,n=>by
  unfold Fe
  split
  . simpa using hp
  . split
    . show p+n<=row.length
      omega
    . exact AW l row p hp f (n+1)
theorem Ih (l:List Int)(row:List Bool)(u:US)(hp:u.p<=row.length):(uplace l row u).2.p<=row.length:=by
 unfold uplace
 split
 . exact AW l row u.p hp 15 1
 . exact hp
theorem MC:∀k,k<=29->(Cy k).1<=40000/\(Cy k).2<=16:=by decide
theorem Got.from {No:Nat->Prop}{B b:Nat}{w w1 w':World}{R f1 f2 v:Value}{u:US}{e:Ending}(h:Got No B w1 b R f1 f2 v u e w')(hB:Below B w w1)(hK:Kp No w w1):Got No B w b R f1 f2 v u e w':=by
 rcases h with ⟨h1,h2,h3⟩|⟨h1,h2,h3⟩
 . exact .inl ⟨h1,h2,h3.is,hB.trans h3.below,hK.trans h3.kp hB.size⟩
 . exact .inr ⟨h1,h2,hB.trans h3.below,hK.trans h3.kp hB.size⟩
theorem U0 (No:Nat->Prop)(B b:Nat)(a:Option Addr)(n cap:Nat)(bs:List Nat)(f1 f2:Value)(u:US)(w:World)(h:IIs No B w b (.slice a n cap) f1 f2 u)(hR:Rd w No a n bs)(hp:u.p<=8*n)(he:u.e=0)(g1 g2 gr gm mb nn:Nat)(l:List Int)(hD:DIs w gr gm mb nn b l)(hG:Good l)(hN:No gr/\No gm/\No mb)(hNo:∀g,w.heap.size<=g->¬No g)(k:Nat)(v:US)(hr:Hid (Ok (rowB bs n) l u=(k,v))):
 Calls Tryz.prog 277 #[.pointer (some ⟨b,0,none⟩),.agg #[DV g1 g2,DV gr gm]] w fun e w'=>Got No B w b (.slice a n cap) f1 f2 (.int .i64 (k:Int)) v e w':=by
 have hrl:=Ag bs n;obtain⟨k1,v1,h1⟩:∃k1 v1,uplace l (rowB bs n) u=(k1,v1):=⟨_,_,rfl⟩
 have hv1p:v1.p<=8*n:=by
  have:=Ih l (rowB bs n) u (by omega)
  rw[h1,hrl]at this;exact this
 have HI:Hid ((v1.e≠0->v=v1)/\(v1.e=0->29<k1->v= {v1 with e:=8})/\(v1.e=0->k1<=29->k=(Cy k1).1+(uget (rowB bs n) (Cy k1).2 v1).1/\v=(uget (rowB bs n) (Cy k1).2 v1).2)):=Ab (by
  have:=Aa hr
  unfold Ok at this;rw[h1]at this;refine⟨fun e=> ?_,fun e e2=> ?_,fun e e2=> ?_⟩
  . rw[if_pos e]at this;exact(VU this).2.symm
  . rw[if_neg (by simpa using e),if_pos e2]at this;exact(VU this).2.symm
  . rw[if_neg (by simpa using e),if_neg (by omega)]at this;exact⟨(VU this).1.symm,(VU this).2.symm⟩)
 obtain⟨W1,hW1⟩:∃W1,w.alloc (.cells #[DV g1 g2,DV gr gm] 286)=W1:=⟨_,rfl⟩
 have hbl:=h.lt;have hbw:B<=w.heap.size:=by have:=h.base;omega
 have B1:Below w.heap.size w W1:=by rw[<-hW1];exact(Below.refl _ _).alloc (VC _) _
 have hK1:Kp No w W1:=fun g hg _=>B1.block g hg
 have hz1:W1.heap.size=w.heap.size+1:=by rw[<-hW1];simp
 have hnew:W1.heap[w.heap.size]? =some (.cells #[DV g1 g2,DV gr gm] 286 (0,0)):=by rw[<-hW1];exact heap_alloc_new _ _
 have cW1:W1.cell? ⟨w.heap.size,1,none⟩=some (DV gr gm):=Ac hnew;have I1:=h.grown (w':=W1) (by rw[<-hW1];exact World.grownBy_alloc w _ none);have R1:=hR.keep (by omega) hK1;have hgl:=hD.lt;have hml:=hD.is.lt;have D1:DIs W1 gr gm mb nn b l:=hD.keep (by omega) (B1.block gr (by omega)) (B1.block gm (by omega)) (B1.block mb (by omega));have HS:=Ab (JO No B b a n cap bs f1 f2 u W1 I1 R1 hp he gr gm mb nn l D1 hG hN (fun g hg=>hNo g (by omega)) k1 v1 (Ab h1));have HB1:=Ab (B1.mono hbw);have HK1:=Ab hK1;have HR1:=Ab R1;have HZ:=Ab hz1;clear h hR hp he hD hG hN hNo hr h1 B1 hK1 I1 R1 D1 hz1 hgl hml hnew;go_enter Tryz.func277,Tryz.ntmps277
 go_wp2_with fail
 refine(Aa HS).mono ?_;rintro e w2 hg
 rcases hg with ⟨e0,rfl,hU⟩|⟨e0,rfl,hBl⟩
 . have HU:=Ab hU;clear hU
   by_cases hk:29<k1
   . have hkI:(30:Int)<=(k1:Int):=by omega
     have hv:=(Aa HI).2.1 e0 hk;have HV:=Ab hv;clear hv HI;go_wp2_with fail
     refine(Bw 8 _).mono ?_;rintro e w3 ⟨rfl,rfl⟩;go_wp2;exact⟨rfl,.inr ⟨by rw[Aa HV];exact(by decide:(8:Int)≠0),by rw[Aa HV],(Aa HB1).trans (Aa HU).below,(Aa HK1).trans (Aa HU).kp (Aa HB1).size⟩⟩
   . have hkI:¬(30:Int)<=(k1:Int):=by omega
     obtain⟨hk1,hv⟩:=(Aa HI).2.2 e0 (by omega);obtain⟨hl1,hl2⟩:=MC k1 (by omega);obtain⟨r,v2,hg⟩:∃r v2,uget (rowB bs n) (Cy k1).2 v1=(r,v2):=⟨_,_,rfl⟩
     rw[hg]at hk1 hv;have HWR:=Ab (Ie No B b a n cap (Cy k1).2 (Cy k1).1 bs f1 f2 v1 w2 (Aa HU).is ((Aa HR1).keep (Aa HU).below.size (Aa HU).kp) hv1p e0 hl2 hl1 r v2 (Ab hg));have HLF:=Ab (D5 k1 w2 (by omega));have HKV:Hid (k=(Cy k1).1+r/\v=v2):=Ab ⟨hk1,hv⟩;clear hk1 hv hg HI hl1 hl2;generalize Cy k1=LF at*;obtain⟨L1,L2⟩:=LF;go_wp2_with fail
     refine(Aa HLF).mono ?_;rintro e w3 ⟨rfl,rfl⟩;go_wp2_with fail
     refine(Aa HWR).mono ?_;rintro e w4 hg;have HG4:=Ab (Got.from hg ((Aa HB1).trans (Aa HU).below) ((Aa HK1).trans (Aa HU).kp (Aa HB1).size))
     rcases hg with ⟨e4,rfl,hU4⟩|⟨e4,rfl,hB4⟩
     . clear hU4;go_wp2;go_ret;rw[(Aa HKV).1,(Aa HKV).2];exact Aa HG4
     . clear hB4;go_wp2;refine⟨rfl, ?_⟩;rw[(Aa HKV).1,(Aa HKV).2];exact Aa HG4
 . have HBl:=Ab hBl;have HV:=Ab ((Aa HI).1 e0);clear hBl;go_wp2;exact⟨rfl,.inr ⟨by rw[Aa HV];exact e0,by rw[Aa HV],(Aa HB1).trans (Aa HBl).below,(Aa HK1).trans (Aa HBl).kp (Aa HB1).size⟩⟩
theorem IIs.said {No:Nat->Prop}{B b c:Nat}{w w3:World}{R f1 f2 ov kv v':Value}{u:US}{o:Obj}(hb:B<=b)(hbn:¬No b)(hh:w.heap[b]? =some (.cells (icells R f1 f2 u ov kv) 288 (0,0)))
 (hov:w.ownsRow (b+1) 5 1 ov u.out.length (u8s u.out)) (hkv:w.ownsRow (b+1) 3 1 kv u.ks.length (i64s u.ks)) (hap:ov.ownBlock=none\/ov.ownBlock≠kv.ownBlock) (hn1:∀g,ov.ownBlock=some g->¬No g) (hn2:∀g,kv.ownBlock=some g->¬No g) (hNo:∀g,w.heap.size<=g->¬No g)
 (hO3:w3.ownsRow (b+1) 5 1 v' (u.out.length+1) (u8s u.out++ [.int .u8 (c:Int)])) (hgrow:(w.alloc o).grownBy w3 ov.ownBlock) (hspot:v'.ownBlock=ov.ownBlock\/v'.ownBlock=some (w.alloc o).heap.size):
 w3.cell? ⟨b,2,none⟩=some ov/\w3.frozen? ⟨b,2,none⟩=false/\IUp No B w b R f1 f2 {u with out:=u.out++ [c]} (w3.setCell ⟨b,2,none⟩ v'):=by
 have hbl:b<w.heap.size:=(VG.1 hh).1
 have hVb:ov.ownBlock=none\/ov.ownBlock≠some b:=by
  cases hx:ov.ownBlock with
  |none=>exact .inl rfl
  |some g=>
   refine .inr (fun e=> ?_);have:=(hov.lt g hx).1
   cases e
   omega
 have hgb:w3.heap[b]? =some (.cells (icells R f1 f2 u ov kv) 288 (0,0)):=by
  rw[hgrow.block b (by simp;omega) (fun e=>by rcases hVb with h|h;rw[h]at e;cases e;exact h e.symm)];exact(Below.heap_alloc w _ b hbl).trans hh
 have hgw:∀g,g<w.heap.size->ov.ownBlock≠some g->w3.heap[g]? =w.heap[g]? :=fun g hg hne=>by
  rw[hgrow.block g (by simp;omega) (fun e=>hne e.symm)];exact Below.heap_alloc w _ g hg
 have hsz:=hgrow.size;simp only[World.size_alloc]at hsz hspot;have hset:=Ad w3 b 2 v'
 have hv'b:v'.ownBlock=none\/v'.ownBlock≠some b:=by
  cases hx:v'.ownBlock with
  |none=>exact .inl rfl
  |some g=>
   refine .inr (fun e=> ?_);have:=(hO3.lt g hx).1
   cases e
   omega
 have hk3:w3.ownsRow (b+1) 3 1 kv u.ks.length (i64s u.ks):=Ar hkv (fun g hg=>hgw g (hkv.lt g hg).2 (fun e=>by
  rcases hap with h|h
  . rw[h]at e;cases e
  . exact h (by rw[hg];exact e)))
 have hkb:kv.ownBlock=none\/kv.ownBlock≠some b:=by
  cases hx:kv.ownBlock with
  |none=>exact .inl rfl
  |some g=>
   refine .inr (fun e=> ?_);have:=(hkv.lt g hx).1
   cases e
   omega
 refine⟨Ac hgb,frozen_of_row w3 b 2 _ _ hgb,⟨hb,hbn,v',kv, ?_, ?_,hk3.kept hset hkb, ?_, ?_,hn2⟩, ?_, ?_⟩
 . rw[heap_setCell_same w3 b 2 _ _ _ hgb];rfl
 . have:=hO3.kept hset hv'b
   show (w3.setCell ⟨b,2,none⟩ v').ownsRow (b+1) 5 1 v' (u.out++ [c]).length (u8s (u.out++ [c]))
   rw[IY,VB];exact this
 . rcases hspot with h|h
   . rw[h];exact hap
   . refine .inr (fun e=> ?_);rw[h]at e;have:=(hkv.lt _ e.symm).2
     omega
 . intro g hg
   rcases hspot with h|h
   . exact hn1 g (by rw[<-h];exact hg)
   . rw[h]at hg;have:=VN hg
     exact hNo g (by omega)
 . refine⟨hset.os.trans (hgrow.os.trans rfl),hset.tape.trans (hgrow.tape.trans rfl),hset.output.trans (hgrow.output.trans rfl),by have:=hset.size;omega, ?_⟩;intro g hg;rw[hset.block g (by omega) (fun e=>by simp at e;omega),hgw g (by omega) (fun e=>by have:=(hov.lt g e).1;omega)]
 . intro g h1 h2;rw[hset.block g (by omega) (fun e=>by simp at e;subst e;exact hbn h2),hgw g h1 (fun e=>hn1 g e h2)]
end Go.Proofs.YtieianhejdcgdaaGreatDoor
namespace Go.Proofs.YtieianhejdcgdaaGreatDoor
open Go.RowKit
set_option linter.unusedVariables false
set_option maxRecDepth 100000
set_option linter.unusedSimpArgs false
def De (row:List Bool)(u:US):Nat×US:=
 let n:=uget row 16 {u with p:=(u.p+7)/8*8}
 let t:=uget row 16 n.2
 (n.1,if t.2.e=0/\n.1+t.1≠65535 then Ay 4 t.2 else t.2)
def Cs (row:List Bool)(u:US):US:=
 let x:=De row u
 if x.2.e=0/\3000<x.2.out.length+x.1 then Ay 2 x.2 else ustore row x.1 x.2
theorem U1 (a b:Nat)(ha:a<4611686018427387904)(hb:b<4611686018427387904):bits .xor .i64 (a:Int) (b:Int)=((a^^^b:Nat):Int):=by
 have hx:a^^^b<2^62:=Nat.xor_lt_two_pow (by omega) (by omega);show IntKind.i64.wrap ((BitVec.ofInt 64 (a:Int)^^^BitVec.ofInt 64 (b:Int)).toNat:Int)=_
 rw[BitVec.toNat_xor,Hd a ha,Hd b hb];exact Gi _ (by omega)
theorem IA (a:Nat)(h:a<65536):a^^^65535=65535-a:=by
 have h1:((BitVec.ofNat 16 a)^^^(BitVec.allOnes 16)).toNat=(~~~ (BitVec.ofNat 16 a)).toNat:=by rw[BitVec.xor_allOnes]
 rw[BitVec.toNat_xor,BitVec.toNat_not,BitVec.toNat_ofNat,BitVec.toNat_allOnes,Nat.mod_eq_of_lt (by simpa using h)]at h1;exact h1
theorem Z1h (a b:Nat)(ha:a<65536)(hb:b<65536):a^^^b=65535↔a+b=65535:=by
 constructor
 . intro h;have e:b=a^^^(a^^^b):=by rw[<-ZF,Nat.xor_self,Nat.zero_xor]
   rw[h,IA a ha]at e;omega
 . intro h;have e:b=a^^^65535:=by rw[IA a ha];omega
   rw[e,<-ZF,Nat.xor_self,Nat.zero_xor]
theorem Fk (row:List Bool)(k:Nat)(u:US)(h:u.e≠0):ustore row k u=u:=by
 cases k with
 |zero=>rfl
 |succ k=>unfold ustore;rw[if_neg h]
theorem Gp (row:List Bool)(n:Nat)(u:US)(h:u.p<=row.length):(uget row n u).2.p<=row.length:=by
 unfold uget
 split
 . split
   . exact h
   . show u.p+n<=row.length;omega
 . exact h
theorem Cg (row:List Bool)(n:Nat)(u:US):(uget row n u).2.out=u.out:=by
 unfold uget
 split
 . split<;>rfl
 . rfl
theorem Ff (row:List Bool)(n:Nat)(u:US)(h:u.e≠0):(uget row n u).2=u:=by
 unfold uget;rw[if_neg h]
theorem Um (row:List Bool)(u v1 v2:US)(p' r1 r2:Nat)(hp:(u.p+7)/8*8=p')(h1:uget row 16 {u with p:=p'}=(r1,v1))(h2:uget row 16 v1=(r2,v2)):
 Cs row u=if v2.e≠0 then v2 else if r1+r2≠65535 then {v2 with e:=4}else if 3000<v2.out.length+r1 then {v2 with e:=2}else ustore row r1 v2:=by
 have hx:De row u=(r1,if v2.e=0/\r1+r2≠65535 then Ay 4 v2 else v2):=by
  simp only[De,hp,h1,h2]
 unfold Cs;simp only[hx]
 by_cases e:v2.e=0
 . by_cases e2:r1+r2=65535
   . by_cases e3:3000<v2.out.length+r1
     . simp[e,e2,e3,Ay]
     . simp[e,e2,e3]
   . simp[e,e2,Ay,Fk]
 . simp[e,Fk]
theorem DJ (No:Nat->Prop)(B b:Nat)(a:Option Addr)(n cap:Nat)(bs:List Nat)(f1 f2:Value)(u:US)(w:World)(h:IIs No B w b (.slice a n cap) f1 f2 u)(hR:Rd w No a n bs)(hp:u.p<=8*n)(he:u.e=0)(ho:u.out.length<=3000)(hNo:∀g,w.heap.size<=g->¬No g)(hbB:B<=b)(V:US)(hV:Hid (Cs (rowB bs n) u=V)):
 Calls Tryz.prog 257 #[.pointer (some ⟨b,0,none⟩)] w fun e w'=>Got No B w b (.slice a n cap) f1 f2 (.tuple #[]) V e w':=by
 obtain⟨c0,c1,fr⟩:=h.cell;have fr1:=fr 1;have hfew:=hR.few;have H:=Ab h;have HR:=Ab hR;have HNo:=Ab hNo;have HE:=Ab he;clear h hR fr hNo he;obtain⟨p,hpp⟩:∃p,u.p=p:=⟨_,rfl⟩
 rw[hpp]at c1 hp;have hw8:wrap64 ((((p:Int)+7)/8)*8)=(((p+7)/8*8:Nat):Int):=by unfold wrap64;omega
 obtain⟨p',hp'⟩:∃p',(p+7)/8*8=p':=⟨_,rfl⟩
 have hp8:p'<=8*n:=by omega
 have h0:=Ab ((Aa H).setP p');have hrl:=Ag bs n;obtain⟨r1,v1,hr1⟩:∃r v,Hid (uget (rowB bs n) 16 {u with p:=p'}=(r,v)):=⟨_,_,Ab rfl⟩
 obtain⟨r2,v2,hr2⟩:∃r v,Hid (uget (rowB bs n) 16 v1=(r,v)):=⟨_,_,Ab rfl⟩
 have hb1:r1<65536:=by have:=My (rowB bs n) 16 {u with p:=p'};rw[Aa hr1]at this;exact this
 have hb2:r2<65536:=by have:=My (rowB bs n) 16 v1;rw[Aa hr2]at this;exact this
 have hq1:v1.p<=8*n:=by have:=Gp (rowB bs n) 16 {u with p:=p'} (by rw[hrl];exact hp8);rw[Aa hr1,hrl]at this;exact this
 have hq2:v2.p<=8*n:=by have:=Gp (rowB bs n) 16 v1 (by rw[hrl];exact hq1);rw[Aa hr2,hrl]at this;exact this
 have ho1:v1.out=u.out:=by have:=Cg (rowB bs n) 16 {u with p:=p'};rw[Aa hr1]at this;exact this
 have ho2:v2.out=u.out:=by have:=Cg (rowB bs n) 16 v1;rw[Aa hr2]at this;exact this.trans ho1
 have hv:V=if v2.e≠0 then v2 else if r1+r2≠65535 then {v2 with e:=4}else if 3000<v2.out.length+r1 then {v2 with e:=2}else ustore (rowB bs n) r1 v2:=by
  rw[<-Aa hV];exact Um _ u v1 v2 p' r1 r2 (by rw[hpp];exact hp') (Aa hr1) (Aa hr2)
 have HV:=Ab hv;have ee:((p:Int)+7)/8*8=(p':Int):=by omega
 have HG4:=fun w=>Ab (Bw 4 w)
 rw[<-ho2]at ho;have HO:=Ab ho;clear hV hrl hv hw8 hp' hpp ho1 ho2 ho;go_enter Tryz.func257,Tryz.ntmps257
 go_wp2_with fail
 clear ee;obtain⟨wS,hwS⟩:∃wS,w.setCell ⟨b,1,none⟩ (.int .i64 (p':Int))=wS:=⟨_,rfl⟩
 rw[hwS]at h0 ⊢;clear hwS;have HRS:=Ab ((Aa HR).keep (Aa h0).below.size (Aa h0).kp);refine(Dt No B b a n cap 16 bs f1 f2 _ wS (Aa h0).is (Aa HRS) hp8 (Aa HE) (by decide) r1 v1 hr1).mono ?_;rintro e w1 hg
 rcases hg with ⟨e0,rfl,hU⟩|⟨e0,rfl,hBl⟩
 rotate_left
 . have HF:Hid (V=v1):=Ab (by
    have e2:v2=v1:=by have:=Ff (rowB bs n) 16 v1 e0;rw[Aa hr2]at this;exact this
    rw[Aa HV,if_pos (by rw[e2];exact e0),e2])
   have HB:=Ab ((Aa h0).bl.trans hBl);clear hBl;go_wp2;exact⟨rfl,.inr ⟨by rw[Aa HF];exact e0,by rw[Aa HF],Aa HB⟩⟩
 have h1:=Ab ((Aa h0).trans hU);have HR1:=Ab ((Aa HR).keep (Aa h1).below.size (Aa h1).kp);have E1:=Ab e0;clear hU e0;go_wp2_with fail
 refine(Dt No B b a n cap 16 bs f1 f2 _ w1 (Aa h1).is (Aa HR1) hq1 (Aa E1) (by decide) r2 v2 hr2).mono ?_;rintro e w2 hg
 rcases hg with ⟨e0,rfl,hU⟩|⟨e0,rfl,hBl⟩
 rotate_left
 . have HF:Hid (V=v2):=Ab (by rw[Aa HV,if_pos e0]);have HB:=Ab ((Aa h1).bl.trans hBl);clear hBl;go_wp2;exact⟨rfl,.inr ⟨by rw[Aa HF];exact e0,by rw[Aa HF],Aa HB⟩⟩
 have h2:=Ab ((Aa h1).trans hU);have E2:=Ab e0;clear hU e0;have hx:=Z1h r1 r2 hb1 hb2;have hxn:=U1 r1 r2 (by omega) (by omega)
 by_cases hs:r1+r2=65535
 rotate_left
 . have hxb:(bits .xor .i64 (r1:Int) (r2:Int)==65535)=false:=by
    rw[hxn,beq_eq_false_iff_ne];intro h;exact hs (hx.1 (by omega))
   have HF:Hid (V= {v2 with e:=4}):=Ab (by rw[Aa HV,if_neg (fun h=>h (Aa E2)),if_pos hs]);clear hx hxn;go_wp2_with fail
   refine(Aa (HG4 _)).mono ?_;rintro e w3 ⟨rfl,rfl⟩;go_wp2;exact⟨rfl,.inr ⟨by rw[Aa HF];exact(by decide:(4:Int)≠0),by rw[Aa HF],(Aa h2).bl⟩⟩
 have hxb:(bits .xor .i64 (r1:Int) (r2:Int)==65535)=true:=by
  rw[hxn,beq_iff_eq,hx.2 hs];rfl
 have HV2:Hid (V=if 3000<v2.out.length+r1 then {v2 with e:=2}else ustore (rowB bs n) r1 v2):=Ab (by rw[Aa HV,if_neg (fun h=>h (Aa E2)),if_neg (fun h=>h hs)]);clear hx hxn;go_wp2_with fail
 refine(Rf No B b r1 _ f1 f2 v2 w2 (Aa h2).is (Aa HO) (by omega)).mono ?_;rintro e w3 ⟨rfl,hg⟩
 rcases hg with ⟨hl,rfl⟩|⟨hl,rfl⟩
 rotate_left
 . have HF:Hid (V= {v2 with e:=2}):=Ab (by rw[Aa HV2,if_pos hl]);clear hl;go_wp2;exact⟨rfl,.inr ⟨by rw[Aa HF];exact(by decide:(2:Int)≠0),by rw[Aa HF],(Aa h2).bl⟩⟩
 have HVs:Hid (V=ustore (rowB bs n) r1 v2):=Ab (by rw[Aa HV2,if_neg (by omega)]);have HL:=Ab hl;clear hl hxb;go_wp2;go_loopw [27] (fun v27 wr=>∃(i:Nat) (x:US),i<=r1/\v27=.int .i64 (i:Int)/\Hid (x.p<=8*n/\x.out.length+(r1-i)<=3000/\x.e=0)/\Hid (IUp No B w b (.slice a n cap) f1 f2 x wr)/\Hid (V=ustore (rowB bs n) (r1-i) x)) (fun v27 _=>r1-(intOf v27).toNat)
 case atStart=>exact⟨0,v2,VM _,rfl,Ab ⟨hq2,by have:=Aa HL;omega,Aa E2⟩,h2,HVs⟩
 case round=>
  obtain⟨i,x,hi,rfl,hx3,hI,hVi⟩:=hrel;obtain⟨hxp,hxo,hxe⟩:=Aa hx3
  by_cases hlt:i<r1
  . have hiI:(i:Int)<(r1:Int):=by omega
    obtain⟨r8,v8,hr8⟩:∃r v,Hid (uget (rowB bs n) 8 x=(r,v)):=⟨_,_,Ab rfl⟩
    have hIs:=(Aa hI).is;have HRw:=Ab ((Aa HR).keep (Aa hI).below.size (Aa hI).kp);have hNum:=Ab (fun q=>Qv No B b a n cap 8 bs f1 f2 x (wr.drewN q) (hIs.grown ⟨rfl,rfl,rfl,VC _,fun _ _ _=>rfl⟩) ((Aa HRw).keep (VC _) (Kp.refl _ _)) hxp hxe (by decide) r8 v8 hr8)
    have hstep:ustore (rowB bs n) (r1-i) x=ustore (rowB bs n) (r1-(i+1)) (Jt r8 v8):=by
     obtain⟨k,hk⟩:∃k,r1-i=k+1:=⟨r1-i-1,by omega⟩
     rw[hk,show r1-(i+1)=k by omega];show (if x.e=0 then ustore (rowB bs n) k (Jt (uget (rowB bs n) 8 x).1 (uget (rowB bs n) 8 x).2)else x)=_
     rw[if_pos hxe,Aa hr8]
    obtain⟨ov,kv,c2,c3,hh,hov,hkv,hap,hn1,hn2⟩:=hIs.rows
    by_cases h8:v8.e=0
    . have HN:Hid (∀q,Calls Tryz.prog 238 #[.pointer (some ⟨b,0,none⟩),.int .i64 8] (wr.drewN q) fun e w'=>e=.returned (.int .i64 (r8:Int))/\IUp No B w b (.slice a n cap) f1 f2 v8 w'/\Ml b wr w'):=Ab (fun q=>((Aa hNum) q).mono (fun e w' hg=>by
       rcases hg with ⟨_,e1,e2,e3⟩|⟨e0,_⟩
       . exact⟨e1,((Aa hI).drewN q).trans e2,fun j hj=>e3 j hj⟩
       . exact absurd h8 e0))
      have hr256:r8<256:=by have:=My (rowB bs n) 8 x;rw[Aa hr8]at this;exact this
      have ho8:v8.out=x.out:=by have:=Cg (rowB bs n) 8 x;rw[Aa hr8]at this;exact this
      have hp8':v8.p<=8*n:=by have:=Gp (rowB bs n) 8 x (by rw[Ag];exact hxp);rw[Aa hr8,Ag]at this;exact this
      have hsay:Jt r8 v8= {v8 with out:=v8.out++ [r8]}:=by
       unfold Jt;rw[if_pos h8,if_neg (by rw[ho8];omega)]
      have HVn:Hid (V=ustore (rowB bs n) (r1-(i+1)) {v8 with out:=v8.out++ [r8]}):=Ab (by rw[Aa hVi,hstep,hsay]);obtain⟨oa,oc,rfl⟩:=Ao hov;obtain⟨i0,hi0,hz0,hz1,hz2⟩:=info_parts Hs;obtain⟨L,hL⟩:∃L,x.out.length=L:=⟨_,rfl⟩
      rw[hL]at c2 hxo;have HL8:Hid (v8.out.length=L):=Ab (by rw[ho8,hL]);have hw256:IntKind.u8.wrap (r8:Int)=(r8:Int):=by unfold IntKind.wrap;simp[IntKind.bits,IntKind.signed];omega
      clear hstep hNum hIs hov hkv hap hn1 hn2 hh hVi HVs HV2 HV hsay ho8 hL;go_wp2;refine wp_region_any (by kernel_rfl) ?_
      try (change wpAny _ _ _ _ _ _ _ (World.drew _))
      refine wpAny_take (i:=0) (v:=.pointer (some ⟨b,0,none⟩)) rfl (by kernel_rfl) (by kernel_rfl) (by kernel_rfl) (fun _ _ _ h=>h) (Or.inl ⟨by rfl,fun W=>by go_simp⟩) ?_;simp only[Act.put,VA,VD,VE];refine wpAny_take (i:=1) (v:=.pointer (some ⟨b,0,none⟩)) rfl (by kernel_rfl) (by kernel_rfl) (by kernel_rfl) (fun _ _ _ h=>h) (Or.inl ⟨by rfl,fun W=>by go_simp⟩) ?_;simp only[Act.put,VA,VD,VE];refine wpAny_take (i:=2) (v:=.pointer (some ⟨b,0,none⟩)) rfl (by kernel_rfl) (by kernel_rfl) (by kernel_rfl) (fun _ _ _ h=>h) (Or.inl ⟨by rfl,fun W=>by go_simp⟩) ?_;simp only[Act.put,VA,VD,VE];refine wpAny_take (i:=3) (v:=.pointer (some ⟨b,2,none⟩)) rfl (by kernel_rfl) (by kernel_rfl) (by kernel_rfl) (fun _ _ _ h=>h) (Or.inl ⟨by rfl,fun W=>by go_simp⟩) ?_;simp only[Act.put,VA,VD,VE];refine wpAny_take (i:=5) (v:=.pointer (some ⟨b,0,none⟩)) rfl (by kernel_rfl) (by kernel_rfl) (by kernel_rfl) (fun _ _ _ h=>h) (Or.inl ⟨by rfl,fun W=>by go_simp⟩) ?_;simp only[Act.put,VA,VD,VE];refine wpAny_ready (rs:= [4,6]) (by kernel_rfl) (by simp) (AllReady.cons rfl (fun K hK=> ?_) (AllReady.cons rfl (fun K hK=> ?_) AllReady.nil))
      . go_simp
        refine hK _ _ ?_;clear hK K;refine wpAny_ready (rs:= [6]) (by kernel_rfl) (by simp) (AllReady.cons rfl (fun K hK=> ?_) AllReady.nil);go_simp
        refine(Aa HN _).mono ?_;rintro e w4 ⟨rfl,hU,hKp⟩;dsimp only;have c24:w4.cell? ⟨b,2,none⟩=some (.slice oa L oc):=(hKp 2 (by decide)).trans c2;have hbl4:=hU.is.lt;have HU:=Ab hU;clear hU hKp;refine hK _ _ ?_;clear hK K;refine wpAny_take (i:=7) (v:=.int .u8 (r8:Int)) rfl (by kernel_rfl) (by kernel_rfl) (by kernel_rfl) (fun _ _ _ h=>h) (Or.inl ⟨by rfl,fun W=>by go_simp⟩) ?_;simp only[Act.put,VA,VD,VE];refine wpAny_ready (rs:= [8]) (by kernel_rfl) (by simp) (AllReady.cons rfl (fun K hK=> ?_) AllReady.nil);go_simp
        refine hK _ _ ?_;clear hK K;have hIs4:=(Aa HU).is;have hbel4:=(Aa HU).below.size;obtain⟨ov4,kv4,d2,d3,hh4,hov4,hkv4,hap4,hn14,hn24⟩:=hIs4.rows;obtain rfl:ov4=.slice oa L oc:=VN (d2.symm.trans c24)
        have hovL:w4.ownsRow (b+1) 5 1 (.slice oa L oc) L (u8s v8.out):=by
         have:=hov4
         rw[Aa HL8]at this;exact this
        refine wpAny_ready (rs:= [9]) (by kernel_rfl) (by simp) (AllReady.cons rfl (fun K hK=> ?_) AllReady.nil);refine step_append_lies _ rfl (.tmp 33) (.tmp 37) 23 rfl (b+1) 5 i0 (.int .u8 0) 1 1 Tryz.underlying23 hi0 hz0 hz1 hz2 rfl (by decide) (.slice oa L oc) L (u8s v8.out) rfl (hovL.alloc _) ⟨w4.heap.size,0,none⟩ 1 1 [.int .u8 (r8:Int)] rfl rfl (cell_one_new _ _ _) (Bf rfl) (by decide) (by unfold maxLen;omega) (by omega) (by simp;omega) _ rfl ?_;intro g5 cap5 w5 hO5 hgrow5 hspot5 hlt5
        obtain⟨q2,f25,hI5⟩:=IIs.said (c:=r8) (v':=.slice (some ⟨g5,0,none⟩) (L+1) cap5) hIs4.base hIs4.no hh4 hov4 hkv4 hap4 hn14 hn24 (fun g hg=>Aa HNo g (by omega)) (by rw[Aa HL8];exact hO5) hgrow5 (by
         rcases hspot5 with h|h
         . exact .inl h.symm
         . exact .inr (by rw[h];rfl))
        have HI5:=Ab ((Aa HU).trans hI5);refine hK _ _ ?_;clear hK K hI5 hO5 hgrow5 hspot5 hlt5 hovL hov4 hkv4 hap4 hn14 hn24 hh4 d2 d3 hIs4;simp only[Act.put,VA,VD,VE];refine wpAny_take (i:=10) (v:=.pointer (some ⟨b,0,none⟩)) rfl (by kernel_rfl) (by kernel_rfl) (by kernel_rfl) (fun _ _ _ h=>h) (Or.inl ⟨by rfl,fun W=>by go_simp⟩) ?_;simp only[Act.put,VA,VD,VE];refine wpAny_take (i:=11) (v:=.pointer (some ⟨b,2,none⟩)) rfl (by kernel_rfl) (by kernel_rfl) (by kernel_rfl) (fun _ _ _ h=>h) (Or.inl ⟨by rfl,fun W=>by go_simp⟩) ?_;simp only[Act.put,VA,VD,VE];refine wpAny_ready (rs:= [12]) (by kernel_rfl) (by simp) (AllReady.cons rfl (fun K hK=> ?_) AllReady.nil);go_simp
        refine hK _ _ ?_;clear hK K;refine wpAny_done (by kernel_rfl) ?_ _;go_wp2;go_roundw
        case rel=>exact⟨i+1,{v8 with out:=v8.out++ [r8]},by omega,by go_num,Ab ⟨hp8',by show (v8.out++ [r8]).length+_<=_;rw[VB,Aa HL8];simp only[VH,VQ];omega,h8⟩,HI5,HVn⟩
        case measure=>simp[intOf];omega
      . go_simp
        refine(Aa HN _).mono ?_;rintro e w4 ⟨rfl,hU,hKp⟩;dsimp only;have c24:w4.cell? ⟨b,2,none⟩=some (.slice oa L oc):=(hKp 2 (by decide)).trans c2;have hbl4:=hU.is.lt;have HU:=Ab hU;clear hU hKp;refine hK _ _ ?_;clear hK K;refine wpAny_take (i:=7) (v:=.int .u8 (r8:Int)) rfl (by kernel_rfl) (by kernel_rfl) (by kernel_rfl) (fun _ _ _ h=>h) (Or.inl ⟨by rfl,fun W=>by go_simp⟩) ?_;simp only[Act.put,VA,VD,VE];refine wpAny_ready (rs:= [4,8]) (by kernel_rfl) (by simp) (AllReady.cons rfl (fun K hK=> ?_) (AllReady.cons rfl (fun K hK=> ?_) AllReady.nil))
        . go_simp
          refine hK _ _ ?_;clear hK K;refine wpAny_ready (rs:= [8]) (by kernel_rfl) (by simp) (AllReady.cons rfl (fun K hK=> ?_) AllReady.nil);go_simp
          refine hK _ _ ?_;clear hK K;have hIs4:=(Aa HU).is;have hbel4:=(Aa HU).below.size;obtain⟨ov4,kv4,d2,d3,hh4,hov4,hkv4,hap4,hn14,hn24⟩:=hIs4.rows;obtain rfl:ov4=.slice oa L oc:=VN (d2.symm.trans c24)
          have hovL:w4.ownsRow (b+1) 5 1 (.slice oa L oc) L (u8s v8.out):=by
           have:=hov4
           rw[Aa HL8]at this;exact this
          refine wpAny_ready (rs:= [9]) (by kernel_rfl) (by simp) (AllReady.cons rfl (fun K hK=> ?_) AllReady.nil);refine step_append_lies _ rfl (.tmp 33) (.tmp 37) 23 rfl (b+1) 5 i0 (.int .u8 0) 1 1 Tryz.underlying23 hi0 hz0 hz1 hz2 rfl (by decide) (.slice oa L oc) L (u8s v8.out) rfl (hovL.alloc _) ⟨w4.heap.size,0,none⟩ 1 1 [.int .u8 (r8:Int)] rfl rfl (cell_one_new _ _ _) (Bf rfl) (by decide) (by unfold maxLen;omega) (by omega) (by simp;omega) _ rfl ?_;intro g5 cap5 w5 hO5 hgrow5 hspot5 hlt5
          obtain⟨q2,f25,hI5⟩:=IIs.said (c:=r8) (v':=.slice (some ⟨g5,0,none⟩) (L+1) cap5) hIs4.base hIs4.no hh4 hov4 hkv4 hap4 hn14 hn24 (fun g hg=>Aa HNo g (by omega)) (by rw[Aa HL8];exact hO5) hgrow5 (by
           rcases hspot5 with h|h
           . exact .inl h.symm
           . exact .inr (by rw[h];rfl))
          have HI5:=Ab ((Aa HU).trans hI5);refine hK _ _ ?_;clear hK K hI5 hO5 hgrow5 hspot5 hlt5 hovL hov4 hkv4 hap4 hn14 hn24 hh4 d2 d3 hIs4;simp only[Act.put,VA,VD,VE];refine wpAny_take (i:=10) (v:=.pointer (some ⟨b,0,none⟩)) rfl (by kernel_rfl) (by kernel_rfl) (by kernel_rfl) (fun _ _ _ h=>h) (Or.inl ⟨by rfl,fun W=>by go_simp⟩) ?_;simp only[Act.put,VA,VD,VE];refine wpAny_take (i:=11) (v:=.pointer (some ⟨b,2,none⟩)) rfl (by kernel_rfl) (by kernel_rfl) (by kernel_rfl) (fun _ _ _ h=>h) (Or.inl ⟨by rfl,fun W=>by go_simp⟩) ?_;simp only[Act.put,VA,VD,VE];refine wpAny_ready (rs:= [12]) (by kernel_rfl) (by simp) (AllReady.cons rfl (fun K hK=> ?_) AllReady.nil);go_simp
          refine hK _ _ ?_;clear hK K;refine wpAny_done (by kernel_rfl) ?_ _;go_wp2;go_roundw
          case rel=>exact⟨i+1,{v8 with out:=v8.out++ [r8]},by omega,by go_num,Ab ⟨hp8',by show (v8.out++ [r8]).length+_<=_;rw[VB,Aa HL8];simp only[VH,VQ];omega,h8⟩,HI5,HVn⟩
          case measure=>simp[intOf];omega
        . go_simp
          refine hK _ _ ?_;clear hK K;refine wpAny_ready (rs:= [4]) (by kernel_rfl) (by simp) (AllReady.cons rfl (fun K hK=> ?_) AllReady.nil);go_simp
          refine hK _ _ ?_;clear hK K;have hIs4:=(Aa HU).is;have hbel4:=(Aa HU).below.size;obtain⟨ov4,kv4,d2,d3,hh4,hov4,hkv4,hap4,hn14,hn24⟩:=hIs4.rows;obtain rfl:ov4=.slice oa L oc:=VN (d2.symm.trans c24)
          have hovL:w4.ownsRow (b+1) 5 1 (.slice oa L oc) L (u8s v8.out):=by
           have:=hov4
           rw[Aa HL8]at this;exact this
          refine wpAny_ready (rs:= [9]) (by kernel_rfl) (by simp) (AllReady.cons rfl (fun K hK=> ?_) AllReady.nil);refine step_append_lies _ rfl (.tmp 33) (.tmp 37) 23 rfl (b+1) 5 i0 (.int .u8 0) 1 1 Tryz.underlying23 hi0 hz0 hz1 hz2 rfl (by decide) (.slice oa L oc) L (u8s v8.out) rfl (hovL.alloc _) ⟨w4.heap.size,0,none⟩ 1 1 [.int .u8 (r8:Int)] rfl rfl (cell_one_new _ _ _) (Bf rfl) (by decide) (by unfold maxLen;omega) (by omega) (by simp;omega) _ rfl ?_;intro g5 cap5 w5 hO5 hgrow5 hspot5 hlt5
          obtain⟨q2,f25,hI5⟩:=IIs.said (c:=r8) (v':=.slice (some ⟨g5,0,none⟩) (L+1) cap5) hIs4.base hIs4.no hh4 hov4 hkv4 hap4 hn14 hn24 (fun g hg=>Aa HNo g (by omega)) (by rw[Aa HL8];exact hO5) hgrow5 (by
           rcases hspot5 with h|h
           . exact .inl h.symm
           . exact .inr (by rw[h];rfl))
          have HI5:=Ab ((Aa HU).trans hI5);refine hK _ _ ?_;clear hK K hI5 hO5 hgrow5 hspot5 hlt5 hovL hov4 hkv4 hap4 hn14 hn24 hh4 d2 d3 hIs4;simp only[Act.put,VA,VD,VE];refine wpAny_take (i:=10) (v:=.pointer (some ⟨b,0,none⟩)) rfl (by kernel_rfl) (by kernel_rfl) (by kernel_rfl) (fun _ _ _ h=>h) (Or.inl ⟨by rfl,fun W=>by go_simp⟩) ?_;simp only[Act.put,VA,VD,VE];refine wpAny_take (i:=11) (v:=.pointer (some ⟨b,2,none⟩)) rfl (by kernel_rfl) (by kernel_rfl) (by kernel_rfl) (fun _ _ _ h=>h) (Or.inl ⟨by rfl,fun W=>by go_simp⟩) ?_;simp only[Act.put,VA,VD,VE];refine wpAny_ready (rs:= [12]) (by kernel_rfl) (by simp) (AllReady.cons rfl (fun K hK=> ?_) AllReady.nil);go_simp
          refine hK _ _ ?_;clear hK K;refine wpAny_done (by kernel_rfl) ?_ _;go_wp2;go_roundw
          case rel=>exact⟨i+1,{v8 with out:=v8.out++ [r8]},by omega,by go_num,Ab ⟨hp8',by show (v8.out++ [r8]).length+_<=_;rw[VB,Aa HL8];simp only[VH,VQ];omega,h8⟩,HI5,HVn⟩
          case measure=>simp[intOf];omega
    . have HF:Hid (V=v8):=Ab (by
       have:Jt r8 v8=v8:=by unfold Jt;rw[if_neg h8]
       rw[Aa hVi,hstep,this,Fk _ _ _ h8])
      have HP:Hid (∀q,Calls Tryz.prog 238 #[.pointer (some ⟨b,0,none⟩),.int .i64 8] (wr.drewN q) fun e w'=>e=Flt v8.e/\Bl No B w w'):=Ab (fun q=>((Aa hNum) q).mono (fun e w' hg=>by
       rcases hg with ⟨e0,_⟩|⟨_,e1,e2⟩
       . exact absurd e0 h8
       . exact⟨e1,((Aa hI).bl.drewN q).trans e2⟩))
      obtain⟨oa,oc,rfl⟩:=Ao hov;clear hstep hNum hIs hov hkv hap hn1 hn2 hh hVi HVs HV2 HV hxo;go_wp2;refine wp_region_held_drew (S:=fun w'=>w'.cell? ⟨b,2,none⟩=some (.slice oa x.out.length oc)) (by kernel_rfl) (by go_simp) (fun hHeld=> ?_);refine wpAnyH_take (i:=0) (v:=.pointer (some ⟨b,0,none⟩)) rfl (by kernel_rfl) (by kernel_rfl) (by kernel_rfl) (fun _ _ _ h=>h) (Or.inl ⟨by rfl,fun W _=>by go_simp⟩) hHeld ?_;simp only[Act.put,VA,VD,VE];refine wpAnyH_take (i:=1) (v:=.pointer (some ⟨b,0,none⟩)) rfl (by kernel_rfl) (by kernel_rfl) (by kernel_rfl) (fun _ _ _ h=>h) (Or.inl ⟨by rfl,fun W _=>by go_simp⟩) hHeld ?_;simp only[Act.put,VA,VD,VE];refine wpAnyH_take (i:=2) (v:=.pointer (some ⟨b,0,none⟩)) rfl (by kernel_rfl) (by kernel_rfl) (by kernel_rfl) (fun _ _ _ h=>h) (Or.inl ⟨by rfl,fun W _=>by go_simp⟩) hHeld ?_;simp only[Act.put,VA,VD,VE];refine wpAnyH_take (i:=3) (v:=.pointer (some ⟨b,2,none⟩)) rfl (by kernel_rfl) (by kernel_rfl) (by kernel_rfl) (fun _ _ _ h=>h) (Or.inl ⟨by rfl,fun W _=>by go_simp⟩) hHeld ?_;simp only[Act.put,VA,VD,VE];refine wpAnyH_take (i:=4) (v:=.slice oa x.out.length oc) rfl (by kernel_rfl) (by kernel_rfl) (by kernel_rfl) (fun _ _ _ h=>h) (Or.inl ⟨by rfl,fun W hS=>by have hS':W.cell? ⟨b,2,none⟩=some (.slice oa x.out.length oc):=hS;go_simp⟩) hHeld ?_;simp only[Act.put,VA,VD,VE];refine wpAnyH_take (i:=5) (v:=.pointer (some ⟨b,0,none⟩)) rfl (by kernel_rfl) (by kernel_rfl) (by kernel_rfl) (fun _ _ _ h=>h) (Or.inl ⟨by rfl,fun W _=>by go_simp⟩) hHeld ?_;simp only[Act.put,VA,VD,VE];refine wpAnyH_ready (rs:= [6]) (by kernel_rfl) (by simp) (AllReadyH.cons rfl (fun K hK=> ?_) AllReadyH.nil);go_simp
      refine(Aa HP _).mono ?_;rintro e w4 ⟨rfl,hB⟩;exact And.intro rfl (Or.inr ⟨by rw[Aa HF];exact h8,by rw[Aa HF],hB⟩)
  . obtain rfl:i=r1:=by omega
    have HF:Hid (V=x):=Ab (by rw[Aa hVi,XK];rfl);clear hVi;go_wp2;go_end0
    exact .inl ⟨by rw[Aa HF];exact hxe,rfl,by rw[Aa HF];exact Aa hI⟩
end Go.Proofs.YtieianhejdcgdaaGreatDoor
namespace Go.Proofs.YtieianhejdcgdaaGreatDoor
open Go.RowKit
set_option linter.unusedVariables false
set_option maxRecDepth 100000
theorem Z3c (xs:List Nat)(y:Nat):i64s (xs++ [y])=i64s xs++ [.int .i64 (y:Int)]:=by simp[i64s]
theorem IIs.kept {No:Nat->Prop}{B b c:Nat}{w w3:World}{R f1 f2 ov kv v':Value}{u:US}{o:Obj}(hb:B<=b)(hbn:¬No b)(hh:w.heap[b]? =some (.cells (icells R f1 f2 u ov kv) 288 (0,0)))
 (hov:w.ownsRow (b+1) 5 1 ov u.out.length (u8s u.out)) (hkv:w.ownsRow (b+1) 3 1 kv u.ks.length (i64s u.ks)) (hap:ov.ownBlock=none\/ov.ownBlock≠kv.ownBlock) (hn1:∀g,ov.ownBlock=some g->¬No g) (hn2:∀g,kv.ownBlock=some g->¬No g) (hNo:∀g,w.heap.size<=g->¬No g)
 (hO3:w3.ownsRow (b+1) 3 1 v' (u.ks.length+1) (i64s u.ks++ [.int .i64 (c:Int)])) (hgrow:(w.alloc o).grownBy w3 kv.ownBlock) (hspot:v'.ownBlock=kv.ownBlock\/v'.ownBlock=some (w.alloc o).heap.size):
 w3.cell? ⟨b,3,none⟩=some kv/\w3.frozen? ⟨b,3,none⟩=false/\IUp No B w b R f1 f2 {u with ks:=u.ks++ [c]} (w3.setCell ⟨b,3,none⟩ v'):=by
 have hbl:b<w.heap.size:=(VG.1 hh).1
 have hVb:kv.ownBlock=none\/kv.ownBlock≠some b:=by
  cases hx:kv.ownBlock with
  |none=>exact .inl rfl
  |some g=>
   refine .inr (fun e=> ?_);have:=(hkv.lt g hx).1
   cases e
   omega
 have hgb:w3.heap[b]? =some (.cells (icells R f1 f2 u ov kv) 288 (0,0)):=by
  rw[hgrow.block b (by simp;omega) (fun e=>by rcases hVb with h|h;rw[h]at e;cases e;exact h e.symm)];exact(Below.heap_alloc w _ b hbl).trans hh
 have hgw:∀g,g<w.heap.size->kv.ownBlock≠some g->w3.heap[g]? =w.heap[g]? :=fun g hg hne=>by
  rw[hgrow.block g (by simp;omega) (fun e=>hne e.symm)];exact Below.heap_alloc w _ g hg
 have hsz:=hgrow.size;simp only[World.size_alloc]at hsz hspot;have hset:=Ad w3 b 3 v'
 have hv'b:v'.ownBlock=none\/v'.ownBlock≠some b:=by
  cases hx:v'.ownBlock with
  |none=>exact .inl rfl
  |some g=>
   refine .inr (fun e=> ?_);have:=(hO3.lt g hx).1
   cases e
   omega
 have hk3:w3.ownsRow (b+1) 5 1 ov u.out.length (u8s u.out):=Ar hov (fun g hg=>hgw g (hov.lt g hg).2 (fun e=>by
  rcases hap with h|h
  . rw[h]at hg;cases hg
  . exact h (by rw[hg];exact e.symm)))
 have hkb:ov.ownBlock=none\/ov.ownBlock≠some b:=by
  cases hx:ov.ownBlock with
  |none=>exact .inl rfl
  |some g=>
   refine .inr (fun e=> ?_);have:=(hov.lt g hx).1
   cases e
   omega
 refine⟨Ac hgb,frozen_of_row w3 b 3 _ _ hgb,⟨hb,hbn,ov,v', ?_,hk3.kept hset hkb, ?_, ?_,hn1, ?_⟩, ?_, ?_⟩
 . rw[heap_setCell_same w3 b 3 _ _ _ hgb];rfl
 . have:=hO3.kept hset hv'b
   show (w3.setCell ⟨b,3,none⟩ v').ownsRow (b+1) 3 1 v' (u.ks++ [c]).length (i64s (u.ks++ [c]))
   rw[Z3c,VB];exact this
 . rcases hspot with h|h
   . rw[h];exact hap
   . cases hx:ov.ownBlock with
     |none=>exact .inl rfl
     |some g=>
      refine .inr (fun e=> ?_);rw[h]at e;have:=(hov.lt g hx).2
      have:=VN e
      omega
 . intro g hg
   rcases hspot with h|h
   . exact hn2 g (by rw[<-h];exact hg)
   . rw[h]at hg;have:=VN hg
     exact hNo g (by omega)
 . refine⟨hset.os.trans (hgrow.os.trans rfl),hset.tape.trans (hgrow.tape.trans rfl),hset.output.trans (hgrow.output.trans rfl),by have:=hset.size;omega, ?_⟩;intro g hg;rw[hset.block g (by omega) (fun e=>by simp at e;omega),hgw g (by omega) (fun e=>by have:=(hkv.lt g e).1;omega)]
 . intro g h1 h2;rw[hset.block g (by omega) (fun e=>by simp at e;subst e;exact hbn h2),hgw g h1 (fun e=>hn2 g e h2)]
theorem Ht (row:List Bool)(n:Nat)(u:US):(uget row n u).2.ks=u.ks:=by
 unfold uget
 split
 . split<;>rfl
 . rfl
theorem D7 (x:Int)(u:US):(Ay x u).ks=u.ks:=by unfold Ay;split<;>rfl
theorem Z3a (c:Nat)(u:US):(Jt c u).ks=u.ks:=by
 unfold Jt
 split
 . split<;>rfl
 . rfl
theorem D9 (row:List Bool):∀(k:Nat) (u:US),(ustore row k u).ks=u.ks
 |0,u=>rfl
 |k+1,u=>by
  unfold ustore
  split
  . rw[D9 row k,Z3a,Ht]
  . rfl
theorem ET (row:List Bool)(u:US):(Cs row u).ks=u.ks:=by
 have h1:(De row u).2.ks=u.ks:=by
  unfold De;dsimp only
  split
  . rw[D7,Ht,Ht]
  . rw[Ht,Ht]
 unfold Cs;dsimp only
 split
 . rw[D7,h1]
 . rw[D9,h1]
theorem Sh (No:Nat->Prop)(B b:Nat)(a:Option Addr)(n cap:Nat)(bs:List Nat)(f1 f2:Value)(u:US)(w:World)(h:IIs No B w b (.slice a n cap) f1 f2 u)(hR:Rd w No a n bs)(hp:u.p<=8*n)(he:u.e=0)(ho:u.out.length<=3000)(hk:u.ks.length<=48000)(hNo:∀g,w.heap.size<=g->¬No g)(hbB:B<=b)(V:US)(hV:Hid (Cs (rowB bs n) u=V)):
 Calls Tryz.prog 239 #[.pointer (some ⟨b,0,none⟩),.int .i64 0] w fun e w'=>Got No B w b (.slice a n cap) f1 f2 (.tuple #[]) (if V.e=0 then ukept 0 V else V) e w':=by
 have HS:=Ab (DJ No B b a n cap bs f1 f2 u w h hR hp he ho hNo hbB V hV);have hVk:V.ks.length<=48000:=by rw[<-Aa hV,ET];exact hk
 have HNo:=Ab hNo;obtain⟨i0,hi0,hz0,hz1,hz2⟩:=info_parts Cn;obtain⟨V2,hV2⟩:∃V2,(if V.e=0 then ukept 0 V else V)=V2:=⟨_,rfl⟩
 rw[hV2];have HV2:=Ab hV2;clear h hR hp he ho hk hNo hV hV2;go_enter Tryz.func239,Tryz.ntmps239
 go_wp2_with fail
 refine(Aa HS).mono ?_;rintro e w4 hg
 rcases hg with ⟨e0,rfl,hU⟩|⟨e0,rfl,hBl⟩
 rotate_left
 . have HF:Hid (V2=V):=Ab (by rw[<-Aa HV2,if_neg e0]);have HB:=Ab hBl;clear hBl;go_wp2;exact⟨rfl,.inr ⟨by rw[Aa HF];exact e0,by rw[Aa HF],Aa HB⟩⟩
 have HF:Hid (V2= {V with ks:=V.ks++ [0]}):=Ab (by rw[<-Aa HV2,if_pos e0];rfl);have HU:=Ab hU;have hIs4:=hU.is;have hbel4:=hU.below.size;have hbl4:=hIs4.lt;obtain⟨ov4,kv4,d2,d3,hh4,hov4,hkv4,hap4,hn14,hn24⟩:=hIs4.rows;obtain⟨L,hL⟩:∃L,V.ks.length=L:=⟨_,rfl⟩
 have hkvL:=hkv4;rw[hL]at hkvL hVk;obtain⟨oa,oc,rfl⟩:=Ao hkvL;have HKL:=Ab hkvL;have HIS:=Ab hIs4;have HH4:=Ab hh4;have HO4:=Ab hov4;have HK4:=Ab hkv4;have HA4:=Ab hap4;have HN1:=Ab hn14;have HN2:=Ab hn24;have HLL:=Ab hL;clear hU hIs4 hh4 hov4 hkv4 hap4 hn14 hn24 hkvL hL d2;go_wp2_with (at_builtin;refine wpList_append_own_at _ rfl _ _ 81 rfl (b+1) 3 i0 (.int .i64 0) 1 8 Tryz.underlying81 hi0 hz0 hz1 hz2 rfl (by decide) _ L (i64s V.ks) rfl ((Aa HKL).alloc _) ⟨w4.heap.size,0,none⟩ 1 1 [.int .i64 ((0:Nat):Int)] rfl rfl (cell_one_new _ _ _) (Bf rfl) (by unfold maxLen;omega) (by omega) (by simp;omega) ?_)
 intro v' w5 hO5 hgrow5 _ hspot5;obtain⟨g9,c9,hv9,_,_⟩:=Bt hO5 (by omega);obtain⟨q3,f35,hI5⟩:=IIs.kept (c:=0) (v':=v') (Aa HIS).base (Aa HIS).no (Aa HH4) (Aa HO4) (Aa HK4) (Aa HA4) (Aa HN1) (Aa HN2) (fun g hg=>Aa HNo g (by omega)) (by rw[Aa HLL];exact hO5) hgrow5 (by simpa using hspot5);have HI5:=Ab ((Aa HU).trans hI5);subst hv9;clear hI5 hO5 hgrow5 hspot5;go_wp2;go_end0
 exact .inl ⟨by rw[Aa HF];exact e0,rfl,by rw[Aa HF];exact Aa HI5⟩
end Go.Proofs.YtieianhejdcgdaaGreatDoor
