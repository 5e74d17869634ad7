import Derived.Defers
import Derived.Recover
import Derived.Laws.Pointers
import Derived.Test.YtleocpdblhbimaaGreatDoorQ18
import Derived.Deep.RegionHeld3
import Derived.Deep.AppendLies
import Derived.Maps.AppendAt
set_option linter.unusedSimpArgs false
set_option maxHeartbeats 4000000
namespace Go.Proofs.YtleocpdblhbimaaGreatDoor
open Go.RowKit
set_option linter.unusedVariables false
set_option maxRecDepth 100000
theorem Z5o (v:Value)(w:World):(Instr.typeAssert (.iface 310 v) 20 310 true).run Tryz.prog w=.ok (.tuple #[v,.bool true]) w:=by kernel_rfl
theorem Z5p (w:World):(Instr.typeAssert .nilIface 20 310 true).run Tryz.prog w=.ok (.tuple #[.agg #[.int .i64 0],.bool false]) w:=by kernel_rfl
theorem AC (p:Addr)(x y:Int)(E:List PanicEntry)(w:World)(G:w.cell? p=some (.int .i64 y))(T:w.frozen? p=false)(I:p.block<w.heap.size):
 CallsD Tryz.prog 229 #[.pointer (some p)] (.panicking ({v:=.iface 310 (.agg #[.int .i64 x]),recovered:=false}::E)) w fun e H w'=>
  e=.returned (.tuple #[])/\H=.panicking ({v:=.iface 310 (.agg #[.int .i64 x]),recovered:=true}::E)/\w'=(w.alloc (.cells #[.int .i64 x] 310)).setCell p (.int .i64 x):=by
 refine callsD_of_wpS Tryz.func229 rfl fun U cs M=> ?_
 apply wpS_seq
 apply wpS_region
 simp[wpOpsS,go_sem,recoverD,M,Tryz.ntmps229,Exit.thenS]
 apply wpS_seq
 apply wpS_region
 simp[wpOpsS,go_sem,Z5o,Exit.thenS,Array.replicate]
 apply wpS_seq
 apply wpS_region
 simp[wpOpsS,go_sem,Exit.thenS]
 refine wpS_cond (t:=true) (by simp[Act.eval]) ?_;simp only[if_true];have F:=(World.cell?_alloc_lt w (.cells #[Value.int .i64 x] 310) p I).trans G;have O:=(frozen?_alloc_cells w #[Value.int .i64 x] 310 p).trans T;apply wpS_region
 simp[wpOpsS,go_sem,F,O,bodyPostS,results,Tryz.results229]
theorem JD (p:Addr)(w:World):
 CallsD Tryz.prog 229 #[.pointer (some p)] .returning w fun e E w'=>
  e=.returned (.tuple #[])/\E=.returning/\w'=w.alloc (.cells #[.int .i64 0] 310):=by
 refine callsD_of_wpS Tryz.func229 rfl fun G cs F=> ?_
 apply wpS_seq
 apply wpS_region
 simp[wpOpsS,go_sem,recoverD,F,Tryz.ntmps229,Exit.thenS]
 apply wpS_seq
 apply wpS_region
 simp[wpOpsS,go_sem,Z5p,Exit.thenS,Array.replicate]
 apply wpS_seq
 apply wpS_region
 simp[wpOpsS,go_sem,Exit.thenS]
 refine wpS_cond (t:=false) (by simp[Act.eval]) ?_;simp only[Bool.false_eq_true,if_false];apply wpS_seq
 apply wpS_region
 simp[wpOpsS,go_sem,Exit.thenS]
 refine wpS_cond (t:=false) (by simp[Act.eval]) ?_;simp only[Bool.false_eq_true,if_false];refine wpS_of_wp (wp_skip ?_)
 cases G
 simp_all [bodyPostS,results,Tryz.results229]
theorem JC (F:Nat)(O:Array Value)(Q:Nat->World->Prop)(w:World)(ai:∀(args:Array Value) (w:World),(callFunc F args).run Tryz.prog w=.ok (.enter F args) w)
 (ah:Calls Tryz.prog F O (w.alloc (.cells #[.int .i64 0] 24)) fun e w'=>(∃x,Q x w'/\((x=0/\e=.returned (.tuple #[]))\/ (x≠0/\e=Flt x)))/\w'.heap[w.heap.size]? =some (.cells #[.int .i64 0] 24 (0,0))):
 Calls Tryz.prog 204 #[.func (.func F) O #[]] w fun e E=>∃x w',Q x w'/\e=.returned (.int .i64 (x:Int))/\w'.heap.size<=E.heap.size/\(∀j,j<w'.heap.size->j≠w.heap.size->(E.heap[j]? =w'.heap[j]?))/\∀B,B<=w.heap.size->Below B w' E:=by
 have aj:∀(T:Fn) (first cap:Array Value) (w:World),(Instr.makeFunc T first cap).run Tryz.prog w=.ok (.func T first cap) w:=fun _ _ _ _=>rfl
 go_enter_defers Tryz.func204,Tryz.ntmps204
 go_wp2;refine ah.mono ?_;rintro e w' ⟨⟨x,Y,U⟩,hb⟩;have G:w.heap.size<w'.heap.size:=(VK.1 hb).1;have I:w'.cell? ⟨w.heap.size,0,none⟩=some (.int .i64 0):=by simp[World.cell?,hb]
 have ae:w'.frozen? ⟨w.heap.size,0,none⟩=false:=by simp[World.frozen?,hb]
 rcases U with ⟨rfl,rfl⟩|⟨U,rfl⟩
 . go_wp2;refine leaves_cons (f:=229) (args:= #[.pointer (some ⟨w.heap.size,0,none⟩)]) (by simp) (by simp[go_sem]) ?_;refine(JD ⟨w.heap.size,0,none⟩ _).mono ?_;rintro e ac E ⟨rfl,rfl,rfl⟩;have c1:((w'.setCell ⟨w.heap.size,0,none⟩ (.int .i64 0)).alloc (.cells #[.int .i64 0] 310)).cell? ⟨w.heap.size,0,none⟩=some (.int .i64 0):=(World.cell?_alloc_lt _ _ _ (by simpa using G)).trans (World.cell?_setCell_same _ _ _ I);simp[Leaves,settle,results,Tryz.results204,go_sem,c1]
   refine⟨0,w',Y,rfl,by omega,fun j M hn=> ?_,fun B H=> ?_⟩
   rotate_left
   . have af:=(Below.refl B w').grown (Ad w' w.heap.size 0 (.int .i64 0)) (by omega) (fun g e=>by cases e;exact H);exact af.alloc (by simp;omega) _
   exact(Below.heap_alloc _ _ j (by simpa using M)).trans (Below.heap_setCell _ _ _ j hn)
 . go_wp2;refine leaves_cons (f:=229) (args:= #[.pointer (some ⟨w.heap.size,0,none⟩)]) (by simp) (by simp[go_sem]) ?_;refine(AC ⟨w.heap.size,0,none⟩ x 0 [] _ I ae G).mono ?_;rintro e ac E ⟨rfl,rfl,rfl⟩;have c1:((w'.alloc (.cells #[.int .i64 (x:Int)] 310)).setCell ⟨w.heap.size,0,none⟩ (.int .i64 (x:Int))).cell? ⟨w.heap.size,0,none⟩=some (.int .i64 (x:Int)):=World.cell?_setCell_same _ _ _ ((World.cell?_alloc_lt _ _ _ G).trans I);have aa:∀j,j<w'.heap.size->¬j=w.heap.size->((w'.alloc (.cells #[.int .i64 (x:Int)] 310)).setCell ⟨w.heap.size,0,none⟩ (.int .i64 (x:Int))).heap[j]? =w'.heap[j]? :=fun j M hn=>(Below.heap_setCell _ _ _ j hn).trans (Below.heap_alloc _ _ j M)
   have ag:((w'.alloc (.cells #[.int .i64 (x:Int)] 310)).setCell ⟨w.heap.size,0,none⟩ (.int .i64 (x:Int))).heap.size=w'.heap.size+1:=by simp
   have Z:∀B,B<=w.heap.size->Below B w' ((w'.alloc (.cells #[.int .i64 (x:Int)] 310)).setCell ⟨w.heap.size,0,none⟩ (.int .i64 (x:Int))):=fun B H=>
    ((Below.refl B w').alloc (by omega) _).grown (Ad _ w.heap.size 0 _) (by simp;omega) (fun g e=>by cases e;exact H)
   generalize (w'.alloc (.cells #[.int .i64 (x:Int)] 310)).setCell ⟨w.heap.size,0,none⟩ (.int .i64 (x:Int))=W at c1 aa ag Z ⊢;simp[Leaves,settle,results,Tryz.results204,go_sem,c1]
   exact⟨x,w',Y,rfl,by omega,aa,Z⟩
theorem IIs.rows {No:Nat->Prop}{B b:Nat}{w:World}{R F G:Value}{u:US}(I:IIs No B w b R F G u):∃ov kv,w.cell? ⟨b,2,none⟩=some ov/\w.cell? ⟨b,3,none⟩=some kv/\w.heap[b]? =some (.cells (icells R F G u ov kv) 284 (0,0))/\w.ownsRow (b+1) 5 1 ov u.out.length (u8s u.out)/\w.ownsRow (b+1) 3 1 kv u.ks.length (i64s u.ks)/\(ov.ownBlock=none\/ov.ownBlock≠kv.ownBlock)/\(∀g,ov.ownBlock=some g->¬No g)/\(∀g,kv.ownBlock=some g->¬No g):=by
 obtain⟨ov,kv,E,H⟩:=I.ex;exact⟨ov,kv,Ac E,Ac E,E,H⟩
theorem Rq (No:Nat->Prop)(B b m:Nat)(R I M:Value)(u:US)(w:World)(E:IIs No B w b R I M u)(aa:u.out.length<=3000)(ac:m<=65535):
 Calls Tryz.prog 265 #[.pointer (some ⟨b,0,none⟩),.int .i64 (m:Int)] w fun e w'=>w'=w/\((u.out.length+m<=3000/\e=.returned (.tuple #[]))\/ (3000<u.out.length+m/\e=Flt 2)):=by
 obtain⟨ov,kv,c2,O,H,F,G,Y,U,Z⟩:=E.rows;obtain⟨a,cc,rfl⟩:=An F;clear E H F G Y U Z O;have T:=Ab (Cf 2 w)
 by_cases hl:u.out.length+m<=3000
 . go_enter Tryz.func265,Tryz.ntmps265
   go_wp2;go_end0
   exact⟨rfl,.inl ⟨hl,rfl⟩⟩
 . go_enter Tryz.func265,Tryz.ntmps265
   go_wp2_with fail
   refine(Aa T).mono ?_;rintro e w' ⟨rfl,rfl⟩;go_wp2;exact⟨rfl,rfl,.inr ⟨by omega,rfl⟩⟩
theorem PQ:∀g∈ [2,4],∀s∈List.range 41,
 (0<=wrap64 (wrap64 ((s:Int)/(g:Nat))-1)->IntKind.i64.wrap (wrap64 ((s:Int)-wrap64 ((g:Int)*wrap64 (wrap64 ((s:Int)/(g:Nat))-1)))*2^min (wrap64 (wrap64 ((s:Int)/(g:Nat))-1)).toNat 64)=(((s-g*(s/g-1))*2^(s/g-1):Nat):Int)/\wrap64 (wrap64 ((s:Int)/(g:Nat))-1)=((s/g-1:Nat):Int))/\
 (wrap64 (wrap64 ((s:Int)/(g:Nat))-1)<0->IntKind.i64.wrap (wrap64 ((s:Int)-wrap64 0))=(((s-g*(s/g-1))*2^(s/g-1):Nat):Int)/\(0:Int)=((s/g-1:Nat):Int)):=by decide+kernel
theorem Rz (s E F:Nat)(w:World)(I:E=2\/E=4)(M:s<=40)(H:F=s/E-1):
 Calls Tryz.prog 279 #[.int .i64 (s:Int),.int .i64 (E:Int)] w fun e w'=>w'=w/\e=.returned (.tuple #[.int .i64 (((s-E*F)*2^F:Nat):Int),.int .i64 (F:Int)]):=by
 subst H;have G:=Ab (PQ E (by rcases I with rfl|rfl<;>simp) s (by simp;omega));go_enter Tryz.func279,Tryz.ntmps279
 go_wp2
 all_goals first
  | (obtain⟨k1,k2⟩:=(Aa G).1 h
     rw[k1,k2];go_ret2;exact⟨rfl,rfl⟩)
  | (obtain⟨k1,k2⟩:=(Aa G).2 h
     rw[k1];go_ret2;refine⟨rfl, ?_⟩;show Ending.returned (.tuple #[.int .i64 (((s-E*(s/E-1))*2^(s/E-1):Nat):Int),.int .i64 0])=_
     rw[<-k2])
theorem Xw (s:Nat)(w:World)(I:257<=s)(M:s<=285):
 Calls Tryz.prog 267 #[.int .i64 (s:Int)] w fun e w'=>w'=w/\e=.returned (.tuple #[.int .i64 ((Df s).1:Int),.int .i64 ((Df s).2:Int)]):=by
 by_cases G:s=285
 . subst G;go_enter Tryz.func267,Tryz.ntmps267
   go_wp2;go_ret2;exact⟨rfl,rfl⟩
 . have E:=Ab (Rz (s-257) 4 _ w (.inr rfl) (by omega) rfl);have F:Hid (Df s=(3+((s-257)-4*((s-257)/4-1))*2^((s-257)/4-1),(s-257)/4-1)):=Ab (by unfold Df;rw[if_neg G])
   have hb:((s-257)-4*((s-257)/4-1))*2^((s-257)/4-1)<=300:=by
    have:∀k∈List.range 29,(k-4*(k/4-1))*2^(k/4-1)<=300:=by decide+kernel
    exact this (s-257) (by simp;omega)
   generalize ((s-257)-4*((s-257)/4-1))*2^((s-257)/4-1)=y at E F hb;generalize (s-257)/4-1=z at E F;have H:((s-257:Nat):Int)=(s:Int)-257:=by omega
   rw[H]at E;go_enter Tryz.func267,Tryz.ntmps267
   go_wp2_with fail
   refine(Aa E).mono ?_;rintro e w' ⟨rfl,rfl⟩;go_wp2;go_ret2;refine⟨rfl, ?_⟩;rw[Aa F];go_num
theorem F8 (s:Nat)(w:World)(G:s<=29):
 Calls Tryz.prog 280 #[.int .i64 (s:Int)] w fun e w'=>w'=w/\e=.returned (.tuple #[.int .i64 ((Dg s).1:Int),.int .i64 ((Dg s).2:Int)]):=by
 have E:=Ab (Rz s 2 _ w (.inl rfl) (by omega) rfl);have F:Hid (Dg s=(1+(s-2*(s/2-1))*2^(s/2-1),s/2-1)):=Ab rfl
 have hb:(s-2*(s/2-1))*2^(s/2-1)<=40000:=by
  have:∀k∈List.range 30,(k-2*(k/2-1))*2^(k/2-1)<=40000:=by decide+kernel
  exact this s (by simp;omega)
 generalize (s-2*(s/2-1))*2^(s/2-1)=y at E F hb;generalize s/2-1=z at E F;go_enter Tryz.func280,Tryz.ntmps280
 go_wp2_with fail
 refine(Aa E).mono ?_;rintro e w' ⟨rfl,rfl⟩;go_wp2;go_ret2;refine⟨rfl, ?_⟩;rw[Aa F];go_num
theorem Nm (row:List Bool)(n:Nat)(u:US):(uget row n u).1<2^n:=by
 have E:0<2^n:=YQ n;unfold uget
 split
 . split
   . exact E
   . exact VG (Jy _) (VO (by decide) (by rw[VL];exact ZP _ _))
 . exact E
theorem Iw (No:Nat->Prop)(B b:Nat)(a:Option Addr)(n I E l:Nat)(bs:List Nat)(F G:Value)(u:US)(w:World)(O:IIs No B w b (.slice a n I) F G u)(aa:Rd w No a n bs)(Y:u.p<=8*n)(U:u.e=0)(H:E<=16)(aj:l<=40000)(r:Nat)(v:US)(M:Hid (uget (rowB bs n) E u=(r,v))):
 Calls Tryz.prog 266 #[.pointer (some ⟨b,0,none⟩),.int .i64 (l:Int),.int .i64 (E:Int)] w fun e w'=>Got No B w b (.slice a n I) F G (.int .i64 ((l+r:Nat):Int)) v e w':=by
 have af:=Ab (Dx No B b a n I E bs F G u w O aa Y U H r v M)
 have ah:r<65536:=by
  have:=Nm (rowB bs n) E u
  rw[Aa M]at this;exact VG this (VO (j:=16) (by decide) H)
 clear O aa Y U H M;go_enter Tryz.func266,Tryz.ntmps266
 go_wp2_with fail
 refine(Aa af).mono ?_;rintro e ai ac
 rcases ac with ⟨e0,rfl,Z⟩|⟨e0,rfl,T⟩
 . have ae:=Ab Z;clear Z;go_wp2;go_ret;exact .inl ⟨e0,by go_num,Aa ae⟩
 . have ag:=Ab T;clear T;go_wp2;exact⟨rfl,.inr ⟨e0,rfl,Aa ag⟩⟩
theorem NZ:∀k,k<=29->(Dg k).1<=40000/\(Dg k).2<=16:=by decide
theorem Got.from {No:Nat->Prop}{B b:Nat}{w I w':World}{R M O v:Value}{u:US}{e:Ending}(T:Got No B I b R M O v u e w')(F:Below B w I)(hK:Kp No w I):Got No B w b R M O v u e w':=by
 rcases T with ⟨G,H,E⟩|⟨G,H,E⟩
 . exact .inl ⟨G,H,E.is,F.trans E.below,hK.trans E.kp F.size⟩
 . exact .inr ⟨G,H,F.trans E.below,hK.trans E.kp F.size⟩
theorem Y5 (No:Nat->Prop)(B b:Nat)(a:Option Addr)(n aj:Nat)(bs:List Nat)(af ah:Value)(u:US)(w:World)(h:IIs No B w b (.slice a n aj) af ah u)(bc:Rd w No a n bs)(a4:u.p<=8*n)(a1:u.e=0)(g1 g2 G H U ao:Nat)(l:List Int)(ai:DIs w G H U ao b l)(aw:Good l)(av:No G/\No H/\No U)(a9:∀g,w.heap.size<=g->¬No g)(k:Nat)(v:US)(a8:Hid (Me (rowB bs n) l u=(k,v))):
 Calls Tryz.prog 269 #[.pointer (some ⟨b,0,none⟩),.agg #[DV g1 g2,DV G H]] w fun e w'=>Got No B w b (.slice a n aj) af ah (.int .i64 (k:Int)) v e w':=by
 have bf:=Af bs n;obtain⟨k1,E,aa⟩:∃k1 E,uplace l (rowB bs n) u=(k1,E):=⟨_,_,rfl⟩
 have bh:E.p<=8*n:=by
  have:=Ix l (rowB bs n) u (by omega)
  rw[aa,bf]at this;exact this
 have Y:Hid ((E.e≠0->v=E)/\(E.e=0->29<k1->v= {E with e:=8})/\(E.e=0->k1<=29->k=(Dg k1).1+(uget (rowB bs n) (Dg k1).2 E).1/\v=(uget (rowB bs n) (Dg k1).2 E).2)):=Ab (by
  have:=Aa a8
  unfold Me at this;rw[aa]at this;refine⟨fun e=> ?_,fun e e2=> ?_,fun e e2=> ?_⟩
  . rw[if_pos e]at this;exact(VN this).2.symm
  . rw[if_neg (by simpa using e),if_pos e2]at this;exact(VN this).2.symm
  . rw[if_neg (by simpa using e),if_neg (by omega)]at this;exact⟨(VN this).1.symm,(VN this).2.symm⟩)
 obtain⟨W1,ac⟩:=exq (w.alloc (.cells #[DV g1 g2,DV G H] 282));have b5:=h.lt;have bg:B<=w.heap.size:=by have:=h.base;omega
 have T:Below w.heap.size w W1:=by rw[<-ac];exact(Below.refl _ _).alloc (VB _) _
 have ak:Kp No w W1:=fun g F _=>T.block g F
 have a7:W1.heap.size=w.heap.size+1:=by rw[<-ac];simp
 have ay:W1.heap[w.heap.size]? =some (.cells #[DV g1 g2,DV G H] 282 (0,0)):=by rw[<-ac];exact heap_alloc_new _ _
 have b4:W1.cell? ⟨w.heap.size,1,none⟩=some (DV G H):=Ac ay;have au:=h.grown (w':=W1) (by rw[<-ac];exact World.grownBy_alloc w _ none);have al:=bc.keep (by omega) ak;have bi:=ai.lt;have bn:=ai.is.lt;have a5:DIs W1 G H U ao b l:=ai.keep (by omega) (T.block G (by omega)) (T.block H (by omega)) (T.block U (by omega));have bw:=Ab (LK No B b a n aj bs af ah u W1 au al a4 a1 G H U ao l a5 aw av (fun g F=>a9 g (by omega)) k1 E (Ab aa));have M:=Ab (T.mono bg);have ar:=Ab ak;have bv:=Ab al;have bz:=Ab a7;clear h bc a4 a1 ai aw av a9 a8 aa T ak au al a5 a7 bi bn ay;go_enter Tryz.func269,Tryz.ntmps269
 go_wp2_with fail
 refine(Aa bw).mono ?_;rintro e ba F
 rcases F with ⟨e0,rfl,a6⟩|⟨e0,rfl,az⟩
 . have I:=Ab a6;clear a6
   by_cases bu:29<k1
   . have bd:(30:Int)<=(k1:Int):=by omega
     have O:=(Aa Y).2.1 e0 bu;have Z:=Ab O;clear O Y;go_wp2_with fail
     refine(Cf 8 _).mono ?_;rintro e w3 ⟨rfl,rfl⟩;go_wp2;exact⟨rfl,.inr ⟨by rw[Aa Z];exact(by decide:(8:Int)≠0),by rw[Aa Z],(Aa M).trans (Aa I).below,(Aa ar).trans (Aa I).kp (Aa M).size⟩⟩
   . have bd:¬(30:Int)<=(k1:Int):=by omega
     obtain⟨ap,O⟩:=(Aa Y).2.2 e0 (by omega);obtain⟨a3,a2⟩:=NZ k1 (by omega);obtain⟨r,ag,F⟩:∃r ag,uget (rowB bs n) (Dg k1).2 E=(r,ag):=⟨_,_,rfl⟩
     rw[F]at ap O;have bm:=Ab (Iw No B b a n aj (Dg k1).2 (Dg k1).1 bs af ah E ba (Aa I).is ((Aa bv).keep (Aa I).below.size (Aa I).kp) bh e0 a2 a3 r ag (Ab F));have bo:=Ab (F8 k1 ba (by omega));have ae:Hid (k=(Dg k1).1+r/\v=ag):=Ab ⟨ap,O⟩;clear ap O F Y a3 a2;generalize Dg k1=LF at*;obtain⟨b0,b7⟩:=LF;go_wp2_with fail
     refine(Aa bo).mono ?_;rintro e w3 ⟨rfl,rfl⟩;go_wp2_with fail
     refine(Aa bm).mono ?_;rintro e b3 F;have ax:=Ab (Got.from F ((Aa M).trans (Aa I).below) ((Aa ar).trans (Aa I).kp (Aa M).size))
     rcases F with ⟨bk,rfl,bq⟩|⟨bk,rfl,bj⟩
     . clear bq;go_wp2;go_ret;rw[(Aa ae).1,(Aa ae).2];exact Aa ax
     . clear bj;go_wp2;refine⟨rfl, ?_⟩;rw[(Aa ae).1,(Aa ae).2];exact Aa ax
 . have bb:=Ab az;have Z:=Ab ((Aa Y).1 e0);clear az;go_wp2;exact⟨rfl,.inr ⟨by rw[Aa Z];exact e0,by rw[Aa Z],(Aa M).trans (Aa bb).below,(Aa ar).trans (Aa bb).kp (Aa M).size⟩⟩
theorem IIs.said {No:Nat->Prop}{B b c:Nat}{w F:World}{R Y Z E G v':Value}{u:US}{o:Obj}(av:B<=b)(ae:¬No b)(af:w.heap[b]? =some (.cells (icells R Y Z u E G) 284 (0,0)))
 (aj:w.ownsRow (b+1) 5 1 E u.out.length (u8s u.out)) (T:w.ownsRow (b+1) 3 1 G u.ks.length (i64s u.ks)) (ah:E.ownBlock=none\/E.ownBlock≠G.ownBlock) (ai:∀g,E.ownBlock=some g->¬No g) (ar:∀g,G.ownBlock=some g->¬No g) (ay:∀g,w.heap.size<=g->¬No g)
 (ag:F.ownsRow (b+1) 5 1 v' (u.out.length+1) (u8s u.out++ [.int .u8 (c:Int)])) (M:(w.alloc o).grownBy F E.ownBlock) (U:v'.ownBlock=E.ownBlock\/v'.ownBlock=some (w.alloc o).heap.size):
 F.cell? ⟨b,2,none⟩=some E/\F.frozen? ⟨b,2,none⟩=false/\IUp No B w b R Y Z {u with out:=u.out++ [c]} (F.setCell ⟨b,2,none⟩ v'):=by
 have a1:b<w.heap.size:=(VK.1 af).1
 have az:E.ownBlock=none\/E.ownBlock≠some b:=by
  cases O:E.ownBlock with
  |none=>exact .inl rfl
  |some g=>
   refine .inr (fun e=> ?_);have:=(aj.lt g O).1
   cases e
   omega
 have ac:F.heap[b]? =some (.cells (icells R Y Z u E G) 284 (0,0)):=by
  rw[M.block b (by simp;omega) (fun e=>by rcases az with h|h;rw[h]at e;cases e;exact h e.symm)];exact(Below.heap_alloc w _ b a1).trans af
 have aa:∀g,g<w.heap.size->E.ownBlock≠some g->F.heap[g]? =w.heap[g]? :=fun g H ax=>by
  rw[M.block g (by simp;omega) (fun e=>ax e.symm)];exact Below.heap_alloc w _ g H
 have al:=M.size;simp only[World.size_alloc]at al U;have I:=Ad F b 2 v'
 have aw:v'.ownBlock=none\/v'.ownBlock≠some b:=by
  cases O:v'.ownBlock with
  |none=>exact .inl rfl
  |some g=>
   refine .inr (fun e=> ?_);have:=(ag.lt g O).1
   cases e
   omega
 have ap:F.ownsRow (b+1) 3 1 G u.ks.length (i64s u.ks):=Au T (fun g H=>aa g (T.lt g H).2 (fun e=>by
  rcases ah with h|h
  . rw[h]at e;cases e
  . exact h (by rw[H];exact e)))
 have au:G.ownBlock=none\/G.ownBlock≠some b:=by
  cases O:G.ownBlock with
  |none=>exact .inl rfl
  |some g=>
   refine .inr (fun e=> ?_);have:=(T.lt g O).1
   cases e
   omega
 refine⟨Ac ac,frozen_of_row F b 2 _ _ ac,⟨av,ae,v',G, ?_, ?_,ap.kept I au, ?_, ?_,ar⟩, ?_, ?_⟩
 . rw[heap_setCell_same F b 2 _ _ _ ac];rfl
 . have:=ag.kept I aw
   show (F.setCell ⟨b,2,none⟩ v').ownsRow (b+1) 5 1 v' (u.out++ [c]).length (u8s (u.out++ [c]))
   rw[Wx,VE];exact this
 . rcases U with h|h
   . rw[h];exact ah
   . refine .inr (fun e=> ?_);rw[h]at e;have:=(T.lt _ e.symm).2
     omega
 . intro g H
   rcases U with h|h
   . exact ai g (by rw[<-h];exact H)
   . rw[h]at H;have:=VM H
     exact ay g (by omega)
 . refine⟨I.os.trans (M.os.trans rfl),I.tape.trans (M.tape.trans rfl),I.output.trans (M.output.trans rfl),by have:=I.size;omega, ?_⟩;intro g H;rw[I.block g (by omega) (fun e=>by simp at e;omega),aa g (by omega) (fun e=>by have:=(aj.lt g e).1;omega)]
 . intro g ao ak;rw[I.block g (by omega) (fun e=>by simp at e;subst e;exact ae ak),aa g ao (fun e=>ai g e ak)]
end Go.Proofs.YtleocpdblhbimaaGreatDoor
namespace Go.Proofs.YtleocpdblhbimaaGreatDoor
open Go.RowKit
set_option linter.unusedVariables false
set_option maxRecDepth 100000
theorem Y6 (a b:Nat)(E:a<4611686018427387904)(F:b<4611686018427387904):bits .xor .i64 (a:Int) (b:Int)=((a^^^b:Nat):Int):=by
 have G:a^^^b<2^62:=ZO (by omega) (by omega);show IntKind.i64.wrap ((BitVec.ofInt 64 (a:Int)^^^BitVec.ofInt 64 (b:Int)).toNat:Int)=_
 rw[BitVec.toNat_xor,Hh a E,Hh b F];exact Gj _ (by omega)
theorem JW (a:Nat)(F:a<65536):a^^^65535=65535-a:=by
 have E:((BitVec.ofNat 16 a)^^^(BitVec.allOnes 16)).toNat=(~~~ (BitVec.ofNat 16 a)).toNat:=by rw[BitVec.xor_allOnes]
 rw[BitVec.toNat_xor,BitVec.toNat_not,BitVec.toNat_ofNat,BitVec.toNat_allOnes,ZJ (by simpa using F)]at E;exact E
theorem Z35 (a b:Nat)(E:a<65536)(F:b<65536):a^^^b=65535↔a+b=65535:=by
 constructor
 . intro h;have e:b=a^^^(a^^^b):=by rw[<-ZG,Nat.xor_self,Nat.zero_xor]
   rw[h,JW a E]at e;omega
 . intro h;have e:b=a^^^65535:=by rw[JW a E];omega
   rw[e,<-ZG,Nat.xor_self,Nat.zero_xor]
theorem EU (No:Nat->Prop)(B b:Nat)(a:Option Addr)(n a2:Nat)(bs:List Nat)(ar az:Value)(u:US)(w:World)(E:IIs No B w b (.slice a n a2) ar az u)(ck:Rd w No a n bs)(d6:u.p<=8*n)(dv:u.e=0)(cp:u.out.length<=3000)(dw:∀g,w.heap.size<=g->¬No g)(e9:B<=b)(V:US)(db:Hid (Cj (rowB bs n) u=V)):
 Calls Tryz.prog 249 #[.pointer (some ⟨b,0,none⟩)] w fun e w'=>Got No B w b (.slice a n a2) ar az (.tuple #[]) V e w':=by
 obtain⟨c0,c1,c8⟩:=E.cell;have e6:=c8 1;have e5:=ck.few;have H:=Ab E;have cw:=Ab ck;have cj:=Ab dw;have ep:=Ab dv;clear E ck c8 dw dv;obtain⟨p,cv⟩:=exq (u.p);rw[cv]at c1 d6;have eg:wrap64 ((((p:Int)+7)/8)*8)=(((p+7)/8*8:Nat):Int):=by unfold wrap64;omega
 obtain⟨ae,dr⟩:∃ae,(p+7)/8*8=ae:=⟨_,rfl⟩
 have c9:ae<=8*n:=by omega
 have a8:=Ab ((Aa H).setP ae);have bg:=Af bs n;obtain⟨r1,aa,bh⟩:∃r v,Hid (uget (rowB bs n) 16 {u with p:=ae}=(r,v)):=⟨_,_,Ab rfl⟩
 obtain⟨r2,I,a5⟩:∃r v,Hid (uget (rowB bs n) 16 aa=(r,v)):=⟨_,_,Ab rfl⟩
 have ee:r1<65536:=by have:=Nm (rowB bs n) 16 {u with p:=ae};rw[Aa bh]at this;exact this
 have d7:r2<65536:=by have:=Nm (rowB bs n) 16 aa;rw[Aa a5]at this;exact this
 have dd:aa.p<=8*n:=by have:=Gr (rowB bs n) 16 {u with p:=ae} (by rw[bg];exact c9);rw[Aa bh,bg]at this;exact this
 have d8:I.p<=8*n:=by have:=Gr (rowB bs n) 16 aa (by rw[bg];exact dd);rw[Aa a5,bg]at this;exact this
 have ds:aa.out=u.out:=by have:=Cm (rowB bs n) 16 {u with p:=ae};rw[Aa bh]at this;exact this
 have c7:I.out=u.out:=by have:=Cm (rowB bs n) 16 aa;rw[Aa a5]at this;exact this.trans ds
 have dh:V=if I.e≠0 then I else if r1+r2≠65535 then {I with e:=4}else if 3000<I.out.length+r1 then {I with e:=2}else ustore (rowB bs n) r1 I:=by
  rw[<-Aa db];exact Vj _ u aa I ae r1 r2 (by rw[cv];exact dr) (Aa bh) (Aa a5)
 have a6:=Ab dh;have e1:((p:Int)+7)/8*8=(ae:Int):=by omega
 have ek:=fun w=>Ab (Cf 4 w)
 rw[<-c7]at cp;have d5:=Ab cp;clear db bg dh eg dr cv ds c7 cp;go_enter Tryz.func249,Tryz.ntmps249
 go_wp2_with fail
 clear e1;obtain⟨dz,dp⟩:=exq (w.setCell ⟨b,1,none⟩ (.int .i64 (ae:Int)));rw[dp]at a8 ⊢;clear dp;have ew:=Ab ((Aa cw).keep (Aa a8).below.size (Aa a8).kp);refine(Dx No B b a n a2 16 bs ar az _ dz (Aa a8).is (Aa ew) c9 (Aa ep) (by decide) r1 aa bh).mono ?_;rintro e ej Z
 rcases Z with ⟨e0,rfl,Y⟩|⟨e0,rfl,bn⟩
 rotate_left
 . have M:Hid (V=aa):=Ab (by
    have e2:I=aa:=by have:=Fj (rowB bs n) 16 aa e0;rw[Aa a5]at this;exact this
    rw[Aa a6,if_pos (by rw[e2];exact e0),e2])
   have co:=Ab ((Aa a8).bl.trans bn);clear bn;go_wp2;exact⟨rfl,.inr ⟨by rw[Aa M];exact e0,by rw[Aa M],Aa co⟩⟩
 have bf:=Ab ((Aa a8).trans Y);have en:=Ab ((Aa cw).keep (Aa bf).below.size (Aa bf).kp);have d9:=Ab e0;clear Y e0;go_wp2_with fail
 refine(Dx No B b a n a2 16 bs ar az _ ej (Aa bf).is (Aa en) dd (Aa d9) (by decide) r2 I a5).mono ?_;rintro e eo Z
 rcases Z with ⟨e0,rfl,Y⟩|⟨e0,rfl,bn⟩
 rotate_left
 . have M:Hid (V=I):=Ab (by rw[Aa a6,if_pos e0]);have co:=Ab ((Aa bf).bl.trans bn);clear bn;go_wp2;exact⟨rfl,.inr ⟨by rw[Aa M];exact e0,by rw[Aa M],Aa co⟩⟩
 have bw:=Ab ((Aa bf).trans Y);have b7:=Ab e0;clear Y e0;have b0:=Z35 r1 r2 ee d7;have b4:=Y6 r1 r2 (by omega) (by omega)
 by_cases bv:r1+r2=65535
 rotate_left
 . have de:(bits .xor .i64 (r1:Int) (r2:Int)==65535)=false:=by
    rw[b4,beq_eq_false_iff_ne];intro E;exact bv (b0.1 (by omega))
   have M:Hid (V= {I with e:=4}):=Ab (by rw[Aa a6,if_neg (fun E=>E (Aa b7)),if_pos bv]);clear b0 b4;go_wp2_with fail
   refine(Aa (ek _)).mono ?_;rintro e w3 ⟨rfl,rfl⟩;go_wp2;exact⟨rfl,.inr ⟨by rw[Aa M];exact(by decide:(4:Int)≠0),by rw[Aa M],(Aa bw).bl⟩⟩
 have de:(bits .xor .i64 (r1:Int) (r2:Int)==65535)=true:=by
  rw[b4,beq_iff_eq,b0.2 bv];rfl
 have bu:Hid (V=if 3000<I.out.length+r1 then {I with e:=2}else ustore (rowB bs n) r1 I):=Ab (by rw[Aa a6,if_neg (fun E=>E (Aa b7)),if_neg (fun E=>E bv)]);clear b0 b4;go_wp2_with fail
 refine(Rq No B b r1 _ ar az I eo (Aa bw).is (Aa d5) (by omega)).mono ?_;rintro e w3 ⟨rfl,Z⟩
 rcases Z with ⟨hl,rfl⟩|⟨hl,rfl⟩
 rotate_left
 . have M:Hid (V= {I with e:=2}):=Ab (by rw[Aa bu,if_pos hl]);clear hl;go_wp2;exact⟨rfl,.inr ⟨by rw[Aa M];exact(by decide:(2:Int)≠0),by rw[Aa M],(Aa bw).bl⟩⟩
 have cq:Hid (V=ustore (rowB bs n) r1 I):=Ab (by rw[Aa bu,if_neg (by omega)]);have ed:=Ab hl;clear hl de;go_wp2;go_loopw [27] (fun cu wr=>∃(i:Nat) (x:US),i<=r1/\cu=.int .i64 (i:Int)/\Hid (x.p<=8*n/\x.out.length+(r1-i)<=3000/\x.e=0)/\Hid (IUp No B w b (.slice a n a2) ar az x wr)/\Hid (V=ustore (rowB bs n) (r1-i) x)) (fun cu _=>r1-(intOf cu).toNat)
 case atStart=>exact⟨0,I,VH _,rfl,Ab ⟨d8,by have:=Aa ed;omega,Aa b7⟩,bw,cq⟩
 case round=>
  obtain⟨i,x,hi,rfl,ei,a3,a7⟩:=hrel;obtain⟨dn,dm,ci⟩:=Aa ei
  by_cases e8:i<r1
  . have ff:(i:Int)<(r1:Int):=by omega
    obtain⟨G,F,bi⟩:∃r v,Hid (uget (rowB bs n) 8 x=(r,v)):=⟨_,_,Ab rfl⟩
    have b5:=(Aa a3).is;have eh:=Ab ((Aa cw).keep (Aa a3).below.size (Aa a3).kp);have b3:=Ab (fun q=>Re No B b a n a2 8 bs ar az x (wr.drewN q) (b5.grown ⟨rfl,rfl,rfl,VB _,fun _ _ _=>rfl⟩) ((Aa eh).keep (VB _) (Kp.refl _ _)) dn ci (by decide) G F bi)
    have bo:ustore (rowB bs n) (r1-i) x=ustore (rowB bs n) (r1-(i+1)) (Fd G F):=by
     obtain⟨k,dy⟩:∃k,r1-i=k+1:=⟨r1-i-1,by omega⟩
     rw[dy,show r1-(i+1)=k by omega];show (if x.e=0 then ustore (rowB bs n) k (Fd (uget (rowB bs n) 8 x).1 (uget (rowB bs n) 8 x).2)else x)=_
     rw[if_pos ci,Aa bi]
    obtain⟨ov,kv,c2,fe,c6,bq,c5,dq,dj,df⟩:=b5.rows
    by_cases ah:F.e=0
    . have dt:Hid (∀q,Calls Tryz.prog 230 #[.pointer (some ⟨b,0,none⟩),.int .i64 8] (wr.drewN q) fun e w'=>e=.returned (.int .i64 (G:Int))/\IUp No B w b (.slice a n a2) ar az F w'/\Mx b wr w'):=Ab (fun q=>((Aa b3) q).mono (fun e w' Z=>by
       rcases Z with ⟨_,ce,e2,e3⟩|⟨e0,_⟩
       . exact⟨ce,((Aa a3).drewN q).trans e2,fun j eb=>e3 j eb⟩
       . exact absurd ah e0))
      have e7:G<256:=by have:=Nm (rowB bs n) 8 x;rw[Aa bi]at this;exact this
      have b8:F.out=x.out:=by have:=Cm (rowB bs n) 8 x;rw[Aa bi]at this;exact this
      have cz:F.p<=8*n:=by have:=Gr (rowB bs n) 8 x (by rw[Af];exact dn);rw[Aa bi,Af]at this;exact this
      have dx:Fd G F= {F with out:=F.out++ [G]}:=by
       unfold Fd;rw[if_pos ah,if_neg (by rw[b8];omega)]
      have cm:Hid (V=ustore (rowB bs n) (r1-(i+1)) {F with out:=F.out++ [G]}):=Ab (by rw[Aa a7,bo,dx]);obtain⟨T,O,rfl⟩:=An bq;obtain⟨cd,b9,cn,cy,cg⟩:=info_parts Gz;obtain⟨L,ct⟩:=exq (x.out.length);rw[ct]at c2 dm;have ai:Hid (F.out.length=L):=Ab (by rw[b8,ct]);have e4:IntKind.u8.wrap (G:Int)=(G:Int):=by unfold IntKind.wrap;simp[IntKind.bits,IntKind.signed];omega
      clear bo b3 b5 bq c5 dq dj df c6 a7 cq bu a6 dx b8 ct;go_wp2;refine wp_region_any (by kernel_rfl) ?_
      try (change wpAny _ _ _ _ _ _ _ (World.drew _))
      refine tkA (i:=0) (v:=.pointer (some ⟨b,0,none⟩)) ?_;simp only[Act.put,VA,VC,VD];refine tkA (i:=1) (v:=.pointer (some ⟨b,0,none⟩)) ?_;simp only[Act.put,VA,VC,VD];refine tkA (i:=2) (v:=.pointer (some ⟨b,0,none⟩)) ?_;simp only[Act.put,VA,VC,VD];refine tkA (i:=3) (v:=.pointer (some ⟨b,2,none⟩)) ?_;simp only[Act.put,VA,VC,VD];refine tkA (i:=5) (v:=.pointer (some ⟨b,0,none⟩)) ?_;simp only[Act.put,VA,VC,VD];refine wpAny_ready (rs:= [4,6]) (by kernel_rfl) (by simp) (AllReady.cons rfl (fun K hK=> ?_) (AllReady.cons rfl (fun K hK=> ?_) AllReady.nil))
      . go_simp
        refine hK _ _ ?_;clear hK K;refine rdA (i:=6) fun K hK=> ?_
        go_simp
        refine(Aa dt _).mono ?_;rintro e af ⟨rfl,Y,ba⟩;dsimp only;have bz:af.cell? ⟨b,2,none⟩=some (.slice T L O):=(ba 2 (by decide)).trans c2;have ey:=Y.is.lt;have ag:=Ab Y;clear Y ba;refine hK _ _ ?_;clear hK K;refine tkA (i:=7) (v:=.int .u8 (G:Int)) ?_;simp only[Act.put,VA,VC,VD];refine rdA (i:=8) fun K hK=> ?_
        go_simp
        refine hK _ _ ?_;clear hK K;have U:=(Aa ag).is;have dc:=(Aa ag).below.size;obtain⟨bk,du,ak,bj,ax,ac,ay,au,aj,av⟩:=U.rows;obtain rfl:bk=.slice T L O:=VM (ak.symm.trans bz)
        have ap:af.ownsRow (b+1) 5 1 (.slice T L O) L (u8s F.out):=by
         have:=ac
         rw[Aa ai]at this;exact this
        refine rdA (i:=9) fun K hK=> ?_
        refine step_append_lies _ rfl (.tmp 33) (.tmp 37) 23 rfl (b+1) 5 cd (.int .u8 0) 1 1 Tryz.underlying23 b9 cn cy cg rfl (by decide) (.slice T L O) L (u8s F.out) rfl (ap.alloc _) ⟨af.heap.size,0,none⟩ 1 1 [.int .u8 (G:Int)] rfl rfl (cell_one_new _ _ _) (Bc rfl) (by decide) (by unfold maxLen;omega) (by omega) (by simp;omega) _ rfl ?_;intro bb bm dl a1 al aw bc
        obtain⟨di,da,ao⟩:=IIs.said (c:=G) (v':=.slice (some ⟨bb,0,none⟩) (L+1) bm) U.base U.no ax ac ay au aj av (fun g Z=>Aa cj g (by omega)) (by rw[Aa ai];exact a1) al (by
         rcases aw with E|E
         . exact .inl E.symm
         . exact .inr (by rw[E];rfl))
        have bd:=Ab ((Aa ag).trans ao);refine hK _ _ ?_;clear hK K ao a1 al aw bc ap ac ay au aj av ax ak bj U;simp only[Act.put,VA,VC,VD];refine tkA (i:=10) (v:=.pointer (some ⟨b,0,none⟩)) ?_;simp only[Act.put,VA,VC,VD];refine tkA (i:=11) (v:=.pointer (some ⟨b,2,none⟩)) ?_;simp only[Act.put,VA,VC,VD];refine rdA (i:=12) fun K hK=> ?_
        go_simp
        refine hK _ _ ?_;clear hK K;refine wpAny_done (by kernel_rfl) ?_ _;go_wp2;go_roundw
        case rel=>exact⟨i+1,{F with out:=F.out++ [G]},by omega,by go_num,Ab ⟨cz,by show (F.out++ [G]).length+_<=_;rw[VE,Aa ai];simp only[VJ,WE];omega,ah⟩,bd,cm⟩
        case measure=>simp[intOf];omega
      . go_simp
        refine(Aa dt _).mono ?_;rintro e af ⟨rfl,Y,ba⟩;dsimp only;have bz:af.cell? ⟨b,2,none⟩=some (.slice T L O):=(ba 2 (by decide)).trans c2;have ey:=Y.is.lt;have ag:=Ab Y;clear Y ba;refine hK _ _ ?_;clear hK K;refine tkA (i:=7) (v:=.int .u8 (G:Int)) ?_;simp only[Act.put,VA,VC,VD];refine wpAny_ready (rs:= [4,8]) (by kernel_rfl) (by simp) (AllReady.cons rfl (fun K hK=> ?_) (AllReady.cons rfl (fun K hK=> ?_) AllReady.nil))
        . go_simp
          refine hK _ _ ?_;clear hK K;refine rdA (i:=8) fun K hK=> ?_
          go_simp
          refine hK _ _ ?_;clear hK K;have U:=(Aa ag).is;have dc:=(Aa ag).below.size;obtain⟨bk,du,ak,bj,ax,ac,ay,au,aj,av⟩:=U.rows;obtain rfl:bk=.slice T L O:=VM (ak.symm.trans bz)
          have ap:af.ownsRow (b+1) 5 1 (.slice T L O) L (u8s F.out):=by
           have:=ac
           rw[Aa ai]at this;exact this
          refine rdA (i:=9) fun K hK=> ?_
          refine step_append_lies _ rfl (.tmp 33) (.tmp 37) 23 rfl (b+1) 5 cd (.int .u8 0) 1 1 Tryz.underlying23 b9 cn cy cg rfl (by decide) (.slice T L O) L (u8s F.out) rfl (ap.alloc _) ⟨af.heap.size,0,none⟩ 1 1 [.int .u8 (G:Int)] rfl rfl (cell_one_new _ _ _) (Bc rfl) (by decide) (by unfold maxLen;omega) (by omega) (by simp;omega) _ rfl ?_;intro bb bm dl a1 al aw bc
          obtain⟨di,da,ao⟩:=IIs.said (c:=G) (v':=.slice (some ⟨bb,0,none⟩) (L+1) bm) U.base U.no ax ac ay au aj av (fun g Z=>Aa cj g (by omega)) (by rw[Aa ai];exact a1) al (by
           rcases aw with E|E
           . exact .inl E.symm
           . exact .inr (by rw[E];rfl))
          have bd:=Ab ((Aa ag).trans ao);refine hK _ _ ?_;clear hK K ao a1 al aw bc ap ac ay au aj av ax ak bj U;simp only[Act.put,VA,VC,VD];refine tkA (i:=10) (v:=.pointer (some ⟨b,0,none⟩)) ?_;simp only[Act.put,VA,VC,VD];refine tkA (i:=11) (v:=.pointer (some ⟨b,2,none⟩)) ?_;simp only[Act.put,VA,VC,VD];refine rdA (i:=12) fun K hK=> ?_
          go_simp
          refine hK _ _ ?_;clear hK K;refine wpAny_done (by kernel_rfl) ?_ _;go_wp2;go_roundw
          case rel=>exact⟨i+1,{F with out:=F.out++ [G]},by omega,by go_num,Ab ⟨cz,by show (F.out++ [G]).length+_<=_;rw[VE,Aa ai];simp only[VJ,WE];omega,ah⟩,bd,cm⟩
          case measure=>simp[intOf];omega
        . go_simp
          refine hK _ _ ?_;clear hK K;refine rdA (i:=4) fun K hK=> ?_
          go_simp
          refine hK _ _ ?_;clear hK K;have U:=(Aa ag).is;have dc:=(Aa ag).below.size;obtain⟨bk,du,ak,bj,ax,ac,ay,au,aj,av⟩:=U.rows;obtain rfl:bk=.slice T L O:=VM (ak.symm.trans bz)
          have ap:af.ownsRow (b+1) 5 1 (.slice T L O) L (u8s F.out):=by
           have:=ac
           rw[Aa ai]at this;exact this
          refine rdA (i:=9) fun K hK=> ?_
          refine step_append_lies _ rfl (.tmp 33) (.tmp 37) 23 rfl (b+1) 5 cd (.int .u8 0) 1 1 Tryz.underlying23 b9 cn cy cg rfl (by decide) (.slice T L O) L (u8s F.out) rfl (ap.alloc _) ⟨af.heap.size,0,none⟩ 1 1 [.int .u8 (G:Int)] rfl rfl (cell_one_new _ _ _) (Bc rfl) (by decide) (by unfold maxLen;omega) (by omega) (by simp;omega) _ rfl ?_;intro bb bm dl a1 al aw bc
          obtain⟨di,da,ao⟩:=IIs.said (c:=G) (v':=.slice (some ⟨bb,0,none⟩) (L+1) bm) U.base U.no ax ac ay au aj av (fun g Z=>Aa cj g (by omega)) (by rw[Aa ai];exact a1) al (by
           rcases aw with E|E
           . exact .inl E.symm
           . exact .inr (by rw[E];rfl))
          have bd:=Ab ((Aa ag).trans ao);refine hK _ _ ?_;clear hK K ao a1 al aw bc ap ac ay au aj av ax ak bj U;simp only[Act.put,VA,VC,VD];refine tkA (i:=10) (v:=.pointer (some ⟨b,0,none⟩)) ?_;simp only[Act.put,VA,VC,VD];refine tkA (i:=11) (v:=.pointer (some ⟨b,2,none⟩)) ?_;simp only[Act.put,VA,VC,VD];refine rdA (i:=12) fun K hK=> ?_
          go_simp
          refine hK _ _ ?_;clear hK K;refine wpAny_done (by kernel_rfl) ?_ _;go_wp2;go_roundw
          case rel=>exact⟨i+1,{F with out:=F.out++ [G]},by omega,by go_num,Ab ⟨cz,by show (F.out++ [G]).length+_<=_;rw[VE,Aa ai];simp only[VJ,WE];omega,ah⟩,bd,cm⟩
          case measure=>simp[intOf];omega
    . have M:Hid (V=F):=Ab (by
       have:Fd G F=F:=by unfold Fd;rw[if_neg ah]
       rw[Aa a7,bo,this,Fo _ _ _ ah])
      have et:Hid (∀q,Calls Tryz.prog 230 #[.pointer (some ⟨b,0,none⟩),.int .i64 8] (wr.drewN q) fun e w'=>e=Flt F.e/\Bl No B w w'):=Ab (fun q=>((Aa b3) q).mono (fun e w' Z=>by
       rcases Z with ⟨e0,_⟩|⟨_,ce,e2⟩
       . exact absurd e0 ah
       . exact⟨ce,((Aa a3).bl.drewN q).trans e2⟩))
      obtain⟨T,O,rfl⟩:=An bq;clear bo b3 b5 bq c5 dq dj df c6 a7 cq bu a6 dm;go_wp2;refine wp_region_held_drew (S:=fun w'=>w'.cell? ⟨b,2,none⟩=some (.slice T x.out.length O)) (by kernel_rfl) (by go_simp) (fun a9=> ?_);refine wpAnyH_take (i:=0) (v:=.pointer (some ⟨b,0,none⟩)) rfl (by kernel_rfl) (by kernel_rfl) (by kernel_rfl) (fun _ _ _ E=>E) (a4.inl ⟨by rfl,fun W _=>by go_simp⟩) a9 ?_;simp only[Act.put,VA,VC,VD];refine wpAnyH_take (i:=1) (v:=.pointer (some ⟨b,0,none⟩)) rfl (by kernel_rfl) (by kernel_rfl) (by kernel_rfl) (fun _ _ _ E=>E) (a4.inl ⟨by rfl,fun W _=>by go_simp⟩) a9 ?_;simp only[Act.put,VA,VC,VD];refine wpAnyH_take (i:=2) (v:=.pointer (some ⟨b,0,none⟩)) rfl (by kernel_rfl) (by kernel_rfl) (by kernel_rfl) (fun _ _ _ E=>E) (a4.inl ⟨by rfl,fun W _=>by go_simp⟩) a9 ?_;simp only[Act.put,VA,VC,VD];refine wpAnyH_take (i:=3) (v:=.pointer (some ⟨b,2,none⟩)) rfl (by kernel_rfl) (by kernel_rfl) (by kernel_rfl) (fun _ _ _ E=>E) (a4.inl ⟨by rfl,fun W _=>by go_simp⟩) a9 ?_;simp only[Act.put,VA,VC,VD];refine wpAnyH_take (i:=4) (v:=.slice T x.out.length O) rfl (by kernel_rfl) (by kernel_rfl) (by kernel_rfl) (fun _ _ _ E=>E) (a4.inl ⟨by rfl,fun W eu=>by have fg:W.cell? ⟨b,2,none⟩=some (.slice T x.out.length O):=eu;go_simp⟩) a9 ?_;simp only[Act.put,VA,VC,VD];refine wpAnyH_take (i:=5) (v:=.pointer (some ⟨b,0,none⟩)) rfl (by kernel_rfl) (by kernel_rfl) (by kernel_rfl) (fun _ _ _ E=>E) (a4.inl ⟨by rfl,fun W _=>by go_simp⟩) a9 ?_;simp only[Act.put,VA,VC,VD];refine rdH (i:=6) fun K hK=> ?_
      go_simp
      refine(Aa et _).mono ?_;rintro e af ⟨rfl,em⟩;exact And.intro rfl (a4.inr ⟨by rw[Aa M];exact ah,by rw[Aa M],em⟩)
  . obtain rfl:i=r1:=by omega
    have M:Hid (V=x):=Ab (by rw[Aa a7,XW];rfl);clear a7;go_wp2;go_end0
    exact .inl ⟨by rw[Aa M];exact ci,rfl,by rw[Aa M];exact Aa a3⟩
end Go.Proofs.YtleocpdblhbimaaGreatDoor
namespace Go.Proofs.YtleocpdblhbimaaGreatDoor
open Go.RowKit
set_option linter.unusedVariables false
set_option maxRecDepth 100000
theorem Z4z (xs:List Nat)(y:Nat):i64s (xs++ [y])=i64s xs++ [.int .i64 (y:Int)]:=by simp[i64s]
theorem IIs.kept {No:Nat->Prop}{B b c:Nat}{w G:World}{R Y Z F E v':Value}{u:US}{o:Obj}(au:B<=b)(af:¬No b)(ag:w.heap[b]? =some (.cells (icells R Y Z u F E) 284 (0,0)))
 (T:w.ownsRow (b+1) 5 1 F u.out.length (u8s u.out)) (ae:w.ownsRow (b+1) 3 1 E u.ks.length (i64s u.ks)) (ai:F.ownBlock=none\/F.ownBlock≠E.ownBlock) (aw:∀g,F.ownBlock=some g->¬No g) (aj:∀g,E.ownBlock=some g->¬No g) (ay:∀g,w.heap.size<=g->¬No g)
 (ah:G.ownsRow (b+1) 3 1 v' (u.ks.length+1) (i64s u.ks++ [.int .i64 (c:Int)])) (O:(w.alloc o).grownBy G E.ownBlock) (U:v'.ownBlock=E.ownBlock\/v'.ownBlock=some (w.alloc o).heap.size):
 G.cell? ⟨b,3,none⟩=some E/\G.frozen? ⟨b,3,none⟩=false/\IUp No B w b R Y Z {u with ks:=u.ks++ [c]} (G.setCell ⟨b,3,none⟩ v'):=by
 have a1:b<w.heap.size:=(VK.1 ag).1
 have az:E.ownBlock=none\/E.ownBlock≠some b:=by
  cases M:E.ownBlock with
  |none=>exact .inl rfl
  |some g=>
   refine .inr (fun e=> ?_);have:=(ae.lt g M).1
   cases e
   omega
 have ac:G.heap[b]? =some (.cells (icells R Y Z u F E) 284 (0,0)):=by
  rw[O.block b (by simp;omega) (fun e=>by rcases az with h|h;rw[h]at e;cases e;exact h e.symm)];exact(Below.heap_alloc w _ b a1).trans ag
 have aa:∀g,g<w.heap.size->E.ownBlock≠some g->G.heap[g]? =w.heap[g]? :=fun g H ax=>by
  rw[O.block g (by simp;omega) (fun e=>ax e.symm)];exact Below.heap_alloc w _ g H
 have al:=O.size;simp only[World.size_alloc]at al U;have I:=Ad G b 3 v'
 have av:v'.ownBlock=none\/v'.ownBlock≠some b:=by
  cases M:v'.ownBlock with
  |none=>exact .inl rfl
  |some g=>
   refine .inr (fun e=> ?_);have:=(ah.lt g M).1
   cases e
   omega
 have ap:G.ownsRow (b+1) 5 1 F u.out.length (u8s u.out):=Au T (fun g H=>aa g (T.lt g H).2 (fun e=>by
  rcases ai with h|h
  . rw[h]at H;cases H
  . exact h (by rw[H];exact e.symm)))
 have ar:F.ownBlock=none\/F.ownBlock≠some b:=by
  cases M:F.ownBlock with
  |none=>exact .inl rfl
  |some g=>
   refine .inr (fun e=> ?_);have:=(T.lt g M).1
   cases e
   omega
 refine⟨Ac ac,frozen_of_row G b 3 _ _ ac,⟨au,af,F,v', ?_,ap.kept I ar, ?_, ?_,aw, ?_⟩, ?_, ?_⟩
 . rw[heap_setCell_same G b 3 _ _ _ ac];rfl
 . have:=ah.kept I av
   show (G.setCell ⟨b,3,none⟩ v').ownsRow (b+1) 3 1 v' (u.ks++ [c]).length (i64s (u.ks++ [c]))
   rw[Z4z,VE];exact this
 . rcases U with h|h
   . rw[h];exact ai
   . cases M:F.ownBlock with
     |none=>exact .inl rfl
     |some g=>
      refine .inr (fun e=> ?_);rw[h]at e;have:=(T.lt g M).2
      have:=VM e
      omega
 . intro g H
   rcases U with h|h
   . exact aj g (by rw[<-h];exact H)
   . rw[h]at H;have:=VM H
     exact ay g (by omega)
 . refine⟨I.os.trans (O.os.trans rfl),I.tape.trans (O.tape.trans rfl),I.output.trans (O.output.trans rfl),by have:=I.size;omega, ?_⟩;intro g H;rw[I.block g (by omega) (fun e=>by simp at e;omega),aa g (by omega) (fun e=>by have:=(ae.lt g e).1;omega)]
 . intro g ao ak;rw[I.block g (by omega) (fun e=>by simp at e;subst e;exact af ak),aa g ao (fun e=>aj g e ak)]
theorem H7 (x:Int)(u:US):(Am x u).ks=u.ks:=by unfold Am;split<;>rfl
theorem Z4w (c:Nat)(u:US):(Fd c u).ks=u.ks:=by
 unfold Fd
 split
 . split<;>rfl
 . rfl
theorem I0 (row:List Bool):∀(k:Nat) (u:US),(ustore row k u).ks=u.ks
 |0,u=>rfl
 |k+1,u=>by
  unfold ustore
  split
  . rw[I0 row k,Z4w,Ic]
  . rfl
theorem GJ (row:List Bool)(u:US):(Cj row u).ks=u.ks:=by
 have E:(Cl row u).2.ks=u.ks:=by
  unfold Cl;dsimp only
  split
  . rw[H7,Ic,Ic]
  . rw[Ic,Ic]
 unfold Cj;dsimp only
 split
 . rw[H7,E]
 . rw[I0,E]
theorem Sx (No:Nat->Prop)(B b:Nat)(a:Option Addr)(n O:Nat)(bs:List Nat)(I Z:Value)(u:US)(w:World)(h:IIs No B w b (.slice a n O) I Z u)(a1:Rd w No a n bs)(ao:u.p<=8*n)(az:u.e=0)(ap:u.out.length<=3000)(ak:u.ks.length<=48000)(aa:∀g,w.heap.size<=g->¬No g)(a3:B<=b)(V:US)(M:Hid (Cj (rowB bs n) u=V)):
 Calls Tryz.prog 231 #[.pointer (some ⟨b,0,none⟩),.int .i64 0] w fun e w'=>Got No B w b (.slice a n O) I Z (.tuple #[]) (if V.e=0 then ukept 0 V else V) e w':=by
 have bm:=Ab (EU No B b a n O bs I Z u w h a1 ao az ap aa a3 V M);have a5:V.ks.length<=48000:=by rw[<-Aa M,GJ];exact ak
 have bo:=Ab aa;obtain⟨ba,a6,a9,bn,bi⟩:=info_parts Bv;obtain⟨ar,U⟩:=exq ((if V.e=0 then ukept 0 V else V));rw[U];have aj:=Ab U;clear h a1 ao az ap ak aa M U;go_enter Tryz.func231,Tryz.ntmps231
 go_wp2_with fail
 refine(Aa bm).mono ?_;rintro e a8 ax
 rcases ax with ⟨e0,rfl,H⟩|⟨e0,rfl,ay⟩
 rotate_left
 . have E:Hid (ar=V):=Ab (by rw[<-Aa aj,if_neg e0]);have bb:=Ab ay;clear ay;go_wp2;exact⟨rfl,.inr ⟨by rw[Aa E];exact e0,by rw[Aa E],Aa bb⟩⟩
 have E:Hid (ar= {V with ks:=V.ks++ [0]}):=Ab (by rw[<-Aa aj,if_pos e0];rfl);have bj:=Ab H;have G:=H.is;have bz:=H.below.size;have b9:=G.lt;obtain⟨b4,b7,bd,bw,au,af,Y,ah,ag,ai⟩:=G.rows;obtain⟨L,T⟩:=exq (V.ks.length);have F:=Y;rw[T]at F a5;obtain⟨ce,b5,rfl⟩:=An F;have a4:=Ab F;have ae:=Ab G;have a2:=Ab au;have bk:=Ab af;have bq:=Ab Y;have bg:=Ab ah;have a7:=Ab ag;have bc:=Ab ai;have bu:=Ab T;clear H G au af Y ah ag ai F T bd;go_wp2_with (at_builtin;refine wpList_append_own_at _ rfl _ _ 76 rfl (b+1) 3 ba (.int .i64 0) 1 8 Tryz.underlying76 a6 a9 bn bi rfl (by decide) _ L (i64s V.ks) rfl ((Aa a4).alloc _) ⟨a8.heap.size,0,none⟩ 1 1 [.int .i64 ((0:Nat):Int)] rfl rfl (cell_one_new _ _ _) (Bc rfl) (by unfold maxLen;omega) (by omega) (by simp;omega) ?_)
 intro v' b0 ac av _ al;obtain⟨b8,cd,bf,_,_⟩:=Ba ac (by omega);obtain⟨bv,b3,aw⟩:=IIs.kept (c:=0) (v':=v') (Aa ae).base (Aa ae).no (Aa a2) (Aa bk) (Aa bq) (Aa bg) (Aa a7) (Aa bc) (fun g ax=>Aa bo g (by omega)) (by rw[Aa bu];exact ac) av (by simpa using al);have bh:=Ab ((Aa bj).trans aw);subst bf;clear aw ac av al;go_wp2;go_end0
 exact .inl ⟨by rw[Aa E];exact e0,rfl,by rw[Aa E];exact Aa bh⟩
end Go.Proofs.YtleocpdblhbimaaGreatDoor
