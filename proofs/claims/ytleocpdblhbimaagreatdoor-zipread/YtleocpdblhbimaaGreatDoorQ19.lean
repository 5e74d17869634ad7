import Derived.Defers
import Derived.Recover
import Derived.Laws.Pointers
import Derived.Test.YtleocpdblhbimaaGreatDoorQ18
import Derived.Deep.RegionHeld3
import Derived.Deep.AppendLies
import Derived.Maps.AppendAt
set_option linter.unusedSimpArgs false
set_option linter.unusedVariables false
set_option maxRecDepth 100000
set_option maxHeartbeats 4000000
namespace Go.Proofs.YtleocpdblhbimaaGreatDoor
open Go.RowKit
theorem Z5o (v:Value)(w:World):(Instr.typeAssert (.iface 310 v) 20 310 true).run Tryz.prog w=.ok (.tuple #[v,.bool true]) w:=by kernel_rfl
theorem Z5p (w:World):(Instr.typeAssert .nilIface 20 310 true).run Tryz.prog w=.ok (.tuple #[.agg #[.int .i64 0],.bool false]) w:=by kernel_rfl
theorem AC (p:Addr)(x y:Int)(E:List PanicEntry)(w:World)(T:w.cell? p=some (.int .i64 y))(F:w.frozen? p=false)(G:p.block<w.heap.size):
 CallsD Tryz.prog 229 #[.pointer (some p)] (.panicking ({v:=.iface 310 (.agg #[.int .i64 x]),recovered:=false}::E)) w fun e O w'=>
  e=.returned (.tuple #[])/\O=.panicking ({v:=.iface 310 (.agg #[.int .i64 x]),recovered:=true}::E)/\w'=(w.alloc (.cells #[.int .i64 x] 310)).setCell p (.int .i64 x):=by
 refine callsD_of_wpS Tryz.func229 rfl fun U cs M=> ?_
 apply wpS_seq
 apply wpS_region
 simp[wpOpsS,go_sem,recoverD,M,Tryz.ntmps229,Exit.thenS]
 apply wpS_seq
 apply wpS_region
 simp[wpOpsS,go_sem,Z5o,Exit.thenS,Array.replicate]
 apply wpS_seq
 apply wpS_region
 simp[wpOpsS,go_sem,Exit.thenS]
 refine wpS_cond (t:=true) (by simp[Act.eval]) ?_;simp only[if_true];have H:=(World.cell?_alloc_lt w (.cells #[Value.int .i64 x] 310) p G).trans T;have I:=(frozen?_alloc_cells w #[Value.int .i64 x] 310 p).trans F;apply wpS_region
 simp[wpOpsS,go_sem,H,I,bodyPostS,results,Tryz.results229]
theorem JD (p:Addr)(w:World):
 CallsD Tryz.prog 229 #[.pointer (some p)] .returning w fun e G w'=>
  e=.returned (.tuple #[])/\G=.returning/\w'=w.alloc (.cells #[.int .i64 0] 310):=by
 refine callsD_of_wpS Tryz.func229 rfl fun F cs E=> ?_
 apply wpS_seq
 apply wpS_region
 simp[wpOpsS,go_sem,recoverD,E,Tryz.ntmps229,Exit.thenS]
 apply wpS_seq
 apply wpS_region
 simp[wpOpsS,go_sem,Z5p,Exit.thenS,Array.replicate]
 apply wpS_seq
 apply wpS_region
 simp[wpOpsS,go_sem,Exit.thenS]
 refine wpS_cond (t:=false) (by simp[Act.eval]) ?_;simp only[Bool.false_eq_true,if_false];apply wpS_seq
 apply wpS_region
 simp[wpOpsS,go_sem,Exit.thenS]
 refine wpS_cond (t:=false) (by simp[Act.eval]) ?_;simp only[Bool.false_eq_true,if_false];refine wpS_of_wp (wp_skip ?_)
 cases F
 simp_all [bodyPostS,results,Tryz.results229]
theorem JC (F:Nat)(Z:Array Value)(Q:Nat->World->Prop)(w:World)(ai:∀(args:Array Value) (w:World),(callFunc F args).run Tryz.prog w=.ok (.enter F args) w)
 (ah:Calls Tryz.prog F Z (w.alloc (.cells #[.int .i64 0] 24)) fun e w'=>(∃x,Q x w'/\((x=0/\e=.returned (.tuple #[]))\/ (x≠0/\e=Flt x)))/\w'.heap[w.heap.size]? =some (.cells #[.int .i64 0] 24 (0,0))):
 Calls Tryz.prog 204 #[.func (.func F) Z #[]] w fun e E=>∃x w',Q x w'/\e=.returned (.int .i64 (x:Int))/\w'.heap.size<=E.heap.size/\(∀j,j<w'.heap.size->j≠w.heap.size->(E.heap[j]? =w'.heap[j]?))/\∀B,B<=w.heap.size->Below B w' E:=by
 have aj:∀(T:Fn) (first cap:Array Value) (w:World),(Instr.makeFunc T first cap).run Tryz.prog w=.ok (.func T first cap) w:=fun _ _ _ _=>rfl
 go_enter_defers Tryz.func204,Tryz.ntmps204
 go_wp2;refine ah.mono ?_;rintro e w' ⟨⟨x,O,aa⟩,hb⟩;have H:w.heap.size<w'.heap.size:=(VK.1 hb).1;have I:w'.cell? ⟨w.heap.size,0,none⟩=some (.int .i64 0):=by simp[World.cell?,hb]
 have ac:w'.frozen? ⟨w.heap.size,0,none⟩=false:=by simp[World.frozen?,hb]
 rcases aa with ⟨rfl,rfl⟩|⟨aa,rfl⟩
 . go_wp2;refine leaves_cons (f:=229) (args:= #[.pointer (some ⟨w.heap.size,0,none⟩)]) (by simp) (by simp[go_sem]) ?_;refine(JD ⟨w.heap.size,0,none⟩ _).mono ?_;rintro e af E ⟨rfl,rfl,rfl⟩;have c1:((w'.setCell ⟨w.heap.size,0,none⟩ (.int .i64 0)).alloc (.cells #[.int .i64 0] 310)).cell? ⟨w.heap.size,0,none⟩=some (.int .i64 0):=(World.cell?_alloc_lt _ _ _ (by simpa using H)).trans (World.cell?_setCell_same _ _ _ I);simp[Leaves,settle,results,Tryz.results204,go_sem,c1]
   refine⟨0,w',O,rfl,by omega,fun j G hn=> ?_,fun B M=> ?_⟩
   rotate_left
   . have ae:=(Below.refl B w').grown (Ad w' w.heap.size 0 (.int .i64 0)) (by omega) (fun g e=>by cases e;exact M);exact ae.alloc (by simp;omega) _
   exact(Below.heap_alloc _ _ j (by simpa using G)).trans (Below.heap_setCell _ _ _ j hn)
 . go_wp2;refine leaves_cons (f:=229) (args:= #[.pointer (some ⟨w.heap.size,0,none⟩)]) (by simp) (by simp[go_sem]) ?_;refine(AC ⟨w.heap.size,0,none⟩ x 0 [] _ I ac H).mono ?_;rintro e af E ⟨rfl,rfl,rfl⟩;have c1:((w'.alloc (.cells #[.int .i64 (x:Int)] 310)).setCell ⟨w.heap.size,0,none⟩ (.int .i64 (x:Int))).cell? ⟨w.heap.size,0,none⟩=some (.int .i64 (x:Int)):=World.cell?_setCell_same _ _ _ ((World.cell?_alloc_lt _ _ _ H).trans I);have U:∀j,j<w'.heap.size->¬j=w.heap.size->((w'.alloc (.cells #[.int .i64 (x:Int)] 310)).setCell ⟨w.heap.size,0,none⟩ (.int .i64 (x:Int))).heap[j]? =w'.heap[j]? :=fun j G hn=>(Below.heap_setCell _ _ _ j hn).trans (Below.heap_alloc _ _ j G)
   have ag:((w'.alloc (.cells #[.int .i64 (x:Int)] 310)).setCell ⟨w.heap.size,0,none⟩ (.int .i64 (x:Int))).heap.size=w'.heap.size+1:=by simp
   have Y:∀B,B<=w.heap.size->Below B w' ((w'.alloc (.cells #[.int .i64 (x:Int)] 310)).setCell ⟨w.heap.size,0,none⟩ (.int .i64 (x:Int))):=fun B M=>
    ((Below.refl B w').alloc (by omega) _).grown (Ad _ w.heap.size 0 _) (by simp;omega) (fun g e=>by cases e;exact M)
   generalize (w'.alloc (.cells #[.int .i64 (x:Int)] 310)).setCell ⟨w.heap.size,0,none⟩ (.int .i64 (x:Int))=W at c1 U ag Y ⊢;simp[Leaves,settle,results,Tryz.results204,go_sem,c1]
   exact⟨x,w',O,rfl,by omega,U,Y⟩
theorem IIs.rows {No:Nat->Prop}{B b:Nat}{w:World}{R F G:Value}{u:US}(I:IIs No B w b R F G u):∃ov kv,w.cell? ⟨b,2,none⟩=some ov/\w.cell? ⟨b,3,none⟩=some kv/\w.heap[b]? =some (.cells (icells R F G u ov kv) 284 (0,0))/\w.ownsRow (b+1) 5 1 ov u.out.length (u8s u.out)/\w.ownsRow (b+1) 3 1 kv u.ks.length (i64s u.ks)/\(ov.ownBlock=none\/ov.ownBlock≠kv.ownBlock)/\(∀g,ov.ownBlock=some g->¬No g)/\(∀g,kv.ownBlock=some g->¬No g):=by
 obtain⟨ov,kv,E,H⟩:=I.ex;exact⟨ov,kv,Ac E,Ac E,E,H⟩
theorem Rq (No:Nat->Prop)(B b m:Nat)(R I O:Value)(u:US)(w:World)(F:IIs No B w b R I O u)(aa:u.out.length<=3000)(ac:m<=65535):
 Calls Tryz.prog 265 #[.pointer (some ⟨b,0,none⟩),.int .i64 (m:Int)] w fun e w'=>w'=w/\((u.out.length+m<=3000/\e=.returned (.tuple #[]))\/ (3000<u.out.length+m/\e=Flt 2)):=by
 obtain⟨ov,kv,c2,Z,G,E,T,M,U,Y⟩:=F.rows;obtain⟨a,cc,rfl⟩:=An E;clear F G E T M U Y Z;have H:=Ab (Cf 2 w)
 by_cases hl:u.out.length+m<=3000
 . go_enter Tryz.func265,Tryz.ntmps265
   go_wp2;go_end0
   exact⟨rfl,.inl ⟨hl,rfl⟩⟩
 . go_enter Tryz.func265,Tryz.ntmps265
   go_wp2_with fail
   refine(Aa H).mono ?_;rintro e w' ⟨rfl,rfl⟩;go_wp2;exact⟨rfl,rfl,.inr ⟨by omega,rfl⟩⟩
theorem PQ:∀g∈ [2,4],∀s∈List.range 41,
 (0<=wrap64 (wrap64 ((s:Int)/(g:Nat))-1)->IntKind.i64.wrap (wrap64 ((s:Int)-wrap64 ((g:Int)*wrap64 (wrap64 ((s:Int)/(g:Nat))-1)))*2^min (wrap64 (wrap64 ((s:Int)/(g:Nat))-1)).toNat 64)=(((s-g*(s/g-1))*2^(s/g-1):Nat):Int)/\wrap64 (wrap64 ((s:Int)/(g:Nat))-1)=((s/g-1:Nat):Int))/\
 (wrap64 (wrap64 ((s:Int)/(g:Nat))-1)<0->IntKind.i64.wrap (wrap64 ((s:Int)-wrap64 0))=(((s-g*(s/g-1))*2^(s/g-1):Nat):Int)/\(0:Int)=((s/g-1:Nat):Int)):=by decide+kernel
theorem Rz (s E F:Nat)(w:World)(I:E=2\/E=4)(M:s<=40)(H:F=s/E-1):
 Calls Tryz.prog 279 #[.int .i64 (s:Int),.int .i64 (E:Int)] w fun e w'=>w'=w/\e=.returned (.tuple #[.int .i64 (((s-E*F)*2^F:Nat):Int),.int .i64 (F:Int)]):=by
 subst H;have G:=Ab (PQ E (by rcases I with rfl|rfl<;>simp) s (by simp;omega));go_enter Tryz.func279,Tryz.ntmps279
 go_wp2
 all_goals first
  | (obtain⟨k1,k2⟩:=(Aa G).1 h
     rw[k1,k2];go_ret2;exact⟨rfl,rfl⟩)
  | (obtain⟨k1,k2⟩:=(Aa G).2 h
     rw[k1];go_ret2;refine⟨rfl, ?_⟩;show Ending.returned (.tuple #[.int .i64 (((s-E*(s/E-1))*2^(s/E-1):Nat):Int),.int .i64 0])=_
     rw[<-k2])
theorem Xw (s:Nat)(w:World)(M:257<=s)(I:s<=285):
 Calls Tryz.prog 267 #[.int .i64 (s:Int)] w fun e w'=>w'=w/\e=.returned (.tuple #[.int .i64 ((Df s).1:Int),.int .i64 ((Df s).2:Int)]):=by
 by_cases G:s=285
 . subst G;go_enter Tryz.func267,Tryz.ntmps267
   go_wp2;go_ret2;exact⟨rfl,rfl⟩
 . have E:=Ab (Rz (s-257) 4 _ w (.inr rfl) (by omega) rfl);have F:Hid (Df s=(3+((s-257)-4*((s-257)/4-1))*2^((s-257)/4-1),(s-257)/4-1)):=Ab (by unfold Df;rw[if_neg G])
   have hb:((s-257)-4*((s-257)/4-1))*2^((s-257)/4-1)<=300:=by
    have:∀k∈List.range 29,(k-4*(k/4-1))*2^(k/4-1)<=300:=by decide+kernel
    exact this (s-257) (by simp;omega)
   generalize ((s-257)-4*((s-257)/4-1))*2^((s-257)/4-1)=y at E F hb;generalize (s-257)/4-1=z at E F;have H:((s-257:Nat):Int)=(s:Int)-257:=by omega
   rw[H]at E;go_enter Tryz.func267,Tryz.ntmps267
   go_wp2_with fail
   refine(Aa E).mono ?_;rintro e w' ⟨rfl,rfl⟩;go_wp2;go_ret2;refine⟨rfl, ?_⟩;rw[Aa F];go_num
theorem F8 (s:Nat)(w:World)(G:s<=29):
 Calls Tryz.prog 280 #[.int .i64 (s:Int)] w fun e w'=>w'=w/\e=.returned (.tuple #[.int .i64 ((Dg s).1:Int),.int .i64 ((Dg s).2:Int)]):=by
 have E:=Ab (Rz s 2 _ w (.inl rfl) (by omega) rfl);have F:Hid (Dg s=(1+(s-2*(s/2-1))*2^(s/2-1),s/2-1)):=Ab rfl
 have hb:(s-2*(s/2-1))*2^(s/2-1)<=40000:=by
  have:∀k∈List.range 30,(k-2*(k/2-1))*2^(k/2-1)<=40000:=by decide+kernel
  exact this s (by simp;omega)
 generalize (s-2*(s/2-1))*2^(s/2-1)=y at E F hb;generalize s/2-1=z at E F;go_enter Tryz.func280,Tryz.ntmps280
 go_wp2_with fail
 refine(Aa E).mono ?_;rintro e w' ⟨rfl,rfl⟩;go_wp2;go_ret2;refine⟨rfl, ?_⟩;rw[Aa F];go_num
theorem Nm (row:List Bool)(n:Nat)(u:US):(uget row n u).1<2^n:=by
 have E:0<2^n:=YQ n;unfold uget
 split
 . split
   . exact E
   . exact VG (Jy _) (VO (by decide) (by rw[VL];exact ZP _ _))
 . exact E
theorem Iw (No:Nat->Prop)(B b:Nat)(a:Option Addr)(n F E l:Nat)(bs:List Nat)(H G:Value)(u:US)(w:World)(Z:IIs No B w b (.slice a n F) H G u)(aa:Rd w No a n bs)(O:u.p<=8*n)(U:u.e=0)(I:E<=16)(ai:l<=40000)(r:Nat)(v:US)(M:Hid (uget (rowB bs n) E u=(r,v))):
 Calls Tryz.prog 266 #[.pointer (some ⟨b,0,none⟩),.int .i64 (l:Int),.int .i64 (E:Int)] w fun e w'=>Got No B w b (.slice a n F) H G (.int .i64 ((l+r:Nat):Int)) v e w':=by
 have ac:=Ab (Dx No B b a n F E bs H G u w Z aa O U I r v M)
 have aj:r<65536:=by
  have:=Nm (rowB bs n) E u
  rw[Aa M]at this;exact VG this (VO (j:=16) (by decide) I)
 clear Z aa O U I M;go_enter Tryz.func266,Tryz.ntmps266
 go_wp2_with fail
 refine(Aa ac).mono ?_;rintro e ah ae
 rcases ae with ⟨e0,rfl,Y⟩|⟨e0,rfl,T⟩
 . have af:=Ab Y;clear Y;go_wp2;go_ret;exact .inl ⟨e0,by go_num,Aa af⟩
 . have ag:=Ab T;clear T;go_wp2;exact⟨rfl,.inr ⟨e0,rfl,Aa ag⟩⟩
theorem NZ:∀k,k<=29->(Dg k).1<=40000/\(Dg k).2<=16:=by decide
theorem Got.from {No:Nat->Prop}{B b:Nat}{w H w':World}{R M O v:Value}{u:US}{e:Ending}(T:Got No B H b R M O v u e w')(F:Below B w H)(hK:Kp No w H):Got No B w b R M O v u e w':=by
 rcases T with ⟨I,G,E⟩|⟨I,G,E⟩
 . exact .inl ⟨I,G,E.is,F.trans E.below,hK.trans E.kp F.size⟩
 . exact .inr ⟨I,G,F.trans E.below,hK.trans E.kp F.size⟩
theorem Y5 (No:Nat->Prop)(B b:Nat)(a:Option Addr)(n ae:Nat)(bs:List Nat)(ag af:Value)(u:US)(w:World)(h:IIs No B w b (.slice a n ae) ag af u)(bb:Rd w No a n bs)(au:u.p<=8*n)(ay:u.e=0)(g1 g2 H G U ak:Nat)(l:List Int)(ac:DIs w H G U ak b l)(a7:Good l)(a3:No H/\No G/\No U)(a8:∀g,w.heap.size<=g->¬No g)(k:Nat)(v:US)(bc:Hid (Me (rowB bs n) l u=(k,v))):
 Calls Tryz.prog 269 #[.pointer (some ⟨b,0,none⟩),.agg #[DV g1 g2,DV H G]] w fun e w'=>Got No B w b (.slice a n ae) ag af (.int .i64 (k:Int)) v e w':=by
 have bi:=Af bs n;obtain⟨k1,E,ah⟩:∃k1 E,uplace l (rowB bs n) u=(k1,E):=⟨_,_,rfl⟩
 have bf:E.p<=8*n:=by
  have:=Ix l (rowB bs n) u (by omega)
  rw[ah,bi]at this;exact this
 have Y:Hid ((E.e≠0->v=E)/\(E.e=0->29<k1->v= {E with e:=8})/\(E.e=0->k1<=29->k=(Dg k1).1+(uget (rowB bs n) (Dg k1).2 E).1/\v=(uget (rowB bs n) (Dg k1).2 E).2)):=Ab (by
  have:=Aa bc
  unfold Me at this;rw[ah]at this;refine⟨fun e=> ?_,fun e e2=> ?_,fun e e2=> ?_⟩
  . rw[if_pos e]at this;exact(VN this).2.symm
  . rw[if_neg (by simpa using e),if_pos e2]at this;exact(VN this).2.symm
  . rw[if_neg (by simpa using e),if_neg (by omega)]at this;exact⟨(VN this).1.symm,(VN this).2.symm⟩)
 obtain⟨W1,aa⟩:=exq (w.alloc (.cells #[DV g1 g2,DV H G] 282));have b0:=h.lt;have bk:B<=w.heap.size:=by have:=h.base;omega
 have O:Below w.heap.size w W1:=by rw[<-aa];exact(Below.refl _ _).alloc (VB _) _
 have ar:Kp No w W1:=fun g F _=>O.block g F
 have ba:W1.heap.size=w.heap.size+1:=by rw[<-aa];simp
 have ax:W1.heap[w.heap.size]? =some (.cells #[DV g1 g2,DV H G] 282 (0,0)):=by rw[<-aa];exact heap_alloc_new _ _
 have bz:W1.cell? ⟨w.heap.size,1,none⟩=some (DV H G):=Ac ax;have a6:=h.grown (w':=W1) (by rw[<-aa];exact World.grownBy_alloc w _ none);have al:=bb.keep (by omega) ar;have bn:=ac.lt;have bv:=ac.is.lt;have a9:DIs W1 H G U ak b l:=ac.keep (by omega) (O.block H (by omega)) (O.block G (by omega)) (O.block U (by omega));have bg:=Ab (LK No B b a n ae bs ag af u W1 a6 al au ay H G U ak l a9 a7 a3 (fun g F=>a8 g (by omega)) k1 E (Ab ah));have M:=Ab (O.mono bk);have ap:=Ab ar;have bj:=Ab al;have b4:=Ab ba;clear h bb au ay ac a7 a3 a8 bc ah O ar a6 al a9 ba bn bv ax;go_enter Tryz.func269,Tryz.ntmps269
 go_wp2_with fail
 refine(Aa bg).mono ?_;rintro e aw F
 rcases F with ⟨e0,rfl,a5⟩|⟨e0,rfl,av⟩
 . have I:=Ab a5;clear a5
   by_cases bu:29<k1
   . have bm:(30:Int)<=(k1:Int):=by omega
     have T:=(Aa Y).2.1 e0 bu;have Z:=Ab T;clear T Y;go_wp2_with fail
     refine(Cf 8 _).mono ?_;rintro e w3 ⟨rfl,rfl⟩;go_wp2;exact⟨rfl,.inr ⟨by rw[Aa Z];exact(by decide:(8:Int)≠0),by rw[Aa Z],(Aa M).trans (Aa I).below,(Aa ap).trans (Aa I).kp (Aa M).size⟩⟩
   . have bm:¬(30:Int)<=(k1:Int):=by omega
     obtain⟨ao,T⟩:=(Aa Y).2.2 e0 (by omega);obtain⟨az,a4⟩:=NZ k1 (by omega);obtain⟨r,aj,F⟩:∃r aj,uget (rowB bs n) (Dg k1).2 E=(r,aj):=⟨_,_,rfl⟩
     rw[F]at ao T;have bq:=Ab (Iw No B b a n ae (Dg k1).2 (Dg k1).1 bs ag af E aw (Aa I).is ((Aa bj).keep (Aa I).below.size (Aa I).kp) bf e0 a4 az r aj (Ab F));have bh:=Ab (F8 k1 aw (by omega));have ai:Hid (k=(Dg k1).1+r/\v=aj):=Ab ⟨ao,T⟩;clear ao T F Y az a4;generalize Dg k1=LF at*;obtain⟨b3,b7⟩:=LF;go_wp2_with fail
     refine(Aa bh).mono ?_;rintro e w3 ⟨rfl,rfl⟩;go_wp2_with fail
     refine(Aa bq).mono ?_;rintro e b5 F;have a1:=Ab (Got.from F ((Aa M).trans (Aa I).below) ((Aa ap).trans (Aa I).kp (Aa M).size))
     rcases F with ⟨bw,rfl,bd⟩|⟨bw,rfl,bo⟩
     . clear bd;go_wp2;go_ret;rw[(Aa ai).1,(Aa ai).2];exact Aa a1
     . clear bo;go_wp2;refine⟨rfl, ?_⟩;rw[(Aa ai).1,(Aa ai).2];exact Aa a1
 . have a2:=Ab av;have Z:=Ab ((Aa Y).1 e0);clear av;go_wp2;exact⟨rfl,.inr ⟨by rw[Aa Z];exact e0,by rw[Aa Z],(Aa M).trans (Aa a2).below,(Aa ap).trans (Aa a2).kp (Aa M).size⟩⟩
theorem IIs.said {No:Nat->Prop}{B b c:Nat}{w F:World}{R Z U E G v':Value}{u:US}{o:Obj}(ar:B<=b)(ai:¬No b)(af:w.heap[b]? =some (.cells (icells R Z U u E G) 284 (0,0)))
 (ag:w.ownsRow (b+1) 5 1 E u.out.length (u8s u.out)) (T:w.ownsRow (b+1) 3 1 G u.ks.length (i64s u.ks)) (ah:E.ownBlock=none\/E.ownBlock≠G.ownBlock) (aj:∀g,E.ownBlock=some g->¬No g) (aw:∀g,G.ownBlock=some g->¬No g) (ay:∀g,w.heap.size<=g->¬No g)
 (ak:F.ownsRow (b+1) 5 1 v' (u.out.length+1) (u8s u.out++ [.int .u8 (c:Int)])) (M:(w.alloc o).grownBy F E.ownBlock) (Y:v'.ownBlock=E.ownBlock\/v'.ownBlock=some (w.alloc o).heap.size):
 F.cell? ⟨b,2,none⟩=some E/\F.frozen? ⟨b,2,none⟩=false/\IUp No B w b R Z U {u with out:=u.out++ [c]} (F.setCell ⟨b,2,none⟩ v'):=by
 have ax:b<w.heap.size:=(VK.1 af).1
 have ao:E.ownBlock=none\/E.ownBlock≠some b:=by
  cases O:E.ownBlock with
  |none=>exact .inl rfl
  |some g=>
   refine .inr (fun e=> ?_);have:=(ag.lt g O).1
   cases e
   omega
 have aa:F.heap[b]? =some (.cells (icells R Z U u E G) 284 (0,0)):=by
  rw[M.block b (by simp;omega) (fun e=>by rcases ao with h|h;rw[h]at e;cases e;exact h e.symm)];exact(Below.heap_alloc w _ b ax).trans af
 have ac:∀g,g<w.heap.size->E.ownBlock≠some g->F.heap[g]? =w.heap[g]? :=fun g H au=>by
  rw[M.block g (by simp;omega) (fun e=>au e.symm)];exact Below.heap_alloc w _ g H
 have al:=M.size;simp only[World.size_alloc]at al Y;have I:=Ad F b 2 v'
 have az:v'.ownBlock=none\/v'.ownBlock≠some b:=by
  cases O:v'.ownBlock with
  |none=>exact .inl rfl
  |some g=>
   refine .inr (fun e=> ?_);have:=(ak.lt g O).1
   cases e
   omega
 have ap:F.ownsRow (b+1) 3 1 G u.ks.length (i64s u.ks):=Au T (fun g H=>ac g (T.lt g H).2 (fun e=>by
  rcases ah with h|h
  . rw[h]at e;cases e
  . exact h (by rw[H];exact e)))
 have av:G.ownBlock=none\/G.ownBlock≠some b:=by
  cases O:G.ownBlock with
  |none=>exact .inl rfl
  |some g=>
   refine .inr (fun e=> ?_);have:=(T.lt g O).1
   cases e
   omega
 refine⟨Ac aa,frozen_of_row F b 2 _ _ aa,⟨ar,ai,v',G, ?_, ?_,ap.kept I av, ?_, ?_,aw⟩, ?_, ?_⟩
 . rw[heap_setCell_same F b 2 _ _ _ aa];rfl
 . have:=ak.kept I az
   show (F.setCell ⟨b,2,none⟩ v').ownsRow (b+1) 5 1 v' (u.out++ [c]).length (u8s (u.out++ [c]))
   rw[Wx,VE];exact this
 . rcases Y with h|h
   . rw[h];exact ah
   . refine .inr (fun e=> ?_);rw[h]at e;have:=(T.lt _ e.symm).2
     omega
 . intro g H
   rcases Y with h|h
   . exact aj g (by rw[<-h];exact H)
   . rw[h]at H;have:=VM H
     exact ay g (by omega)
 . refine⟨I.os.trans (M.os.trans rfl),I.tape.trans (M.tape.trans rfl),I.output.trans (M.output.trans rfl),by have:=I.size;omega, ?_⟩;intro g H;rw[I.block g (by omega) (fun e=>by simp at e;omega),ac g (by omega) (fun e=>by have:=(ag.lt g e).1;omega)]
 . intro g a1 ae;rw[I.block g (by omega) (fun e=>by simp at e;subst e;exact ai ae),ac g a1 (fun e=>aj g e ae)]
theorem Y6 (a b:Nat)(F:a<4611686018427387904)(E:b<4611686018427387904):bits .xor .i64 (a:Int) (b:Int)=((a^^^b:Nat):Int):=by
 have G:a^^^b<2^62:=ZO (by omega) (by omega);show IntKind.i64.wrap ((BitVec.ofInt 64 (a:Int)^^^BitVec.ofInt 64 (b:Int)).toNat:Int)=_
 rw[BitVec.toNat_xor,Hh a F,Hh b E];exact Gj _ (by omega)
theorem JW (a:Nat)(F:a<65536):a^^^65535=65535-a:=by
 have E:((BitVec.ofNat 16 a)^^^(BitVec.allOnes 16)).toNat=(~~~ (BitVec.ofNat 16 a)).toNat:=by rw[BitVec.xor_allOnes]
 rw[BitVec.toNat_xor,BitVec.toNat_not,BitVec.toNat_ofNat,BitVec.toNat_allOnes,ZJ (by simpa using F)]at E;exact E
theorem Z35 (a b:Nat)(E:a<65536)(F:b<65536):a^^^b=65535↔a+b=65535:=by
 constructor
 . intro h;have e:b=a^^^(a^^^b):=by rw[<-ZG,Nat.xor_self,Nat.zero_xor]
   rw[h,JW a E]at e;omega
 . intro h;have e:b=a^^^65535:=by rw[JW a E];omega
   rw[e,<-ZG,Nat.xor_self,Nat.zero_xor]
theorem EU (No:Nat->Prop)(B b:Nat)(a:Option Addr)(n a2:Nat)(bs:List Nat)(ax aj:Value)(u:US)(w:World)(E:IIs No B w b (.slice a n a2) ax aj u)(cw:Rd w No a n bs)(d8:u.p<=8*n)(dh:u.e=0)(ci:u.out.length<=3000)(dt:∀g,w.heap.size<=g->¬No g)(fe:B<=b)(V:US)(c8:Hid (Cj (rowB bs n) u=V)):
 Calls Tryz.prog 249 #[.pointer (some ⟨b,0,none⟩)] w fun e w'=>Got No B w b (.slice a n a2) ax aj (.tuple #[]) V e w':=by
 obtain⟨c0,c1,dw⟩:=E.cell;have ff:=dw 1;have e7:=cw.few;have H:=Ab E;have cd:=Ab cw;have ct:=Ab dt;have ed:=Ab dh;clear E cw dw dt dh;obtain⟨p,cj⟩:=exq (u.p);rw[cj]at c1 d8;have d7:wrap64 ((((p:Int)+7)/8)*8)=(((p+7)/8*8:Nat):Int):=by unfold wrap64;omega
 obtain⟨ae,dq⟩:∃ae,(p+7)/8*8=ae:=⟨_,rfl⟩
 have dn:ae<=8*n:=by omega
 have a8:=Ab ((Aa H).setP ae);have bd:=Af bs n;obtain⟨r1,aa,bf⟩:∃r v,Hid (uget (rowB bs n) 16 {u with p:=ae}=(r,v)):=⟨_,_,Ab rfl⟩
 obtain⟨r2,I,a5⟩:∃r v,Hid (uget (rowB bs n) 16 aa=(r,v)):=⟨_,_,Ab rfl⟩
 have ew:r1<65536:=by have:=Nm (rowB bs n) 16 {u with p:=ae};rw[Aa bf]at this;exact this
 have e1:r2<65536:=by have:=Nm (rowB bs n) 16 aa;rw[Aa a5]at this;exact this
 have df:aa.p<=8*n:=by have:=Gr (rowB bs n) 16 {u with p:=ae} (by rw[bd];exact dn);rw[Aa bf,bd]at this;exact this
 have ey:I.p<=8*n:=by have:=Gr (rowB bs n) 16 aa (by rw[bd];exact df);rw[Aa a5,bd]at this;exact this
 have db:aa.out=u.out:=by have:=Cm (rowB bs n) 16 {u with p:=ae};rw[Aa bf]at this;exact this
 have c5:I.out=u.out:=by have:=Cm (rowB bs n) 16 aa;rw[Aa a5]at this;exact this.trans db
 have dj:V=if I.e≠0 then I else if r1+r2≠65535 then {I with e:=4}else if 3000<I.out.length+r1 then {I with e:=2}else ustore (rowB bs n) r1 I:=by
  rw[<-Aa c8];exact Vj _ u aa I ae r1 r2 (by rw[cj];exact dq) (Aa bf) (Aa a5)
 have a4:=Ab dj;have ep:((p:Int)+7)/8*8=(ae:Int):=by omega
 have eo:=fun w=>Ab (Cf 4 w)
 rw[<-c5]at ci;have ee:=Ab ci;clear c8 bd dj d7 dq cj db c5 ci;go_enter Tryz.func249,Tryz.ntmps249
 go_wp2_with fail
 clear ep;obtain⟨eh,du⟩:=exq (w.setCell ⟨b,1,none⟩ (.int .i64 (ae:Int)));rw[du]at a8 ⊢;clear du;have d9:=Ab ((Aa cd).keep (Aa a8).below.size (Aa a8).kp);refine(Dx No B b a n a2 16 bs ax aj _ eh (Aa a8).is (Aa d9) dn (Aa ed) (by decide) r1 aa bf).mono ?_;rintro e ei Z
 rcases Z with ⟨e0,rfl,Y⟩|⟨e0,rfl,bh⟩
 rotate_left
 . have M:Hid (V=aa):=Ab (by
    have e2:I=aa:=by have:=Fj (rowB bs n) 16 aa e0;rw[Aa a5]at this;exact this
    rw[Aa a4,if_pos (by rw[e2];exact e0),e2])
   have cn:=Ab ((Aa a8).bl.trans bh);clear bh;go_wp2;exact⟨rfl,.inr ⟨by rw[Aa M];exact e0,by rw[Aa M],Aa cn⟩⟩
 have bg:=Ab ((Aa a8).trans Y);have eu:=Ab ((Aa cd).keep (Aa bg).below.size (Aa bg).kp);have et:=Ab e0;clear Y e0;go_wp2_with fail
 refine(Dx No B b a n a2 16 bs ax aj _ ei (Aa bg).is (Aa eu) df (Aa et) (by decide) r2 I a5).mono ?_;rintro e ej Z
 rcases Z with ⟨e0,rfl,Y⟩|⟨e0,rfl,bh⟩
 rotate_left
 . have M:Hid (V=I):=Ab (by rw[Aa a4,if_pos e0]);have cn:=Ab ((Aa bg).bl.trans bh);clear bh;go_wp2;exact⟨rfl,.inr ⟨by rw[Aa M];exact e0,by rw[Aa M],Aa cn⟩⟩
 have bq:=Ab ((Aa bg).trans Y);have ce:=Ab e0;clear Y e0;have b5:=Z35 r1 r2 ew e1;have bo:=Y6 r1 r2 (by omega) (by omega)
 by_cases b4:r1+r2=65535
 rotate_left
 . have dp:(bits .xor .i64 (r1:Int) (r2:Int)==65535)=false:=by
    rw[bo,beq_eq_false_iff_ne];intro E;exact b4 (b5.1 (by omega))
   have M:Hid (V= {I with e:=4}):=Ab (by rw[Aa a4,if_neg (fun E=>E (Aa ce)),if_pos b4]);clear b5 bo;go_wp2_with fail
   refine(Aa (eo _)).mono ?_;rintro e w3 ⟨rfl,rfl⟩;go_wp2;exact⟨rfl,.inr ⟨by rw[Aa M];exact(by decide:(4:Int)≠0),by rw[Aa M],(Aa bq).bl⟩⟩
 have dp:(bits .xor .i64 (r1:Int) (r2:Int)==65535)=true:=by
  rw[bo,beq_iff_eq,b5.2 b4];rfl
 have b3:Hid (V=if 3000<I.out.length+r1 then {I with e:=2}else ustore (rowB bs n) r1 I):=Ab (by rw[Aa a4,if_neg (fun E=>E (Aa ce)),if_neg (fun E=>E b4)]);clear b5 bo;go_wp2_with fail
 refine(Rq No B b r1 _ ax aj I ej (Aa bq).is (Aa ee) (by omega)).mono ?_;rintro e w3 ⟨rfl,Z⟩
 rcases Z with ⟨hl,rfl⟩|⟨hl,rfl⟩
 rotate_left
 . have M:Hid (V= {I with e:=2}):=Ab (by rw[Aa b3,if_pos hl]);clear hl;go_wp2;exact⟨rfl,.inr ⟨by rw[Aa M];exact(by decide:(2:Int)≠0),by rw[Aa M],(Aa bq).bl⟩⟩
 have cz:Hid (V=ustore (rowB bs n) r1 I):=Ab (by rw[Aa b3,if_neg (by omega)]);have d6:=Ab hl;clear hl dp;go_wp2;go_loopw [27] (fun cm wr=>∃(i:Nat) (x:US),i<=r1/\cm=.int .i64 (i:Int)/\Hid (x.p<=8*n/\x.out.length+(r1-i)<=3000/\x.e=0)/\Hid (IUp No B w b (.slice a n a2) ax aj x wr)/\Hid (V=ustore (rowB bs n) (r1-i) x)) (fun cm _=>r1-(intOf cm).toNat)
 case atStart=>exact⟨0,I,VH _,rfl,Ab ⟨ey,by have:=Aa d6;omega,Aa ce⟩,bq,cz⟩
 case round=>
  obtain⟨i,x,hi,rfl,d5,a7,a3⟩:=hrel;obtain⟨dm,dr,ck⟩:=Aa d5
  by_cases e5:i<r1
  . have e8:(i:Int)<(r1:Int):=by omega
    obtain⟨G,F,bb⟩:∃r v,Hid (uget (rowB bs n) 8 x=(r,v)):=⟨_,_,Ab rfl⟩
    have bw:=(Aa a7).is;have dz:=Ab ((Aa cd).keep (Aa a7).below.size (Aa a7).kp);have bz:=Ab (fun q=>Re No B b a n a2 8 bs ax aj x (wr.drewN q) (bw.grown ⟨rfl,rfl,rfl,VB _,fun _ _ _=>rfl⟩) ((Aa dz).keep (VB _) (Kp.refl _ _)) dm ck (by decide) G F bb)
    have bv:ustore (rowB bs n) (r1-i) x=ustore (rowB bs n) (r1-(i+1)) (Fd G F):=by
     obtain⟨k,eg⟩:∃k,r1-i=k+1:=⟨r1-i-1,by omega⟩
     rw[eg,show r1-(i+1)=k by omega];show (if x.e=0 then ustore (rowB bs n) k (Fd (uget (rowB bs n) 8 x).1 (uget (rowB bs n) 8 x).2)else x)=_
     rw[if_pos ck,Aa bb]
    obtain⟨ov,kv,c2,e6,de,bu,di,dv,dx,ds⟩:=bw.rows
    by_cases ai:F.e=0
    . have c6:Hid (∀q,Calls Tryz.prog 230 #[.pointer (some ⟨b,0,none⟩),.int .i64 8] (wr.drewN q) fun e w'=>e=.returned (.int .i64 (G:Int))/\IUp No B w b (.slice a n a2) ax aj F w'/\Mx b wr w'):=Ab (fun q=>((Aa bz) q).mono (fun e w' Z=>by
       rcases Z with ⟨_,cg,e2,e3⟩|⟨e0,_⟩
       . exact⟨cg,((Aa a7).drewN q).trans e2,fun j dy=>e3 j dy⟩
       . exact absurd ai e0))
      have e4:G<256:=by have:=Nm (rowB bs n) 8 x;rw[Aa bb]at this;exact this
      have cy:F.out=x.out:=by have:=Cm (rowB bs n) 8 x;rw[Aa bb]at this;exact this
      have b8:F.p<=8*n:=by have:=Gr (rowB bs n) 8 x (by rw[Af];exact dm);rw[Aa bb,Af]at this;exact this
      have dl:Fd G F= {F with out:=F.out++ [G]}:=by
       unfold Fd;rw[if_pos ai,if_neg (by rw[cy];omega)]
      have cq:Hid (V=ustore (rowB bs n) (r1-(i+1)) {F with out:=F.out++ [G]}):=Ab (by rw[Aa a3,bv,dl]);obtain⟨T,O,rfl⟩:=An bu;obtain⟨co,cp,b7,cv,b9⟩:=info_parts Gz;obtain⟨L,cu⟩:=exq (x.out.length);rw[cu]at c2 dr;have ah:Hid (F.out.length=L):=Ab (by rw[cy,cu]);have fg:IntKind.u8.wrap (G:Int)=(G:Int):=by unfold IntKind.wrap;simp[IntKind.bits,IntKind.signed];omega
      clear bv bz bw bu di dv dx ds de a3 cz b3 a4 dl cy cu;go_wp2;refine wp_region_any (by kernel_rfl) ?_
      try (change wpAny _ _ _ _ _ _ _ (World.drew _))
      refine tkA (i:=0) (v:=.pointer (some ⟨b,0,none⟩)) ?_;simp only[Act.put,VA,VC,VD];refine tkA (i:=1) (v:=.pointer (some ⟨b,0,none⟩)) ?_;simp only[Act.put,VA,VC,VD];refine tkA (i:=2) (v:=.pointer (some ⟨b,0,none⟩)) ?_;simp only[Act.put,VA,VC,VD];refine tkA (i:=3) (v:=.pointer (some ⟨b,2,none⟩)) ?_;simp only[Act.put,VA,VC,VD];refine tkA (i:=5) (v:=.pointer (some ⟨b,0,none⟩)) ?_;simp only[Act.put,VA,VC,VD];refine wpAny_ready (rs:= [4,6]) (by kernel_rfl) (by simp) (AllReady.cons rfl (fun K hK=> ?_) (AllReady.cons rfl (fun K hK=> ?_) AllReady.nil))
      . go_simp
        refine hK _ _ ?_;clear hK K;refine rdA (i:=6) fun K hK=> ?_
        go_simp
        refine(Aa c6 _).mono ?_;rintro e af ⟨rfl,Y,bk⟩;dsimp only;have b0:af.cell? ⟨b,2,none⟩=some (.slice T L O):=(bk 2 (by decide)).trans c2;have ek:=Y.is.lt;have ag:=Ab Y;clear Y bk;refine hK _ _ ?_;clear hK K;refine tkA (i:=7) (v:=.int .u8 (G:Int)) ?_;simp only[Act.put,VA,VC,VD];refine rdA (i:=8) fun K hK=> ?_
        go_simp
        refine hK _ _ ?_;clear hK K;have U:=(Aa ag).is;have da:=(Aa ag).below.size;obtain⟨bj,c7,ay,ba,ak,ac,a1,av,au,ao⟩:=U.rows;obtain rfl:bj=.slice T L O:=VM (ay.symm.trans b0)
        have az:af.ownsRow (b+1) 5 1 (.slice T L O) L (u8s F.out):=by
         have:=ac
         rw[Aa ah]at this;exact this
        refine rdA (i:=9) fun K hK=> ?_
        refine step_append_lies _ rfl (.tmp 33) (.tmp 37) 23 rfl (b+1) 5 co (.int .u8 0) 1 1 Tryz.underlying23 cp b7 cv b9 rfl (by decide) (.slice T L O) L (u8s F.out) rfl (az.alloc _) ⟨af.heap.size,0,none⟩ 1 1 [.int .u8 (G:Int)] rfl rfl (cell_one_new _ _ _) (Bc rfl) (by decide) (by unfold maxLen;omega) (by omega) (by simp;omega) _ rfl ?_;intro bm bi c9 ap al aw bc
        obtain⟨dd,dc,ar⟩:=IIs.said (c:=G) (v':=.slice (some ⟨bm,0,none⟩) (L+1) bi) U.base U.no ak ac a1 av au ao (fun g Z=>Aa ct g (by omega)) (by rw[Aa ah];exact ap) al (by
         rcases aw with E|E
         . exact .inl E.symm
         . exact .inr (by rw[E];rfl))
        have bn:=Ab ((Aa ag).trans ar);refine hK _ _ ?_;clear hK K ar ap al aw bc az ac a1 av au ao ak ay ba U;simp only[Act.put,VA,VC,VD];refine tkA (i:=10) (v:=.pointer (some ⟨b,0,none⟩)) ?_;simp only[Act.put,VA,VC,VD];refine tkA (i:=11) (v:=.pointer (some ⟨b,2,none⟩)) ?_;simp only[Act.put,VA,VC,VD];refine rdA (i:=12) fun K hK=> ?_
        go_simp
        refine hK _ _ ?_;clear hK K;refine wpAny_done (by kernel_rfl) ?_ _;go_wp2;go_roundw
        case rel=>exact⟨i+1,{F with out:=F.out++ [G]},by omega,by go_num,Ab ⟨b8,by show (F.out++ [G]).length+_<=_;rw[VE,Aa ah];simp only[VJ,WE];omega,ai⟩,bn,cq⟩
        case measure=>simp[intOf];omega
      . go_simp
        refine(Aa c6 _).mono ?_;rintro e af ⟨rfl,Y,bk⟩;dsimp only;have b0:af.cell? ⟨b,2,none⟩=some (.slice T L O):=(bk 2 (by decide)).trans c2;have ek:=Y.is.lt;have ag:=Ab Y;clear Y bk;refine hK _ _ ?_;clear hK K;refine tkA (i:=7) (v:=.int .u8 (G:Int)) ?_;simp only[Act.put,VA,VC,VD];refine wpAny_ready (rs:= [4,8]) (by kernel_rfl) (by simp) (AllReady.cons rfl (fun K hK=> ?_) (AllReady.cons rfl (fun K hK=> ?_) AllReady.nil))
        . go_simp
          refine hK _ _ ?_;clear hK K;refine rdA (i:=8) fun K hK=> ?_
          go_simp
          refine hK _ _ ?_;clear hK K;have U:=(Aa ag).is;have da:=(Aa ag).below.size;obtain⟨bj,c7,ay,ba,ak,ac,a1,av,au,ao⟩:=U.rows;obtain rfl:bj=.slice T L O:=VM (ay.symm.trans b0)
          have az:af.ownsRow (b+1) 5 1 (.slice T L O) L (u8s F.out):=by
           have:=ac
           rw[Aa ah]at this;exact this
          refine rdA (i:=9) fun K hK=> ?_
          refine step_append_lies _ rfl (.tmp 33) (.tmp 37) 23 rfl (b+1) 5 co (.int .u8 0) 1 1 Tryz.underlying23 cp b7 cv b9 rfl (by decide) (.slice T L O) L (u8s F.out) rfl (az.alloc _) ⟨af.heap.size,0,none⟩ 1 1 [.int .u8 (G:Int)] rfl rfl (cell_one_new _ _ _) (Bc rfl) (by decide) (by unfold maxLen;omega) (by omega) (by simp;omega) _ rfl ?_;intro bm bi c9 ap al aw bc
          obtain⟨dd,dc,ar⟩:=IIs.said (c:=G) (v':=.slice (some ⟨bm,0,none⟩) (L+1) bi) U.base U.no ak ac a1 av au ao (fun g Z=>Aa ct g (by omega)) (by rw[Aa ah];exact ap) al (by
           rcases aw with E|E
           . exact .inl E.symm
           . exact .inr (by rw[E];rfl))
          have bn:=Ab ((Aa ag).trans ar);refine hK _ _ ?_;clear hK K ar ap al aw bc az ac a1 av au ao ak ay ba U;simp only[Act.put,VA,VC,VD];refine tkA (i:=10) (v:=.pointer (some ⟨b,0,none⟩)) ?_;simp only[Act.put,VA,VC,VD];refine tkA (i:=11) (v:=.pointer (some ⟨b,2,none⟩)) ?_;simp only[Act.put,VA,VC,VD];refine rdA (i:=12) fun K hK=> ?_
          go_simp
          refine hK _ _ ?_;clear hK K;refine wpAny_done (by kernel_rfl) ?_ _;go_wp2;go_roundw
          case rel=>exact⟨i+1,{F with out:=F.out++ [G]},by omega,by go_num,Ab ⟨b8,by show (F.out++ [G]).length+_<=_;rw[VE,Aa ah];simp only[VJ,WE];omega,ai⟩,bn,cq⟩
          case measure=>simp[intOf];omega
        . go_simp
          refine hK _ _ ?_;clear hK K;refine rdA (i:=4) fun K hK=> ?_
          go_simp
          refine hK _ _ ?_;clear hK K;have U:=(Aa ag).is;have da:=(Aa ag).below.size;obtain⟨bj,c7,ay,ba,ak,ac,a1,av,au,ao⟩:=U.rows;obtain rfl:bj=.slice T L O:=VM (ay.symm.trans b0)
          have az:af.ownsRow (b+1) 5 1 (.slice T L O) L (u8s F.out):=by
           have:=ac
           rw[Aa ah]at this;exact this
          refine rdA (i:=9) fun K hK=> ?_
          refine step_append_lies _ rfl (.tmp 33) (.tmp 37) 23 rfl (b+1) 5 co (.int .u8 0) 1 1 Tryz.underlying23 cp b7 cv b9 rfl (by decide) (.slice T L O) L (u8s F.out) rfl (az.alloc _) ⟨af.heap.size,0,none⟩ 1 1 [.int .u8 (G:Int)] rfl rfl (cell_one_new _ _ _) (Bc rfl) (by decide) (by unfold maxLen;omega) (by omega) (by simp;omega) _ rfl ?_;intro bm bi c9 ap al aw bc
          obtain⟨dd,dc,ar⟩:=IIs.said (c:=G) (v':=.slice (some ⟨bm,0,none⟩) (L+1) bi) U.base U.no ak ac a1 av au ao (fun g Z=>Aa ct g (by omega)) (by rw[Aa ah];exact ap) al (by
           rcases aw with E|E
           . exact .inl E.symm
           . exact .inr (by rw[E];rfl))
          have bn:=Ab ((Aa ag).trans ar);refine hK _ _ ?_;clear hK K ar ap al aw bc az ac a1 av au ao ak ay ba U;simp only[Act.put,VA,VC,VD];refine tkA (i:=10) (v:=.pointer (some ⟨b,0,none⟩)) ?_;simp only[Act.put,VA,VC,VD];refine tkA (i:=11) (v:=.pointer (some ⟨b,2,none⟩)) ?_;simp only[Act.put,VA,VC,VD];refine rdA (i:=12) fun K hK=> ?_
          go_simp
          refine hK _ _ ?_;clear hK K;refine wpAny_done (by kernel_rfl) ?_ _;go_wp2;go_roundw
          case rel=>exact⟨i+1,{F with out:=F.out++ [G]},by omega,by go_num,Ab ⟨b8,by show (F.out++ [G]).length+_<=_;rw[VE,Aa ah];simp only[VJ,WE];omega,ai⟩,bn,cq⟩
          case measure=>simp[intOf];omega
    . have M:Hid (V=F):=Ab (by
       have:Fd G F=F:=by unfold Fd;rw[if_neg ai]
       rw[Aa a3,bv,this,Fo _ _ _ ai])
      have en:Hid (∀q,Calls Tryz.prog 230 #[.pointer (some ⟨b,0,none⟩),.int .i64 8] (wr.drewN q) fun e w'=>e=Flt F.e/\Bl No B w w'):=Ab (fun q=>((Aa bz) q).mono (fun e w' Z=>by
       rcases Z with ⟨e0,_⟩|⟨_,cg,e2⟩
       . exact absurd e0 ai
       . exact⟨cg,((Aa a7).bl.drewN q).trans e2⟩))
      obtain⟨T,O,rfl⟩:=An bu;clear bv bz bw bu di dv dx ds de a3 cz b3 a4 dr;go_wp2;refine wp_region_held_drew (S:=fun w'=>w'.cell? ⟨b,2,none⟩=some (.slice T x.out.length O)) (by kernel_rfl) (by go_simp) (fun a6=> ?_);refine wpAnyH_take (i:=0) (v:=.pointer (some ⟨b,0,none⟩)) rfl (by kernel_rfl) (by kernel_rfl) (by kernel_rfl) (fun _ _ _ E=>E) (a9.inl ⟨by rfl,fun W _=>by go_simp⟩) a6 ?_;simp only[Act.put,VA,VC,VD];refine wpAnyH_take (i:=1) (v:=.pointer (some ⟨b,0,none⟩)) rfl (by kernel_rfl) (by kernel_rfl) (by kernel_rfl) (fun _ _ _ E=>E) (a9.inl ⟨by rfl,fun W _=>by go_simp⟩) a6 ?_;simp only[Act.put,VA,VC,VD];refine wpAnyH_take (i:=2) (v:=.pointer (some ⟨b,0,none⟩)) rfl (by kernel_rfl) (by kernel_rfl) (by kernel_rfl) (fun _ _ _ E=>E) (a9.inl ⟨by rfl,fun W _=>by go_simp⟩) a6 ?_;simp only[Act.put,VA,VC,VD];refine wpAnyH_take (i:=3) (v:=.pointer (some ⟨b,2,none⟩)) rfl (by kernel_rfl) (by kernel_rfl) (by kernel_rfl) (fun _ _ _ E=>E) (a9.inl ⟨by rfl,fun W _=>by go_simp⟩) a6 ?_;simp only[Act.put,VA,VC,VD];refine wpAnyH_take (i:=4) (v:=.slice T x.out.length O) rfl (by kernel_rfl) (by kernel_rfl) (by kernel_rfl) (fun _ _ _ E=>E) (a9.inl ⟨by rfl,fun W eb=>by have e9:W.cell? ⟨b,2,none⟩=some (.slice T x.out.length O):=eb;go_simp⟩) a6 ?_;simp only[Act.put,VA,VC,VD];refine wpAnyH_take (i:=5) (v:=.pointer (some ⟨b,0,none⟩)) rfl (by kernel_rfl) (by kernel_rfl) (by kernel_rfl) (fun _ _ _ E=>E) (a9.inl ⟨by rfl,fun W _=>by go_simp⟩) a6 ?_;simp only[Act.put,VA,VC,VD];refine rdH (i:=6) fun K hK=> ?_
      go_simp
      refine(Aa en _).mono ?_;rintro e af ⟨rfl,em⟩;exact And.intro rfl (a9.inr ⟨by rw[Aa M];exact ai,by rw[Aa M],em⟩)
  . obtain rfl:i=r1:=by omega
    have M:Hid (V=x):=Ab (by rw[Aa a3,XW];rfl);clear a3;go_wp2;go_end0
    exact .inl ⟨by rw[Aa M];exact ck,rfl,by rw[Aa M];exact Aa a7⟩
theorem Z4z (xs:List Nat)(y:Nat):i64s (xs++ [y])=i64s xs++ [.int .i64 (y:Int)]:=by simp[i64s]
theorem IIs.kept {No:Nat->Prop}{B b c:Nat}{w G:World}{R Z U F E v':Value}{u:US}{o:Obj}(ar:B<=b)(aj:¬No b)(ah:w.heap[b]? =some (.cells (icells R Z U u F E) 284 (0,0)))
 (T:w.ownsRow (b+1) 5 1 F u.out.length (u8s u.out)) (ae:w.ownsRow (b+1) 3 1 E u.ks.length (i64s u.ks)) (ai:F.ownBlock=none\/F.ownBlock≠E.ownBlock) (a1:∀g,F.ownBlock=some g->¬No g) (af:∀g,E.ownBlock=some g->¬No g) (ax:∀g,w.heap.size<=g->¬No g)
 (ak:G.ownsRow (b+1) 3 1 v' (u.ks.length+1) (i64s u.ks++ [.int .i64 (c:Int)])) (O:(w.alloc o).grownBy G E.ownBlock) (Y:v'.ownBlock=E.ownBlock\/v'.ownBlock=some (w.alloc o).heap.size):
 G.cell? ⟨b,3,none⟩=some E/\G.frozen? ⟨b,3,none⟩=false/\IUp No B w b R Z U {u with ks:=u.ks++ [c]} (G.setCell ⟨b,3,none⟩ v'):=by
 have aw:b<w.heap.size:=(VK.1 ah).1
 have ao:E.ownBlock=none\/E.ownBlock≠some b:=by
  cases M:E.ownBlock with
  |none=>exact .inl rfl
  |some g=>
   refine .inr (fun e=> ?_);have:=(ae.lt g M).1
   cases e
   omega
 have aa:G.heap[b]? =some (.cells (icells R Z U u F E) 284 (0,0)):=by
  rw[O.block b (by simp;omega) (fun e=>by rcases ao with h|h;rw[h]at e;cases e;exact h e.symm)];exact(Below.heap_alloc w _ b aw).trans ah
 have ac:∀g,g<w.heap.size->E.ownBlock≠some g->G.heap[g]? =w.heap[g]? :=fun g H au=>by
  rw[O.block g (by simp;omega) (fun e=>au e.symm)];exact Below.heap_alloc w _ g H
 have al:=O.size;simp only[World.size_alloc]at al Y;have I:=Ad G b 3 v'
 have ay:v'.ownBlock=none\/v'.ownBlock≠some b:=by
  cases M:v'.ownBlock with
  |none=>exact .inl rfl
  |some g=>
   refine .inr (fun e=> ?_);have:=(ak.lt g M).1
   cases e
   omega
 have ap:G.ownsRow (b+1) 5 1 F u.out.length (u8s u.out):=Au T (fun g H=>ac g (T.lt g H).2 (fun e=>by
  rcases ai with h|h
  . rw[h]at H;cases H
  . exact h (by rw[H];exact e.symm)))
 have av:F.ownBlock=none\/F.ownBlock≠some b:=by
  cases M:F.ownBlock with
  |none=>exact .inl rfl
  |some g=>
   refine .inr (fun e=> ?_);have:=(T.lt g M).1
   cases e
   omega
 refine⟨Ac aa,frozen_of_row G b 3 _ _ aa,⟨ar,aj,F,v', ?_,ap.kept I av, ?_, ?_,a1, ?_⟩, ?_, ?_⟩
 . rw[heap_setCell_same G b 3 _ _ _ aa];rfl
 . have:=ak.kept I ay
   show (G.setCell ⟨b,3,none⟩ v').ownsRow (b+1) 3 1 v' (u.ks++ [c]).length (i64s (u.ks++ [c]))
   rw[Z4z,VE];exact this
 . rcases Y with h|h
   . rw[h];exact ai
   . cases M:F.ownBlock with
     |none=>exact .inl rfl
     |some g=>
      refine .inr (fun e=> ?_);rw[h]at e;have:=(T.lt g M).2
      have:=VM e
      omega
 . intro g H
   rcases Y with h|h
   . exact af g (by rw[<-h];exact H)
   . rw[h]at H;have:=VM H
     exact ax g (by omega)
 . refine⟨I.os.trans (O.os.trans rfl),I.tape.trans (O.tape.trans rfl),I.output.trans (O.output.trans rfl),by have:=I.size;omega, ?_⟩;intro g H;rw[I.block g (by omega) (fun e=>by simp at e;omega),ac g (by omega) (fun e=>by have:=(ae.lt g e).1;omega)]
 . intro g az ag;rw[I.block g (by omega) (fun e=>by simp at e;subst e;exact aj ag),ac g az (fun e=>af g e ag)]
theorem H7 (x:Int)(u:US):(Am x u).ks=u.ks:=by unfold Am;split<;>rfl
theorem Z4w (c:Nat)(u:US):(Fd c u).ks=u.ks:=by
 unfold Fd
 split
 . split<;>rfl
 . rfl
theorem I0 (row:List Bool):∀(k:Nat) (u:US),(ustore row k u).ks=u.ks
 |0,u=>rfl
 |k+1,u=>by
  unfold ustore
  split
  . rw[I0 row k,Z4w,Ic]
  . rfl
theorem GJ (row:List Bool)(u:US):(Cj row u).ks=u.ks:=by
 have E:(Cl row u).2.ks=u.ks:=by
  unfold Cl;dsimp only
  split
  . rw[H7,Ic,Ic]
  . rw[Ic,Ic]
 unfold Cj;dsimp only
 split
 . rw[H7,E]
 . rw[I0,E]
theorem Sx (No:Nat->Prop)(B b:Nat)(a:Option Addr)(n I:Nat)(bs:List Nat)(Y M:Value)(u:US)(w:World)(h:IIs No B w b (.slice a n I) Y M u)(ak:Rd w No a n bs)(ao:u.p<=8*n)(ag:u.e=0)(aw:u.out.length<=3000)(az:u.ks.length<=48000)(Z:∀g,w.heap.size<=g->¬No g)(bj:B<=b)(V:US)(O:Hid (Cj (rowB bs n) u=V)):
 Calls Tryz.prog 231 #[.pointer (some ⟨b,0,none⟩),.int .i64 0] w fun e w'=>Got No B w b (.slice a n I) Y M (.tuple #[]) (if V.e=0 then ukept 0 V else V) e w':=by
 have bd:=Ab (EU No B b a n I bs Y M u w h ak ao ag aw Z bj V O);have bg:V.ks.length<=48000:=by rw[<-Aa O,GJ];exact az
 have a5:=Ab Z;obtain⟨a3,a2,a6,bb,a8⟩:=info_parts Bv;obtain⟨au,U⟩:=exq ((if V.e=0 then ukept 0 V else V));rw[U];have a1:=Ab U;clear h ak ao ag aw az Z O U;go_enter Tryz.func231,Tryz.ntmps231
 go_wp2_with fail
 refine(Aa bd).mono ?_;rintro e bo af
 rcases af with ⟨e0,rfl,G⟩|⟨e0,rfl,ae⟩
 rotate_left
 . have E:Hid (au=V):=Ab (by rw[<-Aa a1,if_neg e0]);have bu:=Ab ae;clear ae;go_wp2;exact⟨rfl,.inr ⟨by rw[Aa E];exact e0,by rw[Aa E],Aa bu⟩⟩
 have E:Hid (au= {V with ks:=V.ks++ [0]}):=Ab (by rw[<-Aa a1,if_pos e0];rfl);have bm:=Ab G;have H:=G.is;have b5:=G.below.size;have b0:=H.lt;obtain⟨b7,bz,bn,bv,ai,ay,ac,av,al,ar⟩:=H.rows;obtain⟨L,T⟩:=exq (V.ks.length);have F:=ac;rw[T]at F bg;obtain⟨cd,b4,rfl⟩:=An F;have bf:=Ab F;have ah:=Ab H;have bi:=Ab ai;have bk:=Ab ay;have bh:=Ab ac;have ba:=Ab av;have a7:=Ab al;have a9:=Ab ar;have bc:=Ab T;clear G H ai ay ac av al ar F T bn;go_wp2_with (at_builtin;refine wpList_append_own_at _ rfl _ _ 76 rfl (b+1) 3 a3 (.int .i64 0) 1 8 Tryz.underlying76 a2 a6 bb a8 rfl (by decide) _ L (i64s V.ks) rfl ((Aa bf).alloc _) ⟨bo.heap.size,0,none⟩ 1 1 [.int .i64 ((0:Nat):Int)] rfl rfl (cell_one_new _ _ _) (Bc rfl) (by unfold maxLen;omega) (by omega) (by simp;omega) ?_)
 intro v' b3 aa ap _ ax;obtain⟨ce,bw,a4,_,_⟩:=Ba aa (by omega);obtain⟨b9,b8,aj⟩:=IIs.kept (c:=0) (v':=v') (Aa ah).base (Aa ah).no (Aa bi) (Aa bk) (Aa bh) (Aa ba) (Aa a7) (Aa a9) (fun g af=>Aa a5 g (by omega)) (by rw[Aa bc];exact aa) ap (by simpa using ax);have bq:=Ab ((Aa bm).trans aj);subst a4;clear aj aa ap ax;go_wp2;go_end0
 exact .inl ⟨by rw[Aa E];exact e0,rfl,by rw[Aa E];exact Aa bq⟩
end Go.Proofs.YtleocpdblhbimaaGreatDoor
