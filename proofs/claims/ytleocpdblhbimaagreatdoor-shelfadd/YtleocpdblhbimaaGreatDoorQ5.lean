import Derived.Test.YtleocpdblhbimaaGreatDoorQ4
import Derived.Deep.AppendLies
set_option linter.unusedVariables false
set_option linter.unusedSimpArgs false
set_option maxRecDepth 100000
set_option maxHeartbeats 8000000
namespace Go.Proofs.YtleocpdblhbimaaGreatDoor
open Go.RowKit Go.Proofs.Tryz
open Go.Value renaming int->so,slice->va,pointer->vc,tuple->vd,bool->ve,agg->vf,nilFunc->vg
open Go.IntKind renaming i64->vh,u8->vi
open Go.Obj renaming cells->vl
open Go.Ending renaming returned->vm
open Option renaming none->vn,some->vp
open Bool renaming false->vq,true->vr
open Go renaming World->wd,Value->vt,Calls->vu,Addr->vw
open Go.RowKit renaming Below->vx,intOf->vy,Hid->vz
open Go.Proofs.Tryz renaming prog->v8
variable{h5:Array Oper}{Q:Exit->Act->World->Prop}{rowx:List Bool}{l xs:List Int}{bs:List Nat}{G aa ac ai ak ar b c d e g g1 g2 i j k n tot:Nat}{No No' av:Nat->Prop}{a:Option Addr}{r:Option Nat}{V u:US}{E I R v v':Value}{O W ao w w':World}
def ARow(T:TypeId)(w:wd)(g:Nat)(xs:List Int):Prop:=w.heap[g]? =vp (vl (iv xs).toArray T (0,0))
theorem ARow.lt{T:TypeId}(h:ARow T w g xs):g<w.heap.size:=(VD.1 h).1
theorem Zd3(E:j<xs.length):(iv xs).toArray[j]? =vp (so vh (xs.getD j 0)):=by simp[iv,List.getD,E]
theorem ARow.cell{T:TypeId}(h:ARow T w g xs)(j:Nat)(E:j<xs.length):w.cell? ⟨g,j,vn⟩=vp (so vh (xs.getD j 0)):=(Ac h).trans (Zd3 E)
theorem ARow.frozen{T:TypeId}(h:ARow T w g xs)(j:Nat):w.frozen? ⟨g,j,vn⟩=false:=B1 w g j _ _ h
theorem ARow.row{T:TypeId}(h:ARow T w g xs):Row vh w g 0 xs:=λj E=>by rw[VY];exact h.cell j E
theorem ARow.keep{T:TypeId}(h:ARow T w g xs)(E:w'.heap[g]? =w.heap[g]?):ARow T w' g xs:=E.trans h
theorem ARow.set{T:TypeId}(h:ARow T w g xs)(i:Nat)(v:Int):ARow T (w.setCell ⟨g,i,vn⟩ (so vh v)) g (xs.set i v):=by unfold ARow;rw[CR w g i _ _ _ h];simp[iv,List.map_set]
theorem Nd{F:Func}{p u:Tmp}{O G:TypeId}(h:F.results= #[.cell p O,.cell u G])(E:Array vt)(w:wd)(g1 g2:Nat)(I H:vt) (U:E.getD p undef=vc (vp ⟨g1,0,vn⟩)) (ae:E.getD u undef=vc (vp ⟨g2,0,vn⟩)) (ac:(loadVar O ⟨g1,0,vn⟩).run v8 w=.ok I w) (aa:(loadVar G ⟨g2,0,vn⟩).run v8 w=.ok H w):(results F E).run v8 w=.ok (vd #[I,H]) w:=by(have Z:E[p]?.getD undef=vc (vp ⟨g1,0,vn⟩):=by simpa using U);(have af:E[u]?.getD undef=vc (vp ⟨g2,0,vn⟩):=by simpa using ae);simp[results,h,Z,af,asAddr,ac,aa]
theorem ARow.range{T:TypeId}(h:ARow T w g xs):w.rangeAt g 0 (iv xs):=λj v E=>by
 rw[VY]
 exact(Ac h).trans (by simpa using E)
theorem Dj(xs:List Int):(iv xs).toArray.all (·.oneCell')=true:=by simp[iv];intro x E;rfl
theorem Eo{o:Oper}{a:Act}{K:Act->wd->Prop}{E:Prop}(lk:o.guard=vn)(T:TypeId)(x y:Operand)(G:o.op=.store T x y) (g:Nat) (xs:List Int) (O:a.eval x=vc (vp ⟨g,0,vn⟩)) (H:a.eval y=vf (iv xs).toArray) (F:ARow T W g xs) (I:(Tryz.prog.info? T).map (·.size)=vp (iv xs).toArray.size) (h:K (a.put o.dst undef) W):if Region.wanted o (yielded h5 a.tmps)=vr then Oper.wp v8 o a W K Q else E:=by have e:=qBL;rw[A1 e];refine wp_store_row T x y G g _ O H T _ F I rfl (Dj xs) ?_;rw[setRow_self W g _ T (0,0) F];exact h
theorem ARow.load{T:TypeId}(h:ARow T w g xs){d:TypeDesc}(G:Tryz.prog.underlying T=vp d)(E:(match d with| .struct _| .array _ _=>vr|_=>vq)=vr)(F:(Tryz.prog.info? T).map (·.size)=vp (iv xs).toArray.size):(loadVar T ⟨g,0,vn⟩).run v8 w=.ok (vf (iv xs).toArray) w:=
 run_loadVar_row w g T T _ (0,0) d h G (by cases d<;>first|rfl|exact E) F
theorem C8(l:List Int)(k:Nat)(ba:k<l.length):(l.take k++List.replicate (l.length-k) 0).set k (l.getD k 0)=l.take (k+1)++List.replicate (l.length-(k+1)) 0:=by exact xA
theorem Z9x:(List.range 288).all (λk=>Pu.getD k 0==(if k<144 then 8 else if k<256 then 9 else if k<280 then 7 else 8))=true:=by decide+kernel
theorem Z1k{k:Nat}(h:k<288):Pu.getD k 0=if k<144 then 8 else if k<256 then 9 else if k<280 then 7 else 8:=by have:=XA.1 Z9x k uJ;simpa using this
theorem Z9w:(List.range 32).all (λk=>Lj.getD k 0==5)=true:=by decide+kernel
theorem EV(h:k<32):Lj.getD k 0=5:=by have:=XA.1 Z9w k uJ;simpa using this
theorem Ob:Good Pu:=Cl (by decide+kernel)
theorem Ny:Good Lj:=Cl (by decide+kernel)
theorem Nz:Pu.length=288:=by decide+kernel
theorem Fz:Lj.length=32:=od
theorem F4:(Tryz.prog.info? 247).map (·.size)=vp 288:=oR
theorem JH:(Tryz.prog.info? 248).map (·.size)=vp 32:=oR
theorem AK(w:wd):vu v8 180 #[] w λe w'=>e=vm (vd #[vf (iv Pu).toArray,vf (iv Lj).toArray])/\vx w.heap.size w w':=by have aw:vx w.heap.size w ((w.alloc (vl (iv (List.replicate 288 0)).toArray 247)).alloc (vl (iv (List.replicate 32 0)).toArray 248)):=((A2 w.heap.size w).alloc (VA _) _).alloc oS _;have a5:=Ab aw;obtain⟨bv,ac⟩:=exq (Pu);have g4:=Nz;have aa:= @Z1k;rw[ac]at g4;simp only[ac]at aa;have a7:=Ab ac;clear aw ac;go_enter func180,ntmps180;go_wp2;go_loopw [4] (λi wr=>∃k:Nat,k<=288/\i=so vh k/\vz (ARow 247 wr w.heap.size (bv.take k++List.replicate (bv.length-k) 0)/\ARow 248 wr (w.heap.size+1) (List.replicate 32 0)/\vx w.heap.size w wr)) (λi _=>288-(vy i).toNat);refine⟨0,od,rfl,Ab ⟨?_,?_,a5⟩⟩;rw[g4];exact(EN _ _ _ oS).trans ((B2 _ _).trans oR);have e:w.heap.size+1=(w.alloc (vl (iv (List.replicate 288 0)).toArray 247)).heap.size:=oS;rw[e];exact(B2 _ _).trans oR;obtain⟨k,a9,rfl,E⟩:=hrel;by_cases I:k<288;(. obtain⟨G,F,H⟩:=Aa E;have ah:(bv.take k++List.replicate (bv.length-k) 0).length=288:=oO;have c:=G.cell k om;have f:=G.frozen k;have fg:=aa I;(have mp:vz (∀v:Int,v=bv.getD k 0->ARow 247 (wr.setCell ⟨w.heap.size,k,vn⟩ (so vh v)) w.heap.size (bv.take (k+1)++List.replicate (bv.length-(k+1)) 0)/\ARow 248 (wr.setCell ⟨w.heap.size,k,vn⟩ (so vh v)) (w.heap.size+1) (List.replicate 32 0)/\vx w.heap.size w (wr.setCell ⟨w.heap.size,k,vn⟩ (so vh v))):=by intro v az;have U:=Ad wr w.heap.size k (so vh v);refine⟨?_,F.keep (U.block _ F.lt (λe=>by have:=VK e;omega)),H.grown U H.size (λj e=>by rw[<-VK e];exact VA _)⟩;have:=G.set k v;rw[az,C8 bv k om]at this;rw[az];exact this);have bd:(k:Int)<288:=om;clear E G F H ah aa;generalize (bv.take k++List.replicate (bv.length-k) 0).getD k 0=old at c;by_cases ap:k<144;rw[A1 ap]at fg;have bg:(k:Int)<144:=om;have O:=Ab (mp 8 fg.symm);exact yR;rw[A0 ap]at fg;have bg:¬(k:Int)<144:=om;by_cases aj:k<256;rw[A1 aj]at fg;have a8:(k:Int)<256:=om;have O:=Ab (mp 9 fg.symm);exact yR;rw[A0 aj]at fg;have a8:¬(k:Int)<256:=om;by_cases ay:k<280;rw[A1 ay]at fg;have a6:(k:Int)<280:=om;have O:=Ab (mp 7 fg.symm);exact yR;rw[A0 ay]at fg;have a6:¬(k:Int)<280:=om;have O:=Ab (mp 8 fg.symm);exact yR);. obtain rfl:k=288:=om;(have ax:vz (ARow 247 wr w.heap.size bv/\ARow 248 wr (w.heap.size+1) (List.replicate 32 0)/\vx w.heap.size w wr):=by have:=Aa E;rw[VQ om,g4,XT,ZS,XB]at this;exact Ab this);clear E aa;generalize wr=bh at*;go_wp2;go_loopw [25] (λi wr=>∃k:Nat,k<=32/\i=so vh k/\vz (ARow 247 wr w.heap.size bv/\ARow 248 wr (w.heap.size+1) (Lj.take k++List.replicate (Lj.length-k) 0)/\vx w.heap.size w wr)) (λi _=>32-(vy i).toNat);exact⟨0,od,rfl,ax⟩;obtain⟨k,a9,rfl,E⟩:=hrel;by_cases I:k<32;(. obtain⟨G,F,H⟩:=Aa E;(have ah:(Lj.take k++List.replicate (Lj.length-k) 0).length=32:=by simp[Fz];omega);have c:=F.cell k om;have f:=F.frozen k;(have O:vz (ARow 247 (wr.setCell ⟨w.heap.size+1,k,vn⟩ (so vh 5)) w.heap.size bv/\ARow 248 (wr.setCell ⟨w.heap.size+1,k,vn⟩ (so vh 5)) (w.heap.size+1) (Lj.take (k+1)++List.replicate (Lj.length-(k+1)) 0)/\vx w.heap.size w (wr.setCell ⟨w.heap.size+1,k,vn⟩ (so vh 5))):=by have U:=Ad wr (w.heap.size+1) k (so vh 5);refine⟨G.keep (U.block _ G.lt (λe=>by have:=VK e;omega)),?_,H.grown U H.size (λj e=>by rw[<-VK e];omega)⟩;have:=F.set k 5;rw[<-EV I,C8 Lj k (by rw[Fz];exact I)]at this;rw[<-EV I];exact this);have bd:(k:Int)<32:=om;clear E G F H ah;generalize (Lj.take k++List.replicate (Lj.length-k) 0).getD k 0=old at c;go_wp2;exact xL);. obtain rfl:k=32:=om;have ae:=Aa E;rw[VQ (by rw[Fz];omega),Fz,XT]at ae;simp only[ZS,XB]at ae;obtain⟨bf,ar,au⟩:=ae;have ba:=Ab au;clear E ax au;have ai:=Fz;obtain⟨ys,af⟩:=exq (Lj);rw[af]at ar ai;have bb:=Ab af;clear af;(have a4:(Tryz.prog.info? 247).map (·.size)=vp (iv bv).length:=by rw[F4];simp[g4]);(have bc:(Tryz.prog.info? 248).map (·.size)=vp (iv ys).length:=by rw[JH];simp[ai]);have a3:=dL;(have ao:(Tryz.prog.info? 248).map (·.size)=vp (iv ys).toArray.size:=by rw[JH];simp[ai]);have ak:=underlying247;have al:=underlying248;go_wp2;refine wp_region_held_drew (S:=λw'=>ARow 247 w' w.heap.size bv/\ARow 248 w' (w.heap.size+1) ys) oR ⟨bf,ar⟩ (λZ=> ?_);refine wpAnyH_take (i:=0) (oi:= {dst:=vp 31,op:=.load 247 (.tmp 0),type:=247,pos:= "layout.go:54",after:= #[],guard:=vn}) (v:=_) rfl oR oR oR (λ_ _ _ h=>h) (yieldsIf_load_mid (by rfl) _ _ rfl _ _ rfl _ _ (λ_ h=>h.1.range) ak rfl a4) Z ?_;simp only[Act.put,VE,VH,VJ];refine wpAnyH_take (i:=1) (oi:= {dst:=vp 32,op:=.load 248 (.tmp 1),type:=248,pos:= "layout.go:54",after:= #[{on:=2,ground:=.gcOnly .lateStores}],guard:=vn}) (v:=_) rfl oR oR oR (λ_ _ _ h=>h) (yieldsIf_load_mid (by rfl) _ _ rfl _ _ rfl _ _ (λ_ h=>h.2.range) al rfl bc) Z ?_;simp only[Act.put,VE,VH,VJ];refine C1 2 λK hK=> ?_;refine Eo rfl 247 (.tmp 0) (.tmp 31) rfl w.heap.size bv rfl rfl Z.1 a3 ?_;simp only[Act.put];refine hK.out _ _ Z (λag=> ?_);clear hK K Z;refine C1 3 λK hK=> ?_;refine Eo rfl 248 (.tmp 1) (.tmp 32) rfl (w.heap.size+1) ys rfl rfl ag.2 ao ?_;simp only[Act.put];refine hK.out _ _ ag (λav=> ?_);clear hK K ag;refine wpAnyH_done oR ?_ _;go_wp2;refine E1 (v:=vd #[vf (iv bv).toArray,vf (iv ys).toArray]) ?_ rfl ⟨by rw[Aa a7,Aa bb],ba.drew⟩;exact Nd rfl _ _ w.heap.size (w.heap.size+1) _ _ rfl rfl (av.1.load ak rfl a3) (av.2.load al rfl ao)
theorem Kw(w E:wd)(x y:Array vt)(F G:TypeId)(I H:List Int)(O:vx w.heap.size w E)(U:(E.alloc (vl x F)).heap.size=E.heap.size+1):ARow F ((((E.alloc (vl x F)).alloc (vl y G)).setRow E.heap.size (iv I).toArray).setRow (E.heap.size+1) (iv H).toArray) E.heap.size I/\ARow G ((((E.alloc (vl x F)).alloc (vl y G)).setRow E.heap.size (iv I).toArray).setRow (E.heap.size+1) (iv H).toArray) (E.heap.size+1) H/\vx w.heap.size w ((((E.alloc (vl x F)).alloc (vl y G)).setRow E.heap.size (iv I).toArray).setRow (E.heap.size+1) (iv H).toArray):=by have aa:((E.alloc (vl x F)).alloc (vl y G)).heap[E.heap.size]? =vp (vl x F (0,0)):=(EN _ _ _ oS).trans (B2 _ _);(have Z:((E.alloc (vl x F)).alloc (vl y G)).heap[E.heap.size+1]? =vp (vl y G (0,0)):=by rw[<-U];exact B2 _ _);refine⟨?_,?_,?_⟩;unfold ARow;rw[TX _ _ _ _ om];exact ND _ _ _ _ _ _ aa;unfold ARow;exact ND _ _ y _ _ _ ((TX _ _ _ _ om).trans Z);have ac:=O.size;exact Az (Az ((O.alloc ac _).alloc oO _) om _) om _
def T3:List Int:= [16,17,18,0,8,7,9,6,10,5,11,4,12,3,13,2,14,1,15]
theorem Z0z:(Tryz.prog.info? 321).map (·.size)=vp 19:=oR
theorem X4(w:wd):vu v8 242 #[] w λe w'=>e=vm (vf (iv T3).toArray)/\vx w.heap.size w w':=by(have O:(iv T3).toArray.size=19:=by simp[T3]);(have F:(Tryz.prog.info? 321).map (·.size)=vp (iv T3).toArray.size:=by rw[Z0z,O]);obtain⟨E,H⟩:=exq (T3);rw[H]at F O ⊢;have ac:=Ab H;clear H;go_enter func242,ntmps242;go_upto_region 1 with (fail);refine wp_region_lit ?_;refine wpList_build rfl 321 _ rfl oR ?_;generalize Z:(Program.built _ _ _).getD #[]=V;(have ae:V=(iv E).toArray:=by rw[<-Z,<-Aa ac];kernel_rfl);clear Z;subst ae;simp only[Act.put];generalize G:w.alloc _=W;(have I:W.heap[w.heap.size]? =vp (vl (iv (List.replicate 19 0)).toArray 321 (0,0)):=by rw[<-G];exact(B2 _ _).trans oR);(have U:vx w.heap.size w W:=by rw[<-G];exact(A2 w.heap.size w).alloc (VA _) _);clear G;refine Ma rfl 321 (.tmp 0) (.tmp 1) rfl w.heap.size (iv E).toArray rfl rfl 321 _ I F (by rw[O];simp) (Dj E) ?_;refine wpList_nil ?_;have aa:vz (vx w.heap.size w (W.setRow w.heap.size (iv E).toArray)/\ARow 321 (W.setRow w.heap.size (iv E).toArray) w.heap.size E):=Ab ⟨Az U (VA _) _,ND _ _ _ _ _ _ I⟩;clear I U;go_wp2;refine E1 (v:=vf (iv E).toArray) ?_ rfl ⟨rfl,aa.1⟩;exact MS rfl _ _ _ _ _ _ _ rfl aa.2 underlying321 rfl F
theorem Zak(v:vt)(w:wd):(Instr.typeAssert (.iface 310 v) 20 310 vr).run v8 w=.ok (vd #[v,ve vr]) w:=oR
theorem Zal(w:wd):(Instr.typeAssert .nilIface 20 310 vr).run v8 w=.ok (vd #[vf #[so vh 0],ve vq]) w:=oR
theorem FO(p:vw)(x y:Int)(E:List PanicEntry)(w:wd)(O:w.cell? p=vp (so vh y))(Z:w.frozen? p=vq)(F:p.block<w.heap.size):CallsD v8 229 #[vc (vp p)] (.panicking ({v:=.iface 310 (vf #[so vh x]),recovered:=vq}::E)) w λe U w'=>e=vm (vd #[])/\U=.panicking ({v:=.iface 310 (vf #[so vh x]),recovered:=vr}::E)/\w'=(w.alloc (vl #[so vh x] 310)).setCell p (so vh x):=by refine callsD_of_wpS func229 rfl λaa cs H=> ?_;apply MR;apply LG;simp[wpOpsS,go_sem,recoverD,H,ntmps229,Exit.thenS];apply MR;apply LG;simp[wpOpsS,go_sem,Zak,Exit.thenS,Array.replicate];apply MR;apply LG;simp[wpOpsS,go_sem,Exit.thenS];refine wpS_cond (t:=vr) uM ?_;simp only[RZ];have G:=(U0 w (vl #[so vh x] 310) p F).trans O;have I:=(frozen?_alloc_cells w #[so vh x] 310 p).trans Z;apply LG;simp[wpOpsS,go_sem,G,I,bodyPostS,results,Tryz.results229]
theorem PN(p:vw)(w:wd):CallsD v8 229 #[vc (vp p)] .returning w λe G w'=>e=vm (vd #[])/\G=.returning/\w'=w.alloc (vl #[so vh 0] 310):=by refine callsD_of_wpS func229 rfl λE cs F=> ?_;apply MR;apply LG;simp[wpOpsS,go_sem,recoverD,F,ntmps229,Exit.thenS];apply MR;apply LG;simp[wpOpsS,go_sem,Zal,Exit.thenS,Array.replicate];apply MR;apply LG;simp[wpOpsS,go_sem,Exit.thenS];refine wpS_cond (t:=vq) uM ?_;simp only[ZZ,if_false];apply MR;apply LG;simp[wpOpsS,go_sem,Exit.thenS];refine wpS_cond (t:=vq) uM ?_;simp only[ZZ,if_false];refine wpS_of_wp (wp_skip ?_);cases E;simp_all [bodyPostS,results,Tryz.results229]
theorem PM(F:Nat)(aa:Array vt)(Q:Nat->wd->Prop)(w:wd)(ak:∀(args:Array vt) (w:wd),(callFunc F args).run v8 w=.ok (.enter F args) w) (ag:vu v8 F aa (w.alloc (vl #[so vh 0] 24)) λe w'=>(∃x,Q x w'/\((x=0/\e=vm (vd #[]))\/ (x≠0/\e=HR x)))/\w'.heap[w.heap.size]? =vp (vl #[so vh 0] 24 (0,0))):vu v8 204 #[.func (.func F) aa #[]] w λe E=>∃x w',Q x w'/\e=vm (so vh x)/\w'.heap.size<=E.heap.size/\(∀j,j<w'.heap.size->j≠w.heap.size->(E.heap[j]? =w'.heap[j]?))/\∀B,B<=w.heap.size->vx B w' E:=by
 have al:=bL;go_enter_defers func204,ntmps204;go_wp2;refine ag.mono ?_;rintro e w' ⟨⟨x,ac,ae⟩,hb⟩;have G:w.heap.size<w'.heap.size:=(VD.1 hb).1;have O:=pD;have ai:=pU;(rcases ae with ⟨rfl,rfl⟩|⟨ae,rfl⟩);. go_wp2;refine leaves_cons (f:=229) (args:= #[vc (vp ⟨w.heap.size,0,vn⟩)]) oS (by simp[go_sem]) ?_;refine(PN ⟨w.heap.size,0,vn⟩ _).mono ?_;rintro e af E ⟨rfl,rfl,rfl⟩;have c1:((w'.setCell ⟨w.heap.size,0,vn⟩ (so vh 0)).alloc (vl #[so vh 0] 310)).cell? ⟨w.heap.size,0,vn⟩=vp (so vh 0):=(U0 _ _ _ (by simpa using G)).trans (P1 _ _ _ O);simp[Leaves,settle,results,Tryz.results204,go_sem,c1];refine⟨0,w',ac,rfl,om,λj H hn=> ?_,λB I=> ?_⟩;rotate_left;exact kN;exact(EN _ _ j (by simpa using H)).trans (kbn _ _ _ j hn)
 . go_wp2;refine leaves_cons (f:=229) (args:= #[vc (vp ⟨w.heap.size,0,vn⟩)]) oS (by simp[go_sem]) ?_;refine(FO ⟨w.heap.size,0,vn⟩ x 0 [] _ O ai G).mono ?_;rintro e af E ⟨rfl,rfl,rfl⟩;have c1:((w'.alloc (vl #[so vh x] 310)).setCell ⟨w.heap.size,0,vn⟩ (so vh x)).cell? ⟨w.heap.size,0,vn⟩=vp (so vh x):=P1 _ _ _ ((U0 _ _ _ G).trans O);have U:∀j,j<w'.heap.size->¬j=w.heap.size->((w'.alloc (vl #[so vh x] 310)).setCell ⟨w.heap.size,0,vn⟩ (so vh x)).heap[j]? =w'.heap[j]? :=λj H hn=>(kbn _ _ _ j hn).trans (EN _ _ j H);have aj:((w'.alloc (vl #[so vh x] 310)).setCell ⟨w.heap.size,0,vn⟩ (so vh x)).heap.size=w'.heap.size+1:=oS
   have Z:∀B,B<=w.heap.size->vx B w' ((w'.alloc (vl #[so vh x] 310)).setCell ⟨w.heap.size,0,vn⟩ (so vh x)):=λB I=>
    ((A2 B w').alloc om _).grown (Ad _ w.heap.size 0 _) oO (λg e=>by cases e;exact I)
   generalize (w'.alloc (vl #[so vh x] 310)).setCell ⟨w.heap.size,0,vn⟩ (so vh x)=W at c1 U aj Z ⊢;simp[Leaves,settle,results,Tryz.results204,go_sem,c1];exact⟨x,w',ac,rfl,om,U,Z⟩
theorem IIs.rows{B:Nat}(h:IIs No B w b R E I u):∃ov kv,w.cell? ⟨b,2,vn⟩=vp ov/\w.cell? ⟨b,3,vn⟩=vp kv/\w.heap[b]? =vp (vl (icells R E I u ov kv) 284 (0,0))/\w.ownsRow (b+1) 5 1 ov u.out.length (u8s u.out)/\w.ownsRow (b+1) 3 1 kv u.ks.length (i64s u.ks)/\(ov.ownBlock=vn\/ov.ownBlock≠kv.ownBlock)/\(∀g,ov.ownBlock=vp g->¬No g)/\(∀g,kv.ownBlock=vp g->¬No g):=by exact jK
theorem Uh(No:Nat->Prop)(B b m:Nat)(R I F:vt)(u:US)(w:wd)(h:IIs No B w b R I F u)(af:u.out.length<=3000)(ae:m<=65535):vu v8 265 #[vc (vp ⟨b,0,vn⟩),so vh m] w λe w'=>w'=w/\((u.out.length+m<=3000/\e=vm (vd #[]))\/ (3000<u.out.length+m/\e=HR 2)):=by obtain⟨ov,kv,c2,Z,O,E,H,U,aa,ac⟩:=h.rows;obtain⟨a,cc,rfl⟩:=Am E;clear h O E H U aa ac Z;have G:=Ab (Ci 2 w);by_cases hl:u.out.length+m<=3000;(. go_enter func265,ntmps265;go_wp2;go_end0;exact⟨rfl,.inl ⟨hl,rfl⟩⟩);. go_enter func265,ntmps265;go_wp2_with fail;refine G.mono ?_;rintro e w' ⟨rfl,rfl⟩;go_wp2;exact⟨rfl,rfl,.inr ⟨om,rfl⟩⟩
theorem Z1l:∀g∈ [2,4],∀s∈List.range 41,
 (0<=wrap64 (wrap64 ((s:Int)/(g:Nat))-1)->vh.wrap (wrap64 ((s:Int)-wrap64 ((g:Int)*wrap64 (wrap64 ((s:Int)/(g:Nat))-1)))*2^min (wrap64 (wrap64 ((s:Int)/(g:Nat))-1)).toNat 64)=(((s-g*(s/g-1))*2^(s/g-1):Nat):Int)/\wrap64 (wrap64 ((s:Int)/(g:Nat))-1)=((s/g-1:Nat):Int))/\
 (wrap64 (wrap64 ((s:Int)/(g:Nat))-1)<0->vh.wrap (wrap64 ((s:Int)-wrap64 0))=(((s-g*(s/g-1))*2^(s/g-1):Nat):Int)/\(0:Int)=((s/g-1:Nat):Int)):=tD
theorem Us(s g z:Nat)(w:wd)(U:g=2\/g=4)(aa:s<=40)(Z:z=s/g-1):vu v8 279 #[so vh s,so vh g] w λe w'=>w'=w/\e=vm (vd #[so vh ((s-g*z)*2^z:Nat),so vh z]):=by
 subst Z;have H:=Ab (Z1l g (by rcases U with rfl|rfl<;>simp) s oO);go_enter func279,ntmps279;(have G:∀x y z u:Int,x=z->y=u->vm (vd #[so vh x,so vh y])=vm (vd #[so vh z,so vh u]):=by intros;subst_vars;rfl);(have F:∀n:Int,wrap64 n=vh.wrap n:=λn=>by unfold wrap64;rw[ka3]);have E:=Ab G;have O:=Ab F;clear G F;rcases Int.lt_or_le (wrap64 (wrap64 ((s:Int)/(g:Nat))-1)) 0 with hl|hl
 . have hm:=Int.max_eq_right (Int.le_of_lt hl);go_wp2
   all_goals first
   |exact absurd hl (Int.not_lt.2 h)
   | (obtain⟨k1,k2⟩:=H.2 hl
      have I:vh.wrap (wrap64 ((s:Int)-wrap64 0))=(s:Int):=by simp[wrap64,IntKind.wrap,IntKind.signed,IntKind.bits];omega
      go_ret2
      first
      |exact⟨rfl,Aa E _ _ _ _ (I.symm.trans k1) k2⟩
      |exact⟨rfl,Aa E _ _ _ _ k1 k2⟩)
 . have hm:=Int.max_eq_left hl;go_wp2
   all_goals first
   |exact absurd h (Int.not_lt.2 hl)
   | (obtain⟨k1,k2⟩:=H.1 hl
      go_ret2
      first
      |exact⟨rfl,Aa E _ _ _ _ ((O _).trans k1) k2⟩
      |exact⟨rfl,Aa E _ _ _ _ k1 k2⟩)
theorem E7(s:Nat)(w:wd)(O:257<=s)(I:s<=285):vu v8 267 #[so vh s] w λe w'=>w'=w/\e=vm (vd #[so vh ((Dr s).1:Int),so vh ((Dr s).2:Int)]):=by by_cases G:s=285;(. subst G;go_enter func267,ntmps267;go_wp2;go_ret2;exact⟨rfl,rfl⟩);. have E:=Ab (Us (s-257) 4 _ w (.inr rfl) om rfl);have F:vz (Dr s=(3+((s-257)-4*((s-257)/4-1))*2^((s-257)/4-1),(s-257)/4-1)):=Ab (by unfold Dr;rw[A0 G]);(have hb:((s-257)-4*((s-257)/4-1))*2^((s-257)/4-1)<=300:=by have:∀k∈List.range 29,(k-4*(k/4-1))*2^(k/4-1)<=300:=tD;exact this (s-257) oO);generalize ((s-257)-4*((s-257)/4-1))*2^((s-257)/4-1)=y at E F hb;generalize (s-257)/4-1=z at E F;have H:((s-257:Nat):Int)=(s:Int)-257:=om;rw[H]at E;go_enter func267,ntmps267;go_wp2_with fail;refine E.mono ?_;rintro e w' ⟨rfl,rfl⟩;go_wp2;go_ret2;refine⟨rfl,?_⟩;rw[Aa F];go_num
theorem Z0(s:Nat)(w:wd)(G:s<=29):vu v8 280 #[so vh s] w λe w'=>w'=w/\e=vm (vd #[so vh ((Ds s).1:Int),so vh ((Ds s).2:Int)]):=by have F:=Ab (Us s 2 _ w (.inl rfl) om rfl);have E:vz (Ds s=(1+(s-2*(s/2-1))*2^(s/2-1),s/2-1)):=Ab rfl;(have hb:(s-2*(s/2-1))*2^(s/2-1)<=40000:=by have:∀k∈List.range 30,(k-2*(k/2-1))*2^(k/2-1)<=40000:=tD;exact this s oO);generalize (s-2*(s/2-1))*2^(s/2-1)=y at F E hb;generalize s/2-1=z at F E;go_enter func280,ntmps280;go_wp2_with fail;refine F.mono ?_;rintro e w' ⟨rfl,rfl⟩;go_wp2;go_ret2;refine⟨rfl,?_⟩;rw[Aa E];go_num
theorem Ps(rowx:List Bool)(n:Nat)(u:US):(uget rowx n u).1<2^n:=by have E:0<2^n:=YY n;unfold uget;split;(. split;exact E;exact VC (Iq _) (VN od (by rw[VL];exact UA _ _)));exact E
theorem Jt(B b:Nat)(I E l:Nat)(G F:vt)(u:US)(w:wd)(h:IIs No B w b (va a n I) G F u)(aa:Rd w No a n bs)(U:u.p<=8*n)(Z:u.e=0)(O:E<=16)(aj:l<=40000)(r:Nat)(v:US)(H:vz (uget (rowB bs n) E u=(r,v))):vu v8 266 #[vc (vp ⟨b,0,vn⟩),so vh l,so vh E] w λe w'=>HK No B w b (va a n I) G F (so vh (l+r:Nat)) v e w':=by have ag:=Ab (Eg No B b a n I E bs G F u w h aa U Z O r v H);(have ak:r<65536:=by have:=Ps (rowB bs n) E u;rw[Aa H]at this;exact VC this (VN (j:=16) od O));clear h aa U Z O H;go_enter func266,ntmps266;go_wp2_with fail;refine ag.mono ?_;rintro e al ah;(rcases ah with ⟨e0,rfl,ae⟩|⟨e0,rfl,ac⟩);(. have ai:=Ab ae;clear ae;go_wp2;go_ret;exact .inl ⟨e0,by go_num,ai⟩);. have af:=Ab ac;clear ac;go_wp2;exact⟨rfl,.inr ⟨e0,rfl,af⟩⟩
theorem Z0k:∀k,k<=29->(Ds k).1<=40000/\(Ds k).2<=16:=od
theorem HK.from{B:Nat}{e:Ending}(h:HK No B O b R E I v u e w')(G:vx B w O)(hK:Kp No w O):HK No B w b R E I v u e w':=by(rcases h with ⟨U,H,F⟩|⟨U,H,F⟩);exact .inl ⟨U,H,F.is,G.trans F.below,hK.trans F.kp G.size⟩;exact .inr ⟨U,H,G.trans F.below,hK.trans F.kp G.size⟩
theorem Zfa{B:Nat}(h:IIs No B w b (va a n ac) E I u)(bc:Rd w No a n bs)(a6:u.p<=8*n)(bb:u.e=0)(g1 g2 O H af ar:Nat)(aj:H3 w O H af ar b l)(a8:Good l)(a9:No O/\No H/\No af)(aw:∀g,w.heap.size<=g->¬No g)(k:Nat)(v:US)(a7:vz (Nt (rowB bs n) l u=(k,v))):vu v8 269 #[vc (vp ⟨b,0,vn⟩),vf #[DV g1 g2,DV O H]] w λe w'=>HK No B w b (va a n ac) E I (so vh k) v e w':=by
 have bu:=Af bs n;obtain⟨k1,F,ak⟩:∃k1 F,uplace l (rowB bs n) u=(k1,F):=⟨_,_,rfl⟩;have bz:F.p<=8*n:=by have:=Ju l (rowB bs n) u om;rw[ak,bu]at this;exact this
 have ah:vz ((F.e≠0->v=F)/\(F.e=0->29<k1->v= {F with e:=8})/\(F.e=0->k1<=29->k=(Ds k1).1+(uget (rowB bs n) (Ds k1).2 F).1/\v=(uget (rowB bs n) (Ds k1).2 F).2)):=Ab (by
  have:=Aa a7
  unfold Nt at this
  rw[ak]at this
  refine⟨λe=> ?_,λe e2=> ?_,λe e2=> ?_⟩
  . rw[A1 e]at this
    exact(VM this).2.symm
  . rw[A0 qBV,A1 e2]at this
    exact(VM this).2.symm
  . rw[A0 qBV,A0 om]at this
    exact⟨(VM this).1.symm,(VM this).2.symm⟩)
 obtain⟨W1,ai⟩:=exq (w.alloc (vl #[DV g1 g2,DV O H] 282));have b7:=h.lt;(have bk:B<=w.heap.size:=by have:=h.base;omega);(have Z:vx w.heap.size w W1:=by rw[<-ai];exact(A2 _ _).alloc (VA _) _);have au:Kp No w W1:=λg G _=>Z.block g G;(have az:W1.heap.size=w.heap.size+1:=by rw[<-ai];simp);(have a4:W1.heap[w.heap.size]? =vp (vl #[DV g1 g2,DV O H] 282 (0,0)):=by rw[<-ai];exact B2 _ _);have b8:W1.cell? ⟨w.heap.size,1,vn⟩=vp (DV O H):=Ac a4;have ax:=h.grown (w':=W1) (by rw[<-ai];exact K1 w _ vn);have R1:=bc.keep om au;have b4:=aj.lt;have bv:=aj.is.lt;have av:H3 W1 O H af ar b l:=aj.keep om (Z.block O om) (Z.block H om) (Z.block af om);obtain⟨bw,aa,ap,bo,cd⟩:=HF (RT ax R1 a6 bb O H af ar av a8 a9 (λg G=>aw g om) k1 F (Ab ak)) (Z.mono bk) au R1 az;clear h bc a6 bb aj a8 a9 aw a7 ak Z au ax R1 av az b4 bv a4;go_enter func269,ntmps269;go_wp2_with fail;refine bw.mono ?_;rintro e bd G;(rcases G with ⟨e0,rfl,a3⟩|⟨e0,rfl,bg⟩);(. have U:=Ab a3;clear a3;by_cases bi:29<k1;(. have bq:(30:Int)<=k1:=om;have ae:=ah.2.1 e0 bi;have ag:=Ab ae;clear ae ah;go_wp2_with fail;refine(Ci 8 _).mono ?_;rintro e w3 ⟨rfl,rfl⟩;go_wp2;exact⟨rfl,.inr ⟨by rw[Aa ag];exact(by decide:(8:Int)≠0),by rw[Aa ag],aa.trans U.below,ap.trans U.kp aa.size⟩⟩);. have bq:¬(30:Int)<=k1:=om;obtain⟨ao,ae⟩:=ah.2.2 e0 om;obtain⟨ba,ay⟩:=Z0k k1 om;obtain⟨r,v2,G⟩:∃r v2,uget (rowB bs n) (Ds k1).2 F=(r,v2):=⟨_,_,rfl⟩;rw[G]at ao ae;have bh:=Ab (Jt B b ac (Ds k1).2 (Ds k1).1 E I F bd U.is (bo.keep U.below.size U.kp) bz e0 ay ba r v2 (Ab G));have bm:=Ab (Z0 k1 bd om);have al:vz (k=(Ds k1).1+r/\v=v2):=Ab ⟨ao,ae⟩;clear ao ae G ah ba ay;generalize Ds k1=LF at*;obtain⟨ce,b9⟩:=LF;go_wp2_with fail;refine bm.mono ?_;rintro e w3 ⟨rfl,rfl⟩;go_wp2_with fail;refine bh.mono ?_;rintro e b5 G;have bf:=Ab (HK.from G (aa.trans U.below) (ap.trans U.kp aa.size));(rcases G with ⟨b0,rfl,bj⟩|⟨b0,rfl,bn⟩);(. clear bj;go_wp2;go_ret;rw[(Aa al).1,(Aa al).2];exact bf);. clear bn;go_wp2;refine⟨rfl,?_⟩;rw[(Aa al).1,(Aa al).2];exact bf);. have a5:=Ab bg;have ag:=Ab (ah.1 e0);clear bg;go_wp2;exact⟨rfl,.inr ⟨by rw[Aa ag];exact e0,by rw[Aa ag],aa.trans a5.below,ap.trans a5.kp aa.size⟩⟩
theorem IIs.said{B:Nat}{ov kv:vt}{o:Obj}(aj:B<=b)(ag:¬No b)(ly:w.heap[b]? =vp (vl (icells R E I u ov kv) 284 (0,0))) (gj:w.ownsRow (b+1) 5 1 ov u.out.length (u8s u.out)) (lu:w.ownsRow (b+1) 3 1 kv u.ks.length (i64s u.ks)) (ae:ov.ownBlock=vn\/ov.ownBlock≠kv.ownBlock) (ac:∀g,ov.ownBlock=vp g->¬No g) (ap:∀g,kv.ownBlock=vp g->¬No g) (ai:∀g,w.heap.size<=g->¬No g) (h0:O.ownsRow (b+1) 5 1 v' (u.out.length+1) (u8s u.out++ [so vi c])) (bg:(w.alloc o).grownBy O ov.ownBlock) (H:v'.ownBlock=ov.ownBlock\/v'.ownBlock=vp (w.alloc o).heap.size):O.cell? ⟨b,2,vn⟩=vp ov/\O.frozen? ⟨b,2,vn⟩=vq/\DR No B w b R E I {u with out:=u.out++ [c]} (O.setCell ⟨b,2,vn⟩ v'):=by
 have pf:b<w.heap.size:=(VD.1 ly).1;have qf:ov.ownBlock=vn\/ov.ownBlock≠vp b:=xM;have Z:O.heap[b]? =vp (vl (icells R E I u ov kv) 284 (0,0)):=xO;have G:∀g,g<w.heap.size->ov.ownBlock≠vp g->O.heap[g]? =w.heap[g]? :=λg af bk=>zL;have al:=bg.size;simp only[CL]at al H;have F:=Ad O b 2 v';have ah:v'.ownBlock=vn\/v'.ownBlock≠vp b:=qY
 have ar:O.ownsRow (b+1) 3 1 kv u.ks.length (i64s u.ks):=Bv lu (λg af=>G g (lu.lt g af).2 (λe=>by
  rcases ae with h|h
  . rw[h]at e;cases e
  . exact h (by rw[af];exact e)))
 have ao:kv.ownBlock=vn\/kv.ownBlock≠vp b:=kV;refine⟨Ac Z,B1 O b 2 _ _ Z,⟨aj,ag,v',kv,?_,?_,ar.kept F ao,?_,?_,ap⟩,?_,?_⟩;rw[CR O b 2 _ _ _ Z];rfl;have:=h0.kept F ah;show (O.setCell ⟨b,2,vn⟩ v').ownsRow (b+1) 5 1 v' (u.out++ [c]).length (u8s (u.out++ [c]));rw[A5,VB];exact this;rcases H with h|h;rw[h];exact ae;refine .inr (λe=> ?_);rw[h]at e;have:=(lu.lt _ e.symm).2;omega;intro g af;rcases H with h|h;exact ac g qAI;rw[h]at af;have:=VK af;exact ai g om;refine⟨F.os.trans (bg.os.trans rfl),F.tape.trans (bg.tape.trans rfl),F.output.trans (bg.output.trans rfl),by have:=F.size;omega,?_⟩;intro g af;rw[F.block g om (λe=>by simp at e;omega),G g om (λe=>by have:=(gj.lt g e).1;omega)];intro g ak aa;rw[F.block g om (λe=>by simp at e;subst e;exact ag aa),G g ak (λe=>ac g e aa)]
theorem EO(a b:Nat)(E:a<4611686018427387904)(F:b<4611686018427387904):bits .xor vh (a:Int) (b:Int)=((a^^^b:Nat):Int):=by have G:a^^^b<2^62:=ZY om om;show vh.wrap ((BitVec.ofInt 64 (a:Int)^^^BitVec.ofInt 64 (b:Int)).toNat:Int)=_;rw[BitVec.toNat_xor,Hw E,Hw F];exact Gw _ om
theorem QJ{a:Nat}(h:a<65536):a^^^65535=65535-a:=by(have E:((BitVec.ofNat 16 a)^^^(BitVec.allOnes 16)).toNat=(~~~ (BitVec.ofNat 16 a)).toNat:=by rw[BitVec.xor_allOnes]);rw[BitVec.toNat_xor,BitVec.toNat_not,BitVec.toNat_ofNat,BitVec.toNat_allOnes,ZU uJ]at E;exact E
theorem Z7u{a:Nat}(E:a<65536)(F:b<65536):a^^^b=65535↔a+b=65535:=by constructor;intro h;(have e:b=a^^^(a^^^b):=by rw[<-ZQ,Nat.xor_self,Nat.zero_xor]);rw[h,QJ E]at e;omega;intro h;(have e:b=a^^^65535:=by rw[QJ E];omega);rw[e,<-ZQ,Nat.xor_self,Nat.zero_xor]
theorem LV{B:Nat}(h:IIs No B w b (va a n ac) E I u)(bd:Rd w No a n bs)(c9:u.p<=8*n)(b4:u.e=0)(a6:u.out.length<=3000)(b9:∀g,w.heap.size<=g->¬No g)(dl:B<=b)(b5:vz (Cn (rowB bs n) u=V)):vu v8 249 #[vc (vp ⟨b,0,vn⟩)] w λe w'=>HK No B w b (va a n ac) E I (vd #[]) V e w':=by
 obtain⟨c0,c1,bj⟩:=h.cell;have dq:=bj 1;have dt:=bd.few;obtain⟨H,bc,mj,cv⟩:=Do h bd b9 b4;clear h bd bj b9 b4;obtain⟨p,bb⟩:=exq (u.p);rw[bb]at c1 c9;(have c5:wrap64 ((((p:Int)+7)/8)*8)=(((p+7)/8*8:Nat):Int):=by unfold wrap64;omega);obtain⟨U,bg⟩:∃U,(p+7)/8*8=U:=⟨_,rfl⟩;have b8:U<=8*n:=om;have ag:=Ab (H.setP U);have ak:=Af bs n;obtain⟨r1,G,ai⟩:∃r v,vz (uget (rowB bs n) 16 {u with p:=U}=(r,v)):=⟨_,_,rfl⟩;obtain⟨r2,v2,Z⟩:∃r v,vz (uget (rowB bs n) 16 G=(r,v)):=⟨_,_,rfl⟩;(have dc:r1<65536:=by have:=Ps (rowB bs n) 16 {u with p:=U};rw[Aa ai]at this;exact this);(have ct:r2<65536:=by have:=Ps (rowB bs n) 16 G;rw[Aa Z]at this;exact this);(have b7:G.p<=8*n:=by have:=He (rowB bs n) 16 {u with p:=U} (by rw[ak];exact b8);rw[Aa ai,ak]at this;exact this);(have cz:v2.p<=8*n:=by have:=He (rowB bs n) 16 G (by rw[ak];exact b7);rw[Aa Z,ak]at this;exact this);(have bu:G.out=u.out:=by have:=Cs (rowB bs n) 16 {u with p:=U};rw[Aa ai]at this;exact this);(have bo:v2.out=u.out:=by have:=Cs (rowB bs n) 16 G;rw[Aa Z]at this;exact this.trans bu);(have b0:V=if v2.e≠0 then v2 else if r1+r2≠65535 then {v2 with e:=4}else if 3000<v2.out.length+r1 then {v2 with e:=2}else ustore (rowB bs n) r1 v2:=by rw[<-Aa b5];exact Yn _ u G v2 U r1 r2 (by rw[bb];exact bg) ai Z);have ah:=Ab b0;have co:((p:Int)+7)/8*8=(U:Int):=om;have cw:=λw=>Ab (Ci 4 w);rw[<-bo]at a6;have cq:=Ab a6;clear b5 ak b0 c5 bg bb bu bo a6;go_enter func249,ntmps249;go_wp2_with fail;clear co;obtain⟨c8,ce⟩:=exq (w.setCell ⟨b,1,vn⟩ (so vh U));rw[ce]at ag ⊢;clear ce;have cj:=Ab (bc.keep ag.below.size ag.kp);refine(Eg No B b a n ac 16 bs E I _ c8 ag.is cj b8 cv od r1 G ai).mono ?_;rintro e c7 af;(rcases af with ⟨e0,rfl,F⟩|⟨e0,rfl,il⟩);rotate_left;have O:vz (V=G):=Ab (by (have e2:v2=G:=by have:=Fw (rowB bs n) 16 G e0;rw[Aa Z]at this;exact this);rw[Aa ah,A1 (by rw[e2];exact e0),e2]);have ap:=Ab (ag.bl.trans il);exact zD;have al:=Ab (ag.trans F);have cp:=Ab (bc.keep al.below.size al.kp);have cu:=Ab e0;clear F e0;go_wp2_with fail;refine(Eg No B b a n ac 16 bs E I _ c7 al.is cp b7 cu od r2 v2 Z).mono ?_;rintro e df af;(rcases af with ⟨e0,rfl,F⟩|⟨e0,rfl,il⟩);rotate_left;have O:vz (V=v2):=Ab (by rw[Aa ah,A1 e0]);have ap:=Ab (al.bl.trans il);exact zD;have ay:=Ab (al.trans F);have a5:=Ab e0;clear F e0;have ao:=Z7u dc ct;have av:=EO r1 r2 om om;by_cases ax:r1+r2=65535;rotate_left;(. (have bv:(bits .xor vh (r1:Int) (r2:Int)==65535)=false:=by rw[av,HH];intro h;exact ax (ao.1 om));have O:vz (V= {v2 with e:=4}):=Ab (by rw[Aa ah,A0 (λh=>h (Aa a5)),A1 ax]);clear ao av;go_wp2_with fail;refine(Aa (cw _)).mono ?_;rintro e w3 ⟨rfl,rfl⟩;go_wp2;exact⟨rfl,.inr ⟨by rw[Aa O];exact(by decide:(4:Int)≠0),by rw[Aa O],ay.bl⟩⟩);(have bv:(bits .xor vh (r1:Int) (r2:Int)==65535)=true:=by rw[av,Lq,ao.2 ax];rfl);have az:vz (V=if 3000<v2.out.length+r1 then {v2 with e:=2}else ustore (rowB bs n) r1 v2):=Ab (by rw[Aa ah,A0 (λh=>h (Aa a5)),A0 (λh=>h ax)]);clear ao av;go_wp2_with fail;refine(Uh No B b r1 _ E I v2 df ay.is cq om).mono ?_;rintro e w3 ⟨rfl,af⟩;(rcases af with ⟨hl,rfl⟩|⟨hl,rfl⟩);rotate_left;(. have O:vz (V= {v2 with e:=2}):=Ab (by rw[Aa az,A1 hl]);clear hl;go_wp2;exact⟨rfl,.inr ⟨by rw[Aa O];exact(by decide:(2:Int)≠0),by rw[Aa O],ay.bl⟩⟩);have ba:vz (V=ustore (rowB bs n) r1 v2):=Ab (by rw[Aa az,A0 om]);have c6:=Ab hl;clear hl bv;go_wp2;go_loopw [27] (λa8 wr=>∃(i:Nat) (x:US),i<=r1/\a8=so vh i/\vz (x.p<=8*n/\x.out.length+(r1-i)<=3000/\x.e=0)/\vz (DR No B w b (va a n ac) E I x wr)/\vz (V=ustore (rowB bs n) (r1-i) x)) (λa8 _=>r1-(vy a8).toNat);exact⟨0,v2,VF _,rfl,Ab ⟨cz,by have:=Aa c6;omega,a5⟩,ay,ba⟩;obtain⟨i,x,hi,rfl,cm,ci,ji⟩:=hrel;obtain⟨bi,bn,s1⟩:=Aa cm;by_cases dm:i<r1
 . have dr:(i:Int)<r1:=om;obtain⟨gi,db,aj⟩:∃r v,vz (uget (rowB bs n) 8 x=(r,v)):=⟨_,_,rfl⟩;have a3:=ci.is;have de:=Ab (bc.keep ci.below.size ci.kp);have ar:=Ab (λq=>Tx B b ac 8 E I x (wr.drewN q) (a3.grown ⟨rfl,rfl,rfl,VA _,λ_ _ _=>rfl⟩) (de.keep (VA _) (Kp.refl _ _)) bi s1 od gi db aj);(have aw:ustore (rowB bs n) (r1-i) x=ustore (rowB bs n) (r1-(i+1)) (Fo gi db):=by obtain⟨k,cn⟩:∃k,r1-i=k+1:=⟨r1-i-1,om⟩;rw[cn,show r1-(i+1)=k by omega];show (if x.e=0 then ustore (rowB bs n) k (Fo (uget (rowB bs n) 8 x).1 (uget (rowB bs n) 8 x).2)else x)=_;rw[A1 s1,Aa aj]);obtain⟨ov,kv,c2,dn,bm,au,bk,bq,bf,cd⟩:=a3.rows;by_cases dw:db.e=0
   . have bz:vz (∀q,vu v8 230 #[vc (vp ⟨b,0,vn⟩),so vh 8] (wr.drewN q) λe w'=>e=vm (so vh gi)/\DR No B w b (va a n ac) E I db w'/\Oy b wr w'):=Ab (λq=>((Aa ar) q).mono (λe w' af=>by
      rcases af with ⟨_,a7,e2,e3⟩|⟨e0,_⟩
      . exact⟨a7,(ci.drewN q).trans e2,λj ck=>e3 j ck⟩
      . exact absurd dw e0))
     (have dj:gi<256:=by have:=Ps (rowB bs n) 8 x;rw[Aa aj]at this;exact this);(have a4:db.out=x.out:=by have:=Cs (rowB bs n) 8 x;rw[Aa aj]at this;exact this);(have sg:db.p<=8*n:=by have:=He (rowB bs n) 8 x (by rw[Af];exact bi);rw[Aa aj,Af]at this;exact this);(have bw:Fo gi db= {db with out:=db.out++ [gi]}:=by unfold Fo;rw[A1 dw,A0 (by rw[a4];omega)]);have sb:vz (V=ustore (rowB bs n) (r1-(i+1)) {db with out:=db.out++ [gi]}):=Ab (by rw[Aa ji,aw,bw]);obtain⟨jw,j4,rfl⟩:=Am au;obtain⟨rv,r3,s2,se,i1⟩:=EM Gq;obtain⟨L,a9⟩:=exq (x.out.length);rw[a9]at c2 bn;have pg:vz (db.out.length=L):=Ab (by rw[a4,a9]);have di:vi.wrap (gi:Int)=gi:=tM;clear aw ar a3 au bk bq bf cd bm ji ba az ah bw a4 a9;go_wp2;refine wp_region_any oR ?_;(try (change wpAny _ _ _ _ _ _ _ (World.drew _)));refine E3 0 ?_;refine E3 1 ?_;refine E3 2 ?_;refine E3 3 ?_;refine E3 5 ?_;refine R6 (rs:= [4,6]) oR oS (HW rfl (λK hK=> ?_) (HW rfl (λK hK=> ?_) R7));(. go_simp;refine hK _ _ ?_;clear hK K;refine Va 6 λK hK=> ?_;go_simp;refine(bz _).mono ?_;rintro e gw ⟨rfl,F,nh⟩;dsimp only;have qy:=rQ;have cg:=F.is.lt;have aa:=Ab F;clear F nh;refine hK _ _ ?_;clear hK K;refine E3 7 ?_;refine HA 8 ?_;exact qC);. go_simp;refine(bz _).mono ?_;rintro e gw ⟨rfl,F,nh⟩;dsimp only;have qy:=rQ;have cg:=F.is.lt;have aa:=Ab F;clear F nh;refine hK _ _ ?_;clear hK K;refine E3 7 ?_;refine R6 (rs:= [4,8]) oR oS (HW rfl (λK hK=> ?_) (HW rfl (λK hK=> ?_) R7));(. go_simp;refine hK _ _ ?_;clear hK K;refine HA 8 ?_;exact qC);. go_simp;refine hK _ _ ?_;clear hK K;refine HA 4 ?_;exact qC
   . have O:vz (V=db):=Ab (by (have:Fo gi db=db:=by unfold Fo;rw[A0 dw]);rw[Aa ji,aw,this,Gc _ _ _ dw])
     have dh:vz (∀q,vu v8 230 #[vc (vp ⟨b,0,vn⟩),so vh 8] (wr.drewN q) λe w'=>e=HR db.e/\Bl No B w w'):=Ab (λq=>((Aa ar) q).mono (λe w' af=>by
      rcases af with ⟨e0,_⟩|⟨_,a7,e2⟩
      . exact absurd e0 dw
      . exact⟨a7,(ci.bl.drewN q).trans e2⟩))
     obtain⟨jw,j4,rfl⟩:=Am au;clear aw ar a3 au bk bq bf cd bm ji ba az ah bn;go_wp2;refine wp_region_held_drew (S:=λw'=>w'.cell? ⟨b,2,vn⟩=vp (va jw x.out.length j4)) oR (by go_simp) (λae=> ?_);refine wpAnyH_take (i:=0) (v:=vc (vp ⟨b,0,vn⟩)) rfl oR oR oR (λ_ _ _ h=>h) (Or.inl ⟨by rfl,λW _=>by go_simp⟩) ae ?_;simp only[Act.put,VE,VH,VJ];refine wpAnyH_take (i:=1) (v:=vc (vp ⟨b,0,vn⟩)) rfl oR oR oR (λ_ _ _ h=>h) (Or.inl ⟨by rfl,λW _=>by go_simp⟩) ae ?_;simp only[Act.put,VE,VH,VJ];refine wpAnyH_take (i:=2) (v:=vc (vp ⟨b,0,vn⟩)) rfl oR oR oR (λ_ _ _ h=>h) (Or.inl ⟨by rfl,λW _=>by go_simp⟩) ae ?_;simp only[Act.put,VE,VH,VJ];refine wpAnyH_take (i:=3) (v:=vc (vp ⟨b,2,vn⟩)) rfl oR oR oR (λ_ _ _ h=>h) (Or.inl ⟨by rfl,λW _=>by go_simp⟩) ae ?_;simp only[Act.put,VE,VH,VJ];refine wpAnyH_take (i:=4) (v:=va jw x.out.length j4) rfl oR oR oR (λ_ _ _ h=>h) (Or.inl ⟨by rfl,λW da=>by have ds:W.cell? ⟨b,2,vn⟩=vp (va jw x.out.length j4):=da;go_simp⟩) ae ?_;simp only[Act.put,VE,VH,VJ];refine wpAnyH_take (i:=5) (v:=vc (vp ⟨b,0,vn⟩)) rfl oR oR oR (λ_ _ _ h=>h) (Or.inl ⟨by rfl,λW _=>by go_simp⟩) ae ?_;simp only[Act.put,VE,VH,VJ];refine C1 6 λK hK=> ?_;go_simp;refine(dh _).mono ?_;rintro e gw ⟨rfl,cy⟩;exact And.intro rfl (Or.inr ⟨by rw[Aa O];exact dw,by rw[Aa O],cy⟩)
 obtain rfl:i=r1:=om;exact zI
theorem Z9r(xs:List Nat)(y:Nat):i64s (xs++ [y])=i64s xs++ [so vh y]:=by simp[i64s]
theorem IIs.kept{B:Nat}{ov kv:vt}{o:Obj}(ak:B<=b)(ag:¬No b)(ly:w.heap[b]? =vp (vl (icells R E I u ov kv) 284 (0,0))) (gj:w.ownsRow (b+1) 5 1 ov u.out.length (u8s u.out)) (lu:w.ownsRow (b+1) 3 1 kv u.ks.length (i64s u.ks)) (ac:ov.ownBlock=vn\/ov.ownBlock≠kv.ownBlock) (aj:∀g,ov.ownBlock=vp g->¬No g) (ae:∀g,kv.ownBlock=vp g->¬No g) (ai:∀g,w.heap.size<=g->¬No g) (h0:O.ownsRow (b+1) 3 1 v' (u.ks.length+1) (i64s u.ks++ [so vh c])) (bg:(w.alloc o).grownBy O kv.ownBlock) (H:v'.ownBlock=kv.ownBlock\/v'.ownBlock=vp (w.alloc o).heap.size):O.cell? ⟨b,3,vn⟩=vp kv/\O.frozen? ⟨b,3,vn⟩=vq/\DR No B w b R E I {u with ks:=u.ks++ [c]} (O.setCell ⟨b,3,vn⟩ v'):=by
 have pf:b<w.heap.size:=(VD.1 ly).1;have qf:kv.ownBlock=vn\/kv.ownBlock≠vp b:=kV;have Z:O.heap[b]? =vp (vl (icells R E I u ov kv) 284 (0,0)):=xO;have G:∀g,g<w.heap.size->kv.ownBlock≠vp g->O.heap[g]? =w.heap[g]? :=λg af bk=>zL;have ao:=bg.size;simp only[CL]at ao H;have F:=Ad O b 3 v';have ah:v'.ownBlock=vn\/v'.ownBlock≠vp b:=qY
 have ar:O.ownsRow (b+1) 5 1 ov u.out.length (u8s u.out):=Bv gj (λg af=>G g (gj.lt g af).2 (λe=>by
  rcases ac with h|h
  . rw[h]at af;cases af
  . exact h (by rw[af];exact e.symm)))
 have ap:ov.ownBlock=vn\/ov.ownBlock≠vp b:=xM;refine⟨Ac Z,B1 O b 3 _ _ Z,⟨ak,ag,ov,v',?_,ar.kept F ap,?_,?_,aj,?_⟩,?_,?_⟩;rw[CR O b 3 _ _ _ Z];rfl;have:=h0.kept F ah;show (O.setCell ⟨b,3,vn⟩ v').ownsRow (b+1) 3 1 v' (u.ks++ [c]).length (i64s (u.ks++ [c]));rw[Z9r,VB];exact this
 . rcases H with h|h;rw[h];exact ac
   . cases U:ov.ownBlock with
     |none=>exact .inl rfl
     |some g=>refine .inr (λe=> ?_);rw[h]at e;have:=(gj.lt g U).2;have:=VK e;omega
 intro g af;rcases H with h|h;exact ae g qAI;rw[h]at af;have:=VK af;exact ai g om;refine⟨F.os.trans (bg.os.trans rfl),F.tape.trans (bg.tape.trans rfl),F.output.trans (bg.output.trans rfl),by have:=F.size;omega,?_⟩;intro g af;rw[F.block g om (λe=>by simp at e;omega),G g om (λe=>by have:=(lu.lt g e).1;omega)];intro g al aa;rw[F.block g om (λe=>by simp at e;subst e;exact ag aa),G g al (λe=>ae g e aa)]
theorem Z2(x:Int)(u:US):(An x u).ks=u.ks:=by unfold An;split<;>rfl
theorem Z9n(c:Nat)(u:US):(Fo c u).ks=u.ks:=by unfold Fo;split;(. split<;>rfl);rfl
theorem Z4(rowx:List Bool):∀(k:Nat) (u:US),(ustore rowx k u).ks=u.ks
 |0,u=>rfl
 |k+1,u=>by unfold ustore;split;rw[Z4 rowx k,Z9n,Ix];rfl
theorem NQ(rowx:List Bool)(u:US):(Cn rowx u).ks=u.ks:=by(have E:(Cr rowx u).2.ks=u.ks:=by unfold Cr;dsimp only;split;rw[Z2,Ix,Ix];rw[Ix,Ix]);unfold Cn;dsimp only;split;rw[Z2,E];rw[Z4,E]
theorem Vs{B:Nat}(h:IIs No B w b (va a n ac) E I u)(a3:Rd w No a n bs)(ar:u.p<=8*n)(az:u.e=0)(au:u.out.length<=3000)(ai:u.ks.length<=48000)(U:∀g,w.heap.size<=g->¬No g)(bu:B<=b)(V:US)(Z:vz (Cn (rowB bs n) u=V)):vu v8 231 #[vc (vp ⟨b,0,vn⟩),so vh 0] w λe w'=>HK No B w b (va a n ac) E I (vd #[]) (if V.e=0 then ukept 0 V else V) e w':=by have bm:=Ab (LV h a3 ar az au U bu Z);(have bq:V.ks.length<=48000:=by rw[<-Aa Z,NQ];exact ai);have a9:=Ab U;obtain⟨bi,bv,a8,bf,bh⟩:=EM Ce;obtain⟨ak,af⟩:=exq ((if V.e=0 then ukept 0 V else V));rw[af];have al:=Ab af;clear h a3 ar az au ai U Z af;go_enter func231,ntmps231;go_wp2_with fail;refine bm.mono ?_;rintro e a5 ah;(rcases ah with ⟨e0,rfl,F⟩|⟨e0,rfl,il⟩);rotate_left;have O:vz (ak=V):=Ab (by rw[<-Aa al,A0 e0]);have ap:=Ab il;exact zD;have O:vz (ak= {V with ks:=V.ks++ [0]}):=Ab (by rw[<-Aa al,A1 e0];rfl);have bn:=Ab F;have H:=F.is;have ce:=F.below.size;have b7:=H.lt;obtain⟨bz,b9,a6,bw,ao,ax,ae,ag,av,aw⟩:=H.rows;obtain⟨L,aa⟩:=exq (V.ks.length);have G:=ae;rw[aa]at G bq;obtain⟨cg,b4,rfl⟩:=Am G;obtain⟨bk,a4,bb,bo,ba,bd,bj,a7,ed⟩:=ydI G H ao ax ae ag av aw aa;clear F H ao ax ae ag av aw G aa a6;go_wp2_with (at_builtin;refine HG _ rfl _ _ 76 rfl (b+1) 3 bi (so vh 0) 1 8 underlying76 bv a8 bf bh rfl od _ L (i64s V.ks) rfl (bk.alloc _) ⟨a5.heap.size,0,vn⟩ 1 1 [so vh (0:Nat)] rfl rfl (RR _ _ _) (Df rfl) ou om oO ?_);intro v' ci e6 ay _ ia;obtain⟨b0,b5,bc,_,_⟩:=Ax e6 om;obtain⟨b8,cd,aj⟩:=IIs.kept (c:=0) (v':=v') a4.base a4.no bb bo ba bd bj a7 (λg ah=>Aa a9 g om) uO ay qAZ;have bg:=Ab (bn.trans aj);subst bc;clear aj e6 ay ia;go_wp2;go_end0;exact .inl ⟨by rw[Aa O];exact e0,rfl,by rw[Aa O];exact Aa bg⟩
theorem Z6m{B:Nat}(h:IIs No B w b R E I u)(a3:u.e=0)(bb:u.out.length<=3000)(c9:1<=d)(c5:d<=80000)(bh:k<=65535)(a7:∀g,w.heap.size<=g->¬No g)(a5:vz (Kh d k u=V)):vu v8 268 #[vc (vp ⟨b,0,vn⟩),so vh k,so vh d] w λe w'=>HK No B w b R E I (vd #[]) V e w':=by
 obtain⟨ov,kv,c2,ay,ac,F,aa,ae,Z,ah⟩:=h.rows;obtain⟨c8,cn,rfl⟩:=Am F;obtain⟨H,bu,cj,bq,bz⟩:=HF h a3 a7 (Uh No B b k R E I u w h bb bh) (Ci 9 w);have G:=Aa a5;unfold Kh at G;clear h ac F aa ae Z ah ay a7 a3 a5;by_cases ag:u.out.length<d;(. rw[A1 ag]at G;have a6:(u.out.length:Int)<(d:Int):=om;have U:=Ab G;clear G;go_enter func268,ntmps268;go_wp2_with fail;refine bz.mono ?_;rintro e w' ⟨rfl,rfl⟩;go_wp2;exact⟨rfl,.inr ⟨by rw[<-Aa U];exact(by decide:(9:Int)≠0),by rw[<-Aa U],Bl.refl _ _ _⟩⟩);rw[A0 ag]at G;have a6:¬(u.out.length:Int)<(d:Int):=om;have U:=Ab G;clear G;go_enter func268,ntmps268;go_wp2_with fail;refine bq.mono ?_;rintro e cy ⟨ap,aj⟩;rw[ap];clear ap;(rcases aj with ⟨hl,rfl⟩|⟨hl,rfl⟩);rotate_left;(. have O:vz ({u with e:=2}=V):=Ab (by rw[<-Aa U,A1 hl]);clear hl;go_wp2;exact⟨rfl,.inr ⟨by rw[<-Aa O];exact(by decide:(2:Int)≠0),by rw[<-Aa O],Bl.refl _ _ _⟩⟩);have a4:vz (V=ucopy d k u):=Ab (by rw[<-Aa U,A0 om]);have b5:=Ab hl;have bv:=Ab ag;clear hl ag a6 c2;go_wp2;go_loopw [18] (λao wr=>∃(i:Nat) (x:US),i<=k/\ao=so vh i/\vz (x.out.length+(k-i)<=3000/\d<=x.out.length/\x.e=0)/\vz (DR No B w b R E I x wr)/\vz (V=ucopy d (k-i) x)) (λao _=>k-(vy ao).toNat);exact⟨0,u,VF _,rfl,Ab ⟨by have:=Aa b5;omega,by have:=Aa bv;omega,bu⟩,Ab (DR.refl H),a4⟩;obtain⟨i,x,hi,rfl,bd,ci,ji⟩:=hrel;obtain⟨bo,ba,s1⟩:=Aa bd;by_cases cq:i<k
 . have da:(i:Int)<k:=om;have af:=ci.is;have cp:=ci.below.size;have c6:=af.lt;obtain⟨bk,b9,bg,ck,b0⟩:=EM Gq;obtain⟨ov,kv,c2,ay,ac,F,aa,ae,Z,ah⟩:=af.rows;obtain⟨ai,ar,rfl,_,cz⟩:=Ax F om;obtain⟨q,al⟩:=exq (x.out.length-d);obtain⟨c,hc⟩:=exq (x.out.getD q 0);(have cu:wr.cell? ⟨ai,q,vn⟩=vp (so vi c):=by have:=F.cells rfl q (so vi c) (by unfold u8s;rw[UC,VP om];rw[<-hc];simp[List.getD,VP (show q<x.out.length by omega)]);by_cases bj:q=0<;>simpa[Addr.add,bj]using this);(have az:Fo c x= {x with out:=x.out++ [c]}:=by unfold Fo;rw[A1 s1,A0 om]);have b8:vz (V=ucopy d (k-(i+1)) {x with out:=x.out++ [c]}):=Ab (by obtain⟨j,bc⟩:∃j,k-i=j+1:=⟨k-i-1,om⟩;rw[Aa ji,bc,show k-(i+1)=j by omega,<-az,<-hc,<-al];show (if x.e=0 then ucopy d j (Fo (x.out.getD (x.out.length-d) 0) x)else x)=_;rw[A1 s1]);obtain⟨L,ak⟩:=exq (x.out.length);rw[ak]at c2 bo ba al;obtain⟨ed,au,bi,bw,cg,bm,bf,av⟩:=T6 ak F aa ac ae Z ah af;have cv:(L:Int)-d=(q:Int):=om;have cw:(q:Int)<L:=om;have co:vh.wrap (q:Int)=q:=Gw q om;have ce:vz (DR No B w b R E I x wr.drew):=Ab (ci.drewN 1);clear F aa ac ae Z ah af ak ji a4 U az hc al;go_wp2;refine wp_region_any oR ?_;(try (change wpAny _ _ _ _ _ _ _ (World.drew _)));refine E3 0 ?_;refine E3 1 ?_;refine E3 2 ?_;refine E3 3 ?_;refine E3 5 ?_;refine E3 6 ?_;refine E3 7 ?_;refine E3 9 ?_;refine E3 10 ?_;refine E3 11 ?_;refine E3 14 ?_;refine R6 (rs:= [4,8,12]) oR oS (HW rfl (λK hK=> ?_) (HW rfl (λK hK=> ?_) (HW rfl (λK hK=> ?_) R7)))
   focus
    go_simp
    refine hK _ _ ?_
    clear hK K
    refine R6 (rs:= [8,12]) oR oS (HW rfl (λK hK=> ?_) (HW rfl (λK hK=> ?_) R7))
    focus
     go_simp
     refine hK _ _ ?_
     clear hK K
     refine HA 12 ?_
     refine E3 13 ?_
     refine E3 15 ?_
     refine E3 16 ?_
     refine HA 17 ?_
     refine HA 18 ?_
    rotate_left
    focus
     go_simp
     refine hK _ _ ?_
     clear hK K
     refine E3 13 ?_
     refine E3 15 ?_
     refine HA 8 ?_
     refine E3 16 ?_
     refine HA 17 ?_
     refine HA 18 ?_
    rotate_left
   rotate_left 2
   focus
    go_simp
    refine hK _ _ ?_
    clear hK K
    refine R6 (rs:= [4,12]) oR oS (HW rfl (λK hK=> ?_) (HW rfl (λK hK=> ?_) R7))
    focus
     go_simp
     refine hK _ _ ?_
     clear hK K
     refine HA 12 ?_
     refine E3 13 ?_
     refine E3 15 ?_
     refine E3 16 ?_
     refine HA 17 ?_
     refine HA 18 ?_
    rotate_left
    focus
     go_simp
     refine hK _ _ ?_
     clear hK K
     refine E3 13 ?_
     refine E3 15 ?_
     refine E3 16 ?_
     refine R6 (rs:= [4,17]) oR oS (HW rfl (λK hK=> ?_) (HW rfl (λK hK=> ?_) R7))
     focus
      go_simp
      refine hK _ _ ?_
      clear hK K
      refine HA 17 ?_
      refine HA 18 ?_
     rotate_left
     focus
      go_simp
      refine hK _ _ ?_
      clear hK K
      refine R6 (rs:= [4,18]) oR oS (HW rfl (λK hK=> ?_) (HW rfl (λK hK=> ?_) R7))
      focus
       go_simp
       refine hK _ _ ?_
       clear hK K
       refine HA 18 ?_
      rotate_left
      focus
       go_simp
       refine hK _ _ ?_
       clear hK K
       refine HA 4 ?_
      rotate_left
     rotate_left 2
    rotate_left 3
   rotate_left 4
   focus
    go_simp
    refine hK _ _ ?_
    clear hK K
    refine E3 13 ?_
    refine E3 15 ?_
    refine R6 (rs:= [4,8]) oR oS (HW rfl (λK hK=> ?_) (HW rfl (λK hK=> ?_) R7))
    focus
     go_simp
     refine hK _ _ ?_
     clear hK K
     refine HA 8 ?_
     refine E3 16 ?_
     refine HA 17 ?_
     refine HA 18 ?_
    rotate_left
    focus
     go_simp
     refine hK _ _ ?_
     clear hK K
     refine E3 16 ?_
     refine R6 (rs:= [4,17]) oR oS (HW rfl (λK hK=> ?_) (HW rfl (λK hK=> ?_) R7))
     focus
      go_simp
      refine hK _ _ ?_
      clear hK K
      refine HA 17 ?_
      refine HA 18 ?_
     rotate_left
     focus
      go_simp
      refine hK _ _ ?_
      clear hK K
      refine R6 (rs:= [4,18]) oR oS (HW rfl (λK hK=> ?_) (HW rfl (λK hK=> ?_) R7))
      focus
       go_simp
       refine hK _ _ ?_
       clear hK K
       refine HA 18 ?_
      rotate_left
      focus
       go_simp
       refine hK _ _ ?_
       clear hK K
       refine HA 4 ?_
      rotate_left
     rotate_left 2
    rotate_left 3
   rotate_left 4
   all_goals
    (have a8:wr.drew.ownsRow (b+1) 5 1 (va (vp ⟨ai,0,vn⟩) L ar) L (u8s x.out):=by have:=Bv (w':=wr.drew) au (λ_ _=>rfl);rw[Aa ed]at this;exact this);refine Va 19 λK hK=> ?_;refine step_append_lies _ rfl (.tmp 24) (.tmp 38) 23 rfl (b+1) 5 bk (so vi 0) 1 1 underlying23 b9 bg ck b0 rfl od (va (vp ⟨ai,0,vn⟩) L ar) L (u8s x.out) rfl (a8.alloc _) ⟨wr.heap.size,0,vn⟩ 1 1 [so vi c] rfl rfl (RR wr.drew _ _) (Df rfl) od ou om oO _ rfl ?_;intro bn b4 db e6 a9 aw b7
    obtain⟨cd,c7,ax⟩:=IIs.said (c:=c) (w:=wr.drew) (v':=va (vp ⟨bn,0,vn⟩) (L+1) b4) av.base av.no (Aa bw) (Bv au (λ_ _=>rfl)) (Bv bi (λ_ _=>rfl)) (Aa cg) (Aa bm) (Aa bf) (λg aj=>Aa cj g (by have ct:wr.heap.size<=g:=aj;omega)) uO a9 (by
     rcases aw with h|h
     . exact .inl h.symm
     . exact .inr (by rw[h];rfl))
    have cm:=Ab (ce.trans ax);refine hK _ _ ?_;clear hK K ax e6 a9 aw b7 a8;rw[Aa ed]at cd;refine E3 20 ?_;refine E3 21 ?_;refine HA 22 ?_;refine wpAny_done oR ?_ _;go_wp2;go_roundw;exact⟨i+1,{x with out:=x.out++ [c]},om,by go_num,Ab ⟨by show (x.out++ [c]).length+_<=_;rw[VB,Aa ed];simp only[VG,WE];omega,by show d<=(x.out++ [c]).length;rw[VB,Aa ed];omega,s1⟩,cm,b8⟩;simp[vy];omega
 obtain rfl:i=k:=om;exact zI
theorem NF:∀k,k<=29->1<=(Ds k).1/\(Ds k).1<=40000/\(Ds k).2<=13:=od
theorem EH:∀j,j<=28->1<=(Dr (257+j)).1/\(Dr (257+j)).1<=300/\(Dr (257+j)).2<=5:=od
theorem NE(k:Nat)(E:257<=k)(F:k<=285):1<=(Dr k).1/\(Dr k).1<=300/\(Dr k).2<=5:=by obtain⟨j,rfl⟩:∃j,k=257+j:=⟨k-257,om⟩;exact EH j om
theorem Z5r(rowx:List Bool)(l:List Int)(u:US)(h:(Nt rowx l u).2.e=0):1<=(Nt rowx l u).1/\(Nt rowx l u).1<=80000:=by unfold Nt at h ⊢;split;(. rename_i hc;rw[A1 hc]at h;exact absurd h hc);. rename_i hc;rw[A0 hc]at h;split;(. rename_i E;rw[A1 E]at h;exact vL);. rename_i E;obtain⟨a1,a2,F⟩:=NF (uplace l rowx u).1 om;have:=Ps rowx (Ds (uplace l rowx u).1).2 (uplace l rowx u).2;have G:2^(Ds (uplace l rowx u).1).2<=2^13:=VN od F;have:(2:Nat)^13=8192:=od;dsimp only;omega
def Z0j(n b:Nat)(w:wd):Nat:=8*n+1-((w.cell? ⟨b,1,vn⟩).map (λx=>(vy x).toNat)).getD 0
theorem Nr{B:Nat}(h:IIs No B w b R E I u):Z0j n b w=8*n+1-u.p:=by unfold Z0j;rw[h.cell.2.1];simp[vy]
theorem Xu(B:Nat)(ae:Nat)(Z U:vt)(u:US)(h:IIs No B w b (va a n ae) Z U u)(dj:Rd w No a n bs)(dh:u.p<=8*n)(db:u.e=0)(ds:u.out.length<=3000){bj lb:List Int}(bz:H3 w g1 ac aa ak b bj)(e1:Good bj)(bd:No g1/\No ac/\No aa)(b7:H3 w g2 G ai ar b lb)(fh:Good lb)(a7:No g2/\No G/\No ai)(d8:∀g,w.heap.size<=g->¬No g)(dc:vz (Hz (rowB bs n) bj lb (8*n+1) u=V)):vu v8 250 #[vc (vp ⟨b,0,vn⟩),vf #[DV g1 ac,DV g2 G]] w λe w'=>HK No B w b (va a n ae) Z U (vd #[]) V e w':=by
 have cw:=Af bs n;obtain⟨F,f7⟩:=exq (8*n+1);rw[f7]at dc;obtain⟨I,dl⟩:=exq (w.heap.size);obtain⟨W1,b5⟩:=exq (w.alloc (vl #[DV g1 ac,DV g2 G] 282));have h4:=h.lt;(have ee:B<=I:=by have:=h.base;omega);(have au:vx I w W1:=by rw[<-b5,<-dl];exact(A2 _ _).alloc (VA _) _);have bw:Kp No w W1:=λg O _=>au.block g om;(have h8:W1.heap.size=I+1:=by rw[<-b5,<-dl];simp);(have df:W1.heap[I]? =vp (vl #[DV g1 ac,DV g2 G] 282 (0,0)):=by rw[<-b5,<-dl];exact B2 _ _);have d5:IIs (NI No I) B W1 b (va a n ae) Z U u:=(h.more (No':=NI No I) (λe=>by rcases e with e|e;exact h.no e;omega) (λg O=>by rcases O with e|e;exact .inl e;exact .inr om)).grown (w':=W1) (by rw[<-b5];exact K1 w _ vn);have R1:Rd W1 (NI No I) a n bs:=(dj.keep (w':=W1) om bw).more;have f9:=bz.lt;have la2:=bz.is.lt;have gv:=b7.lt;have lb2:=b7.is.lt;have dn:H3 W1 g1 ac aa ak b bj:=bz.keep om (au.block g1 om) (au.block ac om) (au.block aa om);have e9:H3 W1 g2 G ai ar b lb:=b7.keep om (au.block g2 om) (au.block G om) (au.block ai om);have bn:∀g,W1.heap.size<=g->¬NI No I g:=λg O e=>kW;have cq:vz (∀wr x,DR (NI No I) B W1 b (va a n ae) Z U x wr->wr.cell? ⟨I,0,vn⟩=vp (DV g1 ac)/\wr.cell? ⟨I,1,vn⟩=vp (DV g2 G)):=Ab (λwr x H=>by have:=(H.kp I om (.inr rfl)).trans df;exact⟨Ac this,Ac this⟩)
 have bg:vz (∀wr x,DR (NI No I) B W1 b (va a n ae) Z U x wr->x.p<=8*n->x.e=0->∀k v,uplace bj (rowB bs n) x=(k,v)->vu v8 281 #[vc (vp ⟨g1,0,vn⟩),vc (vp ⟨ac,0,vn⟩)] wr λe w'=>HK (NI No I) B wr b (va a n ae) Z U (so vh k) v e w'):=Ab (λwr x H ao ay k v a8=>
  RT H.is (R1.keep H.below.size H.kp) ao ay g1 ac aa ak (dn.keep H.below.size (H.kp g1 om (.inl bd.1)) (H.kp ac om (.inl bd.2.1)) (H.kp aa om (.inl bd.2.2))) e1 ⟨.inl bd.1,.inl bd.2.1,.inl bd.2.2⟩ (λg O=>bn g (WJ H.below.size O)) k v (Ab a8))
 have cg:vz (∀wr x,DR (NI No I) B W1 b (va a n ae) Z U x wr->x.p<=8*n->x.e=0->∀k v,Nt (rowB bs n) lb x=(k,v)->vu v8 269 #[vc (vp ⟨b,0,vn⟩),vf #[DV g1 ac,DV g2 G]] wr λe w'=>HK (NI No I) B wr b (va a n ae) Z U (so vh k) v e w'):=Ab (λwr x H ao ay k v a8=>
  Zfa H.is (R1.keep H.below.size H.kp) ao ay g1 ac g2 G ai ar (e9.keep H.below.size (H.kp g2 om (.inl a7.1)) (H.kp G om (.inl a7.2.1)) (H.kp ai om (.inl a7.2.2))) fh ⟨.inl a7.1,.inl a7.2.1,.inl a7.2.2⟩ (λg O=>bn g (WJ H.below.size O)) k v (Ab a8))
 have fj:vz (∀wr x,DR (NI No I) B W1 b (va a n ae) Z U x wr->x.p<=8*n->x.e=0->∀(l size r:Nat) (v:US),size<=16->l<=40000->uget (rowB bs n) size x=(r,v)->vu v8 266 #[vc (vp ⟨b,0,vn⟩),so vh l,so vh size] wr λe w'=>HK (NI No I) B wr b (va a n ae) Z U (so vh (l+r:Nat)) v e w'):=Ab (λwr x H ao ay l size r v gg hl a8=>
  Jt B b ae size l Z U x wr H.is (R1.keep H.below.size H.kp) ao ay gg hl r v (Ab a8))
 have c8:vz (∀wr x,DR (NI No I) B W1 b (va a n ae) Z U x wr->x.e=0->x.out.length<=3000->∀d k v,1<=d->d<=80000->k<=65535->Kh d k x=v->vu v8 268 #[vc (vp ⟨b,0,vn⟩),so vh k,so vh d] wr λe w'=>HK (NI No I) B wr b (va a n ae) Z U (vd #[]) v e w'):=Ab (λwr x H ao ay d k v g9 c6 a8 gz=>
  Z6m H.is ao ay g9 c6 a8 (λg O=>bn g (WJ H.below.size O)) (Ab gz))
 have cj:vz (∀wr x,DR (NI No I) B W1 b (va a n ae) Z U x wr->x.out.length<=3000->vu v8 265 #[vc (vp ⟨b,0,vn⟩),so vh 1] wr λe w'=>w'=wr/\((x.out.length+1<=3000/\e=vm (vd #[]))\/ (3000<x.out.length+1/\e=HR 2))):=Ab (λwr x H ao=>Uh (NI No I) B b 1 (va a n ae) Z U x wr H.is ao od);have gi:vz (∀x wr,V=x->x.e=0->DR (NI No I) B W1 b (va a n ae) Z U x wr->HK No B w b (va a n ae) Z U (vd #[]) V (vm (vd #[])) wr):=Ab (λx wr cn a3 H=>by subst cn;exact HK.from (.inl ⟨a3,rfl,H.less⟩) (au.mono ee) bw);have kz:vz (∀x wr,V=x->x.e≠0->Bl (NI No I) B W1 wr->HK No B w b (va a n ae) Z U (vd #[]) V (HR x.e) wr):=Ab (λx wr cn a3 eh=>by subst cn;exact .inr ⟨a3,rfl,(au.mono ee).trans eh.below,bw.trans (eh.kp.weaken (λ_ h=>.inl h)) om⟩);have bm:vz (∀(f:Nat) (E x:US) (k v),E.p<=x.p->x.p<=8*n->x.e=0->x.out.length<=3000->uplace bj (rowB bs n) x=(k,v)->v.e=0->v.p<=8*n/\v.out.length<=3000/\E.p<v.p):=Ab (λf E x k v ao ay a5 az aw ap=>by have al:=Ju bj (rowB bs n) x om;have bk:=Gz bj (rowB bs n) x;have bf:=QS bj (rowB bs n) x a5 (by rw[aw];exact ap);rw[aw]at al bk bf;rw[cw]at al;exact⟨al,by rw[bk.1];exact az,UJ ao bf⟩);have cm:=Ab (DR.refl d5);obtain⟨bc,aj,a3⟩:∃bc aj,uplace bj (rowB bs n) u=(bc,aj):=⟨_,_,rfl⟩;have dt:=Ab (bg W1 u cm dh db bc aj a3);have d7:=Ab (bm 0 u u bc aj (VA _) dh db ds a3);have da:vz (V=if aj.e≠0 then aj else NL (rowB bs n) bj lb F bc aj):=Ab (by have:=Aa dc;unfold Hz at this;rw[a3]at this;exact this.symm);have ha:W1.cell? ⟨I,0,vn⟩=vp (DV g1 ac):=Ac df;have ie:=dj.few;have hk:=Ab bn;clear h dj dh db ds bz e1 bd b7 fh a7 d8 dc au bw df d5 R1 dn e9 a3 f9 la2 gv lb2 bn;go_enter func250,ntmps250;go_wp2_with fail;refine dt.mono ?_;rintro e hs O;(rcases O with ⟨e0,rfl,H⟩|⟨e0,rfl,dy⟩);rotate_left;(. have ho:=Ab dy;have ah:vz (V=aj):=Ab (by rw[Aa da,A1 e0]);clear dy;go_wp2;exact⟨rfl,Aa kz aj hs (Aa ah) e0 (Aa ho)⟩);have fe:=Ab (cm.trans H);obtain⟨et,e8,gy⟩:=Aa d7 e0;have e5:vz (V=NL (rowB bs n) bj lb F bc aj):=Ab (by rw[Aa da,A0 (λh=>h e0)]);clear H dt d7 da ha cm;go_wp2;go_loopw [4] (λv4 wr=>∃(k f:Nat) (x:US),v4=so vh k/\vz (x.p<=8*n/\x.out.length<=3000/\x.e=0)/\vz (8*n+1-x.p<=f)/\vz (DR (NI No I) B W1 b (va a n ae) Z U x wr)/\vz (V=NL (rowB bs n) bj lb f k x)) (λ_ wr=>Z0j n b wr);have hg:vz (8*n+1-aj.p<=F):=Ab om;exact⟨bc,F,aj,rfl,Ab ⟨et,e8,e0⟩,hg,fe,e5⟩;clear fe e5 et e8 gy e0;obtain⟨k,c9,E,rfl,f3,cv,ci,bu⟩:=hrel;obtain⟨co,cz,bh⟩:=Aa f3;by_cases cd:k=256
 . have ah:vz (V=E):=Ab (by
    rw[Aa bu]
    cases c9 with
    |zero=>rfl
    |succ f=>show (if k=256 then E else _)=_;rw[A1 cd])
   subst cd;clear bu;go_wp2;go_end0;exact gi E wr ah bh ci
 obtain⟨f,rfl⟩:∃f,c9=f+1:=⟨c9-1,by have:=Aa cv;omega⟩;have h3:=Aa cv;have av:vz (V=if (Cu (rowB bs n) lb k E).e≠0 then Cu (rowB bs n) lb k E else if (uplace bj (rowB bs n) (Cu (rowB bs n) lb k E)).2.e≠0 then (uplace bj (rowB bs n) (Cu (rowB bs n) lb k E)).2 else NL (rowB bs n) bj lb f (uplace bj (rowB bs n) (Cu (rowB bs n) lb k E)).1 (uplace bj (rowB bs n) (Cu (rowB bs n) lb k E)).2):=Ab (by rw[Aa bu];show (if k=256 then E else _)=_;rw[A0 cd]);have h1:¬(k:Int)=256:=om;clear bu cv;by_cases cp:k<256;. have hq:(k:Int)<256:=om;have a4:vz (Cu (rowB bs n) lb k E=if 3000<E.out.length+1 then {E with e:=2}else {E with out:=E.out++ [k]}):=Ab (by unfold Cu;rw[A1 cp]);go_wp2_with fail;refine(cj wr E ci cz).mono ?_;rintro e w3 ⟨rfl,O⟩;(rcases O with ⟨hl,rfl⟩|⟨hl,rfl⟩);rotate_left;(. have ah:vz (V= {E with e:=2}):=Ab (by rw[Aa av,Aa a4,A1 hl,A1 (show ({E with e:=2}:US).e≠0 from (by decide:(2:Int)≠0))]);clear hl;go_wp2;exact⟨rfl,Aa kz {E with e:=2} _ (Aa ah) (by decide:(2:Int)≠0) ci.bl⟩);have bi:vz (V=if (uplace bj (rowB bs n) {E with out:=E.out++ [k]}).2.e≠0 then (uplace bj (rowB bs n) {E with out:=E.out++ [k]}).2 else NL (rowB bs n) bj lb f (uplace bj (rowB bs n) {E with out:=E.out++ [k]}).1 (uplace bj (rowB bs n) {E with out:=E.out++ [k]}).2):=Ab (by (have a6:Cu (rowB bs n) lb k E= {E with out:=E.out++ [k]}:=by rw[Aa a4,A0 om]);have:=Aa av;rw[a6,A0 (λh=>h bh)]at this;exact this);obtain⟨f8,g5,f6,g4,gq⟩:=EM Gq;have b9:=ci.is;have hz:=b9.lt;obtain⟨h6,h2,ht,f4,eo,cy,d9,ej,eu,ew⟩:=b9.rows;obtain⟨L,c7⟩:=exq (E.out.length);have b8:=cy;rw[c7]at b8;have h7:L+1<=3000:=om;obtain⟨ib,hv,rfl⟩:=Am b8;obtain⟨fk,du,b0,gh,hf,ft,gd,f5,ed⟩:=ydI b8 b9 eo cy d9 ej eu ew c7;have hw:vi.wrap (k:Int)=k:=tM;have h0:=ci.below.size;clear b9 eo cy d9 ej eu ew b8 c7 f4 av a4;go_wp2_with (at_builtin;refine HG _ rfl _ _ 23 rfl (b+1) 5 f8 (so vi 0) 1 1 underlying23 g5 f6 g4 gq rfl od _ L (u8s E.out) rfl (fk.alloc _) ⟨_,0,vn⟩ 1 1 [so vi k] rfl rfl (RR _ _ _) (Df rfl) ou om oO ?_);intro v' bq e6 ff _ ia;obtain⟨gj,fp,hj,_,_⟩:=Ax e6 om;obtain⟨bf,h5,d6⟩:=IIs.said (c:=k) (v':=v') du.base du.no b0 gh hf ft gd f5 (λg O=>Aa hk g om) uO ff qAZ;have bo:=Ab (ci.trans d6);(have fq:(E.out++ [k]).length<=3000:=by rw[VB,Aa ed];simp only[VG,WE];omega);subst hj;clear d6 e6 ff ia;obtain⟨eg,fo⟩:=exq (bq.setCell ⟨b,2,vn⟩ (va (vp ⟨gj,0,vn⟩) (L+1) fp));rw[fo]at bo;obtain⟨hp,fx⟩:=Aa cq eg _ (Aa bo);obtain⟨g7,dq,ap⟩:∃g7 dq,uplace bj (rowB bs n) {E with out:=E.out++ [k]}=(g7,dq):=⟨_,_,rfl⟩;have cu:=Ab (bg eg {E with out:=E.out++ [k]} (Aa bo) (co) (bh) g7 dq ap);have jr:=Ab (bm f E {E with out:=E.out++ [k]} g7 dq (VA _) (co) (bh) (fq) ap);have jb:vz (V=if dq.e≠0 then dq else NL (rowB bs n) bj lb f g7 dq):=Ab (by have:=Aa bi;rw[ap]at this;exact this);clear ap bg cg cj c8 bm bi;go_wp2_with fail;refine cu.mono ?_;rintro e w6 O;(rcases O with ⟨jz,rfl,n3⟩|⟨jz,rfl,nl⟩);have po:=Ab (bo.trans n3);exact xC;have im:=Ab (bo.bl.trans nl);exact kJ
 . have hq:¬(k:Int)<256:=om;by_cases ek:285<k;(. have fw:¬(k:Int)<=285:=om;have ah:vz (V= {E with e:=8}):=Ab (by (have a6:Cu (rowB bs n) lb k E= {E with e:=8}:=by unfold Cu;rw[A0 cp,A1 ek]);rw[Aa av,a6,A1 (show ({E with e:=8}:US).e≠0 from (by decide:(8:Int)≠0))]);clear av;go_wp2_with fail;refine(Ci 8 _).mono ?_;rintro e w3 ⟨rfl,rfl⟩;go_wp2;exact⟨rfl,Aa kz {E with e:=8} _ (Aa ah) (by decide:(8:Int)≠0) ci.bl⟩);have fw:(k:Int)<=285:=om;obtain⟨dv,fg,ce⟩:=NE k om om;have c5:=Ab (λw=>E7 k w om om);obtain⟨ba,ax,di⟩:∃ba ax,Dr k=(ba,ax):=⟨_,_,rfl⟩;rw[di]at c5 dv fg ce;obtain⟨r,af,a5⟩:∃r af,uget (rowB bs n) ax E=(r,af):=⟨_,_,rfl⟩;obtain⟨d,v4,az⟩:∃d v4,Nt (rowB bs n) lb af=(d,v4):=⟨_,_,rfl⟩;have a4:vz (Cu (rowB bs n) lb k E=if af.e≠0 then af else if v4.e≠0 then v4 else Kh d (ba+r) v4):=Ab (by unfold Cu;rw[A0 cp,A0 ek,di,a5,az]);(have h9:r<32:=by have:=Ps (rowB bs n) ax E;rw[a5]at this;exact VC this (VN (j:=5) od ce));(have fi:af.p<=8*n/\E.p<=af.p/\af.out=E.out:=by have al:=He (rowB bs n) ax E om;have bk:=CS (rowB bs n) ax E;have bf:=Cs (rowB bs n) ax E;rw[a5]at al bk bf;rw[cw]at al;exact⟨al,bk,bf⟩);(have fy:v4.p<=8*n/\af.p<=v4.p/\v4.out=af.out:=by have al:=Yp (rowB bs n) lb af om;rw[az,cw]at al;exact⟨al.2.2.2,al.2.2.1,al.1⟩);obtain⟨p31,p32,p33⟩:=fi;obtain⟨p41,p42,p43⟩:=fy;(have ey:v4.e=0->1<=d/\d<=80000:=λe=>by have:=Z5r (rowB bs n) lb af (by rw[az];exact e);rw[az]at this;exact this);obtain⟨fu,em,b0⟩:=Bq ey (fj wr E ci co bh ba ax r af om om a5) (λen (H:DR (NI No I) B W1 b (va a n ae) Z U af en) he3=>Aa cg en af H p31 he3 d v4 az);clear di a5 az ey;dsimp only at c5 dv fg ce;go_wp2_with fail;refine(c5 _).mono ?_;rintro e w3 ⟨rfl,rfl⟩;go_wp2_with fail;refine em.mono ?_;rintro e w3 O;(rcases O with ⟨e3,rfl,dw⟩|⟨e3,rfl,dz⟩);rotate_left;(. have gn:=Ab (ci.bl.trans dz);have ah:vz (V=af):=Ab (by (have a6:Cu (rowB bs n) lb k E=af:=by rw[Aa a4,A1 e3]);have:=Aa av;rw[a6,A1 e3]at this;exact this);clear dz;go_wp2;exact⟨rfl,Aa kz af w3 (Aa ah) e3 (Aa gn)⟩);have b4:=Ab (ci.trans dw);obtain⟨hx,hu⟩:=Aa cq w3 _ (Aa b4);have e4:=Ab (b0 w3 b4 e3);clear dw b0;go_wp2_with fail;refine e4.mono ?_;rintro e ei O;(rcases O with ⟨bb,rfl,dr⟩|⟨bb,rfl,eb⟩);rotate_left;(. have gx:=Ab (b4.bl.trans eb);have ah:vz (V=v4):=Ab (by (have a6:Cu (rowB bs n) lb k E=v4:=by rw[Aa a4,A0 (λh=>h e3),A1 bb]);have:=Aa av;rw[a6,A1 bb]at this;exact this);clear eb;go_wp2;exact⟨rfl,Aa kz v4 ei (Aa ah) bb (Aa gx)⟩);have ct:=Ab (b4.trans dr);obtain⟨gu,c6⟩:=Aa fu bb;obtain⟨ag,aw⟩:=exq (Kh d (ba+r) v4);have hh:=Ab (c8 ei v4 ct bb (by rw[p43,p33];exact cz) d (ba+r) ag gu c6 om aw);have ck:vz (Cu (rowB bs n) lb k E=ag):=Ab (by rw[Aa a4,A0 (λh=>h e3),A0 (λh=>h bb),aw]);have gw:vz (ag.e=0->ag.p=v4.p/\ag.out.length<=3000):=Ab (λe=>by have:=Ul d (ba+r) v4 (by rw[aw];exact e);rw[aw]at this;exact⟨this.1,this.2.2 (by rw[p43,p33];exact cz)⟩);clear dr aw e4 em;go_wp2_with fail;refine hh.mono ?_;rintro e bq O;(rcases O with ⟨a9,rfl,e7⟩|⟨a9,rfl,ep⟩);rotate_left;(. have im:=Ab (ct.bl.trans ep);have ah:vz (V=ag):=Ab (by have:=Aa av;rw[Aa ck,A1 a9]at this;exact this);clear ep;go_wp2;exact⟨rfl,Aa kz ag bq (Aa ah) a9 (Aa im)⟩);have bv:=Ab (ct.trans e7);obtain⟨ic,g8⟩:=Aa gw a9;have bi:vz (V=if (uplace bj (rowB bs n) ag).2.e≠0 then (uplace bj (rowB bs n) ag).2 else NL (rowB bs n) bj lb f (uplace bj (rowB bs n) ag).1 (uplace bj (rowB bs n) ag).2):=Ab (by have:=Aa av;rw[Aa ck,A0 (λh=>h a9)]at this;exact this);clear e7 av a4 ck;obtain⟨hp,fx⟩:=Aa cq bq _ (Aa bv);obtain⟨g7,dq,ap⟩:∃g7 dq,uplace bj (rowB bs n) ag=(g7,dq):=⟨_,_,rfl⟩;have cu:=Ab (bg bq ag bv om (a9) g7 dq ap);have jr:=Ab (bm f E ag g7 dq om om (a9) (g8) ap);have jb:vz (V=if dq.e≠0 then dq else NL (rowB bs n) bj lb f g7 dq):=Ab (by have:=Aa bi;rw[ap]at this;exact this);clear ap bg cg cj c8 bm bi;go_wp2_with fail;refine cu.mono ?_;rintro e w6 O;(rcases O with ⟨jz,rfl,n3⟩|⟨jz,rfl,nl⟩);have po:=Ab (bv.trans n3);exact xC;have im:=Ab (bv.bl.trans nl);exact kJ
theorem Z2n:∀(args:Array vt) (w:wd),(callFunc 205 args).run v8 w=.ok (.enter 205 args) w:=λ_ _=>oR
theorem LK(a:Option vw)(ah:Nat)(bs:List Nat)(w:wd)(bv:n<=6000)(E:US)(Z:∀(No:Nat->Prop) (B b:Nat) (W:wd),IIs No B W b (va a n ah) vg vg O9->(∀g,w.heap.size+2<=g->¬No g)->(∀g,g<w.heap.size->No g)->W.heap.size=w.heap.size+2->B<=b->vx w.heap.size w W->vu v8 205 #[vc (vp ⟨b,0,vn⟩)] W λe w'=>(E.e=0/\e=vm (vd #[])/\∃g1 g2,DR No B W b (va a n ah) g1 g2 E w')\/ (E.e≠0/\e=HR E.e/\vx B W w'/\Kp No W w')) (bh:0<=E.e) (a6:E.e=0->E.p<=48000):vu v8 166 #[va a n ah] w λe w'=>vx w.heap.size w w'/\((E.e=0/\∃ov kv,e=vm (vd #[ov,so vh ((E.p+7)/8:Nat),kv,so vh 0])/\w'.ownsRow (w.heap.size+1) 5 1 ov E.out.length (u8s E.out)/\w'.ownsRow (w.heap.size+1) 3 1 kv E.ks.length (i64s E.ks))\/ (E.e≠0/\e=vm (vd #[va vn 0 0,so vh 0,va vn 0 0,so vh E.e]))):=by
 have bo:=bL;have bd:=Ab Z;clear Z;go_enter func166,ntmps166;go_wp2_with fail;obtain⟨G,U⟩:=exq (w.alloc (vl #[va a n ah,so vh 0,va vn 0 0,va vn 0 0,vg,vg] 284));(have ai:G.heap.size=w.heap.size+1:=by rw[<-U];simp);(have bb:G.heap[w.heap.size]? =vp (vl (icells (va a n ah) vg vg O9 (va vn 0 0) (va vn 0 0)) 284 (0,0)):=by rw[<-U];exact B2 _ _);(have a8:vx w.heap.size w G:=by rw[<-U];exact(A2 _ _).alloc (VA _) _);rw[U];clear U;obtain⟨No,I⟩:∃No:Nat->Prop,No=λg=>g<w.heap.size\/g=w.heap.size+1:=⟨_,rfl⟩;(have ay:IIs No w.heap.size (G.alloc (vl #[so vh 0] 24)) w.heap.size (va a n ah) vg vg O9:=by refine⟨VA _,by rw[I];omega,va vn 0 0,va vn 0 0,(EN _ _ _ om).trans bb,HM _ _ _ _,HM _ _ _ _,.inl rfl,?_,?_⟩<;>(intro g e;simp[Value.ownBlock]at e));have au:=Aa bd No w.heap.size w.heap.size _ ay (λg F=>by rw[I];omega) (λg F=>by rw[I];exact .inl F) (by simp[ai]) (VA _) (a8.alloc om _)
 have a3:=PM 205 #[vc (vp ⟨w.heap.size,0,vn⟩)] (λx w'=>(x:Int)=E.e/\(E.e=0->∃g1 g2,IIs No w.heap.size w' w.heap.size (va a n ah) g1 g2 E)/\vx w.heap.size w w'/\w.heap.size+2<=w'.heap.size) G Z2n (au.mono (λe w' F=>by
  have ax:vx w.heap.size w (G.alloc (vl #[so vh 0] 24)):=a8.alloc om _
  have a9:(G.alloc (vl #[so vh 0] 24)).heap[G.heap.size]? =vp (vl #[so vh 0] 24 (0,0)):=B2 _ _
  have aw:No G.heap.size:=by rw[I,ai];exact .inr rfl
  rcases F with ⟨e0,rfl,g1,g2,H⟩|⟨e0,rfl,Z,hK⟩
  . have al:=H.below.size
    simp only[CL]at al
    exact⟨⟨0,⟨by rw[e0];rfl,λ_=>⟨g1,g2,H.is⟩,ax.trans H.below,om⟩,.inl ⟨rfl,rfl⟩⟩,(H.kp _ oS aw).trans a9⟩
  . have al:=Z.size
    simp only[CL]at al
    have O:((E.e.toNat:Nat):Int)=E.e:=ZD bh
    exact⟨⟨E.e.toNat,⟨O,λh=>absurd h e0,ax.trans Z,om⟩,.inr ⟨om,by rw[O]⟩⟩,(hK _ oS aw).trans a9⟩))
 refine a3.mono ?_;rintro e ae ⟨x,ar,⟨O,aj,af,bq⟩,rfl,bu,ao,ap⟩;have a4:=Ab (af.trans (ap w.heap.size om));clear a3 au ay;by_cases e0:E.e=0;(. obtain⟨g1,g2,H⟩:=aj e0;have a6:=a6 e0;have a7:x=0:=om;subst a7;obtain⟨ov,kv,c2,bi,az,ag,ak,bf,av,a5⟩:=H.rows;have aa:∀g,g<ar.heap.size->g≠w.heap.size+1->ae.heap[g]? =ar.heap[g]? :=λg bg ba=>ao g bg (by rw[ai];exact ba);have ac:=(aa w.heap.size om om).trans az;have bc:=Ab (Bv ag (λg F=>aa g (ag.lt g F).2 (λh=>av g F (by rw[I,h];exact .inr rfl))));have bj:=Ab (Bv ak (λg F=>aa g (ak.lt g F).2 (λh=>a5 g F (by rw[I,h];exact .inr rfl))));have d1:ae.cell? ⟨w.heap.size,1,vn⟩=vp (so vh (E.p:Int)):=Ac ac;have bm:ae.cell? ⟨w.heap.size,2,vn⟩=vp ov:=Ac ac;have bn:ae.cell? ⟨w.heap.size,3,vn⟩=vp kv:=Ac ac;clear H az ag ak bf av a5 ac aa ao ap aj af c2 bi O;go_wp2;go_quiet (fail);go_wp2;refine E1 (v:=vd #[ov,so vh (((E.p:Int)+7)/8),kv,so vh 0]) ?_ rfl ⟨Ae a4 _,.inl ⟨e0,ov,kv,by rw[show (((E.p+7)/8:Nat):Int)=((E.p:Int)+7)/8 by omega],Bv bc (λ_ _=>rfl),Bv bj (λ_ _=>rfl)⟩⟩;exact yF);. have a7:((x:Int)==0)=false:=sV;have bk:=Ab O;clear ao ap aj af O;go_wp2;refine E1 (v:=vd #[va vn 0 0,so vh 0,va vn 0 0,so vh x]) ?_ rfl ⟨a4,.inr ⟨e0,by rw[Aa bk]⟩⟩;exact yF
theorem FH(b:Nat)(Z:Nat)(I:l.length=ac)(ag:ac<=1000000)(O:AL vh w a l)(F:errL l≠0):vu v8 270 #[vc (vp ⟨b,0,vn⟩),va a ac Z] w λe w'=>e=HR (errL l)/\vx w.heap.size w w':=by have aa:=Ab (Z25 Z (w.alloc (vl #[vc (vp ⟨b,0,vn⟩)] 280)) I om (O.alloc _) F);have ae:vz (vx w.heap.size w (w.alloc (vl #[vc (vp ⟨b,0,vn⟩)] 280))):=Ab ((A2 _ _).alloc (VA _) _);(have hb:(errL l !=0)=true:=by rw[HV];exact F);obtain⟨E,G⟩:=exq (errL l);rw[G]at aa hb ⊢;clear G F O I;go_enter func270,ntmps270;go_wp2_with fail;refine aa.mono ?_;rintro e H ⟨rfl,U⟩;have af:vz (vx w.heap.size w H):=Ab (ae.trans (U.mono oS));clear U;go_wp2_with fail;refine(Ci E H).mono ?_;rintro e ah ⟨rfl,rfl⟩;go_wp2;exact⟨rfl,rfl,af⟩
def Ze2(b:Nat)(l:List Int)(w:wd)(e:Ending)(w':wd):Prop:=
 vx w.heap.size w w'/\((errL l=0/\∃gr gm mb nn,e=vm (DV gr gm)/\w.heap.size<=gr/\w.heap.size<=gm/\w.heap.size<=mb/\mb<w'.heap.size/\H3 w' gr gm mb nn b l)\/ (errL l≠0/\e=HR (errL l)))
theorem Mf(b:Nat)(a:Option vw)(F I:Nat)(l:List Int)(w:wd)(O:l.length=F)(ac:F<=1000000)(U:AL vh w a l):vu v8 270 #[vc (vp ⟨b,0,vn⟩),va a F I] w λe w'=>Ze2 b l w e w':=by by_cases E:errL l=0;refine(Pz b a F I w O U (Cl E)).mono ?_;rintro e w' ⟨gr,gm,mb,nn,H,G,ag,aa,af,Z,ae⟩;exact⟨ae,.inl ⟨E,gr,gm,mb,nn,H,G,ag,aa,af,Z⟩⟩;refine(FH b I O ac U E).mono ?_;rintro e w' ⟨H,G⟩;exact⟨G,.inr ⟨E,H⟩⟩
def NJ(No:Nat->Prop)(N:Nat):Nat->Prop:=λg=>No g\/N<=g
def NK(No:Nat->Prop)(N M:Nat):Nat->Prop:=λg=>No g\/ (N<=g/\g<M)
theorem IIs.back{U:Nat->Prop}{B:Nat}{g1 g2:vt}{G:US}(F:IIs av B w b R E I u)(ac:IIs U B w' b R g1 g2 G)(hK:Oy b w w'):IIs av B w' b R g1 g2 G:=by obtain⟨ov,kv,a2,ae,al,aj,ao,ai,Z,ag⟩:=F.rows;obtain⟨O,H,b2,b3,ah,aa,b6,af,ap,ak⟩:=ac.rows;(have e2:O=ov:=by have:=(b2.symm.trans (hK 2 od)).trans a2;exact VK this);(have e3:H=kv:=by have:=(b3.symm.trans (hK 3 od)).trans ae;exact VK this);subst e2;subst e3;exact⟨F.base,F.no,O,H,ah,aa,b6,af,Z,ag⟩
theorem IIs.newer{B:Nat}(h:IIs No B w b R E I u):IIs (NJ No w.heap.size) B w b R E I u:=
 h.more (λe=>by
  rcases e with e|e
  . exact h.no e
  . have:=h.lt;omega) (λg F=>F)
theorem IIs.weak{B:Nat}(h:IIs No B w b R E I u)(F:∀g,No' g->No g):IIs No' B w b R E I u:=
 h.more (λe=>h.no (F b e)) (λg G=>.inl (F g G))
theorem Rd.wide(h:Rd w No a n bs)(G:∀g,No g->No' g):Rd w No' a n bs:=⟨h.len,h.few,h.byt,h.val,λF E H e2=>G _ (h.no F E H e2)⟩
theorem Zcl{B:Nat}(h:vx w.heap.size w w')(F:B<=w.heap.size):Bl No B w w':=⟨h.mono F,λg E _=>h.block g E⟩
theorem IIs.past{B:Nat}(h:IIs No B w b R E I u)(F:vx w.heap.size w w'):IIs No B w' b R E I u:=by obtain⟨ov,kv,Z,H,O,U⟩:=h.ex;exact⟨h.base,h.no,ov,kv,(F.block b h.lt).trans Z,Bv H (λg G=>F.block g (H.lt g G).2),Bv O (λg G=>F.block g (O.lt g G).2),U⟩
structure Rk(No:Nat->Prop)(B:Nat)(w:wd)(b:Nat)(R f1 f2:vt)(u:US)(w':wd):Prop where
 is:IIs (NJ No w.heap.size) B w' b R f1 f2 u
 bl:Bl No B w w'
theorem Rk.refl{B:Nat}(h:IIs No B w b R E I u):Rk No B w b R E I u w:=⟨h.newer,Bl.refl _ _ _⟩
theorem Rk.num{B:Nat}{v:US}(h:Rk No B w b R E I u O)(k:DR (NJ No w.heap.size) B O b R E I v ao):Rk No B w b R E I v ao:=⟨k.is,h.bl.trans ⟨k.below,k.kp.weaken (λ_ h=>.inl h)⟩⟩
theorem Rk.past{B:Nat}(h:Rk No B w b R E I u O)(k:vx O.heap.size O ao):Rk No B w b R E I u ao:=⟨h.is.past k,h.bl.trans (Zcl k (WJ h.is.base (UG h.is.lt)))⟩
theorem Rk.drewN{B:Nat}(h:Rk No B w b R E I u O)(q:Nat):Rk No B w b R E I u (O.drewN q):=h.past (Ae (A2 _ _) q)
theorem Zcy:∀q,q<19->T3.getD q 0=((ord19.getD q 0:Nat):Int)/\ord19.getD q 0<19:=od
theorem Z4u(h:i<c)(E:c<=19):(ord19.take c).drop i=ord19.getD i 0::(ord19.take c).drop (i+1):=by have hl:ord19.length=19:=rfl;(have hi:i<(ord19.take c).length:=by rw[VL,hl];omega);rw[WX hi,YV];congr 1;rw[List.getD,VP om];rfl
theorem Sn(rowx:List Bool):∀(ks:List Nat) (s:List Int) (u:US),u.e≠0->(usmall rowx ks s u).2=u
 | [],s,u,h=>rfl
 |k::r,s,u,h=>by rw[usmall,Fw rowx 3 u h];exact Sn rowx r _ u h
def Zcu(No:Nat->Prop)(B:Nat)(w:wd)(b:Nat)(R f1 f2:vt)(S:List Int)(us:US)(e:Ending)(w':wd):Prop:=
 (us.e≠0/\e=HR us.e/\Bl No B w w')\/ (us.e=0/\errL S≠0/\e=HR (errL S)/\Bl No B w w')\/ (us.e=0/\errL S=0/\Rk No B w b R f1 f2 us w'/\∃gr gm mb nn,e=vm (DV gr gm)/\w.heap.size<=gr/\w.heap.size<=gm/\w.heap.size<=mb/\mb<w'.heap.size/\H3 w' gr gm mb nn b S)
theorem Qb{B:Nat}(h:IIs No B w b (va a n ac) E I u)(cg:Rd w No a n bs)(ce:u.p<=8*n)(b0:u.e=0)(b5:∀g,w.heap.size<=g->¬No g)(c:Nat)(cq:c<=19)(S:List Int)(O:US)(ar:vz (usmall (rowB bs n) (ord19.take c) (List.replicate 19 0) u=(S,O))):vu v8 272 #[vc (vp ⟨b,0,vn⟩),so vh c] w λe w'=>Zcu No B w b (va a n ac) E I S O e w':=by
 have bm:=Af bs n;have dq:=h.lt;have dj:=h.base;obtain⟨N,au⟩:=exq (w.heap.size);obtain⟨bw,cd,da,db⟩:=Do (Rk.refl h) cg (And.intro ce b0) b5;obtain⟨hg,j5⟩:=exq (T3);have bk:=Ab j5;have bg:=rJ;(have oq:hg.length=19:=by rw[<-j5];rfl);have dc:=nF;clear h cg ce b0 j5 b5;go_enter func272,ntmps272;go_wp2_with fail;refine(bg _).mono ?_;rintro e fk ⟨rfl,ap⟩;(have bb:ARow 321 fk N (List.replicate 19 0):=by rw[<-au];exact(ap.block _ oS).trans ((B2 _ _).trans oR));(have bc:vx N w fk:=by rw[<-au];exact((A2 w.heap.size w).alloc (VA _) _).trans (ap.mono oS));have cm:=ap.size;simp only[CL]at cm;have a9:=fH;obtain⟨ay,bz,bo⟩:=Bq a9 bb bc;clear a9 ap bb bc;go_upto_region 3 with (refine Ma rfl 321 (.tmp 6) (.tmp 8) rfl fk.heap.size _ rfl rfl 321 (iv (List.replicate 19 0)).toArray ay dc (by simp[oq]) (Dj hg) ?_);simp only[Act.put];generalize Z:World.setRow (World.alloc _ _) _ _=U;obtain⟨go,ao⟩:=exq (fk.heap.size);(have bn:ARow 321 U go hg:=by rw[<-Z,<-ao];exact ND _ _ _ _ _ _ ay);(have bv:vx N w U:=by rw[<-Z];exact Az (bo.alloc om _) om _);have bi:ARow 321 U N (List.replicate 19 0):=bz.keep (by rw[<-Z,TX _ _ _ _ om];exact EN _ _ _ om);(have dt:go<U.heap.size:=by rw[<-Z,<-ao];simp);have cj:Rk No B w b (va a n ac) E I u U:=bw.past (by rw[au];exact bv);(try rw[ao]);(try rw[au]);have dm:N<go:=om;obtain⟨ct,c9,df⟩:=Bq bn bi cj;have ck:vz (∀wr,Bl No B w wr->Rd wr (NJ No w.heap.size) a n bs):=Ab (λwr hb=>(cd.keep hb.below.size hb.kp).wide (λ_ h=>.inl h));have b4:vz (∀g,N<=g->NJ No w.heap.size g):=Ab (λg G=>.inr om);clear Z ao bn bv bi cj ay bz bo cd bw bg;go_wp2;go_loopw [10] (λa6 wr=>∃(i:Nat) (s:List Int) (x:US),i<=c/\a6=so vh i/\s.length=19/\vz (ARow 321 wr N s)/\vz (ARow 321 wr go hg)/\vz (Rk No B w b (va a n ac) E I x wr)/\vz (x.p<=8*n/\x.e=0)/\vz (usmall (rowB bs n) ((ord19.take c).drop i) s x=(S,O))) (λa6 _=>c-(vy a6).toNat);exact⟨0,List.replicate 19 0,u,VF _,rfl,oS,c9,ct,df,da,ar⟩;obtain⟨i,s,x,hi,rfl,bj,ah,ax,hK,b7,a7⟩:=hrel;by_cases cu:i<c
 . obtain⟨o1,o2⟩:=Zcy i om;obtain⟨k,a5⟩:=exq (ord19.getD i 0);rw[a5]at o1 o2;have H:=Aa a7;rw[Z4u cu cq,a5,usmall]at H;obtain⟨r,v,hr⟩:∃r v,uget (rowB bs n) 3 x=(r,v):=⟨_,_,rfl⟩;rw[hr]at H;have ci:vz (usmall (rowB bs n) ((ord19.take c).drop (i+1)) (s.set k (r:Int)) v=(S,O)):=Ab H;obtain⟨az,af⟩:=Aa b7;have bu:=hK.is;have bh:=Aa ck wr hK.bl;have ag:=Ab (λq=>Eg (NJ No w.heap.size) B b a n ac 3 bs E I x (wr.drewN q) (bu.grown ⟨rfl,rfl,rfl,VA _,λ_ _ _=>rfl⟩) (bh.keep (VA _) (Kp.refl _ _)) az af od r v (Ab hr));(have c7:v.p<=8*n:=by have:=He (rowB bs n) 3 x (by rw[bm];exact az);rw[hr,bm]at this;exact this);(have cw:wr.cell? ⟨go,i,vn⟩=vp (so vh k):=by have:=ax.cell i om;rw[<-Aa bk,o1]at this;exact this);have cp:=ax.lt;have cv:=ah.lt;have du:(i:Int)<c:=om;have dn:(i:Int)<19:=om;have dl:(k:Int)<19:=om;have cn:=Ab o1;have co:=hK.bl.below.size;clear H hr bu bh o1 a5;by_cases ae:v.e=0
   . have c8:vz (∀q,vu v8 230 #[vc (vp ⟨b,0,vn⟩),so vh 3] (wr.drewN q) λe w'=>e=vm (so vh r)/\w'.cell? ⟨go,i,vn⟩=vp (so vh k)/\w'.cell? ⟨N,k,vn⟩=vp (so vh (s.getD k 0))/\w'.frozen? ⟨N,k,vn⟩=vq/\vz (∀y,ARow 321 (w'.setCell ⟨N,k,vn⟩ (so vh y)) N (s.set k y)/\ARow 321 (w'.setCell ⟨N,k,vn⟩ (so vh y)) go hg/\Rk No B w b (va a n ac) E I v (w'.setCell ⟨N,k,vn⟩ (so vh y)))):=Ab (λq=>(ag q).mono (λe w' G=>by
      rcases G with ⟨_,a3,e2⟩|⟨e0,_⟩
      . have a8:ARow 321 w' N s:=ah.keep (e2.kp N cv (b4 N (VA _)))
        have av:ARow 321 w' go hg:=ax.keep (e2.kp go cp (b4 go om))
        refine⟨a3,?_,a8.cell k om,a8.frozen k,Ab (λy=>⟨a8.set k y,av.keep ((Ad w' N k _).block _ av.lt (λe=>by have:=VK e;omega)),?_⟩)⟩
        . have:=av.cell i om
          rw[<-Aa bk,Aa cn]at this
          exact this
        . have k2:=(hK.drewN q).num e2
          have al:=Ad w' N k (so vh y)
          refine⟨?_,k2.bl.trans ⟨(A2 B w').grown al (WJ k2.is.base (UG k2.is.lt)) (λg e=>by cases e;omega),λg G hn=>al.block g G (λe=> ?_)⟩⟩
          . obtain⟨ov,kv,d1,aw,a4,ai,aa,ba⟩:=k2.is.ex
            have bf:∀z:vt,(∀g,z.ownBlock=vp g->¬NJ No w.heap.size g)->∀g,z.ownBlock=vp g->(w'.setCell ⟨N,k,vn⟩ (so vh y)).heap[g]? =w'.heap[g]? :=λz bd g G=>by
             have de:g<w'.heap.size\/w'.heap.size<=g:=om
             rcases de with b9|b9
             . exact al.block g b9 (λe=>bd g G (.inr (oI (VK e))))
             . exact absurd (.inr (oI k2.bl.below.size)) (bd g G)
            exact⟨k2.is.base,k2.is.no,ov,kv,(al.block b k2.is.lt (λe=>by have:=VK e;omega)).trans d1,Bv aw (bf ov aa),Bv a4 (bf kv ba),ai,aa,ba⟩
          . have:=VK e
            exact db g om hn
      . exact absurd ae e0))
     clear ag;go_wp2;go_region_with (go_at_call 230;refine(c8 _).mono ?_;rintro e aj ⟨rfl,ds,di,dr,F⟩);all_goals (go_wp2;go_roundw;exact⟨i+1,s.set k (r:Int),v,om,by go_num,by rw[YA];exact bj,Ab (F _).1,Ab (F _).2.1,Ab (F _).2.2,Ab ⟨c7,ae⟩,ci⟩;simp[vy];omega)
   . have F:vz (O=v):=Ab (by have:=Aa ci;have bq:=Sn (rowB bs n) ((ord19.take c).drop (i+1)) (s.set k (r:Int)) v ae;rw[this]at bq;exact bq)
     have dh:vz (∀q,vu v8 230 #[vc (vp ⟨b,0,vn⟩),so vh 3] (wr.drewN q) λe w'=>e=HR v.e/\Bl No B w w'):=Ab (λq=>(ag q).mono (λe w' G=>by
      rcases G with ⟨e0,_⟩|⟨_,a3,e2⟩
      . exact absurd e0 ae
      . exact⟨a3,(hK.bl.drewN q).trans (e2.weaken (λ_ h=>.inl h))⟩))
     clear ag;go_wp2;refine wp_region_held_drew (S:=λw'=>w'.cell? ⟨go,i,vn⟩=vp (so vh k)) oR cw (λak=> ?_);refine B0 0 ak ?_;refine B0 1 ak ?_;refine wpAnyH_take (i:=2) (v:=so vh k) rfl oR oR oR (λ_ _ _ h=>h) (Or.inl ⟨by rfl,λW ar=>by have dv:W.cell? ⟨go,i,vn⟩=vp (so vh k):=ar;go_simp⟩) ak ?_;refine B0 3 ak ?_;refine C1 4 λK hK=> ?_;go_simp;refine(dh _).mono ?_;rintro e aj ⟨rfl,c5⟩;exact And.intro rfl (Or.inl ⟨by rw[Aa F];exact ae,by rw[Aa F],c5⟩)
 . obtain rfl:i=c:=om;obtain⟨az,af⟩:=Aa b7;have H:=Aa a7;rw[XZ (by rw[VL];exact UA _ _),usmall]at H;obtain⟨rfl,rfl⟩:=VM H;have c6:=Ab (Mf b (vp ⟨N,0,vn⟩) 19 19 s wr bj od (.inr ⟨N,0,rfl,ah.lt,ah.row⟩));have co:=hK.bl.below.size;clear H a7 ar;go_wp2_with fail;refine c6.mono ?_;rintro e aj ⟨cy,cz⟩;have b8:=Ab (hK.past cy);(rcases cz with ⟨d0,gr,gm,mb,nn,rfl,d1,aw,a4,ai,aa⟩|⟨d0,rfl⟩);(. have F:vz (Zcu No B w b (va a n ac) E I s x (vm (DV gr gm)) aj):=Ab (.inr (.inr ⟨af,d0,b8,gr,gm,mb,nn,rfl,om,om,om,ai,aa⟩));clear d1 aw a4 ai aa d0;go_wp2;go_ret;exact F);. have F:vz (Zcu No B w b (va a n ac) E I s x (HR (errL s)) aj):=Ab (.inr (.inl ⟨af,d0,rfl,b8.bl⟩));clear d0;go_wp2;exact⟨rfl,F⟩
theorem Z8n(No:Nat->Prop)(B b:Nat)(a:Option vw)(n ah:Nat)(bs:List Nat)(ag ak:vt)(u:US)(w:wd)(h:IIs No B w b (va a n ah) ag ak u)(a4:Rd w No a n bs)(a8:u.p<=8*n)(a3:u.e=0)(ap:Option vw)(M bj:Nat)(l:List Int)(aa:l.length=M)(bq:M<=1000)(ar:AL vh w ap l)(al:∀g o,ap=vp ⟨g,o,vn⟩->l≠ []->No g)(k:Nat)(bv:k<19)(x:Int)(t:Nat)(v:US)(G:vz (ukind (rowB bs n) l k u=(x,t,v))):vu v8 282 #[vc (vp ⟨b,0,vn⟩),so vh k,va ap M bj] w λe w'=>HK No B w b (va a n ah) ag ak (vd #[so vh x,so vh t]) v e w':=by
 have H:=Ab h;have bw:=Ab a4;have U:vz (∀q (size least r:Nat) (y:US),size<=16->least<=40000->uget (rowB bs n) size u=(r,y)->vu v8 266 #[vc (vp ⟨b,0,vn⟩),so vh least,so vh size] (w.drewN q) λe w'=>HK No B w b (va a n ah) ag ak (so vh (least+r:Nat)) y e w'):=Ab (λq size least r y bf aw bh=>(Jt B b ah size least ag ak u (w.drewN q) (h.grown ⟨rfl,rfl,rfl,VA _,λ_ _ _=>rfl⟩) (a4.keep (VA _) (Kp.refl _ _)) a8 a3 bf aw r y (Ab bh)).mono (λe w' F=>HK.from F (Ae (A2 _ _) q) (λ_ _ _=>rfl)));have bb:=Ab a3;clear h a4 a8 a3;by_cases aj:k=16
 . subst aj;by_cases a9:M=0;. subst a9;have O:vz (v= {u with e:=8}):=Ab (by have:=Aa G;unfold ukind at this;rw[A1 rfl,A1 aa]at this;have aw:=(VM (VM this).2).2;rw[<-aw];unfold An;rw[A1 (Aa bb)]);clear U aa ar al;go_enter func282,ntmps282;go_wp2_with fail;refine(Ci 8 _).mono ?_;rintro e b9 ⟨rfl,rfl⟩;go_wp2;exact⟨rfl,.inr ⟨by rw[Aa O];exact(by decide:(8:Int)≠0),by rw[Aa O],Bl.refl _ _ _⟩⟩
   . obtain⟨r,y,E⟩:∃r y,uget (rowB bs n) 2 u=(r,y):=⟨_,_,rfl⟩;obtain⟨q,a6⟩:=exq (M-1);have O:vz (x=l.getD q 0/\t=3+r/\v=y):=Ab (by have:=Aa G;unfold ukind at this;rw[A1 rfl,A0 om,E,aa,a6]at this;exact⟨(VM this).1.symm,(VM (VM this).2).1.symm,(VM (VM this).2).2.symm⟩);have ac:=Ab (λq=>Aa U q 2 3 r y od od E);(obtain⟨g,o,rfl,bk,ba⟩:∃g o,ap=vp ⟨g,o,vn⟩/\g<w.heap.size/\Row vh w g o l:=by rcases ar with Z|Z;rw[Z]at aa;simp at aa;omega;exact Z);have bn:No g:=al g o rfl (λe=>by rw[e]at aa;simp at aa;omega);have av:w.cell? ⟨g,o+q,vn⟩=vp (so vh (l.getD q 0)):=ba q om;obtain⟨z,a7⟩:=exq (l.getD q 0);rw[a7]at av O;have b0:((M:Int)==0)=false:=sV;have b8:vh.wrap ((M:Int)-1)=(M:Int)-1:=sU;have bu:(1:Int)<=M:=om;have b5:(M:Int)-1<(M:Int):=om;have b7:((M:Int)-1).toNat=q:=om;clear E U ba ar al a7 aa G a6 a9;by_cases Z:y.e=0
     . have bg:vz (∀af,vu v8 266 #[vc (vp ⟨b,0,vn⟩),so vh 3,so vh 2] (w.drewN af) λe w'=>e=vm (so vh (3+r:Nat))/\w'.cell? ⟨g,o+q,vn⟩=vp (so vh z)/\vz (DR No B w b (va a n ah) ag ak y w')):=Ab (λaf=>(ac af).mono (λe w' F=>by
        rcases F with ⟨_,az,e2⟩|⟨e0,_⟩
        . exact⟨az,(FA (w:=w) (a:=⟨g,_,vn⟩) (e2.kp g bk bn)).trans av,e2⟩
        . exact absurd Z e0))
       clear ac;go_enter func282,ntmps282;go_wp2;go_region_with (go_at_call 266;refine(bg _).mono ?_;rintro e au ⟨rfl,bz,bd⟩);(all_goals try go_wp2);(all_goals refine E1 (v:=vd #[so vh z,so vh (3+r:Nat)]) ?_ rfl (.inl ⟨by rw[(Aa O).2.2];exact Z,by rw[(Aa O).1,(Aa O).2.1],by rw[(Aa O).2.2];exact Aa bd⟩));all_goals first|rfl|kernel_rfl
     . have bm:vz (∀af,vu v8 266 #[vc (vp ⟨b,0,vn⟩),so vh 3,so vh 2] (w.drewN af) λe w'=>e=HR y.e/\Bl No B w w'):=Ab (λaf=>(ac af).mono (λe w' F=>by
        rcases F with ⟨e0,_⟩|⟨_,az,e2⟩
        . exact absurd e0 Z
        . exact⟨az,e2⟩))
       clear ac;go_enter func282,ntmps282;go_wp2;refine wp_region_held_drew (S:=λw'=>w'.cell? ⟨g,o+q,vn⟩=vp (so vh z)) oR av (λae=> ?_);refine B0 0 ae ?_;refine B0 1 ae ?_;refine B0 2 ae ?_;refine B0 3 ae ?_;refine B0 4 ae ?_;refine wpAnyH_take (i:=5) (v:=so vh z) rfl oR oR oR (λ_ _ _ h=>h) (Or.inl ⟨by rfl,λW bi=>by have b4:W.cell? ⟨g,o+q,vn⟩=vp (so vh z):=bi;go_simp⟩) ae ?_;refine B0 6 ae ?_;refine C1 7 λK hK=> ?_;go_simp;refine(bm _).mono ?_;rintro e au ⟨rfl,I⟩;exact And.intro rfl (Or.inr ⟨by rw[(Aa O).2.2];exact Z,by rw[(Aa O).2.2],I⟩)
 . have a5:((k:Int)==16)=false:=sV;clear ar al;by_cases ao:k=17;(. subst ao;obtain⟨r,y,E⟩:∃r y,uget (rowB bs n) 3 u=(r,y):=⟨_,_,rfl⟩;have O:vz (x=0/\t=3+r/\v=y):=Ab (by have:=Aa G;unfold ukind at this;rw[A0 od,A1 rfl,E]at this;exact⟨(VM this).1.symm,(VM (VM this).2).1.symm,(VM (VM this).2).2.symm⟩);have ac:=Ab (U 0 3 3 r y od od E);clear E U G a5 aj;go_enter func282,ntmps282;go_wp2_with fail;refine ac.mono ?_;rintro e au F;(rcases F with ⟨e0,rfl,ai⟩|⟨e0,rfl,I⟩);(. have ay:=Ab ai;clear ai;go_wp2;refine E1 (v:=vd #[so vh 0,so vh (3+r:Nat)]) ?_ rfl (.inl ⟨by rw[(Aa O).2.2];exact e0,by rw[(Aa O).1,(Aa O).2.1],by rw[(Aa O).2.2];exact Aa ay⟩);exact yF);. go_wp2;exact jI);. have bc:((k:Int)==17)=false:=sV;by_cases ax:k=18;(. subst ax;obtain⟨r,y,E⟩:∃r y,uget (rowB bs n) 7 u=(r,y):=⟨_,_,rfl⟩;have O:vz (x=0/\t=11+r/\v=y):=Ab (by have:=Aa G;unfold ukind at this;rw[A0 od,A0 od,A1 rfl,E]at this;exact⟨(VM this).1.symm,(VM (VM this).2).1.symm,(VM (VM this).2).2.symm⟩);have ac:=Ab (U 0 7 11 r y od od E);clear E U G a5 aj bc ao;go_enter func282,ntmps282;go_wp2_with fail;refine ac.mono ?_;rintro e au F;(rcases F with ⟨e0,rfl,ai⟩|⟨e0,rfl,I⟩);(. have ay:=Ab ai;clear ai;go_wp2;refine E1 (v:=vd #[so vh 0,so vh (11+r:Nat)]) ?_ rfl (.inl ⟨by rw[(Aa O).2.2];exact e0,by rw[(Aa O).1,(Aa O).2.1],by rw[(Aa O).2.2];exact Aa ay⟩);exact yF);. go_wp2;exact jI);. have bo:((k:Int)==18)=false:=sV;have O:vz (x=(k:Int)/\t=1/\v=u):=Ab (by have:=Aa G;unfold ukind at this;rw[A0 aj,A0 ao,A0 ax]at this;exact⟨(VM this).1.symm,(VM (VM this).2).1.symm,(VM (VM this).2).2.symm⟩);clear G aj ao ax U;go_enter func282,ntmps282;go_wp2;refine E1 (v:=vd #[so vh k,so vh 1]) ?_ rfl (.inl ⟨by rw[(Aa O).2.2];exact Aa bb,by rw[(Aa O).1,(Aa O).2.1];rfl,by rw[(Aa O).2.2];exact DR.refl H⟩);exact yF
theorem FC(l:List Int)(F:l.length<=288)(h:∀x∈l,0<=x/\x<=15):errL l=0\/errL l=8:=by unfold errL;rw[A0 om,A0];(. split;exact .inr rfl;exact .inl rfl);rintro ⟨j,E,hb⟩;have hm:=h (l.getD j 0) (by rw[List.getD,VP E];exact WO E);have:=Im hb;omega
theorem QU(rowx:List Bool)(l:List Int)(k:Nat)(u:US)(H:k<19)(G:∀x∈l,0<=x/\x<=15)(E:(ukind rowx l k u).2.2.e=0):0<=(ukind rowx l k u).1/\(ukind rowx l k u).1<=15:=by unfold ukind at E ⊢;by_cases c:k=16;rw[A1 c]at E ⊢;by_cases d:l.length=0;rw[A1 d]at E;exact absurd E (Bi od);rw[A0 d];have F:l.length-1<l.length:=om;exact G _ (by rw[List.getD,VP F];exact WO F);. rw[A0 c];split;exact⟨oS,oS⟩;. split;exact⟨oS,oS⟩;simp only;omega
theorem Xn{S:List Int}(H:S.length=19):∀(F:Nat) (l:List Int) (u:US),(∀x∈l,0<=x/\x<=15)->(ulens rowx S tot F l u).2.e=0->∀x∈(ulens rowx S tot F l u).1,0<=x/\x<=15
 |0,l,u,hl,h=>hl
 |F+1,l,u,hl,h=>by by_cases hc:l.length<tot/\u.e=0;obtain⟨r,e⟩:=Lr hc.1 hc.2 h;rw[e]at h ⊢;refine Xn H F _ _ ?_ h;rw[r.st];have O:=(Ct (k:=(uplace S rowx u).1) (v:=(uplace S rowx u).2) rfl r.pe).2.2.2.2.2;have G:=QU rowx l (uplace S rowx u).1 (uplace S rowx u).2 om hl r.ke;intro x I;rcases WG.1 I with E|E;exact hl x E;rw[List.eq_of_mem_replicate E];exact G;rw[ulens,A0 hc];exact hl
theorem Sm:∀(ks:List Nat) (s:List Int) (u:US),(∀x∈s,0<=x/\x<=7)->∀x∈(usmall rowx ks s u).1,0<=x/\x<=7
 | [],s,u,h=>h
 |k::r,s,u,h=>by rw[usmall];refine Sm r _ _ ?_;intro x F;have hl:=T4 rowx 3 u;rcases List.mem_or_eq_of_mem_set F with E|E;exact h x E;subst E;omega
theorem Rk.aside{B:Nat}(h:Rk No B w b R E I u O)(G:O.grownBy ao r)(F:∀g,r=vp g->w.heap.size<=g)(ah:∀g,w.heap.size<=g->¬No g)(ai:b<w.heap.size):Rk No B w b R E I u ao:=by
 have aj:=h.bl.below.size;obtain⟨ov,kv,d1,H,U,ae,Z,ac⟩:=h.is.ex
 have aa:∀ {e size n:Nat} {z:vt} {xs:List vt},O.ownsRow (b+1) e size z n xs->(∀g,z.ownBlock=vp g->¬NJ No w.heap.size g)->∀g,z.ownBlock=vp g->ao.heap[g]? =O.heap[g]? :=λ{e size n z xs} ho hz g hg2=>
  G.block g (ho.lt g hg2).2 (λe=>hz g hg2 (.inr (F g e.symm)))
 refine⟨⟨h.is.base,h.is.no,ov,kv,(G.block b h.is.lt (λe=> ?_)).trans d1,Bv H (aa H Z),Bv U (aa U ac),ae,Z,ac⟩,h.bl.trans ⟨(A2 B O).grown G (WJ h.is.base (UG h.is.lt)) (λg e=>by have:=F g e;have:=h.is.base;omega),λg ag af=>G.block g ag (λe=>ah g (F g e.symm) af)⟩⟩;have:=F b e.symm;omega
theorem Rk.step{B:Nat}{g1 g2:vt}{v:US}(h:Rk No B w b R E I u O)(k:Rk (NK No w.heap.size O.heap.size) B O b R g1 g2 v ao):Rk No B w b R g1 g2 v ao:=by have G:=h.bl.below.size;refine⟨k.is.weak (λg F=> ?_),h.bl.trans (k.bl.weaken (λ_ h=>.inl h))⟩;rcases F with e|e;exact .inl (.inl e);by_cases c:g<O.heap.size;exact .inl (.inr ⟨e,c⟩);exact .inr om
theorem Rk.inner{B:Nat}(h:Rk No B w b R E I u O):IIs (NK No w.heap.size O.heap.size) B O b R E I u:=h.is.weak (λg F=>by
 rcases F with e|e
 . exact .inl e
 . exact .inr e.1)
theorem Rk.sym{B:Nat}{v:US}(h:Rk No B w b R E I u O)(k:DR (NK No w.heap.size O.heap.size) B O b R E I v ao)(hK:Oy b O ao):Rk No B w b R E I v ao:=⟨h.is.back k.is hK,h.bl.trans (k.bl.weaken (λ_ h=>.inl h))⟩
def Ze6:vt->Nat
 | .slice _ n _=>n
 |_=>0
theorem Z4r{B:Nat}{xs:List vt}(h:w.ownsRow B e ac (va (vp ⟨g,0,vn⟩) n c) n xs):n<=c:=by(rcases h.2 with ⟨E,_⟩|⟨I,cap,cur,E,G,H,F⟩);(. cases E);. cases E;exact F.1
theorem Zeq{B:Nat}(h:w.ownsRow B 3 1 v n (iv xs)):∃a c,v=va a n c/\xs.length=n/\AL vh w a xs/\∀g o,a=vp ⟨g,o,vn⟩->xs≠ []->B<=g:=by have hn:=dH;(rcases h.2 with ⟨F,E⟩|⟨g,cap,cur,F,E,H⟩);subst E;exact⟨vn,0,F,hn,.inl (WK hn),λg o e=>by cases e⟩;subst F;refine⟨_,_,rfl,hn,.inr ⟨g,0,rfl,(h.lt g rfl).2,λj G=> ?_⟩,λI o e _=>by cases e;exact E⟩;rw[VY,h.cellAt j om];simp[iv,List.getD,G]
theorem EG{B:Nat}(h:IIs No B w b (va a n ac) E I u)(bv:Rd w No a n bs)(cv:u.p<=8*n)(ck:u.e=0)(bq:∀g,w.heap.size<=g->¬No g){S:List Int}(a4:H3 w G aa ai ak b S)(b4:Good S)(aj:No G/\No aa/\No ai)(e4:S.length=19)(tot:Nat)(em:tot<=400)(ar:List Int)(v:US)(ee:vz (ulens (rowB bs n) S tot tot [] u=(ar,v))):vu v8 271 #[vc (vp ⟨b,0,vn⟩),DV G aa,so vh tot] w λe w'=>(v.e≠0/\e=HR v.e/\Bl No B w w')\/ (v.e=0/\Rk No B w b (va a n ac) E I v w'/\∃cw,e=vm cw/\w'.ownsRow w.heap.size 3 1 cw ar.length (iv ar)/\ar.length=tot):=by
 have cd:=Af bs n;have ds:=h.lt;obtain⟨dm,d6,de,eb,dv⟩:=EM Ce;obtain⟨dz,d7,d8⟩:=Bq (Rk.refl h) (And.intro ck cv) bq;have bw:vz (∀wr,Bl No B w wr->Rd wr (NJ No w.heap.size) a n bs/\Rd wr (NK No w.heap.size wr.heap.size) a n bs):=Ab (λwr hb=>⟨(bv.keep hb.below.size hb.kp).wide (λ_ h=>.inl h),(bv.keep hb.below.size hb.kp).wide (λ_ h=>.inl h)⟩)
 have ej:vz (∀wr x k y,Rk No B w b (va a n ac) E I x wr->x.p<=8*n->x.e=0->uplace S (rowB bs n) x=(k,y)->vu v8 281 #[vc (vp ⟨G,0,vn⟩),vc (vp ⟨aa,0,vn⟩)] wr λe w'=>L3 (NK No w.heap.size wr.heap.size) B wr b (va a n ac) E I (so vh k) y e w'):=Ab (λwr x k y af ag ao bb=>by
  have l1:=a4.lt
  have l2:=a4.is.lt
  have dn:=af.bl.below.size
  exact GV (NK No w.heap.size wr.heap.size) B b a n ac bs E I x wr af.inner (bw wr af.bl).2 ag ao G aa ai ak S (a4.keep dn (af.bl.kp G l1.1 aj.1) (af.bl.kp aa l1.2 aj.2.1) (af.bl.kp ai l2 aj.2.2)) b4 ⟨.inl aj.1,.inl aj.2.1,.inl aj.2.2⟩ (λg ae e=>by
   rcases e with e|e
   . exact bq g om e
   . omega) k y (Ab bb))
 have c5:vz (∀wr x (a3:Option vw) (M bm:Nat) (l:List Int) k H t y,Rk No B w b (va a n ac) E I x wr->x.p<=8*n->x.e=0->l.length=M->M<=1000->AL vh wr a3 l->(∀g o,a3=vp ⟨g,o,vn⟩->l≠ []->w.heap.size<=g)->k<19->ukind (rowB bs n) l k x=(H,t,y)->vu v8 282 #[vc (vp ⟨b,0,vn⟩),so vh k,va a3 M bm] wr λe w'=>HK (NJ No w.heap.size) B wr b (va a n ac) E I (vd #[so vh H,so vh t]) y e w'):=Ab (λwr x a3 M bm l k H t y af ag ao bb du dj eh d9 a7=>
  Z8n (NJ No w.heap.size) B b a n ac bs E I x wr af.is (bw wr af.bl).1 ag ao a3 M bm l bb du dj (λg o Z e2=>.inr (eh g o Z e2)) k d9 H t y (Ab a7))
 clear h bv cv ck bq a4 b4 aj;go_enter func271,ntmps271;go_wp2;go_loopw [7] (λaw wr=>∃(l:List Int) (F:Nat) (x:US),vz (ulens (rowB bs n) S tot F l x=(ar,v))/\vz (tot<=l.length+F)/\vz (l.length<=tot)/\vz (x.e=0/\x.p<=8*n)/\vz (Rk No B w b (va a n ac) E I x wr)/\vz (wr.ownsRow w.heap.size 3 1 aw l.length (iv l))) (λaw _=>1000-Ze6 aw);exact⟨[],tot,u,ee,Ab oS,Ab oS,d7,dz,Ab (HM _ _ _ _)⟩;obtain⟨l,F,x,a6,bh,bi,dc,hK,ah⟩:=hrel;obtain⟨bz,cq,rfl,bn,df,db⟩:=Zeq ah;obtain⟨M,av⟩:=exq (l.length);have az:=Ab av;rw[av]at bh bi ah ⊢;have ek:=Aa bh;have eo:=Aa bi;obtain⟨bc,c7⟩:=Aa dc;clear bh bi bn;by_cases b7:M<tot
 . cases F with
   |zero=>exact absurd ek om
   |succ F=>
    have al:=Aa a6;rw[ulens,A1 ⟨by rw[av];exact b7,bc⟩]at al;obtain⟨k,U,ag⟩:∃k U,uplace S (rowB bs n) x=(k,U):=⟨_,_,rfl⟩;unfold ustep at al;rw[ag]at al;obtain⟨H,t,v2,ao⟩:∃H t v2,ukind (rowB bs n) l k U=(H,t,v2):=⟨_,_,_,rfl⟩;simp only at al;rw[ao]at al;have au:=Ab al;have b0:=Ab (ej wr x k U hK c7 bc ag);(have dq:U.p<=8*n:=by have:=Ju S (rowB bs n) x om;rw[ag,cd]at this;exact this);have c6:=Ab ag;have ay:=Ab ao;have ed:(M:Int)<tot:=om;clear al ag ao a6 av;go_wp2_with fail;refine b0.mono ?_;rintro e cn ae;(rcases ae with ⟨Z,rfl,bg,ce⟩|⟨Z,rfl,cp⟩);rotate_left;have O:vz (v=U):=Ab (by (have e2:v2=U:=by have:=QW (rowB bs n) l k U Z;rw[Aa ay]at this;exact this);have e3:=N3 tot l (H,t,v2) (by rw[show (H,t,v2).2.2=v2 from rfl,e2];exact Z);have:=Aa au;rw[Kv (by rw[e3,show (H,t,v2).2.2=v2 from rfl,e2];exact Z)]at this;rw[<-(VM this).2,e3];exact e2);have ap:=Ab (hK.bl.trans (cp.weaken (λ_ h=>.inl h)));exact jC;(have da:k<19:=by have:=(Ct c6 Z).2.2.2.2.2;omega);have a5:=Ab (hK.sym bg ce);have ax:vz (cn.ownsRow w.heap.size 3 1 (va bz M cq) M (iv l)):=Ab (Bv ah (λg ae=>bg.kp g (ah.lt g ae).2 (.inr ⟨(ah.lt g ae).1,(ah.lt g ae).2⟩)));obtain⟨bd,bu,cu,bn,co,b5⟩:=Zeq ax;(obtain⟨rfl,rfl⟩:bd=bz/\bu=cq:=by cases cu;exact⟨rfl,rfl⟩);have b9:=Ab (c5 cn U bd M bu l k H t v2 a5 dq Z bn om co b5 da ay);have a9:=N5 (rowB bs n) l k U;rw[Aa ay]at a9;have ey:1<=t:=a9.1;have e0:t<=138:=a9.2;(have cg:v2.e=0->v2.p<=8*n:=λe=>by have:=(QV (row:=rowB bs n) (l:=l) (k:=k) (u:=U) (by rw[Aa ay];exact e) om).2.1;rw[Aa ay,cd]at this;exact this);have dw:=Ab cg;clear bg ce df db co b5 a9 cg cu ah hK b0;go_wp2_with fail;refine b9.mono ?_;rintro e cz ae;(rcases ae with ⟨e2,rfl,bk⟩|⟨e2,rfl,g8⟩);rotate_left;have O:vz (v=v2):=Ab (by have e3:=N3 tot l (H,t,v2) e2;have:=Aa au;rw[Kv (by rw[e3];exact e2)]at this;rw[<-(VM this).2,e3]);have ap:=Ab (a5.bl.trans (g8.weaken (λ_ h=>.inl h)));exact jD;have ci:=Ab (a5.num bk);have dl:vz (cz.ownsRow w.heap.size 3 1 (va bd M bu) M (iv l)):=Ab (Bv ax (λg ae=>bk.kp g (ax.lt g ae).2 (.inr (ax.lt g ae).1)));clear bk ax a5 b9;by_cases cj:tot<M+t;. have O:vz (v.e=8):=Ab (by have:=Aa au;unfold Wb at this;rw[A1 ⟨e2,by rw[Aa az];exact cj⟩]at this;(have a7:(An 8 v2).e=8:=by unfold An;rw[A1 e2]);rw[Kv (by show (An 8 v2).e≠0;rw[a7];decide)]at this;rw[<-(VM this).2];exact a7);have dr:(tot:Int)<M+(t:Int):=om;have dt:=Ab (Ci 8 cz);clear au;go_wp2_with fail;refine dt.mono ?_;rintro e w3 ⟨rfl,rfl⟩;go_wp2;exact⟨rfl,.inl ⟨by rw[Aa O];decide,by rw[Aa O],ci.bl⟩⟩
    . have dr:¬(tot:Int)<M+(t:Int):=om;have di:vz (ulens (rowB bs n) S tot F (l++List.replicate t H) v2=(ar,v)):=Ab (by have:=Aa au;unfold Wb at this;rw[A0 (λc=>cj (by rw[<-Aa az];exact c.2))]at this;exact this);clear au;generalize wr=eu at*;go_wp2;go_loopw [7,30] (λaw bf wr=>∃j:Nat,j<=t/\bf=so vh j/\vz (Rk No B w b (va a n ac) E I v2 wr)/\vz (wr.ownsRow w.heap.size 3 1 aw (M+j) (iv (l++List.replicate j H)))) (λ_ bf _=>t-(vy bf).toNat);exact⟨0,VF _,rfl,ci,Ab (by rw[ZS,XB];exact Aa dl)⟩;obtain⟨j,et,rfl,bj,a8⟩:=hrel;obtain⟨c8,d5,rfl⟩:=Am a8;by_cases e1:j<t
      . have ep:(j:Int)<t:=om;have e5:=bj.bl.below.size;go_wp2_with (at_builtin;refine HG _ rfl _ _ 76 rfl w.heap.size 3 dm (so vh 0) 1 8 underlying76 d6 de eb dv rfl od _ (M+j) (iv (l++List.replicate j H)) rfl (a8.alloc _) ⟨wr.heap.size,0,vn⟩ 1 1 [so vh H] rfl rfl (RR _ _ _) (Df rfl) ou om oO ?_);intro v' ct ba cy _ dh;have dy:vz (Rk No B w b (va a n ac) E I v2 ct):=Ab ((bj.past ((A2 _ _).alloc (VA _) _)).aside cy (λg e=>(a8.lt g e).1) (Aa d8) ds)
        have c9:vz (ct.ownsRow w.heap.size 3 1 v' (M+(j+1)) (iv (l++List.replicate (j+1) H))):=Ab (by
         have Z:iv (l++List.replicate (j+1) H)=List.map (Value.int vh) l++(List.replicate j (so vh H)++ [so vh H]):=by
          rw[ZK]
          simp[iv]
         rw[Z]
         exact ba)
        obtain⟨ew,en,rfl⟩:=Am ba;clear ba cy dh;go_wp2;go_roundw;exact⟨j+1,om,by go_num,dy,c9⟩;simp[vy];omega
      . obtain rfl:j=t:=om;(have bo:(l++List.replicate j H).length=M+j:=by rw[VB,XJ,Aa az]);have eg:vz (wr.ownsRow w.heap.size 3 1 (va c8 (M+j) d5) (l++List.replicate j H).length (iv (l++List.replicate j H))):=Ab (by rw[bo];exact Aa a8);have b8:=Ab bo;clear bo;go_wp2;go_roundw;exact⟨l++List.replicate j H,F,v2,di,Ab (by rw[Aa b8];omega),Ab (by rw[Aa b8];omega),Ab ⟨e2,Aa dw e2⟩,bj,eg⟩;show 1000-(M+j)<1000-M;omega
 . have O:vz (ar=l/\v=x):=Ab (by
    have:=Aa a6
    cases F with
    |zero=>exact⟨(VM this).1.symm,(VM this).2.symm⟩
    |succ F=>
     rw[ulens,A0 (λc=>b7 (by rw[<-av];exact c.1))]at this
     exact⟨(VM this).1.symm,(VM this).2.symm⟩)
   have ed:¬(M:Int)<tot:=om;have cm:M=tot:=om;have ei:=Ab cm;clear a6 av cm;go_wp2;go_ret;refine .inr ⟨by rw[(Aa O).2];exact bc,by rw[(Aa O).2];exact Aa hK,_,rfl,?_,?_⟩;rw[(Aa O).1,Aa az];exact Aa ah;rw[(Aa O).1,Aa az];exact Aa ei
end Go.Proofs.YtleocpdblhbimaaGreatDoor
