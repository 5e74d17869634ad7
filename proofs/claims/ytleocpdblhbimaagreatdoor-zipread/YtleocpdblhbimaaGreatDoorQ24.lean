import Derived.Test.YtleocpdblhbimaaGreatDoorQ23
import Derived.Deep.DeepCutAuto
set_option linter.unusedSimpArgs false
set_option maxHeartbeats 4000000
namespace Go.Proofs.YtleocpdblhbimaaGreatDoor
open Go.RowKit
set_option linter.unusedVariables false
set_option maxRecDepth 100000
theorem Xn (l:List Int)(k:Nat)(F:k<l.length):(l.take k++List.replicate (l.length-k) 0).set k (l.getD k 0)=l.take (k+1)++List.replicate (l.length-(k+1)) 0:=by
 have G:(l.take k).length=k:=by simp;omega
 rw[List.set_append_right _ _ (by omega),G,XW];obtain⟨q,E⟩:∃q,l.length-k=q+1:=⟨l.length-k-1,by omega⟩
 have e:l.take (k+1)=l.take k++ [l.getD k 0]:=by rw[XM];simp[List.getD,F]
 rw[E,List.replicate_succ,VC,e,show l.length-(k+1)=q by omega];simp
theorem Z54:(List.range 288).all (fun k=>Ky.getD k 0==(if k<144 then 8 else if k<256 then 9 else if k<280 then 7 else 8))=true:=by decide+kernel
theorem PP {k:Nat}(E:k<288):Ky.getD k 0=if k<144 then 8 else if k<256 then 9 else if k<280 then 7 else 8:=by
 have:=WX.1 Z54 k (by simpa using E)
 simpa using this
theorem Z53:(List.range 32).all (fun k=>Ir.getD k 0==5)=true:=by decide+kernel
theorem Z0 {k:Nat}(E:k<32):Ir.getD k 0=5:=by
 have:=WX.1 Z53 k (by simpa using E)
 simpa using this
theorem Mk:Good Ky:=Ch (by decide+kernel)
theorem Mi:Good Ir:=Ch (by decide+kernel)
theorem Mj:Ky.length=288:=by decide+kernel
theorem Fk:Ir.length=32:=by decide
theorem Ya:(Tryz.prog.info? 247).map (·.size)=some 288:=by kernel_rfl
theorem CP:(Tryz.prog.info? 248).map (·.size)=some 32:=by kernel_rfl
theorem K7 (w:World):Calls Tryz.prog 180 #[] w fun e w'=>e=.returned (.tuple #[.agg (iv Ky).toArray,.agg (iv Ir).toArray])/\Below w.heap.size w w':=by
 have ak:Below w.heap.size w ((w.alloc (.cells (iv (List.replicate 288 0)).toArray 247)).alloc (.cells (iv (List.replicate 32 0)).toArray 248)):=((Below.refl w.heap.size w).alloc (VB _) _).alloc (by simp) _;have a8:=Ab ak;obtain⟨E,ab⟩:=exq (Ky);have aa:=Mj;have ac:= @PP;rw[ab]at aa;simp only[ab]at ac;have a4:=Ab ab;clear ak ab;go_enter Tryz.func180,Tryz.ntmps180
 go_wp2;go_loopw [4] (fun i wr=>∃k:Nat,k<=288/\i=.int .i64 (k:Int)/\Hid (ARow 247 wr w.heap.size (E.take k++List.replicate (E.length-k) 0)/\ARow 248 wr (w.heap.size+1) (List.replicate 32 0)/\Below w.heap.size w wr)) (fun i _=>288-(intOf i).toNat)
 case atStart=>
  refine⟨0,by decide,rfl,Ab ⟨?_, ?_,Aa a8⟩⟩
  . rw[aa];exact(Below.heap_alloc _ _ _ (by simp)).trans ((heap_alloc_new _ _).trans (by kernel_rfl))
  . have e:w.heap.size+1=(w.alloc (.cells (iv (List.replicate 288 0)).toArray 247)).heap.size:=by simp
    rw[e];exact(heap_alloc_new _ _).trans (by kernel_rfl)
 case round=>
  obtain⟨k,az,rfl,G⟩:=hrel
  by_cases Z:k<288
  . obtain⟨O,M,T⟩:=Aa G;have ae:(E.take k++List.replicate (E.length-k) 0).length=288:=by simp;omega
    have c:=O.cell k (by omega);have f:=O.frozen k;have F:=ac Z
    have I:Hid (∀v:Int,v=E.getD k 0->ARow 247 (wr.setCell ⟨w.heap.size,k,none⟩ (.int .i64 v)) w.heap.size (E.take (k+1)++List.replicate (E.length-(k+1)) 0)/\ARow 248 (wr.setCell ⟨w.heap.size,k,none⟩ (.int .i64 v)) (w.heap.size+1) (List.replicate 32 0)/\Below w.heap.size w (wr.setCell ⟨w.heap.size,k,none⟩ (.int .i64 v))):=by
     intro v au;have U:=Ad wr w.heap.size k (.int .i64 v);refine⟨?_,M.keep (U.block _ M.lt (fun e=>by have:=VM e;omega)),T.grown U T.size (fun j e=>by rw[<-VM e];exact VB _)⟩;have:=O.set k v
     rw[au,Xn E k (by omega)]at this;rw[au];exact this
    have a7:(k:Int)<288:=by omega
    clear G O M T ae ac;generalize (E.take k++List.replicate (E.length-k) 0).getD k 0=old at c
    by_cases al:k<144
    . rw[if_pos al]at F;have a0:(k:Int)<144:=by omega
      have H:=Ab (Aa I 8 F.symm);clear I F;go_wp2;go_roundw
      case rel=>exact⟨k+1,by omega,by go_num,H⟩
      case measure=>simp[intOf];omega
    . rw[if_neg al]at F;have a0:¬(k:Int)<144:=by omega
      by_cases an:k<256
      . rw[if_pos an]at F;have ay:(k:Int)<256:=by omega
        have H:=Ab (Aa I 9 F.symm);clear I F;go_wp2;go_roundw
        case rel=>exact⟨k+1,by omega,by go_num,H⟩
        case measure=>simp[intOf];omega
      . rw[if_neg an]at F;have ay:¬(k:Int)<256:=by omega
        by_cases as:k<280
        . rw[if_pos as]at F;have ax:(k:Int)<280:=by omega
          have H:=Ab (Aa I 7 F.symm);clear I F;go_wp2;go_roundw
          case rel=>exact⟨k+1,by omega,by go_num,H⟩
          case measure=>simp[intOf];omega
        . rw[if_neg as]at F;have ax:¬(k:Int)<280:=by omega
          have H:=Ab (Aa I 8 F.symm);clear I F;go_wp2;go_roundw
          case rel=>exact⟨k+1,by omega,by go_num,H⟩
          case measure=>simp[intOf];omega
  . obtain rfl:k=288:=by omega
    have aq:Hid (ARow 247 wr w.heap.size E/\ARow 248 wr (w.heap.size+1) (List.replicate 32 0)/\Below w.heap.size w wr):=by
     have:=Aa G
     rw[VV (by omega),aa,XW,ZI,XA]at this;exact Ab this
    clear G ac;generalize wr=a9 at*;go_wp2;go_loopw [25] (fun i wr=>∃k:Nat,k<=32/\i=.int .i64 (k:Int)/\Hid (ARow 247 wr w.heap.size E/\ARow 248 wr (w.heap.size+1) (Ir.take k++List.replicate (Ir.length-k) 0)/\Below w.heap.size w wr)) (fun i _=>32-(intOf i).toNat)
    case atStart=>exact⟨0,by decide,rfl,aq⟩
    case round=>
     obtain⟨k,az,rfl,G⟩:=hrel
     by_cases Z:k<32
     . obtain⟨O,M,T⟩:=Aa G;have ae:(Ir.take k++List.replicate (Ir.length-k) 0).length=32:=by simp[Fk];omega
       have c:=M.cell k (by omega);have f:=M.frozen k
       have H:Hid (ARow 247 (wr.setCell ⟨w.heap.size+1,k,none⟩ (.int .i64 5)) w.heap.size E/\ARow 248 (wr.setCell ⟨w.heap.size+1,k,none⟩ (.int .i64 5)) (w.heap.size+1) (Ir.take (k+1)++List.replicate (Ir.length-(k+1)) 0)/\Below w.heap.size w (wr.setCell ⟨w.heap.size+1,k,none⟩ (.int .i64 5))):=by
        have U:=Ad wr (w.heap.size+1) k (.int .i64 5);refine⟨O.keep (U.block _ O.lt (fun e=>by have:=VM e;omega)), ?_,T.grown U T.size (fun j e=>by rw[<-VM e];omega)⟩;have:=M.set k 5
        rw[<-Z0 Z,Xn Ir k (by rw[Fk];exact Z)]at this;rw[<-Z0 Z];exact this
       have a7:(k:Int)<32:=by omega
       clear G O M T ae;generalize (Ir.take k++List.replicate (Ir.length-k) 0).getD k 0=old at c;go_wp2;go_roundw
       case rel=>exact⟨k+1,by omega,by go_num,H⟩
       case measure=>simp[intOf];omega
     . obtain rfl:k=32:=by omega
       have ag:=Aa G;rw[VV (by rw[Fk];omega),Fk,XW]at ag;simp only[ZI,XA]at ag;obtain⟨a1,aw,ap⟩:=ag;have a2:=Ab ap;clear G aq ap;have ai:=Fk;obtain⟨ys,af⟩:=exq (Ir);rw[af]at aw ai;have a6:=Ab af;clear af;have a5:(Tryz.prog.info? 247).map (·.size)=some (iv E).length:=by rw[Ya];simp[aa]
       have a3:(Tryz.prog.info? 248).map (·.size)=some (iv ys).length:=by rw[CP];simp[ai]
       have am:(Tryz.prog.info? 247).map (·.size)=some (iv E).toArray.size:=by rw[Ya];simp[aa]
       have ao:(Tryz.prog.info? 248).map (·.size)=some (iv ys).toArray.size:=by rw[CP];simp[ai]
       have aj:=Tryz.underlying247;have av:=Tryz.underlying248;go_wp2;refine wp_region_held_drew (S:=fun w'=>ARow 247 w' w.heap.size E/\ARow 248 w' (w.heap.size+1) ys) (by kernel_rfl) ⟨a1,aw⟩ (fun Y=> ?_);refine wpAnyH_take (i:=0) (oi:= {dst:=some 31,op:=.load 247 (.tmp 0),type:=247,pos:= "layout.go:54",after:= #[],guard:=none}) (v:=_) rfl (by kernel_rfl) (by kernel_rfl) (by kernel_rfl) (fun _ _ _ h=>h) (yieldsIf_load_mid (by rfl) _ _ rfl _ _ rfl _ _ (fun _ h=>h.1.range) aj rfl a5) Y ?_;simp only[Act.put,VA,VC,VD];refine wpAnyH_take (i:=1) (oi:= {dst:=some 32,op:=.load 248 (.tmp 1),type:=248,pos:= "layout.go:54",after:= #[{on:=2,ground:=.gcOnly .lateStores}],guard:=none}) (v:=_) rfl (by kernel_rfl) (by kernel_rfl) (by kernel_rfl) (fun _ _ _ h=>h) (yieldsIf_load_mid (by rfl) _ _ rfl _ _ rfl _ _ (fun _ h=>h.2.range) av rfl a3) Y ?_;simp only[Act.put,VA,VC,VD];refine rdH (i:=2) fun K hK=> ?_
       refine Ei rfl 247 (.tmp 0) (.tmp 31) rfl w.heap.size E rfl rfl Y.1 am ?_;simp only[Act.put];refine hK.out _ _ Y (fun ah=> ?_);clear hK K Y;refine rdH (i:=3) fun K hK=> ?_
       refine Ei rfl 248 (.tmp 1) (.tmp 32) rfl (w.heap.size+1) ys rfl rfl ah.2 ao ?_;simp only[Act.put];refine hK.out _ _ ah (fun ar=> ?_);clear hK K ah;refine wpAnyH_done (by kernel_rfl) ?_ _;go_wp2;refine bodyPost_ret (v:=.tuple #[.agg (iv E).toArray,.agg (iv ys).toArray]) ?_ rfl ⟨by rw[Aa a4,Aa a6],(Aa a2).drew⟩;exact Ln rfl _ _ w.heap.size (w.heap.size+1) _ _ rfl rfl (ar.1.load aj rfl am) (ar.2.load av rfl ao)
theorem Jt (w E:World)(x y:Array Value)(F G:TypeId)(H I:List Int)(M:Below w.heap.size w E)(U:(E.alloc (.cells x F)).heap.size=E.heap.size+1):
 ARow F ((((E.alloc (.cells x F)).alloc (.cells y G)).setRow E.heap.size (iv H).toArray).setRow (E.heap.size+1) (iv I).toArray) E.heap.size H/\ARow G ((((E.alloc (.cells x F)).alloc (.cells y G)).setRow E.heap.size (iv H).toArray).setRow (E.heap.size+1) (iv I).toArray) (E.heap.size+1) I/\Below w.heap.size w ((((E.alloc (.cells x F)).alloc (.cells y G)).setRow E.heap.size (iv H).toArray).setRow (E.heap.size+1) (iv I).toArray):=by
 have O:((E.alloc (.cells x F)).alloc (.cells y G)).heap[E.heap.size]? =some (.cells x F (0,0)):=(Below.heap_alloc _ _ _ (by simp)).trans (heap_alloc_new _ _);have T:((E.alloc (.cells x F)).alloc (.cells y G)).heap[E.heap.size+1]? =some (.cells y G (0,0)):=by rw[<-U];exact heap_alloc_new _ _
 refine⟨?_, ?_, ?_⟩
 . unfold ARow;rw[Go.setRow_other _ _ _ _ (by omega)];exact setRow_heap _ _ _ _ _ _ O
 . unfold ARow;exact setRow_heap _ _ y _ _ _ ((Go.setRow_other _ _ _ _ (by omega)).trans T)
 . have Y:=M.size;exact Bg (Bg ((M.alloc Y _).alloc (by simp;omega) _) (by omega) _) (by omega) _
def SE:List Int:= [16,17,18,0,8,7,9,6,10,5,11,4,12,3,13,2,14,1,15]
theorem ON:(Tryz.prog.info? 321).map (·.size)=some 19:=by kernel_rfl
theorem D5 (w:World):Calls Tryz.prog 242 #[] w fun e w'=>e=.returned (.agg (iv SE).toArray)/\Below w.heap.size w w':=by
 have H:(iv SE).toArray.size=19:=by simp[SE]
 have M:(Tryz.prog.info? 321).map (·.size)=some (iv SE).toArray.size:=by rw[ON,H]
 obtain⟨E,G⟩:=exq (SE);rw[G]at M H ⊢;have Y:=Ab G;clear G;go_enter Tryz.func242,Tryz.ntmps242
 go_upto_region 1 with (fail)
 refine wp_region_lit ?_;refine wpList_build rfl 321 _ rfl (by kernel_rfl) ?_;generalize U:(Program.built _ _ _).getD #[]=V;have Z:V=(iv E).toArray:=by rw[<-U,<-Aa Y];kernel_rfl
 clear U;subst Z;simp only[Act.put];generalize I:w.alloc _=W;have F:W.heap[w.heap.size]? =some (.cells (iv (List.replicate 19 0)).toArray 321 (0,0)):=by rw[<-I];exact(heap_alloc_new _ _).trans (by kernel_rfl)
 have T:Below w.heap.size w W:=by rw[<-I];exact(Below.refl w.heap.size w).alloc (VB _) _
 clear I;refine wpList_store_row rfl 321 (.tmp 0) (.tmp 1) rfl w.heap.size (iv E).toArray rfl rfl 321 _ F M (by rw[H];simp) (Cy E) ?_;refine wpList_nil ?_;have O:Hid (Below w.heap.size w (W.setRow w.heap.size (iv E).toArray)/\ARow 321 (W.setRow w.heap.size (iv E).toArray) w.heap.size E):=Ab ⟨Bg T (VB _) _,setRow_heap _ _ _ _ _ _ F⟩;clear F T;go_wp2;refine bodyPost_ret (v:=.agg (iv E).toArray) ?_ rfl ⟨rfl,(Aa O).1⟩;exact results_cell_row rfl _ _ _ _ _ _ _ rfl (Aa O).2 Tryz.underlying321 rfl M
end Go.Proofs.YtleocpdblhbimaaGreatDoor
namespace Go.Proofs.YtleocpdblhbimaaGreatDoor
open Go.RowKit
set_option linter.unusedVariables false
set_option maxRecDepth 100000
theorem Z7r:∀q,q<19->SE.getD q 0=((ord19.getD q 0:Nat):Int)/\ord19.getD q 0<19:=by decide
theorem Z0j (c i:Nat)(F:i<c)(E:c<=19):(ord19.take c).drop i=ord19.getD i 0::(ord19.take c).drop (i+1):=by
 have hl:ord19.length=19:=rfl;have hi:i<(ord19.take c).length:=by rw[VL,hl];omega
 rw[WS hi,YN]
 congr 1
 rw[List.getD,VP (by omega)];rfl
theorem Py (row:List Bool):∀(ks:List Nat) (s:List Int) (u:US),u.e≠0->(usmall row ks s u).2=u
 | [],s,u,h=>rfl
 |k::r,s,u,h=>by
  rw[usmall,Fj row 3 u h];exact Py row r _ u h
def Z7j (No:Nat->Prop)(B:Nat)(w:World)(b:Nat)(R f1 f2:Value)(S:List Int)(us:US)(e:Ending)(w':World):Prop:=
 (us.e≠0/\e=Flt us.e/\Bl No B w w')\/ (us.e=0/\errL S≠0/\e=Flt (errL S)/\Bl No B w w')\/ (us.e=0/\errL S=0/\Rk No B w b R f1 f2 us w'/\∃gr gm mb nn,e=.returned (DV gr gm)/\w.heap.size<=gr/\w.heap.size<=gm/\w.heap.size<=mb/\mb<w'.heap.size/\DIs w' gr gm mb nn b S)
theorem Ns (No:Nat->Prop)(B b:Nat)(a:Option Addr)(n H:Nat)(bs:List Nat)(M I:Value)(u:US)(w:World)(E:IIs No B w b (.slice a n H) M I u)(bm:Rd w No a n bs)(bh:u.p<=8*n)(bk:u.e=0)(bi:∀g,w.heap.size<=g->¬No g)(c:Nat)(cp:c<=19)(S:List Int)(Z:US)(ai:Hid (usmall (rowB bs n) (ord19.take c) (List.replicate 19 0) u=(S,Z))):
 Calls Tryz.prog 272 #[.pointer (some ⟨b,0,none⟩),.int .i64 (c:Int)] w fun e w'=>Z7j No B w b (.slice a n H) M I S Z e w':=by
 have a8:=Af bs n;have c7:=E.lt;have db:=E.base;obtain⟨N,ao⟩:=exq (w.heap.size);have bq:=Ab (Rk.refl E);have bn:=Ab bm;have cj:=Ab (And.intro bh bk);have ce:=Ab bi;obtain⟨T,ag⟩:=exq (SE);have bw:=Ab ag;have bf:=Ab (fun W=>by have:=D5 W;rw[ag]at this;exact this);have bo:T.length=19:=by rw[<-ag];rfl
 have cg:(Tryz.prog.info? 321).map (·.size)=some (iv T).toArray.size:=by rw[ON];simp[bo]
 clear E bm bh bk ag bi;go_enter Tryz.func272,Tryz.ntmps272
 go_wp2_with fail
 refine(Aa bf _).mono ?_;rintro e U ⟨rfl,ae⟩
 have bc:ARow 321 U N (List.replicate 19 0):=by
  rw[<-ao];exact(ae.block _ (by simp)).trans ((heap_alloc_new _ _).trans (by kernel_rfl))
 have a6:Below N w U:=by
  rw[<-ao];exact((Below.refl w.heap.size w).alloc (VB _) _).trans (ae.mono (by simp))
 have co:=ae.size;simp only[World.size_alloc]at co;have bu:(U.alloc (.cells (iv (List.replicate 19 0)).toArray 321)).heap[U.heap.size]? =some (.cells (iv (List.replicate 19 0)).toArray 321 (0,0)):=heap_alloc_new _ _;have a2:=Ab bu;have bd:=Ab bc;have b5:=Ab a6;clear bu ae bc a6;go_upto_region 3 with (refine wpList_store_row rfl 321 (.tmp 6) (.tmp 8) rfl U.heap.size _ rfl rfl 321 (iv (List.replicate 19 0)).toArray (Aa a2) cg (by simp[bo]) (Cy T) ?_)
 simp only[Act.put];generalize ab:World.setRow (World.alloc _ _) _ _=aa;obtain⟨go,af⟩:=exq (U.heap.size);have a9:ARow 321 aa go T:=by rw[<-ab,<-af];exact setRow_heap _ _ _ _ _ _ (Aa a2)
 have a3:Below N w aa:=by rw[<-ab];exact Bg ((Aa b5).alloc (by omega) _) (by omega) _
 have b0:ARow 321 aa N (List.replicate 19 0):=(Aa bd).keep (by rw[<-ab,Go.setRow_other _ _ _ _ (by omega)];exact Below.heap_alloc _ _ _ (by omega));have da:go<aa.heap.size:=by rw[<-ab,<-af];simp
 have bt:Rk No B w b (.slice a n H) M I u aa:=(Aa bq).past (by rw[ao];exact a3)
 try rw[af]
 try rw[ao]
 have c6:N<go:=by omega
 have cw:=Ab a9;have cu:=Ab b0;have cz:=Ab bt;have cm:Hid (∀wr,Bl No B w wr->Rd wr (NJ No w.heap.size) a n bs):=Ab (fun wr hb=>((Aa bn).keep hb.below.size hb.kp).wide (fun _ E=>.inl E));have ba:Hid (∀g,N<=g->NJ No w.heap.size g):=Ab (fun g G=>.inr (by omega));clear ab af a9 a3 b0 bt a2 bd b5 bn bq bf;go_wp2;go_loopw [10] (fun a0 wr=>∃(i:Nat) (s:List Int) (x:US),i<=c/\a0=.int .i64 (i:Int)/\s.length=19/\Hid (ARow 321 wr N s)/\Hid (ARow 321 wr go T)/\Hid (Rk No B w b (.slice a n H) M I x wr)/\Hid (x.p<=8*n/\x.e=0)/\Hid (usmall (rowB bs n) ((ord19.take c).drop i) s x=(S,Z))) (fun a0 _=>c-(intOf a0).toNat)
 case atStart=>exact⟨0,List.replicate 19 0,u,VH _,rfl,by simp,cu,cw,cz,cj,ai⟩
 case round=>
  obtain⟨i,s,x,hi,rfl,a4,ap,aw,hK,bb,av⟩:=hrel
  by_cases ck:i<c
  . obtain⟨o1,o2⟩:=Z7r i (by omega);obtain⟨k,a1⟩:=exq (ord19.getD i 0);rw[a1]at o1 o2;have O:=Aa av;rw[Z0j c i ck cp,a1,usmall]at O;obtain⟨r,v,hr⟩:∃r v,uget (rowB bs n) 3 x=(r,v):=⟨_,_,rfl⟩
    rw[hr]at O;have bv:Hid (usmall (rowB bs n) ((ord19.take c).drop (i+1)) (s.set k (r:Int)) v=(S,Z)):=Ab O;obtain⟨az,am⟩:=Aa bb;have bz:=(Aa hK).is;have a7:=Aa cm wr (Aa hK).bl;have an:=Ab (fun q=>Dx (NJ No w.heap.size) B b a n H 3 bs M I x (wr.drewN q) (bz.grown ⟨rfl,rfl,rfl,VB _,fun _ _ _=>rfl⟩) (a7.keep (VB _) (Kp.refl _ _)) az am (by decide) r v (Ab hr));have b8:v.p<=8*n:=by have:=Gr (rowB bs n) 3 x (by rw[a8];exact az);rw[hr,a8]at this;exact this
    have cq:wr.cell? ⟨go,i,none⟩=some (.int .i64 (k:Int)):=by
     have:=(Aa aw).cell i (by omega)
     rw[<-Aa bw,o1]at this;exact this
    have cn:=(Aa aw).lt;have cd:=(Aa ap).lt;have df:(i:Int)<(c:Int):=by omega
    have c8:(i:Int)<19:=by omega
    have de:(k:Int)<19:=by omega
    have cy:=Ab o1;have ci:=(Aa hK).bl.below.size;clear O hr bz a7 o1 a1
    by_cases Y:v.e=0
    . have ch:Hid (∀q,Calls Tryz.prog 230 #[.pointer (some ⟨b,0,none⟩),.int .i64 3] (wr.drewN q) fun e w'=>e=.returned (.int .i64 (r:Int))/\w'.cell? ⟨go,i,none⟩=some (.int .i64 (k:Int))/\w'.cell? ⟨N,k,none⟩=some (.int .i64 (s.getD k 0))/\w'.frozen? ⟨N,k,none⟩=false/\Hid (∀y,ARow 321 (w'.setCell ⟨N,k,none⟩ (.int .i64 y)) N (s.set k y)/\ARow 321 (w'.setCell ⟨N,k,none⟩ (.int .i64 y)) go T/\Rk No B w b (.slice a n H) M I v (w'.setCell ⟨N,k,none⟩ (.int .i64 y)))):=Ab (fun q=>(Aa an q).mono (fun e w' G=>by
       rcases G with ⟨_,aq,e2⟩|⟨e0,_⟩
       . have ar:ARow 321 w' N s:=(Aa ap).keep (e2.kp N cd (Aa ba N (VB _)));have au:ARow 321 w' go T:=(Aa aw).keep (e2.kp go cn (Aa ba go (by omega)));refine⟨aq, ?_,ar.cell k (by omega),ar.frozen k,Ab (fun y=>⟨ar.set k y,au.keep ((Ad w' N k _).block _ au.lt (fun e=>by have:=VM e;omega)), ?_⟩)⟩
         . have:=au.cell i (by omega)
           rw[<-Aa bw,Aa cy]at this;exact this
         . have k2:=((Aa hK).drewN q).num e2;have ak:=Ad w' N k (.int .i64 y);refine⟨?_,k2.bl.trans ⟨(Below.refl B w').grown ak (VU k2.is.base (YX k2.is.lt)) (fun g e=>by cases e;omega),fun g G hn=>ak.block g G (fun e=> ?_)⟩⟩
           . obtain⟨ov,kv,ax,as,ay,aj,ac,be⟩:=k2.is.ex
             have bj:∀z:Value,(∀g,z.ownBlock=some g->¬NJ No w.heap.size g)->∀g,z.ownBlock=some g->(w'.setCell ⟨N,k,none⟩ (.int .i64 y)).heap[g]? =w'.heap[g]? :=fun z b4 g G=>by
              have cl:g<w'.heap.size\/w'.heap.size<=g:=by omega
              rcases cl with a5|a5
              . exact ak.block g a5 (fun e=>b4 g G (.inr (by have:=VM e;omega)))
              . exact absurd (.inr (by have:=k2.bl.below.size;omega)) (b4 g G)
             exact⟨k2.is.base,k2.is.no,ov,kv,(ak.block b k2.is.lt (fun e=>by have:=VM e;omega)).trans ax,Au as (bj ov ac),Au ay (bj kv be),aj,ac,be⟩
           . have:=VM e
             exact Aa ce g (by omega) hn
       . exact absurd Y e0))
      clear an;go_wp2;go_region_with (go_at_call 230;refine(Aa ch _).mono ?_;rintro e al ⟨rfl,dc,c5,c9,F⟩)
      all_goals
       go_wp2;go_roundw
       case rel=>exact⟨i+1,s.set k (r:Int),v,by omega,by go_num,by rw[XS];exact a4,Ab (Aa F _).1,Ab (Aa F _).2.1,Ab (Aa F _).2.2,Ab ⟨b8,Y⟩,bv⟩
       case measure=>simp[intOf];omega
    . have F:Hid (Z=v):=Ab (by
       have:=Aa bv
       have bg:=Py (rowB bs n) ((ord19.take c).drop (i+1)) (s.set k (r:Int)) v Y;rw[this]at bg;exact bg)
      have c4:Hid (∀q,Calls Tryz.prog 230 #[.pointer (some ⟨b,0,none⟩),.int .i64 3] (wr.drewN q) fun e w'=>e=Flt v.e/\Bl No B w w'):=Ab (fun q=>(Aa an q).mono (fun e w' G=>by
       rcases G with ⟨e0,_⟩|⟨_,aq,e2⟩
       . exact absurd e0 Y
       . exact⟨aq,((Aa hK).bl.drewN q).trans (e2.weaken (fun _ E=>.inl E))⟩))
      clear an;go_wp2;refine wp_region_held_drew (S:=fun w'=>w'.cell? ⟨go,i,none⟩=some (.int .i64 (k:Int))) (by kernel_rfl) cq (fun ah=> ?_);refine tkH (i:=0) (v:=.int .i64 (i:Int)) ah ?_;simp only[Act.put,VA,VC,VD];refine tkH (i:=1) (v:=.pointer (some ⟨go,i,none⟩)) ah ?_;simp only[Act.put,VA,VC,VD];refine wpAnyH_take (i:=2) (v:=.int .i64 (k:Int)) rfl (by kernel_rfl) (by kernel_rfl) (by kernel_rfl) (fun _ _ _ E=>E) (c3.inl ⟨by rfl,fun W ai=>by have dd:W.cell? ⟨go,i,none⟩=some (.int .i64 (k:Int)):=ai;go_simp⟩) ah ?_;simp only[Act.put,VA,VC,VD];refine tkH (i:=3) (v:=.pointer (some ⟨b,0,none⟩)) ah ?_;simp only[Act.put,VA,VC,VD];refine rdH (i:=4) fun K hK=> ?_
      go_simp
      refine(Aa c4 _).mono ?_;rintro e al ⟨rfl,cv⟩;exact And.intro rfl (c3.inl ⟨by rw[Aa F];exact Y,by rw[Aa F],cv⟩)
  . obtain rfl:i=c:=by omega
    obtain⟨az,am⟩:=Aa bb;have O:=Aa av;rw[XR (by rw[VL];exact ZP _ _),usmall]at O;obtain⟨rfl,rfl⟩:=VN O;have ct:=Ab (Kt b (some ⟨N,0,none⟩) 19 19 s wr a4 (by decide) (.inr ⟨N,0,rfl,(Aa ap).lt,(Aa ap).row⟩));have ci:=(Aa hK).bl.below.size;clear O av ai;go_wp2_with fail
    refine(Aa ct).mono ?_;rintro e al ⟨b9,b7⟩;have b3:=Ab ((Aa hK).past b9)
    rcases b7 with ⟨d0,gr,gm,mb,nn,rfl,ax,as,ay,aj,ac⟩|⟨d0,rfl⟩
    . have F:Hid (Z7j No B w b (.slice a n H) M I s x (.returned (DV gr gm)) al):=Ab (.inr (.inr ⟨am,d0,Aa b3,gr,gm,mb,nn,rfl,by omega,by omega,by omega,aj,ac⟩));clear ax as ay aj ac d0;go_wp2;go_ret;exact Aa F
    . have F:Hid (Z7j No B w b (.slice a n H) M I s x (Flt (errL s)) al):=Ab (.inr (.inl ⟨am,d0,rfl,(Aa b3).bl⟩));clear d0;go_wp2;exact⟨rfl,Aa F⟩
theorem Z3v (No:Nat->Prop)(B b:Nat)(a:Option Addr)(n ae:Nat)(bs:List Nat)(ac ab:Value)(u:US)(w:World)(h:IIs No B w b (.slice a n ae) ac ab u)(au:Rd w No a n bs)(aw:u.p<=8*n)(as:u.e=0)(ai:Option Addr)(M am:Nat)(l:List Int)(Y:l.length=M)(bi:M<=1000)(al:RowIn .i64 w ai l)(ak:∀g o,ai=some ⟨g,o,none⟩->l≠ []->No g)(k:Nat)(be:k<19)(x:Int)(t:Nat)(v:US)(I:Hid (ukind (rowB bs n) l k u=(x,t,v))):
 Calls Tryz.prog 282 #[.pointer (some ⟨b,0,none⟩),.int .i64 (k:Int),.slice ai M am] w fun e w'=>Got No B w b (.slice a n ae) ac ab (.tuple #[.int .i64 x,.int .i64 (t:Int)]) v e w':=by
 have H:=Ab h;have bd:=Ab au;have U:Hid (∀q (size least r:Nat) (y:US),size<=16->least<=40000->uget (rowB bs n) size u=(r,y)->Calls Tryz.prog 266 #[.pointer (some ⟨b,0,none⟩),.int .i64 (least:Int),.int .i64 (size:Int)] (w.drewN q) fun e w'=>Got No B w b (.slice a n ae) ac ab (.int .i64 ((least+r:Nat):Int)) y e w'):=Ab (fun q size least r y a4 aq a9=>(Iw No B b a n ae size least bs ac ab u (w.drewN q) (h.grown ⟨rfl,rfl,rfl,VB _,fun _ _ _=>rfl⟩) (au.keep (VB _) (Kp.refl _ _)) aw as a4 aq r y (Ab a9)).mono (fun e w' G=>Got.from G (Ae (Below.refl _ _) q) (fun _ _ _=>rfl)));have a0:=Ab as;clear h au aw as
 by_cases af:k=16
 . subst af
   by_cases az:M=0
   . subst az
     have E:Hid (v= {u with e:=8}):=Ab (by
      have:=Aa I
      unfold ukind at this;rw[if_pos rfl,if_pos Y]at this;have aq:=(VN (VN this).2).2;rw[<-aq];unfold Am;rw[if_pos (Aa a0)])
     clear U Y al ak;go_enter Tryz.func282,Tryz.ntmps282
     go_wp2_with fail
     refine(Cf 8 _).mono ?_;rintro e bf ⟨rfl,rfl⟩;go_wp2;exact⟨rfl,.inr ⟨by rw[Aa E];exact(by decide:(8:Int)≠0),by rw[Aa E],Bl.refl _ _ _⟩⟩
   . obtain⟨r,y,F⟩:∃r y,uget (rowB bs n) 2 u=(r,y):=⟨_,_,rfl⟩
     obtain⟨q,ay⟩:=exq (M-1)
     have E:Hid (x=l.getD q 0/\t=3+r/\v=y):=Ab (by
      have:=Aa I
      unfold ukind at this;rw[if_pos rfl,if_neg (by omega),F,Y,ay]at this;exact⟨(VN this).1.symm,(VN (VN this).2).1.symm,(VN (VN this).2).2.symm⟩)
     have T:=Ab (fun q=>Aa U q 2 3 r y (by decide) (by decide) F)
     obtain⟨g,o,rfl,ba,a1⟩:∃g o,ai=some ⟨g,o,none⟩/\g<w.heap.size/\Row .i64 w g o l:=by
      rcases al with O|O
      . rw[O]at Y;simp at Y;omega
      . exact O
     have bc:No g:=ak g o rfl (fun e=>by rw[e]at Y;simp at Y;omega);have av:w.cell? ⟨g,o+q,none⟩=some (.int .i64 (l.getD q 0)):=a1 q (by omega);obtain⟨z,a2⟩:=exq (l.getD q 0);rw[a2]at av E;have bn:((M:Int)==0)=false:=by rw[beq_eq_false_iff_ne];omega
     have bj:IntKind.i64.wrap ((M:Int)-1)=(M:Int)-1:=by simp[IntKind.wrap,IntKind.signed,IntKind.bits];omega
     have bk:(1:Int)<=(M:Int):=by omega
     have bh:(M:Int)-1<(M:Int):=by omega
     have bq:((M:Int)-1).toNat=q:=by omega
     clear F U a1 al ak a2 Y I ay az
     by_cases O:y.e=0
     . have a6:Hid (∀Z,Calls Tryz.prog 266 #[.pointer (some ⟨b,0,none⟩),.int .i64 3,.int .i64 2] (w.drewN Z) fun e w'=>e=.returned (.int .i64 ((3+r:Nat):Int))/\w'.cell? ⟨g,o+q,none⟩=some (.int .i64 z)/\Hid (IUp No B w b (.slice a n ae) ac ab y w')):=Ab (fun Z=>(Aa T Z).mono (fun e w' G=>by
        rcases G with ⟨_,ao,e2⟩|⟨e0,_⟩
        . exact⟨ao,(World.cell?_of_block (w:=w) (a:=⟨g,_,none⟩) (e2.kp g ba bc)).trans av,Ab e2⟩
        . exact absurd O e0))
       clear T;go_enter Tryz.func282,Tryz.ntmps282
       go_wp2;go_region_with (go_at_call 266;refine(Aa a6 _).mono ?_;rintro e ar ⟨rfl,bo,a3⟩)
       all_goals try go_wp2
       all_goals refine bodyPost_ret (v:=.tuple #[.int .i64 z,.int .i64 ((3+r:Nat):Int)]) ?_ rfl (.inl ⟨by rw[(Aa E).2.2];exact O,by rw[(Aa E).1,(Aa E).2.1],by rw[(Aa E).2.2];exact Aa a3⟩)
       all_goals first|rfl|kernel_rfl
     . have bb:Hid (∀Z,Calls Tryz.prog 266 #[.pointer (some ⟨b,0,none⟩),.int .i64 3,.int .i64 2] (w.drewN Z) fun e w'=>e=Flt y.e/\Bl No B w w'):=Ab (fun Z=>(Aa T Z).mono (fun e w' G=>by
        rcases G with ⟨e0,_⟩|⟨_,ao,e2⟩
        . exact absurd e0 O
        . exact⟨ao,e2⟩))
       clear T;go_enter Tryz.func282,Tryz.ntmps282
       go_wp2;refine wp_region_held_drew (S:=fun w'=>w'.cell? ⟨g,o+q,none⟩=some (.int .i64 z)) (by kernel_rfl) av (fun aa=> ?_);refine tkH (i:=0) (v:=.slice (some ⟨g,o,none⟩) M am) aa ?_;simp only[Act.put,VA,VC,VD];refine tkH (i:=1) (v:=.slice (some ⟨g,o,none⟩) M am) aa ?_;simp only[Act.put,VA,VC,VD];refine tkH (i:=2) (v:=.int .i64 (M:Int)) aa ?_;simp only[Act.put,VA,VC,VD];refine tkH (i:=3) (v:=.int .i64 ((M:Int)-1)) aa ?_;simp only[Act.put,VA,VC,VD];refine tkH (i:=4) (v:=.pointer (some ⟨g,o+q,none⟩)) aa ?_;simp only[Act.put,VA,VC,VD];refine wpAnyH_take (i:=5) (v:=.int .i64 z) rfl (by kernel_rfl) (by kernel_rfl) (by kernel_rfl) (fun _ _ _ h=>h) (a7.inl ⟨by rfl,fun W a8=>by have bm:W.cell? ⟨g,o+q,none⟩=some (.int .i64 z):=a8;go_simp⟩) aa ?_;simp only[Act.put,VA,VC,VD];refine tkH (i:=6) (v:=.pointer (some ⟨b,0,none⟩)) aa ?_;simp only[Act.put,VA,VC,VD];refine rdH (i:=7) fun K hK=> ?_
       go_simp
       refine(Aa bb _).mono ?_;rintro e ar ⟨rfl,ah⟩;exact And.intro rfl (a7.inr ⟨by rw[(Aa E).2.2];exact O,by rw[(Aa E).2.2],ah⟩)
 . have ax:((k:Int)==16)=false:=by rw[beq_eq_false_iff_ne];omega
   clear al ak
   by_cases aj:k=17
   . subst aj;obtain⟨r,y,F⟩:∃r y,uget (rowB bs n) 3 u=(r,y):=⟨_,_,rfl⟩
     have E:Hid (x=0/\t=3+r/\v=y):=Ab (by
      have:=Aa I
      unfold ukind at this;rw[if_neg (by decide),if_pos rfl,F]at this;exact⟨(VN this).1.symm,(VN (VN this).2).1.symm,(VN (VN this).2).2.symm⟩)
     have T:=Ab (Aa U 0 3 3 r y (by decide) (by decide) F);clear F U I ax af;go_enter Tryz.func282,Tryz.ntmps282
     go_wp2_with fail
     refine(Aa T).mono ?_;rintro e ar G
     rcases G with ⟨e0,rfl,ag⟩|⟨e0,rfl,ah⟩
     . have ap:=Ab ag;clear ag;go_wp2;refine bodyPost_ret (v:=.tuple #[.int .i64 0,.int .i64 ((3+r:Nat):Int)]) ?_ rfl (.inl ⟨by rw[(Aa E).2.2];exact e0,by rw[(Aa E).1,(Aa E).2.1],by rw[(Aa E).2.2];exact Aa ap⟩)
       first|rfl|kernel_rfl
     . go_wp2;exact⟨rfl,.inr ⟨by rw[(Aa E).2.2];exact e0,by rw[(Aa E).2.2],ah⟩⟩
   . have a5:((k:Int)==17)=false:=by rw[beq_eq_false_iff_ne];omega
     by_cases an:k=18
     . subst an;obtain⟨r,y,F⟩:∃r y,uget (rowB bs n) 7 u=(r,y):=⟨_,_,rfl⟩
       have E:Hid (x=0/\t=11+r/\v=y):=Ab (by
        have:=Aa I
        unfold ukind at this;rw[if_neg (by decide),if_neg (by decide),if_pos rfl,F]at this;exact⟨(VN this).1.symm,(VN (VN this).2).1.symm,(VN (VN this).2).2.symm⟩)
       have T:=Ab (Aa U 0 7 11 r y (by decide) (by decide) F);clear F U I ax af a5 aj;go_enter Tryz.func282,Tryz.ntmps282
       go_wp2_with fail
       refine(Aa T).mono ?_;rintro e ar G
       rcases G with ⟨e0,rfl,ag⟩|⟨e0,rfl,ah⟩
       . have ap:=Ab ag;clear ag;go_wp2;refine bodyPost_ret (v:=.tuple #[.int .i64 0,.int .i64 ((11+r:Nat):Int)]) ?_ rfl (.inl ⟨by rw[(Aa E).2.2];exact e0,by rw[(Aa E).1,(Aa E).2.1],by rw[(Aa E).2.2];exact Aa ap⟩)
         first|rfl|kernel_rfl
       . go_wp2;exact⟨rfl,.inr ⟨by rw[(Aa E).2.2];exact e0,by rw[(Aa E).2.2],ah⟩⟩
     . have bg:((k:Int)==18)=false:=by rw[beq_eq_false_iff_ne];omega
       have E:Hid (x=(k:Int)/\t=1/\v=u):=Ab (by
        have:=Aa I
        unfold ukind at this;rw[if_neg af,if_neg aj,if_neg an]at this;exact⟨(VN this).1.symm,(VN (VN this).2).1.symm,(VN (VN this).2).2.symm⟩)
       clear I af aj an U;go_enter Tryz.func282,Tryz.ntmps282
       go_wp2;refine bodyPost_ret (v:=.tuple #[.int .i64 (k:Int),.int .i64 1]) ?_ rfl (.inl ⟨by rw[(Aa E).2.2];exact Aa a0,by rw[(Aa E).1,(Aa E).2.1];rfl,by rw[(Aa E).2.2];exact IUp.refl (Aa H)⟩)
       first|rfl|kernel_rfl
end Go.Proofs.YtleocpdblhbimaaGreatDoor
namespace Go.Proofs.YtleocpdblhbimaaGreatDoor
set_option linter.unusedVariables false
set_option maxRecDepth 100000
theorem Z2 (l:List Int)(G:l.length<=288)(F:∀x∈l,0<=x/\x<=15):errL l=0\/errL l=8:=by
 unfold errL;rw[if_neg (by omega),if_neg]
 . split
   . exact .inr rfl
   . exact .inl rfl
 . rintro ⟨j,E,hb⟩;have hm:=F (l.getD j 0) (by rw[List.getD,VP E];exact WK E);have:=Hw hb
   omega
theorem KG (row:List Bool)(l:List Int)(k:Nat)(u:US)(H:k<19)(G:∀x∈l,0<=x/\x<=15)(E:(ukind row l k u).2.2.e=0):0<=(ukind row l k u).1/\(ukind row l k u).1<=15:=by
 unfold ukind at E ⊢
 by_cases c:k=16
 . rw[if_pos c]at E ⊢
   by_cases d:l.length=0
   . rw[if_pos d]at E;exact absurd E (Bm (by decide))
   . rw[if_neg d];have F:l.length-1<l.length:=by omega
     exact G _ (by rw[List.getD,VP F];exact WK F)
 . rw[if_neg c]
   split
   . exact⟨by simp,by simp⟩
   . split
     . exact⟨by simp,by simp⟩
     . simp only
       omega
theorem Uf {row:List Bool}{S:List Int}{tot:Nat}(I:S.length=19):∀(F:Nat) (l:List Int) (u:US),(∀x∈l,0<=x/\x<=15)->(ulens row S tot F l u).2.e=0->∀x∈(ulens row S tot F l u).1,0<=x/\x<=15
 |0,l,u,hl,h=>hl
 |F+1,l,u,hl,h=>by
  by_cases hc:l.length<tot/\u.e=0
  . obtain⟨r,e⟩:=Kj hc.1 hc.2 h;rw[e]at h ⊢;refine Uf I F _ _ ?_ h;rw[r.st];have M:=(Cn (k:=(uplace S row u).1) (v:=(uplace S row u).2) rfl r.pe).2.2.2.2.2;have H:=KG row l (uplace S row u).1 (uplace S row u).2 (by omega) hl r.ke;intro x G
    rcases WP.1 G with E|E
    . exact hl x E
    . rw[List.eq_of_mem_replicate E];exact H
  . rw[ulens,if_neg hc];exact hl
theorem Px {row:List Bool}:∀(ks:List Nat) (s:List Int) (u:US),(∀x∈s,0<=x/\x<=7)->∀x∈(usmall row ks s u).1,0<=x/\x<=7
 | [],s,u,h=>h
 |k::r,s,u,h=>by
  rw[usmall];refine Px r _ _ ?_;intro x F;have hl:=SD row 3 u
  rcases List.mem_or_eq_of_mem_set F with E|E
  . exact h x E
  . subst E;omega
end Go.Proofs.YtleocpdblhbimaaGreatDoor
