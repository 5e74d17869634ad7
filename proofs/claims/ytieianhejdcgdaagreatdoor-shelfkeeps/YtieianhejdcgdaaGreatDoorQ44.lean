import Derived.Deep.DeepCutAuto
import Derived.Stop.BytesEq
import Derived.Test.YtieianhejdcgdaaGreatDoorQ42
import Derived.Deep.RegionHeld3
set_option linter.unusedSimpArgs false
set_option maxHeartbeats 4000000
namespace Go.Proofs.YtieianhejdcgdaaGreatDoor
open Go.RowKit
set_option linter.unusedVariables false
set_option maxRecDepth 100000
def URow (T:TypeId)(w:World)(g:Nat)(xs:List Nat):Prop:=w.heap[g]? =some (.cells (u8s xs).toArray T (0,0))
theorem URow.lt {T:TypeId}{w:World}{g:Nat}{xs:List Nat}(h:URow T w g xs):g<w.heap.size:=(VG.1 h).1
theorem URow.cell {T:TypeId}{w:World}{g:Nat}{xs:List Nat}(h:URow T w g xs)(j:Nat)(hj:j<xs.length):w.cell? ⟨g,j,none⟩=some (.int .u8 ((xs.getD j 0:Nat):Int)):=(Ac h).trans (by simp[u8s,List.getD,hj])
theorem URow.frozen {T:TypeId}{w:World}{g:Nat}{xs:List Nat}(h:URow T w g xs)(j:Nat):w.frozen? ⟨g,j,none⟩=false:=frozen_of_row w g j _ _ h
theorem URow.bytes {T:TypeId}{w:World}{g:Nat}{xs:List Nat}(h:URow T w g xs):Bytes w g 0 xs:=fun j hj=>by rw[WI];exact h.cell j hj
theorem URow.keep {T:TypeId}{w w':World}{g:Nat}{xs:List Nat}(h:URow T w g xs)(hk:w'.heap[g]? =w.heap[g]?):URow T w' g xs:=hk.trans h
theorem URow.set {T:TypeId}{w:World}{g:Nat}{xs:List Nat}(h:URow T w g xs)(i y:Nat):URow T (w.setCell ⟨g,i,none⟩ (.int .u8 (y:Int))) g (xs.set i y):=by
 have:=heap_setCell_same w g i _ _ (.int .u8 (y:Int)) h
 unfold URow;rw[this];simp[u8s,List.map_set]
theorem IX (xs:List Nat):(u8s xs).toArray.all (·.oneCell')=true:=by
 simp[u8s]
 intro x hx;rfl
theorem Z3b:(Tryz.prog.info? 129).map (·.size)=some 8:=by kernel_rfl
theorem KY (l:List Nat)(k:Nat)(hk:k<l.length):(l.take k++List.replicate (l.length-k) 0).set k (l.getD k 0)=l.take (k+1)++List.replicate (l.length-(k+1)) 0:=by
 have h1:(l.take k).length=k:=by simp;omega
 rw[List.set_append_right _ _ (by omega),h1,XK];obtain⟨q,hq⟩:∃q,l.length-k=q+1:=⟨l.length-k-1,by omega⟩
 have e:l.take (k+1)=l.take k++ [l.getD k 0]:=by rw[XH];simp[List.getD,hk]
 rw[hq,YV,VD,e,show l.length-(k+1)=q by omega];simp
end Go.Proofs.YtieianhejdcgdaaGreatDoor
namespace Go.Proofs.YtieianhejdcgdaaGreatDoor
open Go.RowKit
set_option linter.unusedVariables false
set_option maxRecDepth 100000
theorem Re (x:Int)(w:World):Calls Tryz.prog 176 #[.int .i64 x] w fun e w'=>e=.returned (.bool false)/\w'=w:=by
 have h:(x !=x)=false:=by simp
 go_enter Tryz.func176,Tryz.ntmps176
 go_wp2;go_ret;exact⟨rfl,rfl⟩
theorem MK (x:ByteArray)(w:World):Calls Tryz.prog 175 #[.string x] w fun e w'=>e=.returned (.bool false)/\w'=w:=by
 have h:(x.toList==x.toList)=true:=by simp
 go_enter Tryz.func175,Tryz.ntmps175
 go_wp2;go_ret;exact⟨rfl,rfl⟩
theorem Z3w (x y:Int)(w:World):Calls Tryz.prog 138 #[.int .i64 x,.int .i64 y] w fun e w'=>e=.returned (.int .i64 (Z1d x y))/\w'=w:=by
 unfold Z1d
 rcases Int.lt_trichotomy x y with h|h|h
 . rw[if_pos h];go_enter Tryz.func138,Tryz.ntmps138
   go_wp2_with (go_at_call 176;refine(Re _ _).mono ?_;rintro e w' ⟨rfl,rfl⟩)
   go_ret;exact⟨rfl,rfl⟩
 . subst h;rw[if_neg (by omega),if_neg (by omega)];go_enter Tryz.func138,Tryz.ntmps138
   go_wp2_with (go_at_call 176;refine(Re _ _).mono ?_;rintro e w' ⟨rfl,rfl⟩)
   go_ret;exact⟨rfl,rfl⟩
 . rw[if_neg (by omega),if_pos h];have h2:¬x<y:=by omega
   go_enter Tryz.func138,Tryz.ntmps138
   go_wp2_with (go_at_call 176;refine(Re _ _).mono ?_;rintro e w' ⟨rfl,rfl⟩)
   go_ret;exact⟨rfl,rfl⟩
theorem Z3v (x y:List UInt8)(w:World):Calls Tryz.prog 137 #[.string (B x),.string (B y)] w fun e w'=>e=.returned (.int .i64 (Fd x y))/\w'=w:=by
 have h1:Op.bytesLess (B x).toList (B y).toList=decide (Fd x y<0):=by rw[Dk,Dk,Wy]
 have h2:((B x).toList==(B y).toList)=decide (Fd x y=0):=by
  rw[Dk,Dk,YK,beq_iff_eq,decide_eq_true_iff,K7]
 rcases Ep x y with h|h|h
 all_goals (
  rw[h]at h1 h2 ⊢;simp only[Int.reduceLT,Int.reduceEq,Int.reduceNeg,decide_true,decide_false]at h1 h2;clear h;generalize B x=s at*;generalize B y=t at*;go_enter Tryz.func137,Tryz.ntmps137
  go_wp2_with (go_at_call 175;refine(MK _ _).mono ?_;rintro e w' ⟨rfl,rfl⟩)
  go_ret;exact⟨rfl,rfl⟩)
theorem TQ (x y:Bool)(w:World):Calls Tryz.prog 139 #[.bool x,.bool y] w fun e w'=>e=.returned (.int .i64 (Z69 x y))/\w'=w:=by
 cases x<;>cases y
 all_goals (
  go_enter Tryz.func139,Tryz.ntmps139
  go_wp2;go_ret;exact⟨rfl,rfl⟩)
theorem OV {w:World}{a a2:Option Addr}{c c2:Nat}{x y:List UInt8}(h:BsIn w a c x)(h2:BsIn w a2 c2 y):
 Calls Tryz.prog 140 #[.slice a x.length c,.slice a2 y.length c2] w fun e w'=>e=.returned (.int .i64 (Fd x y))/\w'=w:=by
 have e1:=Ve h;have e2:=Ve h2
 have e3:(Extern.BytealgCompare.compare #[.slice a x.length c,.slice a2 y.length c2]).run Tryz.prog w=.ok (.int .i64 (Fd x y)) w:=by
  change Sem.run Tryz.prog (do pure (goInt (Extern.BytealgCompare.cmp (<- Extern.Bytes.bytesOf (.slice a x.length c)) (<- Extern.Bytes.bytesOf (.slice a2 y.length c2))))) w=_
  simp only[Sem.run_bind,e1,e2,Sem.run_pure,Result.andThen];rw[Lib.cmp_eq];rfl
 clear h h2 e1 e2;go_enter Tryz.func140,Tryz.ntmps140
 go_wp2;rw[run_callFunc_extern Tryz.func177 (by kernel_rfl) (by kernel_rfl) (by kernel_rfl) (e:=Extern.BytealgCompare.compare) (by kernel_rfl),e3];simp only[Result.andThen];rw[Oper.upon_value];go_wp2;go_ret;exact⟨rfl,rfl⟩
theorem LN (x y:Fv)(w:World):
 Calls Tryz.prog 111 #[x.val,y.val] w fun e w'=>e=.returned (.int .i64 (Fd x.f.name y.f.name))/\w'=(w.alloc (.cells x.cells.toArray 30)).alloc (.cells y.cells.toArray 30):=by
 have hc:=Z3v x.f.name y.f.name;rw[Dz,Dz];unfold Fv.cells Fv.sl;obtain⟨⟨nm,bs,st,nd,gn⟩,a,c⟩:=x;obtain⟨⟨nm2,bs2,st2,nd2,gn2⟩,a2,c2⟩:=y;simp only at*
 generalize B nm=t at*;generalize B nm2=t2 at*;generalize bs.length=n at*;generalize bs2.length=n2 at*;have HC:=Ab hc;clear hc;go_enter Tryz.func111,Tryz.ntmps111
 go_wp2_with (go_at_call 137;refine(Aa HC _).mono ?_;rintro e w' ⟨rfl,rfl⟩)
 go_ret;exact⟨rfl,rfl⟩
theorem Vc (x:Fv)(w:World)(h:FvIn w x):
 Calls Tryz.prog 113 #[x.val] w fun e w'=>∃a c,e=.returned (Fv.val ⟨x.f,a,c⟩)/\FvIn w' ⟨x.f,a,c⟩/\Below w.heap.size w w'/\∀b o,a=some ⟨b,o,none⟩->w.heap.size<=b/\b<w'.heap.size:=by
 rw[Dz];obtain⟨⟨nm,bs,st,nd,gn⟩,a,c⟩:=x;simp only at*
 have hbs:=h.bs;have hbig:=h.big;have htxt:=h.txt;clear h;simp only at hbs hbig htxt
 have HBS:=Ab (((hbs.below ((Below.refl w.heap.size w).alloc (VC _) (.cells #[.string (B nm),.slice a bs.length c,.int .i64 st,.int .i64 nd,.bool gn] 30)) (VC _))).below ((Below.refl (w.heap.size+1) _).alloc (by simp) (.cells #[.string ⟨#[]⟩,.slice none 0 0,.int .i64 0,.int .i64 0,.bool false] 30)) (by simp));have hown:∀W:World,W.ownsRow W.heap.size 5 1 (.slice none 0 0) 0 (u8v []):=fun W=>World.ownsRow_nil _ _ _ _
 have HT:=Ab htxt;obtain⟨n,hn⟩:∃n,bs.length=n:=⟨_,rfl⟩
 have HN:=Ab hn;have HV:=Ab (fun a c=>Dz ⟨⟨nm,bs,st,nd,gn⟩,a,c⟩);simp only at HV
 rw[hn]at hbig HV HBS ⊢;clear hbs hn htxt;generalize B nm=t at*;go_enter Tryz.func113,Tryz.ntmps113
 go_wp2_with (at_builtin;refine Oc _ rfl _ _ rfl _ (.slice none 0 0) 0 [] rfl (hown _) a n c bs rfl (Aa HN) (Aa HBS) (by omega) (VC _) ?_)
 intro v' w1 hO hg;obtain⟨a',c',hv,hB',hloc⟩:=BsIn.own (Aa hO);rw[show bs.length=n from Aa HN]at hv;subst hv;have hg0:((w.alloc (.cells #[.string t,.slice a n c,.int .i64 st,.int .i64 nd,.bool gn] 30)).alloc (.cells #[.string ⟨#[]⟩,.slice none 0 0,.int .i64 0,.int .i64 0,.bool false] 30)).grownBy w1 none:=Aa hg;have hz:=hg0.size;simp only[World.size_alloc]at hz
 have h1:w1.heap[w.heap.size]? =some (.cells #[.string t,.slice a n c,.int .i64 st,.int .i64 nd,.bool gn] 30 (0,0)):=by
  rw[hg0.block _ (by simp;omega) (by simp),Below.heap_alloc _ _ _ (by simp),heap_alloc_new]
 have h2:w1.heap[w.heap.size+1]? =some (.cells #[.string ⟨#[]⟩,.slice none 0 0,.int .i64 0,.int .i64 0,.bool false] 30 (0,0)):=by
  rw[hg0.block _ (by simp) (by simp)];have:=heap_alloc_new (w.alloc (.cells #[.string t,.slice a n c,.int .i64 st,.int .i64 nd,.bool gn] 30)) (.cells #[.string ⟨#[]⟩,.slice none 0 0,.int .i64 0,.int .i64 0,.bool false] 30)
  simpa using this
 have HBel:=Ab (((Below.refl w.heap.size w).alloc (VC _) (.cells #[.string t,.slice a n c,.int .i64 st,.int .i64 nd,.bool gn] 30)).alloc (by simp) (.cells #[.string ⟨#[]⟩,.slice none 0 0,.int .i64 0,.int .i64 0,.bool false] 30));have HBel1:=Ab ((Aa HBel).grown hg0 (by simp;omega) (fun k e=>by cases e));have q0:w1.cell? ⟨w.heap.size,0,none⟩=some (.string t):=Ac h1;have q1:w1.cell? ⟨w.heap.size,1,none⟩=some (.slice a n c):=Ac h1;have q2:w1.cell? ⟨w.heap.size,2,none⟩=some (.int .i64 st):=Ac h1;have q3:w1.cell? ⟨w.heap.size,3,none⟩=some (.int .i64 nd):=Ac h1;have q4:w1.cell? ⟨w.heap.size,4,none⟩=some (.bool gn):=Ac h1;have r0:w1.cell? ⟨w.heap.size+1,0,none⟩=some (.string ⟨#[]⟩):=Ac h2;have r1:w1.cell? ⟨w.heap.size+1,1,none⟩=some (.slice none 0 0):=Ac h2;have r2:w1.cell? ⟨w.heap.size+1,2,none⟩=some (.int .i64 0):=Ac h2;have r3:w1.cell? ⟨w.heap.size+1,3,none⟩=some (.int .i64 0):=Ac h2;have r4:w1.cell? ⟨w.heap.size+1,4,none⟩=some (.bool false):=Ac h2;have f1:=frozen_of_row w1 w.heap.size 1 _ _ h1;have g0:=frozen_of_row w1 (w.heap.size+1) 0 _ _ h2;have g1:=frozen_of_row w1 (w.heap.size+1) 1 _ _ h2;have g2:=frozen_of_row w1 (w.heap.size+1) 2 _ _ h2;have g3:=frozen_of_row w1 (w.heap.size+1) 3 _ _ h2;have g4:=frozen_of_row w1 (w.heap.size+1) 4 _ _ h2;have k1:=Ad w1 w.heap.size 1 (.slice a' n c');obtain⟨p1,p2⟩:=Z76 (w1.setCell ⟨w.heap.size,1,none⟩ (.slice a' n c')) (w.heap.size+1) 30 _ _ _ _ _ (.string t) (.slice a' n c') (.int .i64 st) (.int .i64 nd) (.bool gn) ((k1.block _ (by omega) (by simp)).trans h2);have hz1:=k1.size;have hz2:=p2.size;have HP1:=Ab p1;have HF:=Ab (((Aa HBel1).grown k1 (by omega) (fun k e=>by cases e;exact VC _)).grown p2 (by omega) (fun k e=>by cases e;omega));have HB':=Ab ((hB'.grown k1 (fun b o e=>by have:=hloc b o e;simp;omega)).grown p2 (fun b o e=>by have:=hloc b o e;simp;omega))
 have HLoc:Hid (∀b o,a'=some ⟨b,o,none⟩->w.heap.size<=b/\b<((((((w1.setCell ⟨w.heap.size,1,none⟩ (.slice a' n c')).setCell ⟨w.heap.size+1,0,none⟩ (.string t)).setCell ⟨w.heap.size+1,1,none⟩ (.slice a' n c')).setCell ⟨w.heap.size+1,2,none⟩ (.int .i64 st)).setCell ⟨w.heap.size+1,3,none⟩ (.int .i64 nd)).setCell ⟨w.heap.size+1,4,none⟩ (.bool gn)).heap.size):=fun b o e=>by
  have:=hloc b o e
  omega
 clear h1 h2 hB' hloc hg hg0 hO k1 p1 p2 hz1 hz2;go_wp2;refine bodyPost_ret (v:=.agg #[.string t,.slice a' n c',.int .i64 st,.int .i64 nd,.bool gn]) ?_ rfl ⟨a',c',by rw[Aa HV],⟨Aa HB',by rw[Aa HN];exact hbig,Aa HT⟩,Aa HF,Aa HLoc⟩;exact results_cell_row rfl _ _ _ _ _ _ _ rfl (Aa HP1) Tryz.underlying30 rfl (by kernel_rfl)
theorem AY (w:World)(o1 o2:Obj):Below w.heap.size w ((w.alloc o1).alloc o2).drew:=Af (((Below.refl _ w).alloc (VC _) o1).alloc (by simp) o2) 1
theorem Wu (w:World)(o1 o2 o3:Obj):Below w.heap.size w (((w.alloc o1).alloc o2).alloc o3).drew:=Af ((((Below.refl _ w).alloc (VC _) o1).alloc (by simp) o2).alloc (by simp;omega) o3) 1
theorem SO (w:World)(o1 o2 o3:Obj)(v1 v2 v3 v4:Value):Below w.heap.size w (((w.alloc o1).alloc o2).alloc o3).drew:=Af ((((Below.refl _ w).alloc (VC _) o1).alloc (by simp) o2).alloc (by simp;omega) o3) 1
theorem Z6w (a b c d:Int)(W:World):(Instr.index 203 (.agg #[.int .i64 a,.int .i64 b,.int .i64 c,.int .i64 d]) (.int .i64 0)).run Tryz.prog W=.ok (.int .i64 a) W:=by kernel_rfl
theorem Z6v (a b c d:Int)(W:World):(Instr.index 203 (.agg #[.int .i64 a,.int .i64 b,.int .i64 c,.int .i64 d]) (.int .i64 1)).run Tryz.prog W=.ok (.int .i64 b) W:=by kernel_rfl
theorem Z6u (a b c d:Int)(W:World):(Instr.index 203 (.agg #[.int .i64 a,.int .i64 b,.int .i64 c,.int .i64 d]) (.int .i64 2)).run Tryz.prog W=.ok (.int .i64 c) W:=by kernel_rfl
theorem Z6t (a b c d:Int)(W:World):(Instr.index 203 (.agg #[.int .i64 a,.int .i64 b,.int .i64 c,.int .i64 d]) (.int .i64 3)).run Tryz.prog W=.ok (.int .i64 d) W:=by kernel_rfl
theorem Z2w {a b:Int}(h:a≠0):nz a b=a:=by unfold nz;rw[if_pos h]
theorem Hm {b:Int}:nz 0 b=b:=by unfold nz;rw[if_neg (by decide)]
theorem Z67 {a:Int}(h:a≠0):(a !=0)=true:=by rw[bne_iff_ne];exact h
theorem LM (x y:Fv)(w:World)(hx:FvIn w x)(hy:FvIn w y):
 Calls Tryz.prog 112 #[x.val,y.val] w fun e w'=>e=.returned (.int .i64 (nwr x.f y.f))/\Below w.heap.size w w':=by
 have hb:∀W,Below w.heap.size w W->Calls Tryz.prog 140 #[.slice x.a x.f.bytes.length x.c,.slice y.a y.f.bytes.length y.c] W fun e w'=>e=.returned (.int .i64 (Fd x.f.bytes y.f.bytes))/\w'=W:=
  fun W hW=>OV (hx.bs.below hW (VC _)) (hy.bs.below hW (VC _))
 have hd:nwr x.f y.f=nz (Z1d x.f.stamp y.f.stamp) (nz (Z1d x.f.node y.f.node) (nz (Z69 x.f.gone y.f.gone) (Fd x.f.bytes y.f.bytes))):=rfl;rw[Dz,Dz,hd];clear hx hy hd;obtain⟨⟨nm,bs,st,nd,gn⟩,a,c⟩:=x;obtain⟨⟨nm2,bs2,st2,nd2,gn2⟩,a2,c2⟩:=y;simp only at*
 generalize B nm=t at*;generalize B nm2=t2 at*;generalize bs.length=n at*;generalize bs2.length=n2 at*;have h3:=TQ gn gn2;generalize Z69 gn gn2=k3 at*;generalize Fd bs bs2=k4 at*;have H3:=Ab h3;have H4:=Ab hb;clear h3 hb;go_enter Tryz.func112,Tryz.ntmps112
 go_wp2
 go_region_held3 (fun W=>Below w.heap.size w W/\W.cell? ⟨w.heap.size,1,none⟩=some (.slice a n c)/\W.cell? ⟨w.heap.size,2,none⟩=some (.int .i64 st)/\W.cell? ⟨w.heap.size,3,none⟩=some (.int .i64 nd)/\W.cell? ⟨w.heap.size,4,none⟩=some (.bool gn)/\W.cell? ⟨w.heap.size+1,1,none⟩=some (.slice a2 n2 c2)/\W.cell? ⟨w.heap.size+1,2,none⟩=some (.int .i64 st2)/\W.cell? ⟨w.heap.size+1,3,none⟩=some (.int .i64 nd2)/\W.cell? ⟨w.heap.size+1,4,none⟩=some (.bool gn2)) (refine⟨?_, ?_, ?_, ?_, ?_, ?_, ?_, ?_, ?_⟩<;>first|exact AY _ _ _|exact Wu _ _ _ _|exact SO _ _ _ _ _ _ _ _|go_keep)
  (first|(go_at_call 138;refine(Z3w _ _ _).mono ?_;rintro e w' ⟨rfl,rfl⟩)|(go_at_call 139;refine(Aa H3 _).mono ?_;rintro e w' ⟨rfl,rfl⟩)|(go_at_call 140;refine(Aa H4 _ (by first|exact AY _ _ _|exact Wu _ _ _ _)).mono ?_;rintro e w' ⟨rfl,rfl⟩))
 all_goals (
  generalize hk1:Z1d st st2=k1;generalize hk2:Z1d nd nd2=k2;have HK1:=Ab hk1;have HK2:=Ab hk2;clear hk1 hk2;have i0:=Z6w k1 k2 k3 k4;have i1:=Z6v k1 k2 k3 k4;have i2:=Z6u k1 k2 k3 k4;have i3:=Z6t k1 k2 k3 k4;clear H3 H4;go_wp2;go_loopw [7,30] (fun _ i wr=>Hid (Below w.heap.size w wr)/\((i=.int .i64 0)\/ (i=.int .i64 1/\k1=0)\/ (i=.int .i64 2/\k1=0/\k2=0)\/ (i=.int .i64 3/\k1=0/\k2=0/\k3=0)\/ (i=.int .i64 4/\k1=0/\k2=0/\k3=0/\k4=0))) (fun _ i _=>4-(intOf i).toNat)
  case atStart=>exact⟨Wu _ _ _ _,.inl rfl⟩
  case round=>
   obtain⟨HB,rfl|⟨rfl,rfl⟩|⟨rfl,rfl,rfl⟩|⟨rfl,rfl,rfl,rfl⟩|⟨rfl,rfl,rfl,rfl,rfl⟩⟩:=hrel
   . by_cases h:k1=0
     . subst h;go_wp2;go_roundw
       case rel=>exact⟨HB,by simp⟩
       case measure=>simp[intOf]
     . have hb:=Z67 h;go_wp2;go_ret;exact⟨Fb (by rw[Aa HK1,Z2w h]),Aa HB⟩
   . by_cases h:k2=0
     . subst h;go_wp2;go_roundw
       case rel=>exact⟨HB,by simp⟩
       case measure=>simp[intOf]
     . have hb:=Z67 h;go_wp2;go_ret;exact⟨Fb (by rw[Aa HK1,Aa HK2,Hm,Z2w h]),Aa HB⟩
   . by_cases h:k3=0
     . subst h;go_wp2;go_roundw
       case rel=>exact⟨HB,by simp⟩
       case measure=>simp[intOf]
     . have hb:=Z67 h;go_wp2;go_ret;exact⟨Fb (by rw[Aa HK1,Aa HK2,Hm,Hm,Z2w h]),Aa HB⟩
   . by_cases h:k4=0
     . subst h;go_wp2;go_roundw
       case rel=>exact⟨HB,by simp⟩
       case measure=>simp[intOf]
     . have hb:=Z67 h;go_wp2;go_ret;exact⟨Fb (by rw[Aa HK1,Aa HK2,Hm,Hm,Hm]),Aa HB⟩
   . go_wp2;go_ret;exact⟨Fb (by rw[Aa HK1,Aa HK2,Hm,Hm,Hm]),Aa HB⟩)
theorem Z5p (a b:Option Addr)(n m c d:Nat)(W:World):(Instr.index 175 (.agg #[.slice a n c,.slice b m d]) (.int .i64 0)).run Tryz.prog W=.ok (.slice a n c) W:=by kernel_rfl
theorem Z5o (a b:Option Addr)(n m c d:Nat)(W:World):(Instr.index 175 (.agg #[.slice a n c,.slice b m d]) (.int .i64 1)).run Tryz.prog W=.ok (.slice b m d) W:=by kernel_rfl
def I9 (a b:List Fl):Nat:=if Eh a≠0 then Eh a else Eh b
theorem Z01 {a b:List Fl}(h:Eh a≠0):I9 a b=Eh a:=by unfold I9;rw[if_pos h]
theorem Z00 {a b:List Fl}(h:Eh a=0):I9 a b=Eh b:=by unfold I9;rw[if_neg (by simp[h])]
theorem Rw {a b:List Fl}:I9 a b=0↔Eh a=0/\Eh b=0:=by
 unfold I9
 split
 . rename_i h;simp[h]
 . rename_i h;simp at h;simp[h]
theorem Xx (ad bd:Option Addr)(c d:Nat)(xs ys:List Fv)(w:World)(h:FsIn w ad c xs)(k:FsIn w bd d ys)(n m:Nat)(hn:xs.length=n)(hm:ys.length=m):
 Calls Tryz.prog 76 #[.slice ad n c,.slice bd m d] w fun e w'=>e=.returned (.int .i64 (I9 (fls xs) (fls ys):Nat))/\Below w.heap.size w w':=by
 have HS:=Ab (fun W (hW:Below w.heap.size w W)=>Hv ad c xs W (h.below hW (VC _)) n hn);have HF:=Ab (fun W (hW:Below w.heap.size w W)=>Hv bd d ys W (k.below hW (VC _)) m hm);have i0:=Z5p ad bd n m c d;have i1:=Z5o ad bd n m c d;have e0:= @Z01 (fls xs) (fls ys);have e1:= @Z00 (fls xs) (fls ys);obtain⟨E,hE⟩:∃E,I9 (fls xs) (fls ys)=E:=⟨_,rfl⟩
 rw[hE]at e0 e1 ⊢;generalize Eh (fls xs)=x at*;generalize Eh (fls ys)=y at*;clear h k hn hm hE;have E0:=Ab e0;have E1:=Ab e1;clear e0 e1;go_enter Tryz.func76,Tryz.ntmps76
 go_wp2;go_loopw [6,7,11] (fun _ _ i wr=>Hid (Below w.heap.size w wr)/\((i=.int .i64 0)\/ (i=.int .i64 1/\x=0)\/ (i=.int .i64 2/\x=0/\y=0))) (fun _ _ i _=>2-(intOf i).toNat)
 case atStart=>exact⟨Below.refl _ _,.inl rfl⟩
 case round=>
  obtain⟨HB,rfl|⟨rfl,rfl⟩|⟨rfl,rfl,rfl⟩⟩:=hrel
  . by_cases he:x=0
    . subst he;go_wp2_with (go_at_call 41;refine(Aa HS _ (Aa HB)).mono ?_;rintro e w1 ⟨rfl,hb1⟩;have HB1:=Ab ((Aa HB).trans (hb1.mono (Aa HB).size));clear hb1)
      go_roundw
      case rel=>exact⟨HB1,by simp⟩
      case measure=>simp[intOf]
    . go_wp2_with (go_at_call 41;refine(Aa HS _ (Aa HB)).mono ?_;rintro e w1 ⟨rfl,hb1⟩;have HB1:=Ab ((Aa HB).trans (hb1.mono (Aa HB).size));clear hb1)
      go_ret;exact⟨Fb (by rw[Aa E0 he]),Aa HB1⟩
  . have hyE:=Aa E1 rfl;subst hyE
    by_cases he:E=0
    . subst he;go_wp2_with (go_at_call 41;refine(Aa HF _ (Aa HB)).mono ?_;rintro e w1 ⟨rfl,hb1⟩;have HB1:=Ab ((Aa HB).trans (hb1.mono (Aa HB).size));clear hb1)
      go_roundw
      case rel=>exact⟨HB1,by simp⟩
      case measure=>simp[intOf]
    . go_wp2_with (go_at_call 41;refine(Aa HF _ (Aa HB)).mono ?_;rintro e w1 ⟨rfl,hb1⟩;have HB1:=Ab ((Aa HB).trans (hb1.mono (Aa HB).size));clear hb1)
      go_ret;exact⟨rfl,Aa HB1⟩
  . have hyE:=Aa E1 rfl;subst hyE;go_wp2;go_ret;exact⟨rfl,Aa HB⟩
end Go.Proofs.YtieianhejdcgdaaGreatDoor
