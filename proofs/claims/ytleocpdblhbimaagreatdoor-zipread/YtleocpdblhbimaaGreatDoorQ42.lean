import Derived.Test.YtleocpdblhbimaaGreatDoorQ41
import Derived.Shelf.Slices.Equal
import Derived.Shelf.Slices.Empties2
import Derived.Lib.SlBytesConst
import Derived.Test.YtleocpdblhbimaaGreatDoorQ26
import Derived.Deep.Slices
import Derived.SizedLaws
import Derived.Deep.Strs
set_option linter.unusedSimpArgs false
set_option maxHeartbeats 4000000
namespace Go.Proofs.YtleocpdblhbimaaGreatDoor
open Go.RowKit
set_option linter.unusedVariables false
set_option maxRecDepth 100000
theorem EOf.sto {x:En}(G:EOf x)(I:Mq x.f=0)(H:x.meth≠8):EOk x:=by
 obtain⟨hn,T⟩:=G.num I;refine⟨⟨hn.st.1,by have:=hn.st.2;omega⟩,⟨hn.nd.1,by have:=hn.nd.2;omega⟩,by have:=hn.nm;omega,by have:=hn.pl;omega,hn.cr,hn.mt, ?_⟩;obtain⟨out,O,(⟨M,E,F⟩|⟨M,E,F⟩)⟩:=G.pk
 . exact absurd E H
 . unfold unpF;rw[E,F,if_pos rfl]
theorem Z22:∀(l:List En),(Be l).length=22+(Av l).length+(Ao 0 l).length:=fun l=>by
 unfold Be;rw[VE,VE,Pl];omega
def Z75:Go.Shelf.Ren:=⟨fun|193=>18|n=>n,fun|31=>43|9=>9|4=>4|3=>3|0=>0|n=>n,fun|n=>n⟩
theorem Sd:Go.Proofs.Lays.n193 Tryz.prog Z75:= {
 mixed:=by kernel_rfl
 f193:=Tryz.func18.trans (congrArg some (by kernel_rfl))
 t0:=Tryz.underlying0
 a0:=Tryz.isAgg0
 z0:=Tryz.sizeOf0
 v0:=Tryz.zeroValue0
 t3:=Tryz.underlying3
 a3:=Tryz.isAgg3
 z3:=Tryz.sizeOf3
 v3:=Tryz.zeroValue3
 t4:=Tryz.underlying4
 a4:=Tryz.isAgg4
 z4:=Tryz.sizeOf4
 v4:=Tryz.zeroValue4
 t9:=Tryz.underlying9
 a9:=Tryz.isAgg9
 z9:=Tryz.sizeOf9
 v9:=Tryz.zeroValue9
 t31:=Tryz.underlying43
 a31:=Tryz.isAgg43
 z31:=Tryz.sizeOf43
 v31:=Tryz.zeroValue43}
theorem Z2w (E:List (List UInt8))(j:Nat)(F:j<(E.map B).length):(E.map B)[j]? =some ((E.map B).getD j ByteArray.empty):=by
 simp only[WL]at F;simp[List.getD,F]
theorem Z2y {b c:Nat}{v u:Value}{F G:List (List UInt8)}{w:World}(h:SRow w b v F)(Y:SRow w c u G):
 Calls Tryz.prog 18 #[v,u] w fun e w'=>e=.returned (.bool (decide (F=G)))/\∃q,w'=w.drewN q:=by
 have I:∀w':World,w'=w->∃q,w'=w.drewN q:=fun w' e=>⟨0,by rw[e];rfl⟩
 rcases h.cases with ⟨rfl,rfl⟩|⟨g,cap,rfl,af,ae,hc,hm,aa⟩
 . rcases Y.cases with ⟨rfl,rfl⟩|⟨g2,O,rfl,ac,ab,Z,M,U⟩
   . refine(Any.slices_Equal_string_empty Sd none none 0 0 0 w (by decide)).mono ?_;rintro e w' ⟨rfl,E⟩;exact⟨rfl,I _ E⟩
   . unfold maxLen at M;refine(Any.slices_Equal_string_empty Sd none _ 0 G.length O w (by omega)).mono ?_;rintro e w' ⟨rfl,E⟩;refine⟨Dq ?_,I _ E⟩;rw[decide_eq_decide];rw[ZH];exact⟨fun e=>e.symm,fun e=>e.symm⟩
 . rcases Y.cases with ⟨rfl,rfl⟩|⟨g2,O,rfl,ac,ab,Z,M,U⟩
   . by_cases H:F.length=0
     . rw[H];refine(Any.slices_Equal_string_empty Sd _ none cap 0 0 w (by decide)).mono ?_;rintro e w' ⟨rfl,E⟩;refine⟨Dq ?_,I _ E⟩;rw[ZH.1 H];rfl
     . refine(Any.slices_Equal_string_lens Sd _ none F.length cap 0 0 w H).mono ?_;rintro e w' ⟨rfl,E⟩;refine⟨Dq ?_,I _ E⟩;have:F≠ []:=fun e=>H (by rw[e];rfl)
       simp[this]
   . unfold maxLen at hm M;refine(Any.slices_Equal_string Sd g 0 F.length cap g2 0 G.length O (F.map B) (G.map B) w (by simp) (by simp) (by omega) (by omega) (fun j T=>aa j _ (Z2w F j T)) (fun j T=>U j _ (Z2w G j T))).mono ?_;rintro e w' ⟨rfl,E⟩;refine⟨Dq ?_,E⟩;rw[decide_eq_decide,VV (by simp),VV (by simp)]
     constructor
     . intro e;have:=congrArg (List.map fun x:ByteArray=>x.data.toList) e
       simp only[ZU]at this;have e3:((fun x:ByteArray=>x.data.toList) ∘ B)=id:=by funext l;rfl
       rw[e3,List.map_id,List.map_id]at this;exact this
     . intro e;rw[e]
theorem I7:(Tryz.prog.info? 9).map (fun i=>(i.zero,i.size,i.bytes))=some (some (.string ByteArray.empty),1,16):=by kernel_rfl
theorem Tz (n T:Nat)(a:Option Addr)(bs:List Nat)(w:World)(ax:bs.length=n)(bn:n<=T)(ar:PkIn w a T bs)(ap:∀x∈bs,x<256)(a0:n<=9223372036854775807)(F:Z5x bs):
 Calls Tryz.prog 15 #[.slice a n T] w fun e w'=>∃v,e=.returned (.tuple #[v,.int .i64 (readE bs:Nat)])/\SRow w' w.heap.size v ((readL bs).map Fl.name)/\Below w.heap.size w w':=by
 obtain⟨a8,hi,ba,a9,bj⟩:=info_parts I7;have M:=Ab (Ps n T a bs w ax bn ar ap a0 F);clear F
 have am:(readL bs).length<=12:=by
  by_cases ak:readE bs=0
  . obtain⟨l,_,a2,_,_,a1,_⟩:=C6 ak;rw[a1];exact(Mr a2).1
  . unfold readL;rw[if_pos ak];exact VH _
 have af:readE bs≠0->readL bs= []:=fun h=>by unfold readL;rw[if_pos h]
 unfold RdA at M;obtain⟨E,ac⟩:=exq (readE bs);obtain⟨fs,Y⟩:=exq (readL bs);rw[ac,Y]at M af;rw[Y]at am;rw[ac,Y];have bb:=Ab af;clear ax ar ap af ac Y;go_enter Tryz.func15,Tryz.ntmps15
 go_wp2_with fail
 refine(Aa M).mono ?_;rintro e G ⟨v,rfl,⟨ad,c,xs,rfl,H,ab⟩,Z⟩;obtain⟨k,O⟩:=exq (fs.length);rw[O]at am ⊢;have ai:xs.length=k:=by rw[<-O,<-ab];simp[fls]
 by_cases ag:E=0
 . subst ag;have a5:=Ab H;have bd:=Ab ab;have bk:=Ab ai;have al:=Ab O;have I:=Ab Z;clear H ab ai O Z M;go_wp2;go_loopw [6,8,19] (fun bc _ i wr=>∃j:Nat,j<=k/\i=.int .i64 (j:Int)/\Hid (SRow wr G.heap.size bc ((fs.take j).map Fl.name))/\Hid (Below G.heap.size G wr)) (fun _ _ i _=>k-(intOf i).toNat)
   case atStart=>exact⟨0,VH _,rfl,Ab (SRow.nil _ _),Ab (Below.refl _ _)⟩
   case round=>
    obtain⟨j,bw,rfl,aw,U⟩:=hrel
    by_cases bi:j<k
    . obtain⟨x,H,a3⟩:=Ob (xs:=xs) (k:=j) (by rw[Aa bk];exact bi);obtain⟨b,o,rfl,hb,c0,c1,c2,ao,aq⟩:=(Aa a5).get (Aa U) H;have bt:=(Aa U).size;have bu:=(Aa I).size
      have ah:(fs.take (j+1)).map Fl.name=(fs.take j).map Fl.name++ [x.f.name]:=by
       have:fs[j]? =some x.f:=by rw[<-Aa bd];simp[fls,H]
       rw[Eu this];simp
      have aa:((fs.take j).map Fl.name).length=j:=by rw[WL,VL,Aa al];omega
      unfold Fv.sl at c1;have F:=Aa aw;unfold SRow at F;rw[aa]at F;obtain⟨az,au⟩:=exq ((fs.take j).map Fl.name);rw[au]at F ah aa;have bm:=Ab ah;clear au;have ay:=Ab (fun o1 o2:Obj=>(F.alloc o1).alloc o2);have bg:=Ab (fun o1 o2:Obj=>((Aa U).alloc bt o1).alloc (by simp;omega) o2);have as:∀g,u6.ownBlock=some g->G.heap.size<=g:=fun g e=>(F.lt g e).1
      have be:=Ab as;have bf:=Ab aa;obtain⟨⟨nml,bys,st,nd,gn⟩,bz,b0⟩:=x;dsimp only at c0 c1 c2 ao aq;obtain⟨nm,ae⟩:=exq (B nml);rw[ae]at c0;have a6:=Ab ae;generalize bys.length=bl at c1;clear H a3 ah aa ae F as;go_wp2_with (at_builtin;refine wpList_append_own_at _ rfl _ _ 43 rfl G.heap.size 9 a8 (.string ByteArray.empty) 1 16 Tryz.underlying43 hi ba a9 bj rfl (by decide) _ j (Qj az) rfl (Aa ay _ _) ⟨wr.heap.size+1,0,none⟩ 1 1 [.string nm] rfl rfl (fun i u hi=>Lu (Jo (by simp)) hi) (Bc rfl) (by unfold maxLen;omega) (by omega) (by simp;omega) ?_)
      intro v' w3 aj av _ _
      have a4:Hid (SRow w3 G.heap.size v' ((fs.take (j+1)).map Fl.name)):=Ab (by
       rw[Aa bm];unfold SRow;rw[VE,Aa bf,Qj,WU];rw[<-Aa a6]at aj;exact aj)
      have bq:Hid (Below G.heap.size G w3):=Ab ((Aa bg _ _).grown av (by simp;omega) (Aa be));clear aj av c0 c1 c2 ao aq;go_wp2;go_roundw
      case rel=>exact⟨j+1,by omega,by go_num,a4,bq⟩
      case measure=>simp[intOf];omega
    . obtain rfl:k=j:=by omega
      have an:fs.take k=fs:=VV (by rw[Aa al];exact VB _);have bh:=Ab an;clear an;go_wp2;go_ret2;exact⟨_,rfl,by have:=Aa aw;rw[Aa bh]at this;exact this.mono (Aa I).size,(Aa I).trans ((Aa U).mono (Aa I).size)⟩
 . have bo:=Aa bb ag;subst bo;have I:=Ab Z;have a7:((E:Int)==0)=false:=by rw[beq_eq_false_iff_ne];omega
   have bv:((E:Int)!=0)=true:=by rw[bne,a7];rfl
   clear H ab ai O Z M ag;go_wp2;go_ret2;exact⟨_,rfl,SRow.nil _ _,Aa I⟩
theorem Z63 {k:Nat}{out:List Nat}(H:IsOne [120,121] k out):2<=out.length:=by
 have E:=congrArg List.length H.row;rw[Af]at E;unfold oneB at E;rw[Dr]at E
 have I:10<=(JT [] [120,121] k true).length:=by
  unfold JT
  split
  . unfold Qm;simp only[VE,Ah];omega
  . split
    . have F:(Ha (Gi [120,121])).length=23:=by decide+kernel
      simp only[VE,F];omega
    . have F:14<=(IK [120,121]).length:=by
       have G:∀a b ts,14<=(Ga a b ts).length:=fun a b ts=>by
        unfold Ga Rw;simp only[VE,Ah];omega
       unfold IK
       split
       . exact G _ _ _
       . exact G _ _ _
      simp only[VE];omega
 omega
theorem MZ {G F:Type}{f:G->F}{l:List G}{b:F}(E:l.map f= [b]):∃x,l= [x]/\f x=b:=by
 cases l with
 |nil=>cases E
 |cons x r=>
  cases r with
  |nil=>exact⟨x,rfl,by simpa using E⟩
  |cons y r=>simp at E
def arF:Fl:=⟨[97],[120,121],3,0,false⟩
theorem Z30:errM [arF]=0:=by decide
theorem Z5s {x:En}(O:EOf x)(H:x.f=arF):(Be [x]).length=124:=by
 obtain⟨out,G,E⟩:=O.pk;rw[H]at G E;have T:=Z63 G;rw[Z22]
 rcases E with ⟨I,M,F⟩|⟨I,M,F⟩
 . have:out.length<2:=I
   omega
 . have hl:x.pk.length=2:=by rw[F];rfl
   simp only[Av,Ao,VE,Kc,Lk,WE,hl,H];rfl
theorem P5 (w:World):Calls Tryz.prog 9 #[] w fun e w'=>e=.returned (.bool true)/\Below w.heap.size w w':=by
 have bu:=Lib.run_convert_bytes_const (P:=Tryz.prog) w 23 5 #[.int .u8 120,.int .u8 121] 2 2 Tryz.underlying23 Tryz.underlying5
 have bd:BsIn (w.alloc (.cells #[.int .u8 120,.int .u8 121] 5 (2,3))) (some ⟨w.heap.size,0,none⟩) 2 [120,121]:=by
  refine .inr (.inr ⟨w.heap.size,0,rfl,by simp,by decide,fun j bj=> ?_⟩);rw[WG,cell_of_row _ _ _ _ _ _ (heap_alloc_new w _)]
  match j,bj with
  |0,_=>rfl
  |1,_=>rfl
 have ac:∀x∈ [(⟨arF,some ⟨w.heap.size,0,none⟩,2⟩:Fv)],FvIn (w.alloc (.cells #[.int .u8 120,.int .u8 121] 5 (2,3))) x:=by
  intro x ac;rw[WO.1 ac];exact⟨bd,by show 2<=_;decide,by show 1<=_;decide⟩
 have a7:=FsIn.new (w.alloc (.cells #[.int .u8 120,.int .u8 121] 5 (2,3))) [⟨arF,some ⟨w.heap.size,0,none⟩,2⟩] 30 #[.string ⟨#[97]⟩,.slice (some ⟨w.heap.size,0,none⟩) 2 2,.int .i64 3,.int .i64 0,.bool false] 1 rfl rfl ac (by show 1<=_;decide);have ao:=Ab (EB _ 1 1 _ _ a7 rfl);have bi:=Ab (((Below.refl w.heap.size w).alloc (VB _) (.cells #[.int .u8 120,.int .u8 121] 5 (2,3))).alloc (by simp) (.cells #[.string ⟨#[97]⟩,.slice (some ⟨w.heap.size,0,none⟩) 2 2,.int .i64 3,.int .i64 0,.bool false] 30));have a4:fls [(⟨arF,some ⟨w.heap.size,0,none⟩,2⟩:Fv)]= [arF]:=rfl;rw[a4]at ao;simp only[World.size_alloc]at ao;clear bd ac a7 a4;go_enter Tryz.func9,Tryz.ntmps9
 go_wp2_with fail
 refine(Aa ao).mono ?_;rintro e U ⟨a8,(⟨Z,_⟩|⟨_,l,aj,I,bn⟩)⟩
 . exact absurd Z30 Z
 . obtain⟨x,rfl,O⟩:=MZ aj;have E:=Z5s (I x (by simp)) O;have a2:errM ([x].map En.f)=0:=by rw[aj];exact Z30
   have ap:x.meth≠8:=by
    obtain⟨out,bw,(⟨a3,a0,be⟩|⟨a3,a0,be⟩)⟩:=(I x (by simp)).pk
    . exfalso
      have H:=E;unfold Be at H;simp only[Av,Ao,XA,VE,Kc,Lk,Pl,be]at H;rw[O]at H a3;have b5:arF.name.length=1:=rfl;have bt:arF.bytes.length=2:=rfl;omega
    . rw[a0];decide
   have ay:∀y∈ [x],EOk y:=fun y G=>by rw[WO.1 G];exact(I x (by simp)).sto (by rw[O];decide) ap
   have al:(∀y∈ [x],EOk y)/\readE (Be [x])=0/\readL (Be [x])= [x].map En.f:=⟨ay,ME [x] ay a2 (WX.2 fun y G=>decide_eq_true (I y G).cr) (by rw[E];decide)⟩
   have ak:=Yx [x] (fun y G=>(((I y G).num (by rw[WO.1 G,O];decide)).2))
   rcases bn with ⟨Z,_⟩|⟨_,a,c,rfl,ab,ai⟩
   . rw[E]at Z;exact absurd Z (by decide)
   . have au:readL (Be [x])= [arF]:=by rw[al.2.2,aj]
     have av:=al.2.1;have a1:=(Aa bi).trans (a8.mono (by simp;omega))
     have ag:Z5x (Be [x]):=by
      have H:=Se [x] al.1 [] (F:=(Be [x]).length+1) (Yy [x]);rw[XA]at H;exact .inr ⟨[x],H,fun y G=>by rw[WO.1 G];exact ap⟩
     obtain⟨ah,am⟩:=exq (Be [x]);rw[am]at E ak ai au av ab ag;have af:=Ab (fun(W:World) (az:Below U.heap.size U W)=>Ps ah.length c a ah W rfl ab (ai.below az) ak (by rw[E];decide) ag);have aq:=Ab (fun(W:World) (az:Below U.heap.size U W)=>Tz ah.length c a ah W rfl ab (ai.below az) ak (by rw[E];decide) ag);unfold RdA at af;rw[av,au]at af aq;rw[am,E];rw[E]at af aq;have an:=Ab a1;clear a8 a1 ai ak E al ay I aj a2 au av am ab O ag ap;go_wp2_with fail
     refine(Aa af U (Below.refl _ _)).mono ?_;rintro e bh ⟨b3,rfl,⟨ad,c2,out,rfl,bb,bc⟩,a5⟩;obtain⟨z,rfl,a9⟩:=MZ (f:=Fv.f) bc;have ax:=Ab a5;have ar:=Ab bb;clear a5 bb bc;go_wp2_with fail
     refine(Aa aq bh (Aa ax)).mono ?_;rintro e w3 ⟨bv,rfl,aw,aa⟩;obtain⟨b,o,bo,bq,d0,M,ae,_⟩:=(Aa ar).get (k:=0) (x:=z) (w':=w3) aa rfl;have ba:=((Aa ar).all z (by simp)).bs.below aa (VB _)
     cases bo
     simp only[YJ,XN]at d0 M ae;unfold Fv.sl at M;have Y:=Po ba;rw[a9]at M ae Y;have as:=((Aa an).trans ((Aa ax).mono (Aa an).size)).trans (aa.mono (by have:=(Aa an).size;have:=(Aa ax).size;omega));replace M:w3.cell? ⟨b,o+1,none⟩=some (.slice z.a 2 z.c):=M;replace ae:w3.cell? ⟨b,o+2,none⟩=some (.int .i64 3):=ae;replace Y:(convert 23 9 (.slice z.a 2 z.c)).run Tryz.prog w3=.ok (.string (B [120,121])) w3:=Y;have bk:((B [120,121]).toList== [120,121])=true:=by rw[Fh];rfl
     obtain⟨T,a6⟩:=exq (B [120,121]);rw[a6]at Y bk;have bm:=Ab (Z2y (aw.below ((Below.refl w3.heap.size w3).alloc (VB _) (.cells (Qj [[97]]).toArray 9))) (SRow.new w3 [[97]] (by show 1<=maxLen;decide)));obtain⟨bz,b4,rfl⟩:=An aw;have bg:=Ab (as.alloc as.size (.cells (Qj [[97]]).toArray 9));clear aa as aw ba a6 ar d0 bq a9;go_wp2_with fail
     refine(Aa bm).mono ?_;rintro e b0 ⟨rfl,q,rfl⟩;have bf:decide ([arF].map Fl.name= [[97]])=true:=by decide
     rw[bf];go_wp2;go_ret;exact⟨rfl,Ae (Aa bg) _⟩
theorem Z8c (a b:Fl):(a=b)↔(a.name=b.name/\a.bytes=b.bytes/\a.stamp=b.stamp/\a.node=b.node/\a.gone=b.gone):=by
 cases a;cases b;simp
theorem Z03 (x y:Fv)(w:World)(U:FvIn w x)(ab:FvIn w y):
 Calls Tryz.prog 11 #[x.val,y.val] w fun e w'=>e=.returned (.bool (decide (x.f=y.f)))/\Below w.heap.size w w':=by
 have H:=Ab (fun W (Z:Below w.heap.size w W)=>Z1q (U.bs.below Z (VB _)) (ab.bs.below Z (VB _)));have aa:=Z8c x.f y.f
 have hn:((B x.f.name).toList==(B y.f.name).toList)=decide (x.f.name=y.f.name):=by
  rw[Fh,Fh,XZ,beq_iff_eq,decide_eq_true_iff]
 rw[Nw,Nw];obtain⟨r,hr⟩:=exq (decide (x.f=y.f));have Y:r=decide (x.f.name=y.f.name/\x.f.bytes=y.f.bytes/\x.f.stamp=y.f.stamp/\x.f.node=y.f.node/\x.f.gone=y.f.gone):=by rw[<-hr];exact decide_eq_decide.2 aa
 rw[hr];clear aa hr U ab;have F:=Ab Y;clear Y
 by_cases I:x.f.name=y.f.name
 . rw[decide_eq_true I]at hn
   by_cases G:x.f.bytes=y.f.bytes
   . by_cases M:x.f.stamp=y.f.stamp
     . by_cases O:x.f.node=y.f.node
       . have E:r=decide (x.f.gone=y.f.gone):=by rw[Aa F];exact decide_eq_decide.2 ⟨fun k=>k.2.2.2.2,fun k=>⟨I,G,M,O,k⟩⟩
         rw[E];rw[decide_eq_true G]at H;clear I G E F;generalize B x.f.name=t at*;generalize B y.f.name=T at*;generalize x.f.bytes.length=n at*;generalize y.f.bytes.length=n2 at*;generalize x.f.stamp=ac at*;generalize y.f.stamp=ae at*;generalize x.f.node=ag at*;generalize y.f.node=af at*;generalize x.f.gone=g1 at*;generalize y.f.gone=g2 at*;subst M;subst O;go_enter Tryz.func11,Tryz.ntmps11
         go_wp2_with (go_at_call 13;refine(Aa H _ (Ck (Ck (Below.refl _ _) _) _)).mono ?_;rintro e w' ⟨rfl,rfl⟩)
         go_ret;exact⟨Dq (by cases g1<;>cases g2<;>rfl),Ck (Ck (Below.refl _ _) _) _⟩
       . have E:r=false:=by rw[Aa F];exact decide_eq_false (fun k=>O k.2.2.2.1)
         have hb:(x.f.node==y.f.node)=false:=by simpa using O
         rw[E];rw[decide_eq_true G]at H;clear I G E F O;generalize B x.f.name=t at*;generalize B y.f.name=T at*;generalize x.f.bytes.length=n at*;generalize y.f.bytes.length=n2 at*;generalize x.f.stamp=ac at*;generalize y.f.stamp=ae at*;subst M;go_enter Tryz.func11,Tryz.ntmps11
         go_wp2_with (go_at_call 13;refine(Aa H _ (Ck (Ck (Below.refl _ _) _) _)).mono ?_;rintro e w' ⟨rfl,rfl⟩)
         go_ret;exact⟨rfl,Ck (Ck (Below.refl _ _) _) _⟩
     . have E:r=false:=by rw[Aa F];exact decide_eq_false (fun k=>M k.2.2.1)
       have hb:(x.f.stamp==y.f.stamp)=false:=by simpa using M
       rw[E];rw[decide_eq_true G]at H;clear I G E F M;generalize B x.f.name=t at*;generalize B y.f.name=T at*;generalize x.f.bytes.length=n at*;generalize y.f.bytes.length=n2 at*;go_enter Tryz.func11,Tryz.ntmps11
       go_wp2_with (go_at_call 13;refine(Aa H _ (Ck (Ck (Below.refl _ _) _) _)).mono ?_;rintro e w' ⟨rfl,rfl⟩)
       go_ret;exact⟨rfl,Ck (Ck (Below.refl _ _) _) _⟩
   . have E:r=false:=by rw[Aa F];exact decide_eq_false (fun k=>G k.2.1)
     rw[E];rw[decide_eq_false G]at H;clear I G E F;generalize B x.f.name=t at*;generalize B y.f.name=T at*;generalize x.f.bytes.length=n at*;generalize y.f.bytes.length=n2 at*;go_enter Tryz.func11,Tryz.ntmps11
     go_wp2_with (go_at_call 13;refine(Aa H _ (Ck (Ck (Below.refl _ _) _) _)).mono ?_;rintro e w' ⟨rfl,rfl⟩)
     go_ret;exact⟨rfl,Ck (Ck (Below.refl _ _) _) _⟩
 . have E:r=false:=by rw[Aa F];exact decide_eq_false (fun k=>I k.1)
   rw[E];rw[decide_eq_false I]at hn;clear I E F H;generalize B x.f.name=t at*;generalize B y.f.name=T at*;generalize x.f.bytes.length=n at*;generalize y.f.bytes.length=n2 at*;go_enter Tryz.func11,Tryz.ntmps11
   go_wp2;go_ret;exact⟨rfl,Ck (Ck (Below.refl _ _) _) _⟩
theorem Z3g {E:Type}{a b:List E}{k:Nat}{x y:E}(G:a[k]? =some x)(F:b[k]? =some y)(H:x≠y):a≠b:=by
 rintro rfl;rw[G]at F;exact H (VM F)
theorem Z3h {E:Type}{a b:List E}{k:Nat}{x:E}(H:a.take k=b.take k)(F:a[k]? =some x)(G:b[k]? =some x):a.take (k+1)=b.take (k+1):=by
 rw[XM,XM,H,F,G]
theorem Yj (af am:Option Addr)(c d:Nat)(xs ys:List Fv)(w:World)(E:FsIn w af c xs)(k:FsIn w am d ys)(n m:Nat)(G:xs.length=n)(I:ys.length=m):
 Calls Tryz.prog 44 #[.slice af n c,.slice am m d,.func (.func 11) #[] #[]] w fun e w'=>e=.returned (.bool (decide (fls xs=fls ys)))/\Below w.heap.size w w':=by
 have H:(fls xs).length=n:=by simp[fls,G]
 have M:(fls ys).length=m:=by simp[fls,I]
 have ba:=E.lim;rw[G]at ba
 by_cases ai:n=m
 . subst ai;obtain⟨r,hr⟩:=exq (decide (fls xs=fls ys));rw[hr];have ao:=Ab E;have ae:=Ab k;have bb:=Ab G;have a3:=Ab I;have aa:=Ab hr;have a8:=Ab H;have a9:=Ab M;have a7:((n:Int)!=(n:Int))=false:=by simp
   clear E k G I hr H M;go_enter Tryz.func44,Tryz.ntmps44
   go_wp2;go_loopw [7,8,9,17] (fun _ _ _ i wr=>∃k:Nat,k<=n/\i=.int .i64 (k:Int)/\Hid ((fls xs).take k=(fls ys).take k)/\Hid (Below w.heap.size w wr)) (fun _ _ _ i _=>n-(intOf i).toNat)
   case atStart=>exact⟨0,VH _,rfl,by simp;exact trivial,Below.refl _ _⟩
   case round=>
    obtain⟨k,bh,rfl,aq,F⟩:=hrel
    by_cases al:k<n
    . obtain⟨x,T,aj⟩:=Ob (xs:=xs) (k:=k) (by rw[Aa bb];exact al);obtain⟨y,Z,as⟩:=Ob (xs:=ys) (k:=k) (by rw[Aa a3];exact al);obtain⟨b,o,bd,hb,c0,c1,c2,bv,bw⟩:=(Aa ao).get (Aa F) T;obtain⟨bq,bn,a4,bm,d0,O,ar,ap,az⟩:=(Aa ae).get (Aa F) Z;have bz:=(Aa F).size;have ac:(fls xs)[k]? =some x.f:=by simp[fls,T]
      have ag:(fls ys)[k]? =some y.f:=by simp[fls,Z]
      have ak:=Ab ac;have au:=Ab ag;have U:=Ab (fun W (a0:Below w.heap.size w W)=>Z03 x y W (((Aa ao).all x aj).below a0 (VB _)) (((Aa ae).all y as).below a0 (VB _)));rw[Nw,Nw]at U;have ay:x.sl=.slice x.a x.f.bytes.length x.c:=rfl;have ah:y.sl=.slice y.a y.f.bytes.length y.c:=rfl;rw[ay]at c1;rw[ah]at O;obtain⟨q,Y⟩:=exq (decide (x.f=y.f));rw[Y]at U;have ax:=Ab Y;clear T Z aj as ac ag ay ah Y;subst bd;subst a4;generalize B x.f.name=t at*;generalize B y.f.name=bi at*;generalize x.f.bytes.length=bj at*;generalize y.f.bytes.length=bu at*;generalize x.f.stamp=bo at*;generalize y.f.stamp=bk at*;generalize x.f.node=n1 at*;generalize y.f.node=n2 at*;generalize x.f.gone=g1 at*;generalize y.f.gone=g2 at*;have ab:=Ab (fun o1 o2=>Ck (Ck (Aa F) o1) o2);have bf:=fun o=>Sw (o:=o) d0
      have a6:=fun o=>Sw (o:=o) O
      have a2:=fun o=>Sw (o:=o) ar
      have bc:=fun o=>Sw (o:=o) ap
      have bg:=fun o=>Sw (o:=o) az
      clear d0 O ar ap az;go_wp2_with fail
      refine(Aa U _ (Aa ab _ _)).mono ?_;rintro e bt ⟨rfl,an⟩;have av:=Ab ((Aa ab _ _).trans (an.mono (by simp;omega)));clear an bf a6 a2 bc bg
      cases q with
      |false=>
       have a1:r=false:=by
        rw[<-Aa aa];exact decide_eq_false (Z3g (Aa ak) (Aa au) (of_decide_eq_false (Aa ax)))
       subst a1;go_wp2;go_ret;exact⟨rfl,Aa av⟩
      |true=>
       have aw:x.f=y.f:=of_decide_eq_true (Aa ax);have a5:=Ab (Z3h (Aa aq) (Aa ak) (by rw[aw];exact Aa au));clear aw;go_wp2;go_roundw
       case rel=>exact⟨k+1,by omega,by go_num,Aa a5,Aa av⟩
       case measure=>simp[intOf];omega
    . obtain rfl:n=k:=by omega
      have be:r=true:=by
       rw[<-Aa aa];have:=Aa aq
       rw[VV (by rw[Aa a8];exact VB _),VV (by rw[Aa a9];exact VB _)]at this;exact decide_eq_true this
      subst be;go_wp2;go_ret;exact⟨rfl,Aa F⟩
 . have e:decide (fls xs=fls ys)=false:=decide_eq_false (fun E=>ai (by rw[<-H,<-M,E]));rw[e];have a7:((n:Int)!=(m:Int))=true:=by simp;omega
   clear E k G I e H M;go_enter Tryz.func44,Tryz.ntmps44
   go_wp2;go_ret;exact⟨rfl,Below.refl _ _⟩
theorem Xe (E F:Option Addr)(c d:Nat)(xs ys:List Fv)(w:World)(G:FsIn w E c xs)(k:FsIn w F d ys)(n m:Nat)(M:xs.length=n)(I:ys.length=m):
 Calls Tryz.prog 17 #[.slice E n c,.slice F m d] w fun e w'=>e=.returned (.bool (decide (fls xs=fls ys)))/\Below w.heap.size w w':=by
 have O:=Ab (Yj E F c d xs ys w G k n m M I);clear G k;generalize decide (fls xs=fls ys)=r at*;go_enter Tryz.func17,Tryz.ntmps17
 go_wp2_with fail
 refine(Aa O).mono ?_;rintro e U ⟨rfl,H⟩;have T:=Ab H;clear H;go_wp2;go_ret;exact⟨rfl,Aa T⟩
end Go.Proofs.YtleocpdblhbimaaGreatDoor
namespace Go.Proofs.YtleocpdblhbimaaGreatDoor
open Go.RowKit
set_option linter.unusedVariables false
theorem Z69 {w:World}{v u:Value}{a b:List Fl}(I:LIn w v a)(k:LIn w u b):
 Calls Tryz.prog 17 #[v,u] w fun e w'=>e=.returned (.bool (decide (a=b)))/\Below w.heap.size w w':=by
 obtain⟨ad,c,out,rfl,H,E⟩:=I;obtain⟨O,d,M,rfl,k2,F⟩:=k;refine(Xe ad O c d out M w H k2 _ _ (PH E) (PH F)).mono ?_;rintro e w' ⟨rfl,G⟩;rw[E,F];exact⟨rfl,G⟩
theorem Z02 {w:World}{v u:Value}{a b:List Fl}(E:LIn w v a)(k:LIn w u b)(e:a=b):
 Calls Tryz.prog 17 #[v,u] w fun e w'=>e=.returned (.bool true)/\Below w.heap.size w w':=by
 have:=Z69 E k
 rw[decide_eq_true e]at this;exact this
end Go.Proofs.YtleocpdblhbimaaGreatDoor
namespace Go.Proofs.YtleocpdblhbimaaGreatDoor
open Go.RowKit
set_option linter.unusedVariables false
set_option maxRecDepth 100000
theorem Z1w {w w':World}(E:∃q,w'=w.drewN q):Below w.heap.size w w':=by
 obtain⟨q,rfl⟩:=E;exact Ae (Below.refl _ _) q
theorem Q3 (n H:Nat)(a:Option Addr)(bs:List Nat)(w:World)(ai:bs.length=n)(az:n<=H)(am:PkIn w a H bs)(ag:∀x∈bs,x<256)(bm:n<=9223372036854775807)(b7:UnC True):
 Calls Tryz.prog 4 #[.slice a n H] w fun e w'=>e=.returned (.bool true)/\Below w.heap.size w w':=by
 obtain⟨c8,hi,da,c9,cv⟩:=info_parts I7;have ae:=Ab (Ps n H a bs w ai az am ag bm (.inl Z8n));have au:=Ab (fun(W:World) (O:Below w.heap.size w W)=>Tz n H a bs W ai az (am.below O) ag bm (.inl Z8n));have ab:Hid (¬12000<n->∀(W:World) (O:Below w.heap.size w W),Calls Tryz.prog 16 #[.slice a n H] W fun e w'=>RdA W bs e w'):=Ab (fun h W O=>Qw a n H bs W ai (by omega) az (am.below O) ag b7);have U:12000<n->readE bs=2:=fun h=>by unfold readE;rw[if_pos (by omega)]
 have al:readE bs≠0->readL bs= []:=fun h=>by unfold readL;rw[if_pos h]
 have cm:(readL bs).length<=12:=by
  by_cases bh:readE bs=0
  . obtain⟨l,_,U,_,_,c5,_⟩:=C6 bh;rw[c5];exact(Mr U).1
  . rw[al bh];exact VH _
 unfold RdA at ae ab;obtain⟨I,a2⟩:=exq (readE bs);obtain⟨fs,a3⟩:=exq (readL bs);obtain⟨k,ao⟩:=exq (fs.length);rw[a2,a3]at ae au al ab;rw[a2]at U;rw[a3,ao]at cm;have bk:(fs.map Fl.name).length=k:=by simpa using ao
 have aa:=Ab al;have be:=Ab U;have T:=Ab ao;have b8:=Ab bk;clear ai am ag al U ao bk a2 a3 b7;go_enter Tryz.func4,Tryz.ntmps4
 go_wp2_with fail
 refine(Aa ae).mono ?_;rintro e cy ⟨di,rfl,ay,bw⟩;obtain⟨dh,c1,ce⟩:=ay.shape;rw[Aa T]at ce;subst ce;have bn:=Ab ay;have af:=Ab bw;clear ay bw ae;go_wp2_with fail
 refine(Aa au cy (Aa af)).mono ?_;rintro e dd ⟨de,rfl,a6,a1⟩
 obtain⟨bi,c2,cn⟩:∃bi c2,de=.slice bi k c2:=by
  rcases a6.cases with ⟨aq,U⟩|⟨g,ck,aq,_⟩
  . have:=Aa b8;rw[U]at this;exact⟨none,0,by rw[aq,<-this];rfl⟩
  . exact⟨_,ck,by rw[aq,Aa b8]⟩
 subst cn;have b5:=Ab a6;have Y:=Ab ((Aa af).trans (a1.mono (Aa af).size));have bd:=Ab a1;clear a6 a1 au;go_wp2_with fail
 refine(P5 dd).mono ?_;rintro e w3 ⟨rfl,ap⟩;have M:=Ab ((Aa Y).trans (ap.mono (Aa Y).size));have b0:=Ab ((Aa bn).below ((Aa bd).trans (ap.mono (Aa bd).size)));have ak:=Ab ((Aa b5).below ap);clear ap af Y bd bn b5;have ct:((I:Int)!=(I:Int))=false:=by simp
 have cz:((I:Int)==(I:Int))=true:=by simp
 by_cases hn:12000<n
 . have c3:=Aa be hn;subst c3;have ax:=Aa aa (by decide);subst ax;have Z:=Aa T;simp only[WE]at Z;subst Z;have co:(12000:Int)<(n:Int):=by omega
   clear hn be aa ab;go_wp2;go_ret;exact⟨rfl,Aa M⟩
 have co:¬(12000:Int)<(n:Int):=by omega
 have bz:=Ab (Aa ab hn w3 (Aa M));clear hn be ab;go_wp2_with fail
 refine(Aa bz).mono ?_;rintro e G ⟨dg,rfl,⟨dj,a7,xs,b9,bf,aj⟩,ac⟩;rw[Aa T]at b9;subst b9;have an:=Ab ((Aa M).trans (ac.mono (Aa M).size));have bj:=Ab ((Aa b0).below ac);have bo:=Ab ((Aa ak).below ac);clear ac b0 ak M bz
 by_cases a9:I=0
 . subst a9;have ci:xs.length=k:=by rw[<-Aa T,<-aj];simp[fls]
   have a4:=Ab bf;have ba:=Ab aj;have cg:=Ab ci;clear bf aj ci ct cz aa;go_wp2;go_loopw [9,11,66] (fun dc _ i wr=>∃j:Nat,j<=k/\i=.int .i64 (j:Int)/\Hid (SRow wr G.heap.size dc ((fs.take j).map Fl.name))/\Hid (Below G.heap.size G wr)) (fun _ _ i _=>k-(intOf i).toNat)
   case atStart=>exact⟨0,VH _,rfl,Ab (SRow.nil _ _),Ab (Below.refl _ _)⟩
   case round=>
    obtain⟨j,dn,rfl,aw,F⟩:=hrel
    by_cases cu:j<k
    . obtain⟨x,a5,cl⟩:=Ob (xs:=xs) (k:=j) (by rw[Aa cg];exact cu);obtain⟨b,o,rfl,hb,c0,c1,c2,cd,a7⟩:=(Aa a4).get (Aa F) a5;have df:=(Aa F).size
      have av:(fs.take (j+1)).map Fl.name=(fs.take j).map Fl.name++ [x.f.name]:=by
       have:fs[j]? =some x.f:=by rw[<-Aa ba];simp[fls,a5]
       rw[Eu this];simp
      have ah:((fs.take j).map Fl.name).length=j:=by rw[WL,VL,Aa T];omega
      unfold Fv.sl at c1;have E:=Aa aw;unfold SRow at E;rw[ah]at E;obtain⟨c4,bu⟩:=exq ((fs.take j).map Fl.name);rw[bu]at E av ah;have cw:=Ab av;clear bu;have cj:=Ab (fun o1 o2:Obj=>(E.alloc o1).alloc o2);have Y:=Ab (fun o1 o2:Obj=>((Aa F).alloc df o1).alloc (by simp;omega) o2);have bt:∀g,u9.ownBlock=some g->G.heap.size<=g:=fun g e=>(E.lt g e).1
      have cq:=Ab bt;have db:=Ab ah;obtain⟨⟨nml,bys,st,nd,gn⟩,dp,dq⟩:=x;dsimp only at c0 c1 c2 cd a7;obtain⟨nm,ar⟩:=exq (B nml);rw[ar]at c0;have c6:=Ab ar;generalize bys.length=bl at c1;clear a5 cl av ah ar E bt;go_wp2_with (at_builtin;refine wpList_append_own_at _ rfl _ _ 43 rfl G.heap.size 9 c8 (.string ByteArray.empty) 1 16 Tryz.underlying43 hi da c9 cv rfl (by decide) _ j (Qj c4) rfl (Aa cj _ _) ⟨wr.heap.size+1,0,none⟩ 1 1 [.string nm] rfl rfl (fun i u hi=>Lu (Jo (by simp)) hi) (Bc rfl) (by unfold maxLen;omega) (by omega) (by simp;omega) ?_)
      intro v' b3 a0 ch _ _
      have ak:Hid (SRow b3 G.heap.size v' ((fs.take (j+1)).map Fl.name)):=Ab (by
       rw[Aa cw];unfold SRow;rw[VE,Aa db,Qj,WU];rw[<-Aa c6]at a0;exact a0)
      have M:Hid (Below G.heap.size G b3):=Ab ((Aa Y _ _).grown ch (by simp;omega) (Aa cq));clear a0 ch c0 c1 c2 cd a7;go_wp2;go_roundw
      case rel=>exact⟨j+1,by omega,by go_num,ak,M⟩
      case measure=>simp[intOf];omega
    . obtain rfl:k=j:=by omega
      have bq:fs.take k=fs:=VV (by rw[Aa T];exact VB _);have E:=Aa aw;rw[bq]at E;have bg:=Ab (Z02 ((Aa bj).below (Aa F)) (Z6s ((Aa a4).below (Aa F) (VB _)) (Aa cg)) (Aa ba).symm);have as:=Ab (fun(W:World) (O:Below wr.heap.size wr W)=>Z2y (((Aa bo).below (Aa F)).below O) (E.below O));rw[decide_eq_true rfl]at as;have bc:=Ab ((Aa an).trans ((Aa F).mono (Aa an).size));clear bq E aw F bj bo a4 ba an;go_wp2_with fail
      refine(Aa bg).mono ?_;rintro e w6 ⟨rfl,a8⟩;have bv:=Ab (Aa as w6 a8);have bb:=Ab ((Aa bc).trans (a8.mono (Aa bc).size));clear a8 as bg bc;go_wp2_with fail
      refine(Aa bv).mono ?_;rintro e dl ⟨rfl,b4⟩;have cp:=Ab ((Aa bb).trans ((Z1w b4).mono (Aa bb).size));clear b4 bv bb;go_wp2;go_ret;exact⟨rfl,Aa cp⟩
 . have ax:=Aa aa a9;subst ax;have Z:=Aa T;simp only[WE]at Z;subst Z;have c7:((I:Int)==0)=false:=by rw[beq_eq_false_iff_ne];omega
   have dm:((I:Int)!=0)=true:=by rw[bne,c7];rfl
   clear a9 bf aj aa;go_wp2;go_ret;exact⟨rfl,Aa an⟩
end Go.Proofs.YtleocpdblhbimaaGreatDoor
namespace Go.Proofs.YtleocpdblhbimaaGreatDoor
open Go.RowKit Go.ChangeShapes Go.WideShapes Go.ChangeAt Go.Deep
set_option linter.unusedVariables false
theorem RV (b o j:Nat):(⟨b,o,none⟩:Addr).add j=⟨b,o+j,none⟩:=by unfold Addr.add;split<;>simp_all
theorem Z7a:Tryz.prog.cellsOf 5=1:=by kernel_rfl
end Go.Proofs.YtleocpdblhbimaaGreatDoor
namespace Go.Proofs.YtleocpdblhbimaaGreatDoor
open Go.RowKit Go.ChangeShapes Go.WideShapes Go.ChangeAt Go.Deep
set_option linter.unusedVariables false
set_option maxRecDepth 100000
theorem Z5h:Tryz.prog.bytesOf 5=1:=by kernel_rfl
theorem Z4b {H:Type}{enc:TypeId×Value->H}{w:World}{aa:Nat}{v:Value}{x:DataW H×List MemPlace}
 (h:DataW.trod enc Tryz.prog w 0 (fun _=>true) true aa 23 [v]=some x) (ac:∀n∈x.1.weights Tryz.prog 23,n<=140737488351232):∃a c bs,v=.slice a bs.length c/\BsIn w a c bs/\bs.length<=140737488351232:=by
 rcases open_ints Tryz.underlying23 Tryz.underlying5 Z7a h with ⟨F,_⟩|⟨a,l,c,E,F,_,hl,hm,ai,Y,M,ah⟩
 . simp at F
   subst F;exact⟨none,0,[],rfl,.inl ⟨rfl,rfl,rfl⟩,by simp⟩
 . simp at F
   subst F;have aj:E.length=c:=by simpa using ai
   have hb:∀j,j<E.length->0<=E.getD j 0/\E.getD j 0<=255:=by
    intro j I;have af:E.getD j 0∈E:=by simp[List.getD,I]
    have:=ah _ af
    simpa[Lit.wf,IntKind.min,IntKind.max,IntKind.signed,IntKind.bits]using this
   have G:((E.take l).map fun n=>UInt8.ofNat n.toNat).length=l:=by simp;omega
   have hc:c<=140737488351232:=by
    apply ac
    rw[Y];simp only[DataW.weights,Tryz.underlying23,Z5h];refine WH.2 (.inl ?_);simp[lits]
    omega
   refine⟨some a,c,(E.take l).map fun n=>UInt8.ofNat n.toNat,by rw[G], ?_,by rw[G];omega⟩
   by_cases ab:l=0
   . subst ab;exact .inr (.inl ⟨by simp,a,rfl⟩)
   . obtain⟨b,o,Z⟩:=a;have U:=M 0 (by omega);have ag:Z=none:=by simpa[Addr.add]using World.cell?_spot U
     subst ag;refine .inr (.inr ⟨b,o,rfl, ?_,by rw[G];exact hl, ?_⟩)
     . have:=World.block_lt_of_cell? _ _ U
       simpa[Addr.add]using this
     . intro j I;rw[G]at I;have O:=M j (by omega);rw[RV]at O;rw[O];have T:j<E.length:=by omega
       have ae:=hb j T;have e:((E.take l).map fun n=>UInt8.ofNat n.toNat).getD j 0=UInt8.ofNat (E.getD j 0).toNat:=by simp[List.getD,I,T]
       rw[e]
       have e2:(UInt8.ofNat (E.getD j 0).toNat).toNat=(E.getD j 0).toNat:=by
        rw[UInt8.toNat_ofNat'];omega
       rw[e2,YU ae.1]
instance:Inhabited Fv:=⟨⟨⟨[],[],0,0,false⟩,none,0⟩⟩
end Go.Proofs.YtleocpdblhbimaaGreatDoor
