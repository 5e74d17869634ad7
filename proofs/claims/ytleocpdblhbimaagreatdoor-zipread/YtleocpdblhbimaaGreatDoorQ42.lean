import Derived.Test.YtleocpdblhbimaaGreatDoorQ41
import Derived.Shelf.Slices.Equal
import Derived.Shelf.Slices.Empties2
import Derived.Lib.SlBytesConst
import Derived.Test.YtleocpdblhbimaaGreatDoorQ26
import Derived.Deep.Slices
import Derived.SizedLaws
import Derived.Deep.Strs
set_option linter.unusedSimpArgs false
set_option maxHeartbeats 4000000
namespace Go.Proofs.YtleocpdblhbimaaGreatDoor
open Go.RowKit
set_option linter.unusedVariables false
set_option maxRecDepth 100000
theorem EOf.sto {x:En}(h:EOf x)(hv:Mq x.f=0)(hm:x.meth≠8):EOk x:=by
 obtain⟨hn,hp⟩:=h.num hv;refine⟨⟨hn.st.1,by have:=hn.st.2;omega⟩,⟨hn.nd.1,by have:=hn.nd.2;omega⟩,by have:=hn.nm;omega,by have:=hn.pl;omega,hn.cr,hn.mt, ?_⟩;obtain⟨out,ho,(⟨q1,q2,q3⟩|⟨q1,q2,q3⟩)⟩:=h.pk
 . exact absurd q2 hm
 . unfold unpF;rw[q2,q3,if_pos rfl]
theorem Z22:∀(l:List En),(Be l).length=22+(Av l).length+(Ao 0 l).length:=fun l=>by
 unfold Be;rw[VE,VE,Pl];omega
def Z75:Go.Shelf.Ren:=⟨fun|193=>18|n=>n,fun|31=>43|9=>9|4=>4|3=>3|0=>0|n=>n,fun|n=>n⟩
theorem Sd:Go.Proofs.Lays.n193 Tryz.prog Z75:= {
 mixed:=by kernel_rfl
 f193:=Tryz.func18.trans (congrArg some (by kernel_rfl))
 t0:=Tryz.underlying0
 a0:=Tryz.isAgg0
 z0:=Tryz.sizeOf0
 v0:=Tryz.zeroValue0
 t3:=Tryz.underlying3
 a3:=Tryz.isAgg3
 z3:=Tryz.sizeOf3
 v3:=Tryz.zeroValue3
 t4:=Tryz.underlying4
 a4:=Tryz.isAgg4
 z4:=Tryz.sizeOf4
 v4:=Tryz.zeroValue4
 t9:=Tryz.underlying9
 a9:=Tryz.isAgg9
 z9:=Tryz.sizeOf9
 v9:=Tryz.zeroValue9
 t31:=Tryz.underlying43
 a31:=Tryz.isAgg43
 z31:=Tryz.sizeOf43
 v31:=Tryz.zeroValue43}
theorem Z2w (ps:List (List UInt8))(j:Nat)(hj:j<(ps.map B).length):(ps.map B)[j]? =some ((ps.map B).getD j ByteArray.empty):=by
 simp only[WL]at hj;simp[List.getD,hj]
theorem Z2y {b c:Nat}{v u:Value}{ps qs:List (List UInt8)}{w:World}(h:SRow w b v ps)(h2:SRow w c u qs):
 Calls Tryz.prog 18 #[v,u] w fun e w'=>e=.returned (.bool (decide (ps=qs)))/\∃q,w'=w.drewN q:=by
 have done0:∀w':World,w'=w->∃q,w'=w.drewN q:=fun w' e=>⟨0,by rw[e];rfl⟩
 rcases h.cases with ⟨rfl,rfl⟩|⟨g,cap,rfl,hg,hgs,hc,hm,hcell⟩
 . rcases h2.cases with ⟨rfl,rfl⟩|⟨g2,cap2,rfl,hg2,hgs2,hc2,hm2,hcell2⟩
   . refine(Any.slices_Equal_string_empty Sd none none 0 0 0 w (by decide)).mono ?_;rintro e w' ⟨rfl,hw⟩;exact⟨rfl,done0 _ hw⟩
   . unfold maxLen at hm2;refine(Any.slices_Equal_string_empty Sd none _ 0 qs.length cap2 w (by omega)).mono ?_;rintro e w' ⟨rfl,hw⟩;refine⟨Dq ?_,done0 _ hw⟩;rw[decide_eq_decide];rw[ZH];exact⟨fun e=>e.symm,fun e=>e.symm⟩
 . rcases h2.cases with ⟨rfl,rfl⟩|⟨g2,cap2,rfl,hg2,hgs2,hc2,hm2,hcell2⟩
   . by_cases h0:ps.length=0
     . rw[h0];refine(Any.slices_Equal_string_empty Sd _ none cap 0 0 w (by decide)).mono ?_;rintro e w' ⟨rfl,hw⟩;refine⟨Dq ?_,done0 _ hw⟩;rw[ZH.1 h0];rfl
     . refine(Any.slices_Equal_string_lens Sd _ none ps.length cap 0 0 w h0).mono ?_;rintro e w' ⟨rfl,hw⟩;refine⟨Dq ?_,done0 _ hw⟩;have:ps≠ []:=fun e=>h0 (by rw[e];rfl)
       simp[this]
   . unfold maxLen at hm hm2;refine(Any.slices_Equal_string Sd g 0 ps.length cap g2 0 qs.length cap2 (ps.map B) (qs.map B) w (by simp) (by simp) (by omega) (by omega) (fun j hj=>hcell j _ (Z2w ps j hj)) (fun j hj=>hcell2 j _ (Z2w qs j hj))).mono ?_;rintro e w' ⟨rfl,hw⟩;refine⟨Dq ?_,hw⟩;rw[decide_eq_decide,VV (by simp),VV (by simp)]
     constructor
     . intro e;have:=congrArg (List.map fun x:ByteArray=>x.data.toList) e
       simp only[ZU]at this;have e3:((fun x:ByteArray=>x.data.toList) ∘ B)=id:=by funext l;rfl
       rw[e3,List.map_id,List.map_id]at this;exact this
     . intro e;rw[e]
theorem I7:(Tryz.prog.info? 9).map (fun i=>(i.zero,i.size,i.bytes))=some (some (.string ByteArray.empty),1,16):=by kernel_rfl
theorem Tz (n cap:Nat)(a:Option Addr)(bs:List Nat)(w:World)(hl:bs.length=n)(hc:n<=cap)(hP:PkIn w a cap bs)(hv:∀x∈bs,x<256)(hm:n<=9223372036854775807)(hS:Z5x bs):
 Calls Tryz.prog 15 #[.slice a n cap] w fun e w'=>∃v,e=.returned (.tuple #[v,.int .i64 (readE bs:Nat)])/\SRow w' w.heap.size v ((readL bs).map Fl.name)/\Below w.heap.size w w':=by
 obtain⟨i0,hi,hz0,hz1,hz2⟩:=info_parts I7;have HC:=Ab (Ps n cap a bs w hl hc hP hv hm hS);clear hS
 have hl12:(readL bs).length<=12:=by
  by_cases h0:readE bs=0
  . obtain⟨l,_,h2,_,_,h5,_⟩:=C6 h0;rw[h5];exact(Mr h2).1
  . unfold readL;rw[if_pos h0];exact VH _
 have hbad:readE bs≠0->readL bs= []:=fun h=>by unfold readL;rw[if_pos h]
 unfold RdA at HC;obtain⟨E,hE⟩:∃E,readE bs=E:=⟨_,rfl⟩
 obtain⟨fs,hfs⟩:∃fs,readL bs=fs:=⟨_,rfl⟩
 rw[hE,hfs]at HC hbad;rw[hfs]at hl12;rw[hE,hfs];have HBAD:=Ab hbad;clear hl hP hv hbad hE hfs;go_enter Tryz.func15,Tryz.ntmps15
 go_wp2_with fail
 refine(Aa HC).mono ?_;rintro e w1 ⟨v,rfl,⟨ad,c,xs,rfl,hx,hxl⟩,hB1⟩;obtain⟨k,hk⟩:∃k,fs.length=k:=⟨_,rfl⟩
 rw[hk]at hl12 ⊢;have hxn:xs.length=k:=by rw[<-hk,<-hxl];simp[fls]
 by_cases hE0:E=0
 . subst hE0;have HX:=Ab hx;have HXL:=Ab hxl;have HXN:=Ab hxn;have HK:=Ab hk;have HB1:=Ab hB1;clear hx hxl hxn hk hB1 HC;go_wp2;go_loopw [6,8,19] (fun v6 _ i wr=>∃j:Nat,j<=k/\i=.int .i64 (j:Int)/\Hid (SRow wr w1.heap.size v6 ((fs.take j).map Fl.name))/\Hid (Below w1.heap.size w1 wr)) (fun _ _ i _=>k-(intOf i).toNat)
   case atStart=>exact⟨0,VH _,rfl,Ab (SRow.nil _ _),Ab (Below.refl _ _)⟩
   case round=>
    obtain⟨j,hj,rfl,HS,HB⟩:=hrel
    by_cases hlt:j<k
    . obtain⟨x,hx,hxm⟩:=Ob (xs:=xs) (k:=j) (by rw[Aa HXN];exact hlt);obtain⟨b,o,rfl,hb,c0,c1,c2,c3,c4⟩:=(Aa HX).get (Aa HB) hx;have hz:=(Aa HB).size;have hz1':=(Aa HB1).size
      have htk:(fs.take (j+1)).map Fl.name=(fs.take j).map Fl.name++ [x.f.name]:=by
       have:fs[j]? =some x.f:=by rw[<-Aa HXL];simp[fls,hx]
       rw[Eu this];simp
      have hln:((fs.take j).map Fl.name).length=j:=by rw[WL,VL,Aa HK];omega
      unfold Fv.sl at c1;have hS:=Aa HS;unfold SRow at hS;rw[hln]at hS;obtain⟨NS,hNS⟩:∃NS,(fs.take j).map Fl.name=NS:=⟨_,rfl⟩
      rw[hNS]at hS htk hln;have HTK:=Ab htk;clear hNS;have HO:=Ab (fun o1 o2:Obj=>(hS.alloc o1).alloc o2);have HB2:=Ab (fun o1 o2:Obj=>((Aa HB).alloc hz o1).alloc (by simp;omega) o2);have hbl:∀g,u6.ownBlock=some g->w1.heap.size<=g:=fun g e=>(hS.lt g e).1
      have HBL:=Ab hbl;have HLN:=Ab hln;obtain⟨⟨nml,bys,st,nd,gn⟩,xa,xc⟩:=x;dsimp only at c0 c1 c2 c3 c4;obtain⟨nm,hnm⟩:∃nm,B nml=nm:=⟨_,rfl⟩
      rw[hnm]at c0;have HNM:=Ab hnm;generalize bys.length=bl at c1;clear hx hxm htk hln hnm hS hbl;go_wp2_with (at_builtin;refine wpList_append_own_at _ rfl _ _ 43 rfl w1.heap.size 9 i0 (.string ByteArray.empty) 1 16 Tryz.underlying43 hi hz0 hz1 hz2 rfl (by decide) _ j (Qj NS) rfl (Aa HO _ _) ⟨wr.heap.size+1,0,none⟩ 1 1 [.string nm] rfl rfl (fun i u hi=>Lu (Jo (by simp)) hi) (Bc rfl) (by unfold maxLen;omega) (by omega) (by simp;omega) ?_)
      intro v' w3 hO3 hg3 _ _
      have HS3:Hid (SRow w3 w1.heap.size v' ((fs.take (j+1)).map Fl.name)):=Ab (by
       rw[Aa HTK];unfold SRow;rw[VE,Aa HLN,Qj,WU];rw[<-Aa HNM]at hO3;exact hO3)
      have HB3:Hid (Below w1.heap.size w1 w3):=Ab ((Aa HB2 _ _).grown hg3 (by simp;omega) (Aa HBL));clear hO3 hg3 c0 c1 c2 c3 c4;go_wp2;go_roundw
      case rel=>exact⟨j+1,by omega,by go_num,HS3,HB3⟩
      case measure=>simp[intOf];omega
    . obtain rfl:k=j:=by omega
      have hta:fs.take k=fs:=VV (by rw[Aa HK];exact VB _);have HTA:=Ab hta;clear hta;go_wp2;go_ret2;exact⟨_,rfl,by have:=Aa HS;rw[Aa HTA]at this;exact this.mono (Aa HB1).size,(Aa HB1).trans ((Aa HB).mono (Aa HB1).size)⟩
 . have hf0:=Aa HBAD hE0;subst hf0;have HB1:=Ab hB1;have hEb:((E:Int)==0)=false:=by rw[beq_eq_false_iff_ne];omega
   have hEc:((E:Int)!=0)=true:=by rw[bne,hEb];rfl
   clear hx hxl hxn hk hB1 HC hE0;go_wp2;go_ret2;exact⟨_,rfl,SRow.nil _ _,Aa HB1⟩
theorem Z63 {k:Nat}{out:List Nat}(h:IsOne [120,121] k out):2<=out.length:=by
 have h1:=congrArg List.length h.row;rw[Af]at h1;unfold oneB at h1;rw[Dr]at h1
 have h2:10<=(JT [] [120,121] k true).length:=by
  unfold JT
  split
  . unfold Qm;simp only[VE,Ah];omega
  . split
    . have h3:(Ha (Gi [120,121])).length=23:=by decide+kernel
      simp only[VE,h3];omega
    . have h3:14<=(IK [120,121]).length:=by
       have hp:∀a b ts,14<=(Ga a b ts).length:=fun a b ts=>by
        unfold Ga Rw;simp only[VE,Ah];omega
       unfold IK
       split
       . exact hp _ _ _
       . exact hp _ _ _
      simp only[VE];omega
 omega
theorem MZ {α β:Type}{f:α->β}{l:List α}{b:β}(h:l.map f= [b]):∃x,l= [x]/\f x=b:=by
 cases l with
 |nil=>cases h
 |cons x r=>
  cases r with
  |nil=>exact⟨x,rfl,by simpa using h⟩
  |cons y r=>simp at h
def arF:Fl:=⟨[97],[120,121],3,0,false⟩
theorem Z30:errM [arF]=0:=by decide
theorem Z5s {x:En}(h:EOf x)(hf:x.f=arF):(Be [x]).length=124:=by
 obtain⟨out,ho,hq⟩:=h.pk;rw[hf]at ho hq;have h2:=Z63 ho;rw[Z22]
 rcases hq with ⟨q1,q2,q3⟩|⟨q1,q2,q3⟩
 . have:out.length<2:=q1
   omega
 . have hl:x.pk.length=2:=by rw[q3];rfl
   simp only[Av,Ao,VE,Kc,Lk,WE,hl,hf];rfl
theorem P5 (w:World):Calls Tryz.prog 9 #[] w fun e w'=>e=.returned (.bool true)/\Below w.heap.size w w':=by
 have hcc:=Lib.run_convert_bytes_const (P:=Tryz.prog) w 23 5 #[.int .u8 120,.int .u8 121] 2 2 Tryz.underlying23 Tryz.underlying5
 have hbs:BsIn (w.alloc (.cells #[.int .u8 120,.int .u8 121] 5 (2,3))) (some ⟨w.heap.size,0,none⟩) 2 [120,121]:=by
  refine .inr (.inr ⟨w.heap.size,0,rfl,by simp,by decide,fun j hj=> ?_⟩);rw[WG,cell_of_row _ _ _ _ _ _ (heap_alloc_new w _)]
  match j,hj with
  |0,_=>rfl
  |1,_=>rfl
 have hx:∀x∈ [(⟨arF,some ⟨w.heap.size,0,none⟩,2⟩:Fv)],FvIn (w.alloc (.cells #[.int .u8 120,.int .u8 121] 5 (2,3))) x:=by
  intro x hx;rw[WO.1 hx];exact⟨hbs,by show 2<=_;decide,by show 1<=_;decide⟩
 have hfs:=FsIn.new (w.alloc (.cells #[.int .u8 120,.int .u8 121] 5 (2,3))) [⟨arF,some ⟨w.heap.size,0,none⟩,2⟩] 30 #[.string ⟨#[97]⟩,.slice (some ⟨w.heap.size,0,none⟩) 2 2,.int .i64 3,.int .i64 0,.bool false] 1 rfl rfl hx (by show 1<=_;decide);have HW:=Ab (EB _ 1 1 _ _ hfs rfl);have HBA:=Ab (((Below.refl w.heap.size w).alloc (VB _) (.cells #[.int .u8 120,.int .u8 121] 5 (2,3))).alloc (by simp) (.cells #[.string ⟨#[97]⟩,.slice (some ⟨w.heap.size,0,none⟩) 2 2,.int .i64 3,.int .i64 0,.bool false] 30));have hfl:fls [(⟨arF,some ⟨w.heap.size,0,none⟩,2⟩:Fv)]= [arF]:=rfl;rw[hfl]at HW;simp only[World.size_alloc]at HW;clear hbs hx hfs hfl;go_enter Tryz.func9,Tryz.ntmps9
 go_wp2_with fail
 refine(Aa HW).mono ?_;rintro e w1 ⟨hB1,(⟨h1,_⟩|⟨_,l,hlf,hlo,hq⟩)⟩
 . exact absurd Z30 h1
 . obtain⟨x,rfl,hxf⟩:=MZ hlf;have hlen:=Z5s (hlo x (by simp)) hxf;have hE:errM ([x].map En.f)=0:=by rw[hlf];exact Z30
   have hm0:x.meth≠8:=by
    obtain⟨out,ho,(⟨q1,q2,q3⟩|⟨q1,q2,q3⟩)⟩:=(hlo x (by simp)).pk
    . exfalso
      have h5:=hlen;unfold Be at h5;simp only[Av,Ao,XA,VE,Kc,Lk,Pl,q3]at h5;rw[hxf]at h5 q1;have h6:arF.name.length=1:=rfl;have h7:arF.bytes.length=2:=rfl;omega
    . rw[q2];decide
   have hsto:∀y∈ [x],EOk y:=fun y hy=>by rw[WO.1 hy];exact(hlo x (by simp)).sto (by rw[hxf];decide) hm0
   have hwr:(∀y∈ [x],EOk y)/\readE (Be [x])=0/\readL (Be [x])= [x].map En.f:=⟨hsto,ME [x] hsto hE (WX.2 fun y hy=>decide_eq_true (hlo y hy).cr) (by rw[hlen];decide)⟩
   have hav:=Yx [x] (fun y hy=>(((hlo y hy).num (by rw[WO.1 hy,hxf];decide)).2))
   rcases hq with ⟨h1,_⟩|⟨_,a,c,rfl,hac,hP⟩
   . rw[hlen]at h1;exact absurd h1 (by decide)
   . have hrl:readL (Be [x])= [arF]:=by rw[hwr.2.2,hlf]
     have hre:=hwr.2.1;have hB2:=(Aa HBA).trans (hB1.mono (by simp;omega))
     have hS:Z5x (Be [x]):=by
      have h5:=Se [x] hwr.1 [] (F:=(Be [x]).length+1) (Yy [x]);rw[XA]at h5;exact .inr ⟨[x],h5,fun y hy=>by rw[WO.1 hy];exact hm0⟩
     obtain⟨AR,hAR⟩:∃AR,Be [x]=AR:=⟨_,rfl⟩
     rw[hAR]at hlen hav hP hrl hre hac hS;have HRD:=Ab (fun(W:World) (hW:Below w1.heap.size w1 W)=>Ps AR.length c a AR W rfl hac (hP.below hW) hav (by rw[hlen];decide) hS);have HNM:=Ab (fun(W:World) (hW:Below w1.heap.size w1 W)=>Tz AR.length c a AR W rfl hac (hP.below hW) hav (by rw[hlen];decide) hS);unfold RdA at HRD;rw[hre,hrl]at HRD HNM;rw[hAR,hlen];rw[hlen]at HRD HNM;have HB2:=Ab hB2;clear hB1 hB2 hP hav hlen hwr hsto hlo hlf hE hrl hre hAR hac hxf hS hm0;go_wp2_with fail
     refine(Aa HRD w1 (Below.refl _ _)).mono ?_;rintro e w2 ⟨v2,rfl,⟨ad,c2,out,rfl,hfs2,hout⟩,hB3⟩;obtain⟨z,rfl,hzf⟩:=MZ (f:=Fv.f) hout;have HB3:=Ab hB3;have HFS:=Ab hfs2;clear hB3 hfs2 hout;go_wp2_with fail
     refine(Aa HNM w2 (Aa HB3)).mono ?_;rintro e w3 ⟨v3,rfl,hS3,hB4⟩;obtain⟨b,o,hpq,hblt,d0,d1,d2,_⟩:=(Aa HFS).get (k:=0) (x:=z) (w':=w3) hB4 rfl;have hzb:=((Aa HFS).all z (by simp)).bs.below hB4 (VB _)
     cases hpq
     simp only[YJ,XN]at d0 d1 d2;unfold Fv.sl at d1;have hconv:=Po hzb;rw[hzf]at d1 d2 hconv;have hB5:=((Aa HB2).trans ((Aa HB3).mono (Aa HB2).size)).trans (hB4.mono (by have:=(Aa HB2).size;have:=(Aa HB3).size;omega));replace d1:w3.cell? ⟨b,o+1,none⟩=some (.slice z.a 2 z.c):=d1;replace d2:w3.cell? ⟨b,o+2,none⟩=some (.int .i64 3):=d2;replace hconv:(convert 23 9 (.slice z.a 2 z.c)).run Tryz.prog w3=.ok (.string (B [120,121])) w3:=hconv;have hTl:((B [120,121]).toList== [120,121])=true:=by rw[Fh];rfl
     obtain⟨T,hT⟩:∃T,B [120,121]=T:=⟨_,rfl⟩
     rw[hT]at hconv hTl;have HEQ:=Ab (Z2y (hS3.below ((Below.refl w3.heap.size w3).alloc (VB _) (.cells (Qj [[97]]).toArray 9))) (SRow.new w3 [[97]] (by show 1<=maxLen;decide)));obtain⟨va,vc,rfl⟩:=An hS3;have HB5:=Ab (hB5.alloc hB5.size (.cells (Qj [[97]]).toArray 9));clear hB4 hB5 hS3 hzb hT HFS d0 hblt hzf;go_wp2_with fail
     refine(Aa HEQ).mono ?_;rintro e w4 ⟨rfl,q,rfl⟩;have hdec:decide ([arF].map Fl.name= [[97]])=true:=by decide
     rw[hdec];go_wp2;go_ret;exact⟨rfl,Ae (Aa HB5) _⟩
theorem Z8c (a b:Fl):(a=b)↔(a.name=b.name/\a.bytes=b.bytes/\a.stamp=b.stamp/\a.node=b.node/\a.gone=b.gone):=by
 cases a;cases b;simp
theorem Z03 (x y:Fv)(w:World)(hx:FvIn w x)(hy:FvIn w y):
 Calls Tryz.prog 11 #[x.val,y.val] w fun e w'=>e=.returned (.bool (decide (x.f=y.f)))/\Below w.heap.size w w':=by
 have HE:=Ab (fun W (hW:Below w.heap.size w W)=>Z1q (hx.bs.below hW (VB _)) (hy.bs.below hW (VB _)));have hq:=Z8c x.f y.f
 have hn:((B x.f.name).toList==(B y.f.name).toList)=decide (x.f.name=y.f.name):=by
  rw[Fh,Fh,XZ,beq_iff_eq,decide_eq_true_iff]
 rw[Nw,Nw];obtain⟨r,hr⟩:∃r,decide (x.f=y.f)=r:=⟨_,rfl⟩
 have hr2:r=decide (x.f.name=y.f.name/\x.f.bytes=y.f.bytes/\x.f.stamp=y.f.stamp/\x.f.node=y.f.node/\x.f.gone=y.f.gone):=by rw[<-hr];exact decide_eq_decide.2 hq
 rw[hr];clear hq hr hx hy;have HR:=Ab hr2;clear hr2
 by_cases h1:x.f.name=y.f.name
 . rw[decide_eq_true h1]at hn
   by_cases h2:x.f.bytes=y.f.bytes
   . by_cases h3:x.f.stamp=y.f.stamp
     . by_cases h4:x.f.node=y.f.node
       . have h5:r=decide (x.f.gone=y.f.gone):=by rw[Aa HR];exact decide_eq_decide.2 ⟨fun k=>k.2.2.2.2,fun k=>⟨h1,h2,h3,h4,k⟩⟩
         rw[h5];rw[decide_eq_true h2]at HE;clear h1 h2 h5 HR;generalize B x.f.name=t at*;generalize B y.f.name=t2 at*;generalize x.f.bytes.length=n at*;generalize y.f.bytes.length=n2 at*;generalize x.f.stamp=s1 at*;generalize y.f.stamp=s2 at*;generalize x.f.node=d1 at*;generalize y.f.node=d2 at*;generalize x.f.gone=g1 at*;generalize y.f.gone=g2 at*;subst h3;subst h4;go_enter Tryz.func11,Tryz.ntmps11
         go_wp2_with (go_at_call 13;refine(Aa HE _ (Ck (Ck (Below.refl _ _) _) _)).mono ?_;rintro e w' ⟨rfl,rfl⟩)
         go_ret;exact⟨Dq (by cases g1<;>cases g2<;>rfl),Ck (Ck (Below.refl _ _) _) _⟩
       . have h5:r=false:=by rw[Aa HR];exact decide_eq_false (fun k=>h4 k.2.2.2.1)
         have hb:(x.f.node==y.f.node)=false:=by simpa using h4
         rw[h5];rw[decide_eq_true h2]at HE;clear h1 h2 h5 HR h4;generalize B x.f.name=t at*;generalize B y.f.name=t2 at*;generalize x.f.bytes.length=n at*;generalize y.f.bytes.length=n2 at*;generalize x.f.stamp=s1 at*;generalize y.f.stamp=s2 at*;subst h3;go_enter Tryz.func11,Tryz.ntmps11
         go_wp2_with (go_at_call 13;refine(Aa HE _ (Ck (Ck (Below.refl _ _) _) _)).mono ?_;rintro e w' ⟨rfl,rfl⟩)
         go_ret;exact⟨rfl,Ck (Ck (Below.refl _ _) _) _⟩
     . have h5:r=false:=by rw[Aa HR];exact decide_eq_false (fun k=>h3 k.2.2.1)
       have hb:(x.f.stamp==y.f.stamp)=false:=by simpa using h3
       rw[h5];rw[decide_eq_true h2]at HE;clear h1 h2 h5 HR h3;generalize B x.f.name=t at*;generalize B y.f.name=t2 at*;generalize x.f.bytes.length=n at*;generalize y.f.bytes.length=n2 at*;go_enter Tryz.func11,Tryz.ntmps11
       go_wp2_with (go_at_call 13;refine(Aa HE _ (Ck (Ck (Below.refl _ _) _) _)).mono ?_;rintro e w' ⟨rfl,rfl⟩)
       go_ret;exact⟨rfl,Ck (Ck (Below.refl _ _) _) _⟩
   . have h5:r=false:=by rw[Aa HR];exact decide_eq_false (fun k=>h2 k.2.1)
     rw[h5];rw[decide_eq_false h2]at HE;clear h1 h2 h5 HR;generalize B x.f.name=t at*;generalize B y.f.name=t2 at*;generalize x.f.bytes.length=n at*;generalize y.f.bytes.length=n2 at*;go_enter Tryz.func11,Tryz.ntmps11
     go_wp2_with (go_at_call 13;refine(Aa HE _ (Ck (Ck (Below.refl _ _) _) _)).mono ?_;rintro e w' ⟨rfl,rfl⟩)
     go_ret;exact⟨rfl,Ck (Ck (Below.refl _ _) _) _⟩
 . have h5:r=false:=by rw[Aa HR];exact decide_eq_false (fun k=>h1 k.1)
   rw[h5];rw[decide_eq_false h1]at hn;clear h1 h5 HR HE;generalize B x.f.name=t at*;generalize B y.f.name=t2 at*;generalize x.f.bytes.length=n at*;generalize y.f.bytes.length=n2 at*;go_enter Tryz.func11,Tryz.ntmps11
   go_wp2;go_ret;exact⟨rfl,Ck (Ck (Below.refl _ _) _) _⟩
theorem Z3g {α:Type}{a b:List α}{k:Nat}{x y:α}(hx:a[k]? =some x)(hy:b[k]? =some y)(h:x≠y):a≠b:=by
 rintro rfl;rw[hx]at hy;exact h (VM hy)
theorem Z3h {α:Type}{a b:List α}{k:Nat}{x:α}(h:a.take k=b.take k)(hx:a[k]? =some x)(hy:b[k]? =some x):a.take (k+1)=b.take (k+1):=by
 rw[XM,XM,h,hx,hy]
theorem Yj (ad bd:Option Addr)(c d:Nat)(xs ys:List Fv)(w:World)(h:FsIn w ad c xs)(k:FsIn w bd d ys)(n m:Nat)(hn:xs.length=n)(hm:ys.length=m):
 Calls Tryz.prog 44 #[.slice ad n c,.slice bd m d,.func (.func 11) #[] #[]] w fun e w'=>e=.returned (.bool (decide (fls xs=fls ys)))/\Below w.heap.size w w':=by
 have hl1:(fls xs).length=n:=by simp[fls,hn]
 have hl2:(fls ys).length=m:=by simp[fls,hm]
 have hlim:=h.lim;rw[hn]at hlim
 by_cases hnm:n=m
 . subst hnm;obtain⟨r,hr⟩:∃r,decide (fls xs=fls ys)=r:=⟨_,rfl⟩
   rw[hr];have HI:=Ab h;have HK:=Ab k;have HN:=Ab hn;have HM:=Ab hm;have HR:=Ab hr;have HL1:=Ab hl1;have HL2:=Ab hl2;have hnn:((n:Int)!=(n:Int))=false:=by simp
   clear h k hn hm hr hl1 hl2;go_enter Tryz.func44,Tryz.ntmps44
   go_wp2;go_loopw [7,8,9,17] (fun _ _ _ i wr=>∃k:Nat,k<=n/\i=.int .i64 (k:Int)/\Hid ((fls xs).take k=(fls ys).take k)/\Hid (Below w.heap.size w wr)) (fun _ _ _ i _=>n-(intOf i).toNat)
   case atStart=>exact⟨0,VH _,rfl,by simp;exact trivial,Below.refl _ _⟩
   case round=>
    obtain⟨k,hk,rfl,HT,HB⟩:=hrel
    by_cases hlt:k<n
    . obtain⟨x,hx,hxm⟩:=Ob (xs:=xs) (k:=k) (by rw[Aa HN];exact hlt);obtain⟨y,hy,hym⟩:=Ob (xs:=ys) (k:=k) (by rw[Aa HM];exact hlt);obtain⟨b,o,hA,hb,c0,c1,c2,c3,c4⟩:=(Aa HI).get (Aa HB) hx;obtain⟨b',o',hC,hb',d0,d1,d2,d3,d4⟩:=(Aa HK).get (Aa HB) hy;have hzw:=(Aa HB).size;have hfx:(fls xs)[k]? =some x.f:=by simp[fls,hx]
      have hfy:(fls ys)[k]? =some y.f:=by simp[fls,hy]
      have HFX:=Ab hfx;have HFY:=Ab hfy;have HSA:=Ab (fun W (hW:Below w.heap.size w W)=>Z03 x y W (((Aa HI).all x hxm).below hW (VB _)) (((Aa HK).all y hym).below hW (VB _)));rw[Nw,Nw]at HSA;have hxs:x.sl=.slice x.a x.f.bytes.length x.c:=rfl;have hys:y.sl=.slice y.a y.f.bytes.length y.c:=rfl;rw[hxs]at c1;rw[hys]at d1;obtain⟨q,hq⟩:∃q,decide (x.f=y.f)=q:=⟨_,rfl⟩
      rw[hq]at HSA;have HQ:=Ab hq;clear hx hy hxm hym hfx hfy hxs hys hq;subst hA;subst hC;generalize B x.f.name=t at*;generalize B y.f.name=t2 at*;generalize x.f.bytes.length=nb at*;generalize y.f.bytes.length=nb2 at*;generalize x.f.stamp=s1 at*;generalize y.f.stamp=s2 at*;generalize x.f.node=n1 at*;generalize y.f.node=n2 at*;generalize x.f.gone=g1 at*;generalize y.f.gone=g2 at*;have HBL:=Ab (fun o1 o2=>Ck (Ck (Aa HB) o1) o2);have d0':=fun o=>Sw (o:=o) d0
      have d1':=fun o=>Sw (o:=o) d1
      have d2':=fun o=>Sw (o:=o) d2
      have d3':=fun o=>Sw (o:=o) d3
      have d4':=fun o=>Sw (o:=o) d4
      clear d0 d1 d2 d3 d4;go_wp2_with fail
      refine(Aa HSA _ (Aa HBL _ _)).mono ?_;rintro e w1 ⟨rfl,hb1⟩;have HB1:=Ab ((Aa HBL _ _).trans (hb1.mono (by simp;omega)));clear hb1 d0' d1' d2' d3' d4'
      cases q with
      |false=>
       have hrf:r=false:=by
        rw[<-Aa HR];exact decide_eq_false (Z3g (Aa HFX) (Aa HFY) (of_decide_eq_false (Aa HQ)))
       subst hrf;go_wp2;go_ret;exact⟨rfl,Aa HB1⟩
      |true=>
       have he:x.f=y.f:=of_decide_eq_true (Aa HQ);have HT2:=Ab (Z3h (Aa HT) (Aa HFX) (by rw[he];exact Aa HFY));clear he;go_wp2;go_roundw
       case rel=>exact⟨k+1,by omega,by go_num,Aa HT2,Aa HB1⟩
       case measure=>simp[intOf];omega
    . obtain rfl:n=k:=by omega
      have hrt:r=true:=by
       rw[<-Aa HR];have:=Aa HT
       rw[VV (by rw[Aa HL1];exact VB _),VV (by rw[Aa HL2];exact VB _)]at this;exact decide_eq_true this
      subst hrt;go_wp2;go_ret;exact⟨rfl,Aa HB⟩
 . have e:decide (fls xs=fls ys)=false:=decide_eq_false (fun h=>hnm (by rw[<-hl1,<-hl2,h]));rw[e];have hnn:((n:Int)!=(m:Int))=true:=by simp;omega
   clear h k hn hm e hl1 hl2;go_enter Tryz.func44,Tryz.ntmps44
   go_wp2;go_ret;exact⟨rfl,Below.refl _ _⟩
theorem Xe (ad bd:Option Addr)(c d:Nat)(xs ys:List Fv)(w:World)(h:FsIn w ad c xs)(k:FsIn w bd d ys)(n m:Nat)(hn:xs.length=n)(hm:ys.length=m):
 Calls Tryz.prog 17 #[.slice ad n c,.slice bd m d] w fun e w'=>e=.returned (.bool (decide (fls xs=fls ys)))/\Below w.heap.size w w':=by
 have HE:=Ab (Yj ad bd c d xs ys w h k n m hn hm);clear h k;generalize decide (fls xs=fls ys)=r at*;go_enter Tryz.func17,Tryz.ntmps17
 go_wp2_with fail
 refine(Aa HE).mono ?_;rintro e w1 ⟨rfl,hb1⟩;have HB1:=Ab hb1;clear hb1;go_wp2;go_ret;exact⟨rfl,Aa HB1⟩
end Go.Proofs.YtleocpdblhbimaaGreatDoor
namespace Go.Proofs.YtleocpdblhbimaaGreatDoor
open Go.RowKit
set_option linter.unusedVariables false
theorem Z69 {w:World}{v u:Value}{a b:List Fl}(h:LIn w v a)(k:LIn w u b):
 Calls Tryz.prog 17 #[v,u] w fun e w'=>e=.returned (.bool (decide (a=b)))/\Below w.heap.size w w':=by
 obtain⟨ad,c,out,rfl,h2,h3⟩:=h;obtain⟨bd,d,out',rfl,k2,k3⟩:=k;refine(Xe ad bd c d out out' w h2 k2 _ _ (PH h3) (PH k3)).mono ?_;rintro e w' ⟨rfl,ha⟩;rw[h3,k3];exact⟨rfl,ha⟩
theorem Z02 {w:World}{v u:Value}{a b:List Fl}(h:LIn w v a)(k:LIn w u b)(e:a=b):
 Calls Tryz.prog 17 #[v,u] w fun e w'=>e=.returned (.bool true)/\Below w.heap.size w w':=by
 have:=Z69 h k
 rw[decide_eq_true e]at this;exact this
end Go.Proofs.YtleocpdblhbimaaGreatDoor
namespace Go.Proofs.YtleocpdblhbimaaGreatDoor
open Go.RowKit
set_option linter.unusedVariables false
set_option maxRecDepth 100000
theorem Z1w {w w':World}(h:∃q,w'=w.drewN q):Below w.heap.size w w':=by
 obtain⟨q,rfl⟩:=h;exact Ae (Below.refl _ _) q
theorem Q3 (n cap:Nat)(a:Option Addr)(bs:List Nat)(w:World)(hl:bs.length=n)(hc:n<=cap)(hP:PkIn w a cap bs)(hv:∀x∈bs,x<256)(hm:n<=9223372036854775807)(hU:UnC True):
 Calls Tryz.prog 4 #[.slice a n cap] w fun e w'=>e=.returned (.bool true)/\Below w.heap.size w w':=by
 obtain⟨i0,hi,hz0,hz1,hz2⟩:=info_parts I7;have HC:=Ab (Ps n cap a bs w hl hc hP hv hm (.inl Z8n));have HN:=Ab (fun(W:World) (hW:Below w.heap.size w W)=>Tz n cap a bs W hl hc (hP.below hW) hv hm (.inl Z8n));have HR:Hid (¬12000<n->∀(W:World) (hW:Below w.heap.size w W),Calls Tryz.prog 16 #[.slice a n cap] W fun e w'=>RdA W bs e w'):=Ab (fun h W hW=>Qw a n cap bs W hl (by omega) hc (hP.below hW) hv hU);have h2:12000<n->readE bs=2:=fun h=>by unfold readE;rw[if_pos (by omega)]
 have hbad:readE bs≠0->readL bs= []:=fun h=>by unfold readL;rw[if_pos h]
 have hl12:(readL bs).length<=12:=by
  by_cases h0:readE bs=0
  . obtain⟨l,_,h2,_,_,h5,_⟩:=C6 h0;rw[h5];exact(Mr h2).1
  . rw[hbad h0];exact VH _
 unfold RdA at HC HR;obtain⟨E,hE⟩:∃E,readE bs=E:=⟨_,rfl⟩
 obtain⟨fs,hfs⟩:∃fs,readL bs=fs:=⟨_,rfl⟩
 obtain⟨k,hk⟩:∃k,fs.length=k:=⟨_,rfl⟩
 rw[hE,hfs]at HC HN hbad HR;rw[hE]at h2;rw[hfs,hk]at hl12;have hkn:(fs.map Fl.name).length=k:=by simpa using hk
 have HBAD:=Ab hbad;have H2:=Ab h2;have HK:=Ab hk;have HKN:=Ab hkn;clear hl hP hv hbad h2 hk hkn hE hfs hU;go_enter Tryz.func4,Tryz.ntmps4
 go_wp2_with fail
 refine(Aa HC).mono ?_;rintro e w1 ⟨v1,rfl,hL1,hB1⟩;obtain⟨ad1,c1,hv1⟩:=hL1.shape;rw[Aa HK]at hv1;subst hv1;have HL1:=Ab hL1;have HB1:=Ab hB1;clear hL1 hB1 HC;go_wp2_with fail
 refine(Aa HN w1 (Aa HB1)).mono ?_;rintro e w2 ⟨v2,rfl,hS2,hB2⟩
 obtain⟨ad2,c2,hv2⟩:∃ad2 c2,v2=.slice ad2 k c2:=by
  rcases hS2.cases with ⟨h1,h2⟩|⟨g,cp,h1,_⟩
  . have:=Aa HKN;rw[h2]at this;exact⟨none,0,by rw[h1,<-this];rfl⟩
  . exact⟨_,cp,by rw[h1,Aa HKN]⟩
 subst hv2;have HS2:=Ab hS2;have HB2:=Ab ((Aa HB1).trans (hB2.mono (Aa HB1).size));have HB12:=Ab hB2;clear hS2 hB2 HN;go_wp2_with fail
 refine(P5 w2).mono ?_;rintro e w3 ⟨rfl,hB3⟩;have HB3:=Ab ((Aa HB2).trans (hB3.mono (Aa HB2).size));have HL3:=Ab ((Aa HL1).below ((Aa HB12).trans (hB3.mono (Aa HB12).size)));have HS3:=Ab ((Aa HS2).below hB3);clear hB3 HB1 HB2 HB12 HL1 HS2;have hEe:((E:Int)!=(E:Int))=false:=by simp
 have hEq:((E:Int)==(E:Int))=true:=by simp
 by_cases hn:12000<n
 . have hE2:=Aa H2 hn;subst hE2;have hf0:=Aa HBAD (by decide);subst hf0;have hk0:=Aa HK;simp only[WE]at hk0;subst hk0;have hnI:(12000:Int)<(n:Int):=by omega
   clear hn H2 HBAD HR;go_wp2;go_ret;exact⟨rfl,Aa HB3⟩
 have hnI:¬(12000:Int)<(n:Int):=by omega
 have HRD:=Ab (Aa HR hn w3 (Aa HB3));clear hn H2 HR;go_wp2_with fail
 refine(Aa HRD).mono ?_;rintro e w4 ⟨v4,rfl,⟨ad4,c4,xs,hv4,hx4,hxl⟩,hB4⟩;rw[Aa HK]at hv4;subst hv4;have HB4:=Ab ((Aa HB3).trans (hB4.mono (Aa HB3).size));have HL4:=Ab ((Aa HL3).below hB4);have HS4:=Ab ((Aa HS3).below hB4);clear hB4 HL3 HS3 HB3 HRD
 by_cases hE0:E=0
 . subst hE0;have hxn:xs.length=k:=by rw[<-Aa HK,<-hxl];simp[fls]
   have HX:=Ab hx4;have HXL:=Ab hxl;have HXN:=Ab hxn;clear hx4 hxl hxn hEe hEq HBAD;go_wp2;go_loopw [9,11,66] (fun v9 _ i wr=>∃j:Nat,j<=k/\i=.int .i64 (j:Int)/\Hid (SRow wr w4.heap.size v9 ((fs.take j).map Fl.name))/\Hid (Below w4.heap.size w4 wr)) (fun _ _ i _=>k-(intOf i).toNat)
   case atStart=>exact⟨0,VH _,rfl,Ab (SRow.nil _ _),Ab (Below.refl _ _)⟩
   case round=>
    obtain⟨j,hj,rfl,HS,HB⟩:=hrel
    by_cases hlt:j<k
    . obtain⟨x,hx,hxm⟩:=Ob (xs:=xs) (k:=j) (by rw[Aa HXN];exact hlt);obtain⟨b,o,rfl,hb,c0,c1,c2,c3,c4⟩:=(Aa HX).get (Aa HB) hx;have hz:=(Aa HB).size
      have htk:(fs.take (j+1)).map Fl.name=(fs.take j).map Fl.name++ [x.f.name]:=by
       have:fs[j]? =some x.f:=by rw[<-Aa HXL];simp[fls,hx]
       rw[Eu this];simp
      have hln:((fs.take j).map Fl.name).length=j:=by rw[WL,VL,Aa HK];omega
      unfold Fv.sl at c1;have hS:=Aa HS;unfold SRow at hS;rw[hln]at hS;obtain⟨NS,hNS⟩:∃NS,(fs.take j).map Fl.name=NS:=⟨_,rfl⟩
      rw[hNS]at hS htk hln;have HTK:=Ab htk;clear hNS;have HO:=Ab (fun o1 o2:Obj=>(hS.alloc o1).alloc o2);have HB2:=Ab (fun o1 o2:Obj=>((Aa HB).alloc hz o1).alloc (by simp;omega) o2);have hbl:∀g,u9.ownBlock=some g->w4.heap.size<=g:=fun g e=>(hS.lt g e).1
      have HBL:=Ab hbl;have HLN:=Ab hln;obtain⟨⟨nml,bys,st,nd,gn⟩,xa,xc⟩:=x;dsimp only at c0 c1 c2 c3 c4;obtain⟨nm,hnm⟩:∃nm,B nml=nm:=⟨_,rfl⟩
      rw[hnm]at c0;have HNM:=Ab hnm;generalize bys.length=bl at c1;clear hx hxm htk hln hnm hS hbl;go_wp2_with (at_builtin;refine wpList_append_own_at _ rfl _ _ 43 rfl w4.heap.size 9 i0 (.string ByteArray.empty) 1 16 Tryz.underlying43 hi hz0 hz1 hz2 rfl (by decide) _ j (Qj NS) rfl (Aa HO _ _) ⟨wr.heap.size+1,0,none⟩ 1 1 [.string nm] rfl rfl (fun i u hi=>Lu (Jo (by simp)) hi) (Bc rfl) (by unfold maxLen;omega) (by omega) (by simp;omega) ?_)
      intro v' w5 hO3 hg3 _ _
      have HS3:Hid (SRow w5 w4.heap.size v' ((fs.take (j+1)).map Fl.name)):=Ab (by
       rw[Aa HTK];unfold SRow;rw[VE,Aa HLN,Qj,WU];rw[<-Aa HNM]at hO3;exact hO3)
      have HB3:Hid (Below w4.heap.size w4 w5):=Ab ((Aa HB2 _ _).grown hg3 (by simp;omega) (Aa HBL));clear hO3 hg3 c0 c1 c2 c3 c4;go_wp2;go_roundw
      case rel=>exact⟨j+1,by omega,by go_num,HS3,HB3⟩
      case measure=>simp[intOf];omega
    . obtain rfl:k=j:=by omega
      have hta:fs.take k=fs:=VV (by rw[Aa HK];exact VB _);have hS:=Aa HS;rw[hta]at hS;have HSM:=Ab (Z02 ((Aa HL4).below (Aa HB)) (Z6s ((Aa HX).below (Aa HB) (VB _)) (Aa HXN)) (Aa HXL).symm);have HEQ:=Ab (fun(W:World) (hW:Below wr.heap.size wr W)=>Z2y (((Aa HS4).below (Aa HB)).below hW) (hS.below hW));rw[decide_eq_true rfl]at HEQ;have HBB:=Ab ((Aa HB4).trans ((Aa HB).mono (Aa HB4).size));clear hta hS HS HB HL4 HS4 HX HXL HB4;go_wp2_with fail
      refine(Aa HSM).mono ?_;rintro e w6 ⟨rfl,hB6⟩;have HE6:=Ab (Aa HEQ w6 hB6);have HB6:=Ab ((Aa HBB).trans (hB6.mono (Aa HBB).size));clear hB6 HEQ HSM HBB;go_wp2_with fail
      refine(Aa HE6).mono ?_;rintro e w7 ⟨rfl,hw7⟩;have HB7:=Ab ((Aa HB6).trans ((Z1w hw7).mono (Aa HB6).size));clear hw7 HE6 HB6;go_wp2;go_ret;exact⟨rfl,Aa HB7⟩
 . have hf0:=Aa HBAD hE0;subst hf0;have hk0:=Aa HK;simp only[WE]at hk0;subst hk0;have hEb:((E:Int)==0)=false:=by rw[beq_eq_false_iff_ne];omega
   have hEc:((E:Int)!=0)=true:=by rw[bne,hEb];rfl
   clear hE0 hx4 hxl HBAD;go_wp2;go_ret;exact⟨rfl,Aa HB4⟩
end Go.Proofs.YtleocpdblhbimaaGreatDoor
namespace Go.Proofs.YtleocpdblhbimaaGreatDoor
open Go.RowKit Go.ChangeShapes Go.WideShapes Go.ChangeAt Go.Deep
set_option linter.unusedVariables false
theorem RV (b o j:Nat):(⟨b,o,none⟩:Addr).add j=⟨b,o+j,none⟩:=by unfold Addr.add;split<;>simp_all
theorem Z7a:Tryz.prog.cellsOf 5=1:=by kernel_rfl
end Go.Proofs.YtleocpdblhbimaaGreatDoor
namespace Go.Proofs.YtleocpdblhbimaaGreatDoor
open Go.RowKit Go.ChangeShapes Go.WideShapes Go.ChangeAt Go.Deep
set_option linter.unusedVariables false
set_option maxRecDepth 100000
theorem Z5h:Tryz.prog.bytesOf 5=1:=by kernel_rfl
theorem Z4b {H:Type}{enc:TypeId×Value->H}{w:World}{fuel:Nat}{v:Value}{x:DataW H×List MemPlace}
 (h:DataW.trod enc Tryz.prog w 0 (fun _=>true) true fuel 23 [v]=some x) (hw:∀n∈x.1.weights Tryz.prog 23,n<=140737488351232):∃a c bs,v=.slice a bs.length c/\BsIn w a c bs/\bs.length<=140737488351232:=by
 rcases open_ints Tryz.underlying23 Tryz.underlying5 Z7a h with ⟨hcs,_⟩|⟨a,l,c,zs,hcs,_,hl,hm,hz,hx,hcell,hwz⟩
 . simp at hcs
   subst hcs;exact⟨none,0,[],rfl,.inl ⟨rfl,rfl,rfl⟩,by simp⟩
 . simp at hcs
   subst hcs;have hz':zs.length=c:=by simpa using hz
   have hb:∀j,j<zs.length->0<=zs.getD j 0/\zs.getD j 0<=255:=by
    intro j hj;have hmem:zs.getD j 0∈zs:=by simp[List.getD,hj]
    have:=hwz _ hmem
    simpa[Lit.wf,IntKind.min,IntKind.max,IntKind.signed,IntKind.bits]using this
   have hlen:((zs.take l).map fun n=>UInt8.ofNat n.toNat).length=l:=by simp;omega
   have hc:c<=140737488351232:=by
    apply hw
    rw[hx];simp only[DataW.weights,Tryz.underlying23,Z5h];refine WH.2 (.inl ?_);simp[lits]
    omega
   refine⟨some a,c,(zs.take l).map fun n=>UInt8.ofNat n.toNat,by rw[hlen], ?_,by rw[hlen];omega⟩
   by_cases h0:l=0
   . subst h0;exact .inr (.inl ⟨by simp,a,rfl⟩)
   . obtain⟨b,o,spot⟩:=a;have hc0:=hcell 0 (by omega);have hspot:spot=none:=by simpa[Addr.add]using World.cell?_spot hc0
     subst hspot;refine .inr (.inr ⟨b,o,rfl, ?_,by rw[hlen];exact hl, ?_⟩)
     . have:=World.block_lt_of_cell? _ _ hc0
       simpa[Addr.add]using this
     . intro j hj;rw[hlen]at hj;have h1:=hcell j (by omega);rw[RV]at h1;rw[h1];have hjz:j<zs.length:=by omega
       have hbj:=hb j hjz;have e:((zs.take l).map fun n=>UInt8.ofNat n.toNat).getD j 0=UInt8.ofNat (zs.getD j 0).toNat:=by simp[List.getD,hj,hjz]
       rw[e]
       have e2:(UInt8.ofNat (zs.getD j 0).toNat).toNat=(zs.getD j 0).toNat:=by
        rw[UInt8.toNat_ofNat'];omega
       rw[e2,YU hbj.1]
instance:Inhabited Fv:=⟨⟨⟨[],[],0,0,false⟩,none,0⟩⟩
end Go.Proofs.YtleocpdblhbimaaGreatDoor
