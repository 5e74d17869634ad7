import Derived.Test.YtleocpdblhbimaaGreatDoorQ37
import Derived.Lib.SlBytesConst
import Derived.Shelf.Strings.SlTrimAscii
set_option linter.unusedSimpArgs false
set_option maxHeartbeats 4000000
namespace Go.Proofs.YtleocpdblhbimaaGreatDoor
open Go.RowKit
set_option linter.unusedVariables false
set_option maxRecDepth 100000
theorem Z35 {k:Nat}{out:List Nat}(h:IsOne [120,121] k out):2<=out.length:=by
 have h1:=congrArg List.length h.row;rw[Ai]at h1;unfold oneB at h1;rw[Cj]at h1
 have h2:10<=(Ka [] [120,121] k true).length:=by
  unfold Ka
  split
  . unfold Hh;simp only[VB,Ae];omega
  . split
    . have h3:(Ez (Dc [120,121])).length=23:=by decide+kernel
      simp only[VB,h3];omega
    . have h3:14<=(I9 [120,121]).length:=by
       have hp:∀a b ts,14<=(Ex a b ts).length:=fun a b ts=>by
        unfold Ex Ix;simp only[VB,Ae];omega
       unfold I9
       split
       . exact hp _ _ _
       . exact hp _ _ _
      simp only[VB];omega
 omega
theorem JG {α β:Type}{f:α->β}{l:List α}{b:β}(h:l.map f= [b]):∃x,l= [x]/\f x=b:=by
 cases l with
 |nil=>cases h
 |cons x r=>
  cases r with
  |nil=>exact⟨x,rfl,by simpa using h⟩
  |cons y r=>simp at h
def arF:Fl:=⟨[97],[120,121],3,0,false⟩
theorem Z01:Nh [arF]=0:=by decide
theorem Z2u {x:En}(h:EOf x)(hf:x.f=arF):(Ba [x]).length=124:=by
 obtain⟨out,ho,hq⟩:=h.pk;rw[hf]at ho hq;have h2:=Z35 ho;rw[SM]
 rcases hq with ⟨q1,q2,q3⟩|⟨q1,q2,q3⟩
 . have:out.length<2:=q1
   omega
 . have hl:x.pk.length=2:=by rw[q3];rfl
   simp only[Ar,Am,VB,Gc,Jk,WO,hl,hf];rfl
theorem Gg (w:World):Calls Tryz.prog 9 #[] w fun e w'=>e=.returned (.bool true)/\Below w.heap.size w w':=by
 have hcc:=Lib.run_convert_bytes_const (P:=Tryz.prog) w 23 5 #[.int .u8 120,.int .u8 121] 2 2 Tryz.underlying23 Tryz.underlying5
 have hbs:BsIn (w.alloc (.cells #[.int .u8 120,.int .u8 121] 5 (2,3))) (some ⟨w.heap.size,0,none⟩) 2 [120,121]:=by
  refine .inr (.inr ⟨w.heap.size,0,rfl,by simp,by decide,fun j hj=> ?_⟩);rw[WI,cell_of_row _ _ _ _ _ _ (heap_alloc_new w _)]
  match j,hj with
  |0,_=>rfl
  |1,_=>rfl
 have hx:∀x∈ [(⟨arF,some ⟨w.heap.size,0,none⟩,2⟩:Fv)],FvIn (w.alloc (.cells #[.int .u8 120,.int .u8 121] 5 (2,3))) x:=by
  intro x hx;rw[WQ.1 hx];exact⟨hbs,by show 2<=_;decide,by show 1<=_;decide⟩
 have hfs:=FsIn.new (w.alloc (.cells #[.int .u8 120,.int .u8 121] 5 (2,3))) [⟨arF,some ⟨w.heap.size,0,none⟩,2⟩] 30 #[.string ⟨#[97]⟩,.slice (some ⟨w.heap.size,0,none⟩) 2 2,.int .i64 3,.int .i64 0,.bool false] 1 rfl rfl hx (by show 1<=_;decide);have HW:=Ab (Th _ 1 1 _ _ hfs rfl);have HBA:=Ab (((Below.refl w.heap.size w).alloc (VC _) (.cells #[.int .u8 120,.int .u8 121] 5 (2,3))).alloc (by simp) (.cells #[.string ⟨#[97]⟩,.slice (some ⟨w.heap.size,0,none⟩) 2 2,.int .i64 3,.int .i64 0,.bool false] 30));have hfl:fls [(⟨arF,some ⟨w.heap.size,0,none⟩,2⟩:Fv)]= [arF]:=rfl;rw[hfl]at HW;simp only[World.size_alloc]at HW;clear hbs hx hfs hfl;go_enter Tryz.func9,Tryz.ntmps9
 go_wp2_with fail
 refine(Aa HW).mono ?_;rintro e w1 ⟨hB1,(⟨h1,_⟩|⟨_,l,hlf,hlo,hq⟩)⟩
 . exact absurd Z01 h1
 . obtain⟨x,rfl,hxf⟩:=JG hlf;have hlen:=Z2u (hlo x (by simp)) hxf;have hE:Nh ([x].map En.f)=0:=by rw[hlf];exact Z01
   have hwr:=Ti [x] hE hlo (by rw[hlen];decide);have hav:=Pp [x] (fun y hy=>(((hlo y hy).num (by rw[WQ.1 hy,hxf];decide)).2))
   rcases hq with ⟨h1,_⟩|⟨_,a,c,rfl,hac,hP⟩
   . rw[hlen]at h1;exact absurd h1 (by decide)
   . have hrl:Hk (Ba [x])= [arF]:=by rw[hwr.2.2,hlf]
     have hre:=hwr.2.1;have hB2:=(Aa HBA).trans (hB1.mono (by simp;omega))
     have hm0:x.meth≠8:=by
      obtain⟨out,ho,(⟨q1,q2,q3⟩|⟨q1,q2,q3⟩)⟩:=(hlo x (by simp)).pk
      . exfalso
        have h5:=hlen;unfold Ba at h5;simp only[Ar,Am,WZ,VB,Gc,Jk,Mg,q3]at h5;rw[hxf]at h5 q1;have h6:arF.name.length=1:=rfl;have h7:arF.bytes.length=2:=rfl;omega
      . rw[q2];decide
     have hS:Z2y (Ba [x]):=by
      have h5:=D7 [x] hwr.1 [] (F:=(Ba [x]).length+1) (BH [x]);rw[WZ]at h5;exact .inr ⟨[x],h5,fun y hy=>by rw[WQ.1 hy];exact hm0⟩
     obtain⟨AR,hAR⟩:∃AR,Ba [x]=AR:=⟨_,rfl⟩
     rw[hAR]at hlen hav hP hrl hre hac hS;have HRD:=Ab (fun(W:World) (hW:Below w1.heap.size w1 W)=>Xj AR.length c a AR W rfl hac (hP.below hW) hav (by rw[hlen];decide) hS);have HNM:=Ab (fun(W:World) (hW:Below w1.heap.size w1 W)=>BJ AR.length c a AR W rfl hac (hP.below hW) hav (by rw[hlen];decide) hS);unfold RdA at HRD;rw[hre,hrl]at HRD HNM;rw[hAR,hlen];rw[hlen]at HRD HNM;have HB2:=Ab hB2;clear hB1 hB2 hP hav hlen hwr hlo hlf hE hrl hre hAR hac hxf hS hm0;go_wp2_with fail
     refine(Aa HRD w1 (Below.refl _ _)).mono ?_;rintro e w2 ⟨v2,rfl,⟨ad,c2,out,rfl,hfs2,hout⟩,hB3⟩;obtain⟨z,rfl,hzf⟩:=JG (f:=Fv.f) hout;have HB3:=Ab hB3;have HFS:=Ab hfs2;clear hB3 hfs2 hout;go_wp2_with fail
     refine(Aa HNM w2 (Aa HB3)).mono ?_;rintro e w3 ⟨v3,rfl,hS3,hB4⟩;obtain⟨b,o,hpq,hblt,d0,d1,d2,_⟩:=(Aa HFS).get (k:=0) (x:=z) (w':=w3) hB4 rfl;have hzb:=((Aa HFS).all z (by simp)).bs.below hB4 (VC _)
     cases hpq
     simp only[YI,XL]at d0 d1 d2;unfold Fv.sl at d1;have hconv:=Pn hzb;rw[hzf]at d1 d2 hconv;have hB5:=((Aa HB2).trans ((Aa HB3).mono (Aa HB2).size)).trans (hB4.mono (by have:=(Aa HB2).size;have:=(Aa HB3).size;omega));replace d1:w3.cell? ⟨b,o+1,none⟩=some (.slice z.a 2 z.c):=d1;replace d2:w3.cell? ⟨b,o+2,none⟩=some (.int .i64 3):=d2;replace hconv:(convert 23 9 (.slice z.a 2 z.c)).run Tryz.prog w3=.ok (.string (B [120,121])) w3:=hconv;have hTl:((B [120,121]).toList== [120,121])=true:=by rw[Fc];rfl
     obtain⟨T,hT⟩:∃T,B [120,121]=T:=⟨_,rfl⟩
     rw[hT]at hconv hTl;have HEQ:=Ab (Z42 (hS3.below ((Below.refl w3.heap.size w3).alloc (VC _) (.cells (So [[97]]).toArray 9))) (SRow.new w3 [[97]] (by show 1<=maxLen;decide)));obtain⟨va,vc,rfl⟩:=As hS3;have HB5:=Ab (hB5.alloc hB5.size (.cells (So [[97]]).toArray 9));clear hB4 hB5 hS3 hzb hT HFS d0 hblt hzf;go_wp2_with fail
     refine(Aa HEQ).mono ?_;rintro e w4 ⟨rfl,q,rfl⟩;have hdec:decide ([arF].map Fl.name= [[97]])=true:=by decide
     rw[hdec];go_wp2;go_ret;exact⟨rfl,Af (Aa HB5) _⟩
def Z37:Go.Shelf.Ren:=⟨fun|160=>59|232=>83|231=>82|227=>84|234=>86|233=>85|236=>88|235=>87|228=>116|271=>119|151=>118|197=>117|120=>157|152=>156|260=>155|137=>191|119=>192|224=>189|225=>188|217=>187|266=>214|n=>n,fun|9=>9|4=>4|3=>3|5=>5|117=>143|116=>142|0=>0|124=>146|21=>21|105=>183|46=>66|119=>261|139=>264|138=>263|n=>n,fun|3=>1|4=>2|n=>n⟩
theorem Z0g:Go.Proofs.Lays.n160 Tryz.prog Z37:= {
 mixed:=by kernel_rfl
 f119:=Tryz.func192.trans (congrArg some (by kernel_rfl))
 f120:=Tryz.func157.trans (congrArg some (by kernel_rfl))
 f137:=Tryz.func191.trans (congrArg some (by kernel_rfl))
 f151:=Tryz.func118.trans (congrArg some (by kernel_rfl))
 f152:=Tryz.func156.trans (congrArg some (by kernel_rfl))
 f160:=Tryz.func59.trans (congrArg some (by kernel_rfl))
 f197:=Tryz.func117.trans (congrArg some (by kernel_rfl))
 f217:=Tryz.func187.trans (congrArg some (by kernel_rfl))
 f224:=Tryz.func189.trans (congrArg some (by kernel_rfl))
 f225:=Tryz.func188.trans (congrArg some (by kernel_rfl))
 f227:=Tryz.func84.trans (congrArg some (by kernel_rfl))
 f228:=Tryz.func116.trans (congrArg some (by kernel_rfl))
 f231:=Tryz.func82.trans (congrArg some (by kernel_rfl))
 f232:=Tryz.func83.trans (congrArg some (by kernel_rfl))
 f233:=Tryz.func85.trans (congrArg some (by kernel_rfl))
 f234:=Tryz.func86.trans (congrArg some (by kernel_rfl))
 f235:=Tryz.func87.trans (congrArg some (by kernel_rfl))
 f236:=Tryz.func88.trans (congrArg some (by kernel_rfl))
 f260:=Tryz.func155.trans (congrArg some (by kernel_rfl))
 f266:=Tryz.func214.trans (congrArg some (by kernel_rfl))
 f271:=Tryz.func119.trans (congrArg some (by kernel_rfl))
 t0:=Tryz.underlying0
 a0:=Tryz.isAgg0
 z0:=Tryz.sizeOf0
 v0:=Tryz.zeroValue0
 t3:=Tryz.underlying3
 a3:=Tryz.isAgg3
 z3:=Tryz.sizeOf3
 v3:=Tryz.zeroValue3
 t4:=Tryz.underlying4
 a4:=Tryz.isAgg4
 z4:=Tryz.sizeOf4
 v4:=Tryz.zeroValue4
 t5:=Tryz.underlying5
 a5:=Tryz.isAgg5
 z5:=Tryz.sizeOf5
 v5:=Tryz.zeroValue5
 t9:=Tryz.underlying9
 a9:=Tryz.isAgg9
 z9:=Tryz.sizeOf9
 v9:=Tryz.zeroValue9
 t21:=Tryz.underlying21
 a21:=Tryz.isAgg21
 z21:=Tryz.sizeOf21
 v21:=Tryz.zeroValue21
 t46:=Tryz.underlying66
 a46:=Tryz.isAgg66
 z46:=Tryz.sizeOf66
 v46:=Tryz.zeroValue66
 t105:=Tryz.underlying183
 a105:=Tryz.isAgg183
 z105:=Tryz.sizeOf183
 v105:=Tryz.zeroValue183
 t116:=Tryz.underlying142
 a116:=Tryz.isAgg142
 z116:=Tryz.sizeOf142
 t117:=Tryz.underlying143
 a117:=Tryz.isAgg143
 z117:=Tryz.sizeOf143
 v117:=Tryz.zeroValue143
 t119:=Tryz.underlying261
 a119:=Tryz.isAgg261
 z119:=Tryz.sizeOf261
 t124:=Tryz.underlying146
 a124:=Tryz.isAgg146
 z124:=Tryz.sizeOf146
 v124:=Tryz.zeroValue146
 t138:=Tryz.underlying263
 a138:=Tryz.isAgg263
 z138:=Tryz.sizeOf263
 v138:=Tryz.zeroValue263
 t139:=Tryz.underlying264
 a139:=Tryz.isAgg264
 z139:=Tryz.sizeOf264
 v139:=Tryz.zeroValue264
 g3:=by kernel_rfl
 g4:=by kernel_rfl}
theorem GE:(Tryz.prog.info? 142).map (fun i=>(i.zero,i.size))=some (some (.agg (Array.replicate 256 (.bool false))),256):=by kernel_rfl
theorem trimS (p:List UInt8)(w:World)(hp:p.length<=maxLen):
 Calls Tryz.prog 59 #[.string (B p),.string (B Gx)] w fun e w'=>e=.returned (.string (B (Lib.trimS p Gx)))/\Below w.heap.size w w':=
 Any.strings_Trim_laid Z0g GE (B p) (B Gx) w (by rw[Ha];exact hp) (by decide) (ascii_of_all (l:=Gx) (by decide))
theorem QH {p:List UInt8}(h0:p≠ [])(h1:p≠ [46])(h2:p≠ [46,46]):okP p=true↔Lib.trimS p Gx= []:=by
 rw[OS];simp[okP,h0,h1,h2]
theorem CQ (s:List UInt8)(w:World)(hs:s.length<=maxLen):
 Calls Tryz.prog 37 #[.string (B s)] w fun e w'=>∃v,e=.returned (.tuple #[v,.int .i64 (Jz s:Nat)])/\SRow w' w.heap.size v (Z13 s)/\Below w.heap.size w w'/\(Jz s≠0->v=.slice none 0 0):=by
 have hsz:=Ha s;unfold maxLen at hs
 by_cases h40:40<s.length
 . have HE:=Ab (D6 h40);have h40':40<(B s).size:=by rw[hsz];omega
   have hms:(B s).size<=9223372036854775807:=by rw[hsz];omega
   clear hsz h40 hs;generalize B s=t at*;go_enter Tryz.func37,Tryz.ntmps37
   go_wp2;go_ret2;rw[Ov (by rw[Aa HE];decide),Aa HE];exact⟨_,rfl,SRow.nil _ _,Below.refl _ _,fun _=>rfl⟩
 . have hsp:=Yu (B s) w (by rw[hsz];omega);rw[MG]at hsp;have h40':(B s).size<=40:=by rw[hsz];omega
   have h41:=X0 (s:=s) (by omega);have HR:=Ab (SRow.new w (spl s) (by unfold maxLen;omega));have HE:=Ab (fun p hp hb=>AQ (s:=s) (p:=p) (by omega) hp hb);have HO:=Ab (LV (l:=s) (by omega));have hmem:∀p∈spl s,p.length<=s.length:=TA s;obtain⟨L,hL⟩:∃L,(spl s).length=L:=⟨_,rfl⟩
   rw[hL]at hsp HR h41;have HL:=Ab hL
   have HC:Hid (∀j (hj:j<(spl s).length) (W:World),Below (w.heap.size+1) (w.alloc (.cells (So (spl s)).toArray 9)) W->W.cell? ⟨w.heap.size,j,none⟩=some (.string (B ((spl s)[j]'hj)))):=by
    intro j hj W hW;rw[hW.cell (p:=⟨w.heap.size,j,none⟩) (Nat.lt_succ_self _),World.cell?_alloc_at _ _ _ _ rfl];simp[So,hj]
   have hs40:s.length<=40:=by omega
   clear hL hsz h40 hs;generalize B s=t at*;go_enter Tryz.func37,Tryz.ntmps37
   go_wp2_with (go_at_call 58;refine hsp.mono ?_;rintro e w' ⟨rfl,hw⟩;rw[hw])
   clear hsp;go_loopw [6,14] (fun _ i wr=>∃k:Nat,k<=L/\i=.int .i64 k/\Hid (∀j (hj:j<(spl s).length),j<k->okP ((spl s)[j]'hj)=true)/\Hid (Below (w.heap.size+1) (w.alloc (.cells (So (spl s)).toArray 9)) wr)) (fun _ i _=>L-(intOf i).toNat)
   case atStart=>exact⟨0,VK _,rfl,fun j _ hj=>absurd hj (by omega),Below.refl _ _⟩
   case round=>
    obtain⟨k,hk,rfl,HN,HB⟩:=hrel
    by_cases hlt:k<L
    . have hlt':k<(spl s).length:=by rw[Aa HL];exact hlt
      have hcell:=(Aa HC) k hlt' wr (Aa HB);have hz:=(Aa HB).size;have hlen:=hmem _ (WK hlt');have HM:=Ab (WK hlt');have HQ:=Ab (fun h=>(Aa HE) _ (Aa HM) h)
      have HN2:Hid (okP ((spl s)[k]'hlt')=true->∀j (hj:j<(spl s).length),j<k+1->okP ((spl s)[j]'hj)=true):=by
       intro h j hj hjk
       by_cases e:j=k
       . subst e;exact h
       . exact(Aa HN) j hj (by omega)
      generalize (spl s)[k]'hlt'=q at*;have hz2:w.heap.size+1<=wr.heap.size:=by simp at hz;omega
      clear HM
      have BAD:∀W,Hid (Below (w.heap.size+1) (w.alloc (.cells (So (spl s)).toArray 9)) W)->Hid (okP q=false)->Hid (SRow W w.heap.size (.slice none 0 0) (Z13 s)/\Jz s=1/\Below w.heap.size w W):=by
       intro W h1 h2;have he:=(Aa HQ) (Aa h2)
       refine⟨?_,he,(Mn w _).trans ((Aa h1).mono (Nat.le_succ _))⟩;rw[Ov (by rw[he];decide)];exact SRow.nil _ _
      by_cases h0:q= []
      . subst h0;have hcell2:wr.cell? ⟨w.heap.size,k,none⟩=some (.string ⟨#[]⟩):=hcell;have HX:=BAD wr HB rfl;clear hcell BAD;go_wp2;go_ret2;obtain⟨x1,x2,x3⟩:=Aa HX;rw[x2];exact⟨_,rfl,x1,x3,fun _=>rfl⟩
      by_cases h1:q= [46]
      . subst h1;have hcell2:wr.cell? ⟨w.heap.size,k,none⟩=some (.string ⟨#[46]⟩):=hcell;have HX:=BAD wr HB rfl;clear hcell BAD;go_wp2;go_ret2;obtain⟨x1,x2,x3⟩:=Aa HX;rw[x2];exact⟨_,rfl,x1,x3,fun _=>rfl⟩
      by_cases h2:q= [46,46]
      . subst h2;have hcell2:wr.cell? ⟨w.heap.size,k,none⟩=some (.string ⟨#[46,46]⟩):=hcell;have HX:=BAD wr HB rfl;clear hcell BAD;go_wp2;go_ret2;obtain⟨x1,x2,x3⟩:=Aa HX;rw[x2];exact⟨_,rfl,x1,x3,fun _=>rfl⟩
      have HOK:=Ab (QH h0 h1 h2);have e0:=Vr (B q) h0;have e1:=W6 (B q) [46] h1;have e2:=W6 (B q) [46,46] h2;have cT:=trimS q wr (by unfold maxLen;omega);clear h0 h1 h2;generalize B q=qb at*
      by_cases ht:Lib.trimS q Gx= []
      . have HO2:=Ab ((Aa HOK).2 ht);have hB:B (Lib.trimS q Gx)=⟨#[]⟩:=by rw[ht];rfl
        rw[hB]at cT;clear ht hB HOK BAD;go_wp2_with (go_at_call 59;refine cT.mono ?_;rintro e w1 ⟨rfl,hb1⟩;have HB1:=Ab ((Aa HB).trans (hb1.mono hz2));clear hb1)
        go_roundw
        case rel=>exact⟨k+1,by omega,by go_num,(Aa HN2) (Aa HO2),Aa HB1⟩
        case measure=>simp[intOf];omega
      . have HO2:Hid (okP q=false):=by
         cases ho:okP q with
         |false=>rfl
         |true=>exact absurd ((Aa HOK).1 ho) ht
        have et:=Vr (B (Lib.trimS q Gx)) ht;clear ht HOK;generalize B (Lib.trimS q Gx)=tb at*;have HBAD:=Ab BAD;clear BAD;go_wp2_with (go_at_call 59;refine cT.mono ?_;rintro e w1 ⟨rfl,hb1⟩;have HB1:=Ab ((Aa HB).trans (hb1.mono hz2));clear hb1)
        go_ret2;obtain⟨x1,x2,x3⟩:=Aa ((Aa HBAD) w1 HB1 HO2);rw[x2];exact⟨_,rfl,x1,x3,fun _=>rfl⟩
    . obtain rfl:k=L:=by omega
      have HZ:Hid (Jz s=0):=(Aa HO) (by
       rw[WT];intro p hp;obtain⟨j,hj,rfl⟩:=List.mem_iff_getElem.1 hp;exact(Aa HN) j hj (by rw[Aa HL]at hj;exact hj))
      go_wp2;go_ret2;rw[pdS (Aa HZ),Aa HZ];refine⟨_,rfl, ?_,(Mn w _).trans ((Aa HB).mono (Nat.le_succ _)),fun h=>absurd rfl h⟩;exact(Aa HR).below (by simpa using Aa HB)
theorem LT {f:Fl}(h0:Jz f.name=0)(n:Nat)(hn:f.bytes.length=n)(E:Nat)(hE:Ks f=E):(E=2/\3000<n)\/ (E=3/\n<=3000/\(f.stamp<0\/ (0<=f.stamp/\1000000<f.stamp)\/ (0<=f.stamp/\f.stamp<=1000000/\f.node<0)\/ (0<=f.stamp/\f.stamp<=1000000/\0<=f.node/\3<f.node)))\/ (E=4/\n<=3000/\0<=f.stamp/\f.stamp<=1000000/\0<=f.node/\f.node<=3/\f.gone=true/\0<n)\/ (E=0/\n<=3000/\0<=f.stamp/\f.stamp<=1000000/\0<=f.node/\f.node<=3/\f.gone=true/\n=0)\/ (E=0/\n<=3000/\0<=f.stamp/\f.stamp<=1000000/\0<=f.node/\f.node<=3/\f.gone=false):=by
 subst hn;subst hE
 by_cases h1:3000<f.bytes.length
 . exact .inl ⟨D4 h0 h1,h1⟩
 . by_cases h3:f.stamp<0\/1000000<f.stamp\/f.node<0\/3<f.node
   . exact .inr (.inl ⟨Us h0 h1 h3,by omega,by omega⟩)
   . have e4:=D2 h0 h1 h3
     cases hg:f.gone with
     |true=>
      by_cases hn:0<f.bytes.length
      . rw[if_pos ⟨hg,hn⟩]at e4;exact .inr (.inr (.inl ⟨e4,by omega,by omega,by omega,by omega,by omega,rfl,hn⟩))
      . rw[if_neg (fun k=>hn k.2)]at e4;exact .inr (.inr (.inr (.inl ⟨e4,by omega,by omega,by omega,by omega,by omega,rfl,by omega⟩)))
     |false=>
      rw[if_neg (fun k=>by rw[hg]at k;cases k.1)]at e4;exact .inr (.inr (.inr (.inr ⟨e4,by omega,by omega,by omega,by omega,by omega,rfl⟩)))
def ahn (xs:List Fv):Nat->List UInt8
 |0=> []
 |k+1=>(((fls xs)[k]?).map Fl.name).getD []
theorem Z2g (ad:Option Addr)(n c:Nat)(w:World)(h:12<n):Calls Tryz.prog 8 #[.slice ad n c] w fun e w'=>e=.returned (.int .i64 2)/\w'=w:=by
 go_enter Tryz.func8,Tryz.ntmps8
 go_wp2;go_ret;exact⟨rfl,rfl⟩
theorem Te (ad:Option Addr)(c:Nat)(xs:List Fv)(w:World)(h:FsIn w ad c xs)(n:Nat)(hn:xs.length=n):
 Calls Tryz.prog 8 #[.slice ad n c] w fun e w'=>e=.returned (.int .i64 (Nh (fls xs):Nat))/\Below w.heap.size w w':=by
 have hl:(fls xs).length=n:=by simp[fls,hn]
 by_cases hm:12<n
 . have e:Nh (fls xs)=2:=by unfold Nh;rw[if_pos (by omega)]
   rw[e];refine(Z2g ad n c w hm).mono ?_;rintro e w' ⟨rfl,rfl⟩;exact⟨rfl,Below.refl _ _⟩
 . have e:Nh (fls xs)=AP none (fls xs):=by unfold Nh;rw[if_neg (by omega)]
   obtain⟨E,hE⟩:∃E,AP none (fls xs)=E:=⟨_,rfl⟩
   rw[e,hE];have HI:=Ab h;have HN:=Ab hn;have HE:=Ab hE;have HL:=Ab hl;clear h e hE hn hl;go_enter Tryz.func8,Tryz.ntmps8
   go_wp2;go_loopw [3,4,5,6,7,13] (fun v3 _ _ _ _ i wr=>∃k:Nat,k<=n/\i=.int .i64 (k:Int)/\v3=.string (B (ahn xs k))/\Hid (AP (ahd xs k) ((fls xs).drop k)=E)/\Hid (Below w.heap.size w wr)) (fun _ _ _ _ _ i _=>n-(intOf i).toNat)
   case atStart=>exact⟨0,VK _,rfl,rfl,Aa HE,Below.refl _ _⟩
   case round=>
    obtain⟨k,hk,rfl,rfl,HR,HB⟩:=hrel
    by_cases hlt:k<n
    . obtain⟨x,hx,hxm⟩:=Ri (xs:=xs) (k:=k) (by rw[Aa HN];exact hlt);obtain⟨b,o,rfl,hb,c0,c1,c2,c3,c4⟩:=(Aa HI).get (Aa HB) hx;have hst:=D5 hx;rw[Aa HR]at hst;have hz:=(Aa HB).size;have HPT:=Ab (fun W=>CQ x.f.name W (by have:=((Aa HI).all x hxm).txt;unfold maxLen;omega));have HS:=Ab hst;have hah:ahn xs (k+1)=x.f.name:=by show (((fls xs)[k]?).map Fl.name).getD []=_;simp[fls,hx]
      have HAH:=Ab hah;have hxs:x.sl=.slice x.a x.f.bytes.length x.c:=rfl;rw[hxs]at c1;have HBL:=Ab (fun o'=>(Aa HB).alloc hz o');obtain⟨nb,hnb⟩:∃nb,x.f.bytes.length=nb:=⟨_,rfl⟩
      obtain⟨er,her⟩:∃er,Ks x.f=er:=⟨_,rfl⟩
      have HWY:=Ab (fun h0=>LT (f:=x.f) h0 nb hnb er her);have HEN:=Ab (@D3 x.f);rw[her]at HS HEN
      have hcmp:Hid ((k=0/\behind (ahd xs k) x.f=true)\/ (0<k/\behind (ahd xs k) x.f=decide (Po x.f.name (ahn xs k)=1))):=by
       cases k with
       |zero=>exact .inl ⟨rfl,rfl⟩
       |succ j=>
        refine .inr ⟨by omega, ?_⟩;have hj:j<(fls xs).length:=by rw[Aa HL];omega
        show behind ((fls xs)[j]?) x.f=decide (Po x.f.name ((((fls xs)[j]?).map Fl.name).getD [])=1)
        rw[VR hj];show decide (Po (fls xs)[j].name x.f.name<0)=decide (Po x.f.name (fls xs)[j].name=1)
        rw[decide_eq_decide];have ha:=Sg x.f.name (fls xs)[j].name;have ht:=Jw x.f.name (fls xs)[j].name;omega
      have hle:=SU x.f.name (ahn xs k);have heq:=SV x.f.name (ahn xs k);have h3:=Jw x.f.name (ahn xs k);obtain⟨cm,hcm⟩:∃cm,Po x.f.name (ahn xs k)=cm:=⟨_,rfl⟩
      rw[hcm]at hle heq h3;have HCM:Hid ((k=0/\behind (ahd xs k) x.f=true)\/ (0<k/\behind (ahd xs k) x.f=decide (cm=1))):=by have:=Aa hcmp;rw[hcm]at this;exact this
      clear hst hxm hx hxs her hah hcmp hcm;rw[hnb]at c1;clear hnb;obtain⟨en,hen⟩:∃en,Jz x.f.name=en:=⟨_,rfl⟩
      rw[hen]at HPT HWY HEN;clear hen;obtain⟨t,ht⟩:∃t,B x.f.name=t:=⟨_,rfl⟩
      obtain⟨t',ht'⟩:∃t',B (ahn xs k)=t':=⟨_,rfl⟩
      rw[ht]at HPT c0 hle heq;rw[ht']at hle heq;rw[ht'];have HT:=Ab ht;clear ht ht';generalize x.f.stamp=st at*;generalize x.f.node=nd at*;generalize x.f.gone=gn at*
      by_cases he:en=0
      . subst he;have hways:=Aa HWY rfl;clear HWY HEN;have hstep:=Aa HS;clear HS
        by_cases hE4:er=0
        . subst hE4
          have hw2:(nb<=3000/\0<=st/\st<=1000000/\0<=nd/\nd<=3)/\((gn=true/\nb=0)\/gn=false):=by
           rcases hways with ⟨h,_⟩|⟨h,_⟩|⟨h,_⟩|⟨_,a1,a2,a3,a4,a5,a6,a7⟩|⟨_,a1,a2,a3,a4,a5,a6⟩
           . omega
           . omega
           . omega
           . exact⟨⟨a1,a2,a3,a4,a5⟩,.inl ⟨a6,a7⟩⟩
           . exact⟨⟨a1,a2,a3,a4,a5⟩,.inr a6⟩
          obtain⟨⟨a1,a2,a3,a4,a5⟩,hgn⟩:=hw2;rw[if_neg (by simp)]at hstep;clear hways
          have hfork:(Hid (behind (ahd xs k) x.f=true)/\(k=0\/ (0<k/\cm=1)))\/ (Hid (behind (ahd xs k) x.f=false)/\0<k/\(cm= -1\/cm=0)):=by
           rcases Aa HCM with ⟨q1,q2⟩|⟨q1,q2⟩
           . exact .inl ⟨q2,.inl q1⟩
           . by_cases e1:cm=1
             . exact .inl ⟨by rw[q2];exact decide_eq_true e1,.inr ⟨q1,e1⟩⟩
             . exact .inr ⟨by rw[q2];exact decide_eq_false e1,q1,by omega⟩
          clear HCM
          rcases hfork with ⟨HBH,hf⟩|⟨HBH,hk0,hf⟩
          . rw[if_neg (by rw[Aa HBH];simp)]at hstep;have HN2:=Ab hstep;clear hstep HBH
            rcases hgn with ⟨rfl,rfl⟩|rfl
            all_goals (
             rcases hf with rfl|⟨hk0,rfl⟩
             all_goals (
              try simp only[YI,XL]at c0 c1 c2 c3 c4
              try simp only[Int.reduceLT,Int.reduceEq,decide_false]at hle heq
              go_wp2_with fail
              refine(Aa HPT _).mono ?_;rintro e w1 ⟨v1,rfl,_,hb1,_⟩;have HB1:=Ab ((Aa HBL _).trans (hb1.mono (by simp;omega)));have q0:w1.cell? ⟨wr.heap.size,0,none⟩=some (.string t):=(hb1.cell (p:=⟨wr.heap.size,0,none⟩) (by simp)).trans (by simp);have q1:=(hb1.cell (p:=⟨wr.heap.size,1,none⟩) (by simp)).trans (by simp;rfl);have q2:w1.cell? ⟨wr.heap.size,2,none⟩=some (.int .i64 st):=(hb1.cell (p:=⟨wr.heap.size,2,none⟩) (by simp)).trans (by simp);have q3:w1.cell? ⟨wr.heap.size,3,none⟩=some (.int .i64 nd):=(hb1.cell (p:=⟨wr.heap.size,3,none⟩) (by simp)).trans (by simp);have q4:=(hb1.cell (p:=⟨wr.heap.size,4,none⟩) (by simp)).trans (by simp;rfl);clear hb1;go_wp2;go_roundw
              case rel=>exact⟨_,by omega,by go_num,by rw[Aa HAH,Aa HT],(Aa HN2).symm,Aa HB1⟩
              case measure=>simp[intOf];omega))
          . rw[if_pos (Aa HBH)]at hstep;have HN2:=Ab hstep;clear hstep HBH;have hki:(0:Int)<(k:Int):=by omega
            rcases hgn with ⟨rfl,rfl⟩|rfl
            all_goals (
             rcases hf with rfl|rfl
             all_goals (
              try simp only[Int.reduceLT,Int.reduceEq,Int.reduceNeg,decide_true,decide_false]at hle heq
              go_wp2_with fail
              refine(Aa HPT _).mono ?_;rintro e w1 ⟨v1,rfl,_,hb1,_⟩;have HB1:=Ab ((Aa HBL _).trans (hb1.mono (by simp;omega)));have q0:w1.cell? ⟨wr.heap.size,0,none⟩=some (.string t):=(hb1.cell (p:=⟨wr.heap.size,0,none⟩) (by simp)).trans (by simp);have q1:=(hb1.cell (p:=⟨wr.heap.size,1,none⟩) (by simp)).trans (by simp;rfl);have q2:w1.cell? ⟨wr.heap.size,2,none⟩=some (.int .i64 st):=(hb1.cell (p:=⟨wr.heap.size,2,none⟩) (by simp)).trans (by simp);have q3:w1.cell? ⟨wr.heap.size,3,none⟩=some (.int .i64 nd):=(hb1.cell (p:=⟨wr.heap.size,3,none⟩) (by simp)).trans (by simp);have q4:=(hb1.cell (p:=⟨wr.heap.size,4,none⟩) (by simp)).trans (by simp;rfl);clear hb1;go_wp2;go_ret;exact⟨Cz (by rw[Aa HN2];rfl),Aa HB1⟩))
        . rw[if_pos (by simpa using hE4)]at hstep;have HN2:=Ab hstep;clear hstep HCM
          rcases hways with ⟨rfl,a1⟩|⟨rfl,a1,a2|⟨a2,a3⟩|⟨a2,a3,a4⟩|⟨a2,a3,a4,a5⟩⟩|⟨rfl,a1,a2,a3,a4,a5,rfl,a6⟩|⟨rfl,_⟩|⟨rfl,_⟩
          . skip
            go_wp2_with fail
            refine(Aa HPT _).mono ?_;rintro e w1 ⟨v1,rfl,_,hb1,_⟩;have HB1:=Ab ((Aa HBL _).trans (hb1.mono (by simp;omega)));have q0:w1.cell? ⟨wr.heap.size,0,none⟩=some (.string t):=(hb1.cell (p:=⟨wr.heap.size,0,none⟩) (by simp)).trans (by simp);have q1:=(hb1.cell (p:=⟨wr.heap.size,1,none⟩) (by simp)).trans (by simp;rfl);have q2:w1.cell? ⟨wr.heap.size,2,none⟩=some (.int .i64 st):=(hb1.cell (p:=⟨wr.heap.size,2,none⟩) (by simp)).trans (by simp);have q3:w1.cell? ⟨wr.heap.size,3,none⟩=some (.int .i64 nd):=(hb1.cell (p:=⟨wr.heap.size,3,none⟩) (by simp)).trans (by simp);have q4:=(hb1.cell (p:=⟨wr.heap.size,4,none⟩) (by simp)).trans (by simp;rfl);clear hb1;go_wp2;go_ret;exact⟨Cz (by rw[Aa HN2];rfl),Aa HB1⟩
          . skip
            go_wp2_with fail
            refine(Aa HPT _).mono ?_;rintro e w1 ⟨v1,rfl,_,hb1,_⟩;have HB1:=Ab ((Aa HBL _).trans (hb1.mono (by simp;omega)));have q0:w1.cell? ⟨wr.heap.size,0,none⟩=some (.string t):=(hb1.cell (p:=⟨wr.heap.size,0,none⟩) (by simp)).trans (by simp);have q1:=(hb1.cell (p:=⟨wr.heap.size,1,none⟩) (by simp)).trans (by simp;rfl);have q2:w1.cell? ⟨wr.heap.size,2,none⟩=some (.int .i64 st):=(hb1.cell (p:=⟨wr.heap.size,2,none⟩) (by simp)).trans (by simp);have q3:w1.cell? ⟨wr.heap.size,3,none⟩=some (.int .i64 nd):=(hb1.cell (p:=⟨wr.heap.size,3,none⟩) (by simp)).trans (by simp);have q4:=(hb1.cell (p:=⟨wr.heap.size,4,none⟩) (by simp)).trans (by simp;rfl);clear hb1;go_wp2;go_ret;exact⟨Cz (by rw[Aa HN2];rfl),Aa HB1⟩
          . skip
            go_wp2_with fail
            refine(Aa HPT _).mono ?_;rintro e w1 ⟨v1,rfl,_,hb1,_⟩;have HB1:=Ab ((Aa HBL _).trans (hb1.mono (by simp;omega)));have q0:w1.cell? ⟨wr.heap.size,0,none⟩=some (.string t):=(hb1.cell (p:=⟨wr.heap.size,0,none⟩) (by simp)).trans (by simp);have q1:=(hb1.cell (p:=⟨wr.heap.size,1,none⟩) (by simp)).trans (by simp;rfl);have q2:w1.cell? ⟨wr.heap.size,2,none⟩=some (.int .i64 st):=(hb1.cell (p:=⟨wr.heap.size,2,none⟩) (by simp)).trans (by simp);have q3:w1.cell? ⟨wr.heap.size,3,none⟩=some (.int .i64 nd):=(hb1.cell (p:=⟨wr.heap.size,3,none⟩) (by simp)).trans (by simp);have q4:=(hb1.cell (p:=⟨wr.heap.size,4,none⟩) (by simp)).trans (by simp;rfl);clear hb1;go_wp2;go_ret;exact⟨Cz (by rw[Aa HN2];rfl),Aa HB1⟩
          . skip
            go_wp2_with fail
            refine(Aa HPT _).mono ?_;rintro e w1 ⟨v1,rfl,_,hb1,_⟩;have HB1:=Ab ((Aa HBL _).trans (hb1.mono (by simp;omega)));have q0:w1.cell? ⟨wr.heap.size,0,none⟩=some (.string t):=(hb1.cell (p:=⟨wr.heap.size,0,none⟩) (by simp)).trans (by simp);have q1:=(hb1.cell (p:=⟨wr.heap.size,1,none⟩) (by simp)).trans (by simp;rfl);have q2:w1.cell? ⟨wr.heap.size,2,none⟩=some (.int .i64 st):=(hb1.cell (p:=⟨wr.heap.size,2,none⟩) (by simp)).trans (by simp);have q3:w1.cell? ⟨wr.heap.size,3,none⟩=some (.int .i64 nd):=(hb1.cell (p:=⟨wr.heap.size,3,none⟩) (by simp)).trans (by simp);have q4:=(hb1.cell (p:=⟨wr.heap.size,4,none⟩) (by simp)).trans (by simp;rfl);clear hb1;go_wp2;go_ret;exact⟨Cz (by rw[Aa HN2];rfl),Aa HB1⟩
          . skip
            go_wp2_with fail
            refine(Aa HPT _).mono ?_;rintro e w1 ⟨v1,rfl,_,hb1,_⟩;have HB1:=Ab ((Aa HBL _).trans (hb1.mono (by simp;omega)));have q0:w1.cell? ⟨wr.heap.size,0,none⟩=some (.string t):=(hb1.cell (p:=⟨wr.heap.size,0,none⟩) (by simp)).trans (by simp);have q1:=(hb1.cell (p:=⟨wr.heap.size,1,none⟩) (by simp)).trans (by simp;rfl);have q2:w1.cell? ⟨wr.heap.size,2,none⟩=some (.int .i64 st):=(hb1.cell (p:=⟨wr.heap.size,2,none⟩) (by simp)).trans (by simp);have q3:w1.cell? ⟨wr.heap.size,3,none⟩=some (.int .i64 nd):=(hb1.cell (p:=⟨wr.heap.size,3,none⟩) (by simp)).trans (by simp);have q4:=(hb1.cell (p:=⟨wr.heap.size,4,none⟩) (by simp)).trans (by simp;rfl);clear hb1;go_wp2;go_ret;exact⟨Cz (by rw[Aa HN2];rfl),Aa HB1⟩
          . skip
            go_wp2_with fail
            refine(Aa HPT _).mono ?_;rintro e w1 ⟨v1,rfl,_,hb1,_⟩;have HB1:=Ab ((Aa HBL _).trans (hb1.mono (by simp;omega)));have q0:w1.cell? ⟨wr.heap.size,0,none⟩=some (.string t):=(hb1.cell (p:=⟨wr.heap.size,0,none⟩) (by simp)).trans (by simp);have q1:=(hb1.cell (p:=⟨wr.heap.size,1,none⟩) (by simp)).trans (by simp;rfl);have q2:w1.cell? ⟨wr.heap.size,2,none⟩=some (.int .i64 st):=(hb1.cell (p:=⟨wr.heap.size,2,none⟩) (by simp)).trans (by simp);have q3:w1.cell? ⟨wr.heap.size,3,none⟩=some (.int .i64 nd):=(hb1.cell (p:=⟨wr.heap.size,3,none⟩) (by simp)).trans (by simp);have q4:=(hb1.cell (p:=⟨wr.heap.size,4,none⟩) (by simp)).trans (by simp;rfl);clear hb1;go_wp2;go_ret;exact⟨Cz (by rw[Aa HN2];rfl),Aa HB1⟩
          . exact absurd rfl hE4
          . exact absurd rfl hE4
      . have hen:=Aa HEN he;have hstep:=Aa HS;rw[hen,if_pos (by simpa using he)]at hstep;have HN2:=Ab hstep;clear hstep hen HS HWY HEN HCM;go_wp2_with fail
        refine(Aa HPT _).mono ?_;rintro e w1 ⟨v1,rfl,_,hb1,_⟩;have HB1:=Ab ((Aa HBL _).trans (hb1.mono (by simp;omega)));clear hb1;go_wp2;go_ret;exact⟨Cz (by rw[Aa HN2]),Aa HB1⟩
    . obtain rfl:n=k:=by omega
      go_wp2;go_ret;have:=Aa HR
      rw[XV (by rw[Aa HL];exact VC _)]at this;exact⟨Cz (by rw[<-this];rfl),Aa HB⟩
end Go.Proofs.YtleocpdblhbimaaGreatDoor
