import Derived.Test.YtleocpdblhbimaaGreatDoorQ40
import Derived.Test.YtleocpdblhbimaaGreatDoorQ39
import Derived.Shelf.Slices.Equal
import Derived.Shelf.Slices.Empties2
import Derived.Lib.SlBytesConst
set_option linter.unusedSimpArgs false
set_option maxHeartbeats 4000000
namespace Go.Proofs.YtleocpdblhbimaaGreatDoor
open Go.RowKit
set_option linter.unusedVariables false
set_option maxRecDepth 100000
def WrA (w:World)(fs:List Fl)(e:Ending)(w':World):Prop:=
 Below w.heap.size w w'/\((Nh fs≠0/\e=.returned (.tuple #[.slice none 0 0,.int .i64 (Nh fs:Nat)]))\/ (Nh fs=0/\∃l:List En,l.map En.f=fs/\(∀x∈l,EOf x)/\((12000<(Ba l).length/\e=.returned (.tuple #[.slice none 0 0,.int .i64 11]))\/ ((Ba l).length<=12000/\∃a c,e=.returned (.tuple #[.slice a (Ba l).length c,.int .i64 0])/\(Ba l).length<=c/\PkIn w' a c (Ba l)))))
theorem CD {w:World}{Bs:Nat}{v:Value}{xs:List Ev}{g:Nat}(h:ERow w Bs v xs)(hg:v.ownBlock=some g)(hne:xs≠ []):∃s,w.cell? ⟨g,0,none⟩=some (.string s):=by
 obtain⟨ad,c,rfl,hes⟩:=h.entries
 cases xs with
 |nil=>exact absurd rfl hne
 |cons x r=>
  rcases hes.at_ with h1|⟨b,o,rfl,hb,hE⟩
  . cases h1
  . have h0:=hE 0 x rfl 0 (by decide);have hsh:=Be h.own (by simp);obtain⟨g',cap,hv,_⟩:=hsh
    cases hv
    cases hg
    have h1:w.cell? ⟨b,0+0*8+0,none⟩=some (.string (B x.e.f.name)):=h0;exact⟨_,h1⟩
theorem EOf.num {x:En}(h:EOf x)(hv:Ks x.f=0):ENum x/\∀y∈x.pk,y<256:=by
 obtain⟨h1,h2,h3,h4,h5,h6⟩:=Hu hv;have hcr:x.crc<4294967296:=by rw[h.cr];exact Z2d (Ir _) (by decide)
 obtain⟨out,ho,(⟨q1,q2,q3⟩|⟨q1,q2,q3⟩)⟩:=h.pk
 . exact⟨⟨⟨h3,h4⟩,⟨h5,h6⟩,h1,h2,by rw[q3];omega,hcr,by rw[q2];decide⟩,by rw[q3];exact Wr ho.val⟩
 . exact⟨⟨⟨h3,h4⟩,⟨h5,h6⟩,h1,h2,by rw[q3,Cd];omega,hcr,by rw[q2];decide⟩,by rw[q3];exact Ir _⟩
theorem Th (ad:Option Addr)(c n:Nat)(xs:List Fv)(w:World)(h:FsIn w ad c xs)(hn:xs.length=n):
 Calls Tryz.prog 7 #[.slice ad n c] w fun e w'=>WrA w (fls xs) e w':=by
 have HCC:=Ab (Sh ad c xs w h n hn);obtain⟨E,hE⟩:∃E,Nh (fls xs)=E:=⟨_,rfl⟩
 rw[hE]at HCC;have HI:=Ab h;have HN:=Ab hn;have HE:=Ab hE;clear h hn hE;go_enter Tryz.func7,Tryz.ntmps7
 go_wp2_with fail
 refine(Aa HCC).mono ?_;rintro e w1 ⟨rfl,hB1⟩
 by_cases hE0:E=0
 . subst hE0;have hok:=Jv (Aa HE)
   have hn12:n<=12:=by
    have h1:=hok.1;have h2:=Aa HN;simp[fls]at h1
    omega
   have hvx:∀x∈xs,Ks x.f=0:=fun x hx=>hok.2 x.f (XJ hx)
   have HVX:=Ab hvx;have HB1:=Ab hB1;clear hB1 hok hvx HCC;go_wp2;go_loopw [5,7,16] (fun v5 _ i wr=>∃(k:Nat) (es:List Ev),k<=n/\i=.int .i64 (k:Int)/\Hid (ERow wr w.heap.size v5 es/\es.map (fun y=>y.e.f)=(fls xs).take k/\(∀y∈es,EOf y.e)/\(es= []->v5=.slice none 0 0))/\Hid (Below w.heap.size w wr)) (fun _ _ i _=>n-(intOf i).toNat)
   case atStart=>exact⟨0,[],VK _,rfl,Ab ⟨ERow.nil _ _,by simp,(fun y hy=>absurd hy XB),fun _=>rfl⟩,HB1⟩
   case round=>
    obtain⟨k,es,hk,rfl,HR,HB⟩:=hrel
    have hel:es.length=k:=by
     have:=congrArg List.length (Aa HR).2.1
     have h2:=Aa HN;simp[fls]at this
     omega
    by_cases hlt:k<n
    . obtain⟨x,hx,hxm⟩:=Ri (xs:=xs) (k:=k) (by rw[Aa HN];exact hlt);obtain⟨b,o,rfl,hb,c0,c1,c2,c3,c4⟩:=(Aa HI).get (Aa HB) hx;have hz:=(Aa HB).size;have hxin:=(Aa HI).all x hxm;have HEO:=Ab (fun(W:World) (hW:Below w.heap.size w W)=>Q0 x W (hxin.below hW (VC _)) (by have:=Hu (Aa HVX x hxm);omega));have hfl:(fls xs).take (k+1)=(fls xs).take k++ [x.f]:=Fj (by simp[fls,hx])
      have hxlt:∀g o,x.a=some ⟨g,o,none⟩->x.f.bytes≠ []->g<w.heap.size:=fun g o e1 e2=>by
       have:=Wa (SJ hxin.bs) g o e1 (fun e=>e2 (by rw[<-CW x.f.bytes,e];rfl))
       exact this
      have HXLT:=Ab hxlt;have HFL:=Ab hfl;rw[Tj]at HEO;unfold Fv.sl at c1;clear hx hxm hxin hfl hxlt;have HEL:=Ab hel;have hB2:∀o1:Obj,Below w.heap.size w (wr.alloc o1):=fun o1=>(Aa HB).alloc hz o1
      have HB2:=Ab hB2;have HR2:=Ab (fun o1:Obj=>(Aa HR).1.below ((Below.refl wr.heap.size wr).alloc (VC _) o1));obtain⟨xf,xa,xc⟩:=x;dsimp only at c0 c1 c2 c3 c4;have HEO':=HEO;clear hB2 hel;generalize hnm:B xf.name=nm at c0 HEO;generalize hbl:xf.bytes.length=bl at c1 HEO;generalize hst:xf.stamp=st at c2 HEO;generalize hnd:xf.node=nd at c3 HEO;generalize hgn:xf.gone=gn at c4 HEO;clear hnm hbl hst hnd hgn HEO';go_wp2_with fail
      refine(Aa HEO _ (Aa HB2 _)).mono ?_;rintro e w2 ⟨y,rfl,hyf,hyo,hyi,hB3,hya,hyp⟩;replace hyf:y.e.f=xf:=hyf;replace hya:y.fa=xa:=hya;have hB4:=(Aa HB2 _).trans (hB3.mono (by simp;omega));have hrow:=(Aa HR2 _).below hB3
      have hlies:y.lies (fun g=>some g≠u5.ownBlock):=by
       have hold:∀g o,xa=some ⟨g,o,none⟩->xf.bytes≠ []->some g≠u5.ownBlock:=fun g o e1 e2 e3=>by
        have h1:=Aa HXLT g o e1 e2;have h2:=(hrow.own.lt g e3.symm).1;omega
       constructor
       . intro g o e1 e2;exact hold g o (hya.symm.trans e1) (by rw[<-hyf];exact e2)
       . intro g o e1 e2
         rcases hyp g o e1 e2 with ⟨q1,q2⟩|rfl
         . exact hold g o q1 (by rw[<-hyf];exact q2)
         . intro e3
           have hne:es≠ []:=by
            intro e4;rw[(Aa HR).2.2.2 e4]at e3
            cases e3
           obtain⟨s,hs⟩:=CD hrow e3.symm hne
           rcases hyi.pk.1 with h5|⟨b',o',e5,hb5,hc5⟩
           . exact e2 h5
           . rw[e1]at e5
             cases e5
             have:=hc5 0 (List.length_pos_iff.2 e2)
             rw[WI,hs]at this
             cases this
      have HR3:=Ab (fun o1:Obj=>hrow.below ((Below.refl w2.heap.size w2).alloc (VC _) o1));have HYI:=Ab (fun o1:Obj=>hyi.below ((Below.refl w2.heap.size w2).alloc (VC _) o1));have HYL:=Ab hlies;have HYO:=Ab hyo;have HYF:=Ab hyf;have hz2:=hB4.size;have HB5:=Ab (fun o1:Obj=>hB4.alloc hz2 o1);have hel2:es.length+1<=100000:=by rw[Aa HEL];omega
      have HCE:Hid (∀o1,o1=Obj.cells y.cells.toArray 71->∀j u,y.cells[j]? =some u->(w2.alloc o1).cell? ⟨w2.heap.size,j,none⟩=some u):=Ab (fun o1 e j u hj=>by
       subst e;rw[Ac (heap_alloc_new w2 _)];simpa using hj)
      clear hB3 hB4 hrow hlies hyi hyo hyf hya hyp HEO c0 c1 c2 c3 c4;unfold Ev.val;go_wp2_with (at_builtin;refine Fi _ rfl _ _ rfl w.heap.size _ es rfl (Aa HR3 _) w2.heap.size y rfl (Aa HCE _ rfl) (Aa HYI _) (Aa HYL) hel2 (by simp;omega) ?_)
      intro v' w3 hrow3 hg3
      have HR4:Hid (ERow w3 w.heap.size v' (es++ [y])/\(es++ [y]).map (fun y=>y.e.f)=(fls xs).take (k+1)/\(∀z∈es++ [y],EOf z.e)/\(es++ [y]= []->v'=.slice none 0 0)):=Ab (by
       refine⟨Aa hrow3, ?_,fun z hz=> ?_,fun e=>by simp at e⟩
       . rw[WS,(Aa HR).2.1,Aa HFL];simp[Aa HYF]
       . rcases WJ.1 hz with hz|hz
         . exact(Aa HR).2.2.1 z hz
         . rw[WQ.1 hz];exact Aa HYO)
      have HB6:Hid (Below w.heap.size w w3):=Ab ((Aa HB5 _).grown (Aa hg3) (by simp;omega) (fun g e=>((Aa HR3 (.cells y.cells.toArray 71)).own.lt g e).1));clear hrow3 hg3;go_wp2;go_roundw
      case rel=>exact⟨k+1,es++ [y],by omega,by go_num,HR4,HB6⟩
      case measure=>simp[intOf];omega
    . obtain rfl:n=k:=by omega
      obtain⟨hrow,hfs,heo,_⟩:=Aa HR;have hta:(fls xs).take n=fls xs:=VP (by simp[fls,Aa HN]);rw[hta]at hfs;obtain⟨ad2,c2,hv,hes⟩:=hrow.entries;rw[hel]at hv;subst hv;obtain⟨l,hll⟩:∃l,es.map Ev.e=l:=⟨_,rfl⟩
      have hlf:l.map En.f=fls xs:=by rw[<-hll,ZL];exact hfs
      have hlo:∀x∈l,EOf x:=by
       rw[<-hll];intro x hx;obtain⟨y,hy,rfl⟩:=XC.1 hx;exact heo y hy
      have hev:∀x∈l,Ks x.f=0:=fun x hx=>by
       have:x.f∈fls xs:=by rw[<-hlf];exact XJ hx
       obtain⟨z,hz,hze⟩:=XC.1 this;rw[<-hze];exact Aa HVX z hz
      have hnum:∀x∈es,ENum x.e:=fun x hx=>((hlo x.e (by rw[<-hll];exact XJ hx)).num (hev x.e (by rw[<-hll];exact XJ hx))).1
      have HCA:=Ab (Sl ad2 c2 n es wr hes hel hn12 hnum);rw[hll]at HCA;have HLF:=Ab hlf;have HLO:=Ab hlo;clear hrow hfs heo hta hes hll hlf hlo hev hnum hel;go_wp2_with fail
      refine(Aa HCA).mono ?_;rintro e w4 ⟨v4,rfl,ho,hB4⟩;obtain⟨a4,c4,rfl,q1,q2,q3,q4⟩:=Uh ho;have hB5:=(Aa HB).trans (hB4.mono (Aa HB).size);obtain⟨AL,hAL⟩:∃AL,(Ba l).length=AL:=⟨_,rfl⟩
      rw[hAL]at q2;rw[hAL]
      by_cases hbig:12000<AL
      . have HF:Hid (WrA w (fls xs) (.returned (.tuple #[.slice none 0 0,.int .i64 11])) w4):=Ab ⟨hB5,.inr ⟨Aa HE,l,Aa HLF,Aa HLO,.inl ⟨by rw[hAL];exact hbig,rfl⟩⟩⟩;have hbI:(12000:Int)<(AL:Int):=by omega
        clear hB4 hB5 ho q1 q2 q3 q4 hAL hbig HCA;go_wp2;go_ret2;exact Aa HF
      . have HF:Hid (WrA w (fls xs) (.returned (.tuple #[.slice a4 AL c4,.int .i64 0])) w4):=Ab ⟨hB5,.inr ⟨Aa HE,l,Aa HLF,Aa HLO,.inr ⟨by rw[hAL];omega,a4,c4,by rw[hAL],by rw[hAL];exact q2,q1⟩⟩⟩;have hbI:¬(12000:Int)<(AL:Int):=by omega
        clear hB4 hB5 ho q1 q2 q3 q4 hAL hbig HCA;go_wp2;go_ret2;exact Aa HF
 . have HF:Hid (WrA w (fls xs) (.returned (.tuple #[.slice none 0 0,.int .i64 (E:Int)])) w1):=Ab ⟨hB1,.inl ⟨by rw[Aa HE];exact hE0,by rw[Aa HE]⟩⟩;have hEb:((E:Int)==0)=false:=by rw[beq_eq_false_iff_ne];omega
   have hEc:((E:Int)!=0)=true:=by rw[bne,hEb];rfl
   clear hB1 hE0;go_wp2;go_ret2;exact Aa HF
def Z43:Go.Shelf.Ren:=⟨fun|193=>18|n=>n,fun|31=>43|9=>9|4=>4|3=>3|0=>0|n=>n,fun|n=>n⟩
theorem Rr:Go.Proofs.Lays.n193 Tryz.prog Z43:= {
 mixed:=by kernel_rfl
 f193:=Tryz.func18.trans (congrArg some (by kernel_rfl))
 t0:=Tryz.underlying0
 a0:=Tryz.isAgg0
 z0:=Tryz.sizeOf0
 v0:=Tryz.zeroValue0
 t3:=Tryz.underlying3
 a3:=Tryz.isAgg3
 z3:=Tryz.sizeOf3
 v3:=Tryz.zeroValue3
 t4:=Tryz.underlying4
 a4:=Tryz.isAgg4
 z4:=Tryz.sizeOf4
 v4:=Tryz.zeroValue4
 t9:=Tryz.underlying9
 a9:=Tryz.isAgg9
 z9:=Tryz.sizeOf9
 v9:=Tryz.zeroValue9
 t31:=Tryz.underlying43
 a31:=Tryz.isAgg43
 z31:=Tryz.sizeOf43
 v31:=Tryz.zeroValue43}
theorem TU (ps:List (List UInt8))(j:Nat)(hj:j<(ps.map B).length):(ps.map B)[j]? =some ((ps.map B).getD j ByteArray.empty):=by
 simp only[WG]at hj;simp[List.getD,hj]
theorem Z42 {b c:Nat}{v u:Value}{ps qs:List (List UInt8)}{w:World}(h:SRow w b v ps)(h2:SRow w c u qs):
 Calls Tryz.prog 18 #[v,u] w fun e w'=>e=.returned (.bool (decide (ps=qs)))/\∃q,w'=w.drewN q:=by
 have done0:∀w':World,w'=w->∃q,w'=w.drewN q:=fun w' e=>⟨0,by rw[e];rfl⟩
 rcases h.cases with ⟨rfl,rfl⟩|⟨g,cap,rfl,hg,hgs,hc,hm,hcell⟩
 . rcases h2.cases with ⟨rfl,rfl⟩|⟨g2,cap2,rfl,hg2,hgs2,hc2,hm2,hcell2⟩
   . refine(Any.slices_Equal_string_empty Rr none none 0 0 0 w (by decide)).mono ?_;rintro e w' ⟨rfl,hw⟩;exact⟨rfl,done0 _ hw⟩
   . unfold maxLen at hm2;refine(Any.slices_Equal_string_empty Rr none _ 0 qs.length cap2 w (by omega)).mono ?_;rintro e w' ⟨rfl,hw⟩;refine⟨De ?_,done0 _ hw⟩;rw[decide_eq_decide];rw[ZG];exact⟨fun e=>e.symm,fun e=>e.symm⟩
 . rcases h2.cases with ⟨rfl,rfl⟩|⟨g2,cap2,rfl,hg2,hgs2,hc2,hm2,hcell2⟩
   . by_cases h0:ps.length=0
     . rw[h0];refine(Any.slices_Equal_string_empty Rr _ none cap 0 0 w (by decide)).mono ?_;rintro e w' ⟨rfl,hw⟩;refine⟨De ?_,done0 _ hw⟩;rw[ZG.1 h0];rfl
     . refine(Any.slices_Equal_string_lens Rr _ none ps.length cap 0 0 w h0).mono ?_;rintro e w' ⟨rfl,hw⟩;refine⟨De ?_,done0 _ hw⟩;have:ps≠ []:=fun e=>h0 (by rw[e];rfl)
       simp[this]
   . unfold maxLen at hm hm2;refine(Any.slices_Equal_string Rr g 0 ps.length cap g2 0 qs.length cap2 (ps.map B) (qs.map B) w (by simp) (by simp) (by omega) (by omega) (fun j hj=>hcell j _ (TU ps j hj)) (fun j hj=>hcell2 j _ (TU qs j hj))).mono ?_;rintro e w' ⟨rfl,hw⟩;refine⟨De ?_,hw⟩;rw[decide_eq_decide,VP (by simp),VP (by simp)]
     constructor
     . intro e;have:=congrArg (List.map fun x:ByteArray=>x.data.toList) e
       simp only[ZL]at this;have e3:((fun x:ByteArray=>x.data.toList) ∘ B)=id:=by funext l;rfl
       rw[e3,List.map_id,List.map_id]at this;exact this
     . intro e;rw[e]
theorem KE:(Tryz.prog.info? 9).map (fun i=>(i.zero,i.size,i.bytes))=some (some (.string ByteArray.empty),1,16):=by kernel_rfl
theorem BJ (n cap:Nat)(a:Option Addr)(bs:List Nat)(w:World)(hl:bs.length=n)(hc:n<=cap)(hP:PkIn w a cap bs)(hv:∀x∈bs,x<256)(hm:n<=9223372036854775807)(hS:Z2y bs):
 Calls Tryz.prog 15 #[.slice a n cap] w fun e w'=>∃v,e=.returned (.tuple #[v,.int .i64 (Id bs:Nat)])/\SRow w' w.heap.size v ((Hk bs).map Fl.name)/\Below w.heap.size w w':=by
 obtain⟨i0,hi,hz0,hz1,hz2⟩:=info_parts KE;have HC:=Ab (Xj n cap a bs w hl hc hP hv hm hS);clear hS
 have hl12:(Hk bs).length<=12:=by
  by_cases h0:Id bs=0
  . obtain⟨l,_,h2,_,_,h5,_⟩:=IJ h0;rw[h5];exact(Jv h2).1
  . unfold Hk;rw[if_pos h0];exact VK _
 have hbad:Id bs≠0->Hk bs= []:=fun h=>by unfold Hk;rw[if_pos h]
 unfold RdA at HC;obtain⟨E,hE⟩:∃E,Id bs=E:=⟨_,rfl⟩
 obtain⟨fs,hfs⟩:∃fs,Hk bs=fs:=⟨_,rfl⟩
 rw[hE,hfs]at HC hbad;rw[hfs]at hl12;rw[hE,hfs];have HBAD:=Ab hbad;clear hl hP hv hbad hE hfs;go_enter Tryz.func15,Tryz.ntmps15
 go_wp2_with fail
 refine(Aa HC).mono ?_;rintro e w1 ⟨v,rfl,⟨ad,c,xs,rfl,hx,hxl⟩,hB1⟩;obtain⟨k,hk⟩:∃k,fs.length=k:=⟨_,rfl⟩
 rw[hk]at hl12 ⊢;have hxn:xs.length=k:=by rw[<-hk,<-hxl];simp[fls]
 by_cases hE0:E=0
 . subst hE0;have HX:=Ab hx;have HXL:=Ab hxl;have HXN:=Ab hxn;have HK:=Ab hk;have HB1:=Ab hB1;clear hx hxl hxn hk hB1 HC;go_wp2;go_loopw [6,8,19] (fun v6 _ i wr=>∃j:Nat,j<=k/\i=.int .i64 (j:Int)/\Hid (SRow wr w1.heap.size v6 ((fs.take j).map Fl.name))/\Hid (Below w1.heap.size w1 wr)) (fun _ _ i _=>k-(intOf i).toNat)
   case atStart=>exact⟨0,VK _,rfl,Ab (SRow.nil _ _),Ab (Below.refl _ _)⟩
   case round=>
    obtain⟨j,hj,rfl,HS,HB⟩:=hrel
    by_cases hlt:j<k
    . obtain⟨x,hx,hxm⟩:=Ri (xs:=xs) (k:=j) (by rw[Aa HXN];exact hlt);obtain⟨b,o,rfl,hb,c0,c1,c2,c3,c4⟩:=(Aa HX).get (Aa HB) hx;have hz:=(Aa HB).size;have hz1':=(Aa HB1).size
      have htk:(fs.take (j+1)).map Fl.name=(fs.take j).map Fl.name++ [x.f.name]:=by
       have:fs[j]? =some x.f:=by rw[<-Aa HXL];simp[fls,hx]
       rw[Fj this];simp
      have hln:((fs.take j).map Fl.name).length=j:=by rw[WG,VM,Aa HK];omega
      unfold Fv.sl at c1;have hS:=Aa HS;unfold SRow at hS;rw[hln]at hS;obtain⟨NS,hNS⟩:∃NS,(fs.take j).map Fl.name=NS:=⟨_,rfl⟩
      rw[hNS]at hS htk hln;have HTK:=Ab htk;clear hNS;have HO:=Ab (fun o1 o2:Obj=>(hS.alloc o1).alloc o2);have HB2:=Ab (fun o1 o2:Obj=>((Aa HB).alloc hz o1).alloc (by simp;omega) o2);have hbl:∀g,u6.ownBlock=some g->w1.heap.size<=g:=fun g e=>(hS.lt g e).1
      have HBL:=Ab hbl;have HLN:=Ab hln;obtain⟨⟨nml,bys,st,nd,gn⟩,xa,xc⟩:=x;dsimp only at c0 c1 c2 c3 c4;obtain⟨nm,hnm⟩:∃nm,B nml=nm:=⟨_,rfl⟩
      rw[hnm]at c0;have HNM:=Ab hnm;generalize bys.length=bl at c1;clear hx hxm htk hln hnm hS hbl;go_wp2_with (at_builtin;refine wpList_append_own_at _ rfl _ _ 43 rfl w1.heap.size 9 i0 (.string ByteArray.empty) 1 16 Tryz.underlying43 hi hz0 hz1 hz2 rfl (by decide) _ j (So NS) rfl (Aa HO _ _) ⟨wr.heap.size+1,0,none⟩ 1 1 [.string nm] rfl rfl (fun i u hi=>Pa (Mk (by simp)) hi) (Fd rfl) (by unfold maxLen;omega) (by omega) (by simp;omega) ?_)
      intro v' w3 hO3 hg3 _ _
      have HS3:Hid (SRow w3 w1.heap.size v' ((fs.take (j+1)).map Fl.name)):=Ab (by
       rw[Aa HTK];unfold SRow;rw[VB,Aa HLN,So,WS];rw[<-Aa HNM]at hO3;exact hO3)
      have HB3:Hid (Below w1.heap.size w1 w3):=Ab ((Aa HB2 _ _).grown hg3 (by simp;omega) (Aa HBL));clear hO3 hg3 c0 c1 c2 c3 c4;go_wp2;go_roundw
      case rel=>exact⟨j+1,by omega,by go_num,HS3,HB3⟩
      case measure=>simp[intOf];omega
    . obtain rfl:k=j:=by omega
      have hta:fs.take k=fs:=VP (by rw[Aa HK];exact VC _);have HTA:=Ab hta;clear hta;go_wp2;go_ret2;exact⟨_,rfl,by have:=Aa HS;rw[Aa HTA]at this;exact this.mono (Aa HB1).size,(Aa HB1).trans ((Aa HB).mono (Aa HB1).size)⟩
 . have hf0:=Aa HBAD hE0;subst hf0;have HB1:=Ab hB1;have hEb:((E:Int)==0)=false:=by rw[beq_eq_false_iff_ne];omega
   have hEc:((E:Int)!=0)=true:=by rw[bne,hEb];rfl
   clear hx hxl hxn hk hB1 HC hE0;go_wp2;go_ret2;exact⟨_,rfl,SRow.nil _ _,Aa HB1⟩
theorem Z35 {k:Nat}{out:List Nat}(h:IsOne [120,121] k out):2<=out.length:=by
 have h1:=congrArg List.length h.row;rw[Ai]at h1;unfold oneB at h1;rw[Cj]at h1
 have h2:10<=(Ka [] [120,121] k true).length:=by
  unfold Ka
  split
  . unfold Hh;simp only[VB,Ae];omega
  . split
    . have h3:(Ez (Dc [120,121])).length=23:=by decide+kernel
      simp only[VB,h3];omega
    . have h3:14<=(I9 [120,121]).length:=by
       have hp:∀a b ts,14<=(Ex a b ts).length:=fun a b ts=>by
        unfold Ex Ix;simp only[VB,Ae];omega
       unfold I9
       split
       . exact hp _ _ _
       . exact hp _ _ _
      simp only[VB];omega
 omega
theorem JG {α β:Type}{f:α->β}{l:List α}{b:β}(h:l.map f= [b]):∃x,l= [x]/\f x=b:=by
 cases l with
 |nil=>cases h
 |cons x r=>
  cases r with
  |nil=>exact⟨x,rfl,by simpa using h⟩
  |cons y r=>simp at h
def arF:Fl:=⟨[97],[120,121],3,0,false⟩
theorem Z01:Nh [arF]=0:=by decide
theorem Z2u {x:En}(h:EOf x)(hf:x.f=arF):(Ba [x]).length=124:=by
 obtain⟨out,ho,hq⟩:=h.pk;rw[hf]at ho hq;have h2:=Z35 ho;rw[SM]
 rcases hq with ⟨q1,q2,q3⟩|⟨q1,q2,q3⟩
 . have:out.length<2:=q1
   omega
 . have hl:x.pk.length=2:=by rw[q3];rfl
   simp only[Ar,Am,VB,Gc,Jk,WO,hl,hf];rfl
theorem Gg (w:World):Calls Tryz.prog 9 #[] w fun e w'=>e=.returned (.bool true)/\Below w.heap.size w w':=by
 have hcc:=Lib.run_convert_bytes_const (P:=Tryz.prog) w 23 5 #[.int .u8 120,.int .u8 121] 2 2 Tryz.underlying23 Tryz.underlying5
 have hbs:BsIn (w.alloc (.cells #[.int .u8 120,.int .u8 121] 5 (2,3))) (some ⟨w.heap.size,0,none⟩) 2 [120,121]:=by
  refine .inr (.inr ⟨w.heap.size,0,rfl,by simp,by decide,fun j hj=> ?_⟩);rw[WI,cell_of_row _ _ _ _ _ _ (heap_alloc_new w _)]
  match j,hj with
  |0,_=>rfl
  |1,_=>rfl
 have hx:∀x∈ [(⟨arF,some ⟨w.heap.size,0,none⟩,2⟩:Fv)],FvIn (w.alloc (.cells #[.int .u8 120,.int .u8 121] 5 (2,3))) x:=by
  intro x hx;rw[WQ.1 hx];exact⟨hbs,by show 2<=_;decide,by show 1<=_;decide⟩
 have hfs:=FsIn.new (w.alloc (.cells #[.int .u8 120,.int .u8 121] 5 (2,3))) [⟨arF,some ⟨w.heap.size,0,none⟩,2⟩] 30 #[.string ⟨#[97]⟩,.slice (some ⟨w.heap.size,0,none⟩) 2 2,.int .i64 3,.int .i64 0,.bool false] 1 rfl rfl hx (by show 1<=_;decide);have HW:=Ab (Th _ 1 1 _ _ hfs rfl);have HBA:=Ab (((Below.refl w.heap.size w).alloc (VC _) (.cells #[.int .u8 120,.int .u8 121] 5 (2,3))).alloc (by simp) (.cells #[.string ⟨#[97]⟩,.slice (some ⟨w.heap.size,0,none⟩) 2 2,.int .i64 3,.int .i64 0,.bool false] 30));have hfl:fls [(⟨arF,some ⟨w.heap.size,0,none⟩,2⟩:Fv)]= [arF]:=rfl;rw[hfl]at HW;simp only[World.size_alloc]at HW;clear hbs hx hfs hfl;go_enter Tryz.func9,Tryz.ntmps9
 go_wp2_with fail
 refine(Aa HW).mono ?_;rintro e w1 ⟨hB1,(⟨h1,_⟩|⟨_,l,hlf,hlo,hq⟩)⟩
 . exact absurd Z01 h1
 . obtain⟨x,rfl,hxf⟩:=JG hlf;have hlen:=Z2u (hlo x (by simp)) hxf;have hE:Nh ([x].map En.f)=0:=by rw[hlf];exact Z01
   have hwr:=Ti [x] hE hlo (by rw[hlen];decide);have hav:=Pp [x] (fun y hy=>(((hlo y hy).num (by rw[WQ.1 hy,hxf];decide)).2))
   rcases hq with ⟨h1,_⟩|⟨_,a,c,rfl,hac,hP⟩
   . rw[hlen]at h1;exact absurd h1 (by decide)
   . have hrl:Hk (Ba [x])= [arF]:=by rw[hwr.2.2,hlf]
     have hre:=hwr.2.1;have hB2:=(Aa HBA).trans (hB1.mono (by simp;omega))
     have hm0:x.meth≠8:=by
      obtain⟨out,ho,(⟨q1,q2,q3⟩|⟨q1,q2,q3⟩)⟩:=(hlo x (by simp)).pk
      . exfalso
        have h5:=hlen;unfold Ba at h5;simp only[Ar,Am,WZ,VB,Gc,Jk,Mg,q3]at h5;rw[hxf]at h5 q1;have h6:arF.name.length=1:=rfl;have h7:arF.bytes.length=2:=rfl;omega
      . rw[q2];decide
     have hS:Z2y (Ba [x]):=by
      have h5:=D7 [x] hwr.1 [] (F:=(Ba [x]).length+1) (BH [x]);rw[WZ]at h5;exact .inr ⟨[x],h5,fun y hy=>by rw[WQ.1 hy];exact hm0⟩
     obtain⟨AR,hAR⟩:∃AR,Ba [x]=AR:=⟨_,rfl⟩
     rw[hAR]at hlen hav hP hrl hre hac hS;have HRD:=Ab (fun(W:World) (hW:Below w1.heap.size w1 W)=>Xj AR.length c a AR W rfl hac (hP.below hW) hav (by rw[hlen];decide) hS);have HNM:=Ab (fun(W:World) (hW:Below w1.heap.size w1 W)=>BJ AR.length c a AR W rfl hac (hP.below hW) hav (by rw[hlen];decide) hS);unfold RdA at HRD;rw[hre,hrl]at HRD HNM;rw[hAR,hlen];rw[hlen]at HRD HNM;have HB2:=Ab hB2;clear hB1 hB2 hP hav hlen hwr hlo hlf hE hrl hre hAR hac hxf hS hm0;go_wp2_with fail
     refine(Aa HRD w1 (Below.refl _ _)).mono ?_;rintro e w2 ⟨v2,rfl,⟨ad,c2,out,rfl,hfs2,hout⟩,hB3⟩;obtain⟨z,rfl,hzf⟩:=JG (f:=Fv.f) hout;have HB3:=Ab hB3;have HFS:=Ab hfs2;clear hB3 hfs2 hout;go_wp2_with fail
     refine(Aa HNM w2 (Aa HB3)).mono ?_;rintro e w3 ⟨v3,rfl,hS3,hB4⟩;obtain⟨b,o,hpq,hblt,d0,d1,d2,_⟩:=(Aa HFS).get (k:=0) (x:=z) (w':=w3) hB4 rfl;have hzb:=((Aa HFS).all z (by simp)).bs.below hB4 (VC _)
     cases hpq
     simp only[YI,XL]at d0 d1 d2;unfold Fv.sl at d1;have hconv:=Pn hzb;rw[hzf]at d1 d2 hconv;have hB5:=((Aa HB2).trans ((Aa HB3).mono (Aa HB2).size)).trans (hB4.mono (by have:=(Aa HB2).size;have:=(Aa HB3).size;omega));replace d1:w3.cell? ⟨b,o+1,none⟩=some (.slice z.a 2 z.c):=d1;replace d2:w3.cell? ⟨b,o+2,none⟩=some (.int .i64 3):=d2;replace hconv:(convert 23 9 (.slice z.a 2 z.c)).run Tryz.prog w3=.ok (.string (B [120,121])) w3:=hconv;have hTl:((B [120,121]).toList== [120,121])=true:=by rw[Fc];rfl
     obtain⟨T,hT⟩:∃T,B [120,121]=T:=⟨_,rfl⟩
     rw[hT]at hconv hTl;have HEQ:=Ab (Z42 (hS3.below ((Below.refl w3.heap.size w3).alloc (VC _) (.cells (So [[97]]).toArray 9))) (SRow.new w3 [[97]] (by show 1<=maxLen;decide)));obtain⟨va,vc,rfl⟩:=As hS3;have HB5:=Ab (hB5.alloc hB5.size (.cells (So [[97]]).toArray 9));clear hB4 hB5 hS3 hzb hT HFS d0 hblt hzf;go_wp2_with fail
     refine(Aa HEQ).mono ?_;rintro e w4 ⟨rfl,q,rfl⟩;have hdec:decide ([arF].map Fl.name= [[97]])=true:=by decide
     rw[hdec];go_wp2;go_ret;exact⟨rfl,Af (Aa HB5) _⟩
theorem Z56 (a b:Fl):(a=b)↔(a.name=b.name/\a.bytes=b.bytes/\a.stamp=b.stamp/\a.node=b.node/\a.gone=b.gone):=by
 cases a;cases b;simp
theorem PN (x y:Fv)(w:World)(hx:FvIn w x)(hy:FvIn w y):
 Calls Tryz.prog 11 #[x.val,y.val] w fun e w'=>e=.returned (.bool (decide (x.f=y.f)))/\Below w.heap.size w w':=by
 have HE:=Ab (fun W (hW:Below w.heap.size w W)=>RQ (hx.bs.below hW (VC _)) (hy.bs.below hW (VC _)));have hq:=Z56 x.f y.f
 have hn:((B x.f.name).toList==(B y.f.name).toList)=decide (x.f.name=y.f.name):=by
  rw[Fc,Fc,YR,beq_iff_eq,decide_eq_true_iff]
 rw[Tj,Tj];obtain⟨r,hr⟩:∃r,decide (x.f=y.f)=r:=⟨_,rfl⟩
 have hr2:r=decide (x.f.name=y.f.name/\x.f.bytes=y.f.bytes/\x.f.stamp=y.f.stamp/\x.f.node=y.f.node/\x.f.gone=y.f.gone):=by rw[<-hr];exact decide_eq_decide.2 hq
 rw[hr];clear hq hr hx hy;have HR:=Ab hr2;clear hr2
 by_cases h1:x.f.name=y.f.name
 . rw[decide_eq_true h1]at hn
   by_cases h2:x.f.bytes=y.f.bytes
   . by_cases h3:x.f.stamp=y.f.stamp
     . by_cases h4:x.f.node=y.f.node
       . have h5:r=decide (x.f.gone=y.f.gone):=by rw[Aa HR];exact decide_eq_decide.2 ⟨fun k=>k.2.2.2.2,fun k=>⟨h1,h2,h3,h4,k⟩⟩
         rw[h5];rw[decide_eq_true h2]at HE;clear h1 h2 h5 HR;generalize B x.f.name=t at*;generalize B y.f.name=t2 at*;generalize x.f.bytes.length=n at*;generalize y.f.bytes.length=n2 at*;generalize x.f.stamp=s1 at*;generalize y.f.stamp=s2 at*;generalize x.f.node=d1 at*;generalize y.f.node=d2 at*;generalize x.f.gone=g1 at*;generalize y.f.gone=g2 at*;subst h3;subst h4;go_enter Tryz.func11,Tryz.ntmps11
         go_wp2_with (go_at_call 13;refine(Aa HE _ (Ch (Ch (Below.refl _ _) _) _)).mono ?_;rintro e w' ⟨rfl,rfl⟩)
         go_ret;exact⟨De (by cases g1<;>cases g2<;>rfl),Ch (Ch (Below.refl _ _) _) _⟩
       . have h5:r=false:=by rw[Aa HR];exact decide_eq_false (fun k=>h4 k.2.2.2.1)
         have hb:(x.f.node==y.f.node)=false:=by simpa using h4
         rw[h5];rw[decide_eq_true h2]at HE;clear h1 h2 h5 HR h4;generalize B x.f.name=t at*;generalize B y.f.name=t2 at*;generalize x.f.bytes.length=n at*;generalize y.f.bytes.length=n2 at*;generalize x.f.stamp=s1 at*;generalize y.f.stamp=s2 at*;subst h3;go_enter Tryz.func11,Tryz.ntmps11
         go_wp2_with (go_at_call 13;refine(Aa HE _ (Ch (Ch (Below.refl _ _) _) _)).mono ?_;rintro e w' ⟨rfl,rfl⟩)
         go_ret;exact⟨rfl,Ch (Ch (Below.refl _ _) _) _⟩
     . have h5:r=false:=by rw[Aa HR];exact decide_eq_false (fun k=>h3 k.2.2.1)
       have hb:(x.f.stamp==y.f.stamp)=false:=by simpa using h3
       rw[h5];rw[decide_eq_true h2]at HE;clear h1 h2 h5 HR h3;generalize B x.f.name=t at*;generalize B y.f.name=t2 at*;generalize x.f.bytes.length=n at*;generalize y.f.bytes.length=n2 at*;go_enter Tryz.func11,Tryz.ntmps11
       go_wp2_with (go_at_call 13;refine(Aa HE _ (Ch (Ch (Below.refl _ _) _) _)).mono ?_;rintro e w' ⟨rfl,rfl⟩)
       go_ret;exact⟨rfl,Ch (Ch (Below.refl _ _) _) _⟩
   . have h5:r=false:=by rw[Aa HR];exact decide_eq_false (fun k=>h2 k.2.1)
     rw[h5];rw[decide_eq_false h2]at HE;clear h1 h2 h5 HR;generalize B x.f.name=t at*;generalize B y.f.name=t2 at*;generalize x.f.bytes.length=n at*;generalize y.f.bytes.length=n2 at*;go_enter Tryz.func11,Tryz.ntmps11
     go_wp2_with (go_at_call 13;refine(Aa HE _ (Ch (Ch (Below.refl _ _) _) _)).mono ?_;rintro e w' ⟨rfl,rfl⟩)
     go_ret;exact⟨rfl,Ch (Ch (Below.refl _ _) _) _⟩
 . have h5:r=false:=by rw[Aa HR];exact decide_eq_false (fun k=>h1 k.1)
   rw[h5];rw[decide_eq_false h1]at hn;clear h1 h5 HR HE;generalize B x.f.name=t at*;generalize B y.f.name=t2 at*;generalize x.f.bytes.length=n at*;generalize y.f.bytes.length=n2 at*;go_enter Tryz.func11,Tryz.ntmps11
   go_wp2;go_ret;exact⟨rfl,Ch (Ch (Below.refl _ _) _) _⟩
end Go.Proofs.YtleocpdblhbimaaGreatDoor
