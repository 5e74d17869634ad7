import Derived.Test.YtieianhejdcgdaaGreatDoorQ42
import Derived.Deep.Slices
import Derived.SizedLaws
import Derived.Deep.Strs
set_option linter.unusedSimpArgs false
set_option maxHeartbeats 4000000
namespace Go.Proofs.YtieianhejdcgdaaGreatDoor
open Go.RowKit
set_option linter.unusedVariables false
set_option maxRecDepth 100000
def WrA (w:World)(fs:List Fl)(e:Ending)(w':World):Prop:=
 Below w.heap.size w w'/\((Eh fs≠0/\e=.returned (.tuple #[.slice none 0 0,.int .i64 (Eh fs:Nat)]))\/ (Eh fs=0/\∃l:List En,l.map En.f=fs/\(∀x∈l,EOf x)/\((12000<(Cb l).length/\e=.returned (.tuple #[.slice none 0 0,.int .i64 11]))\/ ((Cb l).length<=12000/\∃a c,e=.returned (.tuple #[.slice a (Cb l).length c,.int .i64 0])/\(Cb l).length<=c/\PkIn w' a c (Cb l)))))
theorem DO {w:World}{Bs:Nat}{v:Value}{xs:List Ev}{g:Nat}(h:ERow w Bs v xs)(hg:v.ownBlock=some g)(hne:xs≠ []):∃s,w.cell? ⟨g,0,none⟩=some (.string s):=by
 obtain⟨ad,c,rfl,hes⟩:=h.entries
 cases xs with
 |nil=>exact absurd rfl hne
 |cons x r=>
  rcases hes.at_ with h1|⟨b,o,rfl,hb,hE⟩
  . cases h1
  . have h0:=hE 0 x rfl 0 (by decide);have hsh:=Bt h.own (by simp);obtain⟨g',cap,hv,_⟩:=hsh
    cases hv
    cases hg
    have h1:w.cell? ⟨b,0+0*8+0,none⟩=some (.string (B x.e.f.name)):=h0;exact⟨_,h1⟩
theorem EOf.num {x:En}(h:EOf x)(hv:Jx x.f=0):ENum x/\∀y∈x.pk,y<256:=by
 obtain⟨h1,h2,h3,h4,h5,h6⟩:=Mc hv;have hcr:x.crc<4294967296:=by rw[h.cr];exact V6 (Ns _) (by decide)
 obtain⟨out,ho,(⟨q1,q2,q3⟩|⟨q1,q2,q3⟩)⟩:=h.pk
 . exact⟨⟨⟨h3,h4⟩,⟨h5,h6⟩,h1,h2,by rw[q3];omega,hcr,by rw[q2];decide⟩,by rw[q3];exact BR ho.val⟩
 . exact⟨⟨⟨h3,h4⟩,⟨h5,h6⟩,h1,h2,by rw[q3,Gn];omega,hcr,by rw[q2];decide⟩,by rw[q3];exact Ns _⟩
theorem CQ (ad:Option Addr)(c n:Nat)(xs:List Fv)(w:World)(h:FsIn w ad c xs)(hn:xs.length=n):
 Calls Tryz.prog 9 #[.slice ad n c] w fun e w'=>WrA w (fls xs) e w':=by
 have HCC:=Ab (Hv ad c xs w h n hn);obtain⟨E,hE⟩:∃E,Eh (fls xs)=E:=⟨_,rfl⟩
 rw[hE]at HCC;have HI:=Ab h;have HN:=Ab hn;have HE:=Ab hE;clear h hn hE;go_enter Tryz.func9,Tryz.ntmps9
 go_wp2_with fail
 refine(Aa HCC).mono ?_;rintro e w1 ⟨rfl,hB1⟩
 by_cases hE0:E=0
 . subst hE0;have hok:=Hu (Aa HE)
   have hn12:n<=12:=by
    have h1:=hok.1;have h2:=Aa HN;simp[fls]at h1
    omega
   have hvx:∀x∈xs,Jx x.f=0:=fun x hx=>hok.2 x.f (WX hx)
   have HVX:=Ab hvx;have HB1:=Ab hB1;clear hB1 hok hvx HCC;go_wp2;go_loopw [5,7,16] (fun v5 _ i wr=>∃(k:Nat) (es:List Ev),k<=n/\i=.int .i64 (k:Int)/\Hid (ERow wr w.heap.size v5 es/\es.map (fun y=>y.e.f)=(fls xs).take k/\(∀y∈es,EOf y.e)/\(es= []->v5=.slice none 0 0))/\Hid (Below w.heap.size w wr)) (fun _ _ i _=>n-(intOf i).toNat)
   case atStart=>exact⟨0,[],VM _,rfl,Ab ⟨ERow.nil _ _,by simp,(fun y hy=>absurd hy WV),fun _=>rfl⟩,HB1⟩
   case round=>
    obtain⟨k,es,hk,rfl,HR,HB⟩:=hrel
    have hel:es.length=k:=by
     have:=congrArg List.length (Aa HR).2.1
     have h2:=Aa HN;simp[fls]at this
     omega
    by_cases hlt:k<n
    . obtain⟨x,hx,hxm⟩:=Rj (xs:=xs) (k:=k) (by rw[Aa HN];exact hlt);obtain⟨b,o,rfl,hb,c0,c1,c2,c3,c4⟩:=(Aa HI).get (Aa HB) hx;have hz:=(Aa HB).size;have hxin:=(Aa HI).all x hxm;have HEO:=Ab (fun(W:World) (hW:Below w.heap.size w W)=>V0 x W (hxin.below hW (VC _)) (by have:=Mc (Aa HVX x hxm);omega));have hfl:(fls xs).take (k+1)=(fls xs).take k++ [x.f]:=Kv (by simp[fls,hx])
      have hxlt:∀g o,x.a=some ⟨g,o,none⟩->x.f.bytes≠ []->g<w.heap.size:=fun g o e1 e2=>by
       have:=Wk (Z5z hxin.bs) g o e1 (fun e=>e2 (by rw[<-SH x.f.bytes,e];rfl))
       exact this
      have HXLT:=Ab hxlt;have HFL:=Ab hfl;rw[Dz]at HEO;unfold Fv.sl at c1;clear hx hxm hxin hfl hxlt;have HEL:=Ab hel;have hB2:∀o1:Obj,Below w.heap.size w (wr.alloc o1):=fun o1=>(Aa HB).alloc hz o1
      have HB2:=Ab hB2;have HR2:=Ab (fun o1:Obj=>(Aa HR).1.below ((Below.refl wr.heap.size wr).alloc (VC _) o1));obtain⟨xf,xa,xc⟩:=x;dsimp only at c0 c1 c2 c3 c4;have HEO':=HEO;clear hB2 hel;generalize hnm:B xf.name=nm at c0 HEO;generalize hbl:xf.bytes.length=bl at c1 HEO;generalize hst:xf.stamp=st at c2 HEO;generalize hnd:xf.node=nd at c3 HEO;generalize hgn:xf.gone=gn at c4 HEO;clear hnm hbl hst hnd hgn HEO';go_wp2_with fail
      refine(Aa HEO _ (Aa HB2 _)).mono ?_;rintro e w2 ⟨y,rfl,hyf,hyo,hyi,hB3,hya,hyp⟩;replace hyf:y.e.f=xf:=hyf;replace hya:y.fa=xa:=hya;have hB4:=(Aa HB2 _).trans (hB3.mono (by simp;omega));have hrow:=(Aa HR2 _).below hB3
      have hlies:y.lies (fun g=>some g≠u5.ownBlock):=by
       have hold:∀g o,xa=some ⟨g,o,none⟩->xf.bytes≠ []->some g≠u5.ownBlock:=fun g o e1 e2 e3=>by
        have h1:=Aa HXLT g o e1 e2;have h2:=(hrow.own.lt g e3.symm).1;omega
       constructor
       . intro g o e1 e2;exact hold g o (hya.symm.trans e1) (by rw[<-hyf];exact e2)
       . intro g o e1 e2
         rcases hyp g o e1 e2 with ⟨q1,q2⟩|rfl
         . exact hold g o q1 (by rw[<-hyf];exact q2)
         . intro e3
           have hne:es≠ []:=by
            intro e4;rw[(Aa HR).2.2.2 e4]at e3
            cases e3
           obtain⟨s,hs⟩:=DO hrow e3.symm hne
           rcases hyi.pk.1 with h5|⟨b',o',e5,hb5,hc5⟩
           . exact e2 h5
           . rw[e1]at e5
             cases e5
             have:=hc5 0 (YJ.2 e2)
             rw[WI,hs]at this
             cases this
      have HR3:=Ab (fun o1:Obj=>hrow.below ((Below.refl w2.heap.size w2).alloc (VC _) o1));have HYI:=Ab (fun o1:Obj=>hyi.below ((Below.refl w2.heap.size w2).alloc (VC _) o1));have HYL:=Ab hlies;have HYO:=Ab hyo;have HYF:=Ab hyf;have hz2:=hB4.size;have HB5:=Ab (fun o1:Obj=>hB4.alloc hz2 o1);have hel2:es.length+1<=100000:=by rw[Aa HEL];omega
      have HCE:Hid (∀o1,o1=Obj.cells y.cells.toArray 76->∀j u,y.cells[j]? =some u->(w2.alloc o1).cell? ⟨w2.heap.size,j,none⟩=some u):=Ab (fun o1 e j u hj=>by
       subst e;rw[Ac (heap_alloc_new w2 _)];simpa using hj)
      clear hB3 hB4 hrow hlies hyi hyo hyf hya hyp HEO c0 c1 c2 c3 c4;unfold Ev.val;go_wp2_with (at_builtin;refine Fq _ rfl _ _ rfl w.heap.size _ es rfl (Aa HR3 _) w2.heap.size y rfl (Aa HCE _ rfl) (Aa HYI _) (Aa HYL) hel2 (by simp;omega) ?_)
      intro v' w3 hrow3 hg3
      have HR4:Hid (ERow w3 w.heap.size v' (es++ [y])/\(es++ [y]).map (fun y=>y.e.f)=(fls xs).take (k+1)/\(∀z∈es++ [y],EOf z.e)/\(es++ [y]= []->v'=.slice none 0 0)):=Ab (by
       refine⟨Aa hrow3, ?_,fun z hz=> ?_,fun e=>by simp at e⟩
       . rw[XO,(Aa HR).2.1,Aa HFL];simp[Aa HYF]
       . rcases VZ.1 hz with hz|hz
         . exact(Aa HR).2.2.1 z hz
         . rw[WK.1 hz];exact Aa HYO)
      have HB6:Hid (Below w.heap.size w w3):=Ab ((Aa HB5 _).grown (Aa hg3) (by simp;omega) (fun g e=>((Aa HR3 (.cells y.cells.toArray 76)).own.lt g e).1));clear hrow3 hg3;go_wp2;go_roundw
      case rel=>exact⟨k+1,es++ [y],by omega,by go_num,HR4,HB6⟩
      case measure=>simp[intOf];omega
    . obtain rfl:n=k:=by omega
      obtain⟨hrow,hfs,heo,_⟩:=Aa HR;have hta:(fls xs).take n=fls xs:=VP (by simp[fls,Aa HN]);rw[hta]at hfs;obtain⟨ad2,c2,hv,hes⟩:=hrow.entries;rw[hel]at hv;subst hv;obtain⟨l,hll⟩:∃l,es.map Ev.e=l:=⟨_,rfl⟩
      have hlf:l.map En.f=fls xs:=by rw[<-hll,List.map_map];exact hfs
      have hlo:∀x∈l,EOf x:=by
       rw[<-hll];intro x hx;obtain⟨y,hy,rfl⟩:=WY.1 hx;exact heo y hy
      have hev:∀x∈l,Jx x.f=0:=fun x hx=>by
       have:x.f∈fls xs:=by rw[<-hlf];exact WX hx
       obtain⟨z,hz,hze⟩:=WY.1 this;rw[<-hze];exact Aa HVX z hz
      have hnum:∀x∈es,ENum x.e:=fun x hx=>((hlo x.e (by rw[<-hll];exact WX hx)).num (hev x.e (by rw[<-hll];exact WX hx))).1
      have HCA:=Ab (Si ad2 c2 n es wr hes hel hn12 hnum);rw[hll]at HCA;have HLF:=Ab hlf;have HLO:=Ab hlo;clear hrow hfs heo hta hes hll hlf hlo hev hnum hel;go_wp2_with fail
      refine(Aa HCA).mono ?_;rintro e w4 ⟨v4,rfl,ho,hB4⟩;obtain⟨a4,c4,rfl,q1,q2,q3,q4⟩:=B3 ho;have hB5:=(Aa HB).trans (hB4.mono (Aa HB).size);obtain⟨AL,hAL⟩:∃AL,(Cb l).length=AL:=⟨_,rfl⟩
      rw[hAL]at q2;rw[hAL]
      by_cases hbig:12000<AL
      . have HF:Hid (WrA w (fls xs) (.returned (.tuple #[.slice none 0 0,.int .i64 11])) w4):=Ab ⟨hB5,.inr ⟨Aa HE,l,Aa HLF,Aa HLO,.inl ⟨by rw[hAL];exact hbig,rfl⟩⟩⟩;have hbI:(12000:Int)<(AL:Int):=by omega
        clear hB4 hB5 ho q1 q2 q3 q4 hAL hbig HCA;go_wp2;go_ret2;exact Aa HF
      . have HF:Hid (WrA w (fls xs) (.returned (.tuple #[.slice a4 AL c4,.int .i64 0])) w4):=Ab ⟨hB5,.inr ⟨Aa HE,l,Aa HLF,Aa HLO,.inr ⟨by rw[hAL];omega,a4,c4,by rw[hAL],by rw[hAL];exact q2,q1⟩⟩⟩;have hbI:¬(12000:Int)<(AL:Int):=by omega
        clear hB4 hB5 ho q1 q2 q3 q4 hAL hbig HCA;go_wp2;go_ret2;exact Aa HF
 . have HF:Hid (WrA w (fls xs) (.returned (.tuple #[.slice none 0 0,.int .i64 (E:Int)])) w1):=Ab ⟨hB1,.inl ⟨by rw[Aa HE];exact hE0,by rw[Aa HE]⟩⟩;have hEb:((E:Int)==0)=false:=by rw[beq_eq_false_iff_ne];omega
   have hEc:((E:Int)!=0)=true:=by rw[bne,hEb];rfl
   clear hB1 hE0;go_wp2;go_ret2;exact Aa HF
theorem Z6y (a b:Fl):(a=b)↔(a.name=b.name/\a.bytes=b.bytes/\a.stamp=b.stamp/\a.node=b.node/\a.gone=b.gone):=by
 cases a;cases b;simp
theorem RL (x y:Fv)(w:World)(hx:FvIn w x)(hy:FvIn w y):
 Calls Tryz.prog 13 #[x.val,y.val] w fun e w'=>e=.returned (.bool (decide (x.f=y.f)))/\Below w.heap.size w w':=by
 have HE:=Ab (fun W (hW:Below w.heap.size w W)=>Z02 (hx.bs.below hW (VC _)) (hy.bs.below hW (VC _)));have hq:=Z6y x.f y.f
 have hn:((B x.f.name).toList==(B y.f.name).toList)=decide (x.f.name=y.f.name):=by
  rw[Dk,Dk,YK,beq_iff_eq,decide_eq_true_iff]
 rw[Dz,Dz];obtain⟨r,hr⟩:∃r,decide (x.f=y.f)=r:=⟨_,rfl⟩
 have hr2:r=decide (x.f.name=y.f.name/\x.f.bytes=y.f.bytes/\x.f.stamp=y.f.stamp/\x.f.node=y.f.node/\x.f.gone=y.f.gone):=by rw[<-hr];exact decide_eq_decide.2 hq
 rw[hr];clear hq hr hx hy;have HR:=Ab hr2;clear hr2
 by_cases h1:x.f.name=y.f.name
 . rw[decide_eq_true h1]at hn
   by_cases h2:x.f.bytes=y.f.bytes
   . by_cases h3:x.f.stamp=y.f.stamp
     . by_cases h4:x.f.node=y.f.node
       . have h5:r=decide (x.f.gone=y.f.gone):=by rw[Aa HR];exact decide_eq_decide.2 ⟨fun k=>k.2.2.2.2,fun k=>⟨h1,h2,h3,h4,k⟩⟩
         rw[h5];rw[decide_eq_true h2]at HE;clear h1 h2 h5 HR;generalize B x.f.name=t at*;generalize B y.f.name=t2 at*;generalize x.f.bytes.length=n at*;generalize y.f.bytes.length=n2 at*;generalize x.f.stamp=s1 at*;generalize y.f.stamp=s2 at*;generalize x.f.node=d1 at*;generalize y.f.node=d2 at*;generalize x.f.gone=g1 at*;generalize y.f.gone=g2 at*;subst h3;subst h4;go_enter Tryz.func13,Tryz.ntmps13
         go_wp2_with (go_at_call 15;refine(Aa HE _ (Aw (Aw (Below.refl _ _) _) _)).mono ?_;rintro e w' ⟨rfl,rfl⟩)
         go_ret;exact⟨Hk (by cases g1<;>cases g2<;>rfl),Aw (Aw (Below.refl _ _) _) _⟩
       . have h5:r=false:=by rw[Aa HR];exact decide_eq_false (fun k=>h4 k.2.2.2.1)
         have hb:(x.f.node==y.f.node)=false:=by simpa using h4
         rw[h5];rw[decide_eq_true h2]at HE;clear h1 h2 h5 HR h4;generalize B x.f.name=t at*;generalize B y.f.name=t2 at*;generalize x.f.bytes.length=n at*;generalize y.f.bytes.length=n2 at*;generalize x.f.stamp=s1 at*;generalize y.f.stamp=s2 at*;subst h3;go_enter Tryz.func13,Tryz.ntmps13
         go_wp2_with (go_at_call 15;refine(Aa HE _ (Aw (Aw (Below.refl _ _) _) _)).mono ?_;rintro e w' ⟨rfl,rfl⟩)
         go_ret;exact⟨rfl,Aw (Aw (Below.refl _ _) _) _⟩
     . have h5:r=false:=by rw[Aa HR];exact decide_eq_false (fun k=>h3 k.2.2.1)
       have hb:(x.f.stamp==y.f.stamp)=false:=by simpa using h3
       rw[h5];rw[decide_eq_true h2]at HE;clear h1 h2 h5 HR h3;generalize B x.f.name=t at*;generalize B y.f.name=t2 at*;generalize x.f.bytes.length=n at*;generalize y.f.bytes.length=n2 at*;go_enter Tryz.func13,Tryz.ntmps13
       go_wp2_with (go_at_call 15;refine(Aa HE _ (Aw (Aw (Below.refl _ _) _) _)).mono ?_;rintro e w' ⟨rfl,rfl⟩)
       go_ret;exact⟨rfl,Aw (Aw (Below.refl _ _) _) _⟩
   . have h5:r=false:=by rw[Aa HR];exact decide_eq_false (fun k=>h2 k.2.1)
     rw[h5];rw[decide_eq_false h2]at HE;clear h1 h2 h5 HR;generalize B x.f.name=t at*;generalize B y.f.name=t2 at*;generalize x.f.bytes.length=n at*;generalize y.f.bytes.length=n2 at*;go_enter Tryz.func13,Tryz.ntmps13
     go_wp2_with (go_at_call 15;refine(Aa HE _ (Aw (Aw (Below.refl _ _) _) _)).mono ?_;rintro e w' ⟨rfl,rfl⟩)
     go_ret;exact⟨rfl,Aw (Aw (Below.refl _ _) _) _⟩
 . have h5:r=false:=by rw[Aa HR];exact decide_eq_false (fun k=>h1 k.1)
   rw[h5];rw[decide_eq_false h1]at hn;clear h1 h5 HR HE;generalize B x.f.name=t at*;generalize B y.f.name=t2 at*;generalize x.f.bytes.length=n at*;generalize y.f.bytes.length=n2 at*;go_enter Tryz.func13,Tryz.ntmps13
   go_wp2;go_ret;exact⟨rfl,Aw (Aw (Below.refl _ _) _) _⟩
theorem Z1x {α:Type}{a b:List α}{k:Nat}{x y:α}(hx:a[k]? =some x)(hy:b[k]? =some y)(h:x≠y):a≠b:=by
 rintro rfl;rw[hx]at hy;exact h (VN hy)
theorem Z1y {α:Type}{a b:List α}{k:Nat}{x:α}(h:a.take k=b.take k)(hx:a[k]? =some x)(hy:b[k]? =some x):a.take (k+1)=b.take (k+1):=by
 rw[XH,XH,h,hx,hy]
theorem Xm (ad bd:Option Addr)(c d:Nat)(xs ys:List Fv)(w:World)(h:FsIn w ad c xs)(k:FsIn w bd d ys)(n m:Nat)(hn:xs.length=n)(hm:ys.length=m):
 Calls Tryz.prog 51 #[.slice ad n c,.slice bd m d,.func (.func 13) #[] #[]] w fun e w'=>e=.returned (.bool (decide (fls xs=fls ys)))/\Below w.heap.size w w':=by
 have hl1:(fls xs).length=n:=by simp[fls,hn]
 have hl2:(fls ys).length=m:=by simp[fls,hm]
 have hlim:=h.lim;rw[hn]at hlim
 by_cases hnm:n=m
 . subst hnm;obtain⟨r,hr⟩:∃r,decide (fls xs=fls ys)=r:=⟨_,rfl⟩
   rw[hr];have HI:=Ab h;have HK:=Ab k;have HN:=Ab hn;have HM:=Ab hm;have HR:=Ab hr;have HL1:=Ab hl1;have HL2:=Ab hl2;have hnn:((n:Int)!=(n:Int))=false:=by simp
   clear h k hn hm hr hl1 hl2;go_enter Tryz.func51,Tryz.ntmps51
   go_wp2;go_loopw [7,8,9,17] (fun _ _ _ i wr=>∃k:Nat,k<=n/\i=.int .i64 (k:Int)/\Hid ((fls xs).take k=(fls ys).take k)/\Hid (Below w.heap.size w wr)) (fun _ _ _ i _=>n-(intOf i).toNat)
   case atStart=>exact⟨0,VM _,rfl,by simp;exact trivial,Below.refl _ _⟩
   case round=>
    obtain⟨k,hk,rfl,HT,HB⟩:=hrel
    by_cases hlt:k<n
    . obtain⟨x,hx,hxm⟩:=Rj (xs:=xs) (k:=k) (by rw[Aa HN];exact hlt);obtain⟨y,hy,hym⟩:=Rj (xs:=ys) (k:=k) (by rw[Aa HM];exact hlt);obtain⟨b,o,hA,hb,c0,c1,c2,c3,c4⟩:=(Aa HI).get (Aa HB) hx;obtain⟨b',o',hC,hb',d0,d1,d2,d3,d4⟩:=(Aa HK).get (Aa HB) hy;have hzw:=(Aa HB).size;have hfx:(fls xs)[k]? =some x.f:=by simp[fls,hx]
      have hfy:(fls ys)[k]? =some y.f:=by simp[fls,hy]
      have HFX:=Ab hfx;have HFY:=Ab hfy;have HSA:=Ab (fun W (hW:Below w.heap.size w W)=>RL x y W (((Aa HI).all x hxm).below hW (VC _)) (((Aa HK).all y hym).below hW (VC _)));rw[Dz,Dz]at HSA;have hxs:x.sl=.slice x.a x.f.bytes.length x.c:=rfl;have hys:y.sl=.slice y.a y.f.bytes.length y.c:=rfl;rw[hxs]at c1;rw[hys]at d1;obtain⟨q,hq⟩:∃q,decide (x.f=y.f)=q:=⟨_,rfl⟩
      rw[hq]at HSA;have HQ:=Ab hq;clear hx hy hxm hym hfx hfy hxs hys hq;subst hA;subst hC;generalize B x.f.name=t at*;generalize B y.f.name=t2 at*;generalize x.f.bytes.length=nb at*;generalize y.f.bytes.length=nb2 at*;generalize x.f.stamp=s1 at*;generalize y.f.stamp=s2 at*;generalize x.f.node=n1 at*;generalize y.f.node=n2 at*;generalize x.f.gone=g1 at*;generalize y.f.gone=g2 at*;have HBL:=Ab (fun o1 o2=>Aw (Aw (Aa HB) o1) o2);have d0':=fun o=>Nh (o:=o) d0
      have d1':=fun o=>Nh (o:=o) d1
      have d2':=fun o=>Nh (o:=o) d2
      have d3':=fun o=>Nh (o:=o) d3
      have d4':=fun o=>Nh (o:=o) d4
      clear d0 d1 d2 d3 d4;go_wp2_with fail
      refine(Aa HSA _ (Aa HBL _ _)).mono ?_;rintro e w1 ⟨rfl,hb1⟩;have HB1:=Ab ((Aa HBL _ _).trans (hb1.mono (by simp;omega)));clear hb1 d0' d1' d2' d3' d4'
      cases q with
      |false=>
       have hrf:r=false:=by
        rw[<-Aa HR];exact decide_eq_false (Z1x (Aa HFX) (Aa HFY) (of_decide_eq_false (Aa HQ)))
       subst hrf;go_wp2;go_ret;exact⟨rfl,Aa HB1⟩
      |true=>
       have he:x.f=y.f:=of_decide_eq_true (Aa HQ);have HT2:=Ab (Z1y (Aa HT) (Aa HFX) (by rw[he];exact Aa HFY));clear he;go_wp2;go_roundw
       case rel=>exact⟨k+1,by omega,by go_num,Aa HT2,Aa HB1⟩
       case measure=>simp[intOf];omega
    . obtain rfl:n=k:=by omega
      have hrt:r=true:=by
       rw[<-Aa HR];have:=Aa HT
       rw[VP (by rw[Aa HL1];exact VC _),VP (by rw[Aa HL2];exact VC _)]at this;exact decide_eq_true this
      subst hrt;go_wp2;go_ret;exact⟨rfl,Aa HB⟩
 . have e:decide (fls xs=fls ys)=false:=decide_eq_false (fun h=>hnm (by rw[<-hl1,<-hl2,h]));rw[e];have hnn:((n:Int)!=(m:Int))=true:=by simp;omega
   clear h k hn hm e hl1 hl2;go_enter Tryz.func51,Tryz.ntmps51
   go_wp2;go_ret;exact⟨rfl,Below.refl _ _⟩
theorem Wa (ad bd:Option Addr)(c d:Nat)(xs ys:List Fv)(w:World)(h:FsIn w ad c xs)(k:FsIn w bd d ys)(n m:Nat)(hn:xs.length=n)(hm:ys.length=m):
 Calls Tryz.prog 19 #[.slice ad n c,.slice bd m d] w fun e w'=>e=.returned (.bool (decide (fls xs=fls ys)))/\Below w.heap.size w w':=by
 have HE:=Ab (Xm ad bd c d xs ys w h k n m hn hm);clear h k;generalize decide (fls xs=fls ys)=r at*;go_enter Tryz.func19,Tryz.ntmps19
 go_wp2_with fail
 refine(Aa HE).mono ?_;rintro e w1 ⟨rfl,hb1⟩;have HB1:=Ab hb1;clear hb1;go_wp2;go_ret;exact⟨rfl,Aa HB1⟩
end Go.Proofs.YtieianhejdcgdaaGreatDoor
namespace Go.Proofs.YtieianhejdcgdaaGreatDoor
open Go.RowKit
set_option linter.unusedVariables false
theorem Z4z {w:World}{v u:Value}{a b:List Fl}(h:LIn w v a)(k:LIn w u b):
 Calls Tryz.prog 19 #[v,u] w fun e w'=>e=.returned (.bool (decide (a=b)))/\Below w.heap.size w w':=by
 obtain⟨ad,c,out,rfl,h2,h3⟩:=h;obtain⟨bd,d,out',rfl,k2,k3⟩:=k;refine(Wa ad bd c d out out' w h2 k2 _ _ (Rm h3) (Rm k3)).mono ?_;rintro e w' ⟨rfl,ha⟩;rw[h3,k3];exact⟨rfl,ha⟩
end Go.Proofs.YtieianhejdcgdaaGreatDoor
namespace Go.Proofs.YtieianhejdcgdaaGreatDoor
open Go.RowKit Go.ChangeShapes Go.WideShapes Go.ChangeAt Go.Deep
set_option linter.unusedVariables false
theorem Sk (b o j:Nat):(⟨b,o,none⟩:Addr).add j=⟨b,o+j,none⟩:=by unfold Addr.add;split<;>simp_all
theorem Z5y:Tryz.prog.cellsOf 5=1:=by kernel_rfl
end Go.Proofs.YtieianhejdcgdaaGreatDoor
namespace Go.Proofs.YtieianhejdcgdaaGreatDoor
open Go.RowKit Go.ChangeShapes Go.WideShapes Go.ChangeAt Go.Deep
set_option linter.unusedVariables false
set_option maxRecDepth 100000
theorem L7:Tryz.prog.cellsOf 30=5:=by kernel_rfl
theorem Z08:Tryz.prog.cellsOf 9=1:=by kernel_rfl
theorem Z09:Tryz.prog.cellsOf 3=1:=by kernel_rfl
theorem PA:Tryz.prog.cellsOf 4=1:=by kernel_rfl
theorem Z3y:Tryz.prog.cellsOf 23=1:=by kernel_rfl
theorem Z41:Tryz.prog.bytesOf 5=1:=by kernel_rfl
theorem PF:Tryz.prog.bytesOf 30=64:=by kernel_rfl
theorem Yz {H:Type}{enc:TypeId×Value->H}{P:Program}{w:World}{base:Nat}{spare:Nat->Bool}{held:Bool}{t:TypeId}{f0 f1 f2 f3 f4:Field}{fuel:Nat}{cs:List Value}{x:DataW H×List MemPlace}(ht:P.underlying t=some (.struct #[f0,f1,f2,f3,f4]))(h:DataW.trod enc P w base spare held fuel t cs=some x):
 ∃y0 y1 y2 y3 y4 n,x=(.agg [y0.1,y1.1,y2.1,y3.1,y4.1],y0.2++(y1.2++(y2.2++(y3.2++y4.2))))/\cs.length=P.cellsOf t/\DataW.trod enc P w base spare held n f0.type ((cs.drop f0.offset).take (P.cellsOf f0.type))=some y0/\
  DataW.trod enc P w base spare held n f1.type ((cs.drop f1.offset).take (P.cellsOf f1.type))=some y1/\DataW.trod enc P w base spare held n f2.type ((cs.drop f2.offset).take (P.cellsOf f2.type))=some y2/\
  DataW.trod enc P w base spare held n f3.type ((cs.drop f3.offset).take (P.cellsOf f3.type))=some y3/\DataW.trod enc P w base spare held n f4.type ((cs.drop f4.offset).take (P.cellsOf f4.type))=some y4:=by
 obtain⟨xs,n,_,rfl,hl,hlen,hf⟩:=DataW.trod_struct ht h
 match xs,hlen with
 | [y0,y1,y2,y3,y4],_=>exact⟨y0,y1,y2,y3,y4,n,by simp,hl,by simpa using hf 0 f0 rfl,by simpa using hf 1 f1 rfl,by simpa using hf 2 f2 rfl,by simpa using hf 3 f3 rfl,by simpa using hf 4 f4 rfl⟩
theorem Z2r {H:Type}{enc:TypeId×Value->H}{w:World}{fuel:Nat}{v:Value}{x:DataW H×List MemPlace}
 (h:DataW.trod enc Tryz.prog w 0 (fun _=>true) true fuel 23 [v]=some x) (hw:∀n∈x.1.weights Tryz.prog 23,n<=140737488351232):∃a c bs,v=.slice a bs.length c/\BsIn w a c bs/\bs.length<=140737488351232:=by
 rcases open_ints Tryz.underlying23 Tryz.underlying5 Z5y h with ⟨hcs,_⟩|⟨a,l,c,zs,hcs,_,hl,hm,hz,hx,hcell,hwz⟩
 . simp at hcs
   subst hcs;exact⟨none,0,[],rfl,.inl ⟨rfl,rfl,rfl⟩,by simp⟩
 . simp at hcs
   subst hcs;have hz':zs.length=c:=by simpa using hz
   have hb:∀j,j<zs.length->0<=zs.getD j 0/\zs.getD j 0<=255:=by
    intro j hj;have hmem:zs.getD j 0∈zs:=by simp[List.getD,hj]
    have:=hwz _ hmem
    simpa[Lit.wf,IntKind.min,IntKind.max,IntKind.signed,IntKind.bits]using this
   have hlen:((zs.take l).map fun n=>UInt8.ofNat n.toNat).length=l:=by simp;omega
   have hc:c<=140737488351232:=by
    apply hw
    rw[hx];simp only[DataW.weights,Tryz.underlying23,Z41];refine VW.2 (.inl ?_);simp[lits]
    omega
   refine⟨some a,c,(zs.take l).map fun n=>UInt8.ofNat n.toNat,by rw[hlen], ?_,by rw[hlen];omega⟩
   by_cases h0:l=0
   . subst h0;exact .inr (.inl ⟨by simp,a,rfl⟩)
   . obtain⟨b,o,spot⟩:=a;have hc0:=hcell 0 (by omega);have hspot:spot=none:=by simpa[Addr.add]using World.cell?_spot hc0
     subst hspot;refine .inr (.inr ⟨b,o,rfl, ?_,by rw[hlen];exact hl, ?_⟩)
     . have:=World.block_lt_of_cell? _ _ hc0
       simpa[Addr.add]using this
     . intro j hj;rw[hlen]at hj;have h1:=hcell j (by omega);rw[Sk]at h1;rw[h1];have hjz:j<zs.length:=by omega
       have hbj:=hb j hjz;have e:((zs.take l).map fun n=>UInt8.ofNat n.toNat).getD j 0=UInt8.ofNat (zs.getD j 0).toNat:=by simp[List.getD,hj,hjz]
       rw[e]
       have e2:(UInt8.ofNat (zs.getD j 0).toNat).toNat=(zs.getD j 0).toNat:=by
        rw[UInt8.toNat_ofNat'];omega
       rw[e2,YM hbj.1]
instance:Inhabited Fv:=⟨⟨⟨[],[],0,0,false⟩,none,0⟩⟩
theorem LC {H:Type}{enc:TypeId×Value->H}{w:World}{fuel:Nat}{cs:List Value}{x:DataW H×List MemPlace}
 (h:DataW.trod enc Tryz.prog w 0 (fun _=>true) true fuel 30 cs=some x) (hw:∀n∈x.1.weights Tryz.prog 30,n<=140737488351232):∃z:Fv,cs=z.cells/\FvIn w z:=by
 obtain⟨y0,y1,y2,y3,y4,k,hx,hlen,g0,g1,g2,g3,g4⟩:=Yz Tryz.underlying30 h;rw[L7]at hlen
 match cs,hlen with
 | [v0,v1,v2,v3,v4],_=>
  simp only[Z08,Z09,PA,Z3y]at g0 g1 g2 g3 g4;simp at g0 g1 g2 g3 g4
  have hws:∀n,n∈y0.1.weights Tryz.prog 9\/n∈y1.1.weights Tryz.prog 23->n<=140737488351232:=by
   intro n hn;apply hw
   rw[hx];simp only[DataW.weights,Tryz.underlying30]
   rcases hn with hn|hn
   . exact DataW.weights_mem_each (j:=0) rfl rfl n hn
   . exact DataW.weights_mem_each (j:=1) rfl rfl n hn
  obtain⟨s,e0,hs,_⟩:=DataW.trod_string Tryz.underlying9 g0;obtain⟨a,c,bs,e1,hB,hbl⟩:=Z2r g1 (fun n hn=>hws n (.inr hn));obtain⟨n2,e2,_,_⟩:=DataW.trod_int Tryz.underlying3 g2;obtain⟨n3,e3,_,_⟩:=DataW.trod_int Tryz.underlying3 g3;obtain⟨n4,e4,_⟩:=DataW.trod_bool Tryz.underlying4 g4;simp at e0 e2 e3 e4
  subst e0;subst e1;subst e2;subst e3;subst e4;have hsl:s.data.toList.length<=140737488351232:=hws _ (.inl (by rw[hs];simp[DataW.weights]));exact⟨⟨⟨s.data.toList,bs,n2,n3,n4⟩,a,c⟩,by simp[Fv.cells,Fv.sl,N3],⟨hB,by simp only;omega,by simp only;omega⟩⟩
theorem Gu {H:Type}{P:Program}{e:TypeId}:∀ {ds:List (DataW H)} {d:DataW H},d∈ds->∀n∈d.weights P e,n∈DataW.weightsAll P e ds
 |x::r,d,h,n,hn=>by
  simp only[DataW.weightsAll,VZ]
  rcases VW.1 h with e|e
  . subst e;exact .inl hn
  . exact .inr (Gu e n hn)
 | [],d,h,n,hn=>by cases h
theorem EB {H:Type}{enc:TypeId×Value->H}{w:World}{fuel:Nat}{a0:Option Addr}{l0 c0:Nat}{d:DataW H}{p:List MemPlace}
 (h:DataW.trod enc Tryz.prog w 0 (fun _=>true) true fuel 22 [.slice a0 l0 c0]=some (d,p)) {ts:List TypeId} {ds:List (DataW H)} {j:Nat}
 (hsz:(DataW.weightsEach Tryz.prog ts ds).all (· <=reachBytes)=true) (ht:ts[j]? =some 22) (hd:ds[j]? =some d):∃xs,xs.length=l0/\FsIn w a0 c0 xs:=by
 have hw:∀n∈d.weights Tryz.prog 22,n<=140737488351232:=by
  intro n hn;have h3:=WS.1 hsz _ (DataW.weights_mem_each ht hd _ hn);have h4:n<=reachBytes:=by simpa using h3
  have:reachBytes=140737488351232:=rfl
  omega
 rcases open_slice Tryz.underlying22 h with ⟨hcs,_⟩|⟨a,len,cap,m,n,D,Pl,hcs,_,hl,hm,hmm,hx1,hx⟩
 . simp at hcs
   obtain⟨rfl,rfl,rfl⟩:=hcs;exact⟨[],rfl,FsIn.nil w⟩
 . simp at hcs
   obtain⟨rfl,rfl,rfl⟩:=hcs;simp only[if_true]at hmm;subst hmm;have hd1:=congrArg Prod.fst hx1;simp only at hd1
   have hcap:m*64<=140737488351232:=by
    apply hw
    rw[hd1];simp only[DataW.weights,Tryz.underlying22,PF];refine VW.2 (.inl ?_);simp
    omega
   have each:∀i,i<l0->∃z:Fv,FvIn w z/\∀k,k<5->w.cell? (a.add (i*5+k))=z.cells[k]? :=by
    intro i hi;obtain⟨cs',h1,h2⟩:=hx i (by omega);rw[L7]at h1;obtain⟨_,hlen,hcell⟩:=World.cells?_some h1
    obtain⟨z,hz,hF⟩:=LC h2 (fun n hn=>hw n (by
     rw[hd1];simp only[DataW.weights,Tryz.underlying22];exact WF _ (VZ.2 (.inl (Gu (WY.2 ⟨i,List.mem_range.2 hi,rfl⟩) _ hn)))))
    refine⟨z,hF,fun k hk=> ?_⟩;have:=hcell k hk
    rw[add_add]at this;rw[this,hz]
   obtain⟨f,hf⟩:=choose_lt each;refine⟨(List.range l0).map f,by simp,⟨?_,by simp;omega,by unfold maxLen at hm;omega,by simp;omega, ?_⟩⟩
   . by_cases h0:l0=0
     . subst h0;exact .inl rfl
     . obtain⟨b,o,spot⟩:=a;have hc:=(hf 0 (by omega)).2 0 (by omega);have hc':w.cell? (Addr.add ⟨b,o,spot⟩ (0*5+0))=some (.string (B (f 0).f.name)):=hc;have hspot:spot=none:=by simpa[Addr.add]using World.cell?_spot hc'
       subst hspot;refine .inr ⟨b,o,rfl, ?_, ?_⟩
       . have:=World.block_lt_of_cell? _ _ hc'
         simpa[Addr.add]using this
       . intro j x hj
         have hj':j<l0:=by
          rcases YO j l0 with h'|h'
          . exact h'
          . rw[WA (by simpa using h')]at hj;cases hj
         simp[hj']at hj
         subst hj;have q:=(hf j hj').2;have q0:=q 0 (by decide);have q1:=q 1 (by decide);have q2:=q 2 (by decide);have q3:=q 3 (by decide);have q4:=q 4 (by decide);rw[Sk]at q0 q1 q2 q3 q4;exact⟨q0,by rw[WJ];exact q1,by rw[WJ];exact q2,by rw[WJ];exact q3,by rw[WJ];exact q4⟩
   . intro x hx;obtain⟨i,hi,rfl⟩:=WY.1 hx;exact(hf i (List.mem_range.1 hi)).1
end Go.Proofs.YtieianhejdcgdaaGreatDoor
