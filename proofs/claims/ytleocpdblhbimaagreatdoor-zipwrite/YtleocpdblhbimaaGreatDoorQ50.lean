import Derived.Test.YtleocpdblhbimaaGreatDoorQ12
import Derived.Test.YtleocpdblhbimaaGreatDoorQ49
import Derived.Test.YtleocpdblhbimaaGreatDoorQ38
import Derived.Test.YtleocpdblhbimaaGreatDoorQ39
set_option linter.unusedSimpArgs false
set_option maxHeartbeats 4000000
namespace Go.Proofs.YtleocpdblhbimaaGreatDoor
open Go.RowKit
set_option linter.unusedVariables false
set_option maxRecDepth 100000
theorem Jg {a W W':World}(h:Below a.heap.size a W)(k:Below W.heap.size W W'):Below a.heap.size a W':=h.trans (k.mono h.size)
theorem Z32:UnC False:=by
 intro W a n c pk hl hn hby hv hg
 rcases hg with hg|hg
 . exact hg.elim
 . have hk:(Mp (rowB pk n)).ks.length<=200000:=by
    have h1:=Nd _ hg;have h2:=(Rc (rowB pk n) n (Ai _ _) (by rw[h1];exact hg)).2.2.2.2;rw[h1,Ai]at h2;omega
   refine(J7 a n c pk W hl (by omega) hby (Cv hv) _ rfl hg hk).mono ?_;rintro e w' ⟨ov,kv,rfl,ho,_,hB⟩;obtain⟨oa,oc,rfl,k1,k2,k3,k4⟩:=Uh ho;exact⟨hB,.inl ⟨hg,oa,oc,kv,rfl,⟨oa,oc,rfl,k2,k1⟩,k4⟩⟩
def Yq:List Fl->Nat
 | []=>0
 |f::r=>(98+2*f.name.length+f.bytes.length+5)+Yq r
theorem Yp:∀(l:List Fl) (f:Fl),Yq (l++ [f])=Yq l+(98+2*f.name.length+f.bytes.length+5)
 | [],f=>by simp[Yq]
 |g::r,f=>by rw[XH,Yq,Yp r f,Yq];omega
theorem GU:∀(l:List Fl),(∀f∈l,f.name.length<=40/\f.bytes.length<=3000)->Yq l<=3183*l.length
 | [],_=>by simp[Yq]
 |f::r,h=>by
  have h1:=GU r (fun g hg=>h g (WM _ hg));have h2:=h f (by simp);rw[Yq,VJ];omega
theorem BG:∀(l:List En) (p:Nat),(∀x∈l,x.pk.length<=x.f.bytes.length)->(Ar l).length+(Am p l).length<=Yq (l.map En.f)
 | [],p,_=>by simp[Ar,Am,Yq]
 |x::r,p,h=>by
  have h1:=BG r (p+(Sy x).length) (fun y hy=>h y (WM _ hy));have h2:=h x (by simp);rw[Ar,Am,VB,VB,Gc,Jk,WP,Yq];rw[Gc]at h1;omega
theorem EOf.less {x:En}(h:EOf x):x.pk.length<=x.f.bytes.length:=by
 obtain⟨out,ho,(⟨q1,q2,q3⟩|⟨q1,q2,q3⟩)⟩:=h.pk
 . rw[q3];omega
 . rw[q3,Cd];exact VC _
theorem FH {l:List En}(h:∀x∈l,EOf x):(Ba l).length<=22+Yq (l.map En.f):=by
 have h1:=BG l 0 (fun x hx=>(h x hx).less);unfold Ba;rw[VB,VB,Mg];omega
theorem EOf.ways {x:En}(h:EOf x):(x.meth=0/\x.pk=n8 x.f.bytes)\/ (x.meth=8/\x.pk.length<x.f.bytes.length):=by
 obtain⟨out,ho,(⟨q1,q2,q3⟩|⟨q1,q2,q3⟩)⟩:=h.pk
 . exact .inr ⟨q2,by rw[q3];exact q1⟩
 . exact .inl ⟨q2,q3⟩
theorem Xk (ad:Option Addr)(c n:Nat)(xs:List Fv)(w:World)(h:FsIn w ad c xs)(hn:xs.length=n):
 Calls Tryz.prog 3 #[.slice ad n c] w fun e w'=>e=.returned (.bool true)/\Below w.heap.size w w':=by
 have HW:=Ab (Th ad c n xs w h hn);have HC:=Ab (fun w1 (hB:Below w.heap.size w w1)=>Te ad c xs w1 (h.below hB (VC _)) n hn);obtain⟨E,hE⟩:∃E,Nh (fls xs)=E:=⟨_,rfl⟩
 have HI:=Ab h;have HN:=Ab hn;clear h hn;go_enter Tryz.func3,Tryz.ntmps3
 go_wp2_with fail
 refine(Aa HW).mono ?_;rintro e w1 ⟨hB1,hcase⟩;rw[hE]at HC hcase;have HC1:=Ab (Aa HC w1 hB1);have HB1:=Ab hB1;clear HW HC
 rcases hcase with ⟨hE1,rfl⟩|⟨hE0,l,hlf,hlo,(⟨h1,rfl⟩|⟨h1,a4,c4,rfl,hac,hP4⟩)⟩
 . have hEc:((E:Int)!=0)=true:=by simp only[bne_iff_ne,ne_eq];omega
   clear hE hE1 hB1;go_wp2_with fail
   refine(Aa HC1).mono ?_;rintro e w2 ⟨rfl,hB2⟩;have HB2:=Ab ((Aa HB1).trans (hB2.mono (Aa HB1).size));clear hB2;go_wp2_with fail
   refine(Gg w2).mono ?_;rintro e w3 ⟨rfl,hB3⟩;have HB3:=Ab ((Aa HB2).trans (hB3.mono (Aa HB2).size));clear hB3;go_wp2_with fail
   refine(Gg w3).mono ?_;rintro e w4 ⟨rfl,hB4⟩;have HB4:=Ab ((Aa HB3).trans (hB4.mono (Aa HB3).size));clear hB4;go_wp2;go_ret;exact⟨rfl,Aa HB4⟩
 . subst hE0;have hgr:=FH hlo;rw[hlf]at hgr;have hall:=Jv hE;have hbnd:∀f∈fls xs,f.name.length<=40/\f.bytes.length<=3000:=fun f hf=>⟨(Hu (hall.2 f hf)).1,(Hu (hall.2 f hf)).2.1⟩
   have hfl:(fls xs).length=n:=by simp[fls,Aa HN]
   have hn12:n<=12:=by rw[<-hfl];exact hall.1
   have HSM:Hid (12000<22+Yq (fls xs)):=Ab (by omega);have HBD:=Ab hbnd;have HFL:=Ab hfl;clear hE hB1 hlo hlf h1 hgr hall hbnd hfl l;go_wp2_with fail
   refine(Aa HC1).mono ?_;rintro e w2 ⟨rfl,hB2⟩;have HB2:=Ab ((Aa HB1).trans (hB2.mono (Aa HB1).size));clear hB2;go_wp2_with fail
   refine(Gg w2).mono ?_;rintro e w3 ⟨rfl,hB3⟩;have HB3:=Ab ((Aa HB2).trans (hB3.mono (Aa HB2).size));clear hB3;go_wp2;go_loopw [6,8,41] (fun v6 _ v41 wr=>∃(k t:Nat),k<=n/\v41=.int .i64 (k:Int)/\v6=.int .i64 (t:Int)/\t<=50000/\Hid (t=22+Yq ((fls xs).take k))/\Hid (Below w.heap.size w wr)) (fun _ _ v41 _=>n-(intOf v41).toNat)
   case atStart=>exact⟨0,22,VK _,rfl,rfl,by omega,Ab (by simp[Yq]),HB3⟩
   case round=>
    obtain⟨k,t,hk,rfl,rfl,ht,HT,HB⟩:=hrel
    by_cases hlt:k<n
    . obtain⟨x,hx,hxm⟩:=Ri (xs:=xs) (k:=k) (by rw[Aa HN];exact hlt);obtain⟨b,o,rfl,hb,c0,c1,c2,c3,cc4⟩:=(Aa HI).get (Aa HB) hx;have hxs:x.sl=.slice x.a x.f.bytes.length x.c:=rfl;rw[hxs]at c1;have hf:(fls xs)[k]? =some x.f:=by simp[fls,hx]
      have hb2:=Aa HBD x.f (List.mem_of_getElem? hf);have htk:=Fj hf;obtain⟨nb,hnb⟩:∃nb,x.f.bytes.length=nb:=⟨_,rfl⟩
      obtain⟨nl,hnl⟩:∃nl,x.f.name.length=nl:=⟨_,rfl⟩
      obtain⟨tx,htx⟩:∃tx,B x.f.name=tx:=⟨_,rfl⟩
      have htz:tx.size=nl:=by rw[<-htx,Ha,hnl]
      have HT2:Hid (t+(98+2*nl+nb+5)=22+Yq ((fls xs).take (k+1))):=Ab (by rw[htk,Yp,hnl,hnb];have:=Aa HT;omega)
      have ht2:t+(98+2*nl+nb+5)<=50000:=by
       have h1:=Aa HT2;have h2:=GU ((fls xs).take (k+1)) (fun f hf=>Aa HBD f (VO hf));have h3:((fls xs).take (k+1)).length<=12:=by rw[VM,Aa HFL];omega
       omega
      rw[hnb,hnl]at hb2;rw[htx]at c0;rw[hnb]at c1;have hz:=(Aa HB).size;have HBL:=Ab (fun o'=>(Aa HB).alloc hz o');generalize x.f.stamp=st at*;generalize x.f.node=nd at*;generalize x.f.gone=gn at*;clear hx hxm hxs hf htk hnb hnl htx HT;go_wp2;go_roundw
      case rel=>exact⟨k+1,t+(98+2*nl+nb+5),by omega,by go_num,by go_num,ht2,HT2,Ab (Aa HBL _)⟩
      case measure=>simp[intOf];omega
    . obtain rfl:n=k:=by omega
      have htI:(12000:Int)<(t:Int):=by
       have h1:=Aa HT;have h2:=Aa HSM;rw[VP (by rw[Aa HFL];exact VC _)]at h1;omega
      go_wp2;go_ret;exact⟨rfl,Aa HB⟩
 . subst hE0;have hE2:Nh (l.map En.f)=0:=by rw[hlf];exact hE
   have hall:=Jv hE2;have hwr:=Ti l hE2 hlo h1;have hav:=Pp l (fun x hx=>((hlo x hx).num (hall.2 x.f (XJ hx))).2)
   have hll:l.length=n:=by
    have:=congrArg List.length hlf
    simpa[fls,Aa HN]using this
   have hn12:n<=12:=by have:=hall.1;rw[WG]at this;omega
   have hend:Q2 (Ba l)=some l:=LY l (fun x hx=>(hwr.1 x hx).doc) (by omega) (by omega);have HEN:=Ab (fun W (hW:Below w1.heap.size w1 W)=>Q1 a4 (Ba l).length c4 (Ba l) W rfl h1 hac (hP4.below hW) hav False (.inr (by rw[hend];simp)) Z32);have HED:=Ab hend;have HLF:=Ab hlf;have HLO:=Ab hlo;have HLL:=Ab hll;have HAL:=Ab hall;obtain⟨AL,hAL⟩:∃AL,(Ba l).length=AL:=⟨_,rfl⟩
   rw[hAL]at HEN h1;rw[hAL];clear hE hB1 hlo hlf hE2 hwr hav hll hend hP4 hac hAL hall;go_wp2_with fail
   refine(Aa HC1).mono ?_;rintro e w2 ⟨rfl,hB2⟩;have HB2:=Ab ((Aa HB1).trans (hB2.mono (Aa HB1).size));have HP2:=Ab hB2;clear hB2;go_wp2_with fail
   refine(Gg w2).mono ?_;rintro e w3 ⟨rfl,hB3⟩;have HB3:=Ab ((Aa HB2).trans (hB3.mono (Aa HB2).size));have HP3:=Ab ((Aa HP2).trans (hB3.mono (Aa HP2).size));clear hB3;go_wp2_with fail
   refine(Aa HEN w3 (Aa HP3)).mono ?_;rintro e w4 ⟨hB4,hx4⟩
   rcases hx4 with ⟨hbad,_⟩|⟨es,a5,c5,hes,rfl,hRs⟩
   . rw[Aa HED]at hbad;cases hbad
   . have hes2:es.map Ev.e=l:=by rw[Aa HED]at hes;exact(VQ hes).symm
     have hel:es.length=n:=by rw[<-Aa HLL,<-hes2,WG]
     have hbt:(Ba (es.map Ev.e)==Ba l)=true:=by rw[hes2];exact beq_self_eq_true _
     rw[hbt,hel];have HB4:=Ab ((Aa HB3).trans (hB4.mono (Aa HB3).size));have HRS:=Ab hRs;have HES:=Ab hes2;have HEL:=Ab hel;have h1I:¬(12000:Int)<(AL:Int):=by omega
     clear hB4 hes hes2 hel hbt hRs HEN HC1 HP2 HP3 HB3 HB2;go_wp2;go_loopw [11,12,90] (fun _ _ v90 wr=>∃(k:Nat),k<=n/\v90=.int .i64 (k:Int)/\Hid (Below w.heap.size w wr)/\Hid (Below w4.heap.size w4 wr)) (fun _ _ v90 _=>n-(intOf v90).toNat)
     case atStart=>exact⟨0,VK _,rfl,HB4,Ab (Below.refl _ _)⟩
     case round=>
      obtain⟨k,hk,rfl,HB,HB4r⟩:=hrel
      by_cases hlt:k<n
      . obtain⟨x,hx,hxm⟩:=Ri (xs:=xs) (k:=k) (by rw[Aa HN];exact hlt);obtain⟨b,o,rfl,hb,c0,c1,c2,c3,cc4⟩:=(Aa HI).get (Aa HB) hx;obtain⟨y,hy,hym⟩:∃y,es[k]? =some y/\y∈es:=⟨es[k]'(by rw[Aa HEL];exact hlt),VR _,WK _⟩
        have hyl:y.e∈l:=by rw[<-Aa HES];exact XJ hym
        have hyf:y.e.f=x.f:=by
         have h2:(l.map En.f)[k]? =some y.e.f:=by rw[<-Aa HES];simp[hy]
         rw[Aa HLF]at h2;have h3:(fls xs)[k]? =some x.f:=by simp[fls,hx]
         rw[h3]at h2;exact(VQ h2).symm
        obtain⟨b2,o2,rfl,hb2,d0,d1,d2,d3,d4,d5,d6,d7⟩:=(Aa HRS).get (Aa HB4r) hy;rw[hyf]at d0 d1 d2 d3 d4;have heo:=Aa HLO y.e hyl;have hcr:y.e.crc=crcN 0 (n8 x.f.bytes):=by rw[heo.cr,hyf]
        have hways:=heo.ways;rw[hyf]at hways;have hev:=(Aa HRS).all y hym;have hnum:=Hu ((Aa HAL).2 y.e.f (XJ hyl));rw[hyf]at hnum;have hxs:x.sl=.slice x.a x.f.bytes.length x.c:=rfl;rw[hxs]at c1;have hxin:=(Aa HI).all x hxm;obtain⟨wA,hwA⟩:∃wA,wr.alloc (.cells #[.string (B x.f.name),.slice x.a x.f.bytes.length x.c,.int .i64 x.f.stamp,.int .i64 x.f.node,.bool x.f.gone] 30)=wA:=⟨_,rfl⟩
        have hXA:wA.heap[wr.heap.size]? =some (.cells #[.string (B x.f.name),.slice x.a x.f.bytes.length x.c,.int .i64 x.f.stamp,.int .i64 x.f.node,.bool x.f.gone] 30 (0,0)):=by rw[<-hwA];exact heap_alloc_new wr _
        have hBA:Below wr.heap.size wr wA:=by rw[<-hwA];exact(Below.refl _ _).alloc (VC _) _
        have hsA:wA.heap.size=wr.heap.size+1:=by rw[<-hwA];simp
        have hs4:=(Aa HB4r).size;have hsw:=(Aa HB).size;have hB4A:Below w4.heap.size w4 wA:=(Aa HB4r).trans (hBA.mono hs4);have hBwA:Below w.heap.size w wA:=(Aa HB).trans (hBA.mono hsw)
        have hE:∀W,Below wA.heap.size wA W->∀i v,wr.cell? ⟨b2,o2+k*8+i,none⟩=some v->W.cell? ⟨b2,o2+k*8+i,none⟩=some v:=fun W hW i v hv=>by
         rw[hW.cell (p:=⟨b2,_,none⟩) (by dsimp only;omega),hBA.cell (p:=⟨b2,_,none⟩) (by dsimp only;omega)];exact hv
        have hF:∀W,Below wA.heap.size wA W->∀i,W.cell? ⟨wr.heap.size,i,none⟩=(#[.string (B x.f.name),.slice x.a x.f.bytes.length x.c,.int .i64 x.f.stamp,.int .i64 x.f.node,.bool x.f.gone]:Array Value)[i]? :=fun W hW i=>by
         rw[hW.cell (p:=⟨wr.heap.size,_,none⟩) (by dsimp only;omega)];exact Ac hXA
        have HSF:Hid (∀W,Below wA.heap.size wA W->Calls Tryz.prog 11 #[.agg #[.string (B x.f.name),.slice y.fa x.f.bytes.length y.fc,.int .i64 x.f.stamp,.int .i64 x.f.node,.bool x.f.gone],.agg #[.string (B x.f.name),.slice x.a x.f.bytes.length x.c,.int .i64 x.f.stamp,.int .i64 x.f.node,.bool x.f.gone]] W fun e w'=>e=.returned (.bool true)/\Below W.heap.size W w'):=Ab (fun W hW=>by
         have i1:=(hev.1.below (hB4A.trans (hW.mono hB4A.size))).fv;rw[hyf]at i1;have h5:=PN ⟨x.f,y.fa,y.fc⟩ x W i1 (hxin.below (hBwA.trans (hW.mono hBwA.size)) (VC _));refine h5.mono ?_;rintro e w' ⟨rfl,h6⟩;exact⟨by simp,h6⟩)
        have HCR:Hid (∀W,Below wA.heap.size wA W->Calls Tryz.prog 12 #[.int .u32 0,.slice x.a x.f.bytes.length x.c] W fun e w'=>e=.returned (.int .u32 (y.e.crc:Int))/\w'=W):=Ab (fun W hW=>by
         have i1:=(SJ (hxin.below (hBwA.trans (hW.mono hBwA.size)) (VC _)).bs).1;have h5:=MH 0 x.a x.f.bytes.length x.c (n8 x.f.bytes) W (Cd _) (by omega) (by decide) i1 (Cv (Ir _));rw[hcr];exact h5)
        have HEQ:Hid (y.e.meth=0->∀W,Below wA.heap.size wA W->Calls Tryz.prog 13 #[.slice y.pa y.e.pk.length y.pc,.slice x.a x.f.bytes.length x.c] W fun e w'=>e=.returned (.bool true)/\w'=W):=Ab (fun hm W hW=>by
         have i1:=(SJ (hxin.below (hBwA.trans (hW.mono hBwA.size)) (VC _)).bs).1;have i2:=(hev.1.below (hB4A.trans (hW.mono hB4A.size))).pk.1
         have hpk:y.e.pk=n8 x.f.bytes:=by
          rcases hways with ⟨_,h6⟩|⟨h6,_⟩
          . exact h6
          . rw[hm]at h6;cases h6
         rw[hpk]at i2;have h5:=Sj y.pa x.a x.f.bytes.length y.pc x.f.bytes.length x.c (n8 x.f.bytes) (n8 x.f.bytes) W (Cd _) (Cd _) (Cv (Ir _)) (Cv (Ir _)) i2 i1;rw[hpk,Cd];refine h5.mono ?_;rintro e w' ⟨rfl,h6⟩;exact⟨by simp,h6⟩)
        obtain⟨nb,hnb⟩:∃nb,x.f.bytes.length=nb:=⟨_,rfl⟩
        obtain⟨tx,htx⟩:∃tx,B x.f.name=tx:=⟨_,rfl⟩
        obtain⟨pl,hpl⟩:∃pl,y.e.pk.length=pl:=⟨_,rfl⟩
        obtain⟨mt,hmt⟩:∃mt,y.e.meth=mt:=⟨_,rfl⟩
        obtain⟨cr,hcrl⟩:∃cr,y.e.crc=cr:=⟨_,rfl⟩
        have hwy:mt=0\/ (mt=8/\pl<nb):=by
         rcases hways with ⟨h6,_⟩|⟨h6,h7⟩
         . exact .inl (by rw[<-hmt];exact h6)
         . exact .inr ⟨by rw[<-hmt];exact h6,by rw[<-hpl,<-hnb];exact h7⟩
        rw[htx,hnb]at HSF hF hwA;rw[hnb]at HCR HEQ;rw[hcrl]at HCR d7;rw[hpl,hmt]at HEQ;rw[hpl]at d6;rw[hmt]at d5;rw[htx]at c0 d0;rw[hnb]at c1 d1;generalize x.f.stamp=st at*;generalize x.f.node=nd at*;generalize x.f.gone=gn at*;have g0:=fun W hW=>hE W hW 0 _ d0
        have g1:=fun W hW=>hE W hW 1 _ d1
        have g2:=fun W hW=>hE W hW 2 _ d2
        have g3:=fun W hW=>hE W hW 3 _ d3
        have g4:=fun W hW=>hE W hW 4 _ d4
        have g5:=fun W hW=>hE W hW 5 _ d5
        have g6:=fun W hW=>hE W hW 6 _ d6
        have g7:=fun W hW=>hE W hW 7 _ d7
        have z0:=fun W hW=>hF W hW 0
        have z1:=fun W hW=>hF W hW 1
        have z2:=fun W hW=>hF W hW 2
        have z3:=fun W hW=>hF W hW 3
        have z4:=fun W hW=>hF W hW 4
        simp only[VZ,VX,WF,XL]at z0 z1 z2 z3 z4 g0;have HWA:=Ab hwA;have HBWA:=Ab hBwA;have HB4A:=Ab hB4A;clear hE hF hXA hBA hsA hs4 hsw hB4A hBwA hev hxin hnum hways hcr heo hcrl hmt hpl htx hnb hx hxm hy hym hyl hyf hxs hwA d0 d1 d2 d3 d4 d5 d6 d7 HN HI HRS HES HEL HLO HLL HLF HAL HED HB1 HB4;go_upto_region 19 with fail
        rw[Aa HWA];clear c0 c1 c2 c3 cc4 HWA;have hkI:(k:Int)<(n:Int):=by omega
        refine wp_region_held_drew (S:=fun W=>Below wA.heap.size wA W) (by kernel_rfl) (Af (Below.refl _ _) 1) (fun hHeld=> ?_);generalize wA.drew=wD at hHeld ⊢;refine wpAnyH_take (i:=0) (v:=.slice (some ⟨b2,o2,none⟩) n c5) rfl (by kernel_rfl) (by kernel_rfl) (by kernel_rfl) (fun _ _ _ h=>h) (Or.inl ⟨by rfl,fun W hS=>by go_simp⟩) hHeld ?_;simp only[Act.put,VA,VD,VE];refine wpAnyH_take (i:=1) (v:=.int .i64 (k:Int)) rfl (by kernel_rfl) (by kernel_rfl) (by kernel_rfl) (fun _ _ _ h=>h) (Or.inl ⟨by rfl,fun W hS=>by go_simp⟩) hHeld ?_;simp only[Act.put,VA,VD,VE];refine wpAnyH_take (i:=2) (v:=.pointer (some ⟨b2,o2+k*8,none⟩)) rfl (by kernel_rfl) (by kernel_rfl) (by kernel_rfl) (fun _ _ _ h=>h) (Or.inl ⟨by rfl,fun W hS=>by go_simp⟩) hHeld ?_;simp only[Act.put,VA,VD,VE];refine wpAnyH_take (i:=3) (v:=.pointer (some ⟨b2,o2+k*8,none⟩)) rfl (by kernel_rfl) (by kernel_rfl) (by kernel_rfl) (fun _ _ _ h=>h) (Or.inl ⟨by rfl,fun W hS=>by go_simp⟩) hHeld ?_;simp only[Act.put,VA,VD,VE];refine wpAnyH_take (i:=4) (v:=.agg #[.string tx,.slice y.fa nb y.fc,.int .i64 st,.int .i64 nd,.bool gn]) rfl (by kernel_rfl) (by kernel_rfl) (by kernel_rfl) (fun _ _ _ h=>h) (Or.inl ⟨by rfl,fun W hS=>by have y0:=g0 W hS;have y1:=g1 W hS;have y2:=g2 W hS;have y3:=g3 W hS;have y4:=g4 W hS;go_simp⟩) hHeld ?_;simp only[Act.put,VA,VD,VE];refine wpAnyH_take (i:=5) (v:=.agg #[.string tx,.slice x.a nb x.c,.int .i64 st,.int .i64 nd,.bool gn]) rfl (by kernel_rfl) (by kernel_rfl) (by kernel_rfl) (fun _ _ _ h=>h) (Or.inl ⟨by rfl,fun W hS=>by have y0:=z0 W hS;have y1:=z1 W hS;have y2:=z2 W hS;have y3:=z3 W hS;have y4:=z4 W hS;go_simp⟩) hHeld ?_;simp only[Act.put,VA,VD,VE];refine wpAnyH_ready (rs:= [6]) (by kernel_rfl) (by simp) (AllReadyH.cons rfl (fun K hK=> ?_) AllReadyH.nil);go_simp
        refine(Aa HSF _ hHeld).mono ?_;rintro e wE ⟨rfl,hbE⟩;have hN:=Jg hHeld hbE;dsimp only;refine hK.out _ _ hN (fun _=> ?_);clear hK K hHeld hbE;have hHeld:=hN;clear hN;refine wpAnyH_take (i:=7) (v:=.bool false) rfl (by kernel_rfl) (by kernel_rfl) (by kernel_rfl) (fun _ _ _ h=>h) (Or.inl ⟨by rfl,fun W hS=>by go_simp⟩) hHeld ?_;simp only[Act.put,VA,VD,VE];refine wpAnyH_take (i:=8) (v:=.bool false) rfl (by kernel_rfl) (by kernel_rfl) (by kernel_rfl) (fun _ _ _ h=>h) (Or.inl ⟨by rfl,fun W hS=>by go_simp⟩) hHeld ?_;simp only[Act.put,VA,VD,VE];refine wpAnyH_take (i:=9) (v:=.slice (some ⟨b2,o2,none⟩) n c5) rfl (by kernel_rfl) (by kernel_rfl) (by kernel_rfl) (fun _ _ _ h=>h) (Or.inl ⟨by kernel_rfl,fun W hS=>by go_simp⟩) hHeld ?_;simp only[Act.put,VA,VD,VE];refine wpAnyH_take (i:=10) (v:=.int .i64 (k:Int)) rfl (by kernel_rfl) (by kernel_rfl) (by kernel_rfl) (fun _ _ _ h=>h) (Or.inl ⟨by kernel_rfl,fun W hS=>by go_simp⟩) hHeld ?_;simp only[Act.put,VA,VD,VE];refine wpAnyH_take (i:=11) (v:=.pointer (some ⟨b2,o2+k*8,none⟩)) rfl (by kernel_rfl) (by kernel_rfl) (by kernel_rfl) (fun _ _ _ h=>h) (Or.inl ⟨by kernel_rfl,fun W hS=>by go_simp⟩) hHeld ?_;simp only[Act.put,VA,VD,VE];refine wpAnyH_take (i:=12) (v:=.pointer (some ⟨b2,o2+k*8+7,none⟩)) rfl (by kernel_rfl) (by kernel_rfl) (by kernel_rfl) (fun _ _ _ h=>h) (Or.inl ⟨by kernel_rfl,fun W hS=>by go_simp⟩) hHeld ?_;simp only[Act.put,VA,VD,VE];refine wpAnyH_take (i:=13) (v:=.int .u32 (cr:Int)) rfl (by kernel_rfl) (by kernel_rfl) (by kernel_rfl) (fun _ _ _ h=>h) (Or.inl ⟨by kernel_rfl,fun W hS=>by have y7:=g7 W hS;go_simp⟩) hHeld ?_;simp only[Act.put,VA,VD,VE];refine wpAnyH_take (i:=14) (v:=.pointer (some ⟨wr.heap.size,1,none⟩)) rfl (by kernel_rfl) (by kernel_rfl) (by kernel_rfl) (fun _ _ _ h=>h) (Or.inl ⟨by kernel_rfl,fun W hS=>by go_simp⟩) hHeld ?_;simp only[Act.put,VA,VD,VE];refine wpAnyH_take (i:=15) (v:=.slice x.a nb x.c) rfl (by kernel_rfl) (by kernel_rfl) (by kernel_rfl) (fun _ _ _ h=>h) (Or.inl ⟨by kernel_rfl,fun W hS=>by have y1:=z1 W hS;go_simp⟩) hHeld ?_;simp only[Act.put,VA,VD,VE];refine wpAnyH_ready (rs:= [16]) (by kernel_rfl) (by simp) (AllReadyH.cons rfl (fun K hK=> ?_) AllReadyH.nil);rw[if_pos (by kernel_rfl)];go_simp
        refine(Aa HCR _ hHeld).mono ?_;rintro e wF ⟨rfl,hwF⟩;obtain rfl:wE=wF:=hwF.symm;dsimp only;refine hK.out _ _ hHeld (fun _=> ?_);clear hK K;refine wpAnyH_take (i:=17) (v:=.bool false) rfl (by kernel_rfl) (by kernel_rfl) (by kernel_rfl) (fun _ _ _ h=>h) (Or.inl ⟨by kernel_rfl,fun W hS=>by go_simp⟩) hHeld ?_;simp only[Act.put,VA,VD,VE];refine wpAnyH_take (i:=18) (v:=.bool false) rfl (by kernel_rfl) (by kernel_rfl) (by kernel_rfl) (fun _ _ _ h=>h) (Or.inl ⟨by rfl,fun W hS=>by go_simp⟩) hHeld ?_;simp only[Act.put,VA,VD,VE];refine wpAnyH_take (i:=19) (v:=.bool false) rfl (by kernel_rfl) (by kernel_rfl) (by kernel_rfl) (fun _ _ _ h=>h) (Or.inl ⟨by rfl,fun W hS=>by go_simp⟩) hHeld ?_;simp only[Act.put,VA,VD,VE];refine wpAnyH_take (i:=20) (v:=.slice (some ⟨b2,o2,none⟩) n c5) rfl (by kernel_rfl) (by kernel_rfl) (by kernel_rfl) (fun _ _ _ h=>h) (Or.inl ⟨by kernel_rfl,fun W hS=>by go_simp⟩) hHeld ?_;simp only[Act.put,VA,VD,VE];refine wpAnyH_take (i:=21) (v:=.int .i64 (k:Int)) rfl (by kernel_rfl) (by kernel_rfl) (by kernel_rfl) (fun _ _ _ h=>h) (Or.inl ⟨by kernel_rfl,fun W hS=>by go_simp⟩) hHeld ?_;simp only[Act.put,VA,VD,VE];refine wpAnyH_take (i:=22) (v:=.pointer (some ⟨b2,o2+k*8,none⟩)) rfl (by kernel_rfl) (by kernel_rfl) (by kernel_rfl) (fun _ _ _ h=>h) (Or.inl ⟨by kernel_rfl,fun W hS=>by go_simp⟩) hHeld ?_;simp only[Act.put,VA,VD,VE];refine wpAnyH_take (i:=23) (v:=.pointer (some ⟨b2,o2+k*8+5,none⟩)) rfl (by kernel_rfl) (by kernel_rfl) (by kernel_rfl) (fun _ _ _ h=>h) (Or.inl ⟨by kernel_rfl,fun W hS=>by go_simp⟩) hHeld ?_;simp only[Act.put,VA,VD,VE];refine wpAnyH_take (i:=24) (v:=.int .i64 (mt:Int)) rfl (by kernel_rfl) (by kernel_rfl) (by kernel_rfl) (fun _ _ _ h=>h) (Or.inl ⟨by kernel_rfl,fun W hS=>by have y5:=g5 W hS;go_simp⟩) hHeld ?_;simp only[Act.put,VA,VD,VE]
        rcases hwy with rfl|⟨rfl,hpn⟩
        . skip
          refine wpAnyH_take (i:=25) (v:=.bool true) rfl (by kernel_rfl) (by kernel_rfl) (by kernel_rfl) (fun _ _ _ h=>h) (Or.inl ⟨by kernel_rfl,fun W hS=>by go_simp⟩) hHeld ?_;simp only[Act.put,VA,VD,VE];refine wpAnyH_take (i:=26) (v:=.bool true) rfl (by kernel_rfl) (by kernel_rfl) (by kernel_rfl) (fun _ _ _ h=>h) (Or.inl ⟨by kernel_rfl,fun W hS=>by go_simp⟩) hHeld ?_;simp only[Act.put,VA,VD,VE];refine wpAnyH_take (i:=27) (v:=.slice (some ⟨b2,o2,none⟩) n c5) rfl (by kernel_rfl) (by kernel_rfl) (by kernel_rfl) (fun _ _ _ h=>h) (Or.inl ⟨by kernel_rfl,fun W hS=>by go_simp⟩) hHeld ?_;simp only[Act.put,VA,VD,VE];refine wpAnyH_take (i:=28) (v:=.int .i64 (k:Int)) rfl (by kernel_rfl) (by kernel_rfl) (by kernel_rfl) (fun _ _ _ h=>h) (Or.inl ⟨by kernel_rfl,fun W hS=>by go_simp⟩) hHeld ?_;simp only[Act.put,VA,VD,VE];refine wpAnyH_take (i:=29) (v:=.pointer (some ⟨b2,o2+k*8,none⟩)) rfl (by kernel_rfl) (by kernel_rfl) (by kernel_rfl) (fun _ _ _ h=>h) (Or.inl ⟨by kernel_rfl,fun W hS=>by go_simp⟩) hHeld ?_;simp only[Act.put,VA,VD,VE];refine wpAnyH_take (i:=30) (v:=.pointer (some ⟨b2,o2+k*8+6,none⟩)) rfl (by kernel_rfl) (by kernel_rfl) (by kernel_rfl) (fun _ _ _ h=>h) (Or.inl ⟨by kernel_rfl,fun W hS=>by go_simp⟩) hHeld ?_;simp only[Act.put,VA,VD,VE];refine wpAnyH_take (i:=31) (v:=.slice y.pa pl y.pc) rfl (by kernel_rfl) (by kernel_rfl) (by kernel_rfl) (fun _ _ _ h=>h) (Or.inl ⟨by kernel_rfl,fun W hS=>by have y6:=g6 W hS;go_simp⟩) hHeld ?_;simp only[Act.put,VA,VD,VE];refine wpAnyH_take (i:=32) (v:=.pointer (some ⟨wr.heap.size,1,none⟩)) rfl (by kernel_rfl) (by kernel_rfl) (by kernel_rfl) (fun _ _ _ h=>h) (Or.inl ⟨by kernel_rfl,fun W hS=>by go_simp⟩) hHeld ?_;simp only[Act.put,VA,VD,VE];refine wpAnyH_take (i:=33) (v:=.slice x.a nb x.c) rfl (by kernel_rfl) (by kernel_rfl) (by kernel_rfl) (fun _ _ _ h=>h) (Or.inl ⟨by kernel_rfl,fun W hS=>by have y1:=z1 W hS;go_simp⟩) hHeld ?_;simp only[Act.put,VA,VD,VE];refine wpAnyH_ready (rs:= [34]) (by kernel_rfl) (by simp) (AllReadyH.cons rfl (fun K hK=> ?_) AllReadyH.nil);rw[if_pos (by kernel_rfl)];go_simp
          refine(Aa HEQ rfl _ hHeld).mono ?_;rintro e wG ⟨rfl,hwG⟩;obtain rfl:wE=wG:=hwG.symm;dsimp only;refine hK.out _ _ hHeld (fun _=> ?_);clear hK K;refine wpAnyH_take (i:=35) (v:=.bool false) rfl (by kernel_rfl) (by kernel_rfl) (by kernel_rfl) (fun _ _ _ h=>h) (Or.inl ⟨by kernel_rfl,fun W hS=>by go_simp⟩) hHeld ?_;simp only[Act.put,VA,VD,VE];refine wpAnyH_take (i:=36) (v:=.bool false) rfl (by kernel_rfl) (by kernel_rfl) (by kernel_rfl) (fun _ _ _ h=>h) (Or.inl ⟨by kernel_rfl,fun W hS=>by go_simp⟩) hHeld ?_;simp only[Act.put,VA,VD,VE];refine wpAnyH_take (i:=37) (v:=.bool false) rfl (by kernel_rfl) (by kernel_rfl) (by kernel_rfl) (fun _ _ _ h=>h) (Or.inl ⟨by rfl,fun W hS=>by go_simp⟩) hHeld ?_;simp only[Act.put,VA,VD,VE];refine wpAnyH_take (i:=38) (v:=.bool false) rfl (by kernel_rfl) (by kernel_rfl) (by kernel_rfl) (fun _ _ _ h=>h) (Or.inl ⟨by rfl,fun W hS=>by go_simp⟩) hHeld ?_;simp only[Act.put,VA,VD,VE];refine wpAnyH_take (i:=39) (v:=.slice (some ⟨b2,o2,none⟩) n c5) rfl (by kernel_rfl) (by kernel_rfl) (by kernel_rfl) (fun _ _ _ h=>h) (Or.inl ⟨by kernel_rfl,fun W hS=>by go_simp⟩) hHeld ?_;simp only[Act.put,VA,VD,VE];refine wpAnyH_take (i:=40) (v:=.int .i64 (k:Int)) rfl (by kernel_rfl) (by kernel_rfl) (by kernel_rfl) (fun _ _ _ h=>h) (Or.inl ⟨by kernel_rfl,fun W hS=>by go_simp⟩) hHeld ?_;simp only[Act.put,VA,VD,VE];refine wpAnyH_take (i:=41) (v:=.pointer (some ⟨b2,o2+k*8,none⟩)) rfl (by kernel_rfl) (by kernel_rfl) (by kernel_rfl) (fun _ _ _ h=>h) (Or.inl ⟨by kernel_rfl,fun W hS=>by go_simp⟩) hHeld ?_;simp only[Act.put,VA,VD,VE];refine wpAnyH_take (i:=42) (v:=.pointer (some ⟨b2,o2+k*8+5,none⟩)) rfl (by kernel_rfl) (by kernel_rfl) (by kernel_rfl) (fun _ _ _ h=>h) (Or.inl ⟨by kernel_rfl,fun W hS=>by go_simp⟩) hHeld ?_;simp only[Act.put,VA,VD,VE];refine wpAnyH_take (i:=43) (v:=.int .i64 0) rfl (by kernel_rfl) (by kernel_rfl) (by kernel_rfl) (fun _ _ _ h=>h) (Or.inl ⟨by kernel_rfl,fun W hS=>by have y5:W.cell? ⟨b2,o2+k*8+5,none⟩=some (.int .i64 0):=g5 W hS;go_simp⟩) hHeld ?_;simp only[Act.put,VA,VD,VE];refine wpAnyH_take (i:=44) (v:=.bool false) rfl (by kernel_rfl) (by kernel_rfl) (by kernel_rfl) (fun _ _ _ h=>h) (Or.inl ⟨by kernel_rfl,fun W hS=>by go_simp⟩) hHeld ?_;simp only[Act.put,VA,VD,VE];refine wpAnyH_take (i:=45) (v:=.bool false) rfl (by kernel_rfl) (by kernel_rfl) (by kernel_rfl) (fun _ _ _ h=>h) (Or.inl ⟨by kernel_rfl,fun W hS=>by go_simp⟩) hHeld ?_;simp only[Act.put,VA,VD,VE];refine wpAnyH_take (i:=46) (v:=undef) rfl (by kernel_rfl) (by kernel_rfl) (by kernel_rfl) (fun _ _ _ h=>h) (Or.inr ⟨by kernel_rfl,rfl⟩) hHeld ?_;simp only[Act.put,VA,VD,VE];refine wpAnyH_take (i:=47) (v:=undef) rfl (by kernel_rfl) (by kernel_rfl) (by kernel_rfl) (fun _ _ _ h=>h) (Or.inr ⟨by kernel_rfl,rfl⟩) hHeld ?_;simp only[Act.put,VA,VD,VE];refine wpAnyH_take (i:=48) (v:=undef) rfl (by kernel_rfl) (by kernel_rfl) (by kernel_rfl) (fun _ _ _ h=>h) (Or.inr ⟨by kernel_rfl,rfl⟩) hHeld ?_;simp only[Act.put,VA,VD,VE];refine wpAnyH_take (i:=49) (v:=undef) rfl (by kernel_rfl) (by kernel_rfl) (by kernel_rfl) (fun _ _ _ h=>h) (Or.inr ⟨by kernel_rfl,rfl⟩) hHeld ?_
          simp only[Act.put,VA,VD,VE];refine wpAnyH_take (i:=50) (v:=undef) rfl (by kernel_rfl) (by kernel_rfl) (by kernel_rfl) (fun _ _ _ h=>h) (Or.inr ⟨by kernel_rfl,rfl⟩) hHeld ?_;simp only[Act.put,VA,VD,VE];refine wpAnyH_take (i:=51) (v:=undef) rfl (by kernel_rfl) (by kernel_rfl) (by kernel_rfl) (fun _ _ _ h=>h) (Or.inr ⟨by kernel_rfl,rfl⟩) hHeld ?_;simp only[Act.put,VA,VD,VE];refine wpAnyH_take (i:=52) (v:=undef) rfl (by kernel_rfl) (by kernel_rfl) (by kernel_rfl) (fun _ _ _ h=>h) (Or.inr ⟨by kernel_rfl,rfl⟩) hHeld ?_;simp only[Act.put,VA,VD,VE];refine wpAnyH_take (i:=53) (v:=undef) rfl (by kernel_rfl) (by kernel_rfl) (by kernel_rfl) (fun _ _ _ h=>h) (Or.inr ⟨by kernel_rfl,rfl⟩) hHeld ?_;simp only[Act.put,VA,VD,VE];refine wpAnyH_take (i:=54) (v:=undef) rfl (by kernel_rfl) (by kernel_rfl) (by kernel_rfl) (fun _ _ _ h=>h) (Or.inr ⟨by kernel_rfl,rfl⟩) hHeld ?_;simp only[Act.put,VA,VD,VE];refine wpAnyH_take (i:=55) (v:=undef) rfl (by kernel_rfl) (by kernel_rfl) (by kernel_rfl) (fun _ _ _ h=>h) (Or.inr ⟨by kernel_rfl,rfl⟩) hHeld ?_;simp only[Act.put,VA,VD,VE];refine wpAnyH_ready (rs:= [56]) (by kernel_rfl) (by simp) (AllReadyH.cons rfl (fun K hK=> ?_) AllReadyH.nil);rw[if_pos (by kernel_rfl)];go_simp
          refine hK.out _ _ hHeld (fun _=> ?_);clear hK K;refine wpAnyH_ready (rs:= [57]) (by kernel_rfl) (by simp) (AllReadyH.cons rfl (fun K hK=> ?_) AllReadyH.nil);go_simp
          refine hK.out _ _ hHeld (fun _=> ?_);clear hK K;refine wpAnyH_done (by kernel_rfl) ?_ _;have HZ1:=Ab (Jg (Aa HBWA) hHeld);have HZ2:=Ab (Jg (Aa HB4A) hHeld);clear g0 g1 g2 g3 g4 g5 g6 g7 z0 z1 z2 z3 z4 HSF HCR HEQ hHeld;go_wp2;go_roundw
          case rel=>exact⟨k+1,by omega,by go_num,HZ1,HZ2⟩
          case measure=>simp[intOf];omega
        . skip
          refine wpAnyH_take (i:=25) (v:=.bool false) rfl (by kernel_rfl) (by kernel_rfl) (by kernel_rfl) (fun _ _ _ h=>h) (Or.inl ⟨by kernel_rfl,fun W hS=>by go_simp⟩) hHeld ?_;simp only[Act.put,VA,VD,VE];refine wpAnyH_take (i:=26) (v:=.bool false) rfl (by kernel_rfl) (by kernel_rfl) (by kernel_rfl) (fun _ _ _ h=>h) (Or.inl ⟨by kernel_rfl,fun W hS=>by go_simp⟩) hHeld ?_;simp only[Act.put,VA,VD,VE];refine wpAnyH_take (i:=27) (v:=undef) rfl (by kernel_rfl) (by kernel_rfl) (by kernel_rfl) (fun _ _ _ h=>h) (Or.inr ⟨by kernel_rfl,rfl⟩) hHeld ?_;simp only[Act.put,VA,VD,VE];refine wpAnyH_take (i:=28) (v:=undef) rfl (by kernel_rfl) (by kernel_rfl) (by kernel_rfl) (fun _ _ _ h=>h) (Or.inr ⟨by kernel_rfl,rfl⟩) hHeld ?_;simp only[Act.put,VA,VD,VE];refine wpAnyH_take (i:=29) (v:=undef) rfl (by kernel_rfl) (by kernel_rfl) (by kernel_rfl) (fun _ _ _ h=>h) (Or.inr ⟨by kernel_rfl,rfl⟩) hHeld ?_;simp only[Act.put,VA,VD,VE];refine wpAnyH_take (i:=30) (v:=undef) rfl (by kernel_rfl) (by kernel_rfl) (by kernel_rfl) (fun _ _ _ h=>h) (Or.inr ⟨by kernel_rfl,rfl⟩) hHeld ?_;simp only[Act.put,VA,VD,VE];refine wpAnyH_take (i:=31) (v:=undef) rfl (by kernel_rfl) (by kernel_rfl) (by kernel_rfl) (fun _ _ _ h=>h) (Or.inr ⟨by kernel_rfl,rfl⟩) hHeld ?_;simp only[Act.put,VA,VD,VE];refine wpAnyH_take (i:=32) (v:=undef) rfl (by kernel_rfl) (by kernel_rfl) (by kernel_rfl) (fun _ _ _ h=>h) (Or.inr ⟨by kernel_rfl,rfl⟩) hHeld ?_;simp only[Act.put,VA,VD,VE];refine wpAnyH_take (i:=33) (v:=undef) rfl (by kernel_rfl) (by kernel_rfl) (by kernel_rfl) (fun _ _ _ h=>h) (Or.inr ⟨by kernel_rfl,rfl⟩) hHeld ?_;simp only[Act.put,VA,VD,VE];refine wpAnyH_take (i:=34) (v:=undef) rfl (by kernel_rfl) (by kernel_rfl) (by kernel_rfl) (fun _ _ _ h=>h) (Or.inr ⟨by kernel_rfl,rfl⟩) hHeld ?_;simp only[Act.put,VA,VD,VE];refine wpAnyH_take (i:=35) (v:=undef) rfl (by kernel_rfl) (by kernel_rfl) (by kernel_rfl) (fun _ _ _ h=>h) (Or.inr ⟨by kernel_rfl,rfl⟩) hHeld ?_;simp only[Act.put,VA,VD,VE];refine wpAnyH_take (i:=36) (v:=.bool false) rfl (by kernel_rfl) (by kernel_rfl) (by kernel_rfl) (fun _ _ _ h=>h) (Or.inl ⟨by kernel_rfl,fun W hS=>by go_simp⟩) hHeld ?_;simp only[Act.put,VA,VD,VE];refine wpAnyH_take (i:=37) (v:=.bool false) rfl (by kernel_rfl) (by kernel_rfl) (by kernel_rfl) (fun _ _ _ h=>h) (Or.inl ⟨by rfl,fun W hS=>by go_simp⟩) hHeld ?_;simp only[Act.put,VA,VD,VE];refine wpAnyH_take (i:=38) (v:=.bool false) rfl (by kernel_rfl) (by kernel_rfl) (by kernel_rfl) (fun _ _ _ h=>h) (Or.inl ⟨by rfl,fun W hS=>by go_simp⟩) hHeld ?_;simp only[Act.put,VA,VD,VE];refine wpAnyH_take (i:=39) (v:=.slice (some ⟨b2,o2,none⟩) n c5) rfl (by kernel_rfl) (by kernel_rfl) (by kernel_rfl) (fun _ _ _ h=>h) (Or.inl ⟨by kernel_rfl,fun W hS=>by go_simp⟩) hHeld ?_;simp only[Act.put,VA,VD,VE];refine wpAnyH_take (i:=40) (v:=.int .i64 (k:Int)) rfl (by kernel_rfl) (by kernel_rfl) (by kernel_rfl) (fun _ _ _ h=>h) (Or.inl ⟨by kernel_rfl,fun W hS=>by go_simp⟩) hHeld ?_;simp only[Act.put,VA,VD,VE];refine wpAnyH_take (i:=41) (v:=.pointer (some ⟨b2,o2+k*8,none⟩)) rfl (by kernel_rfl) (by kernel_rfl) (by kernel_rfl) (fun _ _ _ h=>h) (Or.inl ⟨by kernel_rfl,fun W hS=>by go_simp⟩) hHeld ?_
          simp only[Act.put,VA,VD,VE];refine wpAnyH_take (i:=42) (v:=.pointer (some ⟨b2,o2+k*8+5,none⟩)) rfl (by kernel_rfl) (by kernel_rfl) (by kernel_rfl) (fun _ _ _ h=>h) (Or.inl ⟨by kernel_rfl,fun W hS=>by go_simp⟩) hHeld ?_;simp only[Act.put,VA,VD,VE];refine wpAnyH_take (i:=43) (v:=.int .i64 8) rfl (by kernel_rfl) (by kernel_rfl) (by kernel_rfl) (fun _ _ _ h=>h) (Or.inl ⟨by kernel_rfl,fun W hS=>by have y5:W.cell? ⟨b2,o2+k*8+5,none⟩=some (.int .i64 8):=g5 W hS;go_simp⟩) hHeld ?_;simp only[Act.put,VA,VD,VE];refine wpAnyH_take (i:=44) (v:=.bool true) rfl (by kernel_rfl) (by kernel_rfl) (by kernel_rfl) (fun _ _ _ h=>h) (Or.inl ⟨by kernel_rfl,fun W hS=>by go_simp⟩) hHeld ?_;simp only[Act.put,VA,VD,VE];refine wpAnyH_take (i:=45) (v:=.bool true) rfl (by kernel_rfl) (by kernel_rfl) (by kernel_rfl) (fun _ _ _ h=>h) (Or.inl ⟨by kernel_rfl,fun W hS=>by go_simp⟩) hHeld ?_;simp only[Act.put,VA,VD,VE];refine wpAnyH_take (i:=46) (v:=.slice (some ⟨b2,o2,none⟩) n c5) rfl (by kernel_rfl) (by kernel_rfl) (by kernel_rfl) (fun _ _ _ h=>h) (Or.inl ⟨by kernel_rfl,fun W hS=>by go_simp⟩) hHeld ?_;simp only[Act.put,VA,VD,VE];refine wpAnyH_take (i:=47) (v:=.int .i64 (k:Int)) rfl (by kernel_rfl) (by kernel_rfl) (by kernel_rfl) (fun _ _ _ h=>h) (Or.inl ⟨by kernel_rfl,fun W hS=>by go_simp⟩) hHeld ?_;simp only[Act.put,VA,VD,VE];refine wpAnyH_take (i:=48) (v:=.pointer (some ⟨b2,o2+k*8,none⟩)) rfl (by kernel_rfl) (by kernel_rfl) (by kernel_rfl) (fun _ _ _ h=>h) (Or.inl ⟨by kernel_rfl,fun W hS=>by go_simp⟩) hHeld ?_;simp only[Act.put,VA,VD,VE];refine wpAnyH_take (i:=49) (v:=.pointer (some ⟨b2,o2+k*8+6,none⟩)) rfl (by kernel_rfl) (by kernel_rfl) (by kernel_rfl) (fun _ _ _ h=>h) (Or.inl ⟨by kernel_rfl,fun W hS=>by go_simp⟩) hHeld ?_;simp only[Act.put,VA,VD,VE];refine wpAnyH_take (i:=50) (v:=.slice y.pa pl y.pc) rfl (by kernel_rfl) (by kernel_rfl) (by kernel_rfl) (fun _ _ _ h=>h) (Or.inl ⟨by kernel_rfl,fun W hS=>by have y6:=g6 W hS;go_simp⟩) hHeld ?_;simp only[Act.put,VA,VD,VE];refine wpAnyH_take (i:=51) (v:=.int .i64 (pl:Int)) rfl (by kernel_rfl) (by kernel_rfl) (by kernel_rfl) (fun _ _ _ h=>h) (Or.inl ⟨by kernel_rfl,fun W hS=>by go_simp⟩) hHeld ?_;simp only[Act.put,VA,VD,VE];refine wpAnyH_take (i:=52) (v:=.pointer (some ⟨wr.heap.size,1,none⟩)) rfl (by kernel_rfl) (by kernel_rfl) (by kernel_rfl) (fun _ _ _ h=>h) (Or.inl ⟨by kernel_rfl,fun W hS=>by go_simp⟩) hHeld ?_;simp only[Act.put,VA,VD,VE];refine wpAnyH_take (i:=53) (v:=.slice x.a nb x.c) rfl (by kernel_rfl) (by kernel_rfl) (by kernel_rfl) (fun _ _ _ h=>h) (Or.inl ⟨by kernel_rfl,fun W hS=>by have y1:=z1 W hS;go_simp⟩) hHeld ?_;simp only[Act.put,VA,VD,VE];refine wpAnyH_take (i:=54) (v:=.int .i64 (nb:Int)) rfl (by kernel_rfl) (by kernel_rfl) (by kernel_rfl) (fun _ _ _ h=>h) (Or.inl ⟨by kernel_rfl,fun W hS=>by go_simp⟩) hHeld ?_;simp only[Act.put,VA,VD,VE];refine wpAnyH_take (i:=55) (v:=.bool false) rfl (by kernel_rfl) (by kernel_rfl) (by kernel_rfl) (fun _ _ _ h=>h) (Or.inl ⟨by kernel_rfl,fun W hS=>by have hpnI:¬(nb:Int)<=(pl:Int):=(by omega);go_simp⟩) hHeld ?_
          simp only[Act.put,VA,VD,VE];refine wpAnyH_ready (rs:= [56]) (by kernel_rfl) (by simp) (AllReadyH.cons rfl (fun K hK=> ?_) AllReadyH.nil);rw[if_pos (by kernel_rfl)];go_simp
          refine hK.out _ _ hHeld (fun _=> ?_);clear hK K;refine wpAnyH_ready (rs:= [57]) (by kernel_rfl) (by simp) (AllReadyH.cons rfl (fun K hK=> ?_) AllReadyH.nil);go_simp
          refine hK.out _ _ hHeld (fun _=> ?_);clear hK K;refine wpAnyH_done (by kernel_rfl) ?_ _;have HZ1:=Ab (Jg (Aa HBWA) hHeld);have HZ2:=Ab (Jg (Aa HB4A) hHeld);clear g0 g1 g2 g3 g4 g5 g6 g7 z0 z1 z2 z3 z4 HSF HCR HEQ hHeld;go_wp2;go_roundw
          case rel=>exact⟨k+1,by omega,by go_num,HZ1,HZ2⟩
          case measure=>simp[intOf];omega
      . obtain rfl:n=k:=by omega
        go_wp2;go_ret;exact⟨rfl,Aa HB⟩
end Go.Proofs.YtleocpdblhbimaaGreatDoor
