import Derived.Deep.RegionHeld3
import Derived.Test.YtleocpdblhbimaaGreatDoorQ15
import Derived.Shelf.Strings.Split
set_option linter.unusedSimpArgs false
set_option maxHeartbeats 8000000
namespace Go.Proofs.YtleocpdblhbimaaGreatDoor
open Go.RowKit
set_option linter.unusedVariables false
set_option maxRecDepth 100000
theorem Ck {a w:World}(h:Below a.heap.size a w)(o:Obj):Below a.heap.size a (w.alloc o):=h.alloc h.size o
theorem Ea {B:Nat}{a w:World}(h:Below B a w):Below B a w.drew:=Ae h 1
theorem Sw {W:World}{p:Addr}{v:Value}{o:Obj}(h:W.cell? p=some v):(W.alloc o).cell? p=some v:=(World.cell?_alloc_some W p o (by rw[h];rfl)).trans h
theorem A6 {l:List En}{k:Nat}{x:En}(h:l[k]? =some x):sumsF (l.drop k)=(decide (x.crc=crcN 0 (n8 x.f.bytes))&&sumsF (l.drop (k+1))):=by
 obtain⟨hk,e⟩:=XT.1 h;rw[WS hk,e];rfl
theorem A7 (ad:Option Addr)(c n:Nat)(es:List Ev)(w:World)(h:EsIn w ad c es)(hl:es.length=n)(hn:n<=20000)(hb:∀x∈es,x.e.f.bytes.length<=12000)(S:Bool)(hS:sumsF (es.map Ev.e)=S):
 Calls Tryz.prog 43 #[.slice ad n c] w fun e w'=>e=.returned (.bool S)/\Below w.heap.size w w':=by
 have HI:=Ab h;have HL:=Ab hl;have HBY:=Ab hb;have HS:=Ab hS;clear h hl hb hS;go_enter Tryz.func43,Tryz.ntmps43
 go_wp2;go_loopw [4,7] (fun _ i wr=>∃k:Nat,k<=n/\i=.int .i64 (k:Int)/\Hid (sumsF ((es.map Ev.e).drop k)=S)/\Hid (Below w.heap.size w wr)) (fun _ i _=>n-(intOf i).toNat)
 case atStart=>exact⟨0,VH _,rfl,Ab (Aa HS),Ab (Below.refl _ _)⟩
 case round=>
  obtain⟨k,hk,rfl,HT,HB⟩:=hrel
  by_cases hlt:k<n
  . obtain⟨x,hx,hxm⟩:∃x,es[k]? =some x/\x∈es:=⟨es[k]'(by rw[Aa HL];exact hlt),VP _,WK _⟩
    obtain⟨b,o,rfl,hb,c0,c1,c2,c3,c4,c5,c6,c7⟩:=(Aa HI).get (Aa HB) hx;have hz:=(Aa HB).size;have hxi:=(Aa HI).all x hxm;have hst:=A6 (l:=es.map Ev.e) (k:=k) (x:=x.e) (by simp[hx]);rw[Aa HT]at hst;have hcr:=fun(W:World) (hW:Below w.heap.size w W)=>AQ x.fa x.e.f.bytes.length x.fc (n8 x.e.f.bytes) W (Da _) (Aa HBY x hxm) (hxi.below hW).fb.1 (Er (Lv _))
    obtain⟨x,fa,fc,pa,pc⟩:=x;obtain⟨⟨nml,bys,st,nd,gn⟩,mt,pk,cr⟩:=x;dsimp only at c0 c1 c2 c3 c4 c5 c6 c7 hst hcr;obtain⟨m,hm⟩:∃m,crcN 0 (n8 bys)=m:=⟨_,rfl⟩
    rw[hm]at hst hcr;generalize B nml=nm at c0;generalize bys.length=bl at c1 hcr;generalize pk.length=pl at c6;obtain⟨w1,hw1⟩:∃w1,wr.alloc (.cells #[.string nm,.slice fa bl fc,.int .i64 st,.int .i64 nd,.bool gn,.int .u32 (mt:Int),.slice pa pl pc,.int .u32 (cr:Int)] 71)=w1:=⟨_,rfl⟩
    have hX:w1.heap[wr.heap.size]? =some (.cells #[.string nm,.slice fa bl fc,.int .i64 st,.int .i64 nd,.bool gn,.int .u32 (mt:Int),.slice pa pl pc,.int .u32 (cr:Int)] 71 (0,0)):=by rw[<-hw1];exact heap_alloc_new _ _
    have hB1:Below w.heap.size w w1:=by rw[<-hw1];exact(Aa HB).alloc hz _
    have hlt1:wr.heap.size<w1.heap.size:=(VK.1 hX).1;have e1:=Ac (i:=1) hX;have e7:=Ac (i:=7) hX;simp only[VZ,VY,WI]at e1 e7;have k1:∀W:World,Below w1.heap.size w1 W->W.cell? ⟨wr.heap.size,1,none⟩=some (.slice fa bl fc):=fun W hW=>(hW.cell (p:=⟨wr.heap.size,1,none⟩) hlt1).trans e1
    have k7:∀W:World,Below w1.heap.size w1 W->W.cell? ⟨wr.heap.size,7,none⟩=some (.int .u32 (cr:Int)):=fun W hW=>(hW.cell (p:=⟨wr.heap.size,7,none⟩) hlt1).trans e7
    have HCR:=Ab (fun(W:World) (hW:Below w1.heap.size w1 W)=>hcr W (hB1.trans (hW.mono (by omega))));have HW1:=Ab hw1;have HB1:=Ab hB1;have hz1:=hB1.size;clear hx hxm hxi hcr hm hw1 hX hB1 e1 e7
    by_cases hc:cr=m
    . subst hc;rw[decide_eq_true rfl,ZF]at hst;have HST:=Ab hst;clear hst;go_wp2;rw[Aa HW1];go_region_held3 (fun W=>Below w1.heap.size w1 W) (first|exact Ea (Below.refl _ _)|exact hb6) ((go_at_call 53;refine(Aa HCR _ (Ea (Below.refl _ _))).mono ?_;rintro e w5 ⟨rfl,hb5⟩;have hb6:Below w1.heap.size w1 w5:=(Ea (Below.refl _ _)).trans hb5;clear hb5))
      clear k1 k7 c0 c1 c2 c3 c4 c5 c6 c7;have HB6:=Ab hb6;clear hb6;go_wp2;go_roundw
      case rel=>exact⟨k+1,by omega,by go_num,Ab (Aa HST).symm,Ab ((Aa HB1).trans ((Aa HB6).mono hz1))⟩
      case measure=>simp[intOf];omega
    . rw[decide_eq_false hc,Bool.false_and]at hst;subst hst;have hcb:((cr:Int)==(m:Int))=false:=by rw[beq_eq_false_iff_ne];omega
      have hci:¬(cr:Int)=(m:Int):=by omega
      go_wp2;rw[Aa HW1];go_region_held3 (fun W=>Below w1.heap.size w1 W) (first|exact Ea (Below.refl _ _)|exact hb6) ((go_at_call 53;refine(Aa HCR _ (Ea (Below.refl _ _))).mono ?_;rintro e w5 ⟨rfl,hb5⟩;have hb6:Below w1.heap.size w1 w5:=(Ea (Below.refl _ _)).trans hb5;clear hb5))
      clear k1 k7 c0 c1 c2 c3 c4 c5 c6 c7;have HB6:=Ab hb6;clear hb6;go_wp2;go_ret;exact⟨rfl,(Aa HB1).trans ((Aa HB6).mono hz1)⟩
  . obtain rfl:n=k:=by omega
    have hta:(es.map Ev.e).drop n= []:=XQ (by simp[Aa HL]);have hst:=Aa HT;rw[hta]at hst;have hSt:S=true:=hst.symm;subst hSt;clear hta hst;go_wp2;go_ret;exact⟨rfl,Aa HB⟩
theorem Sz (ad:Option Addr)(c n:Nat)(es:List Ev)(w:World)(h:EsIn w ad c es)(hl:es.length=n)(hn:n<=12)(hE:∀x∈es,ENum x.e):
 Calls Tryz.prog 36 #[.slice ad n c] w fun e w'=>∃v,e=.returned v/\w'.ownsRow (w.heap.size+1) 5 1 v (Be (es.map Ev.e)).length (u8s (Be (es.map Ev.e)))/\Below w.heap.size w w':=by
 obtain⟨i0,hi,hz0,hz1,hz2⟩:=info_parts OI;obtain⟨l,hle⟩:∃l,es.map Ev.e=l:=⟨_,rfl⟩
 have hll:l.length=n:=by rw[<-hle];simpa using hl
 have hEl:∀x∈l,ENum x:=by
  rw[<-hle];intro x hx;obtain⟨y,hy,rfl⟩:=XG.1 hx;exact hE y hy
 have hbnd:∀k,(Av (l.take k)).length<=12081*12:=fun k=>by
  have h1:=OU (l.take k) (fun x hx=>hEl x (VR hx));have h2:(l.take k).length<=12:=by rw[VL];omega
  omega
 have hbnd2:∀k,(Ao 0 (l.take k)).length<=97*12:=fun k=>by
  have h1:=BH (l.take k) 0 (fun x hx=>hEl x (VR hx));have h2:(l.take k).length<=12:=by rw[VL];omega
  omega
 rw[hle];have HG:∀(k:Nat) (x:Ev),es[k]? =some x->l[k]? =some x.e:=fun k x hk=>by rw[<-hle];simp[hk]
 have HS0:Hid (AS w w.heap.size w.heap.size (Av (l.take 0)) (.slice none 0 0) (Tl 0 (l.take 0)) (w.alloc (.cells #[.slice none 0 0] 101))):=Ab (by
  refine⟨⟨.slice none 0 0,VB _,heap_alloc_new w _,World.ownsRow_nil _ _ _ _⟩,World.ownsRow_nil _ _ _ _,(Below.refl _ _).alloc (VB _) _⟩)
 have HI:=Ab h;have HBN:=Ab hbnd;have HBN2:=Ab hbnd2;have HEE:=Ab hE;have HLL:=Ab hll;have HL:=Ab hl;have HGG:=Ab HG;clear h hbnd hbnd2 hE hll hl HG hEl hle;go_enter Tryz.func36,Tryz.ntmps36
 go_wp2;go_loopw [4,6,14] (fun v4 _ i wr=>∃k:Nat,k<=n/\i=.int .i64 (k:Int)/\Hid (AS w w.heap.size w.heap.size (Av (l.take k)) v4 (Tl 0 (l.take k)) wr)) (fun _ _ i _=>n-(intOf i).toNat)
 case atStart=>exact⟨0,VH _,rfl,HS0⟩
 case round=>
  obtain⟨k,hk,rfl,HA⟩:=hrel
  by_cases hlt:k<n
  . obtain⟨x,hx,hxm⟩:∃x,es[k]? =some x/\x∈es:=⟨es[k]'(by rw[Aa HL];exact hlt),VP _,WK _⟩
    obtain⟨b,o,rfl,hb,c0,c1,c2,c3,c4,c5,c6,c7⟩:=(Aa HI).get (Aa HA).below hx;have hgl:=Aa HGG k x hx;have HIN:=Ab ((Aa HI).all x hxm);have hnum:=Aa HEE x hxm
    have HF:=Ab (fun(W:World) (hA:∃v ps,AS w w.heap.size w.heap.size (Av (l.take k)) v ps W)=>SI w.heap.size w.heap.size x (Av (l.take k)) W (by obtain⟨v,ps,hA⟩:=hA;exact hA.z) hnum (by
     obtain⟨v,ps,hA⟩:=hA;exact(Aa HIN).pk.below hA.below) (fun g o' e1 e2=>Xm (Aa HIN).pk g o' e1 e2) (by have:=Aa HBN k;omega))
    unfold Ev.val at HF;have HTK:=Ab (Eu hgl);obtain⟨x,fa,fc,pa,pc⟩:=x;obtain⟨⟨nml,bys,st,nd,gn⟩,mt,pk,cr⟩:=x;dsimp only at c0 c1 c2 c3 c4 c5 c6 c7 HF;generalize B nml=nm at c0 HF;generalize bys.length=bl at c1 HF;generalize pk.length=pl at c6 HF;clear hx hxm hgl hnum;obtain⟨ov,hC⟩:=(Aa HA).z;obtain⟨d0,g0⟩:=hC.new;obtain⟨oa,oc,rfl⟩:=An hC.own;have hlb:=Aa HBN k;obtain⟨L,hL⟩:∃L,(Av (l.take k)).length=L:=⟨_,rfl⟩
    rw[hL]at d0 hlb;have HLE:=Ab hL;have hbl:=hC.lt;have d0':∀o1:Obj,(wr.alloc o1).cell? ⟨w.heap.size,0,none⟩=some (.slice oa L oc):=fun o1=>(World.cell?_alloc_lt wr o1 _ hbl).trans d0
    have HA1:=Ab (fun o1 o2:Obj=>((Aa HA).later ((Below.refl _ _).alloc (VB _) o1)).later ((Below.refl _ _).alloc (VB _) o2));have hpl2:(Tl 0 (l.take k)).length=k:=by rw[V4,VL,Aa HLL];omega
    have HPL:=Ab hpl2;have HO:=Ab (fun o1 o2:Obj=>(Aa HA1 o1 o2).p);rw[hpl2]at HO;clear hC hL hpl2;go_wp2_with (at_builtin;refine wpList_append_own_at _ rfl _ _ 76 rfl (w.heap.size+1) 3 i0 (.int .i64 0) 1 8 Tryz.underlying76 hi hz0 hz1 hz2 rfl (by decide) _ k (i64s (Tl 0 (l.take k))) rfl (Aa HO _ _) ⟨wr.heap.size+1,0,none⟩ 1 1 [.int .i64 (L:Int)] rfl rfl (fun j u hj=>Lu (Jo (by simp)) hj) (Bc rfl) (by unfold maxLen;omega) (by omega) (by simp;omega) ?_)
    intro v' w3 hO3 hg3 _ _
    have hX:w3.heap[wr.heap.size]? =some (.cells #[.string nm,.slice fa bl fc,.int .i64 st,.int .i64 nd,.bool gn,.int .u32 (mt:Int),.slice pa pl pc,.int .u32 (cr:Int)] 71 (0,0)):=by
     refine(hg3.block _ (by simp;omega) (fun e=> ?_)).trans ((heap_alloc_old _ _ (by simp)).trans (heap_alloc_new wr _));have:=((Aa HA).p.lt _ e.symm).2
     omega
    have HA3:=Ab ((Aa HA1 _ _).app hg3 (by rw[Aa HPL];exact hO3));have e0:=Ac (i:=0) hX;have e1:=Ac (i:=1) hX;have e2:=Ac (i:=2) hX;have e3:=Ac (i:=3) hX;have e4:=Ac (i:=4) hX;have e5:=Ac (i:=5) hX;have e6:=Ac (i:=6) hX;have e7:=Ac (i:=7) hX;simp only[VZ,VY,WI]at e0 e1 e2 e3 e4 e5 e6 e7;clear hO3 hg3 hX c0 c1 c2 c3 c4 c5 c6 c7 d0 g0 d0' HO;go_wp2_with fail
    refine(Aa HF w3 ⟨_,_,Aa HA3⟩).mono ?_;rintro e w4 ⟨rfl,hU⟩
    have HA4:Hid (AS w w.heap.size w.heap.size (Av (l.take (k+1))) v' (Tl 0 (l.take (k+1))) w4):=Ab (by
     rw[Aa HTK,J3,BQ,WG,Aa HLE];exact(Aa HA3).up hU)
    clear hU e0 e1 e2 e3 e4 e5 e6 e7;go_wp2;go_roundw
    case rel=>exact⟨k+1,by omega,by go_num,HA4⟩
    case measure=>simp[intOf];omega
  . obtain rfl:n=k:=by omega
    have hta:l.take n=l:=VV (by rw[Aa HLL];exact VB _);rw[hta]at HA;have HTA:=Ab hta;clear hta;obtain⟨ov,hC⟩:=(Aa HA).z;obtain⟨d0,g0⟩:=hC.new;obtain⟨oa,oc,rfl⟩:=An hC.own;have hlb:=Aa HBN n;rw[Aa HTA]at hlb;obtain⟨L,hL⟩:∃L,(Av l).length=L:=⟨_,rfl⟩
    rw[hL]at d0 hlb;have HLE:=Ab hL;clear hC hL;go_wp2;go_loopw [8,9,37] (fun _ _ i wr=>∃k:Nat,k<=n/\i=.int .i64 (k:Int)/\Hid (AS w w.heap.size w.heap.size (Av l++Ao 0 (l.take k)) u4 (Tl 0 l) wr)) (fun _ _ i _=>n-(intOf i).toNat)
    case atStart=>exact⟨0,VH _,rfl,Ab (by simpa[Ao]using Aa HA)⟩
    case round=>
     clear d0 g0 HA hlt;obtain⟨k,hk,rfl,HA⟩:=hrel
     by_cases hlt:k<n
     . obtain⟨x,hx,hxm⟩:∃x,es[k]? =some x/\x∈es:=⟨es[k]'(by rw[Aa HL];exact hlt),VP _,WK _⟩
       obtain⟨b,o,rfl,hb,c0,c1,c2,c3,c4,c5,c6,c7⟩:=(Aa HI).get (Aa HA).below hx;have hgl:=Aa HGG k x hx;have HIN:=Ab ((Aa HI).all x hxm);have hnum:=Aa HEE x hxm;obtain⟨P,hP⟩:∃P,(Av (l.take k)).length=P:=⟨_,rfl⟩
       have hPb:=Aa HBN k;rw[hP]at hPb;have HPE:=Ab hP;have HF:=Ab (fun(W:World) (hA:AS w w.heap.size w.heap.size (Av l++Ao 0 (l.take k)) u4 (Tl 0 l) W)=>SH w.heap.size w.heap.size P x (Av l++Ao 0 (l.take k)) W hA.z hnum (by omega) (by rw[VE];have h1:=Aa HBN n;have h2:=Aa HBN2 k;rw[VV (by rw[Aa HLL];exact VB _)]at h1;omega));unfold Ev.val at HF;have HTK:=Ab (Eu hgl);obtain⟨x,fa,fc,pa,pc⟩:=x;obtain⟨⟨nml,bys,st,nd,gn⟩,mt,pk,cr⟩:=x;dsimp only at c0 c1 c2 c3 c4 c5 c6 c7 HF;generalize B nml=nm at c0 HF;generalize bys.length=bl at c1 HF;generalize pk.length=pl at c6 HF;clear hx hxm hgl hnum;have hplen:(Tl 0 l).length=n:=by rw[V4,Aa HLL]
       have hown:=(Aa HA).p;rw[hplen]at hown;obtain⟨pg,pcap,hu4,hpg1,hpg2⟩:=Ba hown (by omega);subst hu4
       have hpk:wr.cell? ⟨pg,k,none⟩=some (.int .i64 (P:Int)):=by
        rw[hown.cellAt k (by omega),<-Aa HPE];have:=Z2j l 0 k (by rw[Aa HLL];exact hlt)
        rw[WG]at this;have hk2:k<(Tl 0 l).length:=by omega
        simp[List.getD,hk2]at this
        simp[i64s,hk2,this]
       have hpk':∀o1:Obj,(wr.alloc o1).cell? ⟨pg,k,none⟩=some (.int .i64 (P:Int)):=fun o1=>(World.cell?_alloc_lt wr o1 _ hpg2).trans hpk
       have HA1:=Ab (fun o1:Obj=>(Aa HA).later ((Below.refl _ _).alloc (VB _) o1));clear hown hplen hpg1;go_wp2;go_region_with (go_at_call 56;refine(Aa HF _ ((Aa HA1 _).later (Ae (Below.refl _ _) _))).mono ?_;rintro e w4 ⟨rfl,hU⟩)
       all_goals
        have HA4:Hid (AS w w.heap.size w.heap.size (Av l++Ao 0 (l.take (k+1))) (.slice (some ⟨pg,0,none⟩) n pcap) (Tl 0 l) w4):=Ab (by
         rw[Aa HTK,Uq,Aa HPE,<-VS];exact((Aa HA1 _).later (Ae (Below.refl _ _) _)).up hU)
        clear hU c0 c1 c2 c3 c4 c5 c6 c7 hpk hpk';go_wp2;go_roundw
        case rel=>exact⟨k+1,by omega,by go_num,HA4⟩
        case measure=>simp[intOf];omega
     . obtain rfl:n=k:=by omega
       rw[Aa HTA]at HA;have hb2:=Aa HBN2 n;rw[Aa HTA]at hb2;obtain⟨ov,hC⟩:=(Aa HA).z;obtain⟨d0,g0⟩:=hC.new;obtain⟨oa2,oc2,rfl⟩:=An hC.own;obtain⟨T,hT⟩:∃T,(Ao 0 l).length=T:=⟨_,rfl⟩
       have hLT:(Av l++Ao 0 l).length=L+T:=by rw[VE,Aa HLE,hT]
       rw[hLT]at d0;rw[hT]at hb2;have HTE:=Ab hT;have hsub:((L:Int)+(T:Int)-(L:Int))=(T:Int):=by omega
       have HEND:Hid (Calls Tryz.prog 57 #[.pointer (some ⟨w.heap.size,0,none⟩),.int .i64 (n:Int),.int .i64 ((L:Int)+(T:Int)-(L:Int)),.int .i64 (L:Int)] wr fun e w'=>e=.returned (.tuple #[])/\ZUp w.heap.size wr w.heap.size (Av l++Ao 0 l++Pm n T L) w'):=Ab (by
        rw[hsub];exact SL w.heap.size w.heap.size n T L (Av l++Ao 0 l) wr (Aa HA).z (by omega) (by omega) (by omega) (by rw[hLT];omega))
       clear hC hT hLT hsub;go_wp2_with fail
       refine(Aa HEND).mono ?_;rintro e w5 ⟨rfl,hU⟩;have hA5:=(Aa HA).up hU;obtain⟨ov,hC⟩:=hA5.z;have har:Be l=Av l++Ao 0 l++Pm n T L:=by unfold Be;rw[Aa HLL,Aa HTE,Aa HLE]
       have HAR:=Ab har;clear d0 g0 hU har;obtain⟨d0,g0⟩:=hC.new;have HFIN:=Ab (And.intro hC.own hA5.below);clear hC hA5;go_wp2;go_ret;exact⟨_,rfl,by rw[Aa HAR];exact(Aa HFIN).1,(Aa HFIN).2⟩
def spn:List (Nat×Nat):= [(97,122),(65,90),(48,57),(46,46),(95,95),(45,45)]
def Ng (c:Nat)(p:Nat×Nat):Bool:=decide (p.1<=c)&&decide (c<=p.2)
theorem NB:∀c:UInt8,okB c=spn.any (Ng c.toNat):=by
 have h:∀n:Fin 256,okB (UInt8.ofNat n.val)=spn.any (Ng n.val):=by decide+kernel
 intro c;have:=h ⟨c.toNat,c.toNat_lt⟩
 simpa using this
theorem Z8a (W:World):(Instr.index 289 (.agg #[.int .u8 97,.int .u8 122,.int .u8 65,.int .u8 90,.int .u8 48,.int .u8 57,.int .u8 46,.int .u8 46,.int .u8 95,.int .u8 95,.int .u8 45,.int .u8 45]) (.int .i64 0)).run Tryz.prog W=.ok (.agg #[.int .u8 97,.int .u8 122]) W:=by kernel_rfl
theorem Z89 (W:World):(Instr.index 289 (.agg #[.int .u8 97,.int .u8 122,.int .u8 65,.int .u8 90,.int .u8 48,.int .u8 57,.int .u8 46,.int .u8 46,.int .u8 95,.int .u8 95,.int .u8 45,.int .u8 45]) (.int .i64 1)).run Tryz.prog W=.ok (.agg #[.int .u8 65,.int .u8 90]) W:=by kernel_rfl
theorem Z88 (W:World):(Instr.index 289 (.agg #[.int .u8 97,.int .u8 122,.int .u8 65,.int .u8 90,.int .u8 48,.int .u8 57,.int .u8 46,.int .u8 46,.int .u8 95,.int .u8 95,.int .u8 45,.int .u8 45]) (.int .i64 2)).run Tryz.prog W=.ok (.agg #[.int .u8 48,.int .u8 57]) W:=by kernel_rfl
theorem Z87 (W:World):(Instr.index 289 (.agg #[.int .u8 97,.int .u8 122,.int .u8 65,.int .u8 90,.int .u8 48,.int .u8 57,.int .u8 46,.int .u8 46,.int .u8 95,.int .u8 95,.int .u8 45,.int .u8 45]) (.int .i64 3)).run Tryz.prog W=.ok (.agg #[.int .u8 46,.int .u8 46]) W:=by kernel_rfl
theorem Z86 (W:World):(Instr.index 289 (.agg #[.int .u8 97,.int .u8 122,.int .u8 65,.int .u8 90,.int .u8 48,.int .u8 57,.int .u8 46,.int .u8 46,.int .u8 95,.int .u8 95,.int .u8 45,.int .u8 45]) (.int .i64 4)).run Tryz.prog W=.ok (.agg #[.int .u8 95,.int .u8 95]) W:=by kernel_rfl
theorem Z85 (W:World):(Instr.index 289 (.agg #[.int .u8 97,.int .u8 122,.int .u8 65,.int .u8 90,.int .u8 48,.int .u8 57,.int .u8 46,.int .u8 46,.int .u8 95,.int .u8 95,.int .u8 45,.int .u8 45]) (.int .i64 5)).run Tryz.prog W=.ok (.agg #[.int .u8 45,.int .u8 45]) W:=by kernel_rfl
theorem Z9e (k:Nat)(hk:k<6)(W:World):(Instr.index 289 (.agg #[.int .u8 97,.int .u8 122,.int .u8 65,.int .u8 90,.int .u8 48,.int .u8 57,.int .u8 46,.int .u8 46,.int .u8 95,.int .u8 95,.int .u8 45,.int .u8 45]) (.int .i64 (k:Int))).run Tryz.prog W=.ok (.agg #[.int .u8 ((spn.getD k (0,0)).1:Nat),.int .u8 ((spn.getD k (0,0)).2:Nat)]) W:=by
 have h:k=0\/k=1\/k=2\/k=3\/k=4\/k=5:=by omega
 rcases h with rfl|rfl|rfl|rfl|rfl|rfl
 . exact Z8a W
 . exact Z89 W
 . exact Z88 W
 . exact Z87 W
 . exact Z86 W
 . exact Z85 W
theorem Z67 (k:Nat):(spn.getD k (0,0)).1<256/\(spn.getD k (0,0)).2<256:=by
 match k with
 |0=>decide
 |1=>decide
 |2=>decide
 |3=>decide
 |4=>decide
 |5=>decide
 |k+6=>simp[spn]
theorem Z3o (n k:Nat)(hk:k<6)(h:Ng n (spn.getD k (0,0))=true):spn.any (Ng n)=true:=by
 rw[List.any_eq_true];refine⟨spn.getD k (0,0), ?_,h⟩;have hl:k<spn.length:=hk;simp[List.getD,hl]
theorem TY (n:Nat)(h:∀j,j<6->Ng n (spn.getD j (0,0))=false):spn.any (Ng n)=false:=by
 rw[List.any_eq_false];intro x hx;obtain⟨j,hj,rfl⟩:=List.mem_iff_getElem.1 hx;have:=h j hj
 simp[List.getD,hj]at this
 simp[this]
theorem E8 (n:Nat)(hn:n<256)(w:World):
 Calls Tryz.prog 175 #[.int .u8 n] w fun e w'=>e=.returned (.bool (spn.any (Ng n)))/\Below w.heap.size w w':=by
 have hI:=Z9e;go_enter Tryz.func175,Tryz.ntmps175
 go_wp2;go_loopw [12] (fun i wr=>∃k:Nat,k<=6/\i=.int .i64 k/\Hid (∀j,j<k->Ng n (spn.getD j (0,0))=false)/\Hid (Below w.heap.size w wr)) (fun i _=>6-(intOf i).toNat)
 case atStart=>exact⟨0,VH _,rfl,fun j hj=>absurd hj (by omega),Below.refl _ _⟩
 case round=>
  obtain⟨k,hk,rfl,HN,HB⟩:=hrel
  by_cases hlt:k<6
  . have hix:=hI k hlt;obtain⟨h1,h2⟩:=Z67 k;have HS:Hid (Ng n (spn.getD k (0,0))=(decide ((spn.getD k (0,0)).1<=n)&&decide (n<=(spn.getD k (0,0)).2))):=rfl;have HY:=Ab (Z3o n k hlt);generalize (spn.getD k (0,0)).1=lo at*;generalize (spn.getD k (0,0)).2=hi at*;clear hI;have hz:=(Aa HB).size
    by_cases ha:lo<=n
    . by_cases hb:n<=hi
      . go_wp2;go_ret;refine⟨Dq ((Aa HY) ?_).symm,(Aa HB).alloc (Aa HB).size _⟩;rw[Aa HS];simp[ha,hb]
      . go_wp2;go_roundw
        case rel=>
         refine⟨k+1,by omega,by go_num,fun j hj=> ?_,(Aa HB).alloc (Aa HB).size _⟩
         by_cases hjk:j=k
         . subst hjk;rw[Aa HS];simp[hb]
         . exact(Aa HN) j (by omega)
        case measure=>simp[intOf];omega
    . go_wp2;go_roundw
      case rel=>
       refine⟨k+1,by omega,by go_num,fun j hj=> ?_,(Aa HB).alloc (Aa HB).size _⟩
       by_cases hjk:j=k
       . subst hjk;rw[Aa HS];simp[ha]
       . exact(Aa HN) j (by omega)
      case measure=>simp[intOf];omega
  . obtain rfl:k=6:=by omega
    go_wp2;go_ret;exact⟨Dq (TY n (Aa HN)).symm,Aa HB⟩
theorem NA (p:ByteArray)(h0:p.data.toList≠ [])(h1:p.data.toList≠ [46])(h2:p.data.toList≠ [46,46])(hall:∀j (h:j<p.size),spn.any (Ng (p[j]'h).toNat)=true):okP p.data.toList=true:=by
 simp only[okP,ZM,bne_iff_ne];refine⟨⟨⟨h0,h1⟩,h2⟩, ?_⟩;rw[WX];intro x hx;obtain⟨j,hj,rfl⟩:=List.mem_iff_getElem.1 hx;rw[NB];have hs:j<p.size:=by rw[Z00];exact hj
 exact hall j hs
theorem Z4e (p:ByteArray)(j:Nat)(h:j<p.size)(hbad:spn.any (Ng (p[j]'h).toNat)=false):okP p.data.toList=false:=by
 have hb:okB (p[j]'h)=false:=by rw[NB];exact hbad
 have:p.data.toList.all okB=false:=by
  rw[List.all_eq_false];refine⟨p[j]'h, ?_,by simp[hb]⟩;exact Array.mem_toList_iff.2 (Array.getElem_mem _)
 simp[okP,this]
theorem BK (p:ByteArray)(l:List UInt8)(h:¬p.data.toList=l):(p.toList==l)=false:=by
 rw[Lib.toList_data];simpa using h
theorem Xb (p:ByteArray)(h:¬p.data.toList= []):p.toList.isEmpty=false:=by
 rw[Lib.toList_data]
 cases hl:p.data.toList with
 |nil=>exact absurd hl h
 |cons x xs=>rfl
theorem GK (p:ByteArray)(hp:p.size<=maxLen)(w:World):
 Calls Tryz.prog 145 #[.string p] w fun e w'=>e=.returned (.bool (okP p.data.toList))/\Below w.heap.size w w':=by
 by_cases h0:p.data.toList= []
 . obtain rfl:p=⟨#[]⟩:=by rw[<-DZ p,h0];rfl
   go_enter Tryz.func145,Tryz.ntmps145
   go_wp2;go_ret;exact⟨rfl,Below.refl _ _⟩
 by_cases h1:p.data.toList= [46]
 . obtain rfl:p=⟨#[46]⟩:=by rw[<-DZ p,h1];rfl
   go_enter Tryz.func145,Tryz.ntmps145
   go_wp2;go_ret;exact⟨rfl,Below.refl _ _⟩
 by_cases h2:p.data.toList= [46,46]
 . obtain rfl:p=⟨#[46,46]⟩:=by rw[<-DZ p,h2];rfl
   go_enter Tryz.func145,Tryz.ntmps145
   go_wp2;go_ret;exact⟨rfl,Below.refl _ _⟩
 have HP:=Ab (NA p h0 h1 h2);have e0:=Xb p h0;have e1:=BK p [46] h1;have e2:=BK p [46,46] h2;clear h0 h1 h2;have HQ:=Ab (Z4e p);go_enter Tryz.func145,Tryz.ntmps145
 go_wp2;go_loopw [3,16] (fun _ i wr=>∃k:Nat,k<=p.size/\i=.int .i64 k/\Hid (∀j (h:j<p.size),j<k->spn.any (Ng (p[j]'h).toNat)=true)/\Hid (Below w.heap.size w wr)) (fun _ i _=>p.size-(intOf i).toNat)
 case atStart=>exact⟨0,VH _,rfl,fun j _ hj=>absurd hj (by omega),Below.refl _ _⟩
 case round=>
  obtain⟨k,hk,rfl,HN,HB⟩:=hrel;unfold maxLen at hp;have hz:=(Aa HB).size
  by_cases hlt:k<p.size
  . have HM:=Ab (fun W=>E8 (p[k]'hlt).toNat (p[k]'hlt).toNat_lt W)
    cases hm:spn.any (Ng (p[k]'hlt).toNat)with
    |true=>
     rw[hm]at HM;have HM2:=Ab hm;clear hm;go_wp2_with (go_at_call 175;refine((Aa HM) _).mono ?_;rintro e w1 ⟨rfl,hb1⟩;have HB1:=Ab ((Aa HB).trans (hb1.mono hz));clear hb1)
     go_roundw
     case rel=>
      refine⟨k+1,by omega,by go_num,fun j h hj=> ?_,Aa HB1⟩
      by_cases hjk:j=k
      . subst hjk;exact Aa HM2
      . exact(Aa HN) j h (by omega)
     case measure=>simp[intOf];omega
    |false=>
     rw[hm]at HM;have HM2:=Ab hm;clear hm;go_wp2_with (go_at_call 175;refine((Aa HM) _).mono ?_;rintro e w1 ⟨rfl,hb1⟩;have HB1:=Ab ((Aa HB).trans (hb1.mono hz));clear hb1)
     go_ret;exact⟨Dq ((Aa HQ) k hlt (Aa HM2)).symm,Aa HB1⟩
  . obtain rfl:k=p.size:=by omega
    go_wp2;go_ret;exact⟨Dq ((Aa HP) (fun j h=>(Aa HN) j h h)).symm,Aa HB⟩
def B5:Go.Shelf.Ren:=⟨fun|221=>81|268=>113|138=>114|143=>115|195=>152|197=>117|218=>153|219=>154|260=>155|217=>187|225=>188|224=>189|267=>190|266=>214|314=>215|n=>n,fun|9=>9|3=>3|31=>43|4=>4|0=>0|105=>183|21=>21|5=>5|46=>66|119=>261|139=>264|138=>263|146=>266|51=>35|n=>n,fun|1=>0|3=>1|4=>2|n=>n⟩
theorem R9:Go.Proofs.Lays.n221 Tryz.prog B5:= {
 mixed:=by kernel_rfl
 f138:=Tryz.func114.trans (congrArg some (by kernel_rfl))
 f143:=Tryz.func115.trans (congrArg some (by kernel_rfl))
 f195:=Tryz.func152.trans (congrArg some (by kernel_rfl))
 f197:=Tryz.func117.trans (congrArg some (by kernel_rfl))
 f217:=Tryz.func187.trans (congrArg some (by kernel_rfl))
 f218:=Tryz.func153.trans (congrArg some (by kernel_rfl))
 f219:=Tryz.func154.trans (congrArg some (by kernel_rfl))
 f221:=Tryz.func81.trans (congrArg some (by kernel_rfl))
 f224:=Tryz.func189.trans (congrArg some (by kernel_rfl))
 f225:=Tryz.func188.trans (congrArg some (by kernel_rfl))
 f260:=Tryz.func155.trans (congrArg some (by kernel_rfl))
 f266:=Tryz.func214.trans (congrArg some (by kernel_rfl))
 f267:=Tryz.func190.trans (congrArg some (by kernel_rfl))
 f268:=Tryz.func113.trans (congrArg some (by kernel_rfl))
 f314:=Tryz.func215.trans (congrArg some (by kernel_rfl))
 t0:=Tryz.underlying0
 a0:=Tryz.isAgg0
 z0:=Tryz.sizeOf0
 v0:=Tryz.zeroValue0
 t3:=Tryz.underlying3
 a3:=Tryz.isAgg3
 z3:=Tryz.sizeOf3
 v3:=Tryz.zeroValue3
 t4:=Tryz.underlying4
 a4:=Tryz.isAgg4
 z4:=Tryz.sizeOf4
 v4:=Tryz.zeroValue4
 t5:=Tryz.underlying5
 a5:=Tryz.isAgg5
 z5:=Tryz.sizeOf5
 v5:=Tryz.zeroValue5
 t9:=Tryz.underlying9
 a9:=Tryz.isAgg9
 z9:=Tryz.sizeOf9
 v9:=Tryz.zeroValue9
 t21:=Tryz.underlying21
 a21:=Tryz.isAgg21
 z21:=Tryz.sizeOf21
 v21:=Tryz.zeroValue21
 t31:=Tryz.underlying43
 a31:=Tryz.isAgg43
 z31:=Tryz.sizeOf43
 v31:=Tryz.zeroValue43
 t46:=Tryz.underlying66
 a46:=Tryz.isAgg66
 z46:=Tryz.sizeOf66
 v46:=Tryz.zeroValue66
 t51:=Tryz.underlying35
 a51:=Tryz.isAgg35
 z51:=Tryz.sizeOf35
 v51:=Tryz.zeroValue35
 t105:=Tryz.underlying183
 a105:=Tryz.isAgg183
 z105:=Tryz.sizeOf183
 v105:=Tryz.zeroValue183
 t119:=Tryz.underlying261
 a119:=Tryz.isAgg261
 z119:=Tryz.sizeOf261
 t138:=Tryz.underlying263
 a138:=Tryz.isAgg263
 z138:=Tryz.sizeOf263
 v138:=Tryz.zeroValue263
 t139:=Tryz.underlying264
 a139:=Tryz.isAgg264
 z139:=Tryz.sizeOf264
 v139:=Tryz.zeroValue264
 t146:=Tryz.underlying266
 a146:=Tryz.isAgg266
 z146:=Tryz.sizeOf266
 v146:=Tryz.zeroValue266
 g1:=by kernel_rfl
 g3:=by kernel_rfl
 g4:=by kernel_rfl}
def Qj (ps:List (List UInt8)):List Value:=ps.map fun p=>.string (B p)
theorem Z1b:(Tryz.prog.info? 9).map (fun i=>(i.zero,i.size,i.bytes))=some (some (.string ByteArray.empty),1,16):=by kernel_rfl
theorem J8 (s:ByteArray)(w:World)(hs:s.size<4294967281):
 Calls Tryz.prog 81 #[.string s,.string ⟨#[47]⟩,.int .i64 0,.int .i64 (-1)] w fun e w'=>
  e=.returned (.slice (some ⟨w.heap.size,0,none⟩) (spl s.data.toList).length (spl s.data.toList).length)/\w'=w.alloc (.cells (Qj (spl s.data.toList)).toArray 9):=by
 have hsz:(⟨#[47]⟩:ByteArray).size=1:=rfl;have hle:=Lib.countB_le ⟨#[47]⟩ (by rw[hsz];decide) s.size s (VB _);have hlen:=Lib.splitB_all ⟨#[47]⟩ (by rw[hsz];decide) 0 _ s rfl
 have hI:∀(x:ByteArray) (c:Array Value),x.size<=s.size->Calls Tryz.prog (B5.f 143) #[.string x,.string ⟨#[47]⟩] (w.alloc (.cells c (B5.t 9))) fun e w'=>e=.returned (.int .i64 (Lib.indexB x ⟨#[47]⟩))/\w'=w.alloc (.cells c (B5.t 9)):=by
  intro x c _;refine(Any.strings_Index_one {R9 with} x 47 _).mono ?_;rintro e w' ⟨rfl,rfl⟩;refine⟨?_,rfl⟩;show _=Ending.returned (Value.int .i64 (Lib.index x.data.toList [47]))
  rw[Lib.index_one]
 have hC:Calls Tryz.prog (B5.f 138) #[.string s,.string ⟨#[47]⟩] w fun e w'=>e=.returned (.int .i64 (Lib.countB s ⟨#[47]⟩))/\w'=w:=by
  refine(Any.strings_Count_one {R9 with} s 47 w).mono ?_;rintro e w' ⟨rfl,rfl⟩;refine⟨?_,rfl⟩;show _=Ending.returned (Value.int .i64 ((Lib.count s.data.toList [47]:Nat):Int))
  rw[Lib.count_one];rfl
 have c:=Any.strings_genSplit_core R9 Z1b s ⟨#[47]⟩ 0 (-1) (Lib.countB s ⟨#[47]⟩+1) w hs (by rw[hsz];decide) (VH _) hI hC (by decide) (by decide) (by rw[if_pos (by decide)];omega);rw[YA]at c;have e2:Lib.cellsOf (Lib.splitB ⟨#[47]⟩ 0 (Lib.countB s ⟨#[47]⟩) s) (Lib.countB s ⟨#[47]⟩+1)=((Lib.splitB ⟨#[47]⟩ 0 (Lib.countB s ⟨#[47]⟩) s).map Value.string).toArray:=by rw[<-hlen];exact Lib.cellsOf_full _
 rw[e2,EZ,IP]at c;refine c.mono ?_;rintro e w' ⟨rfl,rfl⟩;refine⟨by simp, ?_⟩;simp only[Qj,ZU];rfl
theorem B3 (s:ByteArray)(w:World)(hs:s.size<4294967281):
 Calls Tryz.prog 58 #[.string s,.string ⟨#[47]⟩] w fun e w'=>
  e=.returned (.slice (some ⟨w.heap.size,0,none⟩) (spl s.data.toList).length (spl s.data.toList).length)/\w'=w.alloc (.cells (Qj (spl s.data.toList)).toArray 9):=by
 have c:=J8 s w hs;go_enter Tryz.func58,Tryz.ntmps58
 go_wp2_with (go_at_call 81;refine c.mono ?_;rintro e w' ⟨rfl,hw⟩;rw[hw])
 go_ret;exact⟨rfl,rfl⟩
def SRow (w:World)(b:Nat)(v:Value)(ps:List (List UInt8)):Prop:=w.ownsRow b 9 1 v ps.length (Qj ps)
theorem Xc (ps:List (List UInt8)):(Qj ps).length=ps.length:=by simp[Qj]
theorem SRow.nil (w:World)(b:Nat):SRow w b (.slice none 0 0) []:=World.ownsRow_nil _ _ _ _
theorem SRow.new (w:World)(ps:List (List UInt8))(h:ps.length<=maxLen):SRow (w.alloc (.cells (Qj ps).toArray 9)) w.heap.size (.slice (some ⟨w.heap.size,0,none⟩) ps.length ps.length) ps:=
 ⟨by rw[Xc];omega,.inr ⟨w.heap.size,ps.length,(Qj ps).toArray,rfl,VB _,heap_alloc_new w _,VB _,h,by simp[Xc],by simp[<-Xc]⟩⟩
theorem SRow.below {w w':World}{b:Nat}{v:Value}{ps:List (List UInt8)}(h:SRow w b v ps)(hg:Below w.heap.size w w'):SRow w' b v ps:=MV h hg
theorem SRow.mono {w:World}{b c:Nat}{v:Value}{ps:List (List UInt8)}(h:SRow w b v ps)(hc:c<=b):SRow w c v ps:=by
 obtain⟨h1,h2⟩:=h;refine⟨h1,h2.imp id ?_⟩;rintro ⟨g,cap,cur,a1,a2,a3⟩;exact⟨g,cap,cur,a1,VU hc a2,a3⟩
theorem SRow.cases {w:World}{b:Nat}{v:Value}{ps:List (List UInt8)}(h:SRow w b v ps):(v=.slice none 0 0/\ps= [])\/∃g cap,v=.slice (some ⟨g,0,none⟩) ps.length cap/\b<=g/\g<w.heap.size/\ps.length<=cap/\cap<=maxLen/\∀j x,(ps.map B)[j]? =some x->w.cell? ⟨g,0+j,none⟩=some (.string x):=by
 obtain⟨h1,h2|⟨g,cap,cur,a1,a2,a3,a4,a5,a6,a7⟩⟩:=h
 . exact .inl ⟨h2.1,ZH.1 h2.2⟩
 . have hg:g<w.heap.size:=by
    rcases ZQ g w.heap.size with h'|h'
    . exact h'
    . simp[ZN h']at a3
   refine .inr ⟨g,cap,a1,a2,hg,a4,a5, ?_⟩;intro j x hx
   have hj:j<ps.length:=by
    rcases ZQ j ps.length with h'|h'
    . exact h'
    . rw[WJ (by simpa using h')]at hx;exact absurd hx (by simp)
   rw[WG,Lib.cell_of_heap a3];have e:(cur.toList.take (ps.length*1))[j]? =(Qj ps)[j]? :=by rw[a7]
   rw[List.getElem?_take,if_pos (by omega)]at e;simp only[Qj,List.getElem?_map]at e hx;rw[<-Array.getElem?_toList,e]
   cases hp:ps[j]? with
   |none=>rw[hp]at hx;exact absurd hx (by simp)
   |some p=>rw[hp]at hx;simp at hx ⊢;exact hx
theorem N3 {s:List UInt8}(h:40<s.length):Kg s=2:=by unfold Kg;rw[if_pos h]
theorem DI {s:List UInt8}(h:s.length<=40){p:List UInt8}(hp:p∈spl s)(hb:okP p=false):Kg s=1:=by
 unfold Kg;rw[if_neg (by omega),if_neg];intro hall;have:=WX.1 hall p hp
 rw[hb]at this;exact absurd this (by simp)
theorem BL {s:List UInt8}(h:s.length<=40):(spl s).length<=41:=by
 have:=YI (a:=(47:UInt8)) (l:=s)
 rw[LQ];omega
def Z41 (s:List UInt8):List (List UInt8):=if Kg s=0 then spl s else []
theorem MG {s:List UInt8}(h:Kg s=0):Z41 s=spl s:=by unfold Z41;rw[if_pos h]
theorem Ox {s:List UInt8}(h:Kg s≠0):Z41 s= []:=by unfold Z41;rw[if_neg h]
theorem Mv (w:World)(o:Obj):Below w.heap.size w (w.alloc o):=(Below.refl _ _).alloc (VB _) o
theorem MM (s:List UInt8)(w:World)(hs:s.length<=maxLen):
 Calls Tryz.prog 109 #[.string (B s)] w fun e w'=>∃v,e=.returned (.tuple #[v,.int .i64 (Kg s:Nat)])/\SRow w' w.heap.size v (Z41 s)/\Below w.heap.size w w'/\(Kg s≠0->v=.slice none 0 0):=by
 have hsz:=Im s;unfold maxLen at hs
 by_cases h40:40<s.length
 . have HE:=Ab (N3 h40);have h40':40<(B s).size:=by rw[hsz];omega
   have hms:(B s).size<=9223372036854775807:=by rw[hsz];omega
   clear hsz h40 hs;generalize B s=t at*;go_enter Tryz.func109,Tryz.ntmps109
   go_wp2;go_ret2;rw[Ox (by rw[Aa HE];decide),Aa HE];exact⟨_,rfl,SRow.nil _ _,Below.refl _ _,fun _=>rfl⟩
 . have hsp:=B3 (B s) w (by rw[hsz];omega);rw[QE]at hsp;have h40':(B s).size<=40:=by rw[hsz];omega
   have h41:=BL (s:=s) (by omega);have HR:=Ab (SRow.new w (spl s) (by unfold maxLen;omega));have HE:=Ab (fun p hp hb=>DI (s:=s) (p:=p) (by omega) hp hb);have HO:=Ab (PV (l:=s) (by omega));have hmem:∀p∈spl s,p.length<=s.length:=Z2g s;obtain⟨L,hL⟩:∃L,(spl s).length=L:=⟨_,rfl⟩
   rw[hL]at hsp HR h41;have HL:=Ab hL
   have HC:Hid (∀j (hj:j<(spl s).length) (W:World),Below (w.heap.size+1) (w.alloc (.cells (Qj (spl s)).toArray 9)) W->W.cell? ⟨w.heap.size,j,none⟩=some (.string (B ((spl s)[j]'hj)))):=by
    intro j hj W hW;rw[hW.cell (p:=⟨w.heap.size,j,none⟩) (Nat.lt_succ_self _),World.cell?_alloc_at _ _ _ _ rfl];simp[Qj,hj]
   have hs40:s.length<=40:=by omega
   clear hL hsz h40 hs;generalize B s=t at*;go_enter Tryz.func109,Tryz.ntmps109
   go_wp2_with (go_at_call 58;refine hsp.mono ?_;rintro e w' ⟨rfl,hw⟩;rw[hw])
   clear hsp;go_loopw [6,14] (fun _ i wr=>∃k:Nat,k<=L/\i=.int .i64 k/\Hid (∀j (hj:j<(spl s).length),j<k->okP ((spl s)[j]'hj)=true)/\Hid (Below (w.heap.size+1) (w.alloc (.cells (Qj (spl s)).toArray 9)) wr)) (fun _ i _=>L-(intOf i).toNat)
   case atStart=>exact⟨0,VH _,rfl,fun j _ hj=>absurd hj (by omega),Below.refl _ _⟩
   case round=>
    obtain⟨k,hk,rfl,HN,HB⟩:=hrel
    by_cases hlt:k<L
    . have hlt':k<(spl s).length:=by rw[Aa HL];exact hlt
      have hcell:=(Aa HC) k hlt' wr (Aa HB);have hz:=(Aa HB).size;have hlen:=hmem _ (WK hlt');have HM:=Ab (WK hlt');have HQ:=Ab (fun h=>(Aa HE) _ (Aa HM) h)
      have HN2:Hid (okP ((spl s)[k]'hlt')=true->∀j (hj:j<(spl s).length),j<k+1->okP ((spl s)[j]'hj)=true):=by
       intro h j hj hjk
       by_cases e:j=k
       . subst e;exact h
       . exact(Aa HN) j hj (by omega)
      generalize (spl s)[k]'hlt'=q at*;have hI:=GK (B q) (by rw[Im];unfold maxLen;omega) wr;rw[QE]at hI;clear HM;generalize B q=qb at*;have hz2:w.heap.size+1<=wr.heap.size:=by simp at hz;omega
      cases ho:okP q with
      |true=>
       rw[ho]at hI;have HO2:=Ab ho;clear ho;go_wp2_with (go_at_call 145;refine hI.mono ?_;rintro e w1 ⟨rfl,hb1⟩;have HB1:=Ab ((Aa HB).trans (hb1.mono hz2));clear hb1)
       go_roundw
       case rel=>exact⟨k+1,by omega,by go_num,(Aa HN2) (Aa HO2),Aa HB1⟩
       case measure=>simp[intOf];omega
      |false=>
       rw[ho]at hI;have HO2:=Ab ho;clear ho;go_wp2_with (go_at_call 145;refine hI.mono ?_;rintro e w1 ⟨rfl,hb1⟩;have HB1:=Ab ((Aa HB).trans (hb1.mono hz2));clear hb1)
       go_ret2;have he:=(Aa HQ) (Aa HO2)
       rw[Ox (by rw[he];decide),he];exact⟨_,rfl,SRow.nil _ _,(Mv w _).trans ((Aa HB1).mono (Nat.le_succ _)),fun _=>rfl⟩
    . obtain rfl:k=L:=by omega
      have HZ:Hid (Kg s=0):=(Aa HO) (by
       rw[WX];intro p hp;obtain⟨j,hj,rfl⟩:=List.mem_iff_getElem.1 hp;exact(Aa HN) j hj (by rw[Aa HL]at hj;exact hj))
      go_wp2;go_ret2;rw[MG (Aa HZ),Aa HZ];refine⟨_,rfl, ?_,(Mv w _).trans ((Aa HB).mono (Nat.le_succ _)),fun h=>absurd rfl h⟩;exact(Aa HR).below (by simpa using Aa HB)
theorem QV (s:List UInt8)(w:World)(hs:s.length<=maxLen):
 Calls Tryz.prog 74 #[.string (B s)] w fun e w'=>e=.returned (.int .i64 (Kg s:Nat))/\Below w.heap.size w w':=by
 have c:=MM s w hs;generalize B s=t at*;go_enter Tryz.func74,Tryz.ntmps74
 go_wp2_with (go_at_call 109;refine c.mono ?_;rintro e w' ⟨v,rfl,_,hb,_⟩;have HB:=Ab hb;clear hb)
 go_ret;exact⟨rfl,Aa HB⟩
end Go.Proofs.YtleocpdblhbimaaGreatDoor
