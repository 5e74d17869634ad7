import Derived.Test.YtleocpdblhbimaaGreatDoorQ36
import Derived.Shelf.Slices.Equal
import Derived.Shelf.Slices.Empties2
set_option linter.unusedSimpArgs false
set_option maxHeartbeats 4000000
namespace Go.Proofs.YtleocpdblhbimaaGreatDoor
open Go.RowKit
set_option linter.unusedVariables false
set_option maxRecDepth 100000
def ahd (xs:List Fv):Nat->Option Fl
 |0=>none
 |k+1=>(fls xs)[k]?
theorem D5 {xs:List Fv}{k:Nat}{x:Fv}(h:xs[k]? =some x):
 AP (ahd xs k) ((fls xs).drop k)=if Ks x.f≠0 then Ks x.f else if behind (ahd xs k) x.f=false then 4 else AP (ahd xs (k+1)) ((fls xs).drop (k+1)):=by
 have hf:(fls xs)[k]? =some x.f:=by simp[fls,h]
 have hlt:k<(fls xs).length:=by
  rcases YW k (fls xs).length with h'|h'
  . exact h'
  . rw[WN h']at hf;cases hf
 have e:(fls xs).drop k=x.f::(fls xs).drop (k+1):=by
  rw[WU hlt]
  congr 1
  rw[VR hlt]at hf;exact VQ hf
 rw[e,AP];show _=if Ks x.f≠0 then Ks x.f else if behind (ahd xs k) x.f=false then 4 else AP ((fls xs)[k]?) _
 rw[hf]
theorem SU (x y:List UInt8):Op.bytesLess (B x).toList (B y).toList=decide (Po x y<0):=by rw[Fc,Fc,Z5]
theorem SV (x y:List UInt8):((B x).toList==(B y).toList)=decide (Po x y=0):=by
 rw[Fc,Fc,YR,beq_iff_eq,decide_eq_true_iff,MT]
theorem EZ (ad:Option Addr)(n c:Nat)(w:World)(h:12<n):Calls Tryz.prog 34 #[.slice ad n c] w fun e w'=>e=.returned (.int .i64 2)/\w'=w:=by
 go_enter Tryz.func34,Tryz.ntmps34
 go_wp2;go_ret;exact⟨rfl,rfl⟩
theorem Sh (ad:Option Addr)(c:Nat)(xs:List Fv)(w:World)(h:FsIn w ad c xs)(n:Nat)(hn:xs.length=n):
 Calls Tryz.prog 34 #[.slice ad n c] w fun e w'=>e=.returned (.int .i64 (Nh (fls xs):Nat))/\Below w.heap.size w w':=by
 have hl:(fls xs).length=n:=by simp[fls,hn]
 by_cases hm:12<n
 . have e:Nh (fls xs)=2:=by unfold Nh;rw[if_pos (by omega)]
   rw[e];refine(EZ ad n c w hm).mono ?_;rintro e w' ⟨rfl,rfl⟩;exact⟨rfl,Below.refl _ _⟩
 . have e:Nh (fls xs)=AP none (fls xs):=by unfold Nh;rw[if_neg (by omega)]
   obtain⟨E,hE⟩:∃E,AP none (fls xs)=E:=⟨_,rfl⟩
   rw[e,hE];have HI:=Ab h;have HN:=Ab hn;have HE:=Ab hE;have HL:=Ab hl;clear h e hE hn hl;go_enter Tryz.func34,Tryz.ntmps34
   go_wp2;go_loopw [3,4,5,11] (fun _ _ _ i wr=>∃k:Nat,k<=n/\i=.int .i64 (k:Int)/\Hid (AP (ahd xs k) ((fls xs).drop k)=E)/\Hid (Below w.heap.size w wr)) (fun _ _ _ i _=>n-(intOf i).toNat)
   case atStart=>exact⟨0,VK _,rfl,Aa HE,Below.refl _ _⟩
   case round=>
    obtain⟨k,hk,rfl,HR,HB⟩:=hrel
    by_cases hlt:k<n
    . obtain⟨x,hx,hxm⟩:=Ri (xs:=xs) (k:=k) (by rw[Aa HN];exact hlt);obtain⟨b,o,rfl,hb,c0,c1,c2,c3,c4⟩:=(Aa HI).get (Aa HB) hx;have hst:=D5 hx;rw[Aa HR]at hst;have hz:=(Aa HB).size;have HCK:=Ab (fun W (hW:Below w.heap.size w W)=>Xb x W (((Aa HI).all x hxm).below hW (VC _)));have HS:=Ab hst;rw[Tj]at HCK;unfold Fv.sl at c1;obtain⟨er,her⟩:∃er,Ks x.f=er:=⟨_,rfl⟩
      rw[her]at HCK HS;clear hst her hxm;have HX:=Ab hx;clear hx;obtain⟨xf,xa,xc⟩:=x;simp only at*
      have hname:∃nm,xf.name=nm:=⟨_,rfl⟩
      obtain⟨nm,hnm⟩:=hname;rw[hnm]at c0 HCK;obtain⟨t,ht⟩:∃t,B nm=t:=⟨_,rfl⟩
      rw[ht]at c0 HCK;have HT:=Ab ht;have HNM:=Ab hnm;clear ht hnm;generalize xf.bytes.length=nb at*;generalize xf.stamp=st at*;generalize xf.node=nd at*;generalize xf.gone=gn at*;have hbl:∀o',Below w.heap.size w (wr.alloc o'):=fun o'=>(Aa HB).alloc hz o'
      have HBL:=Ab hbl;clear hbl
      by_cases he:er=0
      . subst he
        cases k with
        |zero=>
         simp only[YI,XL]at c0 c1 c2 c3 c4;have hst:=Aa HS;rw[if_neg (by simp),if_neg (by simp[ahd,behind])]at hst;have HN2:=Ab hst;clear hst;go_wp2_with fail
         refine(Aa HCK _ (Aa HBL _)).mono ?_;rintro e w1 ⟨rfl,hb1⟩;have HB1:=Ab ((Aa HBL _).trans (hb1.mono (by simp;omega)));clear hb1;go_wp2;go_quiet (fail)
         go_wp2;go_roundw
         case rel=>exact⟨1,by omega,by go_num,(Aa HN2).symm,Af (Aa HB1) _⟩
         case measure=>simp[intOf];omega
        |succ j=>
         obtain⟨y,hy,hym⟩:=Ri (xs:=xs) (k:=j) (by rw[Aa HN];omega);obtain⟨b',o',hab,hb',d0,_⟩:=(Aa HI).get (Aa HB) hy
         cases hab
         have hst:=Aa HS;rw[if_neg (by simp)]at hst;have ha:ahd xs (j+1)=some y.f:=by show (fls xs)[j]? =_;simp[fls,hy]
         rw[ha]at hst;have hle:=SU nm y.f.name;have heq:=SV nm y.f.name;have hbh:behind (some y.f) xf=decide (Po y.f.name nm<0):=by show decide (Po y.f.name xf.name<0)=_;rw[Aa HNM]
         rw[hbh]at hst;have hanti:=Sg nm y.f.name;rw[Aa HT]at hle heq;generalize B y.f.name=t' at*;generalize y.f.name=ny at*;clear hbh ha hy hym;have hji:((j+1:Nat):Int)-1=(j:Int):=by omega
         have hjn:(j:Int)<(n:Int):=by omega
         by_cases h1:Po nm ny=1
         . rw[h1]at hle heq hanti;rw[if_neg (by rw[hanti];decide)]at hst;have HN2:=Ab hst;simp only[Int.reduceLT,Int.reduceEq,decide_false]at hle heq;clear hst hanti h1;go_wp2_with fail
           refine(Aa HCK _ (Aa HBL _)).mono ?_;rintro e w1 ⟨rfl,hb1⟩;have HB1:=Ab ((Aa HBL _).trans (hb1.mono (by simp;omega)));have q0:w1.cell? ⟨wr.heap.size,0,none⟩=some (.string t):=(hb1.cell (p:=⟨wr.heap.size,0,none⟩) (by simp)).trans (by simp);have r0:w1.cell? ⟨b,o+j*5,none⟩=some (.string t'):=(hb1.cell (p:=⟨b,o+j*5,none⟩) (by simp;omega)).trans ((World.cell?_alloc_past _ _ _ (by show b<wr.heap.size;omega)).trans d0);clear hb1;go_wp2;go_quiet (fail)
           go_wp2;go_roundw
           case rel=>exact⟨j+2,by omega,by go_num,(Aa HN2).symm,Af (Aa HB1) _⟩
           case measure=>simp[intOf];omega
         . have h2:(Po nm ny= -1\/Po nm ny=0):=by rcases Jw nm ny with h|h|h<;>omega
           rw[if_pos (by rw[hanti];apply decide_eq_false;omega)]at hst;have HN2:=Ab hst;clear hst hanti h1
           rcases h2 with h2|h2
           all_goals (
            rw[h2]at hle heq;simp only[Int.reduceLT,Int.reduceEq,Int.reduceNeg,decide_true,decide_false]at hle heq;clear h2;go_wp2_with fail
            refine(Aa HCK _ (Aa HBL _)).mono ?_;rintro e w1 ⟨rfl,hb1⟩;have HB1:=Ab ((Aa HBL _).trans (hb1.mono (by simp;omega)));have q0:w1.cell? ⟨wr.heap.size,0,none⟩=some (.string t):=(hb1.cell (p:=⟨wr.heap.size,0,none⟩) (by simp)).trans (by simp);have r0:w1.cell? ⟨b,o+j*5,none⟩=some (.string t'):=(hb1.cell (p:=⟨b,o+j*5,none⟩) (by simp;omega)).trans ((World.cell?_alloc_past _ _ _ (by show b<wr.heap.size;omega)).trans d0);clear hb1;go_wp2;go_quiet (fail)
            go_wp2;go_ret;exact⟨Cz (by rw[Aa HN2];rfl),Af (Aa HB1) _⟩)
      . have hst:=Aa HS;rw[if_pos (by simpa using he)]at hst;have HN2:=Ab hst;clear hst;go_wp2_with fail
        refine(Aa HCK _ (Aa HBL _)).mono ?_;rintro e w1 ⟨rfl,hb1⟩;have HB1:=Ab ((Aa HBL _).trans (hb1.mono (by simp;omega)));clear hb1;go_wp2;go_ret;exact⟨Cz (by rw[Aa HN2]),Aa HB1⟩
    . obtain rfl:n=k:=by omega
      go_wp2;go_ret;have:=Aa HR
      rw[XV (by rw[Aa HL];exact VC _)]at this;exact⟨Cz (by rw[<-this];rfl),Aa HB⟩
theorem FsIn.new (w:World)(xs:List Fv)(t:TypeId)(A:Array Value)(n:Nat)(hA:A=(fcells xs).toArray)(hn:xs.length=n)(h:∀x∈xs,FvIn w x)(hl:xs.length<=2199023255552):FsIn (w.alloc (.cells A t)) (some ⟨w.heap.size,0,none⟩) n xs:=by
 subst hn;refine⟨.inr ⟨w.heap.size,0,rfl,by simp, ?_⟩,VC _,by omega,hl,fun x hx=>(h x hx).alloc _⟩;intro j x hj
 have hc:∀i u,i<5->x.cells[i]? =some u->(w.alloc (.cells A t)).cell? ⟨w.heap.size,0+j*5+i,none⟩=some u:=by
  intro i u hi hu;rw[World.cell?_alloc_at _ _ _ _ rfl,hA];have e:=Rn xs j x i hj hi;rw[WI];simpa using e.trans hu
 exact⟨hc 0 _ (by decide) rfl,hc 1 _ (by decide) rfl,hc 2 _ (by decide) rfl,hc 3 _ (by decide) rfl,hc 4 _ (by decide) rfl⟩
def LIn (w:World)(v:Value)(l:List Fl):Prop:=∃ad c out,v=.slice ad l.length c/\FsIn w ad c out/\fls out=l
def RdA (w:World)(bs:List Nat)(e:Ending)(w':World):Prop:=∃v,e=.returned (.tuple #[v,.int .i64 (Id bs:Nat)])/\LIn w' v (Hk bs)/\Below w.heap.size w w'
theorem LIn.nil (w:World):LIn w (.slice none 0 0) []:=⟨none,0,[],rfl,FsIn.nil w,rfl⟩
theorem RdA.bad {w w':World}{bs:List Nat}{k:Nat}(h:Id bs=k)(hk:k≠0)(hB:Below w.heap.size w w'):RdA w bs (.returned (.tuple #[.slice none 0 0,.int .i64 (k:Int)])) w':=by
 have hl:Hk bs= []:=by unfold Hk;rw[if_pos (by rw[h];exact hk)]
 exact⟨.slice none 0 0,by rw[h],by rw[hl];exact LIn.nil _,hB⟩
theorem TV (es:List Ev):fls (es.map Ev.fv)=(es.map Ev.e).map En.f:=by simp[fls,Ev.fv,YZ]
theorem Xj (n cap:Nat)(a:Option Addr)(bs:List Nat)(w:World)(hl:bs.length=n)(hc:n<=cap)(hP:PkIn w a cap bs)(hv:∀x∈bs,x<256)(hm:n<=9223372036854775807)(hS:Z2y bs):
 Calls Tryz.prog 14 #[.slice a n cap] w fun e w'=>RdA w bs e w':=by
 by_cases hn:12000<n
 . have HF:=Ab (RdA.bad (w:=w) (w':=w) (bs:=bs) (k:=2) (by unfold Id;rw[if_pos (by omega)]) (by decide) (Below.refl _ _));have hnI:(12000:Int)<(n:Int):=by omega
   clear hP hv hl hS;go_enter Tryz.func14,Tryz.ntmps14
   go_wp2;go_ret2;exact Aa HF
 . have hre:Id bs=match Ca (n+1) bs with
    |none=>7
    |some l=>if Nh (l.map En.f)≠0\/Ba l≠bs then 7 else if Qb l=false then 10 else 0:=by
    conv=>lhs;unfold Id
    rw[if_neg (by omega),hl]
    cases Ca (n+1) bs<;>rfl
   have hrl:Hk bs=if Id bs≠0 then []else ((Ca (n+1) bs).getD []).map En.f:=by unfold Hk;rw[hl]
   have hnI:¬(12000:Int)<(n:Int):=by omega
   have HC:=Ab (Wv n cap a bs w hl (by omega) hc hP hv hS);have HP:=Ab hP;have HV:=Ab hv;have HRE:=Ab hre;have HRL:=Ab hrl;have HL:=Ab hl;clear hP hv hre hrl hl hS;go_enter Tryz.func14,Tryz.ntmps14
   go_wp2_with fail
   refine(Aa HC).mono ?_;rintro e w1 ⟨hB1,(⟨he,rfl⟩|⟨v,es,he,rfl,hrow,_⟩)⟩
   . have HF:=Ab (RdA.bad (w:=w) (w':=w1) (bs:=bs) (k:=7) (by rw[Aa HRE,he]) (by decide) hB1);clear hB1 he;go_wp2;go_ret2;exact Aa HF
   . obtain⟨ad,c,rfl,hes⟩:=hrow.entries;obtain⟨hel,hnum⟩:=D9 (Aa HV) he;have hpv:=D8 he (Aa HV);have hre:=Aa HRE;rw[he]at hre;dsimp only at hre;have hrl:=Aa HRL;rw[he]at hrl;obtain⟨l,hll⟩:∃l,es.map Ev.e=l:=⟨_,rfl⟩
     obtain⟨k,hk⟩:∃k,es.length=k:=⟨_,rfl⟩
     have hlk:l.length=k:=by rw[<-hll];simpa using hk
     rw[hll]at hnum hre hrl he hel hpv;have HPV:=Ab hpv;rw[hk];have hk20:k<=20000:=by have:=Aa HL;omega
     have HCF:=Ab (P8 ad c k es w1 hes hk hk20);have HES:=Ab hes;have HLL:=Ab hll;have HK:=Ab hk;have HNUM:=Ab hnum;have HRE2:=Ab hre;have HRL2:=Ab hrl;have HB1:=Ab hB1;clear hB1 hrow hes hel hnum hre hrl he hll hk hlk hpv HC HRE HRL;go_wp2_with fail
     refine(Aa HCF).mono ?_;rintro e w2 ⟨v2,rfl,hG,hB2⟩;obtain⟨ad2,c2,rfl,hfs⟩:=hG.files (by rw[Aa HK];omega);rw[Aa HK];have HCC:=Ab (Sh ad2 c2 (es.map Ev.fv) w2 hfs k (by simpa using Aa HK));obtain⟨E,hE⟩:∃E,Nh (fls (es.map Ev.fv))=E:=⟨_,rfl⟩
     rw[hE]at HCC;rw[TV,Aa HLL]at hE;have HEE:=Ab hE;have HFS:=Ab hfs;have hz1:=(Aa HB1).size;have HB2:=Ab ((Aa HB1).trans (hB2.mono hz1));have HB12:=Ab hB2;clear hG hfs hB2 hE HCF;go_wp2_with fail
     refine(Aa HCC).mono ?_;rintro e w3 ⟨rfl,hB3⟩;have hz2:=(Aa HB2).size;have HB3:=Ab ((Aa HB2).trans (hB3.mono hz2));have HB13:=Ab ((Aa HB12).trans (hB3.mono (Aa HB12).size));have HB23:=Ab hB3;clear hB3 HCC
     by_cases hE0:E=0
     . subst hE0;have hok:=Jv (Aa HEE)
       have hENum:∀x∈es,ENum x.e:=fun x hx=>by
        have hxl:x.e∈l:=by rw[<-Aa HLL];exact XJ hx
        have h1:=Aa HNUM x.e hxl;have h2:=Hu (hok.2 x.e.f (XJ hxl));have h3:=Aa HL;have h4:=h1.pl;exact⟨⟨by omega,by omega⟩,⟨by omega,by omega⟩,by omega,by omega,by omega,h1.cr,h1.mt⟩
       have hk12:k<=12:=by
        have:=hok.1
        rw[<-Aa HLL]at this;simpa[Aa HK]using this
       have HCA:=Ab (Sl ad c k es w3 ((Aa HES).below (Aa HB13)) (Aa HK) hk12 hENum);rw[Aa HLL]at HCA;have HBY:Hid (∀x∈es,x.e.f.bytes.length<=12000):=Ab (fun x hx=>by have:=(hENum x hx).bl;omega);have HVL:Hid (∀y∈Ba l,y<256):=Ab (Pp l (Aa HPV));clear hok hENum;go_wp2_with fail
       refine(Aa HCA).mono ?_;rintro e w4 ⟨v4,rfl,ho,hB4⟩;obtain⟨a4,c4,rfl,q1,q2,q3,q4⟩:=Uh ho;have HPK:=Ab (((Aa HP).below (Aa HB3)).below hB4);have hz3:=(Aa HB3).size;have HB4:=Ab ((Aa HB3).trans (hB4.mono hz3));have HB14:=Ab ((Aa HB13).trans (hB4.mono (Aa HB13).size));have HB24:=Ab ((Aa HB23).trans (hB4.mono (Aa HB23).size));have HEQ:=Ab (Sj a4 a _ c4 n cap (Ba l) bs w4 rfl (Aa HL) (Cv (Aa HVL)) (Cv (Aa HV)) q1.1 (Aa HPK).1);obtain⟨AL,hAL⟩:∃AL,(Ba l).length=AL:=⟨_,rfl⟩
       obtain⟨bq,hbq⟩:∃bq,(Ba l==bs)=bq:=⟨_,rfl⟩
       rw[hAL,hbq]at HEQ;rw[hAL];have HBQ:=Ab hbq;clear ho hB4 q1 q2 q3 q4 hAL hbq HCA HPK;go_wp2_with fail
       refine(Aa HEQ).mono ?_;rintro e w5 ⟨rfl,rfl⟩
       cases bq with
       |false=>
        have hne:Ba l≠bs:=by
         have:=Aa HBQ
         rw[beq_eq_false_iff_ne]at this;exact this
        have HF:=Ab (RdA.bad (w:=w) (w':=w5) (bs:=bs) (k:=7) (by rw[Aa HRE2,if_pos (.inr hne)]) (by decide) (Aa HB4));clear hne HEQ;go_wp2;go_ret2;exact Aa HF
       |true=>
        have heq:Ba l=bs:=eq_of_beq (Aa HBQ);have hre2:=Aa HRE2;rw[if_neg (by rintro (h|h);exact h (Aa HEE);exact h heq)]at hre2;have HRE3:=Ab hre2;obtain⟨S,hS⟩:∃S,Qb l=S:=⟨_,rfl⟩
        have HCS:=Ab (Yo ad c k es w5 ((Aa HES).below (Aa HB14)) (Aa HK) hk20 (Aa HBY) S (by rw[Aa HLL];exact hS));have HSS:=Ab hS;clear heq hre2 hS HEQ;go_wp2_with fail
        refine(Aa HCS).mono ?_;rintro e w6 ⟨rfl,hB6⟩;have hz5:=(Aa HB4).size;have HB6:=Ab ((Aa HB4).trans (hB6.mono hz5))
        cases S with
        |false=>
         have HF:=Ab (RdA.bad (w:=w) (w':=w6) (bs:=bs) (k:=10) (by rw[Aa HRE3,if_pos (Aa HSS)]) (by decide) (Aa HB6));clear hB6 HCS;go_wp2;go_ret2;exact Aa HF
        |true=>
         have h0:Id bs=0:=by rw[Aa HRE3,if_neg (by rw[Aa HSS];decide)]
         have hl0:Hk bs=l.map En.f:=by
          have:=Aa HRL2
          rw[if_neg (by rw[h0];decide)]at this;exact this
         have hfs6:FsIn w6 ad2 c2 (es.map Ev.fv):=((Aa HFS).below (Aa HB24) (VC _)).below (hB6.mono (by omega)) (VC _);have HF:Hid (RdA w bs (.returned (.tuple #[.slice ad2 k c2,.int .i64 0])) w6):=Ab ⟨.slice ad2 k c2,by rw[h0];rfl,⟨ad2,c2,es.map Ev.fv,by rw[hl0,<-Aa HLL];simp[Aa HK],hfs6,by rw[TV,Aa HLL,hl0]⟩,Aa HB6⟩;clear hB6 HCS h0 hl0 hfs6;go_wp2;go_ret2;exact Aa HF
     . have HF:=Ab (RdA.bad (w:=w) (w':=w3) (bs:=bs) (k:=7) (by rw[Aa HRE2,if_pos (.inl (by rw[Aa HEE];exact hE0))]) (by decide) (Aa HB3));have hEb:((E:Int)==0)=false:=by rw[beq_eq_false_iff_ne];omega
       have hEc:((E:Int)!=0)=true:=by rw[bne,hEb];rfl
       clear hE0;go_wp2;go_ret2;exact Aa HF
def WrA (w:World)(fs:List Fl)(e:Ending)(w':World):Prop:=
 Below w.heap.size w w'/\((Nh fs≠0/\e=.returned (.tuple #[.slice none 0 0,.int .i64 (Nh fs:Nat)]))\/ (Nh fs=0/\∃l:List En,l.map En.f=fs/\(∀x∈l,EOf x)/\((12000<(Ba l).length/\e=.returned (.tuple #[.slice none 0 0,.int .i64 11]))\/ ((Ba l).length<=12000/\∃a c,e=.returned (.tuple #[.slice a (Ba l).length c,.int .i64 0])/\(Ba l).length<=c/\PkIn w' a c (Ba l)))))
theorem CD {w:World}{Bs:Nat}{v:Value}{xs:List Ev}{g:Nat}(h:ERow w Bs v xs)(hg:v.ownBlock=some g)(hne:xs≠ []):∃s,w.cell? ⟨g,0,none⟩=some (.string s):=by
 obtain⟨ad,c,rfl,hes⟩:=h.entries
 cases xs with
 |nil=>exact absurd rfl hne
 |cons x r=>
  rcases hes.at_ with h1|⟨b,o,rfl,hb,hE⟩
  . cases h1
  . have h0:=hE 0 x rfl 0 (by decide);have hsh:=Be h.own (by simp);obtain⟨g',cap,hv,_⟩:=hsh
    cases hv
    cases hg
    have h1:w.cell? ⟨b,0+0*8+0,none⟩=some (.string (B x.e.f.name)):=h0;exact⟨_,h1⟩
theorem EOf.num {x:En}(h:EOf x)(hv:Ks x.f=0):ENum x/\∀y∈x.pk,y<256:=by
 obtain⟨h1,h2,h3,h4,h5,h6⟩:=Hu hv;have hcr:x.crc<4294967296:=by rw[h.cr];exact Z2d (Ir _) (by decide)
 obtain⟨out,ho,(⟨q1,q2,q3⟩|⟨q1,q2,q3⟩)⟩:=h.pk
 . exact⟨⟨⟨h3,h4⟩,⟨h5,h6⟩,h1,h2,by rw[q3];omega,hcr,by rw[q2];decide⟩,by rw[q3];exact Wr ho.val⟩
 . exact⟨⟨⟨h3,h4⟩,⟨h5,h6⟩,h1,h2,by rw[q3,Cd];omega,hcr,by rw[q2];decide⟩,by rw[q3];exact Ir _⟩
theorem Th (ad:Option Addr)(c n:Nat)(xs:List Fv)(w:World)(h:FsIn w ad c xs)(hn:xs.length=n):
 Calls Tryz.prog 7 #[.slice ad n c] w fun e w'=>WrA w (fls xs) e w':=by
 have HCC:=Ab (Sh ad c xs w h n hn);obtain⟨E,hE⟩:∃E,Nh (fls xs)=E:=⟨_,rfl⟩
 rw[hE]at HCC;have HI:=Ab h;have HN:=Ab hn;have HE:=Ab hE;clear h hn hE;go_enter Tryz.func7,Tryz.ntmps7
 go_wp2_with fail
 refine(Aa HCC).mono ?_;rintro e w1 ⟨rfl,hB1⟩
 by_cases hE0:E=0
 . subst hE0;have hok:=Jv (Aa HE)
   have hn12:n<=12:=by
    have h1:=hok.1;have h2:=Aa HN;simp[fls]at h1
    omega
   have hvx:∀x∈xs,Ks x.f=0:=fun x hx=>hok.2 x.f (XJ hx)
   have HVX:=Ab hvx;have HB1:=Ab hB1;clear hB1 hok hvx HCC;go_wp2;go_loopw [5,7,16] (fun v5 _ i wr=>∃(k:Nat) (es:List Ev),k<=n/\i=.int .i64 (k:Int)/\Hid (ERow wr w.heap.size v5 es/\es.map (fun y=>y.e.f)=(fls xs).take k/\(∀y∈es,EOf y.e)/\(es= []->v5=.slice none 0 0))/\Hid (Below w.heap.size w wr)) (fun _ _ i _=>n-(intOf i).toNat)
   case atStart=>exact⟨0,[],VK _,rfl,Ab ⟨ERow.nil _ _,by simp,(fun y hy=>absurd hy XB),fun _=>rfl⟩,HB1⟩
   case round=>
    obtain⟨k,es,hk,rfl,HR,HB⟩:=hrel
    have hel:es.length=k:=by
     have:=congrArg List.length (Aa HR).2.1
     have h2:=Aa HN;simp[fls]at this
     omega
    by_cases hlt:k<n
    . obtain⟨x,hx,hxm⟩:=Ri (xs:=xs) (k:=k) (by rw[Aa HN];exact hlt);obtain⟨b,o,rfl,hb,c0,c1,c2,c3,c4⟩:=(Aa HI).get (Aa HB) hx;have hz:=(Aa HB).size;have hxin:=(Aa HI).all x hxm;have HEO:=Ab (fun(W:World) (hW:Below w.heap.size w W)=>Q0 x W (hxin.below hW (VC _)) (by have:=Hu (Aa HVX x hxm);omega));have hfl:(fls xs).take (k+1)=(fls xs).take k++ [x.f]:=Fj (by simp[fls,hx])
      have hxlt:∀g o,x.a=some ⟨g,o,none⟩->x.f.bytes≠ []->g<w.heap.size:=fun g o e1 e2=>by
       have:=Wa (SJ hxin.bs) g o e1 (fun e=>e2 (by rw[<-CW x.f.bytes,e];rfl))
       exact this
      have HXLT:=Ab hxlt;have HFL:=Ab hfl;rw[Tj]at HEO;unfold Fv.sl at c1;clear hx hxm hxin hfl hxlt;have HEL:=Ab hel;have hB2:∀o1:Obj,Below w.heap.size w (wr.alloc o1):=fun o1=>(Aa HB).alloc hz o1
      have HB2:=Ab hB2;have HR2:=Ab (fun o1:Obj=>(Aa HR).1.below ((Below.refl wr.heap.size wr).alloc (VC _) o1));obtain⟨xf,xa,xc⟩:=x;dsimp only at c0 c1 c2 c3 c4;have HEO':=HEO;clear hB2 hel;generalize hnm:B xf.name=nm at c0 HEO;generalize hbl:xf.bytes.length=bl at c1 HEO;generalize hst:xf.stamp=st at c2 HEO;generalize hnd:xf.node=nd at c3 HEO;generalize hgn:xf.gone=gn at c4 HEO;clear hnm hbl hst hnd hgn HEO';go_wp2_with fail
      refine(Aa HEO _ (Aa HB2 _)).mono ?_;rintro e w2 ⟨y,rfl,hyf,hyo,hyi,hB3,hya,hyp⟩;replace hyf:y.e.f=xf:=hyf;replace hya:y.fa=xa:=hya;have hB4:=(Aa HB2 _).trans (hB3.mono (by simp;omega));have hrow:=(Aa HR2 _).below hB3
      have hlies:y.lies (fun g=>some g≠u5.ownBlock):=by
       have hold:∀g o,xa=some ⟨g,o,none⟩->xf.bytes≠ []->some g≠u5.ownBlock:=fun g o e1 e2 e3=>by
        have h1:=Aa HXLT g o e1 e2;have h2:=(hrow.own.lt g e3.symm).1;omega
       constructor
       . intro g o e1 e2;exact hold g o (hya.symm.trans e1) (by rw[<-hyf];exact e2)
       . intro g o e1 e2
         rcases hyp g o e1 e2 with ⟨q1,q2⟩|rfl
         . exact hold g o q1 (by rw[<-hyf];exact q2)
         . intro e3
           have hne:es≠ []:=by
            intro e4;rw[(Aa HR).2.2.2 e4]at e3
            cases e3
           obtain⟨s,hs⟩:=CD hrow e3.symm hne
           rcases hyi.pk.1 with h5|⟨b',o',e5,hb5,hc5⟩
           . exact e2 h5
           . rw[e1]at e5
             cases e5
             have:=hc5 0 (List.length_pos_iff.2 e2)
             rw[WI,hs]at this
             cases this
      have HR3:=Ab (fun o1:Obj=>hrow.below ((Below.refl w2.heap.size w2).alloc (VC _) o1));have HYI:=Ab (fun o1:Obj=>hyi.below ((Below.refl w2.heap.size w2).alloc (VC _) o1));have HYL:=Ab hlies;have HYO:=Ab hyo;have HYF:=Ab hyf;have hz2:=hB4.size;have HB5:=Ab (fun o1:Obj=>hB4.alloc hz2 o1);have hel2:es.length+1<=100000:=by rw[Aa HEL];omega
      have HCE:Hid (∀o1,o1=Obj.cells y.cells.toArray 71->∀j u,y.cells[j]? =some u->(w2.alloc o1).cell? ⟨w2.heap.size,j,none⟩=some u):=Ab (fun o1 e j u hj=>by
       subst e;rw[Ac (heap_alloc_new w2 _)];simpa using hj)
      clear hB3 hB4 hrow hlies hyi hyo hyf hya hyp HEO c0 c1 c2 c3 c4;unfold Ev.val;go_wp2_with (at_builtin;refine Fi _ rfl _ _ rfl w.heap.size _ es rfl (Aa HR3 _) w2.heap.size y rfl (Aa HCE _ rfl) (Aa HYI _) (Aa HYL) hel2 (by simp;omega) ?_)
      intro v' w3 hrow3 hg3
      have HR4:Hid (ERow w3 w.heap.size v' (es++ [y])/\(es++ [y]).map (fun y=>y.e.f)=(fls xs).take (k+1)/\(∀z∈es++ [y],EOf z.e)/\(es++ [y]= []->v'=.slice none 0 0)):=Ab (by
       refine⟨Aa hrow3, ?_,fun z hz=> ?_,fun e=>by simp at e⟩
       . rw[WS,(Aa HR).2.1,Aa HFL];simp[Aa HYF]
       . rcases WJ.1 hz with hz|hz
         . exact(Aa HR).2.2.1 z hz
         . rw[WQ.1 hz];exact Aa HYO)
      have HB6:Hid (Below w.heap.size w w3):=Ab ((Aa HB5 _).grown (Aa hg3) (by simp;omega) (fun g e=>((Aa HR3 (.cells y.cells.toArray 71)).own.lt g e).1));clear hrow3 hg3;go_wp2;go_roundw
      case rel=>exact⟨k+1,es++ [y],by omega,by go_num,HR4,HB6⟩
      case measure=>simp[intOf];omega
    . obtain rfl:n=k:=by omega
      obtain⟨hrow,hfs,heo,_⟩:=Aa HR;have hta:(fls xs).take n=fls xs:=VP (by simp[fls,Aa HN]);rw[hta]at hfs;obtain⟨ad2,c2,hv,hes⟩:=hrow.entries;rw[hel]at hv;subst hv;obtain⟨l,hll⟩:∃l,es.map Ev.e=l:=⟨_,rfl⟩
      have hlf:l.map En.f=fls xs:=by rw[<-hll,ZL];exact hfs
      have hlo:∀x∈l,EOf x:=by
       rw[<-hll];intro x hx;obtain⟨y,hy,rfl⟩:=XC.1 hx;exact heo y hy
      have hev:∀x∈l,Ks x.f=0:=fun x hx=>by
       have:x.f∈fls xs:=by rw[<-hlf];exact XJ hx
       obtain⟨z,hz,hze⟩:=XC.1 this;rw[<-hze];exact Aa HVX z hz
      have hnum:∀x∈es,ENum x.e:=fun x hx=>((hlo x.e (by rw[<-hll];exact XJ hx)).num (hev x.e (by rw[<-hll];exact XJ hx))).1
      have HCA:=Ab (Sl ad2 c2 n es wr hes hel hn12 hnum);rw[hll]at HCA;have HLF:=Ab hlf;have HLO:=Ab hlo;clear hrow hfs heo hta hes hll hlf hlo hev hnum hel;go_wp2_with fail
      refine(Aa HCA).mono ?_;rintro e w4 ⟨v4,rfl,ho,hB4⟩;obtain⟨a4,c4,rfl,q1,q2,q3,q4⟩:=Uh ho;have hB5:=(Aa HB).trans (hB4.mono (Aa HB).size);obtain⟨AL,hAL⟩:∃AL,(Ba l).length=AL:=⟨_,rfl⟩
      rw[hAL]at q2;rw[hAL]
      by_cases hbig:12000<AL
      . have HF:Hid (WrA w (fls xs) (.returned (.tuple #[.slice none 0 0,.int .i64 11])) w4):=Ab ⟨hB5,.inr ⟨Aa HE,l,Aa HLF,Aa HLO,.inl ⟨by rw[hAL];exact hbig,rfl⟩⟩⟩;have hbI:(12000:Int)<(AL:Int):=by omega
        clear hB4 hB5 ho q1 q2 q3 q4 hAL hbig HCA;go_wp2;go_ret2;exact Aa HF
      . have HF:Hid (WrA w (fls xs) (.returned (.tuple #[.slice a4 AL c4,.int .i64 0])) w4):=Ab ⟨hB5,.inr ⟨Aa HE,l,Aa HLF,Aa HLO,.inr ⟨by rw[hAL];omega,a4,c4,by rw[hAL],by rw[hAL];exact q2,q1⟩⟩⟩;have hbI:¬(12000:Int)<(AL:Int):=by omega
        clear hB4 hB5 ho q1 q2 q3 q4 hAL hbig HCA;go_wp2;go_ret2;exact Aa HF
 . have HF:Hid (WrA w (fls xs) (.returned (.tuple #[.slice none 0 0,.int .i64 (E:Int)])) w1):=Ab ⟨hB1,.inl ⟨by rw[Aa HE];exact hE0,by rw[Aa HE]⟩⟩;have hEb:((E:Int)==0)=false:=by rw[beq_eq_false_iff_ne];omega
   have hEc:((E:Int)!=0)=true:=by rw[bne,hEb];rfl
   clear hB1 hE0;go_wp2;go_ret2;exact Aa HF
theorem EOf.ok {x:En}(h:EOf x)(hv:Ks x.f=0):EOk x:=by
 obtain⟨hn,hp⟩:=h.num hv;have h2:=(Hu hv).2.1;refine⟨⟨hn.st.1,by have:=hn.st.2;omega⟩,⟨hn.nd.1,by have:=hn.nd.2;omega⟩,by have:=hn.nm;omega,by have:=hn.pl;omega,hn.cr,hn.mt, ?_⟩;obtain⟨out,ho,(⟨q1,q2,q3⟩|⟨q1,q2,q3⟩)⟩:=h.pk
 . have hu:=QE ho (Z2r _) (Cv (Ir _)) (by rw[Cd];exact h2) [] 0;rw[WZ,XL]at hu;unfold unpF;rw[q2,q3,if_neg (by decide),if_pos rfl,if_pos ⟨by omega,hu.2.1,hu.2.2⟩,hu.1]
 . unfold unpF;rw[q2,q3,if_pos rfl]
theorem Ti (l:List En)(hE:Nh (l.map En.f)=0)(ho:∀x∈l,EOf x)(hn:(Ba l).length<=12000):
 (∀x∈l,EOk x)/\Id (Ba l)=0/\Hk (Ba l)=l.map En.f:=by
 have hv:∀x∈l,Ks x.f=0:=fun x hx=>(Jv hE).2 x.f (XJ hx)
 have hk:∀x∈l,EOk x:=fun x hx=>(ho x hx).ok (hv x hx)
 refine⟨hk,IK l hk hE ?_ hn⟩;unfold Qb;rw[WT];intro x hx;exact decide_eq_true (ho x hx).cr
theorem SM:∀(l:List En),(Ba l).length=22+(Ar l).length+(Am 0 l).length:=fun l=>by
 unfold Ba;rw[VB,VB,Mg];omega
def Z43:Go.Shelf.Ren:=⟨fun|193=>18|n=>n,fun|31=>43|9=>9|4=>4|3=>3|0=>0|n=>n,fun|n=>n⟩
theorem Rr:Go.Proofs.Lays.n193 Tryz.prog Z43:= {
 mixed:=by kernel_rfl
 f193:=Tryz.func18.trans (congrArg some (by kernel_rfl))
 t0:=Tryz.underlying0
 a0:=Tryz.isAgg0
 z0:=Tryz.sizeOf0
 v0:=Tryz.zeroValue0
 t3:=Tryz.underlying3
 a3:=Tryz.isAgg3
 z3:=Tryz.sizeOf3
 v3:=Tryz.zeroValue3
 t4:=Tryz.underlying4
 a4:=Tryz.isAgg4
 z4:=Tryz.sizeOf4
 v4:=Tryz.zeroValue4
 t9:=Tryz.underlying9
 a9:=Tryz.isAgg9
 z9:=Tryz.sizeOf9
 v9:=Tryz.zeroValue9
 t31:=Tryz.underlying43
 a31:=Tryz.isAgg43
 z31:=Tryz.sizeOf43
 v31:=Tryz.zeroValue43}
theorem TU (ps:List (List UInt8))(j:Nat)(hj:j<(ps.map B).length):(ps.map B)[j]? =some ((ps.map B).getD j ByteArray.empty):=by
 simp only[WG]at hj;simp[List.getD,hj]
theorem Z42 {b c:Nat}{v u:Value}{ps qs:List (List UInt8)}{w:World}(h:SRow w b v ps)(h2:SRow w c u qs):
 Calls Tryz.prog 18 #[v,u] w fun e w'=>e=.returned (.bool (decide (ps=qs)))/\∃q,w'=w.drewN q:=by
 have done0:∀w':World,w'=w->∃q,w'=w.drewN q:=fun w' e=>⟨0,by rw[e];rfl⟩
 rcases h.cases with ⟨rfl,rfl⟩|⟨g,cap,rfl,hg,hgs,hc,hm,hcell⟩
 . rcases h2.cases with ⟨rfl,rfl⟩|⟨g2,cap2,rfl,hg2,hgs2,hc2,hm2,hcell2⟩
   . refine(Any.slices_Equal_string_empty Rr none none 0 0 0 w (by decide)).mono ?_;rintro e w' ⟨rfl,hw⟩;exact⟨rfl,done0 _ hw⟩
   . unfold maxLen at hm2;refine(Any.slices_Equal_string_empty Rr none _ 0 qs.length cap2 w (by omega)).mono ?_;rintro e w' ⟨rfl,hw⟩;refine⟨De ?_,done0 _ hw⟩;rw[decide_eq_decide];rw[ZG];exact⟨fun e=>e.symm,fun e=>e.symm⟩
 . rcases h2.cases with ⟨rfl,rfl⟩|⟨g2,cap2,rfl,hg2,hgs2,hc2,hm2,hcell2⟩
   . by_cases h0:ps.length=0
     . rw[h0];refine(Any.slices_Equal_string_empty Rr _ none cap 0 0 w (by decide)).mono ?_;rintro e w' ⟨rfl,hw⟩;refine⟨De ?_,done0 _ hw⟩;rw[ZG.1 h0];rfl
     . refine(Any.slices_Equal_string_lens Rr _ none ps.length cap 0 0 w h0).mono ?_;rintro e w' ⟨rfl,hw⟩;refine⟨De ?_,done0 _ hw⟩;have:ps≠ []:=fun e=>h0 (by rw[e];rfl)
       simp[this]
   . unfold maxLen at hm hm2;refine(Any.slices_Equal_string Rr g 0 ps.length cap g2 0 qs.length cap2 (ps.map B) (qs.map B) w (by simp) (by simp) (by omega) (by omega) (fun j hj=>hcell j _ (TU ps j hj)) (fun j hj=>hcell2 j _ (TU qs j hj))).mono ?_;rintro e w' ⟨rfl,hw⟩;refine⟨De ?_,hw⟩;rw[decide_eq_decide,VP (by simp),VP (by simp)]
     constructor
     . intro e;have:=congrArg (List.map fun x:ByteArray=>x.data.toList) e
       simp only[ZL]at this;have e3:((fun x:ByteArray=>x.data.toList) ∘ B)=id:=by funext l;rfl
       rw[e3,List.map_id,List.map_id]at this;exact this
     . intro e;rw[e]
theorem KE:(Tryz.prog.info? 9).map (fun i=>(i.zero,i.size,i.bytes))=some (some (.string ByteArray.empty),1,16):=by kernel_rfl
theorem BJ (n cap:Nat)(a:Option Addr)(bs:List Nat)(w:World)(hl:bs.length=n)(hc:n<=cap)(hP:PkIn w a cap bs)(hv:∀x∈bs,x<256)(hm:n<=9223372036854775807)(hS:Z2y bs):
 Calls Tryz.prog 15 #[.slice a n cap] w fun e w'=>∃v,e=.returned (.tuple #[v,.int .i64 (Id bs:Nat)])/\SRow w' w.heap.size v ((Hk bs).map Fl.name)/\Below w.heap.size w w':=by
 obtain⟨i0,hi,hz0,hz1,hz2⟩:=info_parts KE;have HC:=Ab (Xj n cap a bs w hl hc hP hv hm hS);clear hS
 have hl12:(Hk bs).length<=12:=by
  by_cases h0:Id bs=0
  . obtain⟨l,_,h2,_,_,h5,_⟩:=IJ h0;rw[h5];exact(Jv h2).1
  . unfold Hk;rw[if_pos h0];exact VK _
 have hbad:Id bs≠0->Hk bs= []:=fun h=>by unfold Hk;rw[if_pos h]
 unfold RdA at HC;obtain⟨E,hE⟩:∃E,Id bs=E:=⟨_,rfl⟩
 obtain⟨fs,hfs⟩:∃fs,Hk bs=fs:=⟨_,rfl⟩
 rw[hE,hfs]at HC hbad;rw[hfs]at hl12;rw[hE,hfs];have HBAD:=Ab hbad;clear hl hP hv hbad hE hfs;go_enter Tryz.func15,Tryz.ntmps15
 go_wp2_with fail
 refine(Aa HC).mono ?_;rintro e w1 ⟨v,rfl,⟨ad,c,xs,rfl,hx,hxl⟩,hB1⟩;obtain⟨k,hk⟩:∃k,fs.length=k:=⟨_,rfl⟩
 rw[hk]at hl12 ⊢;have hxn:xs.length=k:=by rw[<-hk,<-hxl];simp[fls]
 by_cases hE0:E=0
 . subst hE0;have HX:=Ab hx;have HXL:=Ab hxl;have HXN:=Ab hxn;have HK:=Ab hk;have HB1:=Ab hB1;clear hx hxl hxn hk hB1 HC;go_wp2;go_loopw [6,8,19] (fun v6 _ i wr=>∃j:Nat,j<=k/\i=.int .i64 (j:Int)/\Hid (SRow wr w1.heap.size v6 ((fs.take j).map Fl.name))/\Hid (Below w1.heap.size w1 wr)) (fun _ _ i _=>k-(intOf i).toNat)
   case atStart=>exact⟨0,VK _,rfl,Ab (SRow.nil _ _),Ab (Below.refl _ _)⟩
   case round=>
    obtain⟨j,hj,rfl,HS,HB⟩:=hrel
    by_cases hlt:j<k
    . obtain⟨x,hx,hxm⟩:=Ri (xs:=xs) (k:=j) (by rw[Aa HXN];exact hlt);obtain⟨b,o,rfl,hb,c0,c1,c2,c3,c4⟩:=(Aa HX).get (Aa HB) hx;have hz:=(Aa HB).size;have hz1':=(Aa HB1).size
      have htk:(fs.take (j+1)).map Fl.name=(fs.take j).map Fl.name++ [x.f.name]:=by
       have:fs[j]? =some x.f:=by rw[<-Aa HXL];simp[fls,hx]
       rw[Fj this];simp
      have hln:((fs.take j).map Fl.name).length=j:=by rw[WG,VM,Aa HK];omega
      unfold Fv.sl at c1;have hS:=Aa HS;unfold SRow at hS;rw[hln]at hS;obtain⟨NS,hNS⟩:∃NS,(fs.take j).map Fl.name=NS:=⟨_,rfl⟩
      rw[hNS]at hS htk hln;have HTK:=Ab htk;clear hNS;have HO:=Ab (fun o1 o2:Obj=>(hS.alloc o1).alloc o2);have HB2:=Ab (fun o1 o2:Obj=>((Aa HB).alloc hz o1).alloc (by simp;omega) o2);have hbl:∀g,u6.ownBlock=some g->w1.heap.size<=g:=fun g e=>(hS.lt g e).1
      have HBL:=Ab hbl;have HLN:=Ab hln;obtain⟨⟨nml,bys,st,nd,gn⟩,xa,xc⟩:=x;dsimp only at c0 c1 c2 c3 c4;obtain⟨nm,hnm⟩:∃nm,B nml=nm:=⟨_,rfl⟩
      rw[hnm]at c0;have HNM:=Ab hnm;generalize bys.length=bl at c1;clear hx hxm htk hln hnm hS hbl;go_wp2_with (at_builtin;refine wpList_append_own_at _ rfl _ _ 43 rfl w1.heap.size 9 i0 (.string ByteArray.empty) 1 16 Tryz.underlying43 hi hz0 hz1 hz2 rfl (by decide) _ j (So NS) rfl (Aa HO _ _) ⟨wr.heap.size+1,0,none⟩ 1 1 [.string nm] rfl rfl (fun i u hi=>Pa (Mk (by simp)) hi) (Fd rfl) (by unfold maxLen;omega) (by omega) (by simp;omega) ?_)
      intro v' w3 hO3 hg3 _ _
      have HS3:Hid (SRow w3 w1.heap.size v' ((fs.take (j+1)).map Fl.name)):=Ab (by
       rw[Aa HTK];unfold SRow;rw[VB,Aa HLN,So,WS];rw[<-Aa HNM]at hO3;exact hO3)
      have HB3:Hid (Below w1.heap.size w1 w3):=Ab ((Aa HB2 _ _).grown hg3 (by simp;omega) (Aa HBL));clear hO3 hg3 c0 c1 c2 c3 c4;go_wp2;go_roundw
      case rel=>exact⟨j+1,by omega,by go_num,HS3,HB3⟩
      case measure=>simp[intOf];omega
    . obtain rfl:k=j:=by omega
      have hta:fs.take k=fs:=VP (by rw[Aa HK];exact VC _);have HTA:=Ab hta;clear hta;go_wp2;go_ret2;exact⟨_,rfl,by have:=Aa HS;rw[Aa HTA]at this;exact this.mono (Aa HB1).size,(Aa HB1).trans ((Aa HB).mono (Aa HB1).size)⟩
 . have hf0:=Aa HBAD hE0;subst hf0;have HB1:=Ab hB1;have hEb:((E:Int)==0)=false:=by rw[beq_eq_false_iff_ne];omega
   have hEc:((E:Int)!=0)=true:=by rw[bne,hEb];rfl
   clear hx hxl hxn hk hB1 HC hE0;go_wp2;go_ret2;exact⟨_,rfl,SRow.nil _ _,Aa HB1⟩
end Go.Proofs.YtleocpdblhbimaaGreatDoor
