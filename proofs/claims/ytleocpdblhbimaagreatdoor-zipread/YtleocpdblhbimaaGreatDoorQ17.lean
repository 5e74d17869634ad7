import Derived.Test.YtleocpdblhbimaaGreatDoorQ16
import Derived.Shelf.Strings.SlTrimAscii
set_option linter.unusedSimpArgs false
set_option maxHeartbeats 4000000
namespace Go.Proofs.YtleocpdblhbimaaGreatDoor
open Go.RowKit
set_option linter.unusedVariables false
set_option maxRecDepth 100000
theorem M3 {f:Fl}(h:Kg f.name≠0):Mq f=Kg f.name:=by unfold Mq;rw[if_pos h]
theorem M4 {f:Fl}(h:Kg f.name=0)(h2:3000<f.bytes.length):Mq f=2:=by unfold Mq;rw[if_neg (by simp[h]),if_pos h2]
theorem Vs {f:Fl}(h:Kg f.name=0)(h2:¬3000<f.bytes.length)(h3:f.stamp<0\/1000000<f.stamp\/f.node<0\/3<f.node):Mq f=3:=by
 unfold Mq;rw[if_neg (by simp[h]),if_neg h2,if_pos h3]
theorem M2 {f:Fl}(h:Kg f.name=0)(h2:¬3000<f.bytes.length)(h3:¬(f.stamp<0\/1000000<f.stamp\/f.node<0\/3<f.node)):Mq f=if f.gone=true/\0<f.bytes.length then 4 else 0:=by
 unfold Mq;rw[if_neg (by simp[h]),if_neg h2,if_neg h3]
theorem Yr (x:Fv)(w:World)(h:FvIn w x):
 Calls Tryz.prog 52 #[x.val] w fun e w'=>e=.returned (.int .i64 (Mq x.f:Nat))/\Below w.heap.size w w':=by
 have hc:=fun W=>QV x.f.name W (by have:=h.txt;unfold maxLen;omega)
 have e0:= @M3 x.f;have e1:= @M4 x.f;have e2:= @Vs x.f;have e3:= @M2 x.f;rw[Nw];clear h;obtain⟨⟨nm,bs,st,nd,gn⟩,a,c⟩:=x;simp only at*
 have hbox:∀W W':World,Below W.heap.size W W'->Below W.heap.size W W':=fun _ _ h=>h
 generalize B nm=t at*;generalize bs.length=n at*;have HC:=Ab hc
 by_cases h0:Kg nm=0
 . replace e1:=e1 h0;replace e2:=e2 h0;replace e3:=e3 h0;rw[h0]at HC;clear e0 h0 hc
   have leaf:∀(E:Nat),Hid (Mq ⟨nm,bs,st,nd,gn⟩=E)->Hid ((E=2/\3000<n)\/ (E=3/\n<=3000/\(st<0\/ (0<=st/\1000000<st)\/ (0<=st/\st<=1000000/\nd<0)\/ (0<=st/\st<=1000000/\0<=nd/\4<=nd)))\/ (E=4/\n<=3000/\0<=st/\st<=1000000/\0<=nd/\nd<4/\gn=true/\0<n)\/ (E=0/\n<=3000/\0<=st/\st<=1000000/\0<=nd/\nd<4/\gn=true/\n=0)\/ (E=0/\n<=3000/\0<=st/\st<=1000000/\0<=nd/\nd<4/\gn=false))->
    Calls Tryz.prog 52 #[.agg #[.string t,.slice a n c,.int .i64 st,.int .i64 nd,.bool gn]] w fun e w'=>e=.returned (.int .i64 ((Mq ⟨nm,bs,st,nd,gn⟩:Nat):Int))/\Below w.heap.size w w':=by
    intro E hE hcs;rw[Aa hE];clear e1 e2 e3 hE
    rcases Aa hcs with ⟨rfl,h1⟩|⟨rfl,h1,h2|⟨h2,h3⟩|⟨h2,h3,h4⟩|⟨h2,h3,h4,h5⟩⟩|⟨rfl,h1,h2,h3,h4,h5,rfl,h6⟩|⟨rfl,h1,h2,h3,h4,h5,rfl,rfl⟩|⟨rfl,h1,h2,h3,h4,h5,rfl⟩
    all_goals (
     clear hcs;go_enter Tryz.func52,Tryz.ntmps52
     go_wp2_with fail
     refine(Aa HC _).mono ?_;rintro e w' ⟨rfl,hb⟩;have c1:=(hb.cell (p:=⟨w.heap.size,1,none⟩) (by simp)).trans (by simp;rfl);have c2:=(hb.cell (p:=⟨w.heap.size,2,none⟩) (by simp)).trans (by simp;rfl);have c3:=(hb.cell (p:=⟨w.heap.size,3,none⟩) (by simp)).trans (by simp;rfl);have c4:=(hb.cell (p:=⟨w.heap.size,4,none⟩) (by simp)).trans (by simp;rfl);have HB:=Ab (((Below.refl w.heap.size w).alloc (VB _) _).trans (hb.mono (by simp)));clear hb;go_wp2;go_ret;exact⟨rfl,Aa HB⟩)
   have HN:=Ab (rfl:bs.length=bs.length)
   by_cases h1:3000<n
   . exact leaf 2 (e1 h1) (.inl ⟨rfl,h1⟩)
   . by_cases h3:st<0\/1000000<st\/nd<0\/3<nd
     . refine leaf 3 (e2 h1 h3) (.inr (.inl ⟨rfl,by omega,by omega⟩))
     . have e4:=e3 h1 h3
       cases gn with
       |true=>
        by_cases hn:0<n
        . exact leaf 4 (by rw[e4,if_pos ⟨rfl,hn⟩];rfl) (.inr (.inr (.inl ⟨rfl,by omega,by omega,by omega,by omega,by omega,rfl,hn⟩)))
        . exact leaf 0 (by rw[e4,if_neg (fun k=>hn k.2)];rfl) (.inr (.inr (.inr (.inl ⟨rfl,by omega,by omega,by omega,by omega,by omega,rfl,by omega⟩))))
       |false=>exact leaf 0 (by rw[e4,if_neg (fun k=>by cases k.1)];rfl) (.inr (.inr (.inr (.inr ⟨rfl,by omega,by omega,by omega,by omega,by omega,rfl⟩))))
 . rw[e0 h0];clear e0 e1 e2 e3 hc;obtain⟨k,hk⟩:∃k,Kg nm=k:=⟨_,rfl⟩
   rw[hk]at HC h0 ⊢;go_enter Tryz.func52,Tryz.ntmps52
   go_wp2_with fail
   refine(Aa HC _).mono ?_;rintro e w' ⟨rfl,hb⟩;have HB:=Ab (((Below.refl w.heap.size w).alloc (VB _) _).trans (hb.mono (by simp)));clear hb;go_wp2;go_ret;exact⟨rfl,Aa HB⟩
def ahd (xs:List Fv):Nat->Option Fl
 |0=>none
 |k+1=>(fls xs)[k]?
theorem M5 {xs:List Fv}{k:Nat}{x:Fv}(h:xs[k]? =some x):
 DH (ahd xs k) ((fls xs).drop k)=if Mq x.f≠0 then Mq x.f else if behind (ahd xs k) x.f=false then 4 else DH (ahd xs (k+1)) ((fls xs).drop (k+1)):=by
 have hf:(fls xs)[k]? =some x.f:=by simp[fls,h]
 have hlt:k<(fls xs).length:=by
  rcases ZQ k (fls xs).length with h'|h'
  . exact h'
  . rw[WJ h']at hf;cases hf
 have e:(fls xs).drop k=x.f::(fls xs).drop (k+1):=by
  rw[WS hlt]
  congr 1
  rw[VP hlt]at hf;exact VM hf
 rw[e,DH];show _=if Mq x.f≠0 then Mq x.f else if behind (ahd xs k) x.f=false then 4 else DH ((fls xs)[k]?) _
 rw[hf]
theorem Z2c (x y:List UInt8):Op.bytesLess (B x).toList (B y).toList=decide (Pq x y<0):=by rw[Fh,Fh,CG]
theorem Z2d (x y:List UInt8):((B x).toList==(B y).toList)=decide (Pq x y=0):=by
 rw[Fh,Fh,XZ,beq_iff_eq,decide_eq_true_iff,QQ]
theorem IZ (ad:Option Addr)(n c:Nat)(w:World)(h:12<n):Calls Tryz.prog 34 #[.slice ad n c] w fun e w'=>e=.returned (.int .i64 2)/\w'=w:=by
 go_enter Tryz.func34,Tryz.ntmps34
 go_wp2;go_ret;exact⟨rfl,rfl⟩
theorem Sv (ad:Option Addr)(c:Nat)(xs:List Fv)(w:World)(h:FsIn w ad c xs)(n:Nat)(hn:xs.length=n):
 Calls Tryz.prog 34 #[.slice ad n c] w fun e w'=>e=.returned (.int .i64 (errM (fls xs):Nat))/\Below w.heap.size w w':=by
 have hl:(fls xs).length=n:=by simp[fls,hn]
 by_cases hm:12<n
 . have e:errM (fls xs)=2:=by unfold errM;rw[if_pos (by omega)]
   rw[e];refine(IZ ad n c w hm).mono ?_;rintro e w' ⟨rfl,rfl⟩;exact⟨rfl,Below.refl _ _⟩
 . have e:errM (fls xs)=DH none (fls xs):=by unfold errM;rw[if_neg (by omega)]
   obtain⟨E,hE⟩:∃E,DH none (fls xs)=E:=⟨_,rfl⟩
   rw[e,hE];have HI:=Ab h;have HN:=Ab hn;have HE:=Ab hE;have HL:=Ab hl;clear h e hE hn hl;go_enter Tryz.func34,Tryz.ntmps34
   go_wp2;go_loopw [3,4,5,11] (fun _ _ _ i wr=>∃k:Nat,k<=n/\i=.int .i64 (k:Int)/\Hid (DH (ahd xs k) ((fls xs).drop k)=E)/\Hid (Below w.heap.size w wr)) (fun _ _ _ i _=>n-(intOf i).toNat)
   case atStart=>exact⟨0,VH _,rfl,Aa HE,Below.refl _ _⟩
   case round=>
    obtain⟨k,hk,rfl,HR,HB⟩:=hrel
    by_cases hlt:k<n
    . obtain⟨x,hx,hxm⟩:=Ob (xs:=xs) (k:=k) (by rw[Aa HN];exact hlt);obtain⟨b,o,rfl,hb,c0,c1,c2,c3,c4⟩:=(Aa HI).get (Aa HB) hx;have hst:=M5 hx;rw[Aa HR]at hst;have hz:=(Aa HB).size;have HCK:=Ab (fun W (hW:Below w.heap.size w W)=>Yr x W (((Aa HI).all x hxm).below hW (VB _)));have HS:=Ab hst;rw[Nw]at HCK;unfold Fv.sl at c1;obtain⟨er,her⟩:∃er,Mq x.f=er:=⟨_,rfl⟩
      rw[her]at HCK HS;clear hst her hxm;have HX:=Ab hx;clear hx;obtain⟨xf,xa,xc⟩:=x;simp only at*
      have hname:∃nm,xf.name=nm:=⟨_,rfl⟩
      obtain⟨nm,hnm⟩:=hname;rw[hnm]at c0 HCK;obtain⟨t,ht⟩:∃t,B nm=t:=⟨_,rfl⟩
      rw[ht]at c0 HCK;have HT:=Ab ht;have HNM:=Ab hnm;clear ht hnm;generalize xf.bytes.length=nb at*;generalize xf.stamp=st at*;generalize xf.node=nd at*;generalize xf.gone=gn at*;have hbl:∀o',Below w.heap.size w (wr.alloc o'):=fun o'=>(Aa HB).alloc hz o'
      have HBL:=Ab hbl;clear hbl
      by_cases he:er=0
      . subst he
        cases k with
        |zero=>
         simp only[YJ,XN]at c0 c1 c2 c3 c4;have hst:=Aa HS;rw[if_neg (by simp),if_neg (by simp[ahd,behind])]at hst;have HN2:=Ab hst;clear hst;go_wp2_with fail
         refine(Aa HCK _ (Aa HBL _)).mono ?_;rintro e w1 ⟨rfl,hb1⟩;have HB1:=Ab ((Aa HBL _).trans (hb1.mono (by simp;omega)));clear hb1;go_wp2;go_quiet (fail)
         go_wp2;go_roundw
         case rel=>exact⟨1,by omega,by go_num,(Aa HN2).symm,Ae (Aa HB1) _⟩
         case measure=>simp[intOf];omega
        |succ j=>
         obtain⟨y,hy,hym⟩:=Ob (xs:=xs) (k:=j) (by rw[Aa HN];omega);obtain⟨b',o',hab,hb',d0,_⟩:=(Aa HI).get (Aa HB) hy
         cases hab
         have hst:=Aa HS;rw[if_neg (by simp)]at hst;have ha:ahd xs (j+1)=some y.f:=by show (fls xs)[j]? =_;simp[fls,hy]
         rw[ha]at hst;have hle:=Z2c nm y.f.name;have heq:=Z2d nm y.f.name;have hbh:behind (some y.f) xf=decide (Pq y.f.name nm<0):=by show decide (Pq y.f.name xf.name<0)=_;rw[Aa HNM]
         rw[hbh]at hst;have hanti:=Su nm y.f.name;rw[Aa HT]at hle heq;generalize B y.f.name=t' at*;generalize y.f.name=ny at*;clear hbh ha hy hym;have hji:((j+1:Nat):Int)-1=(j:Int):=by omega
         have hjn:(j:Int)<(n:Int):=by omega
         by_cases h1:Pq nm ny=1
         . rw[h1]at hle heq hanti;rw[if_neg (by rw[hanti];decide)]at hst;have HN2:=Ab hst;simp only[Int.reduceLT,Int.reduceEq,decide_false]at hle heq;clear hst hanti h1;go_wp2_with fail
           refine(Aa HCK _ (Aa HBL _)).mono ?_;rintro e w1 ⟨rfl,hb1⟩;have HB1:=Ab ((Aa HBL _).trans (hb1.mono (by simp;omega)));have q0:w1.cell? ⟨wr.heap.size,0,none⟩=some (.string t):=(hb1.cell (p:=⟨wr.heap.size,0,none⟩) (by simp)).trans (by simp);have r0:w1.cell? ⟨b,o+j*5,none⟩=some (.string t'):=(hb1.cell (p:=⟨b,o+j*5,none⟩) (by simp;omega)).trans ((World.cell?_alloc_past _ _ _ (by show b<wr.heap.size;omega)).trans d0);clear hb1;go_wp2;go_quiet (fail)
           go_wp2;go_roundw
           case rel=>exact⟨j+2,by omega,by go_num,(Aa HN2).symm,Ae (Aa HB1) _⟩
           case measure=>simp[intOf];omega
         . have h2:(Pq nm ny= -1\/Pq nm ny=0):=by rcases Kd nm ny with h|h|h<;>omega
           rw[if_pos (by rw[hanti];apply decide_eq_false;omega)]at hst;have HN2:=Ab hst;clear hst hanti h1
           rcases h2 with h2|h2
           all_goals (
            rw[h2]at hle heq;simp only[Int.reduceLT,Int.reduceEq,Int.reduceNeg,decide_true,decide_false]at hle heq;clear h2;go_wp2_with fail
            refine(Aa HCK _ (Aa HBL _)).mono ?_;rintro e w1 ⟨rfl,hb1⟩;have HB1:=Ab ((Aa HBL _).trans (hb1.mono (by simp;omega)));have q0:w1.cell? ⟨wr.heap.size,0,none⟩=some (.string t):=(hb1.cell (p:=⟨wr.heap.size,0,none⟩) (by simp)).trans (by simp);have r0:w1.cell? ⟨b,o+j*5,none⟩=some (.string t'):=(hb1.cell (p:=⟨b,o+j*5,none⟩) (by simp;omega)).trans ((World.cell?_alloc_past _ _ _ (by show b<wr.heap.size;omega)).trans d0);clear hb1;go_wp2;go_quiet (fail)
            go_wp2;go_ret;exact⟨Dd (by rw[Aa HN2];rfl),Ae (Aa HB1) _⟩)
      . have hst:=Aa HS;rw[if_pos (by simpa using he)]at hst;have HN2:=Ab hst;clear hst;go_wp2_with fail
        refine(Aa HCK _ (Aa HBL _)).mono ?_;rintro e w1 ⟨rfl,hb1⟩;have HB1:=Ab ((Aa HBL _).trans (hb1.mono (by simp;omega)));clear hb1;go_wp2;go_ret;exact⟨Dd (by rw[Aa HN2]),Aa HB1⟩
    . obtain rfl:n=k:=by omega
      go_wp2;go_ret;have:=Aa HR
      rw[XQ (by rw[Aa HL];exact VB _)]at this;exact⟨Dd (by rw[<-this];rfl),Aa HB⟩
theorem FsIn.new (w:World)(xs:List Fv)(t:TypeId)(A:Array Value)(n:Nat)(hA:A=(fcells xs).toArray)(hn:xs.length=n)(h:∀x∈xs,FvIn w x)(hl:xs.length<=2199023255552):FsIn (w.alloc (.cells A t)) (some ⟨w.heap.size,0,none⟩) n xs:=by
 subst hn;refine⟨.inr ⟨w.heap.size,0,rfl,by simp, ?_⟩,VB _,by omega,hl,fun x hx=>(h x hx).alloc _⟩;intro j x hj
 have hc:∀i u,i<5->x.cells[i]? =some u->(w.alloc (.cells A t)).cell? ⟨w.heap.size,0+j*5+i,none⟩=some u:=by
  intro i u hi hu;rw[World.cell?_alloc_at _ _ _ _ rfl,hA];have e:=Sa xs j x i hj hi;rw[WG];simpa using e.trans hu
 exact⟨hc 0 _ (by decide) rfl,hc 1 _ (by decide) rfl,hc 2 _ (by decide) rfl,hc 3 _ (by decide) rfl,hc 4 _ (by decide) rfl⟩
def LIn (w:World)(v:Value)(l:List Fl):Prop:=∃ad c out,v=.slice ad l.length c/\FsIn w ad c out/\fls out=l
theorem LIn.below {w w':World}{v:Value}{l:List Fl}(h:LIn w v l)(hB:Below w.heap.size w w'):LIn w' v l:=by
 obtain⟨ad,c,out,h1,h2,h3⟩:=h;exact⟨ad,c,out,h1,h2.below hB (VB _),h3⟩
theorem LIn.shape {w:World}{v:Value}{l:List Fl}(h:LIn w v l):∃ad c,v=.slice ad l.length c:=by
 obtain⟨ad,c,out,h1,_⟩:=h;exact⟨ad,c,h1⟩
theorem PH {out:List Fv}{l:List Fl}(h:fls out=l):out.length=l.length:=by rw[<-h];simp[fls]
theorem Z6s {w:World}{ad:Option Addr}{c n:Nat}{xs:List Fv}(h:FsIn w ad c xs)(hn:xs.length=n):LIn w (.slice ad n c) (fls xs):=⟨ad,c,xs,by rw[<-hn];simp[fls],h,rfl⟩
def RdA (w:World)(bs:List Nat)(e:Ending)(w':World):Prop:=∃v,e=.returned (.tuple #[v,.int .i64 (readE bs:Nat)])/\LIn w' v (readL bs)/\Below w.heap.size w w'
theorem LIn.nil (w:World):LIn w (.slice none 0 0) []:=⟨none,0,[],rfl,FsIn.nil w,rfl⟩
theorem RdA.bad {w w':World}{bs:List Nat}{k:Nat}(h:readE bs=k)(hk:k≠0)(hB:Below w.heap.size w w'):RdA w bs (.returned (.tuple #[.slice none 0 0,.int .i64 (k:Int)])) w':=by
 have hl:readL bs= []:=by unfold readL;rw[if_pos (by rw[h];exact hk)]
 exact⟨.slice none 0 0,by rw[h],by rw[hl];exact LIn.nil _,hB⟩
theorem DA (es:List Ev):fls (es.map Ev.fv)=(es.map Ev.e).map En.f:=by simp[fls,Ev.fv,ZA]
theorem Ps (n cap:Nat)(a:Option Addr)(bs:List Nat)(w:World)(hl:bs.length=n)(hc:n<=cap)(hP:PkIn w a cap bs)(hv:∀x∈bs,x<256)(hm:n<=9223372036854775807)(hS:Z5x bs):
 Calls Tryz.prog 14 #[.slice a n cap] w fun e w'=>RdA w bs e w':=by
 by_cases hn:12000<n
 . have HF:=Ab (RdA.bad (w:=w) (w':=w) (bs:=bs) (k:=2) (by unfold readE;rw[if_pos (by omega)]) (by decide) (Below.refl _ _));have hnI:(12000:Int)<(n:Int):=by omega
   clear hP hv hl hS;go_enter Tryz.func14,Tryz.ntmps14
   go_wp2;go_ret2;exact Aa HF
 . have hre:readE bs=match Cd (n+1) bs with
    |none=>7
    |some l=>if errM (l.map En.f)≠0\/Be l≠bs then 7 else if sumsF l=false then 10 else 0:=by
    conv=>lhs;unfold readE
    rw[if_neg (by omega),hl]
    cases Cd (n+1) bs<;>rfl
   have hrl:readL bs=if readE bs≠0 then []else ((Cd (n+1) bs).getD []).map En.f:=by unfold readL;rw[hl]
   have hnI:¬(12000:Int)<(n:Int):=by omega
   have HC:=Ab (Yk n cap a bs w hl (by omega) hc hP hv hS);have HP:=Ab hP;have HV:=Ab hv;have HRE:=Ab hre;have HRL:=Ab hrl;have HL:=Ab hl;clear hP hv hre hrl hl hS;go_enter Tryz.func14,Tryz.ntmps14
   go_wp2_with fail
   refine(Aa HC).mono ?_;rintro e w1 ⟨hB1,(⟨he,rfl⟩|⟨v,es,he,rfl,hrow,_⟩)⟩
   . have HF:=Ab (RdA.bad (w:=w) (w':=w1) (bs:=bs) (k:=7) (by rw[Aa HRE,he]) (by decide) hB1);clear hB1 he;go_wp2;go_ret2;exact Aa HF
   . obtain⟨ad,c,rfl,hes⟩:=hrow.entries;obtain⟨hel,hnum⟩:=Sg (Aa HV) he;have hpv:=Sf he (Aa HV);have hre:=Aa HRE;rw[he]at hre;dsimp only at hre;have hrl:=Aa HRL;rw[he]at hrl;obtain⟨l,hll⟩:∃l,es.map Ev.e=l:=⟨_,rfl⟩
     obtain⟨k,hk⟩:∃k,es.length=k:=⟨_,rfl⟩
     have hlk:l.length=k:=by rw[<-hll];simpa using hk
     rw[hll]at hnum hre hrl he hel hpv;have HPV:=Ab hpv;rw[hk];have hk20:k<=20000:=by have:=Aa HL;omega
     have HCF:=Ab (Z1 ad c k es w1 hes hk hk20);have HES:=Ab hes;have HLL:=Ab hll;have HK:=Ab hk;have HNUM:=Ab hnum;have HRE2:=Ab hre;have HRL2:=Ab hrl;have HB1:=Ab hB1;clear hB1 hrow hes hel hnum hre hrl he hll hk hlk hpv HC HRE HRL;go_wp2_with fail
     refine(Aa HCF).mono ?_;rintro e w2 ⟨v2,rfl,hG,hB2⟩;obtain⟨ad2,c2,rfl,hfs⟩:=hG.files (by rw[Aa HK];omega);rw[Aa HK];have HCC:=Ab (Sv ad2 c2 (es.map Ev.fv) w2 hfs k (by simpa using Aa HK));obtain⟨E,hE⟩:∃E,errM (fls (es.map Ev.fv))=E:=⟨_,rfl⟩
     rw[hE]at HCC;rw[DA,Aa HLL]at hE;have HEE:=Ab hE;have HFS:=Ab hfs;have hz1:=(Aa HB1).size;have HB2:=Ab ((Aa HB1).trans (hB2.mono hz1));have HB12:=Ab hB2;clear hG hfs hB2 hE HCF;go_wp2_with fail
     refine(Aa HCC).mono ?_;rintro e w3 ⟨rfl,hB3⟩;have hz2:=(Aa HB2).size;have HB3:=Ab ((Aa HB2).trans (hB3.mono hz2));have HB13:=Ab ((Aa HB12).trans (hB3.mono (Aa HB12).size));have HB23:=Ab hB3;clear hB3 HCC
     by_cases hE0:E=0
     . subst hE0;have hok:=Mr (Aa HEE)
       have hENum:∀x∈es,ENum x.e:=fun x hx=>by
        have hxl:x.e∈l:=by rw[<-Aa HLL];exact XV hx
        have h1:=Aa HNUM x.e hxl;have h2:=Yi (hok.2 x.e.f (XV hxl));have h3:=Aa HL;have h4:=h1.pl;exact⟨⟨by omega,by omega⟩,⟨by omega,by omega⟩,by omega,by omega,by omega,h1.cr,h1.mt⟩
       have hk12:k<=12:=by
        have:=hok.1
        rw[<-Aa HLL]at this;simpa[Aa HK]using this
       have HCA:=Ab (Sz ad c k es w3 ((Aa HES).below (Aa HB13)) (Aa HK) hk12 hENum);rw[Aa HLL]at HCA;have HBY:Hid (∀x∈es,x.e.f.bytes.length<=12000):=Ab (fun x hx=>by have:=(hENum x hx).bl;omega);have HVL:Hid (∀y∈Be l,y<256):=Ab (Yx l (Aa HPV));clear hok hENum;go_wp2_with fail
       refine(Aa HCA).mono ?_;rintro e w4 ⟨v4,rfl,ho,hB4⟩;obtain⟨a4,c4,rfl,q1,q2,q3,q4⟩:=Ve ho;have HPK:=Ab (((Aa HP).below (Aa HB3)).below hB4);have hz3:=(Aa HB3).size;have HB4:=Ab ((Aa HB3).trans (hB4.mono hz3));have HB14:=Ab ((Aa HB13).trans (hB4.mono (Aa HB13).size));have HB24:=Ab ((Aa HB23).trans (hB4.mono (Aa HB23).size));have HEQ:=Ab (P4 a4 a _ c4 n cap (Be l) bs w4 rfl (Aa HL) (Er (Aa HVL)) (Er (Aa HV)) q1.1 (Aa HPK).1);obtain⟨AL,hAL⟩:∃AL,(Be l).length=AL:=⟨_,rfl⟩
       obtain⟨bq,hbq⟩:∃bq,(Be l==bs)=bq:=⟨_,rfl⟩
       rw[hAL,hbq]at HEQ;rw[hAL];have HBQ:=Ab hbq;clear ho hB4 q1 q2 q3 q4 hAL hbq HCA HPK;go_wp2_with fail
       refine(Aa HEQ).mono ?_;rintro e w5 ⟨rfl,rfl⟩
       cases bq with
       |false=>
        have hne:Be l≠bs:=by
         have:=Aa HBQ
         rw[beq_eq_false_iff_ne]at this;exact this
        have HF:=Ab (RdA.bad (w:=w) (w':=w5) (bs:=bs) (k:=7) (by rw[Aa HRE2,if_pos (.inr hne)]) (by decide) (Aa HB4));clear hne HEQ;go_wp2;go_ret2;exact Aa HF
       |true=>
        have heq:Be l=bs:=eq_of_beq (Aa HBQ);have hre2:=Aa HRE2;rw[if_neg (by rintro (h|h);exact h (Aa HEE);exact h heq)]at hre2;have HRE3:=Ab hre2;obtain⟨S,hS⟩:∃S,sumsF l=S:=⟨_,rfl⟩
        have HCS:=Ab (A7 ad c k es w5 ((Aa HES).below (Aa HB14)) (Aa HK) hk20 (Aa HBY) S (by rw[Aa HLL];exact hS));have HSS:=Ab hS;clear heq hre2 hS HEQ;go_wp2_with fail
        refine(Aa HCS).mono ?_;rintro e w6 ⟨rfl,hB6⟩;have hz5:=(Aa HB4).size;have HB6:=Ab ((Aa HB4).trans (hB6.mono hz5))
        cases S with
        |false=>
         have HF:=Ab (RdA.bad (w:=w) (w':=w6) (bs:=bs) (k:=10) (by rw[Aa HRE3,if_pos (Aa HSS)]) (by decide) (Aa HB6));clear hB6 HCS;go_wp2;go_ret2;exact Aa HF
        |true=>
         have h0:readE bs=0:=by rw[Aa HRE3,if_neg (by rw[Aa HSS];decide)]
         have hl0:readL bs=l.map En.f:=by
          have:=Aa HRL2
          rw[if_neg (by rw[h0];decide)]at this;exact this
         have hfs6:FsIn w6 ad2 c2 (es.map Ev.fv):=((Aa HFS).below (Aa HB24) (VB _)).below (hB6.mono (by omega)) (VB _);have HF:Hid (RdA w bs (.returned (.tuple #[.slice ad2 k c2,.int .i64 0])) w6):=Ab ⟨.slice ad2 k c2,by rw[h0];rfl,⟨ad2,c2,es.map Ev.fv,by rw[hl0,<-Aa HLL];simp[Aa HK],hfs6,by rw[DA,Aa HLL,hl0]⟩,Aa HB6⟩;clear hB6 HCS h0 hl0 hfs6;go_wp2;go_ret2;exact Aa HF
     . have HF:=Ab (RdA.bad (w:=w) (w':=w3) (bs:=bs) (k:=7) (by rw[Aa HRE2,if_pos (.inl (by rw[Aa HEE];exact hE0))]) (by decide) (Aa HB3));have hEb:((E:Int)==0)=false:=by rw[beq_eq_false_iff_ne];omega
       have hEc:((E:Int)!=0)=true:=by rw[bne,hEb];rfl
       clear hE0;go_wp2;go_ret2;exact Aa HF
def Z65:Go.Shelf.Ren:=⟨fun|160=>59|232=>83|231=>82|227=>84|234=>86|233=>85|236=>88|235=>87|228=>116|271=>119|151=>118|197=>117|120=>157|152=>156|260=>155|137=>191|119=>192|224=>189|225=>188|217=>187|266=>214|n=>n,fun|9=>9|4=>4|3=>3|5=>5|117=>143|116=>142|0=>0|124=>146|21=>21|105=>183|46=>66|119=>261|139=>264|138=>263|n=>n,fun|3=>1|4=>2|n=>n⟩
theorem Z3c:Go.Proofs.Lays.n160 Tryz.prog Z65:= {
 mixed:=by kernel_rfl
 f119:=Tryz.func192.trans (congrArg some (by kernel_rfl))
 f120:=Tryz.func157.trans (congrArg some (by kernel_rfl))
 f137:=Tryz.func191.trans (congrArg some (by kernel_rfl))
 f151:=Tryz.func118.trans (congrArg some (by kernel_rfl))
 f152:=Tryz.func156.trans (congrArg some (by kernel_rfl))
 f160:=Tryz.func59.trans (congrArg some (by kernel_rfl))
 f197:=Tryz.func117.trans (congrArg some (by kernel_rfl))
 f217:=Tryz.func187.trans (congrArg some (by kernel_rfl))
 f224:=Tryz.func189.trans (congrArg some (by kernel_rfl))
 f225:=Tryz.func188.trans (congrArg some (by kernel_rfl))
 f227:=Tryz.func84.trans (congrArg some (by kernel_rfl))
 f228:=Tryz.func116.trans (congrArg some (by kernel_rfl))
 f231:=Tryz.func82.trans (congrArg some (by kernel_rfl))
 f232:=Tryz.func83.trans (congrArg some (by kernel_rfl))
 f233:=Tryz.func85.trans (congrArg some (by kernel_rfl))
 f234:=Tryz.func86.trans (congrArg some (by kernel_rfl))
 f235:=Tryz.func87.trans (congrArg some (by kernel_rfl))
 f236:=Tryz.func88.trans (congrArg some (by kernel_rfl))
 f260:=Tryz.func155.trans (congrArg some (by kernel_rfl))
 f266:=Tryz.func214.trans (congrArg some (by kernel_rfl))
 f271:=Tryz.func119.trans (congrArg some (by kernel_rfl))
 t0:=Tryz.underlying0
 a0:=Tryz.isAgg0
 z0:=Tryz.sizeOf0
 v0:=Tryz.zeroValue0
 t3:=Tryz.underlying3
 a3:=Tryz.isAgg3
 z3:=Tryz.sizeOf3
 v3:=Tryz.zeroValue3
 t4:=Tryz.underlying4
 a4:=Tryz.isAgg4
 z4:=Tryz.sizeOf4
 v4:=Tryz.zeroValue4
 t5:=Tryz.underlying5
 a5:=Tryz.isAgg5
 z5:=Tryz.sizeOf5
 v5:=Tryz.zeroValue5
 t9:=Tryz.underlying9
 a9:=Tryz.isAgg9
 z9:=Tryz.sizeOf9
 v9:=Tryz.zeroValue9
 t21:=Tryz.underlying21
 a21:=Tryz.isAgg21
 z21:=Tryz.sizeOf21
 v21:=Tryz.zeroValue21
 t46:=Tryz.underlying66
 a46:=Tryz.isAgg66
 z46:=Tryz.sizeOf66
 v46:=Tryz.zeroValue66
 t105:=Tryz.underlying183
 a105:=Tryz.isAgg183
 z105:=Tryz.sizeOf183
 v105:=Tryz.zeroValue183
 t116:=Tryz.underlying142
 a116:=Tryz.isAgg142
 z116:=Tryz.sizeOf142
 t117:=Tryz.underlying143
 a117:=Tryz.isAgg143
 z117:=Tryz.sizeOf143
 v117:=Tryz.zeroValue143
 t119:=Tryz.underlying261
 a119:=Tryz.isAgg261
 z119:=Tryz.sizeOf261
 t124:=Tryz.underlying146
 a124:=Tryz.isAgg146
 z124:=Tryz.sizeOf146
 v124:=Tryz.zeroValue146
 t138:=Tryz.underlying263
 a138:=Tryz.isAgg263
 z138:=Tryz.sizeOf263
 v138:=Tryz.zeroValue263
 t139:=Tryz.underlying264
 a139:=Tryz.isAgg264
 z139:=Tryz.sizeOf264
 v139:=Tryz.zeroValue264
 g3:=by kernel_rfl
 g4:=by kernel_rfl}
theorem KS:(Tryz.prog.info? 142).map (fun i=>(i.zero,i.size))=some (some (.agg (Array.replicate 256 (.bool false))),256):=by kernel_rfl
theorem trimS (p:List UInt8)(w:World)(hp:p.length<=maxLen):
 Calls Tryz.prog 59 #[.string (B p),.string (B Ho)] w fun e w'=>e=.returned (.string (B (Lib.trimS p Ho)))/\Below w.heap.size w w':=
 Any.strings_Trim_laid Z3c KS (B p) (B Ho) w (by rw[Im];exact hp) (by decide) (ascii_of_all (l:=Ho) (by decide))
theorem Z0n {p:List UInt8}(h0:p≠ [])(h1:p≠ [46])(h2:p≠ [46,46]):okP p=true↔Lib.trimS p Ho= []:=by
 rw[TH];simp[okP,h0,h1,h2]
theorem FM (s:List UInt8)(w:World)(hs:s.length<=maxLen):
 Calls Tryz.prog 37 #[.string (B s)] w fun e w'=>∃v,e=.returned (.tuple #[v,.int .i64 (Kg s:Nat)])/\SRow w' w.heap.size v (Z41 s)/\Below w.heap.size w w'/\(Kg s≠0->v=.slice none 0 0):=by
 have hsz:=Im s;unfold maxLen at hs
 by_cases h40:40<s.length
 . have HE:=Ab (N3 h40);have h40':40<(B s).size:=by rw[hsz];omega
   have hms:(B s).size<=9223372036854775807:=by rw[hsz];omega
   clear hsz h40 hs;generalize B s=t at*;go_enter Tryz.func37,Tryz.ntmps37
   go_wp2;go_ret2;rw[Ox (by rw[Aa HE];decide),Aa HE];exact⟨_,rfl,SRow.nil _ _,Below.refl _ _,fun _=>rfl⟩
 . have hsp:=B3 (B s) w (by rw[hsz];omega);rw[QE]at hsp;have h40':(B s).size<=40:=by rw[hsz];omega
   have h41:=BL (s:=s) (by omega);have HR:=Ab (SRow.new w (spl s) (by unfold maxLen;omega));have HE:=Ab (fun p hp hb=>DI (s:=s) (p:=p) (by omega) hp hb);have HO:=Ab (PV (l:=s) (by omega));have hmem:∀p∈spl s,p.length<=s.length:=Z2g s;obtain⟨L,hL⟩:∃L,(spl s).length=L:=⟨_,rfl⟩
   rw[hL]at hsp HR h41;have HL:=Ab hL
   have HC:Hid (∀j (hj:j<(spl s).length) (W:World),Below (w.heap.size+1) (w.alloc (.cells (Qj (spl s)).toArray 9)) W->W.cell? ⟨w.heap.size,j,none⟩=some (.string (B ((spl s)[j]'hj)))):=by
    intro j hj W hW;rw[hW.cell (p:=⟨w.heap.size,j,none⟩) (Nat.lt_succ_self _),World.cell?_alloc_at _ _ _ _ rfl];simp[Qj,hj]
   have hs40:s.length<=40:=by omega
   clear hL hsz h40 hs;generalize B s=t at*;go_enter Tryz.func37,Tryz.ntmps37
   go_wp2_with (go_at_call 58;refine hsp.mono ?_;rintro e w' ⟨rfl,hw⟩;rw[hw])
   clear hsp;go_loopw [6,14] (fun _ i wr=>∃k:Nat,k<=L/\i=.int .i64 k/\Hid (∀j (hj:j<(spl s).length),j<k->okP ((spl s)[j]'hj)=true)/\Hid (Below (w.heap.size+1) (w.alloc (.cells (Qj (spl s)).toArray 9)) wr)) (fun _ i _=>L-(intOf i).toNat)
   case atStart=>exact⟨0,VH _,rfl,fun j _ hj=>absurd hj (by omega),Below.refl _ _⟩
   case round=>
    obtain⟨k,hk,rfl,HN,HB⟩:=hrel
    by_cases hlt:k<L
    . have hlt':k<(spl s).length:=by rw[Aa HL];exact hlt
      have hcell:=(Aa HC) k hlt' wr (Aa HB);have hz:=(Aa HB).size;have hlen:=hmem _ (WK hlt');have HM:=Ab (WK hlt');have HQ:=Ab (fun h=>(Aa HE) _ (Aa HM) h)
      have HN2:Hid (okP ((spl s)[k]'hlt')=true->∀j (hj:j<(spl s).length),j<k+1->okP ((spl s)[j]'hj)=true):=by
       intro h j hj hjk
       by_cases e:j=k
       . subst e;exact h
       . exact(Aa HN) j hj (by omega)
      generalize (spl s)[k]'hlt'=q at*;have hz2:w.heap.size+1<=wr.heap.size:=by simp at hz;omega
      clear HM
      have BAD:∀W,Hid (Below (w.heap.size+1) (w.alloc (.cells (Qj (spl s)).toArray 9)) W)->Hid (okP q=false)->Hid (SRow W w.heap.size (.slice none 0 0) (Z41 s)/\Kg s=1/\Below w.heap.size w W):=by
       intro W h1 h2;have he:=(Aa HQ) (Aa h2)
       refine⟨?_,he,(Mv w _).trans ((Aa h1).mono (Nat.le_succ _))⟩;rw[Ox (by rw[he];decide)];exact SRow.nil _ _
      by_cases h0:q= []
      . subst h0;have hcell2:wr.cell? ⟨w.heap.size,k,none⟩=some (.string ⟨#[]⟩):=hcell;have HX:=BAD wr HB rfl;clear hcell BAD;go_wp2;go_ret2;obtain⟨x1,x2,x3⟩:=Aa HX;rw[x2];exact⟨_,rfl,x1,x3,fun _=>rfl⟩
      by_cases h1:q= [46]
      . subst h1;have hcell2:wr.cell? ⟨w.heap.size,k,none⟩=some (.string ⟨#[46]⟩):=hcell;have HX:=BAD wr HB rfl;clear hcell BAD;go_wp2;go_ret2;obtain⟨x1,x2,x3⟩:=Aa HX;rw[x2];exact⟨_,rfl,x1,x3,fun _=>rfl⟩
      by_cases h2:q= [46,46]
      . subst h2;have hcell2:wr.cell? ⟨w.heap.size,k,none⟩=some (.string ⟨#[46,46]⟩):=hcell;have HX:=BAD wr HB rfl;clear hcell BAD;go_wp2;go_ret2;obtain⟨x1,x2,x3⟩:=Aa HX;rw[x2];exact⟨_,rfl,x1,x3,fun _=>rfl⟩
      have HOK:=Ab (Z0n h0 h1 h2);have e0:=Xb (B q) h0;have e1:=BK (B q) [46] h1;have e2:=BK (B q) [46,46] h2;have cT:=trimS q wr (by unfold maxLen;omega);clear h0 h1 h2;generalize B q=qb at*
      by_cases ht:Lib.trimS q Ho= []
      . have HO2:=Ab ((Aa HOK).2 ht);have hB:B (Lib.trimS q Ho)=⟨#[]⟩:=by rw[ht];rfl
        rw[hB]at cT;clear ht hB HOK BAD;go_wp2_with (go_at_call 59;refine cT.mono ?_;rintro e w1 ⟨rfl,hb1⟩;have HB1:=Ab ((Aa HB).trans (hb1.mono hz2));clear hb1)
        go_roundw
        case rel=>exact⟨k+1,by omega,by go_num,(Aa HN2) (Aa HO2),Aa HB1⟩
        case measure=>simp[intOf];omega
      . have HO2:Hid (okP q=false):=by
         cases ho:okP q with
         |false=>rfl
         |true=>exact absurd ((Aa HOK).1 ho) ht
        have et:=Xb (B (Lib.trimS q Ho)) ht;clear ht HOK;generalize B (Lib.trimS q Ho)=tb at*;have HBAD:=Ab BAD;clear BAD;go_wp2_with (go_at_call 59;refine cT.mono ?_;rintro e w1 ⟨rfl,hb1⟩;have HB1:=Ab ((Aa HB).trans (hb1.mono hz2));clear hb1)
        go_ret2;obtain⟨x1,x2,x3⟩:=Aa ((Aa HBAD) w1 HB1 HO2);rw[x2];exact⟨_,rfl,x1,x3,fun _=>rfl⟩
    . obtain rfl:k=L:=by omega
      have HZ:Hid (Kg s=0):=(Aa HO) (by
       rw[WX];intro p hp;obtain⟨j,hj,rfl⟩:=List.mem_iff_getElem.1 hp;exact(Aa HN) j hj (by rw[Aa HL]at hj;exact hj))
      go_wp2;go_ret2;rw[MG (Aa HZ),Aa HZ];refine⟨_,rfl, ?_,(Mv w _).trans ((Aa HB).mono (Nat.le_succ _)),fun h=>absurd rfl h⟩;exact(Aa HR).below (by simpa using Aa HB)
end Go.Proofs.YtleocpdblhbimaaGreatDoor
