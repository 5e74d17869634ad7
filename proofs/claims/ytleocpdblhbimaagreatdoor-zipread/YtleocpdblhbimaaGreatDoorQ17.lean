import Derived.Test.YtleocpdblhbimaaGreatDoorQ16
import Derived.Shelf.Strings.SlTrimAscii
set_option linter.unusedSimpArgs false
set_option maxHeartbeats 4000000
namespace Go.Proofs.YtleocpdblhbimaaGreatDoor
open Go.RowKit
set_option linter.unusedVariables false
set_option maxRecDepth 100000
theorem M3 {f:Fl}(E:Kg f.name≠0):Mq f=Kg f.name:=by unfold Mq;rw[if_pos E]
theorem M4 {f:Fl}(F:Kg f.name=0)(E:3000<f.bytes.length):Mq f=2:=by unfold Mq;rw[if_neg (by simp[F]),if_pos E]
theorem Vs {f:Fl}(G:Kg f.name=0)(F:¬3000<f.bytes.length)(E:f.stamp<0\/1000000<f.stamp\/f.node<0\/3<f.node):Mq f=3:=by
 unfold Mq;rw[if_neg (by simp[G]),if_neg F,if_pos E]
theorem M2 {f:Fl}(G:Kg f.name=0)(F:¬3000<f.bytes.length)(E:¬(f.stamp<0\/1000000<f.stamp\/f.node<0\/3<f.node)):Mq f=if f.gone=true/\0<f.bytes.length then 4 else 0:=by
 unfold Mq;rw[if_neg (by simp[G]),if_neg F,if_neg E]
theorem Yr (x:Fv)(w:World)(O:FvIn w x):
 Calls Tryz.prog 52 #[x.val] w fun e w'=>e=.returned (.int .i64 (Mq x.f:Nat))/\Below w.heap.size w w':=by
 have hc:=fun W=>QV x.f.name W (by have:=O.txt;unfold maxLen;omega)
 have e0:= @M3 x.f;have M:= @M4 x.f;have e2:= @Vs x.f;have e3:= @M2 x.f;rw[Nw];clear O;obtain⟨⟨nm,bs,st,nd,gn⟩,a,c⟩:=x;simp only at*
 have ag:∀W W':World,Below W.heap.size W W'->Below W.heap.size W W':=fun _ _ O=>O
 generalize B nm=t at*;generalize bs.length=n at*;have T:=Ab hc
 by_cases G:Kg nm=0
 . replace M:=M G;replace e2:=e2 G;replace e3:=e3 G;rw[G]at T;clear e0 G hc
   have leaf:∀(H:Nat),Hid (Mq ⟨nm,bs,st,nd,gn⟩=H)->Hid ((H=2/\3000<n)\/ (H=3/\n<=3000/\(st<0\/ (0<=st/\1000000<st)\/ (0<=st/\st<=1000000/\nd<0)\/ (0<=st/\st<=1000000/\0<=nd/\4<=nd)))\/ (H=4/\n<=3000/\0<=st/\st<=1000000/\0<=nd/\nd<4/\gn=true/\0<n)\/ (H=0/\n<=3000/\0<=st/\st<=1000000/\0<=nd/\nd<4/\gn=true/\n=0)\/ (H=0/\n<=3000/\0<=st/\st<=1000000/\0<=nd/\nd<4/\gn=false))->
    Calls Tryz.prog 52 #[.agg #[.string t,.slice a n c,.int .i64 st,.int .i64 nd,.bool gn]] w fun e w'=>e=.returned (.int .i64 ((Mq ⟨nm,bs,st,nd,gn⟩:Nat):Int))/\Below w.heap.size w w':=by
    intro H ab ac;rw[Aa ab];clear M e2 e3 ab
    rcases Aa ac with ⟨rfl,E⟩|⟨rfl,E,I|⟨I,F⟩|⟨I,F,U⟩|⟨I,F,U,Y⟩⟩|⟨rfl,E,I,F,U,Y,rfl,aj⟩|⟨rfl,E,I,F,U,Y,rfl,rfl⟩|⟨rfl,E,I,F,U,Y,rfl⟩
    all_goals (
     clear ac;go_enter Tryz.func52,Tryz.ntmps52
     go_wp2_with fail
     refine(Aa T _).mono ?_;rintro e w' ⟨rfl,hb⟩;have c1:=(hb.cell (p:=⟨w.heap.size,1,none⟩) (by simp)).trans (by simp;rfl);have c2:=(hb.cell (p:=⟨w.heap.size,2,none⟩) (by simp)).trans (by simp;rfl);have ah:=(hb.cell (p:=⟨w.heap.size,3,none⟩) (by simp)).trans (by simp;rfl);have ai:=(hb.cell (p:=⟨w.heap.size,4,none⟩) (by simp)).trans (by simp;rfl);have aa:=Ab (((Below.refl w.heap.size w).alloc (VB _) _).trans (hb.mono (by simp)));clear hb;go_wp2;go_ret;exact⟨rfl,Aa aa⟩)
   have af:=Ab (rfl:bs.length=bs.length)
   by_cases E:3000<n
   . exact leaf 2 (M E) (.inl ⟨rfl,E⟩)
   . by_cases F:st<0\/1000000<st\/nd<0\/3<nd
     . refine leaf 3 (e2 E F) (.inr (.inl ⟨rfl,by omega,by omega⟩))
     . have Z:=e3 E F
       cases gn with
       |true=>
        by_cases hn:0<n
        . exact leaf 4 (by rw[Z,if_pos ⟨rfl,hn⟩];rfl) (.inr (.inr (.inl ⟨rfl,by omega,by omega,by omega,by omega,by omega,rfl,hn⟩)))
        . exact leaf 0 (by rw[Z,if_neg (fun k=>hn k.2)];rfl) (.inr (.inr (.inr (.inl ⟨rfl,by omega,by omega,by omega,by omega,by omega,rfl,by omega⟩))))
       |false=>exact leaf 0 (by rw[Z,if_neg (fun k=>by cases k.1)];rfl) (.inr (.inr (.inr (.inr ⟨rfl,by omega,by omega,by omega,by omega,by omega,rfl⟩))))
 . rw[e0 G];clear e0 M e2 e3 hc;obtain⟨k,ae⟩:=exq (Kg nm);rw[ae]at T G ⊢;go_enter Tryz.func52,Tryz.ntmps52
   go_wp2_with fail
   refine(Aa T _).mono ?_;rintro e w' ⟨rfl,hb⟩;have aa:=Ab (((Below.refl w.heap.size w).alloc (VB _) _).trans (hb.mono (by simp)));clear hb;go_wp2;go_ret;exact⟨rfl,Aa aa⟩
def ahd (xs:List Fv):Nat->Option Fl
 |0=>none
 |k+1=>(fls xs)[k]?
theorem M5 {xs:List Fv}{k:Nat}{x:Fv}(H:xs[k]? =some x):
 DH (ahd xs k) ((fls xs).drop k)=if Mq x.f≠0 then Mq x.f else if behind (ahd xs k) x.f=false then 4 else DH (ahd xs (k+1)) ((fls xs).drop (k+1)):=by
 have E:(fls xs)[k]? =some x.f:=by simp[fls,H]
 have G:k<(fls xs).length:=by
  rcases ZQ k (fls xs).length with F|F
  . exact F
  . rw[WJ F]at E;cases E
 have e:(fls xs).drop k=x.f::(fls xs).drop (k+1):=by
  rw[WS G]
  congr 1
  rw[VP G]at E;exact VM E
 rw[e,DH];show _=if Mq x.f≠0 then Mq x.f else if behind (ahd xs k) x.f=false then 4 else DH ((fls xs)[k]?) _
 rw[E]
theorem Z2c (x y:List UInt8):Op.bytesLess (B x).toList (B y).toList=decide (Pq x y<0):=by rw[Fh,Fh,CG]
theorem Z2d (x y:List UInt8):((B x).toList==(B y).toList)=decide (Pq x y=0):=by
 rw[Fh,Fh,XZ,beq_iff_eq,decide_eq_true_iff,QQ]
theorem IZ (E:Option Addr)(n c:Nat)(w:World)(F:12<n):Calls Tryz.prog 34 #[.slice E n c] w fun e w'=>e=.returned (.int .i64 2)/\w'=w:=by
 go_enter Tryz.func34,Tryz.ntmps34
 go_wp2;go_ret;exact⟨rfl,rfl⟩
theorem Sv (aj:Option Addr)(c:Nat)(xs:List Fv)(w:World)(Z:FsIn w aj c xs)(n:Nat)(aq:xs.length=n):
 Calls Tryz.prog 34 #[.slice aj n c] w fun e w'=>e=.returned (.int .i64 (errM (fls xs):Nat))/\Below w.heap.size w w':=by
 have hl:(fls xs).length=n:=by simp[fls,aq]
 by_cases hm:12<n
 . have e:errM (fls xs)=2:=by unfold errM;rw[if_pos (by omega)]
   rw[e];refine(IZ aj n c w hm).mono ?_;rintro e w' ⟨rfl,rfl⟩;exact⟨rfl,Below.refl _ _⟩
 . have e:errM (fls xs)=DH none (fls xs):=by unfold errM;rw[if_neg (by omega)]
   obtain⟨E,ak⟩:=exq (DH none (fls xs));rw[e,ak];have ap:=Ab Z;have ax:=Ab aq;have bb:=Ab ak;have a5:=Ab hl;clear Z e ak aq hl;go_enter Tryz.func34,Tryz.ntmps34
   go_wp2;go_loopw [3,4,5,11] (fun _ _ _ i wr=>∃k:Nat,k<=n/\i=.int .i64 (k:Int)/\Hid (DH (ahd xs k) ((fls xs).drop k)=E)/\Hid (Below w.heap.size w wr)) (fun _ _ _ i _=>n-(intOf i).toNat)
   case atStart=>exact⟨0,VH _,rfl,Aa bb,Below.refl _ _⟩
   case round=>
    obtain⟨k,be,rfl,as,ac⟩:=hrel
    by_cases a3:k<n
    . obtain⟨x,ag,av⟩:=Ob (xs:=xs) (k:=k) (by rw[Aa ax];exact a3);obtain⟨b,o,rfl,hb,c0,c1,c2,a9,ba⟩:=(Aa ap).get (Aa ac) ag;have F:=M5 ag;rw[Aa as]at F;have bc:=(Aa ac).size;have I:=Ab (fun W (bd:Below w.heap.size w W)=>Yr x W (((Aa ap).all x av).below bd (VB _)));have ai:=Ab F;rw[Nw]at I;unfold Fv.sl at c1;obtain⟨er,aw⟩:=exq (Mq x.f);rw[aw]at I ai;clear F aw av;have bj:=Ab ag;clear ag;obtain⟨M,bg,bn⟩:=x;simp only at*
      have a2:∃nm,M.name=nm:=⟨_,rfl⟩
      obtain⟨nm,ao⟩:=a2;rw[ao]at c0 I;obtain⟨t,an⟩:=exq (B nm);rw[an]at c0 I;have a6:=Ab an;have a4:=Ab ao;clear an ao;generalize M.bytes.length=bf at*;generalize M.stamp=st at*;generalize M.node=nd at*;generalize M.gone=gn at*;have ar:∀ah,Below w.heap.size w (wr.alloc ah):=fun ah=>(Aa ac).alloc bc ah
      have H:=Ab ar;clear ar
      by_cases ay:er=0
      . subst ay
        cases k with
        |zero=>
         simp only[YJ,XN]at c0 c1 c2 a9 ba;have F:=Aa ai;rw[if_neg (by simp),if_neg (by simp[ahd,behind])]at F;have O:=Ab F;clear F;go_wp2_with fail
         refine(Aa I _ (Aa H _)).mono ?_;rintro e T ⟨rfl,G⟩;have U:=Ab ((Aa H _).trans (G.mono (by simp;omega)));clear G;go_wp2;go_quiet (fail)
         go_wp2;go_roundw
         case rel=>exact⟨1,by omega,by go_num,(Aa O).symm,Ae (Aa U) _⟩
         case measure=>simp[intOf];omega
        |succ j=>
         obtain⟨y,al,a8⟩:=Ob (xs:=xs) (k:=j) (by rw[Aa ax];omega);obtain⟨bk,ah,a7,bi,d0,_⟩:=(Aa ap).get (Aa ac) al
         cases a7
         have F:=Aa ai;rw[if_neg (by simp)]at F;have au:ahd xs (j+1)=some y.f:=by show (fls xs)[j]? =_;simp[fls,al]
         rw[au]at F;have ae:=Z2c nm y.f.name;have aa:=Z2d nm y.f.name;have a0:behind (some y.f) M=decide (Pq y.f.name nm<0):=by show decide (Pq y.f.name M.name<0)=_;rw[Aa a4]
         rw[a0]at F;have Y:=Su nm y.f.name;rw[Aa a6]at ae aa;generalize B y.f.name=az at*;generalize y.f.name=af at*;clear a0 au al a8;have bh:((j+1:Nat):Int)-1=(j:Int):=by omega
         have bm:(j:Int)<(n:Int):=by omega
         by_cases am:Pq nm af=1
         . rw[am]at ae aa Y;rw[if_neg (by rw[Y];decide)]at F;have O:=Ab F;simp only[Int.reduceLT,Int.reduceEq,decide_false]at ae aa;clear F Y am;go_wp2_with fail
           refine(Aa I _ (Aa H _)).mono ?_;rintro e T ⟨rfl,G⟩;have U:=Ab ((Aa H _).trans (G.mono (by simp;omega)));have a1:T.cell? ⟨wr.heap.size,0,none⟩=some (.string t):=(G.cell (p:=⟨wr.heap.size,0,none⟩) (by simp)).trans (by simp);have r0:T.cell? ⟨b,o+j*5,none⟩=some (.string az):=(G.cell (p:=⟨b,o+j*5,none⟩) (by simp;omega)).trans ((World.cell?_alloc_past _ _ _ (by show b<wr.heap.size;omega)).trans d0);clear G;go_wp2;go_quiet (fail)
           go_wp2;go_roundw
           case rel=>exact⟨j+2,by omega,by go_num,(Aa O).symm,Ae (Aa U) _⟩
           case measure=>simp[intOf];omega
         . have ab:(Pq nm af= -1\/Pq nm af=0):=by rcases Kd nm af with Z|Z|Z<;>omega
           rw[if_pos (by rw[Y];apply decide_eq_false;omega)]at F;have O:=Ab F;clear F Y am
           rcases ab with ab|ab
           all_goals (
            rw[ab]at ae aa;simp only[Int.reduceLT,Int.reduceEq,Int.reduceNeg,decide_true,decide_false]at ae aa;clear ab;go_wp2_with fail
            refine(Aa I _ (Aa H _)).mono ?_;rintro e T ⟨rfl,G⟩;have U:=Ab ((Aa H _).trans (G.mono (by simp;omega)));have a1:T.cell? ⟨wr.heap.size,0,none⟩=some (.string t):=(G.cell (p:=⟨wr.heap.size,0,none⟩) (by simp)).trans (by simp);have r0:T.cell? ⟨b,o+j*5,none⟩=some (.string az):=(G.cell (p:=⟨b,o+j*5,none⟩) (by simp;omega)).trans ((World.cell?_alloc_past _ _ _ (by show b<wr.heap.size;omega)).trans d0);clear G;go_wp2;go_quiet (fail)
            go_wp2;go_ret;exact⟨Dd (by rw[Aa O];rfl),Ae (Aa U) _⟩)
      . have F:=Aa ai;rw[if_pos (by simpa using ay)]at F;have O:=Ab F;clear F;go_wp2_with fail
        refine(Aa I _ (Aa H _)).mono ?_;rintro e T ⟨rfl,G⟩;have U:=Ab ((Aa H _).trans (G.mono (by simp;omega)));clear G;go_wp2;go_ret;exact⟨Dd (by rw[Aa O]),Aa U⟩
    . obtain rfl:n=k:=by omega
      go_wp2;go_ret;have:=Aa as
      rw[XQ (by rw[Aa a5];exact VB _)]at this;exact⟨Dd (by rw[<-this];rfl),Aa ac⟩
theorem FsIn.new (w:World)(xs:List Fv)(t:TypeId)(E:Array Value)(n:Nat)(F:E=(fcells xs).toArray)(H:xs.length=n)(O:∀x∈xs,FvIn w x)(I:xs.length<=2199023255552):FsIn (w.alloc (.cells E t)) (some ⟨w.heap.size,0,none⟩) n xs:=by
 subst H;refine⟨.inr ⟨w.heap.size,0,rfl,by simp, ?_⟩,VB _,by omega,I,fun x G=>(O x G).alloc _⟩;intro j x M
 have hc:∀i u,i<5->x.cells[i]? =some u->(w.alloc (.cells E t)).cell? ⟨w.heap.size,0+j*5+i,none⟩=some u:=by
  intro i u hi T;rw[World.cell?_alloc_at _ _ _ _ rfl,F];have e:=Sa xs j x i M hi;rw[WG];simpa using e.trans T
 exact⟨hc 0 _ (by decide) rfl,hc 1 _ (by decide) rfl,hc 2 _ (by decide) rfl,hc 3 _ (by decide) rfl,hc 4 _ (by decide) rfl⟩
def LIn (w:World)(v:Value)(l:List Fl):Prop:=∃ad c out,v=.slice ad l.length c/\FsIn w ad c out/\fls out=l
theorem LIn.below {w w':World}{v:Value}{l:List Fl}(G:LIn w v l)(H:Below w.heap.size w w'):LIn w' v l:=by
 obtain⟨ad,c,out,I,F,E⟩:=G;exact⟨ad,c,out,I,F.below H (VB _),E⟩
theorem LIn.shape {w:World}{v:Value}{l:List Fl}(F:LIn w v l):∃ad c,v=.slice ad l.length c:=by
 obtain⟨ad,c,out,E,_⟩:=F;exact⟨ad,c,E⟩
theorem PH {out:List Fv}{l:List Fl}(E:fls out=l):out.length=l.length:=by rw[<-E];simp[fls]
theorem Z6s {w:World}{E:Option Addr}{c n:Nat}{xs:List Fv}(G:FsIn w E c xs)(F:xs.length=n):LIn w (.slice E n c) (fls xs):=⟨E,c,xs,by rw[<-F];simp[fls],G,rfl⟩
def RdA (w:World)(bs:List Nat)(e:Ending)(w':World):Prop:=∃v,e=.returned (.tuple #[v,.int .i64 (readE bs:Nat)])/\LIn w' v (readL bs)/\Below w.heap.size w w'
theorem LIn.nil (w:World):LIn w (.slice none 0 0) []:=⟨none,0,[],rfl,FsIn.nil w,rfl⟩
theorem RdA.bad {w w':World}{bs:List Nat}{k:Nat}(E:readE bs=k)(G:k≠0)(F:Below w.heap.size w w'):RdA w bs (.returned (.tuple #[.slice none 0 0,.int .i64 (k:Int)])) w':=by
 have hl:readL bs= []:=by unfold readL;rw[if_pos (by rw[E];exact G)]
 exact⟨.slice none 0 0,by rw[E],by rw[hl];exact LIn.nil _,F⟩
theorem DA (E:List Ev):fls (E.map Ev.fv)=(E.map Ev.e).map En.f:=by simp[fls,Ev.fv,ZA]
theorem Ps (n Z:Nat)(a:Option Addr)(bs:List Nat)(w:World)(U:bs.length=n)(c8:n<=Z)(ai:PkIn w a Z bs)(af:∀x∈bs,x<256)(db:n<=9223372036854775807)(O:Z5x bs):
 Calls Tryz.prog 14 #[.slice a n Z] w fun e w'=>RdA w bs e w':=by
 by_cases hn:12000<n
 . have F:=Ab (RdA.bad (w:=w) (w':=w) (bs:=bs) (k:=2) (by unfold readE;rw[if_pos (by omega)]) (by decide) (Below.refl _ _));have cm:(12000:Int)<(n:Int):=by omega
   clear ai af U O;go_enter Tryz.func14,Tryz.ntmps14
   go_wp2;go_ret2;exact Aa F
 . have H:readE bs=match Cd (n+1) bs with
    |none=>7
    |some l=>if errM (l.map En.f)≠0\/Be l≠bs then 7 else if sumsF l=false then 10 else 0:=by
    conv=>lhs;unfold readE
    rw[if_neg (by omega),U]
    cases Cd (n+1) bs<;>rfl
   have M:readL bs=if readE bs≠0 then []else ((Cd (n+1) bs).getD []).map En.f:=by unfold readL;rw[U]
   have cm:¬(12000:Int)<(n:Int):=by omega
   have bj:=Ab (Yk n Z a bs w U (by omega) c8 ai af O);have c7:=Ab ai;have as:=Ab af;have a9:=Ab H;have bh:=Ab M;have a8:=Ab U;clear ai af H M U O;go_enter Tryz.func14,Tryz.ntmps14
   go_wp2_with fail
   refine(Aa bj).mono ?_;rintro e b5 ⟨ak,(⟨G,rfl⟩|⟨v,es,G,rfl,b9,_⟩)⟩
   . have F:=Ab (RdA.bad (w:=w) (w':=b5) (bs:=bs) (k:=7) (by rw[Aa a9,G]) (by decide) ak);clear ak G;go_wp2;go_ret2;exact Aa F
   . obtain⟨ad,c,rfl,aq⟩:=b9.entries;obtain⟨bk,aw⟩:=Sg (Aa as) G;have ay:=Sf G (Aa as);have H:=Aa a9;rw[G]at H;dsimp only at H;have M:=Aa bh;rw[G]at M;obtain⟨l,ag⟩:=exq (es.map Ev.e);obtain⟨k,ab⟩:=exq (es.length);have ch:l.length=k:=by rw[<-ag];simpa using ab
     rw[ag]at aw H M G bk ay;have cy:=Ab ay;rw[ab];have be:k<=20000:=by have:=Aa a8;omega
     have bc:=Ab (Z1 ad c k es b5 aq ab be);have bn:=Ab aq;have T:=Ab ag;have I:=Ab ab;have cj:=Ab aw;have av:=Ab H;have cg:=Ab M;have bo:=Ab ak;clear ak b9 aq bk aw H M G ag ab ch ay bj a9 bh;go_wp2_with fail
     refine(Aa bc).mono ?_;rintro e cu ⟨dg,rfl,bm,an⟩;obtain⟨Y,c2,rfl,ar⟩:=bm.files (by rw[Aa I];omega);rw[Aa I];have ba:=Ab (Sv Y c2 (es.map Ev.fv) cu ar k (by simpa using Aa I));obtain⟨E,ac⟩:=exq (errM (fls (es.map Ev.fv)));rw[ac]at ba;rw[DA,Aa T]at ac;have a3:=Ab ac;have c3:=Ab ar;have cl:=(Aa bo).size;have bu:=Ab ((Aa bo).trans (an.mono cl));have b0:=Ab an;clear bm ar an ac bc;go_wp2_with fail
     refine(Aa ba).mono ?_;rintro e w3 ⟨rfl,aj⟩;have cz:=(Aa bu).size;have al:=Ab ((Aa bu).trans (aj.mono cz));have a4:=Ab ((Aa b0).trans (aj.mono (Aa b0).size));have b4:=Ab aj;clear aj ba
     by_cases az:E=0
     . subst az;have ax:=Mr (Aa a3)
       have a2:∀x∈es,ENum x.e:=fun x au=>by
        have bv:x.e∈l:=by rw[<-Aa T];exact XV au
        have ao:=Aa cj x.e bv;have dc:=Yi (ax.2 x.e.f (XV bv));have dd:=Aa a8;have dh:=ao.pl;exact⟨⟨by omega,by omega⟩,⟨by omega,by omega⟩,by omega,by omega,by omega,ao.cr,ao.mt⟩
       have cw:k<=12:=by
        have:=ax.1
        rw[<-Aa T]at this;simpa[Aa I]using this
       have a5:=Ab (Sz ad c k es w3 ((Aa bn).below (Aa a4)) (Aa I) cw a2);rw[Aa T]at a5;have c5:Hid (∀x∈es,x.e.f.bytes.length<=12000):=Ab (fun x au=>by have:=(a2 x au).bl;omega);have c9:Hid (∀y∈Be l,y<256):=Ab (Yx l (Aa cy));clear ax a2;go_wp2_with fail
       refine(Aa a5).mono ?_;rintro e c6 ⟨da,rfl,bz,aa⟩;obtain⟨ct,cn,rfl,bg,cd,co,ce⟩:=Ve bz;have bw:=Ab (((Aa c7).below (Aa al)).below aa);have cv:=(Aa al).size;have a1:=Ab ((Aa al).trans (aa.mono cv));have ck:=Ab ((Aa a4).trans (aa.mono (Aa a4).size));have c4:=Ab ((Aa b4).trans (aa.mono (Aa b4).size));have ae:=Ab (P4 ct a _ cn n Z (Be l) bs c6 rfl (Aa a8) (Er (Aa c9)) (Er (Aa as)) bg.1 (Aa bw).1);obtain⟨df,a7⟩:=exq ((Be l).length);obtain⟨cp,a0⟩:=exq ((Be l==bs));rw[a7,a0]at ae;rw[a7];have bq:=Ab a0;clear bz aa bg cd co ce a7 a0 a5 bw;go_wp2_with fail
       refine(Aa ae).mono ?_;rintro e b7 ⟨rfl,rfl⟩
       cases cp with
       |false=>
        have b3:Be l≠bs:=by
         have:=Aa bq
         rw[beq_eq_false_iff_ne]at this;exact this
        have F:=Ab (RdA.bad (w:=w) (w':=b7) (bs:=bs) (k:=7) (by rw[Aa av,if_pos (.inr b3)]) (by decide) (Aa a1));clear b3 ae;go_wp2;go_ret2;exact Aa F
       |true=>
        have bf:Be l=bs:=eq_of_beq (Aa bq);have a6:=Aa av;rw[if_neg (by rintro (h|h);exact h (Aa a3);exact h bf)]at a6;have b8:=Ab a6;obtain⟨S,O⟩:=exq (sumsF l);have bb:=Ab (A7 ad c k es b7 ((Aa bn).below (Aa ck)) (Aa I) be (Aa c5) S (by rw[Aa T];exact O));have bd:=Ab O;clear bf a6 O ae;go_wp2_with fail
        refine(Aa bb).mono ?_;rintro e w6 ⟨rfl,ah⟩;have cq:=(Aa a1).size;have bt:=Ab ((Aa a1).trans (ah.mono cq))
        cases S with
        |false=>
         have F:=Ab (RdA.bad (w:=w) (w':=w6) (bs:=bs) (k:=10) (by rw[Aa b8,if_pos (Aa bd)]) (by decide) (Aa bt));clear ah bb;go_wp2;go_ret2;exact Aa F
        |true=>
         have am:readE bs=0:=by rw[Aa b8,if_neg (by rw[Aa bd];decide)]
         have ap:readL bs=l.map En.f:=by
          have:=Aa cg
          rw[if_neg (by rw[am];decide)]at this;exact this
         have bi:FsIn w6 Y c2 (es.map Ev.fv):=((Aa c3).below (Aa c4) (VB _)).below (ah.mono (by omega)) (VB _);have F:Hid (RdA w bs (.returned (.tuple #[.slice Y k c2,.int .i64 0])) w6):=Ab ⟨.slice Y k c2,by rw[am];rfl,⟨Y,c2,es.map Ev.fv,by rw[ap,<-Aa T];simp[Aa I],bi,by rw[DA,Aa T,ap]⟩,Aa bt⟩;clear ah bb am ap bi;go_wp2;go_ret2;exact Aa F
     . have F:=Ab (RdA.bad (w:=w) (w':=w3) (bs:=bs) (k:=7) (by rw[Aa av,if_pos (.inl (by rw[Aa a3];exact az))]) (by decide) (Aa al));have ci:((E:Int)==0)=false:=by rw[beq_eq_false_iff_ne];omega
       have de:((E:Int)!=0)=true:=by rw[bne,ci];rfl
       clear az;go_wp2;go_ret2;exact Aa F
def Z65:Go.Shelf.Ren:=⟨fun|160=>59|232=>83|231=>82|227=>84|234=>86|233=>85|236=>88|235=>87|228=>116|271=>119|151=>118|197=>117|120=>157|152=>156|260=>155|137=>191|119=>192|224=>189|225=>188|217=>187|266=>214|n=>n,fun|9=>9|4=>4|3=>3|5=>5|117=>143|116=>142|0=>0|124=>146|21=>21|105=>183|46=>66|119=>261|139=>264|138=>263|n=>n,fun|3=>1|4=>2|n=>n⟩
theorem Z3c:Go.Proofs.Lays.n160 Tryz.prog Z65:= {
 mixed:=by kernel_rfl
 f119:=Tryz.func192.trans (congrArg some (by kernel_rfl))
 f120:=Tryz.func157.trans (congrArg some (by kernel_rfl))
 f137:=Tryz.func191.trans (congrArg some (by kernel_rfl))
 f151:=Tryz.func118.trans (congrArg some (by kernel_rfl))
 f152:=Tryz.func156.trans (congrArg some (by kernel_rfl))
 f160:=Tryz.func59.trans (congrArg some (by kernel_rfl))
 f197:=Tryz.func117.trans (congrArg some (by kernel_rfl))
 f217:=Tryz.func187.trans (congrArg some (by kernel_rfl))
 f224:=Tryz.func189.trans (congrArg some (by kernel_rfl))
 f225:=Tryz.func188.trans (congrArg some (by kernel_rfl))
 f227:=Tryz.func84.trans (congrArg some (by kernel_rfl))
 f228:=Tryz.func116.trans (congrArg some (by kernel_rfl))
 f231:=Tryz.func82.trans (congrArg some (by kernel_rfl))
 f232:=Tryz.func83.trans (congrArg some (by kernel_rfl))
 f233:=Tryz.func85.trans (congrArg some (by kernel_rfl))
 f234:=Tryz.func86.trans (congrArg some (by kernel_rfl))
 f235:=Tryz.func87.trans (congrArg some (by kernel_rfl))
 f236:=Tryz.func88.trans (congrArg some (by kernel_rfl))
 f260:=Tryz.func155.trans (congrArg some (by kernel_rfl))
 f266:=Tryz.func214.trans (congrArg some (by kernel_rfl))
 f271:=Tryz.func119.trans (congrArg some (by kernel_rfl))
 t0:=Tryz.underlying0
 a0:=Tryz.isAgg0
 z0:=Tryz.sizeOf0
 v0:=Tryz.zeroValue0
 t3:=Tryz.underlying3
 a3:=Tryz.isAgg3
 z3:=Tryz.sizeOf3
 v3:=Tryz.zeroValue3
 t4:=Tryz.underlying4
 a4:=Tryz.isAgg4
 z4:=Tryz.sizeOf4
 v4:=Tryz.zeroValue4
 t5:=Tryz.underlying5
 a5:=Tryz.isAgg5
 z5:=Tryz.sizeOf5
 v5:=Tryz.zeroValue5
 t9:=Tryz.underlying9
 a9:=Tryz.isAgg9
 z9:=Tryz.sizeOf9
 v9:=Tryz.zeroValue9
 t21:=Tryz.underlying21
 a21:=Tryz.isAgg21
 z21:=Tryz.sizeOf21
 v21:=Tryz.zeroValue21
 t46:=Tryz.underlying66
 a46:=Tryz.isAgg66
 z46:=Tryz.sizeOf66
 v46:=Tryz.zeroValue66
 t105:=Tryz.underlying183
 a105:=Tryz.isAgg183
 z105:=Tryz.sizeOf183
 v105:=Tryz.zeroValue183
 t116:=Tryz.underlying142
 a116:=Tryz.isAgg142
 z116:=Tryz.sizeOf142
 t117:=Tryz.underlying143
 a117:=Tryz.isAgg143
 z117:=Tryz.sizeOf143
 v117:=Tryz.zeroValue143
 t119:=Tryz.underlying261
 a119:=Tryz.isAgg261
 z119:=Tryz.sizeOf261
 t124:=Tryz.underlying146
 a124:=Tryz.isAgg146
 z124:=Tryz.sizeOf146
 v124:=Tryz.zeroValue146
 t138:=Tryz.underlying263
 a138:=Tryz.isAgg263
 z138:=Tryz.sizeOf263
 v138:=Tryz.zeroValue263
 t139:=Tryz.underlying264
 a139:=Tryz.isAgg264
 z139:=Tryz.sizeOf264
 v139:=Tryz.zeroValue264
 g3:=by kernel_rfl
 g4:=by kernel_rfl}
theorem KS:(Tryz.prog.info? 142).map (fun i=>(i.zero,i.size))=some (some (.agg (Array.replicate 256 (.bool false))),256):=by kernel_rfl
theorem trimS (p:List UInt8)(w:World)(E:p.length<=maxLen):
 Calls Tryz.prog 59 #[.string (B p),.string (B Ho)] w fun e w'=>e=.returned (.string (B (Lib.trimS p Ho)))/\Below w.heap.size w w':=
 Any.strings_Trim_laid Z3c KS (B p) (B Ho) w (by rw[Im];exact E) (by decide) (ascii_of_all (l:=Ho) (by decide))
theorem Z0n {p:List UInt8}(E:p≠ [])(G:p≠ [46])(F:p≠ [46,46]):okP p=true↔Lib.trimS p Ho= []:=by
 rw[TH];simp[okP,E,G,F]
theorem FM (s:List UInt8)(w:World)(ae:s.length<=maxLen):
 Calls Tryz.prog 37 #[.string (B s)] w fun e w'=>∃v,e=.returned (.tuple #[v,.int .i64 (Kg s:Nat)])/\SRow w' w.heap.size v (Z41 s)/\Below w.heap.size w w'/\(Kg s≠0->v=.slice none 0 0):=by
 have H:=Im s;unfold maxLen at ae
 by_cases ah:40<s.length
 . have ac:=Ab (N3 ah);have a0:40<(B s).size:=by rw[H];omega
   have bh:(B s).size<=9223372036854775807:=by rw[H];omega
   clear H ah ae;generalize B s=t at*;go_enter Tryz.func37,Tryz.ntmps37
   go_wp2;go_ret2;rw[Ox (by rw[Aa ac];decide),Aa ac];exact⟨_,rfl,SRow.nil _ _,Below.refl _ _,fun _=>rfl⟩
 . have ab:=B3 (B s) w (by rw[H];omega);rw[QE]at ab;have a0:(B s).size<=40:=by rw[H];omega
   have a8:=BL (s:=s) (by omega);have am:=Ab (SRow.new w (spl s) (by unfold maxLen;omega));have ac:=Ab (fun p af hb=>DI (s:=s) (p:=p) (by omega) af hb);have ax:=Ab (PV (l:=s) (by omega));have az:∀p∈spl s,p.length<=s.length:=Z2g s;obtain⟨L,ak⟩:=exq ((spl s).length);rw[ak]at ab am a8;have aq:=Ab ak
   have a3:Hid (∀j (E:j<(spl s).length) (W:World),Below (w.heap.size+1) (w.alloc (.cells (Qj (spl s)).toArray 9)) W->W.cell? ⟨w.heap.size,j,none⟩=some (.string (B ((spl s)[j]'hj)))):=by
    intro j E W a5;rw[a5.cell (p:=⟨w.heap.size,j,none⟩) (Nat.lt_succ_self _),World.cell?_alloc_at _ _ _ _ rfl];simp[Qj,E]
   have bi:s.length<=40:=by omega
   clear ak H ah ae;generalize B s=t at*;go_enter Tryz.func37,Tryz.ntmps37
   go_wp2_with (go_at_call 58;refine ab.mono ?_;rintro e w' ⟨rfl,ay⟩;rw[ay])
   clear ab;go_loopw [6,14] (fun _ i wr=>∃k:Nat,k<=L/\i=.int .i64 k/\Hid (∀j (E:j<(spl s).length),j<k->okP ((spl s)[j]'hj)=true)/\Hid (Below (w.heap.size+1) (w.alloc (.cells (Qj (spl s)).toArray 9)) wr)) (fun _ i _=>L-(intOf i).toNat)
   case atStart=>exact⟨0,VH _,rfl,fun j _ E=>absurd E (by omega),Below.refl _ _⟩
   case round=>
    obtain⟨k,bd,rfl,ap,G⟩:=hrel
    by_cases a2:k<L
    . have ai:k<(spl s).length:=by rw[Aa aq];exact a2
      have T:=(Aa a3) k ai wr (Aa G);have a9:=(Aa G).size;have ba:=az _ (WK ai);have an:=Ab (WK ai);have a6:=Ab (fun h=>(Aa ac) _ (Aa an) h)
      have a4:Hid (okP ((spl s)[k]'hlt')=true->∀j (E:j<(spl s).length),j<k+1->okP ((spl s)[j]'hj)=true):=by
       intro h j E bg
       by_cases e:j=k
       . subst e;exact h
       . exact(Aa ap) j E (by omega)
      generalize (spl s)[k]'hlt'=q at*;have ao:w.heap.size+1<=wr.heap.size:=by simp at a9;omega
      clear an
      have F:∀W,Hid (Below (w.heap.size+1) (w.alloc (.cells (Qj (spl s)).toArray 9)) W)->Hid (okP q=false)->Hid (SRow W w.heap.size (.slice none 0 0) (Z41 s)/\Kg s=1/\Below w.heap.size w W):=by
       intro W I O;have aw:=(Aa a6) (Aa O)
       refine⟨?_,aw,(Mv w _).trans ((Aa I).mono (Nat.le_succ _))⟩;rw[Ox (by rw[aw];decide)];exact SRow.nil _ _
      by_cases Z:q= []
      . subst Z;have ar:wr.cell? ⟨w.heap.size,k,none⟩=some (.string ⟨#[]⟩):=T;have Y:=F wr G rfl;clear T F;go_wp2;go_ret2;obtain⟨x1,x2,x3⟩:=Aa Y;rw[x2];exact⟨_,rfl,x1,x3,fun _=>rfl⟩
      by_cases I:q= [46]
      . subst I;have ar:wr.cell? ⟨w.heap.size,k,none⟩=some (.string ⟨#[46]⟩):=T;have Y:=F wr G rfl;clear T F;go_wp2;go_ret2;obtain⟨x1,x2,x3⟩:=Aa Y;rw[x2];exact⟨_,rfl,x1,x3,fun _=>rfl⟩
      by_cases O:q= [46,46]
      . subst O;have ar:wr.cell? ⟨w.heap.size,k,none⟩=some (.string ⟨#[46,46]⟩):=T;have Y:=F wr G rfl;clear T F;go_wp2;go_ret2;obtain⟨x1,x2,x3⟩:=Aa Y;rw[x2];exact⟨_,rfl,x1,x3,fun _=>rfl⟩
      have aa:=Ab (Z0n Z I O);have e0:=Xb (B q) Z;have be:=BK (B q) [46] I;have e2:=BK (B q) [46,46] O;have ag:=trimS q wr (by unfold maxLen;omega);clear Z I O;generalize B q=bb at*
      by_cases M:Lib.trimS q Ho= []
      . have al:=Ab ((Aa aa).2 M);have as:B (Lib.trimS q Ho)=⟨#[]⟩:=by rw[M];rfl
        rw[as]at ag;clear M as aa F;go_wp2_with (go_at_call 59;refine ag.mono ?_;rintro e au ⟨rfl,U⟩;have aj:=Ab ((Aa G).trans (U.mono ao));clear U)
        go_roundw
        case rel=>exact⟨k+1,by omega,by go_num,(Aa a4) (Aa al),Aa aj⟩
        case measure=>simp[intOf];omega
      . have al:Hid (okP q=false):=by
         cases a1:okP q with
         |false=>rfl
         |true=>exact absurd ((Aa aa).1 a1) M
        have bc:=Xb (B (Lib.trimS q Ho)) M;clear M aa;generalize B (Lib.trimS q Ho)=bf at*;have a7:=Ab F;clear F;go_wp2_with (go_at_call 59;refine ag.mono ?_;rintro e au ⟨rfl,U⟩;have aj:=Ab ((Aa G).trans (U.mono ao));clear U)
        go_ret2;obtain⟨x1,x2,x3⟩:=Aa ((Aa a7) au aj al);rw[x2];exact⟨_,rfl,x1,x3,fun _=>rfl⟩
    . obtain rfl:k=L:=by omega
      have av:Hid (Kg s=0):=(Aa ax) (by
       rw[WX];intro p af;obtain⟨j,E,rfl⟩:=List.mem_iff_getElem.1 af;exact(Aa ap) j E (by rw[Aa aq]at E;exact E))
      go_wp2;go_ret2;rw[MG (Aa av),Aa av];refine⟨_,rfl, ?_,(Mv w _).trans ((Aa G).mono (Nat.le_succ _)),fun h=>absurd rfl h⟩;exact(Aa am).below (by simpa using Aa G)
end Go.Proofs.YtleocpdblhbimaaGreatDoor
