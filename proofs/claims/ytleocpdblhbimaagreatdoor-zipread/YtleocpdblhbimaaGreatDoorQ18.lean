import Derived.Test.YtleocpdblhbimaaGreatDoorQ17
import Derived.Test.YtleocpdblhbimaaGreatDoorQ11
import Derived.Maps.Own
import Derived.Maps.OwnSet
import Derived.WideKeyPair
set_option linter.unusedSimpArgs false
set_option maxHeartbeats 4000000
namespace Go.Proofs.YtleocpdblhbimaaGreatDoor
open Go.RowKit
set_option linter.unusedVariables false
set_option maxRecDepth 100000
theorem PT {f:Fl}(I:Kg f.name=0)(n:Nat)(G:f.bytes.length=n)(F:Nat)(T:Mq f=F):(F=2/\3000<n)\/ (F=3/\n<=3000/\(f.stamp<0\/ (0<=f.stamp/\1000000<f.stamp)\/ (0<=f.stamp/\f.stamp<=1000000/\f.node<0)\/ (0<=f.stamp/\f.stamp<=1000000/\0<=f.node/\3<f.node)))\/ (F=4/\n<=3000/\0<=f.stamp/\f.stamp<=1000000/\0<=f.node/\f.node<=3/\f.gone=true/\0<n)\/ (F=0/\n<=3000/\0<=f.stamp/\f.stamp<=1000000/\0<=f.node/\f.node<=3/\f.gone=true/\n=0)\/ (F=0/\n<=3000/\0<=f.stamp/\f.stamp<=1000000/\0<=f.node/\f.node<=3/\f.gone=false):=by
 subst G;subst T
 by_cases H:3000<f.bytes.length
 . exact .inl ⟨M4 I H,H⟩
 . by_cases M:f.stamp<0\/1000000<f.stamp\/f.node<0\/3<f.node
   . exact .inr (.inl ⟨Vs I H M,by omega,by omega⟩)
   . have E:=M2 I H M
     cases O:f.gone with
     |true=>
      by_cases G:0<f.bytes.length
      . rw[if_pos ⟨O,G⟩]at E;exact .inr (.inr (.inl ⟨E,by omega,by omega,by omega,by omega,by omega,rfl,G⟩))
      . rw[if_neg (fun k=>G k.2)]at E;exact .inr (.inr (.inr (.inl ⟨E,by omega,by omega,by omega,by omega,by omega,rfl,by omega⟩)))
     |false=>
      rw[if_neg (fun k=>by rw[O]at k;cases k.1)]at E;exact .inr (.inr (.inr (.inr ⟨E,by omega,by omega,by omega,by omega,by omega,rfl⟩)))
def ahn (xs:List Fv):Nat->List UInt8
 |0=> []
 |k+1=>(((fls xs)[k]?).map Fl.name).getD []
theorem Z5e (E:Option Addr)(n c:Nat)(w:World)(F:12<n):Calls Tryz.prog 8 #[.slice E n c] w fun e w'=>e=.returned (.int .i64 2)/\w'=w:=by
 go_enter Tryz.func8,Tryz.ntmps8
 go_wp2;go_ret;exact⟨rfl,rfl⟩
theorem Tw (az:Option Addr)(c:Nat)(xs:List Fv)(w:World)(h:FsIn w az c xs)(n:Nat)(a6:xs.length=n):
 Calls Tryz.prog 8 #[.slice az n c] w fun e w'=>e=.returned (.int .i64 (errM (fls xs):Nat))/\Below w.heap.size w w':=by
 have hl:(fls xs).length=n:=by simp[fls,a6]
 by_cases hm:12<n
 . have e:errM (fls xs)=2:=by unfold errM;rw[if_pos (by omega)]
   rw[e];refine(Z5e az n c w hm).mono ?_;rintro e w' ⟨rfl,rfl⟩;exact⟨rfl,Below.refl _ _⟩
 . have e:errM (fls xs)=DH none (fls xs):=by unfold errM;rw[if_neg (by omega)]
   obtain⟨E,a0⟩:=exq (DH none (fls xs));rw[e,a0];have bg:=Ab h;have bn:=Ab a6;have bw:=Ab a0;have bh:=Ab hl;clear h e a0 a6 hl;go_enter Tryz.func8,Tryz.ntmps8
   go_wp2;go_loopw [3,4,5,6,7,13] (fun bz _ _ _ _ i wr=>∃k:Nat,k<=n/\i=.int .i64 (k:Int)/\bz=.string (B (ahn xs k))/\Hid (DH (ahd xs k) ((fls xs).drop k)=E)/\Hid (Below w.heap.size w wr)) (fun _ _ _ _ _ i _=>n-(intOf i).toNat)
   case atStart=>exact⟨0,VH _,rfl,rfl,Aa bw,Below.refl _ _⟩
   case round=>
    obtain⟨k,ch,rfl,rfl,be,as⟩:=hrel
    by_cases b3:k<n
    . obtain⟨x,au,bb⟩:=Ob (xs:=xs) (k:=k) (by rw[Aa bn];exact b3);obtain⟨b,o,rfl,hb,c0,c1,c2,bt,bu⟩:=(Aa bg).get (Aa as) au;have a1:=M5 au;rw[Aa be]at a1;have cd:=(Aa as).size;have U:=Ab (fun W=>FM x.f.name W (by have:=((Aa bg).all x bb).txt;unfold maxLen;omega));have am:=Ab a1;have bd:ahn xs (k+1)=x.f.name:=by show (((fls xs)[k]?).map Fl.name).getD []=_;simp[fls,au]
      have b4:=Ab bd;have bj:x.sl=.slice x.a x.f.bytes.length x.c:=rfl;rw[bj]at c1;have Y:=Ab (fun bo=>(Aa as).alloc cd bo);obtain⟨a9,a2⟩:=exq (x.f.bytes.length);obtain⟨er,a5⟩:=exq (Mq x.f);have ar:=Ab (fun bk=>PT (f:=x.f) bk a9 a2 er a5);have ao:=Ab (@M3 x.f);rw[a5]at am ao
      have bc:Hid ((k=0/\behind (ahd xs k) x.f=true)\/ (0<k/\behind (ahd xs k) x.f=decide (Pq x.f.name (ahn xs k)=1))):=by
       cases k with
       |zero=>exact .inl ⟨rfl,rfl⟩
       |succ j=>
        refine .inr ⟨by omega, ?_⟩;have b0:j<(fls xs).length:=by rw[Aa bh];omega
        show behind ((fls xs)[j]?) x.f=decide (Pq x.f.name ((((fls xs)[j]?).map Fl.name).getD [])=1)
        rw[VP b0];show decide (Pq (fls xs)[j].name x.f.name<0)=decide (Pq x.f.name (fls xs)[j].name=1)
        rw[decide_eq_decide];have cg:=Su x.f.name (fls xs)[j].name;have aq:=Kd x.f.name (fls xs)[j].name;omega
      have al:=Z2c x.f.name (ahn xs k);have aj:=Z2d x.f.name (ahn xs k);have bq:=Kd x.f.name (ahn xs k);obtain⟨an,a4⟩:=exq (Pq x.f.name (ahn xs k));rw[a4]at al aj bq;have aw:Hid ((k=0/\behind (ahd xs k) x.f=true)\/ (0<k/\behind (ahd xs k) x.f=decide (an=1))):=by have:=Aa bc;rw[a4]at this;exact this
      clear a1 bb au bj a5 bd bc a4;rw[a2]at c1;clear a2;obtain⟨bm,ap⟩:=exq (Kg x.f.name);rw[ap]at U ar ao;clear ap;obtain⟨t,aq⟩:=exq (B x.f.name);obtain⟨bi,a8⟩:∃bi,B (ahn xs k)=bi:=⟨_,rfl⟩
      rw[aq]at U c0 al aj;rw[a8]at al aj;rw[a8];have b7:=Ab aq;clear aq a8;generalize x.f.stamp=st at*;generalize x.f.node=nd at*;generalize x.f.gone=gn at*
      by_cases a7:bm=0
      . subst a7;have ay:=Aa ar rfl;clear ar ao;have I:=Aa am;clear am
        by_cases av:er=0
        . subst av
          have b5:(a9<=3000/\0<=st/\st<=1000000/\0<=nd/\nd<=3)/\((gn=true/\a9=0)\/gn=false):=by
           rcases ay with ⟨h,_⟩|⟨h,_⟩|⟨h,_⟩|⟨_,ae,Z,aa,ag,ai,ax,bv⟩|⟨_,ae,Z,aa,ag,ai,ax⟩
           . omega
           . omega
           . omega
           . exact⟨⟨ae,Z,aa,ag,ai⟩,.inl ⟨ax,bv⟩⟩
           . exact⟨⟨ae,Z,aa,ag,ai⟩,.inr ax⟩
          obtain⟨⟨ae,Z,aa,ag,ai⟩,bf⟩:=b5;rw[if_neg (by simp)]at I;clear ay
          have b8:(Hid (behind (ahd xs k) x.f=true)/\(k=0\/ (0<k/\an=1)))\/ (Hid (behind (ahd xs k) x.f=false)/\0<k/\(an= -1\/an=0)):=by
           rcases Aa aw with ⟨O,M⟩|⟨O,M⟩
           . exact .inl ⟨M,.inl O⟩
           . by_cases a3:an=1
             . exact .inl ⟨by rw[M];exact decide_eq_true a3,.inr ⟨O,a3⟩⟩
             . exact .inr ⟨by rw[M];exact decide_eq_false a3,O,by omega⟩
          clear aw
          rcases b8 with ⟨ak,ba⟩|⟨ak,b9,ba⟩
          . rw[if_neg (by rw[Aa ak];simp)]at I;have T:=Ab I;clear I ak
            rcases bf with ⟨rfl,rfl⟩|rfl
            all_goals (
             rcases ba with rfl|⟨b9,rfl⟩
             all_goals (
              try simp only[YJ,XN]at c0 c1 c2 bt bu
              try simp only[Int.reduceLT,Int.reduceEq,decide_false]at al aj
              go_wp2_with fail
              refine(Aa U _).mono ?_;rintro e G ⟨ab,rfl,_,F,_⟩;have H:=Ab ((Aa Y _).trans (F.mono (by simp;omega)));have ah:G.cell? ⟨wr.heap.size,0,none⟩=some (.string t):=(F.cell (p:=⟨wr.heap.size,0,none⟩) (by simp)).trans (by simp);have O:=(F.cell (p:=⟨wr.heap.size,1,none⟩) (by simp)).trans (by simp;rfl);have M:G.cell? ⟨wr.heap.size,2,none⟩=some (.int .i64 st):=(F.cell (p:=⟨wr.heap.size,2,none⟩) (by simp)).trans (by simp);have af:G.cell? ⟨wr.heap.size,3,none⟩=some (.int .i64 nd):=(F.cell (p:=⟨wr.heap.size,3,none⟩) (by simp)).trans (by simp);have ac:=(F.cell (p:=⟨wr.heap.size,4,none⟩) (by simp)).trans (by simp;rfl);clear F;go_wp2;go_roundw
              case rel=>exact⟨_,by omega,by go_num,by rw[Aa b4,Aa b7],(Aa T).symm,Aa H⟩
              case measure=>simp[intOf];omega))
          . rw[if_pos (Aa ak)]at I;have T:=Ab I;clear I ak;have ce:(0:Int)<(k:Int):=by omega
            rcases bf with ⟨rfl,rfl⟩|rfl
            all_goals (
             rcases ba with rfl|rfl
             all_goals (
              try simp only[Int.reduceLT,Int.reduceEq,Int.reduceNeg,decide_true,decide_false]at al aj
              go_wp2_with fail
              refine(Aa U _).mono ?_;rintro e G ⟨ab,rfl,_,F,_⟩;have H:=Ab ((Aa Y _).trans (F.mono (by simp;omega)));have ah:G.cell? ⟨wr.heap.size,0,none⟩=some (.string t):=(F.cell (p:=⟨wr.heap.size,0,none⟩) (by simp)).trans (by simp);have O:=(F.cell (p:=⟨wr.heap.size,1,none⟩) (by simp)).trans (by simp;rfl);have M:G.cell? ⟨wr.heap.size,2,none⟩=some (.int .i64 st):=(F.cell (p:=⟨wr.heap.size,2,none⟩) (by simp)).trans (by simp);have af:G.cell? ⟨wr.heap.size,3,none⟩=some (.int .i64 nd):=(F.cell (p:=⟨wr.heap.size,3,none⟩) (by simp)).trans (by simp);have ac:=(F.cell (p:=⟨wr.heap.size,4,none⟩) (by simp)).trans (by simp;rfl);clear F;go_wp2;go_ret;exact⟨Dd (by rw[Aa T];rfl),Aa H⟩))
        . rw[if_pos (by simpa using av)]at I;have T:=Ab I;clear I aw
          rcases ay with ⟨rfl,ae⟩|⟨rfl,ae,Z|⟨Z,aa⟩|⟨Z,aa,ag⟩|⟨Z,aa,ag,ai⟩⟩|⟨rfl,ae,Z,aa,ag,ai,rfl,ax⟩|⟨rfl,_⟩|⟨rfl,_⟩
          . skip
            go_wp2_with fail
            refine(Aa U _).mono ?_;rintro e G ⟨ab,rfl,_,F,_⟩;have H:=Ab ((Aa Y _).trans (F.mono (by simp;omega)));have ah:G.cell? ⟨wr.heap.size,0,none⟩=some (.string t):=(F.cell (p:=⟨wr.heap.size,0,none⟩) (by simp)).trans (by simp);have O:=(F.cell (p:=⟨wr.heap.size,1,none⟩) (by simp)).trans (by simp;rfl);have M:G.cell? ⟨wr.heap.size,2,none⟩=some (.int .i64 st):=(F.cell (p:=⟨wr.heap.size,2,none⟩) (by simp)).trans (by simp);have af:G.cell? ⟨wr.heap.size,3,none⟩=some (.int .i64 nd):=(F.cell (p:=⟨wr.heap.size,3,none⟩) (by simp)).trans (by simp);have ac:=(F.cell (p:=⟨wr.heap.size,4,none⟩) (by simp)).trans (by simp;rfl);clear F;go_wp2;go_ret;exact⟨Dd (by rw[Aa T];rfl),Aa H⟩
          . skip
            go_wp2_with fail
            refine(Aa U _).mono ?_;rintro e G ⟨ab,rfl,_,F,_⟩;have H:=Ab ((Aa Y _).trans (F.mono (by simp;omega)));have ah:G.cell? ⟨wr.heap.size,0,none⟩=some (.string t):=(F.cell (p:=⟨wr.heap.size,0,none⟩) (by simp)).trans (by simp);have O:=(F.cell (p:=⟨wr.heap.size,1,none⟩) (by simp)).trans (by simp;rfl);have M:G.cell? ⟨wr.heap.size,2,none⟩=some (.int .i64 st):=(F.cell (p:=⟨wr.heap.size,2,none⟩) (by simp)).trans (by simp);have af:G.cell? ⟨wr.heap.size,3,none⟩=some (.int .i64 nd):=(F.cell (p:=⟨wr.heap.size,3,none⟩) (by simp)).trans (by simp);have ac:=(F.cell (p:=⟨wr.heap.size,4,none⟩) (by simp)).trans (by simp;rfl);clear F;go_wp2;go_ret;exact⟨Dd (by rw[Aa T];rfl),Aa H⟩
          . skip
            go_wp2_with fail
            refine(Aa U _).mono ?_;rintro e G ⟨ab,rfl,_,F,_⟩;have H:=Ab ((Aa Y _).trans (F.mono (by simp;omega)));have ah:G.cell? ⟨wr.heap.size,0,none⟩=some (.string t):=(F.cell (p:=⟨wr.heap.size,0,none⟩) (by simp)).trans (by simp);have O:=(F.cell (p:=⟨wr.heap.size,1,none⟩) (by simp)).trans (by simp;rfl);have M:G.cell? ⟨wr.heap.size,2,none⟩=some (.int .i64 st):=(F.cell (p:=⟨wr.heap.size,2,none⟩) (by simp)).trans (by simp);have af:G.cell? ⟨wr.heap.size,3,none⟩=some (.int .i64 nd):=(F.cell (p:=⟨wr.heap.size,3,none⟩) (by simp)).trans (by simp);have ac:=(F.cell (p:=⟨wr.heap.size,4,none⟩) (by simp)).trans (by simp;rfl);clear F;go_wp2;go_ret;exact⟨Dd (by rw[Aa T];rfl),Aa H⟩
          . skip
            go_wp2_with fail
            refine(Aa U _).mono ?_;rintro e G ⟨ab,rfl,_,F,_⟩;have H:=Ab ((Aa Y _).trans (F.mono (by simp;omega)));have ah:G.cell? ⟨wr.heap.size,0,none⟩=some (.string t):=(F.cell (p:=⟨wr.heap.size,0,none⟩) (by simp)).trans (by simp);have O:=(F.cell (p:=⟨wr.heap.size,1,none⟩) (by simp)).trans (by simp;rfl);have M:G.cell? ⟨wr.heap.size,2,none⟩=some (.int .i64 st):=(F.cell (p:=⟨wr.heap.size,2,none⟩) (by simp)).trans (by simp);have af:G.cell? ⟨wr.heap.size,3,none⟩=some (.int .i64 nd):=(F.cell (p:=⟨wr.heap.size,3,none⟩) (by simp)).trans (by simp);have ac:=(F.cell (p:=⟨wr.heap.size,4,none⟩) (by simp)).trans (by simp;rfl);clear F;go_wp2;go_ret;exact⟨Dd (by rw[Aa T];rfl),Aa H⟩
          . skip
            go_wp2_with fail
            refine(Aa U _).mono ?_;rintro e G ⟨ab,rfl,_,F,_⟩;have H:=Ab ((Aa Y _).trans (F.mono (by simp;omega)));have ah:G.cell? ⟨wr.heap.size,0,none⟩=some (.string t):=(F.cell (p:=⟨wr.heap.size,0,none⟩) (by simp)).trans (by simp);have O:=(F.cell (p:=⟨wr.heap.size,1,none⟩) (by simp)).trans (by simp;rfl);have M:G.cell? ⟨wr.heap.size,2,none⟩=some (.int .i64 st):=(F.cell (p:=⟨wr.heap.size,2,none⟩) (by simp)).trans (by simp);have af:G.cell? ⟨wr.heap.size,3,none⟩=some (.int .i64 nd):=(F.cell (p:=⟨wr.heap.size,3,none⟩) (by simp)).trans (by simp);have ac:=(F.cell (p:=⟨wr.heap.size,4,none⟩) (by simp)).trans (by simp;rfl);clear F;go_wp2;go_ret;exact⟨Dd (by rw[Aa T];rfl),Aa H⟩
          . skip
            go_wp2_with fail
            refine(Aa U _).mono ?_;rintro e G ⟨ab,rfl,_,F,_⟩;have H:=Ab ((Aa Y _).trans (F.mono (by simp;omega)));have ah:G.cell? ⟨wr.heap.size,0,none⟩=some (.string t):=(F.cell (p:=⟨wr.heap.size,0,none⟩) (by simp)).trans (by simp);have O:=(F.cell (p:=⟨wr.heap.size,1,none⟩) (by simp)).trans (by simp;rfl);have M:G.cell? ⟨wr.heap.size,2,none⟩=some (.int .i64 st):=(F.cell (p:=⟨wr.heap.size,2,none⟩) (by simp)).trans (by simp);have af:G.cell? ⟨wr.heap.size,3,none⟩=some (.int .i64 nd):=(F.cell (p:=⟨wr.heap.size,3,none⟩) (by simp)).trans (by simp);have ac:=(F.cell (p:=⟨wr.heap.size,4,none⟩) (by simp)).trans (by simp;rfl);clear F;go_wp2;go_ret;exact⟨Dd (by rw[Aa T];rfl),Aa H⟩
          . exact absurd rfl av
          . exact absurd rfl av
      . have ap:=Aa ao a7;have I:=Aa am;rw[ap,if_pos (by simpa using a7)]at I;have T:=Ab I;clear I ap am ar ao aw;go_wp2_with fail
        refine(Aa U _).mono ?_;rintro e G ⟨ab,rfl,_,F,_⟩;have H:=Ab ((Aa Y _).trans (F.mono (by simp;omega)));clear F;go_wp2;go_ret;exact⟨Dd (by rw[Aa T]),Aa H⟩
    . obtain rfl:n=k:=by omega
      go_wp2;go_ret;have:=Aa be
      rw[XQ (by rw[Aa bh];exact VB _)]at this;exact⟨Dd (by rw[<-this];rfl),Aa as⟩
def SG (c x k:Nat):Nat:=Ik k (c^^^x%2^k)
theorem QG (c x:Nat):SG c x 0=c:=by simp[SG,Ik,Nat.mod_one]
theorem QH (c x k:Nat):SG c x (k+1)=lft (SG c x k^^^x/2^k%2):=NU c x k
theorem Z1y {c x:Nat}(E:x<256):SG c x 8=Z1x c x:=by
 unfold SG Z1x;rw[ZJ (by simpa using E)]
theorem Z5c {c x:Nat}(k:Nat)(E:c<4294967296)(F:x<256):SG c x k<4294967296:=by
 unfold SG;refine Rl k (ZO (n:=32) E ?_);have:=Nat.mod_le x (2^k)
 omega
theorem Z8o {m x j:Nat}(G:m<4294967296)(F:x<256)(H:j<8):bits .xor .u32 (bits .and .u32 (m:Int) 1) (bits .and .u8 ((x:Int)/2^j) 1%4294967296)=(((m%2^^^x/2^j%2):Nat):Int):=by
 have E:bits .and .u8 ((x/2^j:Nat):Int) ((1:Nat):Int)=((x/2^j&&&1:Nat):Int):=u8_and_nat _ _ (XO (YO _ _) F) (by decide);rw[Nat.and_one_is_mod]at E;have e:((x/2^j:Nat):Int)=(x:Int)/2^j:=by push_cast;rfl
 rw[e]at E;rw[Z8g G,show (1:Int)=((1:Nat):Int) from rfl,E,show (((x/2^j%2:Nat):Int))%4294967296=((x/2^j%2:Nat):Int) by omega];exact u32_xor_nat _ _ (by omega) (by omega)
theorem QF (p:Nat)(a:Option Addr)(n ae:Nat)(bs:List Nat)(w:World)(ab:bs.length=n)(ao:n<=12000)(T:p<4294967296)(O:BytesIn w a bs)(aa:∀j,bs.getD j 0<256):
 Calls Tryz.prog 12 #[.int .u32 (p:Int),.slice a n ae] w fun e w'=>e=.returned (.int .u32 (crcN p bs:Nat))/\w'=w:=by
 have ak:=Ab O;have U:=Ab aa;have Y:=Ab ab;clear O aa ab;go_enter Tryz.func12,Tryz.ntmps12
 go_wp2;rw[Z7h T];go_loop [5,14] (fun r i=>∃k:Nat,k<=n/\i=.int .i64 (k:Int)/\r=.int .u32 (Sn (p^^^4294967295) (bs.take k):Nat)) (fun _ i=>n-(intOf i).toNat)
 case atStart=>exact⟨0,by omega,rfl,rfl⟩
 case round=>
  obtain⟨k,am,rfl,rfl⟩:=hrel
  have hr:Sn (p^^^4294967295) (bs.take k)<4294967296:=Sl _ _ (fun y af=>by
   obtain⟨i,hi,rfl⟩:=XI af;have:=Aa U i
   rw[VL]at hi;rw[YN];rw[List.getD,VP (by omega)]at this;exact this) (E5 T)
  by_cases ah:k<n
  . have I:k<bs.length:=by rw[Aa Y];exact ah
    obtain⟨b,o,rfl,hb,hc⟩:=DS (Aa ak) I;have F:=Aa U k;have ai:Hid (Sn (p^^^4294967295) (bs.take (k+1))=Z1x (Sn (p^^^4294967295) (bs.take k)) (bs.getD k 0)):=Ab (by rw[Zy I,N7]);generalize Sn (p^^^4294967295) (bs.take k)=r at*;generalize bs.getD k 0=x at*;clear I;go_wp2;go_loop [5,18] (fun r1 i=>∃j:Nat,j<=8/\i=.int .i64 (j:Int)/\r1=.int .u32 (SG r x j:Nat)) (fun _ i=>8-(intOf i).toNat)
    case atStart=>exact⟨0,by omega,rfl,by rw[QG]⟩
    case round=>
     obtain⟨j,an,rfl,rfl⟩:=hrel
     by_cases M:j<8
     . have Z:=Ab (QH r x j);have hm:=Z5c j hr F;generalize SG r x j=m at*
       by_cases E:(m%2^^^x/2^j%2)=1
       . have G:(bits .xor .u32 (bits .and .u32 (m:Int) 1) (bits .and .u8 ((x:Int)/2^j) 1%4294967296)==1)=true:=by rw[Z8o hm F M,E];rfl
         have H:Hid (lft (m^^^x/2^j%2)=m/2^^^3988292384):=Ab (by rw[NV _ _ (Nat.mod_lt _ (by decide)),if_pos E]);have aj:=Ab (Z8k hm);clear E;go_wp2;go_round
         case rel=>exact⟨j+1,by omega,by go_num,by rw[Aa Z,Aa H,Aa aj]⟩
         case measure=>simp[intOf];omega
       . have G:=Z8o hm F M;have ag:((((m%2^^^x/2^j%2):Nat):Int)==1)=false:=by rw[beq_eq_false_iff_ne];omega
         rw[<-G]at ag;have H:Hid (lft (m^^^x/2^j%2)=m/2):=Ab (by rw[NV _ _ (Nat.mod_lt _ (by decide)),if_neg E]);clear E G;go_wp2;go_round
         case rel=>exact⟨j+1,by omega,by go_num,by rw[Aa Z,Aa H];rfl⟩
         case measure=>simp[intOf];omega
     . obtain rfl:j=8:=by omega
       go_wp2;go_round
       case rel=>exact⟨k+1,by omega,by go_num,by rw[Aa ai,Z1y F]⟩
       case measure=>simp[intOf];omega
  . have e:k=n:=by omega
    subst e;have al:Hid (Sn (p^^^4294967295) (bs.take k)^^^4294967295=crcN p bs):=Ab (by rw[VV (by rw[Aa Y];exact VB _)];rfl);have ac:=Ab (Z7h hr);clear hr;go_wp2;go_ret;exact⟨by rw[Aa ac,Aa al];rfl,rfl⟩
end Go.Proofs.YtleocpdblhbimaaGreatDoor
namespace Go.Proofs.YtleocpdblhbimaaGreatDoor
open Go.RowKit
set_option linter.unusedVariables false
set_option maxRecDepth 100000
structure RdK (bs:List Nat)(es:List Ev)(ok:Bool):Prop where
 few:es.length<=12
 by_:∀x∈es,x.e.f.bytes.length<=12000
 no:ok=false->readE bs=7
 torn:errM ((es.map Ev.e).map En.f)≠0->readE bs=7
 sum:ok=true->errM ((es.map Ev.e).map En.f)=0->sumsF (es.map Ev.e)=false->readE bs=10
 yes:ok=true->errM ((es.map Ev.e).map En.f)=0->sumsF (es.map Ev.e)=true->readE bs=0/\readL bs=(es.map Ev.e).map En.f
theorem EnD.ways {w w':World}{bs:List Nat}{e:Ending}(M:EnD w bs e w')(ab:bs.length<=12000)(T:∀x∈bs,x<256):Below w.heap.size w w'/\∃es ad c ok,e=.returned (.tuple #[.slice ad es.length c,.bool ok])/\RsIn w' ad es/\RdK bs es ok:=by
 obtain⟨af,M⟩:=M;obtain⟨I,ae⟩:=Z07 bs ab T;refine⟨af, ?_⟩
 rcases M with ⟨F,rfl⟩|⟨es,ad,c,F,rfl,ac⟩
 . have Y:readE bs=7:=by rw[<-I];unfold Kf;rw[F]
   exact⟨[],none,0,false,rfl,⟨.inl rfl,fun x E=>by cases E⟩,VH _,(fun x E=>by cases E),fun _=>Y,fun _=>Y,(fun e=>by cases e),(fun e=>by cases e)⟩
 . have O:=DJ T F;have G:readE bs=if errM ((es.map Ev.e).map En.f)≠0\/Be (es.map Ev.e)≠bs then 7 else if sumsF (es.map Ev.e)=false then 10 else 0:=by rw[<-I];unfold Kf;rw[F]
   refine⟨es,ad,c,_,rfl,ac,by simpa using O.1,fun x E=> ?_,fun e=> ?_,fun e=> ?_,fun e e2 e3=> ?_,fun e e2 e3=> ?_⟩
   . have aa:=(O.2 x.e (XV E)).ok.un;have Z:=BC (m:=x.e.meth) (pk:=x.e.pk) (ys:=n8 x.e.f.bytes) (by have:=(O.2 x.e (XV E)).pl;omega) (by rw[Le];exact aa);rw[Da]at Z;exact Z
   . rw[beq_eq_false_iff_ne]at e;rw[G,if_pos (.inr e)]
   . rw[G,if_pos (.inl e)]
   . have H:=eq_of_beq e;rw[G,if_neg (by rintro (k|k);exact k e2;exact k H),if_pos e3]
   . have H:=eq_of_beq e;have U:readE bs=0:=by rw[G,if_neg (by rintro (k|k);exact k e2;exact k H),if_neg (by rw[e3];decide)]
     refine⟨U, ?_⟩;rw[<-ae];unfold Vb;rw[if_neg (by rw[I,U];decide),F];rfl
theorem Qw (a:Option Addr)(n ag:Nat)(bs:List Nat)(w:World)(ch:bs.length=n)(co:n<=12000)(c7:n<=ag)(bq:PkIn w a ag bs)(ax:∀x∈bs,x<256)(bi:UnC True):
 Calls Tryz.prog 16 #[.slice a n ag] w fun e w'=>RdA w bs e w':=by
 have bw:=Ab (Z4 a n ag bs w ch co c7 bq ax True (.inl trivial) bi);have a9:Hid (bs.length<=12000/\∀x∈bs,x<256):=Ab ⟨by omega,ax⟩;clear bq ax bi ch;go_enter Tryz.func16,Tryz.ntmps16
 go_wp2_with fail
 refine(Aa bw).mono ?_;rintro e H bg;obtain⟨ce,es,ad,c,ok,rfl,bm,hK⟩:=bg.ways (Aa a9).1 (Aa a9).2;obtain⟨F,bc⟩:=exq (es.length);rw[bc];obtain⟨ak,aq⟩:=exq (sumsF (es.map Ev.e));have da:F<=12:=by have:=hK.few;omega
 have a5:=Ab bm;have aa:=Ab hK;have T:=Ab bc;have aw:=Ab ce;have ba:=Ab aq;clear bg ce bm hK bc aq bw a9;go_wp2;go_loopw [6,7,9,17] (fun cu cn _ i wr=>∃(k:Nat) (S:Bool),k<=F/\i=.int .i64 (k:Int)/\cn=.bool S/\Hid ((S&&sumsF ((es.map Ev.e).drop k))=ak)/\Hid (GR wr H.heap.size cu (es.take k))/\Hid (Below H.heap.size H wr)) (fun _ _ _ i _=>F-(intOf i).toNat)
 case atStart=>exact⟨0,true,VH _,rfl,rfl,Ab (by rw[ZF];exact Aa ba),Ab (GR.nil _ _),Ab (Below.refl _ _)⟩
 case round=>
  obtain⟨k,S,c9,rfl,rfl,ao,ac,Y⟩:=hrel
  by_cases cz:k<F
  . obtain⟨x,aj,as⟩:∃x,es[k]? =some x/\x∈es:=⟨es[k]'(by rw[Aa T];exact cz),VP _,WK _⟩
    obtain⟨b,o,rfl,hb,c0,c1,c2,cq,ct,c3,c6,cm⟩:=(Aa a5).get (Aa Y) aj;have ci:=(Aa Y).size;have am:=((Aa a5).all x as).1;have I:=A6 (l:=es.map Ev.e) (k:=k) (x:=x.e) (by simp[aj]);have O:=fun(W:World) (U:Below H.heap.size H W)=>QF 0 x.fa x.e.f.bytes.length x.fc (n8 x.e.f.bytes) W (Da _) ((Aa aa).by_ x as) (by decide) (am.below U).fb.1 (Er (Lv _))
    have cd:=Ab (Eu aj);have be:=Ab (fun o1 o2:Obj=>(am.below ((Aa Y).trans ((Below.refl H.heap.size wr).alloc ci o1))).below ((Below.refl _ _).alloc (VB _) o2));have a7:∀g,some g=u6.ownBlock->H.heap.size<=g/\g<wr.heap.size:=fun g e=>(Aa ac).own.lt g e.symm
    have bu:Hid (x.lies (fun g=>some g≠u6.ownBlock)):=Ab (am.lt.mono (fun g a4 e=>by have:=(a7 g e).1;omega));have b5:=Ab (fun o1 o2:Obj=>((Aa ac).below ((Below.refl _ _).alloc (VB _) o1)).below ((Below.refl _ _).alloc (VB _) o2));have b9:=Ab (fun o1 o2:Obj=>((Aa Y).alloc ci o1).alloc (by simp;omega) o2);have bz:Hid ((es.take k).length+1<=100000):=Ab (by rw[VL];omega)
    have cg:Hid (∀o1 o2,o2=Obj.cells x.fv.cells.toArray 30->∀j u,x.fv.cells[j]? =some u->((wr.alloc o1).alloc o2).cell? ⟨wr.heap.size+1,j,none⟩=some u):=Ab (fun o1 o2 e j u cy=>by
     subst e;have bk:=heap_alloc_new (wr.alloc o1) (.cells x.fv.cells.toArray 30);simp only[World.size_alloc]at bk;rw[Ac bk];simpa using cy)
    have bv:Hid (∀(o1 o2:Obj) (w3:World),((wr.alloc o1).alloc o2).grownBy w3 u6.ownBlock->w3.heap[wr.heap.size]? =some o1/\wr.heap.size<w3.heap.size):=Ab (fun o1 o2 w3 a4=>by
     have ck:=a4.block wr.heap.size (by simp;omega) (fun e=>by have:=(a7 _ e).2;omega);rw[ck];refine⟨?_,VG (by simp;omega) a4.size⟩;have cl:=((Below.refl (wr.alloc o1).heap.size (wr.alloc o1)).alloc (VB _) o2).block wr.heap.size (by simp);rw[cl];exact heap_alloc_new wr o1)
    have b8:=Ab I;have bn:=Ab O;clear aj as am a7 I O;go_wp2_with (at_builtin;refine Ij _ rfl _ _ rfl H.heap.size _ (es.take k) rfl (Aa b5 _ _) (wr.heap.size+1) x rfl (Aa cg _ _ rfl) (Aa be _ _) (Aa bu) (Aa bz) (by simp;omega) ?_)
    intro v' w3 b7 bo Z;have au:Hid (GR w3 H.heap.size v' (es.take (k+1))):=Ab (by rw[Aa cd];exact Aa b7);have G:=Ab ((Aa b9 _ _).trans (Aa Z));obtain⟨az,b3⟩:=Aa bv _ _ _ (Aa bo);have ah:=Ac (i:=1) az;have an:=Ac (i:=7) az;simp only[VZ,VY,WI]at ah an;have I:=Aa b8;obtain⟨m,hm⟩:=exq (crcN 0 (n8 x.e.f.bytes));have O:=Aa bn;rw[hm]at I O;generalize x.e.f.bytes.length=bl at ah O;generalize x.e.crc=cr at an I;have k1:∀W:World,Below w3.heap.size w3 W->W.cell? ⟨wr.heap.size,1,none⟩=some (.slice x.fa bl x.fc):=fun W U=>(U.cell (p:=⟨wr.heap.size,1,none⟩) b3).trans ah
    have b4:∀W:World,Below w3.heap.size w3 W->W.cell? ⟨wr.heap.size,7,none⟩=some (.int .u32 (cr:Int)):=fun W U=>(U.cell (p:=⟨wr.heap.size,7,none⟩) b3).trans an
    have bd:=Ab (fun(W:World) (U:Below w3.heap.size w3 W)=>O W ((Aa G).trans (U.mono (by have:=(Aa G).size;omega))));have bf:=(Aa G).size;have a8:=Aa ao;rw[I]at a8;have ap:=Ab a8;clear b7 Z bo az I O hm a8 c0 c1 c2 cq ct c3 c6 cm ao ac Y b5 b9 be bu bz cg bv b8 bn cd ah an
    cases S with
    |true=>
     obtain⟨bt,cv⟩:=exq (((m:Int)==(cr:Int)))
     have av:Hid ((bt&&sumsF ((es.map Ev.e).drop (k+1)))=ak):=Ab (by
      have h:=Aa ap;rw[ZF]at h;rw[<-h,<-cv]
      congr 1
      by_cases e:cr=m
      . subst e;rw[decide_eq_true rfl,beq_self_eq_true]
      . rw[decide_eq_false e,beq_eq_false_iff_ne];omega)
     clear ap;go_wp2;go_region_held3 (fun W=>Below w3.heap.size w3 W) (first|exact Ea (Below.refl _ _)|exact ai) ((go_at_call 12;refine(Aa bd _ (Ea (Below.refl _ _))).mono ?_;rintro e c5 ⟨rfl,b0⟩;have ai:Below w3.heap.size w3 c5:=(by rw[b0];exact Ea (Below.refl _ _));clear b0))
     all_goals
      have a2:=Ab ((Aa au).below ai);have a1:=Ab ((Aa G).trans (ai.mono bf));clear k1 b4 bd au G ai
      try go_wp2
      go_roundw
      case rel=>exact⟨k+1,bt,by omega,by go_num,rfl,av,a2,a1⟩
      case measure=>simp[intOf];omega
    |false=>
     have av:Hid ((false&&sumsF ((es.map Ev.e).drop (k+1)))=ak):=Ab (by
      have h:=Aa ap;rw[Bool.false_and]at h ⊢;exact h)
     clear ap k1 b4 bd;go_wp2;go_region
     all_goals
      have a2:=Ab ((Aa au).below (Ea (Below.refl _ _)));have a1:=Ab ((Aa G).trans ((Ea (Below.refl _ _)).mono bf))
      try go_wp2
      go_roundw
      case rel=>exact⟨k+1,false,by omega,by go_num,rfl,av,a2,a1⟩
      case measure=>simp[intOf];omega
  . obtain rfl:F=k:=by omega
    have al:es.take F=es:=VV (by rw[Aa T];exact VB _);have cj:(es.map Ev.e).drop F= []:=XQ (by simp[Aa T]);have aq:S=ak:=by have:=Aa ao;rw[cj]at this;rw[<-this];cases S<;>rfl
    obtain⟨ae,c2,bj,ab⟩:=(Aa ac).files (by rw[al,Aa T];omega);rw[al]at ab;rw[al,Aa T]at bj;subst aq bj;have cw:(es.map Ev.fv).length=F:=by simpa using Aa T
    have a0:=Ab ((Aa aw).trans ((Aa Y).mono (Aa aw).size));have a6:=Ab ab;clear al cj ao ac aw a5
    cases ok with
    |false=>
     have M:=Ab (RdA.bad (w:=w) (w':=wr) (bs:=bs) (k:=7) ((Aa aa).no rfl) (by decide) (Aa a0));clear a6 ab;go_wp2;go_ret2;exact Aa M
    |true=>
     have bb:=Ab (Tw ae c2 (es.map Ev.fv) wr ab F cw);obtain⟨E,af⟩:=exq (errM (fls (es.map Ev.fv)));rw[af]at bb;rw[DA]at af;have a3:=Ab af;clear ab af;go_wp2_with fail
     refine(Aa bb).mono ?_;rintro e w3 ⟨rfl,Z⟩;have c4:=Ab ((Aa a6).below Z (VB _));have G:=Ab ((Aa a0).trans (Z.mono (Aa a0).size));clear Z bb a6
     by_cases ay:E=0
     . subst ay
       cases S with
       |false=>
        have M:=Ab (RdA.bad (w:=w) (w':=w3) (bs:=bs) (k:=10) ((Aa aa).sum rfl (Aa a3) (Aa ba)) (by decide) (Aa G));go_wp2;go_ret2;exact Aa M
       |true=>
        obtain⟨bh,ar⟩:=(Aa aa).yes rfl (Aa a3) (Aa ba);have M:Hid (RdA w bs (.returned (.tuple #[.slice ae F c2,.int .i64 0])) w3):=Ab ⟨.slice ae F c2,by rw[bh];rfl,⟨ae,c2,es.map Ev.fv,by rw[ar];simp[Aa T],Aa c4,by rw[DA,ar]⟩,Aa G⟩;clear bh ar;go_wp2;go_ret2;exact Aa M
     . have M:=Ab (RdA.bad (w:=w) (w':=w3) (bs:=bs) (k:=7) ((Aa aa).torn (by rw[Aa a3];exact ay)) (by decide) (Aa G));have cp:((E:Int)==0)=false:=by rw[beq_eq_false_iff_ne];omega
       have c8:((E:Int)!=0)=true:=by rw[bne,cp];rfl
       clear ay;go_wp2;go_ret2;exact Aa M
end Go.Proofs.YtleocpdblhbimaaGreatDoor
namespace Go.Proofs.YtleocpdblhbimaaGreatDoor
set_option linter.unusedVariables false
theorem D8 (a b:List Bool):Eb (a++b)=Eb a+2^a.length*Eb b:=by
 induction a with
 |nil=>simp[Eb]
 |cons x r ih=>
  rw[XL,Eb,ih,Eb,VJ,XC,Nat.mul_add,<-XY,YF 2 (2^r.length),WT]
end Go.Proofs.YtleocpdblhbimaaGreatDoor
namespace Go.Proofs.YtleocpdblhbimaaGreatDoor
open Go.RowKit Go.Maps Go.WideMaps Go.ChangeShapes
set_option linter.unusedVariables false
set_option maxRecDepth 100000
theorem Z8p:ArrKey Tryz.prog 351 3 2:=⟨Tryz.underlying351,by kernel_rfl,by kernel_rfl,by kernel_rfl⟩
theorem Z80:Keyed Tryz.prog 351:=Keyed.of_law Z8p.law
theorem Z29:∃m,Tryz.prog.types.size=m+1:=⟨Tryz.prog.types.size-1,by have:0<Tryz.prog.types.size:=of_decide_eq_true (by kernel_rfl);omega⟩
def kw (c:Nat×Nat):Value:=.agg #[.int .i64 (c.1:Int),.int .i64 (c.2:Int)]
def kwl (c:Nat×Nat):Lit:=.string (keyBytes [.int .i64 (c.1:Int),.int .i64 (c.2:Int)])
def OkW (c:Nat×Nat):Prop:=c.1<65536/\c.2<65536
theorem Wj {x:Nat}(E:x<65536):(Lit.int .i64 (x:Int)).wf=true:=by
 simp[Lit.wf,IntKind.min,IntKind.max,IntKind.signed,IntKind.bits];omega
theorem Pf {c:Nat×Nat}(E:OkW c):keyOf Tryz.prog 351 (kw c)=some (kwl c):=by
 have A:=Z8p;have G:=A.keyType Z29;obtain⟨m,hm⟩:=Z29;have I:Tryz.prog.underlying 3=some (.int .i64):=Tryz.underlying3;have H:=Wj E.1;have F:=Wj E.2;unfold keyOf kw kwl;simp only[A.hu];rw[if_pos (by simp[G,Value.formed,A.hu,A.size]),hm];unfold Program.keyLits;simp only[A.hu,Value.cells];rw[if_pos (by rw[A.size];rfl),show List.range 2= [0,1] from rfl,List.mapM_cons,List.mapM_cons,List.mapM_nil];simp[A.one,Program.keyLits,I,H,F]
theorem Z4u {c d:Nat×Nat}(F:OkW c)(G:OkW d)(E:kwl c=kwl d):c=d:=by
 have:=Z80.inj (Pf F) (by rw[E];exact Pf G)
 obtain⟨c1,c2⟩:=c;obtain⟨I,H⟩:=d;simp[kw]at this
 simp only[YD];omega
def vH:List Bool->Nat
 | []=>0
 |b::r=>(if b then 2^r.length else 0)+vH r
theorem JZ:∀s,vH s<2^s.length
 | []=>by simp[vH]
 |b::r=>by
  have:=JZ r
  rw[vH,VJ,XC]
  split<;>omega
theorem Q8:∀(s:List Bool) (b:Bool),vH (s++ [b])=2*vH s+(if b then 1 else 0)
 | [],b=>by cases b<;>rfl
 |x::r,b=>by
  rw[XL,vH,Q8 r b,vH,VE];simp only[VJ,WE,WG,XC]
  cases x<;>simp<;>omega
theorem KA:∀ {s t:List Bool},s.length=t.length->vH s=vH t->s=t
 | [],[],_,_=>rfl
 | [],_::_,h,_=>by simp at h
 |_::_,[],h,_=>by simp at h
 |a::s,b::t,h,e=>by
  have hl:s.length=t.length:=by simpa using h
  have E:=JZ s;have F:=JZ t;rw[vH,vH,hl]at e;rw[hl]at E
  cases a<;>cases b<;>simp at e
  . rw[KA hl e]
  . omega
  . omega
  . rw[KA hl e]
theorem Z60:∀n c,c<2^n->vH (hb c n)=c
 |0,c,h=>by simp at h;subst h;rfl
 |n+1,c,h=>by
  rw[hb,Q8,Z60 n (c/2) (by rw[XC]at h;omega)];have:=WY c
  rcases this with e|e<;>simp[e]<;>omega
def kb (s:List Bool):Lit:=kwl (s.length,vH s)
theorem okb {s:List Bool}(E:s.length<=15):OkW (s.length,vH s):=by
 have G:=JZ s;have F:2^s.length<=2^15:=VO (by decide) E;exact⟨by simp only;omega,by simp only;omega⟩
theorem Z2o {s t:List Bool}(E:s.length<=15)(F:t.length<=15)(G:kb s=kb t):s=t:=by
 have:=Z4u (okb E) (okb F) G
 exact KA (VN this).1 (VN this).2
theorem Z2n (s:List Bool):WideAt.IsKeyLit (kb s):=by
 first|trivial|exact⟨⟩|(unfold kb kwl WideAt.IsKeyLit;simp)
def decD (l:List Int):Nat->DataW Unit
 |0=>.map []
 |k+1=>if codeT l k= []then decD l k else (decD l k).put (kb (codeT l k)) (.lit (.int .i64 (k:Int)))
theorem Pn (l:List Int):∀k,IsMap (decD l k)
 |0=>isMap_empty
 |k+1=>by
  rw[decD]
  split
  . exact Pn l k
  . exact(Pn l k).put _ _
theorem QC (l:List Int)(I:∀k,(codeT l k).length<=15)(s:List Bool)(M:s≠ [])(H:s.length<=15):∀k,Maps.has (decD l k) (kb s)=decide (∃q,q<k/\codeT l q=s)
 |0=>by
  rw[decide_eq_false (by rintro ⟨q,h,_⟩;omega)];rfl
 |k+1=>by
  have ih:=QC l I s M H k
  have e:(∃q,q<k+1/\codeT l q=s)↔((∃q,q<k/\codeT l q=s)\/codeT l k=s):=by
   constructor
   . rintro ⟨q,T,F⟩
     by_cases O:q=k
     . subst O;exact .inr F
     . exact .inl ⟨q,by omega,F⟩
   . rintro (⟨q,T,F⟩|h)
     . exact⟨q,by omega,F⟩
     . exact⟨k,by omega,h⟩
  rw[decD]
  by_cases G:codeT l k= []
  . rw[if_pos G,ih,XZ];simp only[decide_eq_true_eq,e]
    constructor
    . exact .inl
    . rintro (h|h)
      . exact h
      . rw[G]at h;exact absurd h.symm M
  . rw[if_neg G]
    by_cases E:codeT l k=s
    . rw[E,has_put_same (Pn l k) (Z2n s),decide_eq_true (e.2 (.inr E))]
    . rw[has_put_other (fun h=>E (Z2o (I k) H (by first|exact h|exact h.symm))),ih,XZ];simp only[decide_eq_true_eq,e]
      constructor
      . exact .inl
      . rintro (h|h)
        . exact h
        . exact absurd h E
theorem QD (l:List Int)(I:∀k,(codeT l k).length<=15)(s:List Bool)(M:s≠ [])(G:s.length<=15)(H:∀q q',q<l.length->q'<l.length->codeT l q=s->codeT l q'=s->q=q')(F:DataW Unit):∀k,k<=l.length->∀q,q<k->codeT l q=s->(decD l k).atKey (kb s) F=.lit (.int .i64 (q:Int))
 |0,_,q,h,_=>by omega
 |k+1,hk,q,h,hq=>by
  rw[decD]
  by_cases E:codeT l k= []
  . rw[if_pos E];have:q≠k:=fun e=>by subst e;rw[E]at hq;exact M hq.symm
    exact QD l I s M G H F k (by omega) q (by omega) hq
  . rw[if_neg E]
    by_cases e:codeT l k=s
    . have:=H q k (by omega) (by omega) hq e
      subst this;rw[e,atKey_put_same (Pn l _) (Z2n s)]
    . rw[atKey_put_other (fun h=>e (Z2o (I k) G (by first|exact h|exact h.symm)))];have:q≠k:=fun e2=>by subst e2;exact e hq
      exact QD l I s M G H F k (by omega) q (by omega) hq
theorem Sq {l:List Int}(E:Good l)(k:Nat):(codeT l k).length<=15:=by
 unfold codeT;rw[Bd]
 by_cases F:k<l.length
 . have:=(E.ok k F).2;omega
 . rw[List.getD,WJ (by omega)];exact(by decide:(0:Int).toNat<=15)
theorem QM {l:List Int}(F:Good l){k n:Nat}(G:k<l.length)(E:l.getD k 0=(n:Int))(H:0<n):kb (codeT l k)=kwl (n,codeN l k)/\codeT l k≠ []/\OkW (n,codeN l k):=by
 have I:=(Ig l F G E H).2.2;have M:=(F.ok k G).2;rw[E]at M;have e:codeT l k=hb (codeN l k) n:=by unfold codeT;rw[E];rfl
 have T:2^n<=2^15:=VO (by decide) (by omega);have O:(2:Nat)^15=32768:=by decide
 refine⟨?_, ?_,⟨by simp only;omega,by simp only;omega⟩⟩
 . rw[e];unfold kb;rw[Bd,Z60 n _ I]
 . intro h;have:=congrArg List.length h
   rw[e,Bd]at this;simp at this
   omega
end Go.Proofs.YtleocpdblhbimaaGreatDoor
