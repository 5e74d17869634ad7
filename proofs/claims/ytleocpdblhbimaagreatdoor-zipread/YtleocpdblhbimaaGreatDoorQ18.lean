import Derived.Test.YtleocpdblhbimaaGreatDoorQ17
import Derived.Test.YtleocpdblhbimaaGreatDoorQ11
import Derived.Maps.Own
import Derived.Maps.OwnSet
import Derived.WideKeyPair
set_option linter.unusedSimpArgs false
set_option maxHeartbeats 4000000
namespace Go.Proofs.YtleocpdblhbimaaGreatDoor
open Go.RowKit
set_option linter.unusedVariables false
set_option maxRecDepth 100000
theorem PT {f:Fl}(h0:Kg f.name=0)(n:Nat)(hn:f.bytes.length=n)(E:Nat)(hE:Mq f=E):(E=2/\3000<n)\/ (E=3/\n<=3000/\(f.stamp<0\/ (0<=f.stamp/\1000000<f.stamp)\/ (0<=f.stamp/\f.stamp<=1000000/\f.node<0)\/ (0<=f.stamp/\f.stamp<=1000000/\0<=f.node/\3<f.node)))\/ (E=4/\n<=3000/\0<=f.stamp/\f.stamp<=1000000/\0<=f.node/\f.node<=3/\f.gone=true/\0<n)\/ (E=0/\n<=3000/\0<=f.stamp/\f.stamp<=1000000/\0<=f.node/\f.node<=3/\f.gone=true/\n=0)\/ (E=0/\n<=3000/\0<=f.stamp/\f.stamp<=1000000/\0<=f.node/\f.node<=3/\f.gone=false):=by
 subst hn;subst hE
 by_cases h1:3000<f.bytes.length
 . exact .inl ⟨M4 h0 h1,h1⟩
 . by_cases h3:f.stamp<0\/1000000<f.stamp\/f.node<0\/3<f.node
   . exact .inr (.inl ⟨Vs h0 h1 h3,by omega,by omega⟩)
   . have e4:=M2 h0 h1 h3
     cases hg:f.gone with
     |true=>
      by_cases hn:0<f.bytes.length
      . rw[if_pos ⟨hg,hn⟩]at e4;exact .inr (.inr (.inl ⟨e4,by omega,by omega,by omega,by omega,by omega,rfl,hn⟩))
      . rw[if_neg (fun k=>hn k.2)]at e4;exact .inr (.inr (.inr (.inl ⟨e4,by omega,by omega,by omega,by omega,by omega,rfl,by omega⟩)))
     |false=>
      rw[if_neg (fun k=>by rw[hg]at k;cases k.1)]at e4;exact .inr (.inr (.inr (.inr ⟨e4,by omega,by omega,by omega,by omega,by omega,rfl⟩)))
def ahn (xs:List Fv):Nat->List UInt8
 |0=> []
 |k+1=>(((fls xs)[k]?).map Fl.name).getD []
theorem Z5e (ad:Option Addr)(n c:Nat)(w:World)(h:12<n):Calls Tryz.prog 8 #[.slice ad n c] w fun e w'=>e=.returned (.int .i64 2)/\w'=w:=by
 go_enter Tryz.func8,Tryz.ntmps8
 go_wp2;go_ret;exact⟨rfl,rfl⟩
theorem Tw (ad:Option Addr)(c:Nat)(xs:List Fv)(w:World)(h:FsIn w ad c xs)(n:Nat)(hn:xs.length=n):
 Calls Tryz.prog 8 #[.slice ad n c] w fun e w'=>e=.returned (.int .i64 (errM (fls xs):Nat))/\Below w.heap.size w w':=by
 have hl:(fls xs).length=n:=by simp[fls,hn]
 by_cases hm:12<n
 . have e:errM (fls xs)=2:=by unfold errM;rw[if_pos (by omega)]
   rw[e];refine(Z5e ad n c w hm).mono ?_;rintro e w' ⟨rfl,rfl⟩;exact⟨rfl,Below.refl _ _⟩
 . have e:errM (fls xs)=DH none (fls xs):=by unfold errM;rw[if_neg (by omega)]
   obtain⟨E,hE⟩:∃E,DH none (fls xs)=E:=⟨_,rfl⟩
   rw[e,hE];have HI:=Ab h;have HN:=Ab hn;have HE:=Ab hE;have HL:=Ab hl;clear h e hE hn hl;go_enter Tryz.func8,Tryz.ntmps8
   go_wp2;go_loopw [3,4,5,6,7,13] (fun v3 _ _ _ _ i wr=>∃k:Nat,k<=n/\i=.int .i64 (k:Int)/\v3=.string (B (ahn xs k))/\Hid (DH (ahd xs k) ((fls xs).drop k)=E)/\Hid (Below w.heap.size w wr)) (fun _ _ _ _ _ i _=>n-(intOf i).toNat)
   case atStart=>exact⟨0,VH _,rfl,rfl,Aa HE,Below.refl _ _⟩
   case round=>
    obtain⟨k,hk,rfl,rfl,HR,HB⟩:=hrel
    by_cases hlt:k<n
    . obtain⟨x,hx,hxm⟩:=Ob (xs:=xs) (k:=k) (by rw[Aa HN];exact hlt);obtain⟨b,o,rfl,hb,c0,c1,c2,c3,c4⟩:=(Aa HI).get (Aa HB) hx;have hst:=M5 hx;rw[Aa HR]at hst;have hz:=(Aa HB).size;have HPT:=Ab (fun W=>FM x.f.name W (by have:=((Aa HI).all x hxm).txt;unfold maxLen;omega));have HS:=Ab hst;have hah:ahn xs (k+1)=x.f.name:=by show (((fls xs)[k]?).map Fl.name).getD []=_;simp[fls,hx]
      have HAH:=Ab hah;have hxs:x.sl=.slice x.a x.f.bytes.length x.c:=rfl;rw[hxs]at c1;have HBL:=Ab (fun o'=>(Aa HB).alloc hz o');obtain⟨nb,hnb⟩:∃nb,x.f.bytes.length=nb:=⟨_,rfl⟩
      obtain⟨er,her⟩:∃er,Mq x.f=er:=⟨_,rfl⟩
      have HWY:=Ab (fun h0=>PT (f:=x.f) h0 nb hnb er her);have HEN:=Ab (@M3 x.f);rw[her]at HS HEN
      have hcmp:Hid ((k=0/\behind (ahd xs k) x.f=true)\/ (0<k/\behind (ahd xs k) x.f=decide (Pq x.f.name (ahn xs k)=1))):=by
       cases k with
       |zero=>exact .inl ⟨rfl,rfl⟩
       |succ j=>
        refine .inr ⟨by omega, ?_⟩;have hj:j<(fls xs).length:=by rw[Aa HL];omega
        show behind ((fls xs)[j]?) x.f=decide (Pq x.f.name ((((fls xs)[j]?).map Fl.name).getD [])=1)
        rw[VP hj];show decide (Pq (fls xs)[j].name x.f.name<0)=decide (Pq x.f.name (fls xs)[j].name=1)
        rw[decide_eq_decide];have ha:=Su x.f.name (fls xs)[j].name;have ht:=Kd x.f.name (fls xs)[j].name;omega
      have hle:=Z2c x.f.name (ahn xs k);have heq:=Z2d x.f.name (ahn xs k);have h3:=Kd x.f.name (ahn xs k);obtain⟨cm,hcm⟩:∃cm,Pq x.f.name (ahn xs k)=cm:=⟨_,rfl⟩
      rw[hcm]at hle heq h3;have HCM:Hid ((k=0/\behind (ahd xs k) x.f=true)\/ (0<k/\behind (ahd xs k) x.f=decide (cm=1))):=by have:=Aa hcmp;rw[hcm]at this;exact this
      clear hst hxm hx hxs her hah hcmp hcm;rw[hnb]at c1;clear hnb;obtain⟨en,hen⟩:∃en,Kg x.f.name=en:=⟨_,rfl⟩
      rw[hen]at HPT HWY HEN;clear hen;obtain⟨t,ht⟩:∃t,B x.f.name=t:=⟨_,rfl⟩
      obtain⟨t',ht'⟩:∃t',B (ahn xs k)=t':=⟨_,rfl⟩
      rw[ht]at HPT c0 hle heq;rw[ht']at hle heq;rw[ht'];have HT:=Ab ht;clear ht ht';generalize x.f.stamp=st at*;generalize x.f.node=nd at*;generalize x.f.gone=gn at*
      by_cases he:en=0
      . subst he;have hways:=Aa HWY rfl;clear HWY HEN;have hstep:=Aa HS;clear HS
        by_cases hE4:er=0
        . subst hE4
          have hw2:(nb<=3000/\0<=st/\st<=1000000/\0<=nd/\nd<=3)/\((gn=true/\nb=0)\/gn=false):=by
           rcases hways with ⟨h,_⟩|⟨h,_⟩|⟨h,_⟩|⟨_,a1,a2,a3,a4,a5,a6,a7⟩|⟨_,a1,a2,a3,a4,a5,a6⟩
           . omega
           . omega
           . omega
           . exact⟨⟨a1,a2,a3,a4,a5⟩,.inl ⟨a6,a7⟩⟩
           . exact⟨⟨a1,a2,a3,a4,a5⟩,.inr a6⟩
          obtain⟨⟨a1,a2,a3,a4,a5⟩,hgn⟩:=hw2;rw[if_neg (by simp)]at hstep;clear hways
          have hfork:(Hid (behind (ahd xs k) x.f=true)/\(k=0\/ (0<k/\cm=1)))\/ (Hid (behind (ahd xs k) x.f=false)/\0<k/\(cm= -1\/cm=0)):=by
           rcases Aa HCM with ⟨q1,q2⟩|⟨q1,q2⟩
           . exact .inl ⟨q2,.inl q1⟩
           . by_cases e1:cm=1
             . exact .inl ⟨by rw[q2];exact decide_eq_true e1,.inr ⟨q1,e1⟩⟩
             . exact .inr ⟨by rw[q2];exact decide_eq_false e1,q1,by omega⟩
          clear HCM
          rcases hfork with ⟨HBH,hf⟩|⟨HBH,hk0,hf⟩
          . rw[if_neg (by rw[Aa HBH];simp)]at hstep;have HN2:=Ab hstep;clear hstep HBH
            rcases hgn with ⟨rfl,rfl⟩|rfl
            all_goals (
             rcases hf with rfl|⟨hk0,rfl⟩
             all_goals (
              try simp only[YJ,XN]at c0 c1 c2 c3 c4
              try simp only[Int.reduceLT,Int.reduceEq,decide_false]at hle heq
              go_wp2_with fail
              refine(Aa HPT _).mono ?_;rintro e w1 ⟨v1,rfl,_,hb1,_⟩;have HB1:=Ab ((Aa HBL _).trans (hb1.mono (by simp;omega)));have q0:w1.cell? ⟨wr.heap.size,0,none⟩=some (.string t):=(hb1.cell (p:=⟨wr.heap.size,0,none⟩) (by simp)).trans (by simp);have q1:=(hb1.cell (p:=⟨wr.heap.size,1,none⟩) (by simp)).trans (by simp;rfl);have q2:w1.cell? ⟨wr.heap.size,2,none⟩=some (.int .i64 st):=(hb1.cell (p:=⟨wr.heap.size,2,none⟩) (by simp)).trans (by simp);have q3:w1.cell? ⟨wr.heap.size,3,none⟩=some (.int .i64 nd):=(hb1.cell (p:=⟨wr.heap.size,3,none⟩) (by simp)).trans (by simp);have q4:=(hb1.cell (p:=⟨wr.heap.size,4,none⟩) (by simp)).trans (by simp;rfl);clear hb1;go_wp2;go_roundw
              case rel=>exact⟨_,by omega,by go_num,by rw[Aa HAH,Aa HT],(Aa HN2).symm,Aa HB1⟩
              case measure=>simp[intOf];omega))
          . rw[if_pos (Aa HBH)]at hstep;have HN2:=Ab hstep;clear hstep HBH;have hki:(0:Int)<(k:Int):=by omega
            rcases hgn with ⟨rfl,rfl⟩|rfl
            all_goals (
             rcases hf with rfl|rfl
             all_goals (
              try simp only[Int.reduceLT,Int.reduceEq,Int.reduceNeg,decide_true,decide_false]at hle heq
              go_wp2_with fail
              refine(Aa HPT _).mono ?_;rintro e w1 ⟨v1,rfl,_,hb1,_⟩;have HB1:=Ab ((Aa HBL _).trans (hb1.mono (by simp;omega)));have q0:w1.cell? ⟨wr.heap.size,0,none⟩=some (.string t):=(hb1.cell (p:=⟨wr.heap.size,0,none⟩) (by simp)).trans (by simp);have q1:=(hb1.cell (p:=⟨wr.heap.size,1,none⟩) (by simp)).trans (by simp;rfl);have q2:w1.cell? ⟨wr.heap.size,2,none⟩=some (.int .i64 st):=(hb1.cell (p:=⟨wr.heap.size,2,none⟩) (by simp)).trans (by simp);have q3:w1.cell? ⟨wr.heap.size,3,none⟩=some (.int .i64 nd):=(hb1.cell (p:=⟨wr.heap.size,3,none⟩) (by simp)).trans (by simp);have q4:=(hb1.cell (p:=⟨wr.heap.size,4,none⟩) (by simp)).trans (by simp;rfl);clear hb1;go_wp2;go_ret;exact⟨Dd (by rw[Aa HN2];rfl),Aa HB1⟩))
        . rw[if_pos (by simpa using hE4)]at hstep;have HN2:=Ab hstep;clear hstep HCM
          rcases hways with ⟨rfl,a1⟩|⟨rfl,a1,a2|⟨a2,a3⟩|⟨a2,a3,a4⟩|⟨a2,a3,a4,a5⟩⟩|⟨rfl,a1,a2,a3,a4,a5,rfl,a6⟩|⟨rfl,_⟩|⟨rfl,_⟩
          . skip
            go_wp2_with fail
            refine(Aa HPT _).mono ?_;rintro e w1 ⟨v1,rfl,_,hb1,_⟩;have HB1:=Ab ((Aa HBL _).trans (hb1.mono (by simp;omega)));have q0:w1.cell? ⟨wr.heap.size,0,none⟩=some (.string t):=(hb1.cell (p:=⟨wr.heap.size,0,none⟩) (by simp)).trans (by simp);have q1:=(hb1.cell (p:=⟨wr.heap.size,1,none⟩) (by simp)).trans (by simp;rfl);have q2:w1.cell? ⟨wr.heap.size,2,none⟩=some (.int .i64 st):=(hb1.cell (p:=⟨wr.heap.size,2,none⟩) (by simp)).trans (by simp);have q3:w1.cell? ⟨wr.heap.size,3,none⟩=some (.int .i64 nd):=(hb1.cell (p:=⟨wr.heap.size,3,none⟩) (by simp)).trans (by simp);have q4:=(hb1.cell (p:=⟨wr.heap.size,4,none⟩) (by simp)).trans (by simp;rfl);clear hb1;go_wp2;go_ret;exact⟨Dd (by rw[Aa HN2];rfl),Aa HB1⟩
          . skip
            go_wp2_with fail
            refine(Aa HPT _).mono ?_;rintro e w1 ⟨v1,rfl,_,hb1,_⟩;have HB1:=Ab ((Aa HBL _).trans (hb1.mono (by simp;omega)));have q0:w1.cell? ⟨wr.heap.size,0,none⟩=some (.string t):=(hb1.cell (p:=⟨wr.heap.size,0,none⟩) (by simp)).trans (by simp);have q1:=(hb1.cell (p:=⟨wr.heap.size,1,none⟩) (by simp)).trans (by simp;rfl);have q2:w1.cell? ⟨wr.heap.size,2,none⟩=some (.int .i64 st):=(hb1.cell (p:=⟨wr.heap.size,2,none⟩) (by simp)).trans (by simp);have q3:w1.cell? ⟨wr.heap.size,3,none⟩=some (.int .i64 nd):=(hb1.cell (p:=⟨wr.heap.size,3,none⟩) (by simp)).trans (by simp);have q4:=(hb1.cell (p:=⟨wr.heap.size,4,none⟩) (by simp)).trans (by simp;rfl);clear hb1;go_wp2;go_ret;exact⟨Dd (by rw[Aa HN2];rfl),Aa HB1⟩
          . skip
            go_wp2_with fail
            refine(Aa HPT _).mono ?_;rintro e w1 ⟨v1,rfl,_,hb1,_⟩;have HB1:=Ab ((Aa HBL _).trans (hb1.mono (by simp;omega)));have q0:w1.cell? ⟨wr.heap.size,0,none⟩=some (.string t):=(hb1.cell (p:=⟨wr.heap.size,0,none⟩) (by simp)).trans (by simp);have q1:=(hb1.cell (p:=⟨wr.heap.size,1,none⟩) (by simp)).trans (by simp;rfl);have q2:w1.cell? ⟨wr.heap.size,2,none⟩=some (.int .i64 st):=(hb1.cell (p:=⟨wr.heap.size,2,none⟩) (by simp)).trans (by simp);have q3:w1.cell? ⟨wr.heap.size,3,none⟩=some (.int .i64 nd):=(hb1.cell (p:=⟨wr.heap.size,3,none⟩) (by simp)).trans (by simp);have q4:=(hb1.cell (p:=⟨wr.heap.size,4,none⟩) (by simp)).trans (by simp;rfl);clear hb1;go_wp2;go_ret;exact⟨Dd (by rw[Aa HN2];rfl),Aa HB1⟩
          . skip
            go_wp2_with fail
            refine(Aa HPT _).mono ?_;rintro e w1 ⟨v1,rfl,_,hb1,_⟩;have HB1:=Ab ((Aa HBL _).trans (hb1.mono (by simp;omega)));have q0:w1.cell? ⟨wr.heap.size,0,none⟩=some (.string t):=(hb1.cell (p:=⟨wr.heap.size,0,none⟩) (by simp)).trans (by simp);have q1:=(hb1.cell (p:=⟨wr.heap.size,1,none⟩) (by simp)).trans (by simp;rfl);have q2:w1.cell? ⟨wr.heap.size,2,none⟩=some (.int .i64 st):=(hb1.cell (p:=⟨wr.heap.size,2,none⟩) (by simp)).trans (by simp);have q3:w1.cell? ⟨wr.heap.size,3,none⟩=some (.int .i64 nd):=(hb1.cell (p:=⟨wr.heap.size,3,none⟩) (by simp)).trans (by simp);have q4:=(hb1.cell (p:=⟨wr.heap.size,4,none⟩) (by simp)).trans (by simp;rfl);clear hb1;go_wp2;go_ret;exact⟨Dd (by rw[Aa HN2];rfl),Aa HB1⟩
          . skip
            go_wp2_with fail
            refine(Aa HPT _).mono ?_;rintro e w1 ⟨v1,rfl,_,hb1,_⟩;have HB1:=Ab ((Aa HBL _).trans (hb1.mono (by simp;omega)));have q0:w1.cell? ⟨wr.heap.size,0,none⟩=some (.string t):=(hb1.cell (p:=⟨wr.heap.size,0,none⟩) (by simp)).trans (by simp);have q1:=(hb1.cell (p:=⟨wr.heap.size,1,none⟩) (by simp)).trans (by simp;rfl);have q2:w1.cell? ⟨wr.heap.size,2,none⟩=some (.int .i64 st):=(hb1.cell (p:=⟨wr.heap.size,2,none⟩) (by simp)).trans (by simp);have q3:w1.cell? ⟨wr.heap.size,3,none⟩=some (.int .i64 nd):=(hb1.cell (p:=⟨wr.heap.size,3,none⟩) (by simp)).trans (by simp);have q4:=(hb1.cell (p:=⟨wr.heap.size,4,none⟩) (by simp)).trans (by simp;rfl);clear hb1;go_wp2;go_ret;exact⟨Dd (by rw[Aa HN2];rfl),Aa HB1⟩
          . skip
            go_wp2_with fail
            refine(Aa HPT _).mono ?_;rintro e w1 ⟨v1,rfl,_,hb1,_⟩;have HB1:=Ab ((Aa HBL _).trans (hb1.mono (by simp;omega)));have q0:w1.cell? ⟨wr.heap.size,0,none⟩=some (.string t):=(hb1.cell (p:=⟨wr.heap.size,0,none⟩) (by simp)).trans (by simp);have q1:=(hb1.cell (p:=⟨wr.heap.size,1,none⟩) (by simp)).trans (by simp;rfl);have q2:w1.cell? ⟨wr.heap.size,2,none⟩=some (.int .i64 st):=(hb1.cell (p:=⟨wr.heap.size,2,none⟩) (by simp)).trans (by simp);have q3:w1.cell? ⟨wr.heap.size,3,none⟩=some (.int .i64 nd):=(hb1.cell (p:=⟨wr.heap.size,3,none⟩) (by simp)).trans (by simp);have q4:=(hb1.cell (p:=⟨wr.heap.size,4,none⟩) (by simp)).trans (by simp;rfl);clear hb1;go_wp2;go_ret;exact⟨Dd (by rw[Aa HN2];rfl),Aa HB1⟩
          . exact absurd rfl hE4
          . exact absurd rfl hE4
      . have hen:=Aa HEN he;have hstep:=Aa HS;rw[hen,if_pos (by simpa using he)]at hstep;have HN2:=Ab hstep;clear hstep hen HS HWY HEN HCM;go_wp2_with fail
        refine(Aa HPT _).mono ?_;rintro e w1 ⟨v1,rfl,_,hb1,_⟩;have HB1:=Ab ((Aa HBL _).trans (hb1.mono (by simp;omega)));clear hb1;go_wp2;go_ret;exact⟨Dd (by rw[Aa HN2]),Aa HB1⟩
    . obtain rfl:n=k:=by omega
      go_wp2;go_ret;have:=Aa HR
      rw[XQ (by rw[Aa HL];exact VB _)]at this;exact⟨Dd (by rw[<-this];rfl),Aa HB⟩
def SG (c x k:Nat):Nat:=Ik k (c^^^x%2^k)
theorem QG (c x:Nat):SG c x 0=c:=by simp[SG,Ik,Nat.mod_one]
theorem QH (c x k:Nat):SG c x (k+1)=lft (SG c x k^^^x/2^k%2):=NU c x k
theorem Z1y {c x:Nat}(hx:x<256):SG c x 8=Z1x c x:=by
 unfold SG Z1x;rw[ZJ (by simpa using hx)]
theorem Z5c {c x:Nat}(k:Nat)(hc:c<4294967296)(hx:x<256):SG c x k<4294967296:=by
 unfold SG;refine Rl k (ZO (n:=32) hc ?_);have:=Nat.mod_le x (2^k)
 omega
theorem Z8o {m x j:Nat}(hm:m<4294967296)(hx:x<256)(hj:j<8):bits .xor .u32 (bits .and .u32 (m:Int) 1) (bits .and .u8 ((x:Int)/2^j) 1%4294967296)=(((m%2^^^x/2^j%2):Nat):Int):=by
 have h1:bits .and .u8 ((x/2^j:Nat):Int) ((1:Nat):Int)=((x/2^j&&&1:Nat):Int):=u8_and_nat _ _ (XO (YO _ _) hx) (by decide);rw[Nat.and_one_is_mod]at h1;have e:((x/2^j:Nat):Int)=(x:Int)/2^j:=by push_cast;rfl
 rw[e]at h1;rw[Z8g hm,show (1:Int)=((1:Nat):Int) from rfl,h1,show (((x/2^j%2:Nat):Int))%4294967296=((x/2^j%2:Nat):Int) by omega];exact u32_xor_nat _ _ (by omega) (by omega)
theorem QF (p:Nat)(a:Option Addr)(n cap:Nat)(bs:List Nat)(w:World)(hl:bs.length=n)(hn:n<=12000)(hp:p<4294967296)(hby:BytesIn w a bs)(hv:∀j,bs.getD j 0<256):
 Calls Tryz.prog 12 #[.int .u32 (p:Int),.slice a n cap] w fun e w'=>e=.returned (.int .u32 (crcN p bs:Nat))/\w'=w:=by
 have HBY:=Ab hby;have HV:=Ab hv;have HL:=Ab hl;clear hby hv hl;go_enter Tryz.func12,Tryz.ntmps12
 go_wp2;rw[Z7h hp];go_loop [5,14] (fun r i=>∃k:Nat,k<=n/\i=.int .i64 (k:Int)/\r=.int .u32 (Sn (p^^^4294967295) (bs.take k):Nat)) (fun _ i=>n-(intOf i).toNat)
 case atStart=>exact⟨0,by omega,rfl,rfl⟩
 case round=>
  obtain⟨k,hk,rfl,rfl⟩:=hrel
  have hr:Sn (p^^^4294967295) (bs.take k)<4294967296:=Sl _ _ (fun y hy=>by
   obtain⟨i,hi,rfl⟩:=XI hy;have:=Aa HV i
   rw[VL]at hi;rw[YN];rw[List.getD,VP (by omega)]at this;exact this) (E5 hp)
  by_cases hlt:k<n
  . have hkl:k<bs.length:=by rw[Aa HL];exact hlt
    obtain⟨b,o,rfl,hb,hc⟩:=DS (Aa HBY) hkl;have hx:=Aa HV k;have HC:Hid (Sn (p^^^4294967295) (bs.take (k+1))=Z1x (Sn (p^^^4294967295) (bs.take k)) (bs.getD k 0)):=Ab (by rw[Zy hkl,N7]);generalize Sn (p^^^4294967295) (bs.take k)=r at*;generalize bs.getD k 0=x at*;clear hkl;go_wp2;go_loop [5,18] (fun r1 i=>∃j:Nat,j<=8/\i=.int .i64 (j:Int)/\r1=.int .u32 (SG r x j:Nat)) (fun _ i=>8-(intOf i).toNat)
    case atStart=>exact⟨0,by omega,rfl,by rw[QG]⟩
    case round=>
     obtain⟨j,hj,rfl,rfl⟩:=hrel
     by_cases hjl:j<8
     . have HN:=Ab (QH r x j);have hm:=Z5c j hr hx;generalize SG r x j=m at*
       by_cases hodd:(m%2^^^x/2^j%2)=1
       . have h1:(bits .xor .u32 (bits .and .u32 (m:Int) 1) (bits .and .u8 ((x:Int)/2^j) 1%4294967296)==1)=true:=by rw[Z8o hm hx hjl,hodd];rfl
         have HL1:Hid (lft (m^^^x/2^j%2)=m/2^^^3988292384):=Ab (by rw[NV _ _ (Nat.mod_lt _ (by decide)),if_pos hodd]);have HX:=Ab (Z8k hm);clear hodd;go_wp2;go_round
         case rel=>exact⟨j+1,by omega,by go_num,by rw[Aa HN,Aa HL1,Aa HX]⟩
         case measure=>simp[intOf];omega
       . have h1:=Z8o hm hx hjl;have h2:((((m%2^^^x/2^j%2):Nat):Int)==1)=false:=by rw[beq_eq_false_iff_ne];omega
         rw[<-h1]at h2;have HL1:Hid (lft (m^^^x/2^j%2)=m/2):=Ab (by rw[NV _ _ (Nat.mod_lt _ (by decide)),if_neg hodd]);clear hodd h1;go_wp2;go_round
         case rel=>exact⟨j+1,by omega,by go_num,by rw[Aa HN,Aa HL1];rfl⟩
         case measure=>simp[intOf];omega
     . obtain rfl:j=8:=by omega
       go_wp2;go_round
       case rel=>exact⟨k+1,by omega,by go_num,by rw[Aa HC,Z1y hx]⟩
       case measure=>simp[intOf];omega
  . have e:k=n:=by omega
    subst e;have HE:Hid (Sn (p^^^4294967295) (bs.take k)^^^4294967295=crcN p bs):=Ab (by rw[VV (by rw[Aa HL];exact VB _)];rfl);have HNN:=Ab (Z7h hr);clear hr;go_wp2;go_ret;exact⟨by rw[Aa HNN,Aa HE];rfl,rfl⟩
end Go.Proofs.YtleocpdblhbimaaGreatDoor
namespace Go.Proofs.YtleocpdblhbimaaGreatDoor
open Go.RowKit
set_option linter.unusedVariables false
set_option maxRecDepth 100000
structure RdK (bs:List Nat)(es:List Ev)(ok:Bool):Prop where
 few:es.length<=12
 by_:∀x∈es,x.e.f.bytes.length<=12000
 no:ok=false->readE bs=7
 torn:errM ((es.map Ev.e).map En.f)≠0->readE bs=7
 sum:ok=true->errM ((es.map Ev.e).map En.f)=0->sumsF (es.map Ev.e)=false->readE bs=10
 yes:ok=true->errM ((es.map Ev.e).map En.f)=0->sumsF (es.map Ev.e)=true->readE bs=0/\readL bs=(es.map Ev.e).map En.f
theorem EnD.ways {w w':World}{bs:List Nat}{e:Ending}(h:EnD w bs e w')(hn:bs.length<=12000)(hv:∀x∈bs,x<256):Below w.heap.size w w'/\∃es ad c ok,e=.returned (.tuple #[.slice ad es.length c,.bool ok])/\RsIn w' ad es/\RdK bs es ok:=by
 obtain⟨hB,h⟩:=h;obtain⟨d1,d2⟩:=Z07 bs hn hv;refine⟨hB, ?_⟩
 rcases h with ⟨h1,rfl⟩|⟨es,ad,c,h1,rfl,h2⟩
 . have h7:readE bs=7:=by rw[<-d1];unfold Kf;rw[h1]
   exact⟨[],none,0,false,rfl,⟨.inl rfl,fun x hx=>by cases hx⟩,VH _,(fun x hx=>by cases hx),fun _=>h7,fun _=>h7,(fun e=>by cases e),(fun e=>by cases e)⟩
 . have hnum:=DJ hv h1;have hre:readE bs=if errM ((es.map Ev.e).map En.f)≠0\/Be (es.map Ev.e)≠bs then 7 else if sumsF (es.map Ev.e)=false then 10 else 0:=by rw[<-d1];unfold Kf;rw[h1]
   refine⟨es,ad,c,_,rfl,h2,by simpa using hnum.1,fun x hx=> ?_,fun e=> ?_,fun e=> ?_,fun e e2 e3=> ?_,fun e e2 e3=> ?_⟩
   . have h3:=(hnum.2 x.e (XV hx)).ok.un;have h4:=BC (m:=x.e.meth) (pk:=x.e.pk) (ys:=n8 x.e.f.bytes) (by have:=(hnum.2 x.e (XV hx)).pl;omega) (by rw[Le];exact h3);rw[Da]at h4;exact h4
   . rw[beq_eq_false_iff_ne]at e;rw[hre,if_pos (.inr e)]
   . rw[hre,if_pos (.inl e)]
   . have e4:=eq_of_beq e;rw[hre,if_neg (by rintro (k|k);exact k e2;exact k e4),if_pos e3]
   . have e4:=eq_of_beq e;have h0:readE bs=0:=by rw[hre,if_neg (by rintro (k|k);exact k e2;exact k e4),if_neg (by rw[e3];decide)]
     refine⟨h0, ?_⟩;rw[<-d2];unfold Vb;rw[if_neg (by rw[d1,h0];decide),h1];rfl
theorem Qw (a:Option Addr)(n cap:Nat)(bs:List Nat)(w:World)(hl:bs.length=n)(hn:n<=12000)(hc:n<=cap)(hP:PkIn w a cap bs)(hv:∀x∈bs,x<256)(hU:UnC True):
 Calls Tryz.prog 16 #[.slice a n cap] w fun e w'=>RdA w bs e w':=by
 have HE:=Ab (Z4 a n cap bs w hl hn hc hP hv True (.inl trivial) hU);have HL:Hid (bs.length<=12000/\∀x∈bs,x<256):=Ab ⟨by omega,hv⟩;clear hP hv hU hl;go_enter Tryz.func16,Tryz.ntmps16
 go_wp2_with fail
 refine(Aa HE).mono ?_;rintro e w1 hEn;obtain⟨hB1,es,ad,c,ok,rfl,hRs,hK⟩:=hEn.ways (Aa HL).1 (Aa HL).2;obtain⟨k0,hk0⟩:∃k0,es.length=k0:=⟨_,rfl⟩
 rw[hk0];obtain⟨SS,hSS⟩:∃SS,sumsF (es.map Ev.e)=SS:=⟨_,rfl⟩
 have hk12:k0<=12:=by have:=hK.few;omega
 have HI:=Ab hRs;have HK:=Ab hK;have HKL:=Ab hk0;have HB1:=Ab hB1;have HS:=Ab hSS;clear hEn hB1 hRs hK hk0 hSS HE HL;go_wp2;go_loopw [6,7,9,17] (fun v6 v7 _ i wr=>∃(k:Nat) (S:Bool),k<=k0/\i=.int .i64 (k:Int)/\v7=.bool S/\Hid ((S&&sumsF ((es.map Ev.e).drop k))=SS)/\Hid (GR wr w1.heap.size v6 (es.take k))/\Hid (Below w1.heap.size w1 wr)) (fun _ _ _ i _=>k0-(intOf i).toNat)
 case atStart=>exact⟨0,true,VH _,rfl,rfl,Ab (by rw[ZF];exact Aa HS),Ab (GR.nil _ _),Ab (Below.refl _ _)⟩
 case round=>
  obtain⟨k,S,hk,rfl,rfl,HT,HG,HB⟩:=hrel
  by_cases hlt:k<k0
  . obtain⟨x,hx,hxm⟩:∃x,es[k]? =some x/\x∈es:=⟨es[k]'(by rw[Aa HKL];exact hlt),VP _,WK _⟩
    obtain⟨b,o,rfl,hb,c0,c1,c2,c3,c4,c5,c6,c7⟩:=(Aa HI).get (Aa HB) hx;have hz:=(Aa HB).size;have hxi:=((Aa HI).all x hxm).1;have hst:=A6 (l:=es.map Ev.e) (k:=k) (x:=x.e) (by simp[hx]);have hcr:=fun(W:World) (hW:Below w1.heap.size w1 W)=>QF 0 x.fa x.e.f.bytes.length x.fc (n8 x.e.f.bytes) W (Da _) ((Aa HK).by_ x hxm) (by decide) (hxi.below hW).fb.1 (Er (Lv _))
    have HTK:=Ab (Eu hx);have HXI:=Ab (fun o1 o2:Obj=>(hxi.below ((Aa HB).trans ((Below.refl w1.heap.size wr).alloc hz o1))).below ((Below.refl _ _).alloc (VB _) o2));have hown:∀g,some g=u6.ownBlock->w1.heap.size<=g/\g<wr.heap.size:=fun g e=>(Aa HG).own.lt g e.symm
    have HXL:Hid (x.lies (fun g=>some g≠u6.ownBlock)):=Ab (hxi.lt.mono (fun g hg e=>by have:=(hown g e).1;omega));have HG1:=Ab (fun o1 o2:Obj=>((Aa HG).below ((Below.refl _ _).alloc (VB _) o1)).below ((Below.refl _ _).alloc (VB _) o2));have HB1':=Ab (fun o1 o2:Obj=>((Aa HB).alloc hz o1).alloc (by simp;omega) o2);have HTL:Hid ((es.take k).length+1<=100000):=Ab (by rw[VL];omega)
    have HCE:Hid (∀o1 o2,o2=Obj.cells x.fv.cells.toArray 30->∀j u,x.fv.cells[j]? =some u->((wr.alloc o1).alloc o2).cell? ⟨wr.heap.size+1,j,none⟩=some u):=Ab (fun o1 o2 e j u hj=>by
     subst e;have h9:=heap_alloc_new (wr.alloc o1) (.cells x.fv.cells.toArray 30);simp only[World.size_alloc]at h9;rw[Ac h9];simpa using hj)
    have HOL:Hid (∀(o1 o2:Obj) (w3:World),((wr.alloc o1).alloc o2).grownBy w3 u6.ownBlock->w3.heap[wr.heap.size]? =some o1/\wr.heap.size<w3.heap.size):=Ab (fun o1 o2 w3 hg=>by
     have h1:=hg.block wr.heap.size (by simp;omega) (fun e=>by have:=(hown _ e).2;omega);rw[h1];refine⟨?_,VG (by simp;omega) hg.size⟩;have h2:=((Below.refl (wr.alloc o1).heap.size (wr.alloc o1)).alloc (VB _) o2).block wr.heap.size (by simp);rw[h2];exact heap_alloc_new wr o1)
    have HST:=Ab hst;have HCR:=Ab hcr;clear hx hxm hxi hown hst hcr;go_wp2_with (at_builtin;refine Ij _ rfl _ _ rfl w1.heap.size _ (es.take k) rfl (Aa HG1 _ _) (wr.heap.size+1) x rfl (Aa HCE _ _ rfl) (Aa HXI _ _) (Aa HXL) (Aa HTL) (by simp;omega) ?_)
    intro v' w3 hG3 hgrow hB3;have HG3:Hid (GR w3 w1.heap.size v' (es.take (k+1))):=Ab (by rw[Aa HTK];exact Aa hG3);have HB3:=Ab ((Aa HB1' _ _).trans (Aa hB3));obtain⟨hX3,hX4⟩:=Aa HOL _ _ _ (Aa hgrow);have e1:=Ac (i:=1) hX3;have e7:=Ac (i:=7) hX3;simp only[VZ,VY,WI]at e1 e7;have hst:=Aa HST;obtain⟨m,hm⟩:∃m,crcN 0 (n8 x.e.f.bytes)=m:=⟨_,rfl⟩
    have hcr:=Aa HCR;rw[hm]at hst hcr;generalize x.e.f.bytes.length=bl at e1 hcr;generalize x.e.crc=cr at e7 hst;have k1:∀W:World,Below w3.heap.size w3 W->W.cell? ⟨wr.heap.size,1,none⟩=some (.slice x.fa bl x.fc):=fun W hW=>(hW.cell (p:=⟨wr.heap.size,1,none⟩) hX4).trans e1
    have k7:∀W:World,Below w3.heap.size w3 W->W.cell? ⟨wr.heap.size,7,none⟩=some (.int .u32 (cr:Int)):=fun W hW=>(hW.cell (p:=⟨wr.heap.size,7,none⟩) hX4).trans e7
    have HCR3:=Ab (fun(W:World) (hW:Below w3.heap.size w3 W)=>hcr W ((Aa HB3).trans (hW.mono (by have:=(Aa HB3).size;omega))));have hw13:=(Aa HB3).size;have hTT:=Aa HT;rw[hst]at hTT;have HTT:=Ab hTT;clear hG3 hB3 hgrow hX3 hst hcr hm hTT c0 c1 c2 c3 c4 c5 c6 c7 HT HG HB HG1 HB1' HXI HXL HTL HCE HOL HST HCR HTK e1 e7
    cases S with
    |true=>
     obtain⟨bq,hbq⟩:∃bq,((m:Int)==(cr:Int))=bq:=⟨_,rfl⟩
     have HT3:Hid ((bq&&sumsF ((es.map Ev.e).drop (k+1)))=SS):=Ab (by
      have h:=Aa HTT;rw[ZF]at h;rw[<-h,<-hbq]
      congr 1
      by_cases e:cr=m
      . subst e;rw[decide_eq_true rfl,beq_self_eq_true]
      . rw[decide_eq_false e,beq_eq_false_iff_ne];omega)
     clear HTT;go_wp2;go_region_held3 (fun W=>Below w3.heap.size w3 W) (first|exact Ea (Below.refl _ _)|exact hb6) ((go_at_call 12;refine(Aa HCR3 _ (Ea (Below.refl _ _))).mono ?_;rintro e w5 ⟨rfl,hw5⟩;have hb6:Below w3.heap.size w3 w5:=(by rw[hw5];exact Ea (Below.refl _ _));clear hw5))
     all_goals
      have HG4:=Ab ((Aa HG3).below hb6);have HB4:=Ab ((Aa HB3).trans (hb6.mono hw13));clear k1 k7 HCR3 HG3 HB3 hb6
      try go_wp2
      go_roundw
      case rel=>exact⟨k+1,bq,by omega,by go_num,rfl,HT3,HG4,HB4⟩
      case measure=>simp[intOf];omega
    |false=>
     have HT3:Hid ((false&&sumsF ((es.map Ev.e).drop (k+1)))=SS):=Ab (by
      have h:=Aa HTT;rw[Bool.false_and]at h ⊢;exact h)
     clear HTT k1 k7 HCR3;go_wp2;go_region
     all_goals
      have HG4:=Ab ((Aa HG3).below (Ea (Below.refl _ _)));have HB4:=Ab ((Aa HB3).trans ((Ea (Below.refl _ _)).mono hw13))
      try go_wp2
      go_roundw
      case rel=>exact⟨k+1,false,by omega,by go_num,rfl,HT3,HG4,HB4⟩
      case measure=>simp[intOf];omega
  . obtain rfl:k0=k:=by omega
    have hta:es.take k0=es:=VV (by rw[Aa HKL];exact VB _);have htd:(es.map Ev.e).drop k0= []:=XQ (by simp[Aa HKL]);have hSS:S=SS:=by have:=Aa HT;rw[htd]at this;rw[<-this];cases S<;>rfl
    obtain⟨ad2,c2,hv6,hfs⟩:=(Aa HG).files (by rw[hta,Aa HKL];omega);rw[hta]at hfs;rw[hta,Aa HKL]at hv6;subst hSS hv6;have hfn:(es.map Ev.fv).length=k0:=by simpa using Aa HKL
    have HB2:=Ab ((Aa HB1).trans ((Aa HB).mono (Aa HB1).size));have HFS:=Ab hfs;clear hta htd HT HG HB1 HI
    cases ok with
    |false=>
     have HF:=Ab (RdA.bad (w:=w) (w':=wr) (bs:=bs) (k:=7) ((Aa HK).no rfl) (by decide) (Aa HB2));clear HFS hfs;go_wp2;go_ret2;exact Aa HF
    |true=>
     have HCC:=Ab (Tw ad2 c2 (es.map Ev.fv) wr hfs k0 hfn);obtain⟨E,hE⟩:∃E,errM (fls (es.map Ev.fv))=E:=⟨_,rfl⟩
     rw[hE]at HCC;rw[DA]at hE;have HEE:=Ab hE;clear hfs hE;go_wp2_with fail
     refine(Aa HCC).mono ?_;rintro e w3 ⟨rfl,hB3⟩;have HFS3:=Ab ((Aa HFS).below hB3 (VB _));have HB3:=Ab ((Aa HB2).trans (hB3.mono (Aa HB2).size));clear hB3 HCC HFS
     by_cases hE0:E=0
     . subst hE0
       cases S with
       |false=>
        have HF:=Ab (RdA.bad (w:=w) (w':=w3) (bs:=bs) (k:=10) ((Aa HK).sum rfl (Aa HEE) (Aa HS)) (by decide) (Aa HB3));go_wp2;go_ret2;exact Aa HF
       |true=>
        obtain⟨h0,hl0⟩:=(Aa HK).yes rfl (Aa HEE) (Aa HS);have HF:Hid (RdA w bs (.returned (.tuple #[.slice ad2 k0 c2,.int .i64 0])) w3):=Ab ⟨.slice ad2 k0 c2,by rw[h0];rfl,⟨ad2,c2,es.map Ev.fv,by rw[hl0];simp[Aa HKL],Aa HFS3,by rw[DA,hl0]⟩,Aa HB3⟩;clear h0 hl0;go_wp2;go_ret2;exact Aa HF
     . have HF:=Ab (RdA.bad (w:=w) (w':=w3) (bs:=bs) (k:=7) ((Aa HK).torn (by rw[Aa HEE];exact hE0)) (by decide) (Aa HB3));have hEb:((E:Int)==0)=false:=by rw[beq_eq_false_iff_ne];omega
       have hEc:((E:Int)!=0)=true:=by rw[bne,hEb];rfl
       clear hE0;go_wp2;go_ret2;exact Aa HF
end Go.Proofs.YtleocpdblhbimaaGreatDoor
namespace Go.Proofs.YtleocpdblhbimaaGreatDoor
set_option linter.unusedVariables false
theorem D8 (a b:List Bool):Eb (a++b)=Eb a+2^a.length*Eb b:=by
 induction a with
 |nil=>simp[Eb]
 |cons x r ih=>
  rw[XL,Eb,ih,Eb,VJ,XC,Nat.mul_add,<-XY,YF 2 (2^r.length),WT]
end Go.Proofs.YtleocpdblhbimaaGreatDoor
namespace Go.Proofs.YtleocpdblhbimaaGreatDoor
open Go.RowKit Go.Maps Go.WideMaps Go.ChangeShapes
set_option linter.unusedVariables false
set_option maxRecDepth 100000
theorem Z8p:ArrKey Tryz.prog 351 3 2:=⟨Tryz.underlying351,by kernel_rfl,by kernel_rfl,by kernel_rfl⟩
theorem Z80:Keyed Tryz.prog 351:=Keyed.of_law Z8p.law
theorem Z29:∃m,Tryz.prog.types.size=m+1:=⟨Tryz.prog.types.size-1,by have:0<Tryz.prog.types.size:=of_decide_eq_true (by kernel_rfl);omega⟩
def kw (c:Nat×Nat):Value:=.agg #[.int .i64 (c.1:Int),.int .i64 (c.2:Int)]
def kwl (c:Nat×Nat):Lit:=.string (keyBytes [.int .i64 (c.1:Int),.int .i64 (c.2:Int)])
def OkW (c:Nat×Nat):Prop:=c.1<65536/\c.2<65536
theorem Wj {x:Nat}(h:x<65536):(Lit.int .i64 (x:Int)).wf=true:=by
 simp[Lit.wf,IntKind.min,IntKind.max,IntKind.signed,IntKind.bits];omega
theorem Pf {c:Nat×Nat}(h:OkW c):keyOf Tryz.prog 351 (kw c)=some (kwl c):=by
 have A:=Z8p;have hkt:=A.keyType Z29;obtain⟨m,hm⟩:=Z29;have he:Tryz.prog.underlying 3=some (.int .i64):=Tryz.underlying3;have w1:=Wj h.1;have w2:=Wj h.2;unfold keyOf kw kwl;simp only[A.hu];rw[if_pos (by simp[hkt,Value.formed,A.hu,A.size]),hm];unfold Program.keyLits;simp only[A.hu,Value.cells];rw[if_pos (by rw[A.size];rfl),show List.range 2= [0,1] from rfl,List.mapM_cons,List.mapM_cons,List.mapM_nil];simp[A.one,Program.keyLits,he,w1,w2]
theorem Z4u {c d:Nat×Nat}(hc:OkW c)(hd:OkW d)(h:kwl c=kwl d):c=d:=by
 have:=Z80.inj (Pf hc) (by rw[h];exact Pf hd)
 obtain⟨c1,c2⟩:=c;obtain⟨d1,d2⟩:=d;simp[kw]at this
 simp only[YD];omega
def vH:List Bool->Nat
 | []=>0
 |b::r=>(if b then 2^r.length else 0)+vH r
theorem JZ:∀s,vH s<2^s.length
 | []=>by simp[vH]
 |b::r=>by
  have:=JZ r
  rw[vH,VJ,XC]
  split<;>omega
theorem Q8:∀(s:List Bool) (b:Bool),vH (s++ [b])=2*vH s+(if b then 1 else 0)
 | [],b=>by cases b<;>rfl
 |x::r,b=>by
  rw[XL,vH,Q8 r b,vH,VE];simp only[VJ,WE,WG,XC]
  cases x<;>simp<;>omega
theorem KA:∀ {s t:List Bool},s.length=t.length->vH s=vH t->s=t
 | [],[],_,_=>rfl
 | [],_::_,h,_=>by simp at h
 |_::_,[],h,_=>by simp at h
 |a::s,b::t,h,e=>by
  have hl:s.length=t.length:=by simpa using h
  have h1:=JZ s;have h2:=JZ t;rw[vH,vH,hl]at e;rw[hl]at h1
  cases a<;>cases b<;>simp at e
  . rw[KA hl e]
  . omega
  . omega
  . rw[KA hl e]
theorem Z60:∀n c,c<2^n->vH (hb c n)=c
 |0,c,h=>by simp at h;subst h;rfl
 |n+1,c,h=>by
  rw[hb,Q8,Z60 n (c/2) (by rw[XC]at h;omega)];have:=WY c
  rcases this with e|e<;>simp[e]<;>omega
def kb (s:List Bool):Lit:=kwl (s.length,vH s)
theorem okb {s:List Bool}(h:s.length<=15):OkW (s.length,vH s):=by
 have h1:=JZ s;have h2:2^s.length<=2^15:=VO (by decide) h;exact⟨by simp only;omega,by simp only;omega⟩
theorem Z2o {s t:List Bool}(hs:s.length<=15)(ht:t.length<=15)(h:kb s=kb t):s=t:=by
 have:=Z4u (okb hs) (okb ht) h
 exact KA (VN this).1 (VN this).2
theorem Z2n (s:List Bool):WideAt.IsKeyLit (kb s):=by
 first|trivial|exact⟨⟩|(unfold kb kwl WideAt.IsKeyLit;simp)
def decD (l:List Int):Nat->DataW Unit
 |0=>.map []
 |k+1=>if codeT l k= []then decD l k else (decD l k).put (kb (codeT l k)) (.lit (.int .i64 (k:Int)))
theorem Pn (l:List Int):∀k,IsMap (decD l k)
 |0=>isMap_empty
 |k+1=>by
  rw[decD]
  split
  . exact Pn l k
  . exact(Pn l k).put _ _
theorem QC (l:List Int)(hc:∀k,(codeT l k).length<=15)(s:List Bool)(hs:s≠ [])(hl:s.length<=15):∀k,Maps.has (decD l k) (kb s)=decide (∃q,q<k/\codeT l q=s)
 |0=>by
  rw[decide_eq_false (by rintro ⟨q,h,_⟩;omega)];rfl
 |k+1=>by
  have ih:=QC l hc s hs hl k
  have e:(∃q,q<k+1/\codeT l q=s)↔((∃q,q<k/\codeT l q=s)\/codeT l k=s):=by
   constructor
   . rintro ⟨q,h1,h2⟩
     by_cases hq:q=k
     . subst hq;exact .inr h2
     . exact .inl ⟨q,by omega,h2⟩
   . rintro (⟨q,h1,h2⟩|h)
     . exact⟨q,by omega,h2⟩
     . exact⟨k,by omega,h⟩
  rw[decD]
  by_cases h0:codeT l k= []
  . rw[if_pos h0,ih,XZ];simp only[decide_eq_true_eq,e]
    constructor
    . exact .inl
    . rintro (h|h)
      . exact h
      . rw[h0]at h;exact absurd h.symm hs
  . rw[if_neg h0]
    by_cases hk:codeT l k=s
    . rw[hk,has_put_same (Pn l k) (Z2n s),decide_eq_true (e.2 (.inr hk))]
    . rw[has_put_other (fun h=>hk (Z2o (hc k) hl (by first|exact h|exact h.symm))),ih,XZ];simp only[decide_eq_true_eq,e]
      constructor
      . exact .inl
      . rintro (h|h)
        . exact h
        . exact absurd h hk
theorem QD (l:List Int)(hc:∀k,(codeT l k).length<=15)(s:List Bool)(hs:s≠ [])(hl:s.length<=15)(hinj:∀q q',q<l.length->q'<l.length->codeT l q=s->codeT l q'=s->q=q')(z:DataW Unit):∀k,k<=l.length->∀q,q<k->codeT l q=s->(decD l k).atKey (kb s) z=.lit (.int .i64 (q:Int))
 |0,_,q,h,_=>by omega
 |k+1,hk,q,h,hq=>by
  rw[decD]
  by_cases h0:codeT l k= []
  . rw[if_pos h0];have:q≠k:=fun e=>by subst e;rw[h0]at hq;exact hs hq.symm
    exact QD l hc s hs hl hinj z k (by omega) q (by omega) hq
  . rw[if_neg h0]
    by_cases e:codeT l k=s
    . have:=hinj q k (by omega) (by omega) hq e
      subst this;rw[e,atKey_put_same (Pn l _) (Z2n s)]
    . rw[atKey_put_other (fun h=>e (Z2o (hc k) hl (by first|exact h|exact h.symm)))];have:q≠k:=fun e2=>by subst e2;exact e hq
      exact QD l hc s hs hl hinj z k (by omega) q (by omega) hq
theorem Sq {l:List Int}(hG:Good l)(k:Nat):(codeT l k).length<=15:=by
 unfold codeT;rw[Bd]
 by_cases hk:k<l.length
 . have:=(hG.ok k hk).2;omega
 . rw[List.getD,WJ (by omega)];exact(by decide:(0:Int).toNat<=15)
theorem QM {l:List Int}(hG:Good l){k n:Nat}(hk:k<l.length)(hn:l.getD k 0=(n:Int))(h0:0<n):kb (codeT l k)=kwl (n,codeN l k)/\codeT l k≠ []/\OkW (n,codeN l k):=by
 have hlt:=(Ig l hG hk hn h0).2.2;have h15:=(hG.ok k hk).2;rw[hn]at h15;have e:codeT l k=hb (codeN l k) n:=by unfold codeT;rw[hn];rfl
 have hp:2^n<=2^15:=VO (by decide) (by omega);have hp15:(2:Nat)^15=32768:=by decide
 refine⟨?_, ?_,⟨by simp only;omega,by simp only;omega⟩⟩
 . rw[e];unfold kb;rw[Bd,Z60 n _ hlt]
 . intro h;have:=congrArg List.length h
   rw[e,Bd]at this;simp at this
   omega
end Go.Proofs.YtleocpdblhbimaaGreatDoor
