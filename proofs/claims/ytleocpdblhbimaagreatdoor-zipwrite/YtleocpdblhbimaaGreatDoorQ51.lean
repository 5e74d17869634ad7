import Derived.Test.YtleocpdblhbimaaGreatDoorQ45
import Derived.Test.YtleocpdblhbimaaGreatDoorQ41
set_option linter.unusedSimpArgs false
set_option maxHeartbeats 4000000
namespace Go.Proofs.YtleocpdblhbimaaGreatDoor
open Go.RowKit
set_option linter.unusedVariables false
set_option maxRecDepth 100000
theorem LT {f:Fl}(h0:Jz f.name=0)(n:Nat)(hn:f.bytes.length=n)(E:Nat)(hE:Ks f=E):(E=2/\3000<n)\/ (E=3/\n<=3000/\(f.stamp<0\/ (0<=f.stamp/\1000000<f.stamp)\/ (0<=f.stamp/\f.stamp<=1000000/\f.node<0)\/ (0<=f.stamp/\f.stamp<=1000000/\0<=f.node/\3<f.node)))\/ (E=4/\n<=3000/\0<=f.stamp/\f.stamp<=1000000/\0<=f.node/\f.node<=3/\f.gone=true/\0<n)\/ (E=0/\n<=3000/\0<=f.stamp/\f.stamp<=1000000/\0<=f.node/\f.node<=3/\f.gone=true/\n=0)\/ (E=0/\n<=3000/\0<=f.stamp/\f.stamp<=1000000/\0<=f.node/\f.node<=3/\f.gone=false):=by
 subst hn;subst hE
 by_cases h1:3000<f.bytes.length
 . exact .inl ⟨D4 h0 h1,h1⟩
 . by_cases h3:f.stamp<0\/1000000<f.stamp\/f.node<0\/3<f.node
   . exact .inr (.inl ⟨Us h0 h1 h3,by omega,by omega⟩)
   . have e4:=D2 h0 h1 h3
     cases hg:f.gone with
     |true=>
      by_cases hn:0<f.bytes.length
      . rw[if_pos ⟨hg,hn⟩]at e4;exact .inr (.inr (.inl ⟨e4,by omega,by omega,by omega,by omega,by omega,rfl,hn⟩))
      . rw[if_neg (fun k=>hn k.2)]at e4;exact .inr (.inr (.inr (.inl ⟨e4,by omega,by omega,by omega,by omega,by omega,rfl,by omega⟩)))
     |false=>
      rw[if_neg (fun k=>by rw[hg]at k;cases k.1)]at e4;exact .inr (.inr (.inr (.inr ⟨e4,by omega,by omega,by omega,by omega,by omega,rfl⟩)))
def ahn (xs:List Fv):Nat->List UInt8
 |0=> []
 |k+1=>(((fls xs)[k]?).map Fl.name).getD []
theorem Z2g (ad:Option Addr)(n c:Nat)(w:World)(h:12<n):Calls Tryz.prog 8 #[.slice ad n c] w fun e w'=>e=.returned (.int .i64 2)/\w'=w:=by
 go_enter Tryz.func8,Tryz.ntmps8
 go_wp2;go_ret;exact⟨rfl,rfl⟩
theorem Te (ad:Option Addr)(c:Nat)(xs:List Fv)(w:World)(h:FsIn w ad c xs)(n:Nat)(hn:xs.length=n):
 Calls Tryz.prog 8 #[.slice ad n c] w fun e w'=>e=.returned (.int .i64 (Nh (fls xs):Nat))/\Below w.heap.size w w':=by
 have hl:(fls xs).length=n:=by simp[fls,hn]
 by_cases hm:12<n
 . have e:Nh (fls xs)=2:=by unfold Nh;rw[if_pos (by omega)]
   rw[e];refine(Z2g ad n c w hm).mono ?_;rintro e w' ⟨rfl,rfl⟩;exact⟨rfl,Below.refl _ _⟩
 . have e:Nh (fls xs)=AP none (fls xs):=by unfold Nh;rw[if_neg (by omega)]
   obtain⟨E,hE⟩:∃E,AP none (fls xs)=E:=⟨_,rfl⟩
   rw[e,hE];have HI:=Ab h;have HN:=Ab hn;have HE:=Ab hE;have HL:=Ab hl;clear h e hE hn hl;go_enter Tryz.func8,Tryz.ntmps8
   go_wp2;go_loopw [3,4,5,6,7,13] (fun v3 _ _ _ _ i wr=>∃k:Nat,k<=n/\i=.int .i64 (k:Int)/\v3=.string (B (ahn xs k))/\Hid (AP (ahd xs k) ((fls xs).drop k)=E)/\Hid (Below w.heap.size w wr)) (fun _ _ _ _ _ i _=>n-(intOf i).toNat)
   case atStart=>exact⟨0,VK _,rfl,rfl,Aa HE,Below.refl _ _⟩
   case round=>
    obtain⟨k,hk,rfl,rfl,HR,HB⟩:=hrel
    by_cases hlt:k<n
    . obtain⟨x,hx,hxm⟩:=Ri (xs:=xs) (k:=k) (by rw[Aa HN];exact hlt);obtain⟨b,o,rfl,hb,c0,c1,c2,c3,c4⟩:=(Aa HI).get (Aa HB) hx;have hst:=D5 hx;rw[Aa HR]at hst;have hz:=(Aa HB).size;have HPT:=Ab (fun W=>CQ x.f.name W (by have:=((Aa HI).all x hxm).txt;unfold maxLen;omega));have HS:=Ab hst;have hah:ahn xs (k+1)=x.f.name:=by show (((fls xs)[k]?).map Fl.name).getD []=_;simp[fls,hx]
      have HAH:=Ab hah;have hxs:x.sl=.slice x.a x.f.bytes.length x.c:=rfl;rw[hxs]at c1;have HBL:=Ab (fun o'=>(Aa HB).alloc hz o');obtain⟨nb,hnb⟩:∃nb,x.f.bytes.length=nb:=⟨_,rfl⟩
      obtain⟨er,her⟩:∃er,Ks x.f=er:=⟨_,rfl⟩
      have HWY:=Ab (fun h0=>LT (f:=x.f) h0 nb hnb er her);have HEN:=Ab (@D3 x.f);rw[her]at HS HEN
      have hcmp:Hid ((k=0/\behind (ahd xs k) x.f=true)\/ (0<k/\behind (ahd xs k) x.f=decide (Po x.f.name (ahn xs k)=1))):=by
       cases k with
       |zero=>exact .inl ⟨rfl,rfl⟩
       |succ j=>
        refine .inr ⟨by omega, ?_⟩;have hj:j<(fls xs).length:=by rw[Aa HL];omega
        show behind ((fls xs)[j]?) x.f=decide (Po x.f.name ((((fls xs)[j]?).map Fl.name).getD [])=1)
        rw[VR hj];show decide (Po (fls xs)[j].name x.f.name<0)=decide (Po x.f.name (fls xs)[j].name=1)
        rw[decide_eq_decide];have ha:=Sg x.f.name (fls xs)[j].name;have ht:=Jw x.f.name (fls xs)[j].name;omega
      have hle:=SU x.f.name (ahn xs k);have heq:=SV x.f.name (ahn xs k);have h3:=Jw x.f.name (ahn xs k);obtain⟨cm,hcm⟩:∃cm,Po x.f.name (ahn xs k)=cm:=⟨_,rfl⟩
      rw[hcm]at hle heq h3;have HCM:Hid ((k=0/\behind (ahd xs k) x.f=true)\/ (0<k/\behind (ahd xs k) x.f=decide (cm=1))):=by have:=Aa hcmp;rw[hcm]at this;exact this
      clear hst hxm hx hxs her hah hcmp hcm;rw[hnb]at c1;clear hnb;obtain⟨en,hen⟩:∃en,Jz x.f.name=en:=⟨_,rfl⟩
      rw[hen]at HPT HWY HEN;clear hen;obtain⟨t,ht⟩:∃t,B x.f.name=t:=⟨_,rfl⟩
      obtain⟨t',ht'⟩:∃t',B (ahn xs k)=t':=⟨_,rfl⟩
      rw[ht]at HPT c0 hle heq;rw[ht']at hle heq;rw[ht'];have HT:=Ab ht;clear ht ht';generalize x.f.stamp=st at*;generalize x.f.node=nd at*;generalize x.f.gone=gn at*
      by_cases he:en=0
      . subst he;have hways:=Aa HWY rfl;clear HWY HEN;have hstep:=Aa HS;clear HS
        by_cases hE4:er=0
        . subst hE4
          have hw2:(nb<=3000/\0<=st/\st<=1000000/\0<=nd/\nd<=3)/\((gn=true/\nb=0)\/gn=false):=by
           rcases hways with ⟨h,_⟩|⟨h,_⟩|⟨h,_⟩|⟨_,a1,a2,a3,a4,a5,a6,a7⟩|⟨_,a1,a2,a3,a4,a5,a6⟩
           . omega
           . omega
           . omega
           . exact⟨⟨a1,a2,a3,a4,a5⟩,.inl ⟨a6,a7⟩⟩
           . exact⟨⟨a1,a2,a3,a4,a5⟩,.inr a6⟩
          obtain⟨⟨a1,a2,a3,a4,a5⟩,hgn⟩:=hw2;rw[if_neg (by simp)]at hstep;clear hways
          have hfork:(Hid (behind (ahd xs k) x.f=true)/\(k=0\/ (0<k/\cm=1)))\/ (Hid (behind (ahd xs k) x.f=false)/\0<k/\(cm= -1\/cm=0)):=by
           rcases Aa HCM with ⟨q1,q2⟩|⟨q1,q2⟩
           . exact .inl ⟨q2,.inl q1⟩
           . by_cases e1:cm=1
             . exact .inl ⟨by rw[q2];exact decide_eq_true e1,.inr ⟨q1,e1⟩⟩
             . exact .inr ⟨by rw[q2];exact decide_eq_false e1,q1,by omega⟩
          clear HCM
          rcases hfork with ⟨HBH,hf⟩|⟨HBH,hk0,hf⟩
          . rw[if_neg (by rw[Aa HBH];simp)]at hstep;have HN2:=Ab hstep;clear hstep HBH
            rcases hgn with ⟨rfl,rfl⟩|rfl
            all_goals (
             rcases hf with rfl|⟨hk0,rfl⟩
             all_goals (
              try simp only[YI,XL]at c0 c1 c2 c3 c4
              try simp only[Int.reduceLT,Int.reduceEq,decide_false]at hle heq
              go_wp2_with fail
              refine(Aa HPT _).mono ?_;rintro e w1 ⟨v1,rfl,_,hb1,_⟩;have HB1:=Ab ((Aa HBL _).trans (hb1.mono (by simp;omega)));have q0:w1.cell? ⟨wr.heap.size,0,none⟩=some (.string t):=(hb1.cell (p:=⟨wr.heap.size,0,none⟩) (by simp)).trans (by simp);have q1:=(hb1.cell (p:=⟨wr.heap.size,1,none⟩) (by simp)).trans (by simp;rfl);have q2:w1.cell? ⟨wr.heap.size,2,none⟩=some (.int .i64 st):=(hb1.cell (p:=⟨wr.heap.size,2,none⟩) (by simp)).trans (by simp);have q3:w1.cell? ⟨wr.heap.size,3,none⟩=some (.int .i64 nd):=(hb1.cell (p:=⟨wr.heap.size,3,none⟩) (by simp)).trans (by simp);have q4:=(hb1.cell (p:=⟨wr.heap.size,4,none⟩) (by simp)).trans (by simp;rfl);clear hb1;go_wp2;go_roundw
              case rel=>exact⟨_,by omega,by go_num,by rw[Aa HAH,Aa HT],(Aa HN2).symm,Aa HB1⟩
              case measure=>simp[intOf];omega))
          . rw[if_pos (Aa HBH)]at hstep;have HN2:=Ab hstep;clear hstep HBH;have hki:(0:Int)<(k:Int):=by omega
            rcases hgn with ⟨rfl,rfl⟩|rfl
            all_goals (
             rcases hf with rfl|rfl
             all_goals (
              try simp only[Int.reduceLT,Int.reduceEq,Int.reduceNeg,decide_true,decide_false]at hle heq
              go_wp2_with fail
              refine(Aa HPT _).mono ?_;rintro e w1 ⟨v1,rfl,_,hb1,_⟩;have HB1:=Ab ((Aa HBL _).trans (hb1.mono (by simp;omega)));have q0:w1.cell? ⟨wr.heap.size,0,none⟩=some (.string t):=(hb1.cell (p:=⟨wr.heap.size,0,none⟩) (by simp)).trans (by simp);have q1:=(hb1.cell (p:=⟨wr.heap.size,1,none⟩) (by simp)).trans (by simp;rfl);have q2:w1.cell? ⟨wr.heap.size,2,none⟩=some (.int .i64 st):=(hb1.cell (p:=⟨wr.heap.size,2,none⟩) (by simp)).trans (by simp);have q3:w1.cell? ⟨wr.heap.size,3,none⟩=some (.int .i64 nd):=(hb1.cell (p:=⟨wr.heap.size,3,none⟩) (by simp)).trans (by simp);have q4:=(hb1.cell (p:=⟨wr.heap.size,4,none⟩) (by simp)).trans (by simp;rfl);clear hb1;go_wp2;go_ret;exact⟨Cz (by rw[Aa HN2];rfl),Aa HB1⟩))
        . rw[if_pos (by simpa using hE4)]at hstep;have HN2:=Ab hstep;clear hstep HCM
          rcases hways with ⟨rfl,a1⟩|⟨rfl,a1,a2|⟨a2,a3⟩|⟨a2,a3,a4⟩|⟨a2,a3,a4,a5⟩⟩|⟨rfl,a1,a2,a3,a4,a5,rfl,a6⟩|⟨rfl,_⟩|⟨rfl,_⟩
          . skip
            go_wp2_with fail
            refine(Aa HPT _).mono ?_;rintro e w1 ⟨v1,rfl,_,hb1,_⟩;have HB1:=Ab ((Aa HBL _).trans (hb1.mono (by simp;omega)));have q0:w1.cell? ⟨wr.heap.size,0,none⟩=some (.string t):=(hb1.cell (p:=⟨wr.heap.size,0,none⟩) (by simp)).trans (by simp);have q1:=(hb1.cell (p:=⟨wr.heap.size,1,none⟩) (by simp)).trans (by simp;rfl);have q2:w1.cell? ⟨wr.heap.size,2,none⟩=some (.int .i64 st):=(hb1.cell (p:=⟨wr.heap.size,2,none⟩) (by simp)).trans (by simp);have q3:w1.cell? ⟨wr.heap.size,3,none⟩=some (.int .i64 nd):=(hb1.cell (p:=⟨wr.heap.size,3,none⟩) (by simp)).trans (by simp);have q4:=(hb1.cell (p:=⟨wr.heap.size,4,none⟩) (by simp)).trans (by simp;rfl);clear hb1;go_wp2;go_ret;exact⟨Cz (by rw[Aa HN2];rfl),Aa HB1⟩
          . skip
            go_wp2_with fail
            refine(Aa HPT _).mono ?_;rintro e w1 ⟨v1,rfl,_,hb1,_⟩;have HB1:=Ab ((Aa HBL _).trans (hb1.mono (by simp;omega)));have q0:w1.cell? ⟨wr.heap.size,0,none⟩=some (.string t):=(hb1.cell (p:=⟨wr.heap.size,0,none⟩) (by simp)).trans (by simp);have q1:=(hb1.cell (p:=⟨wr.heap.size,1,none⟩) (by simp)).trans (by simp;rfl);have q2:w1.cell? ⟨wr.heap.size,2,none⟩=some (.int .i64 st):=(hb1.cell (p:=⟨wr.heap.size,2,none⟩) (by simp)).trans (by simp);have q3:w1.cell? ⟨wr.heap.size,3,none⟩=some (.int .i64 nd):=(hb1.cell (p:=⟨wr.heap.size,3,none⟩) (by simp)).trans (by simp);have q4:=(hb1.cell (p:=⟨wr.heap.size,4,none⟩) (by simp)).trans (by simp;rfl);clear hb1;go_wp2;go_ret;exact⟨Cz (by rw[Aa HN2];rfl),Aa HB1⟩
          . skip
            go_wp2_with fail
            refine(Aa HPT _).mono ?_;rintro e w1 ⟨v1,rfl,_,hb1,_⟩;have HB1:=Ab ((Aa HBL _).trans (hb1.mono (by simp;omega)));have q0:w1.cell? ⟨wr.heap.size,0,none⟩=some (.string t):=(hb1.cell (p:=⟨wr.heap.size,0,none⟩) (by simp)).trans (by simp);have q1:=(hb1.cell (p:=⟨wr.heap.size,1,none⟩) (by simp)).trans (by simp;rfl);have q2:w1.cell? ⟨wr.heap.size,2,none⟩=some (.int .i64 st):=(hb1.cell (p:=⟨wr.heap.size,2,none⟩) (by simp)).trans (by simp);have q3:w1.cell? ⟨wr.heap.size,3,none⟩=some (.int .i64 nd):=(hb1.cell (p:=⟨wr.heap.size,3,none⟩) (by simp)).trans (by simp);have q4:=(hb1.cell (p:=⟨wr.heap.size,4,none⟩) (by simp)).trans (by simp;rfl);clear hb1;go_wp2;go_ret;exact⟨Cz (by rw[Aa HN2];rfl),Aa HB1⟩
          . skip
            go_wp2_with fail
            refine(Aa HPT _).mono ?_;rintro e w1 ⟨v1,rfl,_,hb1,_⟩;have HB1:=Ab ((Aa HBL _).trans (hb1.mono (by simp;omega)));have q0:w1.cell? ⟨wr.heap.size,0,none⟩=some (.string t):=(hb1.cell (p:=⟨wr.heap.size,0,none⟩) (by simp)).trans (by simp);have q1:=(hb1.cell (p:=⟨wr.heap.size,1,none⟩) (by simp)).trans (by simp;rfl);have q2:w1.cell? ⟨wr.heap.size,2,none⟩=some (.int .i64 st):=(hb1.cell (p:=⟨wr.heap.size,2,none⟩) (by simp)).trans (by simp);have q3:w1.cell? ⟨wr.heap.size,3,none⟩=some (.int .i64 nd):=(hb1.cell (p:=⟨wr.heap.size,3,none⟩) (by simp)).trans (by simp);have q4:=(hb1.cell (p:=⟨wr.heap.size,4,none⟩) (by simp)).trans (by simp;rfl);clear hb1;go_wp2;go_ret;exact⟨Cz (by rw[Aa HN2];rfl),Aa HB1⟩
          . skip
            go_wp2_with fail
            refine(Aa HPT _).mono ?_;rintro e w1 ⟨v1,rfl,_,hb1,_⟩;have HB1:=Ab ((Aa HBL _).trans (hb1.mono (by simp;omega)));have q0:w1.cell? ⟨wr.heap.size,0,none⟩=some (.string t):=(hb1.cell (p:=⟨wr.heap.size,0,none⟩) (by simp)).trans (by simp);have q1:=(hb1.cell (p:=⟨wr.heap.size,1,none⟩) (by simp)).trans (by simp;rfl);have q2:w1.cell? ⟨wr.heap.size,2,none⟩=some (.int .i64 st):=(hb1.cell (p:=⟨wr.heap.size,2,none⟩) (by simp)).trans (by simp);have q3:w1.cell? ⟨wr.heap.size,3,none⟩=some (.int .i64 nd):=(hb1.cell (p:=⟨wr.heap.size,3,none⟩) (by simp)).trans (by simp);have q4:=(hb1.cell (p:=⟨wr.heap.size,4,none⟩) (by simp)).trans (by simp;rfl);clear hb1;go_wp2;go_ret;exact⟨Cz (by rw[Aa HN2];rfl),Aa HB1⟩
          . skip
            go_wp2_with fail
            refine(Aa HPT _).mono ?_;rintro e w1 ⟨v1,rfl,_,hb1,_⟩;have HB1:=Ab ((Aa HBL _).trans (hb1.mono (by simp;omega)));have q0:w1.cell? ⟨wr.heap.size,0,none⟩=some (.string t):=(hb1.cell (p:=⟨wr.heap.size,0,none⟩) (by simp)).trans (by simp);have q1:=(hb1.cell (p:=⟨wr.heap.size,1,none⟩) (by simp)).trans (by simp;rfl);have q2:w1.cell? ⟨wr.heap.size,2,none⟩=some (.int .i64 st):=(hb1.cell (p:=⟨wr.heap.size,2,none⟩) (by simp)).trans (by simp);have q3:w1.cell? ⟨wr.heap.size,3,none⟩=some (.int .i64 nd):=(hb1.cell (p:=⟨wr.heap.size,3,none⟩) (by simp)).trans (by simp);have q4:=(hb1.cell (p:=⟨wr.heap.size,4,none⟩) (by simp)).trans (by simp;rfl);clear hb1;go_wp2;go_ret;exact⟨Cz (by rw[Aa HN2];rfl),Aa HB1⟩
          . exact absurd rfl hE4
          . exact absurd rfl hE4
      . have hen:=Aa HEN he;have hstep:=Aa HS;rw[hen,if_pos (by simpa using he)]at hstep;have HN2:=Ab hstep;clear hstep hen HS HWY HEN HCM;go_wp2_with fail
        refine(Aa HPT _).mono ?_;rintro e w1 ⟨v1,rfl,_,hb1,_⟩;have HB1:=Ab ((Aa HBL _).trans (hb1.mono (by simp;omega)));clear hb1;go_wp2;go_ret;exact⟨Cz (by rw[Aa HN2]),Aa HB1⟩
    . obtain rfl:n=k:=by omega
      go_wp2;go_ret;have:=Aa HR
      rw[XV (by rw[Aa HL];exact VC _)]at this;exact⟨Cz (by rw[<-this];rfl),Aa HB⟩
def NW (c x k:Nat):Nat:=Hz k (c^^^x%2^k)
theorem MI (c x:Nat):NW c x 0=c:=by simp[NW,Hz,Nat.mod_one]
theorem MJ (c x k:Nat):NW c x (k+1)=lft (NW c x k^^^x/2^k%2):=JX c x k
theorem RY {c x:Nat}(hx:x<256):NW c x 8=RX c x:=by
 unfold NW RX;rw[ZH (by simpa using hx)]
theorem Z2e {c x:Nat}(k:Nat)(hc:c<4294967296)(hx:x<256):NW c x k<4294967296:=by
 unfold NW;refine Qz k (Nat.xor_lt_two_pow (n:=32) hc ?_);have:=Nat.mod_le x (2^k)
 omega
theorem Z5f {m x j:Nat}(hm:m<4294967296)(hx:x<256)(hj:j<8):bits .xor .u32 (bits .and .u32 (m:Int) 1) (bits .and .u8 ((x:Int)/2^j) 1%4294967296)=(((m%2^^^x/2^j%2):Nat):Int):=by
 have h1:bits .and .u8 ((x/2^j:Nat):Int) ((1:Nat):Int)=((x/2^j&&&1:Nat):Int):=u8_and_nat _ _ (XU (YY _ _) hx) (by decide);rw[Nat.and_one_is_mod]at h1;have e:((x/2^j:Nat):Int)=(x:Int)/2^j:=by push_cast;rfl
 rw[e]at h1;rw[Z59 hm,show (1:Int)=((1:Nat):Int) from rfl,h1,show (((x/2^j%2:Nat):Int))%4294967296=((x/2^j%2:Nat):Int) by omega];exact u32_xor_nat _ _ (by omega) (by omega)
theorem MH (p:Nat)(a:Option Addr)(n cap:Nat)(bs:List Nat)(w:World)(hl:bs.length=n)(hn:n<=12000)(hp:p<4294967296)(hby:BytesIn w a bs)(hv:∀j,bs.getD j 0<256):
 Calls Tryz.prog 12 #[.int .u32 (p:Int),.slice a n cap] w fun e w'=>e=.returned (.int .u32 (crcN p bs:Nat))/\w'=w:=by
 have HBY:=Ab hby;have HV:=Ab hv;have HL:=Ab hl;clear hby hv hl;go_enter Tryz.func12,Tryz.ntmps12
 go_wp2;rw[Z4d hp];go_loop [5,14] (fun r i=>∃k:Nat,k<=n/\i=.int .i64 (k:Int)/\r=.int .u32 (Sa (p^^^4294967295) (bs.take k):Nat)) (fun _ i=>n-(intOf i).toNat)
 case atStart=>exact⟨0,by omega,rfl,rfl⟩
 case round=>
  obtain⟨k,hk,rfl,rfl⟩:=hrel
  have hr:Sa (p^^^4294967295) (bs.take k)<4294967296:=Ry _ _ (fun y hy=>by
   obtain⟨i,hi,rfl⟩:=XF hy;have:=Aa HV i
   rw[VM]at hi;rw[ZB];rw[List.getD,VR (by omega)]at this;exact this) (Zs hp)
  by_cases hlt:k<n
  . have hkl:k<bs.length:=by rw[Aa HL];exact hlt
    obtain⟨b,o,rfl,hb,hc⟩:=BB (Aa HBY) hkl;have hx:=Aa HV k;have HC:Hid (Sa (p^^^4294967295) (bs.take (k+1))=RX (Sa (p^^^4294967295) (bs.take k)) (bs.getD k 0)):=Ab (by rw[Yj hkl,E7]);generalize Sa (p^^^4294967295) (bs.take k)=r at*;generalize bs.getD k 0=x at*;clear hkl;go_wp2;go_loop [5,18] (fun r1 i=>∃j:Nat,j<=8/\i=.int .i64 (j:Int)/\r1=.int .u32 (NW r x j:Nat)) (fun _ i=>8-(intOf i).toNat)
    case atStart=>exact⟨0,by omega,rfl,by rw[MI]⟩
    case round=>
     obtain⟨j,hj,rfl,rfl⟩:=hrel
     by_cases hjl:j<8
     . have HN:=Ab (MJ r x j);have hm:=Z2e j hr hx;generalize NW r x j=m at*
       by_cases hodd:(m%2^^^x/2^j%2)=1
       . have h1:(bits .xor .u32 (bits .and .u32 (m:Int) 1) (bits .and .u8 ((x:Int)/2^j) 1%4294967296)==1)=true:=by rw[Z5f hm hx hjl,hodd];rfl
         have HL1:Hid (lft (m^^^x/2^j%2)=m/2^^^3988292384):=Ab (by rw[JY _ _ (Nat.mod_lt _ (by decide)),if_pos hodd]);have HX:=Ab (Z5c hm);clear hodd;go_wp2;go_round
         case rel=>exact⟨j+1,by omega,by go_num,by rw[Aa HN,Aa HL1,Aa HX]⟩
         case measure=>simp[intOf];omega
       . have h1:=Z5f hm hx hjl;have h2:((((m%2^^^x/2^j%2):Nat):Int)==1)=false:=by rw[beq_eq_false_iff_ne];omega
         rw[<-h1]at h2;have HL1:Hid (lft (m^^^x/2^j%2)=m/2):=Ab (by rw[JY _ _ (Nat.mod_lt _ (by decide)),if_neg hodd]);clear hodd h1;go_wp2;go_round
         case rel=>exact⟨j+1,by omega,by go_num,by rw[Aa HN,Aa HL1];rfl⟩
         case measure=>simp[intOf];omega
     . obtain rfl:j=8:=by omega
       go_wp2;go_round
       case rel=>exact⟨k+1,by omega,by go_num,by rw[Aa HC,RY hx]⟩
       case measure=>simp[intOf];omega
  . have e:k=n:=by omega
    subst e;have HE:Hid (Sa (p^^^4294967295) (bs.take k)^^^4294967295=crcN p bs):=Ab (by rw[VP (by rw[Aa HL];exact VC _)];rfl);have HNN:=Ab (Z4d hr);clear hr;go_wp2;go_ret;exact⟨by rw[Aa HNN,Aa HE];rfl,rfl⟩
end Go.Proofs.YtleocpdblhbimaaGreatDoor
namespace Go.Proofs.YtleocpdblhbimaaGreatDoor
open Go.RowKit
set_option linter.unusedVariables false
set_option maxRecDepth 100000
theorem Jg {a W W':World}(h:Below a.heap.size a W)(k:Below W.heap.size W W'):Below a.heap.size a W':=h.trans (k.mono h.size)
theorem Z32:UnC False:=by
 intro W a n c pk hl hn hby hv hg
 rcases hg with hg|hg
 . exact hg.elim
 . have hk:(Mp (rowB pk n)).ks.length<=200000:=by
    have h1:=Nd _ hg;have h2:=(Rc (rowB pk n) n (Ai _ _) (by rw[h1];exact hg)).2.2.2.2;rw[h1,Ai]at h2;omega
   refine(J7 a n c pk W hl (by omega) hby (Cv hv) _ rfl hg hk).mono ?_;rintro e w' ⟨ov,kv,rfl,ho,_,hB⟩;obtain⟨oa,oc,rfl,k1,k2,k3,k4⟩:=Uh ho;exact⟨hB,.inl ⟨hg,oa,oc,kv,rfl,⟨oa,oc,rfl,k2,k1⟩,k4⟩⟩
def Yq:List Fl->Nat
 | []=>0
 |f::r=>(98+2*f.name.length+f.bytes.length+5)+Yq r
theorem Yp:∀(l:List Fl) (f:Fl),Yq (l++ [f])=Yq l+(98+2*f.name.length+f.bytes.length+5)
 | [],f=>by simp[Yq]
 |g::r,f=>by rw[XH,Yq,Yp r f,Yq];omega
theorem GU:∀(l:List Fl),(∀f∈l,f.name.length<=40/\f.bytes.length<=3000)->Yq l<=3183*l.length
 | [],_=>by simp[Yq]
 |f::r,h=>by
  have h1:=GU r (fun g hg=>h g (WM _ hg));have h2:=h f (by simp);rw[Yq,VJ];omega
theorem BG:∀(l:List En) (p:Nat),(∀x∈l,x.pk.length<=x.f.bytes.length)->(Ar l).length+(Am p l).length<=Yq (l.map En.f)
 | [],p,_=>by simp[Ar,Am,Yq]
 |x::r,p,h=>by
  have h1:=BG r (p+(Sy x).length) (fun y hy=>h y (WM _ hy));have h2:=h x (by simp);rw[Ar,Am,VB,VB,Gc,Jk,WP,Yq];rw[Gc]at h1;omega
theorem EOf.less {x:En}(h:EOf x):x.pk.length<=x.f.bytes.length:=by
 obtain⟨out,ho,(⟨q1,q2,q3⟩|⟨q1,q2,q3⟩)⟩:=h.pk
 . rw[q3];omega
 . rw[q3,Cd];exact VC _
theorem FH {l:List En}(h:∀x∈l,EOf x):(Ba l).length<=22+Yq (l.map En.f):=by
 have h1:=BG l 0 (fun x hx=>(h x hx).less);unfold Ba;rw[VB,VB,Mg];omega
theorem EOf.ways {x:En}(h:EOf x):(x.meth=0/\x.pk=n8 x.f.bytes)\/ (x.meth=8/\x.pk.length<x.f.bytes.length):=by
 obtain⟨out,ho,(⟨q1,q2,q3⟩|⟨q1,q2,q3⟩)⟩:=h.pk
 . exact .inr ⟨q2,by rw[q3];exact q1⟩
 . exact .inl ⟨q2,q3⟩
theorem Xk (ad:Option Addr)(c n:Nat)(xs:List Fv)(w:World)(h:FsIn w ad c xs)(hn:xs.length=n):
 Calls Tryz.prog 3 #[.slice ad n c] w fun e w'=>e=.returned (.bool true)/\Below w.heap.size w w':=by
 have HW:=Ab (Th ad c n xs w h hn);have HC:=Ab (fun w1 (hB:Below w.heap.size w w1)=>Te ad c xs w1 (h.below hB (VC _)) n hn);obtain⟨E,hE⟩:∃E,Nh (fls xs)=E:=⟨_,rfl⟩
 have HI:=Ab h;have HN:=Ab hn;clear h hn;go_enter Tryz.func3,Tryz.ntmps3
 go_wp2_with fail
 refine(Aa HW).mono ?_;rintro e w1 ⟨hB1,hcase⟩;rw[hE]at HC hcase;have HC1:=Ab (Aa HC w1 hB1);have HB1:=Ab hB1;clear HW HC
 rcases hcase with ⟨hE1,rfl⟩|⟨hE0,l,hlf,hlo,(⟨h1,rfl⟩|⟨h1,a4,c4,rfl,hac,hP4⟩)⟩
 . have hEc:((E:Int)!=0)=true:=by simp only[bne_iff_ne,ne_eq];omega
   clear hE hE1 hB1;go_wp2_with fail
   refine(Aa HC1).mono ?_;rintro e w2 ⟨rfl,hB2⟩;have HB2:=Ab ((Aa HB1).trans (hB2.mono (Aa HB1).size));clear hB2;go_wp2_with fail
   refine(Gg w2).mono ?_;rintro e w3 ⟨rfl,hB3⟩;have HB3:=Ab ((Aa HB2).trans (hB3.mono (Aa HB2).size));clear hB3;go_wp2_with fail
   refine(Gg w3).mono ?_;rintro e w4 ⟨rfl,hB4⟩;have HB4:=Ab ((Aa HB3).trans (hB4.mono (Aa HB3).size));clear hB4;go_wp2;go_ret;exact⟨rfl,Aa HB4⟩
 . subst hE0;have hgr:=FH hlo;rw[hlf]at hgr;have hall:=Jv hE;have hbnd:∀f∈fls xs,f.name.length<=40/\f.bytes.length<=3000:=fun f hf=>⟨(Hu (hall.2 f hf)).1,(Hu (hall.2 f hf)).2.1⟩
   have hfl:(fls xs).length=n:=by simp[fls,Aa HN]
   have hn12:n<=12:=by rw[<-hfl];exact hall.1
   have HSM:Hid (12000<22+Yq (fls xs)):=Ab (by omega);have HBD:=Ab hbnd;have HFL:=Ab hfl;clear hE hB1 hlo hlf h1 hgr hall hbnd hfl l;go_wp2_with fail
   refine(Aa HC1).mono ?_;rintro e w2 ⟨rfl,hB2⟩;have HB2:=Ab ((Aa HB1).trans (hB2.mono (Aa HB1).size));clear hB2;go_wp2_with fail
   refine(Gg w2).mono ?_;rintro e w3 ⟨rfl,hB3⟩;have HB3:=Ab ((Aa HB2).trans (hB3.mono (Aa HB2).size));clear hB3;go_wp2;go_loopw [6,8,41] (fun v6 _ v41 wr=>∃(k t:Nat),k<=n/\v41=.int .i64 (k:Int)/\v6=.int .i64 (t:Int)/\t<=50000/\Hid (t=22+Yq ((fls xs).take k))/\Hid (Below w.heap.size w wr)) (fun _ _ v41 _=>n-(intOf v41).toNat)
   case atStart=>exact⟨0,22,VK _,rfl,rfl,by omega,Ab (by simp[Yq]),HB3⟩
   case round=>
    obtain⟨k,t,hk,rfl,rfl,ht,HT,HB⟩:=hrel
    by_cases hlt:k<n
    . obtain⟨x,hx,hxm⟩:=Ri (xs:=xs) (k:=k) (by rw[Aa HN];exact hlt);obtain⟨b,o,rfl,hb,c0,c1,c2,c3,cc4⟩:=(Aa HI).get (Aa HB) hx;have hxs:x.sl=.slice x.a x.f.bytes.length x.c:=rfl;rw[hxs]at c1;have hf:(fls xs)[k]? =some x.f:=by simp[fls,hx]
      have hb2:=Aa HBD x.f (List.mem_of_getElem? hf);have htk:=Fj hf;obtain⟨nb,hnb⟩:∃nb,x.f.bytes.length=nb:=⟨_,rfl⟩
      obtain⟨nl,hnl⟩:∃nl,x.f.name.length=nl:=⟨_,rfl⟩
      obtain⟨tx,htx⟩:∃tx,B x.f.name=tx:=⟨_,rfl⟩
      have htz:tx.size=nl:=by rw[<-htx,Ha,hnl]
      have HT2:Hid (t+(98+2*nl+nb+5)=22+Yq ((fls xs).take (k+1))):=Ab (by rw[htk,Yp,hnl,hnb];have:=Aa HT;omega)
      have ht2:t+(98+2*nl+nb+5)<=50000:=by
       have h1:=Aa HT2;have h2:=GU ((fls xs).take (k+1)) (fun f hf=>Aa HBD f (VO hf));have h3:((fls xs).take (k+1)).length<=12:=by rw[VM,Aa HFL];omega
       omega
      rw[hnb,hnl]at hb2;rw[htx]at c0;rw[hnb]at c1;have hz:=(Aa HB).size;have HBL:=Ab (fun o'=>(Aa HB).alloc hz o');generalize x.f.stamp=st at*;generalize x.f.node=nd at*;generalize x.f.gone=gn at*;clear hx hxm hxs hf htk hnb hnl htx HT;go_wp2;go_roundw
      case rel=>exact⟨k+1,t+(98+2*nl+nb+5),by omega,by go_num,by go_num,ht2,HT2,Ab (Aa HBL _)⟩
      case measure=>simp[intOf];omega
    . obtain rfl:n=k:=by omega
      have htI:(12000:Int)<(t:Int):=by
       have h1:=Aa HT;have h2:=Aa HSM;rw[VP (by rw[Aa HFL];exact VC _)]at h1;omega
      go_wp2;go_ret;exact⟨rfl,Aa HB⟩
 . subst hE0;have hE2:Nh (l.map En.f)=0:=by rw[hlf];exact hE
   have hall:=Jv hE2;have hwr:=Ti l hE2 hlo h1;have hav:=Pp l (fun x hx=>((hlo x hx).num (hall.2 x.f (XJ hx))).2)
   have hll:l.length=n:=by
    have:=congrArg List.length hlf
    simpa[fls,Aa HN]using this
   have hn12:n<=12:=by have:=hall.1;rw[WG]at this;omega
   have hend:Q2 (Ba l)=some l:=LY l (fun x hx=>(hwr.1 x hx).doc) (by omega) (by omega);have HEN:=Ab (fun W (hW:Below w1.heap.size w1 W)=>Q1 a4 (Ba l).length c4 (Ba l) W rfl h1 hac (hP4.below hW) hav False (.inr (by rw[hend];simp)) Z32);have HED:=Ab hend;have HLF:=Ab hlf;have HLO:=Ab hlo;have HLL:=Ab hll;have HAL:=Ab hall;obtain⟨AL,hAL⟩:∃AL,(Ba l).length=AL:=⟨_,rfl⟩
   rw[hAL]at HEN h1;rw[hAL];clear hE hB1 hlo hlf hE2 hwr hav hll hend hP4 hac hAL hall;go_wp2_with fail
   refine(Aa HC1).mono ?_;rintro e w2 ⟨rfl,hB2⟩;have HB2:=Ab ((Aa HB1).trans (hB2.mono (Aa HB1).size));have HP2:=Ab hB2;clear hB2;go_wp2_with fail
   refine(Gg w2).mono ?_;rintro e w3 ⟨rfl,hB3⟩;have HB3:=Ab ((Aa HB2).trans (hB3.mono (Aa HB2).size));have HP3:=Ab ((Aa HP2).trans (hB3.mono (Aa HP2).size));clear hB3;go_wp2_with fail
   refine(Aa HEN w3 (Aa HP3)).mono ?_;rintro e w4 ⟨hB4,hx4⟩
   rcases hx4 with ⟨hbad,_⟩|⟨es,a5,c5,hes,rfl,hRs⟩
   . rw[Aa HED]at hbad;cases hbad
   . have hes2:es.map Ev.e=l:=by rw[Aa HED]at hes;exact(VQ hes).symm
     have hel:es.length=n:=by rw[<-Aa HLL,<-hes2,WG]
     have hbt:(Ba (es.map Ev.e)==Ba l)=true:=by rw[hes2];exact beq_self_eq_true _
     rw[hbt,hel];have HB4:=Ab ((Aa HB3).trans (hB4.mono (Aa HB3).size));have HRS:=Ab hRs;have HES:=Ab hes2;have HEL:=Ab hel;have h1I:¬(12000:Int)<(AL:Int):=by omega
     clear hB4 hes hes2 hel hbt hRs HEN HC1 HP2 HP3 HB3 HB2;go_wp2;go_loopw [11,12,90] (fun _ _ v90 wr=>∃(k:Nat),k<=n/\v90=.int .i64 (k:Int)/\Hid (Below w.heap.size w wr)/\Hid (Below w4.heap.size w4 wr)) (fun _ _ v90 _=>n-(intOf v90).toNat)
     case atStart=>exact⟨0,VK _,rfl,HB4,Ab (Below.refl _ _)⟩
     case round=>
      obtain⟨k,hk,rfl,HB,HB4r⟩:=hrel
      by_cases hlt:k<n
      . obtain⟨x,hx,hxm⟩:=Ri (xs:=xs) (k:=k) (by rw[Aa HN];exact hlt);obtain⟨b,o,rfl,hb,c0,c1,c2,c3,cc4⟩:=(Aa HI).get (Aa HB) hx;obtain⟨y,hy,hym⟩:∃y,es[k]? =some y/\y∈es:=⟨es[k]'(by rw[Aa HEL];exact hlt),VR _,WK _⟩
        have hyl:y.e∈l:=by rw[<-Aa HES];exact XJ hym
        have hyf:y.e.f=x.f:=by
         have h2:(l.map En.f)[k]? =some y.e.f:=by rw[<-Aa HES];simp[hy]
         rw[Aa HLF]at h2;have h3:(fls xs)[k]? =some x.f:=by simp[fls,hx]
         rw[h3]at h2;exact(VQ h2).symm
        obtain⟨b2,o2,rfl,hb2,d0,d1,d2,d3,d4,d5,d6,d7⟩:=(Aa HRS).get (Aa HB4r) hy;rw[hyf]at d0 d1 d2 d3 d4;have heo:=Aa HLO y.e hyl;have hcr:y.e.crc=crcN 0 (n8 x.f.bytes):=by rw[heo.cr,hyf]
        have hways:=heo.ways;rw[hyf]at hways;have hev:=(Aa HRS).all y hym;have hnum:=Hu ((Aa HAL).2 y.e.f (XJ hyl));rw[hyf]at hnum;have hxs:x.sl=.slice x.a x.f.bytes.length x.c:=rfl;rw[hxs]at c1;have hxin:=(Aa HI).all x hxm;obtain⟨wA,hwA⟩:∃wA,wr.alloc (.cells #[.string (B x.f.name),.slice x.a x.f.bytes.length x.c,.int .i64 x.f.stamp,.int .i64 x.f.node,.bool x.f.gone] 30)=wA:=⟨_,rfl⟩
        have hXA:wA.heap[wr.heap.size]? =some (.cells #[.string (B x.f.name),.slice x.a x.f.bytes.length x.c,.int .i64 x.f.stamp,.int .i64 x.f.node,.bool x.f.gone] 30 (0,0)):=by rw[<-hwA];exact heap_alloc_new wr _
        have hBA:Below wr.heap.size wr wA:=by rw[<-hwA];exact(Below.refl _ _).alloc (VC _) _
        have hsA:wA.heap.size=wr.heap.size+1:=by rw[<-hwA];simp
        have hs4:=(Aa HB4r).size;have hsw:=(Aa HB).size;have hB4A:Below w4.heap.size w4 wA:=(Aa HB4r).trans (hBA.mono hs4);have hBwA:Below w.heap.size w wA:=(Aa HB).trans (hBA.mono hsw)
        have hE:∀W,Below wA.heap.size wA W->∀i v,wr.cell? ⟨b2,o2+k*8+i,none⟩=some v->W.cell? ⟨b2,o2+k*8+i,none⟩=some v:=fun W hW i v hv=>by
         rw[hW.cell (p:=⟨b2,_,none⟩) (by dsimp only;omega),hBA.cell (p:=⟨b2,_,none⟩) (by dsimp only;omega)];exact hv
        have hF:∀W,Below wA.heap.size wA W->∀i,W.cell? ⟨wr.heap.size,i,none⟩=(#[.string (B x.f.name),.slice x.a x.f.bytes.length x.c,.int .i64 x.f.stamp,.int .i64 x.f.node,.bool x.f.gone]:Array Value)[i]? :=fun W hW i=>by
         rw[hW.cell (p:=⟨wr.heap.size,_,none⟩) (by dsimp only;omega)];exact Ac hXA
        have HSF:Hid (∀W,Below wA.heap.size wA W->Calls Tryz.prog 11 #[.agg #[.string (B x.f.name),.slice y.fa x.f.bytes.length y.fc,.int .i64 x.f.stamp,.int .i64 x.f.node,.bool x.f.gone],.agg #[.string (B x.f.name),.slice x.a x.f.bytes.length x.c,.int .i64 x.f.stamp,.int .i64 x.f.node,.bool x.f.gone]] W fun e w'=>e=.returned (.bool true)/\Below W.heap.size W w'):=Ab (fun W hW=>by
         have i1:=(hev.1.below (hB4A.trans (hW.mono hB4A.size))).fv;rw[hyf]at i1;have h5:=PN ⟨x.f,y.fa,y.fc⟩ x W i1 (hxin.below (hBwA.trans (hW.mono hBwA.size)) (VC _));refine h5.mono ?_;rintro e w' ⟨rfl,h6⟩;exact⟨by simp,h6⟩)
        have HCR:Hid (∀W,Below wA.heap.size wA W->Calls Tryz.prog 12 #[.int .u32 0,.slice x.a x.f.bytes.length x.c] W fun e w'=>e=.returned (.int .u32 (y.e.crc:Int))/\w'=W):=Ab (fun W hW=>by
         have i1:=(SJ (hxin.below (hBwA.trans (hW.mono hBwA.size)) (VC _)).bs).1;have h5:=MH 0 x.a x.f.bytes.length x.c (n8 x.f.bytes) W (Cd _) (by omega) (by decide) i1 (Cv (Ir _));rw[hcr];exact h5)
        have HEQ:Hid (y.e.meth=0->∀W,Below wA.heap.size wA W->Calls Tryz.prog 13 #[.slice y.pa y.e.pk.length y.pc,.slice x.a x.f.bytes.length x.c] W fun e w'=>e=.returned (.bool true)/\w'=W):=Ab (fun hm W hW=>by
         have i1:=(SJ (hxin.below (hBwA.trans (hW.mono hBwA.size)) (VC _)).bs).1;have i2:=(hev.1.below (hB4A.trans (hW.mono hB4A.size))).pk.1
         have hpk:y.e.pk=n8 x.f.bytes:=by
          rcases hways with ⟨_,h6⟩|⟨h6,_⟩
          . exact h6
          . rw[hm]at h6;cases h6
         rw[hpk]at i2;have h5:=Sj y.pa x.a x.f.bytes.length y.pc x.f.bytes.length x.c (n8 x.f.bytes) (n8 x.f.bytes) W (Cd _) (Cd _) (Cv (Ir _)) (Cv (Ir _)) i2 i1;rw[hpk,Cd];refine h5.mono ?_;rintro e w' ⟨rfl,h6⟩;exact⟨by simp,h6⟩)
        obtain⟨nb,hnb⟩:∃nb,x.f.bytes.length=nb:=⟨_,rfl⟩
        obtain⟨tx,htx⟩:∃tx,B x.f.name=tx:=⟨_,rfl⟩
        obtain⟨pl,hpl⟩:∃pl,y.e.pk.length=pl:=⟨_,rfl⟩
        obtain⟨mt,hmt⟩:∃mt,y.e.meth=mt:=⟨_,rfl⟩
        obtain⟨cr,hcrl⟩:∃cr,y.e.crc=cr:=⟨_,rfl⟩
        have hwy:mt=0\/ (mt=8/\pl<nb):=by
         rcases hways with ⟨h6,_⟩|⟨h6,h7⟩
         . exact .inl (by rw[<-hmt];exact h6)
         . exact .inr ⟨by rw[<-hmt];exact h6,by rw[<-hpl,<-hnb];exact h7⟩
        rw[htx,hnb]at HSF hF hwA;rw[hnb]at HCR HEQ;rw[hcrl]at HCR d7;rw[hpl,hmt]at HEQ;rw[hpl]at d6;rw[hmt]at d5;rw[htx]at c0 d0;rw[hnb]at c1 d1;generalize x.f.stamp=st at*;generalize x.f.node=nd at*;generalize x.f.gone=gn at*;have g0:=fun W hW=>hE W hW 0 _ d0
        have g1:=fun W hW=>hE W hW 1 _ d1
        have g2:=fun W hW=>hE W hW 2 _ d2
        have g3:=fun W hW=>hE W hW 3 _ d3
        have g4:=fun W hW=>hE W hW 4 _ d4
        have g5:=fun W hW=>hE W hW 5 _ d5
        have g6:=fun W hW=>hE W hW 6 _ d6
        have g7:=fun W hW=>hE W hW 7 _ d7
        have z0:=fun W hW=>hF W hW 0
        have z1:=fun W hW=>hF W hW 1
        have z2:=fun W hW=>hF W hW 2
        have z3:=fun W hW=>hF W hW 3
        have z4:=fun W hW=>hF W hW 4
        simp only[VZ,VX,WF,XL]at z0 z1 z2 z3 z4 g0;have HWA:=Ab hwA;have HBWA:=Ab hBwA;have HB4A:=Ab hB4A;clear hE hF hXA hBA hsA hs4 hsw hB4A hBwA hev hxin hnum hways hcr heo hcrl hmt hpl htx hnb hx hxm hy hym hyl hyf hxs hwA d0 d1 d2 d3 d4 d5 d6 d7 HN HI HRS HES HEL HLO HLL HLF HAL HED HB1 HB4;go_upto_region 19 with fail
        rw[Aa HWA];clear c0 c1 c2 c3 cc4 HWA;have hkI:(k:Int)<(n:Int):=by omega
        refine wp_region_held_drew (S:=fun W=>Below wA.heap.size wA W) (by kernel_rfl) (Af (Below.refl _ _) 1) (fun hHeld=> ?_);generalize wA.drew=wD at hHeld ⊢;refine wpAnyH_take (i:=0) (v:=.slice (some ⟨b2,o2,none⟩) n c5) rfl (by kernel_rfl) (by kernel_rfl) (by kernel_rfl) (fun _ _ _ h=>h) (Or.inl ⟨by rfl,fun W hS=>by go_simp⟩) hHeld ?_;simp only[Act.put,VA,VD,VE];refine wpAnyH_take (i:=1) (v:=.int .i64 (k:Int)) rfl (by kernel_rfl) (by kernel_rfl) (by kernel_rfl) (fun _ _ _ h=>h) (Or.inl ⟨by rfl,fun W hS=>by go_simp⟩) hHeld ?_;simp only[Act.put,VA,VD,VE];refine wpAnyH_take (i:=2) (v:=.pointer (some ⟨b2,o2+k*8,none⟩)) rfl (by kernel_rfl) (by kernel_rfl) (by kernel_rfl) (fun _ _ _ h=>h) (Or.inl ⟨by rfl,fun W hS=>by go_simp⟩) hHeld ?_;simp only[Act.put,VA,VD,VE];refine wpAnyH_take (i:=3) (v:=.pointer (some ⟨b2,o2+k*8,none⟩)) rfl (by kernel_rfl) (by kernel_rfl) (by kernel_rfl) (fun _ _ _ h=>h) (Or.inl ⟨by rfl,fun W hS=>by go_simp⟩) hHeld ?_;simp only[Act.put,VA,VD,VE];refine wpAnyH_take (i:=4) (v:=.agg #[.string tx,.slice y.fa nb y.fc,.int .i64 st,.int .i64 nd,.bool gn]) rfl (by kernel_rfl) (by kernel_rfl) (by kernel_rfl) (fun _ _ _ h=>h) (Or.inl ⟨by rfl,fun W hS=>by have y0:=g0 W hS;have y1:=g1 W hS;have y2:=g2 W hS;have y3:=g3 W hS;have y4:=g4 W hS;go_simp⟩) hHeld ?_;simp only[Act.put,VA,VD,VE];refine wpAnyH_take (i:=5) (v:=.agg #[.string tx,.slice x.a nb x.c,.int .i64 st,.int .i64 nd,.bool gn]) rfl (by kernel_rfl) (by kernel_rfl) (by kernel_rfl) (fun _ _ _ h=>h) (Or.inl ⟨by rfl,fun W hS=>by have y0:=z0 W hS;have y1:=z1 W hS;have y2:=z2 W hS;have y3:=z3 W hS;have y4:=z4 W hS;go_simp⟩) hHeld ?_;simp only[Act.put,VA,VD,VE];refine wpAnyH_ready (rs:= [6]) (by kernel_rfl) (by simp) (AllReadyH.cons rfl (fun K hK=> ?_) AllReadyH.nil);go_simp
        refine(Aa HSF _ hHeld).mono ?_;rintro e wE ⟨rfl,hbE⟩;have hN:=Jg hHeld hbE;dsimp only;refine hK.out _ _ hN (fun _=> ?_);clear hK K hHeld hbE;have hHeld:=hN;clear hN;refine wpAnyH_take (i:=7) (v:=.bool false) rfl (by kernel_rfl) (by kernel_rfl) (by kernel_rfl) (fun _ _ _ h=>h) (Or.inl ⟨by rfl,fun W hS=>by go_simp⟩) hHeld ?_;simp only[Act.put,VA,VD,VE];refine wpAnyH_take (i:=8) (v:=.bool false) rfl (by kernel_rfl) (by kernel_rfl) (by kernel_rfl) (fun _ _ _ h=>h) (Or.inl ⟨by rfl,fun W hS=>by go_simp⟩) hHeld ?_;simp only[Act.put,VA,VD,VE];refine wpAnyH_take (i:=9) (v:=.slice (some ⟨b2,o2,none⟩) n c5) rfl (by kernel_rfl) (by kernel_rfl) (by kernel_rfl) (fun _ _ _ h=>h) (Or.inl ⟨by kernel_rfl,fun W hS=>by go_simp⟩) hHeld ?_;simp only[Act.put,VA,VD,VE];refine wpAnyH_take (i:=10) (v:=.int .i64 (k:Int)) rfl (by kernel_rfl) (by kernel_rfl) (by kernel_rfl) (fun _ _ _ h=>h) (Or.inl ⟨by kernel_rfl,fun W hS=>by go_simp⟩) hHeld ?_;simp only[Act.put,VA,VD,VE];refine wpAnyH_take (i:=11) (v:=.pointer (some ⟨b2,o2+k*8,none⟩)) rfl (by kernel_rfl) (by kernel_rfl) (by kernel_rfl) (fun _ _ _ h=>h) (Or.inl ⟨by kernel_rfl,fun W hS=>by go_simp⟩) hHeld ?_;simp only[Act.put,VA,VD,VE];refine wpAnyH_take (i:=12) (v:=.pointer (some ⟨b2,o2+k*8+7,none⟩)) rfl (by kernel_rfl) (by kernel_rfl) (by kernel_rfl) (fun _ _ _ h=>h) (Or.inl ⟨by kernel_rfl,fun W hS=>by go_simp⟩) hHeld ?_;simp only[Act.put,VA,VD,VE];refine wpAnyH_take (i:=13) (v:=.int .u32 (cr:Int)) rfl (by kernel_rfl) (by kernel_rfl) (by kernel_rfl) (fun _ _ _ h=>h) (Or.inl ⟨by kernel_rfl,fun W hS=>by have y7:=g7 W hS;go_simp⟩) hHeld ?_;simp only[Act.put,VA,VD,VE];refine wpAnyH_take (i:=14) (v:=.pointer (some ⟨wr.heap.size,1,none⟩)) rfl (by kernel_rfl) (by kernel_rfl) (by kernel_rfl) (fun _ _ _ h=>h) (Or.inl ⟨by kernel_rfl,fun W hS=>by go_simp⟩) hHeld ?_;simp only[Act.put,VA,VD,VE];refine wpAnyH_take (i:=15) (v:=.slice x.a nb x.c) rfl (by kernel_rfl) (by kernel_rfl) (by kernel_rfl) (fun _ _ _ h=>h) (Or.inl ⟨by kernel_rfl,fun W hS=>by have y1:=z1 W hS;go_simp⟩) hHeld ?_;simp only[Act.put,VA,VD,VE];refine wpAnyH_ready (rs:= [16]) (by kernel_rfl) (by simp) (AllReadyH.cons rfl (fun K hK=> ?_) AllReadyH.nil);rw[if_pos (by kernel_rfl)];go_simp
        refine(Aa HCR _ hHeld).mono ?_;rintro e wF ⟨rfl,hwF⟩;obtain rfl:wE=wF:=hwF.symm;dsimp only;refine hK.out _ _ hHeld (fun _=> ?_);clear hK K;refine wpAnyH_take (i:=17) (v:=.bool false) rfl (by kernel_rfl) (by kernel_rfl) (by kernel_rfl) (fun _ _ _ h=>h) (Or.inl ⟨by kernel_rfl,fun W hS=>by go_simp⟩) hHeld ?_;simp only[Act.put,VA,VD,VE];refine wpAnyH_take (i:=18) (v:=.bool false) rfl (by kernel_rfl) (by kernel_rfl) (by kernel_rfl) (fun _ _ _ h=>h) (Or.inl ⟨by rfl,fun W hS=>by go_simp⟩) hHeld ?_;simp only[Act.put,VA,VD,VE];refine wpAnyH_take (i:=19) (v:=.bool false) rfl (by kernel_rfl) (by kernel_rfl) (by kernel_rfl) (fun _ _ _ h=>h) (Or.inl ⟨by rfl,fun W hS=>by go_simp⟩) hHeld ?_;simp only[Act.put,VA,VD,VE];refine wpAnyH_take (i:=20) (v:=.slice (some ⟨b2,o2,none⟩) n c5) rfl (by kernel_rfl) (by kernel_rfl) (by kernel_rfl) (fun _ _ _ h=>h) (Or.inl ⟨by kernel_rfl,fun W hS=>by go_simp⟩) hHeld ?_;simp only[Act.put,VA,VD,VE];refine wpAnyH_take (i:=21) (v:=.int .i64 (k:Int)) rfl (by kernel_rfl) (by kernel_rfl) (by kernel_rfl) (fun _ _ _ h=>h) (Or.inl ⟨by kernel_rfl,fun W hS=>by go_simp⟩) hHeld ?_;simp only[Act.put,VA,VD,VE];refine wpAnyH_take (i:=22) (v:=.pointer (some ⟨b2,o2+k*8,none⟩)) rfl (by kernel_rfl) (by kernel_rfl) (by kernel_rfl) (fun _ _ _ h=>h) (Or.inl ⟨by kernel_rfl,fun W hS=>by go_simp⟩) hHeld ?_;simp only[Act.put,VA,VD,VE];refine wpAnyH_take (i:=23) (v:=.pointer (some ⟨b2,o2+k*8+5,none⟩)) rfl (by kernel_rfl) (by kernel_rfl) (by kernel_rfl) (fun _ _ _ h=>h) (Or.inl ⟨by kernel_rfl,fun W hS=>by go_simp⟩) hHeld ?_;simp only[Act.put,VA,VD,VE];refine wpAnyH_take (i:=24) (v:=.int .i64 (mt:Int)) rfl (by kernel_rfl) (by kernel_rfl) (by kernel_rfl) (fun _ _ _ h=>h) (Or.inl ⟨by kernel_rfl,fun W hS=>by have y5:=g5 W hS;go_simp⟩) hHeld ?_;simp only[Act.put,VA,VD,VE]
        rcases hwy with rfl|⟨rfl,hpn⟩
        . skip
          refine wpAnyH_take (i:=25) (v:=.bool true) rfl (by kernel_rfl) (by kernel_rfl) (by kernel_rfl) (fun _ _ _ h=>h) (Or.inl ⟨by kernel_rfl,fun W hS=>by go_simp⟩) hHeld ?_;simp only[Act.put,VA,VD,VE];refine wpAnyH_take (i:=26) (v:=.bool true) rfl (by kernel_rfl) (by kernel_rfl) (by kernel_rfl) (fun _ _ _ h=>h) (Or.inl ⟨by kernel_rfl,fun W hS=>by go_simp⟩) hHeld ?_;simp only[Act.put,VA,VD,VE];refine wpAnyH_take (i:=27) (v:=.slice (some ⟨b2,o2,none⟩) n c5) rfl (by kernel_rfl) (by kernel_rfl) (by kernel_rfl) (fun _ _ _ h=>h) (Or.inl ⟨by kernel_rfl,fun W hS=>by go_simp⟩) hHeld ?_;simp only[Act.put,VA,VD,VE];refine wpAnyH_take (i:=28) (v:=.int .i64 (k:Int)) rfl (by kernel_rfl) (by kernel_rfl) (by kernel_rfl) (fun _ _ _ h=>h) (Or.inl ⟨by kernel_rfl,fun W hS=>by go_simp⟩) hHeld ?_;simp only[Act.put,VA,VD,VE];refine wpAnyH_take (i:=29) (v:=.pointer (some ⟨b2,o2+k*8,none⟩)) rfl (by kernel_rfl) (by kernel_rfl) (by kernel_rfl) (fun _ _ _ h=>h) (Or.inl ⟨by kernel_rfl,fun W hS=>by go_simp⟩) hHeld ?_;simp only[Act.put,VA,VD,VE];refine wpAnyH_take (i:=30) (v:=.pointer (some ⟨b2,o2+k*8+6,none⟩)) rfl (by kernel_rfl) (by kernel_rfl) (by kernel_rfl) (fun _ _ _ h=>h) (Or.inl ⟨by kernel_rfl,fun W hS=>by go_simp⟩) hHeld ?_;simp only[Act.put,VA,VD,VE];refine wpAnyH_take (i:=31) (v:=.slice y.pa pl y.pc) rfl (by kernel_rfl) (by kernel_rfl) (by kernel_rfl) (fun _ _ _ h=>h) (Or.inl ⟨by kernel_rfl,fun W hS=>by have y6:=g6 W hS;go_simp⟩) hHeld ?_;simp only[Act.put,VA,VD,VE];refine wpAnyH_take (i:=32) (v:=.pointer (some ⟨wr.heap.size,1,none⟩)) rfl (by kernel_rfl) (by kernel_rfl) (by kernel_rfl) (fun _ _ _ h=>h) (Or.inl ⟨by kernel_rfl,fun W hS=>by go_simp⟩) hHeld ?_;simp only[Act.put,VA,VD,VE];refine wpAnyH_take (i:=33) (v:=.slice x.a nb x.c) rfl (by kernel_rfl) (by kernel_rfl) (by kernel_rfl) (fun _ _ _ h=>h) (Or.inl ⟨by kernel_rfl,fun W hS=>by have y1:=z1 W hS;go_simp⟩) hHeld ?_;simp only[Act.put,VA,VD,VE];refine wpAnyH_ready (rs:= [34]) (by kernel_rfl) (by simp) (AllReadyH.cons rfl (fun K hK=> ?_) AllReadyH.nil);rw[if_pos (by kernel_rfl)];go_simp
          refine(Aa HEQ rfl _ hHeld).mono ?_;rintro e wG ⟨rfl,hwG⟩;obtain rfl:wE=wG:=hwG.symm;dsimp only;refine hK.out _ _ hHeld (fun _=> ?_);clear hK K;refine wpAnyH_take (i:=35) (v:=.bool false) rfl (by kernel_rfl) (by kernel_rfl) (by kernel_rfl) (fun _ _ _ h=>h) (Or.inl ⟨by kernel_rfl,fun W hS=>by go_simp⟩) hHeld ?_;simp only[Act.put,VA,VD,VE];refine wpAnyH_take (i:=36) (v:=.bool false) rfl (by kernel_rfl) (by kernel_rfl) (by kernel_rfl) (fun _ _ _ h=>h) (Or.inl ⟨by kernel_rfl,fun W hS=>by go_simp⟩) hHeld ?_;simp only[Act.put,VA,VD,VE];refine wpAnyH_take (i:=37) (v:=.bool false) rfl (by kernel_rfl) (by kernel_rfl) (by kernel_rfl) (fun _ _ _ h=>h) (Or.inl ⟨by rfl,fun W hS=>by go_simp⟩) hHeld ?_;simp only[Act.put,VA,VD,VE];refine wpAnyH_take (i:=38) (v:=.bool false) rfl (by kernel_rfl) (by kernel_rfl) (by kernel_rfl) (fun _ _ _ h=>h) (Or.inl ⟨by rfl,fun W hS=>by go_simp⟩) hHeld ?_;simp only[Act.put,VA,VD,VE];refine wpAnyH_take (i:=39) (v:=.slice (some ⟨b2,o2,none⟩) n c5) rfl (by kernel_rfl) (by kernel_rfl) (by kernel_rfl) (fun _ _ _ h=>h) (Or.inl ⟨by kernel_rfl,fun W hS=>by go_simp⟩) hHeld ?_;simp only[Act.put,VA,VD,VE];refine wpAnyH_take (i:=40) (v:=.int .i64 (k:Int)) rfl (by kernel_rfl) (by kernel_rfl) (by kernel_rfl) (fun _ _ _ h=>h) (Or.inl ⟨by kernel_rfl,fun W hS=>by go_simp⟩) hHeld ?_;simp only[Act.put,VA,VD,VE];refine wpAnyH_take (i:=41) (v:=.pointer (some ⟨b2,o2+k*8,none⟩)) rfl (by kernel_rfl) (by kernel_rfl) (by kernel_rfl) (fun _ _ _ h=>h) (Or.inl ⟨by kernel_rfl,fun W hS=>by go_simp⟩) hHeld ?_;simp only[Act.put,VA,VD,VE];refine wpAnyH_take (i:=42) (v:=.pointer (some ⟨b2,o2+k*8+5,none⟩)) rfl (by kernel_rfl) (by kernel_rfl) (by kernel_rfl) (fun _ _ _ h=>h) (Or.inl ⟨by kernel_rfl,fun W hS=>by go_simp⟩) hHeld ?_;simp only[Act.put,VA,VD,VE];refine wpAnyH_take (i:=43) (v:=.int .i64 0) rfl (by kernel_rfl) (by kernel_rfl) (by kernel_rfl) (fun _ _ _ h=>h) (Or.inl ⟨by kernel_rfl,fun W hS=>by have y5:W.cell? ⟨b2,o2+k*8+5,none⟩=some (.int .i64 0):=g5 W hS;go_simp⟩) hHeld ?_;simp only[Act.put,VA,VD,VE];refine wpAnyH_take (i:=44) (v:=.bool false) rfl (by kernel_rfl) (by kernel_rfl) (by kernel_rfl) (fun _ _ _ h=>h) (Or.inl ⟨by kernel_rfl,fun W hS=>by go_simp⟩) hHeld ?_;simp only[Act.put,VA,VD,VE];refine wpAnyH_take (i:=45) (v:=.bool false) rfl (by kernel_rfl) (by kernel_rfl) (by kernel_rfl) (fun _ _ _ h=>h) (Or.inl ⟨by kernel_rfl,fun W hS=>by go_simp⟩) hHeld ?_;simp only[Act.put,VA,VD,VE];refine wpAnyH_take (i:=46) (v:=undef) rfl (by kernel_rfl) (by kernel_rfl) (by kernel_rfl) (fun _ _ _ h=>h) (Or.inr ⟨by kernel_rfl,rfl⟩) hHeld ?_;simp only[Act.put,VA,VD,VE];refine wpAnyH_take (i:=47) (v:=undef) rfl (by kernel_rfl) (by kernel_rfl) (by kernel_rfl) (fun _ _ _ h=>h) (Or.inr ⟨by kernel_rfl,rfl⟩) hHeld ?_;simp only[Act.put,VA,VD,VE];refine wpAnyH_take (i:=48) (v:=undef) rfl (by kernel_rfl) (by kernel_rfl) (by kernel_rfl) (fun _ _ _ h=>h) (Or.inr ⟨by kernel_rfl,rfl⟩) hHeld ?_;simp only[Act.put,VA,VD,VE];refine wpAnyH_take (i:=49) (v:=undef) rfl (by kernel_rfl) (by kernel_rfl) (by kernel_rfl) (fun _ _ _ h=>h) (Or.inr ⟨by kernel_rfl,rfl⟩) hHeld ?_
          simp only[Act.put,VA,VD,VE];refine wpAnyH_take (i:=50) (v:=undef) rfl (by kernel_rfl) (by kernel_rfl) (by kernel_rfl) (fun _ _ _ h=>h) (Or.inr ⟨by kernel_rfl,rfl⟩) hHeld ?_;simp only[Act.put,VA,VD,VE];refine wpAnyH_take (i:=51) (v:=undef) rfl (by kernel_rfl) (by kernel_rfl) (by kernel_rfl) (fun _ _ _ h=>h) (Or.inr ⟨by kernel_rfl,rfl⟩) hHeld ?_;simp only[Act.put,VA,VD,VE];refine wpAnyH_take (i:=52) (v:=undef) rfl (by kernel_rfl) (by kernel_rfl) (by kernel_rfl) (fun _ _ _ h=>h) (Or.inr ⟨by kernel_rfl,rfl⟩) hHeld ?_;simp only[Act.put,VA,VD,VE];refine wpAnyH_take (i:=53) (v:=undef) rfl (by kernel_rfl) (by kernel_rfl) (by kernel_rfl) (fun _ _ _ h=>h) (Or.inr ⟨by kernel_rfl,rfl⟩) hHeld ?_;simp only[Act.put,VA,VD,VE];refine wpAnyH_take (i:=54) (v:=undef) rfl (by kernel_rfl) (by kernel_rfl) (by kernel_rfl) (fun _ _ _ h=>h) (Or.inr ⟨by kernel_rfl,rfl⟩) hHeld ?_;simp only[Act.put,VA,VD,VE];refine wpAnyH_take (i:=55) (v:=undef) rfl (by kernel_rfl) (by kernel_rfl) (by kernel_rfl) (fun _ _ _ h=>h) (Or.inr ⟨by kernel_rfl,rfl⟩) hHeld ?_;simp only[Act.put,VA,VD,VE];refine wpAnyH_ready (rs:= [56]) (by kernel_rfl) (by simp) (AllReadyH.cons rfl (fun K hK=> ?_) AllReadyH.nil);rw[if_pos (by kernel_rfl)];go_simp
          refine hK.out _ _ hHeld (fun _=> ?_);clear hK K;refine wpAnyH_ready (rs:= [57]) (by kernel_rfl) (by simp) (AllReadyH.cons rfl (fun K hK=> ?_) AllReadyH.nil);go_simp
          refine hK.out _ _ hHeld (fun _=> ?_);clear hK K;refine wpAnyH_done (by kernel_rfl) ?_ _;have HZ1:=Ab (Jg (Aa HBWA) hHeld);have HZ2:=Ab (Jg (Aa HB4A) hHeld);clear g0 g1 g2 g3 g4 g5 g6 g7 z0 z1 z2 z3 z4 HSF HCR HEQ hHeld;go_wp2;go_roundw
          case rel=>exact⟨k+1,by omega,by go_num,HZ1,HZ2⟩
          case measure=>simp[intOf];omega
        . skip
          refine wpAnyH_take (i:=25) (v:=.bool false) rfl (by kernel_rfl) (by kernel_rfl) (by kernel_rfl) (fun _ _ _ h=>h) (Or.inl ⟨by kernel_rfl,fun W hS=>by go_simp⟩) hHeld ?_;simp only[Act.put,VA,VD,VE];refine wpAnyH_take (i:=26) (v:=.bool false) rfl (by kernel_rfl) (by kernel_rfl) (by kernel_rfl) (fun _ _ _ h=>h) (Or.inl ⟨by kernel_rfl,fun W hS=>by go_simp⟩) hHeld ?_;simp only[Act.put,VA,VD,VE];refine wpAnyH_take (i:=27) (v:=undef) rfl (by kernel_rfl) (by kernel_rfl) (by kernel_rfl) (fun _ _ _ h=>h) (Or.inr ⟨by kernel_rfl,rfl⟩) hHeld ?_;simp only[Act.put,VA,VD,VE];refine wpAnyH_take (i:=28) (v:=undef) rfl (by kernel_rfl) (by kernel_rfl) (by kernel_rfl) (fun _ _ _ h=>h) (Or.inr ⟨by kernel_rfl,rfl⟩) hHeld ?_;simp only[Act.put,VA,VD,VE];refine wpAnyH_take (i:=29) (v:=undef) rfl (by kernel_rfl) (by kernel_rfl) (by kernel_rfl) (fun _ _ _ h=>h) (Or.inr ⟨by kernel_rfl,rfl⟩) hHeld ?_;simp only[Act.put,VA,VD,VE];refine wpAnyH_take (i:=30) (v:=undef) rfl (by kernel_rfl) (by kernel_rfl) (by kernel_rfl) (fun _ _ _ h=>h) (Or.inr ⟨by kernel_rfl,rfl⟩) hHeld ?_;simp only[Act.put,VA,VD,VE];refine wpAnyH_take (i:=31) (v:=undef) rfl (by kernel_rfl) (by kernel_rfl) (by kernel_rfl) (fun _ _ _ h=>h) (Or.inr ⟨by kernel_rfl,rfl⟩) hHeld ?_;simp only[Act.put,VA,VD,VE];refine wpAnyH_take (i:=32) (v:=undef) rfl (by kernel_rfl) (by kernel_rfl) (by kernel_rfl) (fun _ _ _ h=>h) (Or.inr ⟨by kernel_rfl,rfl⟩) hHeld ?_;simp only[Act.put,VA,VD,VE];refine wpAnyH_take (i:=33) (v:=undef) rfl (by kernel_rfl) (by kernel_rfl) (by kernel_rfl) (fun _ _ _ h=>h) (Or.inr ⟨by kernel_rfl,rfl⟩) hHeld ?_;simp only[Act.put,VA,VD,VE];refine wpAnyH_take (i:=34) (v:=undef) rfl (by kernel_rfl) (by kernel_rfl) (by kernel_rfl) (fun _ _ _ h=>h) (Or.inr ⟨by kernel_rfl,rfl⟩) hHeld ?_;simp only[Act.put,VA,VD,VE];refine wpAnyH_take (i:=35) (v:=undef) rfl (by kernel_rfl) (by kernel_rfl) (by kernel_rfl) (fun _ _ _ h=>h) (Or.inr ⟨by kernel_rfl,rfl⟩) hHeld ?_;simp only[Act.put,VA,VD,VE];refine wpAnyH_take (i:=36) (v:=.bool false) rfl (by kernel_rfl) (by kernel_rfl) (by kernel_rfl) (fun _ _ _ h=>h) (Or.inl ⟨by kernel_rfl,fun W hS=>by go_simp⟩) hHeld ?_;simp only[Act.put,VA,VD,VE];refine wpAnyH_take (i:=37) (v:=.bool false) rfl (by kernel_rfl) (by kernel_rfl) (by kernel_rfl) (fun _ _ _ h=>h) (Or.inl ⟨by rfl,fun W hS=>by go_simp⟩) hHeld ?_;simp only[Act.put,VA,VD,VE];refine wpAnyH_take (i:=38) (v:=.bool false) rfl (by kernel_rfl) (by kernel_rfl) (by kernel_rfl) (fun _ _ _ h=>h) (Or.inl ⟨by rfl,fun W hS=>by go_simp⟩) hHeld ?_;simp only[Act.put,VA,VD,VE];refine wpAnyH_take (i:=39) (v:=.slice (some ⟨b2,o2,none⟩) n c5) rfl (by kernel_rfl) (by kernel_rfl) (by kernel_rfl) (fun _ _ _ h=>h) (Or.inl ⟨by kernel_rfl,fun W hS=>by go_simp⟩) hHeld ?_;simp only[Act.put,VA,VD,VE];refine wpAnyH_take (i:=40) (v:=.int .i64 (k:Int)) rfl (by kernel_rfl) (by kernel_rfl) (by kernel_rfl) (fun _ _ _ h=>h) (Or.inl ⟨by kernel_rfl,fun W hS=>by go_simp⟩) hHeld ?_;simp only[Act.put,VA,VD,VE];refine wpAnyH_take (i:=41) (v:=.pointer (some ⟨b2,o2+k*8,none⟩)) rfl (by kernel_rfl) (by kernel_rfl) (by kernel_rfl) (fun _ _ _ h=>h) (Or.inl ⟨by kernel_rfl,fun W hS=>by go_simp⟩) hHeld ?_
          simp only[Act.put,VA,VD,VE];refine wpAnyH_take (i:=42) (v:=.pointer (some ⟨b2,o2+k*8+5,none⟩)) rfl (by kernel_rfl) (by kernel_rfl) (by kernel_rfl) (fun _ _ _ h=>h) (Or.inl ⟨by kernel_rfl,fun W hS=>by go_simp⟩) hHeld ?_;simp only[Act.put,VA,VD,VE];refine wpAnyH_take (i:=43) (v:=.int .i64 8) rfl (by kernel_rfl) (by kernel_rfl) (by kernel_rfl) (fun _ _ _ h=>h) (Or.inl ⟨by kernel_rfl,fun W hS=>by have y5:W.cell? ⟨b2,o2+k*8+5,none⟩=some (.int .i64 8):=g5 W hS;go_simp⟩) hHeld ?_;simp only[Act.put,VA,VD,VE];refine wpAnyH_take (i:=44) (v:=.bool true) rfl (by kernel_rfl) (by kernel_rfl) (by kernel_rfl) (fun _ _ _ h=>h) (Or.inl ⟨by kernel_rfl,fun W hS=>by go_simp⟩) hHeld ?_;simp only[Act.put,VA,VD,VE];refine wpAnyH_take (i:=45) (v:=.bool true) rfl (by kernel_rfl) (by kernel_rfl) (by kernel_rfl) (fun _ _ _ h=>h) (Or.inl ⟨by kernel_rfl,fun W hS=>by go_simp⟩) hHeld ?_;simp only[Act.put,VA,VD,VE];refine wpAnyH_take (i:=46) (v:=.slice (some ⟨b2,o2,none⟩) n c5) rfl (by kernel_rfl) (by kernel_rfl) (by kernel_rfl) (fun _ _ _ h=>h) (Or.inl ⟨by kernel_rfl,fun W hS=>by go_simp⟩) hHeld ?_;simp only[Act.put,VA,VD,VE];refine wpAnyH_take (i:=47) (v:=.int .i64 (k:Int)) rfl (by kernel_rfl) (by kernel_rfl) (by kernel_rfl) (fun _ _ _ h=>h) (Or.inl ⟨by kernel_rfl,fun W hS=>by go_simp⟩) hHeld ?_;simp only[Act.put,VA,VD,VE];refine wpAnyH_take (i:=48) (v:=.pointer (some ⟨b2,o2+k*8,none⟩)) rfl (by kernel_rfl) (by kernel_rfl) (by kernel_rfl) (fun _ _ _ h=>h) (Or.inl ⟨by kernel_rfl,fun W hS=>by go_simp⟩) hHeld ?_;simp only[Act.put,VA,VD,VE];refine wpAnyH_take (i:=49) (v:=.pointer (some ⟨b2,o2+k*8+6,none⟩)) rfl (by kernel_rfl) (by kernel_rfl) (by kernel_rfl) (fun _ _ _ h=>h) (Or.inl ⟨by kernel_rfl,fun W hS=>by go_simp⟩) hHeld ?_;simp only[Act.put,VA,VD,VE];refine wpAnyH_take (i:=50) (v:=.slice y.pa pl y.pc) rfl (by kernel_rfl) (by kernel_rfl) (by kernel_rfl) (fun _ _ _ h=>h) (Or.inl ⟨by kernel_rfl,fun W hS=>by have y6:=g6 W hS;go_simp⟩) hHeld ?_;simp only[Act.put,VA,VD,VE];refine wpAnyH_take (i:=51) (v:=.int .i64 (pl:Int)) rfl (by kernel_rfl) (by kernel_rfl) (by kernel_rfl) (fun _ _ _ h=>h) (Or.inl ⟨by kernel_rfl,fun W hS=>by go_simp⟩) hHeld ?_;simp only[Act.put,VA,VD,VE];refine wpAnyH_take (i:=52) (v:=.pointer (some ⟨wr.heap.size,1,none⟩)) rfl (by kernel_rfl) (by kernel_rfl) (by kernel_rfl) (fun _ _ _ h=>h) (Or.inl ⟨by kernel_rfl,fun W hS=>by go_simp⟩) hHeld ?_;simp only[Act.put,VA,VD,VE];refine wpAnyH_take (i:=53) (v:=.slice x.a nb x.c) rfl (by kernel_rfl) (by kernel_rfl) (by kernel_rfl) (fun _ _ _ h=>h) (Or.inl ⟨by kernel_rfl,fun W hS=>by have y1:=z1 W hS;go_simp⟩) hHeld ?_;simp only[Act.put,VA,VD,VE];refine wpAnyH_take (i:=54) (v:=.int .i64 (nb:Int)) rfl (by kernel_rfl) (by kernel_rfl) (by kernel_rfl) (fun _ _ _ h=>h) (Or.inl ⟨by kernel_rfl,fun W hS=>by go_simp⟩) hHeld ?_;simp only[Act.put,VA,VD,VE];refine wpAnyH_take (i:=55) (v:=.bool false) rfl (by kernel_rfl) (by kernel_rfl) (by kernel_rfl) (fun _ _ _ h=>h) (Or.inl ⟨by kernel_rfl,fun W hS=>by have hpnI:¬(nb:Int)<=(pl:Int):=(by omega);go_simp⟩) hHeld ?_
          simp only[Act.put,VA,VD,VE];refine wpAnyH_ready (rs:= [56]) (by kernel_rfl) (by simp) (AllReadyH.cons rfl (fun K hK=> ?_) AllReadyH.nil);rw[if_pos (by kernel_rfl)];go_simp
          refine hK.out _ _ hHeld (fun _=> ?_);clear hK K;refine wpAnyH_ready (rs:= [57]) (by kernel_rfl) (by simp) (AllReadyH.cons rfl (fun K hK=> ?_) AllReadyH.nil);go_simp
          refine hK.out _ _ hHeld (fun _=> ?_);clear hK K;refine wpAnyH_done (by kernel_rfl) ?_ _;have HZ1:=Ab (Jg (Aa HBWA) hHeld);have HZ2:=Ab (Jg (Aa HB4A) hHeld);clear g0 g1 g2 g3 g4 g5 g6 g7 z0 z1 z2 z3 z4 HSF HCR HEQ hHeld;go_wp2;go_roundw
          case rel=>exact⟨k+1,by omega,by go_num,HZ1,HZ2⟩
          case measure=>simp[intOf];omega
      . obtain rfl:n=k:=by omega
        go_wp2;go_ret;exact⟨rfl,Aa HB⟩
end Go.Proofs.YtleocpdblhbimaaGreatDoor
