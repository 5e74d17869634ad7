import Derived.Test.YtieianhejdcgdaaGreatDoorQ27
import Derived.OwnWalk
import Derived.Maps.GroupsBeside
import Derived.WideKeyPair
import Derived.WideKeyEntry
set_option maxHeartbeats 4000000
namespace Go.Proofs.YtieianhejdcgdaaGreatDoor
set_option linter.unusedVariables false
set_option maxRecDepth 100000
theorem Mb:Jw.length=257:=by decide
theorem Ru:Om.length=1:=rfl
theorem FL:Good Jw:=Ci (by decide+kernel)
theorem FK:Good Om:=Ci (by decide+kernel)
theorem Xl:(List.range 257).all (fun k=>decide (0<Jw.getD k 0))=true:=by decide+kernel
theorem I7 {k:Nat}(h:k<257):0<Jw.getD k 0:=by
 have:=WS.1 Xl k (by simpa using h)
 exact of_decide_eq_true this
theorem Ja (bs:List Nat):(Dq bs).length=bs.length:=by simp[Dq]
theorem Xk {bs:List Nat}(hb:∀j,bs.getD j 0<256):∀t∈Dq bs,VT t:=by
 intro t ht;unfold Dq at ht;obtain⟨b,h1,rfl⟩:=WY.1 ht;obtain⟨j,hj,rfl⟩:=XC h1;refine⟨?_,.inl rfl⟩;have:=hb j
 simpa[List.getD,hj]using this
theorem I6 (bs:List Nat):itsOf (Dq bs)=bs.map (fun b=>It.sym b)++ [.sym 256]:=by
 unfold itsOf Oj Dq
 congr 1
 induction bs with
 |nil=>rfl
 |cons b bs ih=>
  rw[WG,WG,XU,ih];rfl
theorem Pk {bs:List Nat}(hb:∀j,bs.getD j 0<256):Dyn (Dq bs) Jw Om:=by
 refine⟨FL,FK,by rw[Mb];decide,by rw[Mb];decide,by rw[Ru];decide,by rw[Ru];decide,⟨fun k hk=> ?_,fun k hk=> ?_⟩,I7 (by decide)⟩
 . rw[I6]at hk
   have h:k<257:=by
    rcases VZ.1 hk with h|h
    . obtain⟨b,h1,h2⟩:=WY.1 h
      cases h2
      obtain⟨j,hj,rfl⟩:=XC h1;have:=hb j
      simp[List.getD,hj]at this
      omega
    . simp at h;omega
   exact⟨by rw[Mb];exact h,I7 h⟩
 . rw[I6]at hk
   rcases VZ.1 hk with h|h
   . obtain⟨b,h1,h2⟩:=WY.1 h
     cases h2
   . simp at h
theorem Wp (own:List Int):∀n,Wq own n<=n
 |0=>VC _
 |n+1=>by
  rw[Wq];have:=Wp own n
  split<;>omega
theorem R8 (own:List Int):∀n,4<=n->4<=Wq own n
 |0,h=>h
 |n+1,h=>by
  rw[Wq]
  by_cases e:4<n+1/\own.getD (ord19.getD n 0) 0=0
  . rw[if_pos e];exact R8 own n (by omega)
  . rw[if_neg e];exact h
theorem Oz (own:List Int):∀ks:List Nat,(ks.flatMap (fun k=>Ah (own.getD k 0).toNat 3)).length=3*ks.length
 | []=>rfl
 |k::ks=>by
  rw[XU,VB,Ae,Oz own ks,VH];omega
theorem E9 {a b own:List Int}(h:Own (a++b) own):(Jv a b own).length<=71+7*(a.length+b.length):=by
 have h1:=Lo own h.go (fun k=>(h.vo k).2) (a++b).length (a++b);have h2:=Wp own 19;unfold Jv;rw[VB,VB,VB,VB,Ae,Ae,Ae,Oz];have h3:(putRs own (lenIs (a++b))).length<=7*(a++b).length:=h1.1;rw[VB]at h3;have h4:(ord19.take (Wq own 19)).length<=19:=by rw[VL];omega
 omega
theorem LX:∀(f:Nat) (l:List Int),l.length<=f->Oi f l=lenIs l:=by
 intro f
 induction f using Nat.strongRecOn with
 |ind f ih=>
  intro l hl
  cases l with
  |nil=>cases f<;>rfl
  |cons x r=>
   obtain⟨f',rfl⟩:∃f',f=f'+1:=⟨f-1,by simp at hl;omega⟩
   have hh:=Pf x r;have hl':r.length<=f':=by simp at hl;omega
   have hd:(r.drop (Bm x r)).length<=f':=by rw[VO];omega
   have e1:Oi (f'+1) (x::r)=Mm x.toNat (Bm x r+1)++Oi f' (r.drop (Bm x r)):=rfl;have e2:lenIs (x::r)=Mm x.toNat (Bm x r+1)++Oi r.length (r.drop (Bm x r)):=rfl;rw[e1,e2,ih f' (by omega) _ hd]
   by_cases e:r.length=f'
   . rw[e,ih f' (by omega) _ hd]
   . rw[ih r.length (by omega) _ (by rw[VO];omega)]
theorem Uk (x:Int)(r:List Int):lenIs (x::r)=Mm x.toNat (Bm x r+1)++lenIs (r.drop (Bm x r)):=by
 have e2:lenIs (x::r)=Mm x.toNat (Bm x r+1)++Oi r.length (r.drop (Bm x r)):=rfl;rw[e2,LX _ _ (by rw[VO];omega)]
theorem Xo {r:List Int}{k:Nat}(hk:k<r.length):r.drop k=r.getD k 0::r.drop (k+1):=by
 rw[XD hk];simp[List.getD,hk]
theorem FC {x:Int}:∀(r:List Int) (k:Nat),k<r.length->r.getD k 0=x->Bm x r=k+Bm x (r.drop k)->Bm x r=(k+1)+Bm x (r.drop (k+1)):=by
 intro r k hk hx h;rw[h,Xo hk,Bm,if_pos hx];omega
theorem EZ {x:Int}(r:List Int)(k:Nat)(hk:k<r.length)(hx:r.getD k 0≠x)(h:Bm x r=k+Bm x (r.drop k)):Bm x r=k:=by
 rw[h,Xo hk,Bm,if_neg hx];omega
theorem ND {x:Int}(r:List Int)(k:Nat)(hk:r.length<=k)(h:Bm x r=k+Bm x (r.drop k)):Bm x r=k:=by
 rw[h,XY hk,Bm];omega
end Go.Proofs.YtieianhejdcgdaaGreatDoor
namespace Go.Proofs.YtieianhejdcgdaaGreatDoor
open Go.RowKit
set_option linter.unusedVariables false
set_option maxRecDepth 100000
def Z6i:Value->Nat
 | .slice _ n _=>n
 |_=>0
theorem OG (w:World)(a b:Nat):(w.drewN a).drewN b=w.drewN (a+b):=by simp
theorem Ip (J:List (Nat×Nat×Nat)->World->Prop)(Ki:World->World->Prop)(kf:Nat)(cf:Array Value)(b o len cap:Nat)(l:List Int)(w:World)(hK:Snk3 J Ki kf cf (lenIs l))(hl:l.length=len)(hlen:len<=1000)(hcap:len<=cap)(hx:∀x∈l,0<=x/\x<=15)(hrow:∀W,Ki w W->Row .i64 W b o l)(hJ:J [] w):
 Calls Tryz.prog 251 #[.slice (some ⟨b,o,none⟩) len cap,.func (.func kf) #[] cf] w fun e w'=>e=.returned (.tuple #[])/\J (lenIs l) w'/\Ki w w':=by
 have HK:=Ab hK;have HROW:=Ab hrow;have HX:=Ab hx;have HL:=Ab hl;have HJ:=Ab hJ;clear hK hrow hx hl hJ;go_enter Tryz.func251,Tryz.ntmps251
 go_wp2_with fail
 go_loopw [0] (fun v wr=>∃i n c:Nat,i+n=len/\n<=c/\(∃a,v=.slice a n c/\(0<n->a=some ⟨b,o+i,none⟩))/\Hid (∃IS,J IS wr/\Ki w wr/\IS++lenIs (l.drop i)=lenIs l)) (fun v _=>Z6i v)
 case atStart=>exact⟨0,len,cap,by omega,hcap,⟨some ⟨b,o,none⟩,rfl,fun _=>rfl⟩,Ab ⟨[],Aa HJ,(Aa HK).refl _,rfl⟩⟩
 case round=>
  obtain⟨i,n,c,hi,hnc,⟨a,rfl,ha⟩,hst⟩:=hrel
  by_cases hlt:0<n
  . obtain rfl:=ha hlt;obtain⟨IS,hJ,hKi,hIS⟩:=Aa hst;have hR:=Aa HROW wr hKi;have hil:i<l.length:=by rw[Aa HL];omega
    have hd:=Xo hil;obtain⟨x,hxx⟩:=WD (show 0<=l.getD i 0 from (Aa HX _ (by simp[List.getD,hil])).1)
    have hx15:x<=15:=by
     have:=(Aa HX (l.getD i 0) (by simp[List.getD,hil])).2
     omega
    rw[hxx]at hd;obtain⟨r,hr⟩:∃r,l.drop (i+1)=r:=⟨_,rfl⟩
    rw[hr]at hd;have hrl:r.length=n-1:=by rw[<-hr,VO,Aa HL];omega
    have hc0:wr.cell? ⟨b,o+i,none⟩=some (.int .i64 (x:Int)):=by
     have:=hR i hil
     rw[hxx]at this;exact this
    have hcells:∀k:Nat,1<=k->k<n->wr.cell? ⟨b,o+i+k,none⟩=some (.int .i64 (r.getD (k-1) 0)):=by
     intro k hk1 hk;have h1:=hR (i+k) (by rw[Aa HL];omega)
     have h2:r.getD (k-1) 0=l.getD (i+k) 0:=by
      rw[<-hr];simp only[List.getD,XP]
      congr 2
      omega
     rw[h2,WJ];exact h1
    have HC:=Ab hcells;have HD:=Ab hd;have HS:=Ab (And.intro hJ (And.intro hKi hIS));have HRL:=Ab hrl;have HR:=Ab hr;have hnI:(0:Int)<(n:Int):=by omega
    clear hst hJ hKi hIS hR hd hcells hrl hr hxx ha hil;generalize wr=wl at*;go_wp2;go_loopw [4] (fun v W=>∃k q:Nat,Hid (W=wl.drewN q)/\1<=k/\k<=n/\v=.int .i64 (k:Int)/\Hid (Bm x r=(k-1)+Bm x (r.drop (k-1)))) (fun v _=>n-(intOf v).toNat)
    case atStart=>exact⟨1,0,Ab rfl,VC _,by omega,rfl,Ab (by simp)⟩
    case round=>
     obtain⟨k,q,HW,hk1,hkn,rfl,hh⟩:=hrel;have hc0':wr.cell? ⟨b,o+i,none⟩=some (.int .i64 (x:Int)):=by rw[Aa HW];exact hc0
     by_cases hk:k<n
     . have c1:wr.cell? ⟨b,o+i+k,none⟩=some (.int .i64 (r.getD (k-1) 0)):=by rw[Aa HW];exact Aa HC k hk1 hk
       have hkI:(k:Int)<(n:Int):=by omega
       by_cases he:r.getD (k-1) 0=x
       . rw[he]at c1
         have HN:Hid (Bm x r=(k+1-1)+Bm x (r.drop (k+1-1))):=Ab (by
          have:=FC r (k-1) (by rw[Aa HRL];omega) he (Aa hh)
          rw[show k-1+1=k+1-1 by omega]at this;exact this)
         clear he hh;go_wp2;go_quiet (fail)
         go_wp2;go_roundw
         case rel=>exact⟨k+1,_,Ab (by rw[Aa HW];exact OG _ _ _),by omega,by omega,by go_num,HN⟩
         case measure=>simp[intOf];omega
       . have hb:(r.getD (k-1) 0==(x:Int))=false:=by rw[beq_eq_false_iff_ne];exact he
         have HN:Hid (Bm x r=k-1):=Ab (EZ r (k-1) (by rw[Aa HRL];omega) he (Aa hh));generalize r.getD (k-1) 0=y at c1 hb;clear he hh;go_wp2;go_quiet (fail)
         have HALL:Hid (IS++Mm x k++lenIs (l.drop (i+k))=lenIs l):=Ab (by
          rw[<-(Aa HS).2.2,Aa HD,Uk,WL,Aa HN,show k-1+1=k by omega,<-Aa HR,YY,show i+1+(k-1)=i+k by omega,VJ])
         go_wp2_with fail
         refine(Qu J Ki kf cf (lenIs l) (Aa HK) x k IS (lenIs (l.drop (i+k))) _ hx15 hk1 (by omega) (Aa HALL) ((Aa HK).jd _ (by rw[Aa HW];exact(Aa HK).jd _ (Aa HS).1))).mono ?_;rintro e w2 ⟨rfl,hJ2,hK2⟩;have H2:=Ab (And.intro hJ2 ((Aa HK).trans (Aa HS).2.1 ((Aa HK).trans (by rw[Aa HW];exact(Aa HK).kd wl q) ((Aa HK).trans ((Aa HK).kd wr _) hK2))));clear hJ2 hK2;go_wp2;go_roundw
         case rel=>exact⟨i+k,n-k,c-k,by omega,by omega,⟨_,rfl,fun _=>by rw[WJ]⟩,Ab ⟨_,(Aa H2).1,(Aa H2).2,Aa HALL⟩⟩
         case measure=>simp[Z6i];omega
     . obtain rfl:k=n:=by omega
       have hkI:¬(k:Int)<(k:Int):=by omega
       have HN:Hid (Bm x r=k-1):=Ab (ND r (k-1) (by rw[Aa HRL];omega) (Aa hh));clear hh hkI;go_wp2;go_quiet (fail)
       have HALL:Hid (IS++Mm x k++lenIs (l.drop (i+k))=lenIs l):=Ab (by
        rw[<-(Aa HS).2.2,Aa HD,Uk,WL,Aa HN,show k-1+1=k by omega,<-Aa HR,YY,show i+1+(k-1)=i+k by omega,VJ])
       go_wp2_with fail
       refine(Qu J Ki kf cf (lenIs l) (Aa HK) x k IS (lenIs (l.drop (i+k))) _ hx15 hk1 (by omega) (Aa HALL) ((Aa HK).jd _ (by rw[Aa HW];exact(Aa HK).jd _ (Aa HS).1))).mono ?_;rintro e w2 ⟨rfl,hJ2,hK2⟩;have H2:=Ab (And.intro hJ2 ((Aa HK).trans (Aa HS).2.1 ((Aa HK).trans (by rw[Aa HW];exact(Aa HK).kd wl q) ((Aa HK).trans ((Aa HK).kd wr _) hK2))));clear hJ2 hK2;go_wp2;go_roundw
       case rel=>exact⟨i+k,0,c-k,by omega,by omega,⟨_,rfl,fun h=>absurd h (by omega)⟩,Ab ⟨_,(Aa H2).1,(Aa H2).2,Aa HALL⟩⟩
       case measure=>simp[Z6i];omega
  . obtain rfl:n=0:=by omega
    obtain⟨IS,hJ,hKi,hIS⟩:=Aa hst;rw[XY (by rw[Aa HL];omega)]at hIS;have HF:Hid (J (lenIs l) wr/\Ki w wr):=Ab ⟨by rw[<-hIS];simpa[lenIs,Oi]using hJ,hKi⟩;clear hst hJ hKi hIS ha;go_wp2;go_end0
    exact⟨rfl,Aa HF⟩
theorem Z22 (g n s:Nat)(hg:1<=g)(hn:n<8192)(hs:s=12):n/2^s<2*g:=by
 subst hs;have:n/2^12<2:=Nat.div_lt_of_lt_mul (by omega)
 omega
theorem DL (g n f s:Nat)(h:n/2^s<2*g):Qh g n f s=s:=by
 cases f with
 |zero=>rfl
 |succ f=>rw[Qh,if_pos h]
theorem DK (g n s:Nat)(hs:s<12)(h:¬n/2^s<2*g):Qh g n (12-s) s=Qh g n (12-(s+1)) (s+1):=by
 rw[show 12-s=(12-(s+1))+1 by omega,Qh,if_neg h]
theorem SR (n s:Nat)(hn:n<8192)(hs:s<=12):bits .and .i64 (n:Int) (2^s-1)=((n%2^s:Nat):Int):=by
 have hp:2^s<=2^12:=VV (by decide) hs;have h1:0<2^s:=ZD s
 have e:((2:Int)^s-1)=((2^s-1:Nat):Int):=by
  have h2:((2^s:Nat):Int)=(2:Int)^s:=by push_cast;rfl
  omega
 rw[e,Ri n (2^s-1) (by omega) (by omega),Nat.and_two_pow_sub_one_eq_mod]
theorem QI (Y X:Nat)(hY:Y<=48)(hX:X<8192):wrap64 (wrap64 (Y:Int)+(X:Int))=((Y+X:Nat):Int):=by unfold wrap64;omega
theorem IB (Q:Nat)(h1:0<Q)(h:Q<=4096):wrap64 (wrap64 (Q:Int)-1)=(Q:Int)-1:=by unfold wrap64;omega
theorem Ua (n g:Nat)(w:World)(hg:1<=g)(hg4:g<=4)(hn:n<8192):
 Calls Tryz.prog 242 #[.int .i64 (n:Int),.int .i64 (g:Int)] w fun e w'=>e=.returned (.tuple #[.int .i64 (Vy g n:Nat),.int .i64 (Su g n:Nat),.int .i64 (Ky g n:Nat)])/\∃q,w'=w.drewN q:=by
 go_enter Tryz.func242,Tryz.ntmps242
 go_wp2;go_loop [6] (fun v=>∃s:Nat,s<=12/\v=.int .i64 (s:Int)/\Hid (Qh g n (12-s) s=Ky g n)) (fun v=>12-(intOf v).toNat)
 case atStart=>exact⟨0,by decide,rfl,Ab rfl⟩
 case round=>
  obtain⟨s,hs,rfl,hz⟩:=hrel
  by_cases hd:n/2^s<2*g
  . have E:Hid (Ky g n=s):=Ab (by rw[<-Aa hz];exact DL g n _ s hd);have hd2:¬(2:Int)*(g:Int)<=(n:Int)/2^s:=by rw[Gq];omega
    have hk:Hid (Vy g n=g*s+n/2^s):=Ab (by unfold Vy;rw[Aa E]);have hr:Hid (Su g n=n%2^s):=Ab (by unfold Su;rw[Aa E]);have hm:=SR n s hn hs;have hp:2^s<=4096:=VV (j:=12) (by decide) hs;have hgs:g*s<=48:=Nat.mul_le_mul hg4 hs;have hdv:n/2^s<=n:=Nat.div_le_self _ _;have HP:=Ab hp;have HD:=Ab hdv;have HGS:=Ab hgs;clear hz hd hp hdv hgs;go_wp2;go_quiet (fail)
    go_wp2;go_ret3;refine⟨?_,_,rfl⟩;have hp:=Aa HP;have hdv:=Aa HD;have hgs:=Aa HGS;have e1:(g:Int)*(s:Int)=((g*s:Nat):Int):=by push_cast;rfl
    have e2:((2:Int)^s)=((2^s:Nat):Int):=by push_cast;rfl
    have h1:0<2^s:=ZD s
    have w1:wrap64 (wrap64 ((g:Int)*s)+(n:Int)/2^s)=((g*s+n/2^s:Nat):Int):=by
     rw[e1,Gq];exact QI _ _ hgs (XV hdv hn)
    have w2:wrap64 (wrap64 ((2:Int)^s)-1)=2^s-1:=by
     rw[e2];exact IB _ h1 hp
    show Ending.returned (.tuple #[.int .i64 (wrap64 (wrap64 ((g:Int)*s)+(n:Int)/2^s)),.int .i64 (bits .and .i64 (n:Int) (wrap64 (wrap64 ((2:Int)^s)-1))),.int .i64 (s:Int)])=_
    rw[w1,w2,hm,Aa hk,Aa hr,Aa E]
  . have hs2:s<12:=by
     rcases YO s 12 with h|h
     . exact h
     . exact absurd (Z22 g n s hg hn (by omega)) hd
    have hd2:(2:Int)*(g:Int)<=(n:Int)/2^s:=by rw[Gq];omega
    have HZ:=Ab (DK g n s hs2 hd);go_wp2;go_round
    case rel=>exact⟨s+1,by omega,by go_num,Ab (by rw[<-Aa HZ];exact Aa hz)⟩
    case measure=>simp[intOf];omega
theorem RE (g n:Nat)(hg:1<=g)(hn:n<8192):Ky g n<=12/\Vy g n<=g*12+n/\Su g n<=n:=by
 have:∀f s,f+s=12->Qh g n f s<=12:=by
  intro f
  induction f with
  |zero=>intro s h;rw[Qh];omega
  |succ f ih=>intro s h;rw[Qh];split;omega;exact ih _ (by omega)
 have h1:=this 12 0 rfl;have h2:n/2^Ky g n<=n:=Nat.div_le_self _ _;have h3:g*Ky g n<=g*12:=Nat.mul_le_mul_left _ h1;exact⟨h1,Nat.add_le_add h3 h2,by unfold Su;exact Nat.mod_le _ _⟩
theorem U3 (n:Nat)(w:World)(h3:3<=n)(hn:n<=258):
 Calls Tryz.prog 216 #[.int .i64 (n:Int)] w fun e w'=>e=.returned (.tuple #[.int .i64 ((Cd n).1:Nat),.int .i64 ((Cd n).2.1:Nat),.int .i64 ((Cd n).2.2:Nat)])/\∃q,w'=w.drewN q:=by
 by_cases h:n=258
 . subst h;have e:Cd 258=(285,0,0):=rfl;rw[e];go_enter Tryz.func216,Tryz.ntmps216
   go_wp2;go_ret3;exact⟨rfl,0,rfl⟩
 . have e:Hid (Cd n=(257+Vy 4 (n-3),Su 4 (n-3),Ky 4 (n-3))):=Ab (by unfold Cd;rw[if_neg h]);have hb:((n:Int)==258)=false:=by rw[beq_eq_false_iff_ne];omega
   have hle:=RE 4 (n-3) (by omega) (by omega);have HC:=Ab (Ua (n-3) 4 w (by omega) (by omega) (by omega));have hsub:((n:Int)-3)=((n-3:Nat):Int):=by omega
   rw[Aa e];generalize Vy 4 (n-3)=K at*;generalize Su 4 (n-3)=R at*;generalize Ky 4 (n-3)=Z at*;rw[<-hsub]at HC;clear hsub e;go_enter Tryz.func216,Tryz.ntmps216
   go_wp2_with fail
   refine(Aa HC).mono ?_;rintro e w1 ⟨rfl,q,rfl⟩;go_wp2;go_ret3;refine⟨?_,q,rfl⟩;simp only[Int.natCast_add];rfl
theorem EY (d:Nat)(w:World)(h1:1<=d)(hd:d<=3000):
 Calls Tryz.prog 217 #[.int .i64 (d:Int)] w fun e w'=>e=.returned (.tuple #[.int .i64 ((Id d).1:Nat),.int .i64 ((Id d).2.1:Nat),.int .i64 ((Id d).2.2:Nat)])/\∃q,w'=w.drewN q:=by
 have HC:=Ab (Ua (d-1) 2 w (by omega) (by omega) (by omega));have hsub:((d:Int)-1)=((d-1:Nat):Int):=by omega
 unfold Id;simp only
 generalize Vy 2 (d-1)=K at*;generalize Su 2 (d-1)=R at*;generalize Ky 2 (d-1)=Z at*;rw[<-hsub]at HC;clear hsub;go_enter Tryz.func217,Tryz.ntmps217
 go_wp2_with fail
 refine(Aa HC).mono ?_;rintro e w1 ⟨rfl,q,rfl⟩;go_wp2;go_ret3;exact⟨rfl,q,rfl⟩
end Go.Proofs.YtieianhejdcgdaaGreatDoor
namespace Go.Proofs.YtieianhejdcgdaaGreatDoor
open Go.RowKit Go.Maps Go.WideMaps Go.ChangeShapes
set_option linter.unusedVariables false
theorem Z79:ArrKey Tryz.prog 317 5 3:=⟨Tryz.underlying317,by kernel_rfl,by kernel_rfl,by kernel_rfl⟩
theorem Z6k:Keyed Tryz.prog 317:=Keyed.of_law Z79.law
theorem Z0l:∃m,Tryz.prog.types.size=m+1:=⟨Tryz.prog.types.size-1,by have:0<Tryz.prog.types.size:=of_decide_eq_true (by kernel_rfl);omega⟩
abbrev C3:=Nat×Nat×Nat
def MG (c:C3):Array Value:= #[.int .u8 (c.1:Int),.int .u8 (c.2.1:Int),.int .u8 (c.2.2:Int)]
def kv (c:C3):Value:=.agg (MG c)
def kl (c:C3):Lit:=.string (keyBytes [.int .u8 (c.1:Int),.int .u8 (c.2.1:Int),.int .u8 (c.2.2:Int)])
def Ok3 (c:C3):Prop:=c.1<256/\c.2.1<256/\c.2.2<256
theorem S5 {bs:List Nat}(hb:∀j,bs.getD j 0<256)(p:Nat):Ok3 (He bs p):=⟨hb _,hb _,hb _⟩
theorem Z1l {x:Nat}(h:x<256):(Lit.int .u8 (x:Int)).wf=true:=by
 simp[Lit.wf,IntKind.min,IntKind.max,IntKind.signed,IntKind.bits];omega
theorem Pd {c:C3}(h:Ok3 c):keyOf Tryz.prog 317 (kv c)=some (kl c):=by
 have A:=Z79;have hkt:=A.keyType Z0l;obtain⟨m,hm⟩:=Z0l;have he:Tryz.prog.underlying 5=some (.int .u8):=Tryz.underlying5;have w1:=Z1l h.1;have w2:=Z1l h.2.1;have w3:=Z1l h.2.2;unfold keyOf kv kl MG;simp only[A.hu];rw[if_pos (by simp[hkt,Value.formed,A.hu,A.size]),hm];unfold Program.keyLits;simp only[A.hu,Value.cells];rw[if_pos (by rw[A.size];rfl),show List.range 3= [0,1,2] from rfl,List.mapM_cons,List.mapM_cons,List.mapM_cons,List.mapM_nil];simp[A.one,Program.keyLits,he,w1,w2,w3]
theorem Z5m {c d:C3}(hc:Ok3 c)(hd:Ok3 d)(h:kl c=kl d):c=d:=by
 have:=Z6k.inj (Pd hc) (by rw[h];exact Pd hd)
 obtain⟨c1,c2,c3⟩:=c;obtain⟨d1,d2,d3⟩:=d;simp[kv,MG]at this
 simp only[YW];omega
theorem Z5l (c:C3):WideAt.IsKeyLit (kl c):=by
 first|trivial|exact⟨⟩|(unfold kl WideAt.IsKeyLit;simp)
def datum (zs:List Nat):DataW Unit:=match zs with| []=>.nil|z::r=>.slice (lits .i64 ((z::r).map fun x:Nat=>(x:Int))) []
abbrev PW (w:World)(base mb n:Nat)(D:DataW Unit):Prop:=w.ownsGroups Tryz.prog 317 base 3 .i64 mb n D
def Grp (w:World)(base mb:Nat)(bs:List Nat)(kn:Nat):Prop:=∃D:DataW Unit,PW w base mb kn D/\∀c,Ok3 c->D.atKey (kl c) .nil=datum (plc bs kn c)
theorem F3 {w:World}{base mb n:Nat}{D:DataW Unit}(h:PW w base mb n D):IsMap D:=by
 obtain⟨es,clock,hb,F,_,rfl,_⟩:=h;exact⟨_,rfl⟩
theorem SV {xs ys:List Int}(h:lits (H:=Unit) .i64 xs=lits .i64 ys):xs=ys:=by
 unfold lits at h;exact(List.map_inj_right (fun a b hab=>by simpa using hab)).1 h
theorem Uc {w:World}{base:Nat}{v:Value}{zs:List Int}{ps:List Nat}(ho:w.ownsInts base 3 .i64 v zs)(h:datum ps=rowDatum .i64 v zs):zs=ps.map fun x:Nat=>(x:Int):=by
 cases ps with
 |nil=>
  rcases ho.datum (H:=Unit)with ⟨_,e⟩|e
  . rw[e];rfl
  . rw[e]at h;simp[datum]at h
 |cons z r=>
  rcases ho.datum (H:=Unit)with ⟨e,_⟩|e
  . rw[e]at h;simp[datum]at h
  . rw[e]at h;simp only[datum,DataW.slice.injEq,and_true]at h;exact(SV h).symm
theorem Grp.made (w:World)(base:Nat)(bs:List Nat)(hb:w.heap.size<base):Grp (w.alloc (.map #[] 0)) base w.heap.size bs 0:=by
 refine⟨.map [],⟨#[],0,(MapKept.heap_alloc w _).1,⟨by simp,MapKept.stamped_empty 0,by simp⟩,VC _,rfl,hb,by simp,by simp⟩, ?_⟩;intro c _;simp[plc,datum,DataW.atKey]
theorem Grp.kept {w w':World}{base mb kn:Nat}{bs:List Nat}{row:Option Nat}(h:Grp w base mb bs kn)(hg:w.grownBy w' row)(hr:∀j,row=some j->j<base/\j≠mb):Grp w' base mb bs kn:=by
 obtain⟨D,hD,hA⟩:=h;refine⟨D,hD.kept hg ?_ (hD.rowsAbove (fun j e=>(hr j e).1)),hA⟩;intro e;exact(hr mb e.symm).2 rfl
theorem Grp.lt {w:World}{base mb kn:Nat}{bs:List Nat}(h:Grp w base mb bs kn):mb<base/\mb<w.heap.size:=by
 obtain⟨D,⟨es,clock,hb,F,_,rfl,h1,_⟩,_⟩:=h;exact⟨h1,(VG.1 hb).1⟩
theorem Grp.step {w:World}{base mb kn:Nat}{bs:List Nat}{D:DataW Unit}{v':Value}{zs':List Int}(hb:∀j,bs.getD j 0<256)(hA:∀c,Ok3 c->D.atKey (kl c) .nil=datum (plc bs kn c))(hM:IsMap D)
 (hG:PW w base mb (kn+1) (D.put (kl (He bs kn)) (rowDatum .i64 v' zs'))) (ho:w.ownsInts base 3 .i64 v' zs') (hz:zs'=((plc bs kn (He bs kn)).map fun x:Nat=>(x:Int))++ [(kn:Int)]):Grp w base mb bs (kn+1):=by
 refine⟨_,hG, ?_⟩;intro c hc;rw[RT]
 by_cases e:He bs kn=c
 . subst e;rw[if_pos rfl,atKey_put_same hM (Z5l _),ho.datum_pos (by rw[hz];simp),hz]
   cases hp:plc bs kn (He bs kn)with
   |nil=>simp[datum]
   |cons z r=>simp[datum]
 . rw[if_neg e,WO,atKey_put_other (fun h=>e (Z5m hc (S5 hb kn) h).symm),hA c hc]
def Pst (w:World)(b:Nat)(bv:Value)(mb kn:Nat):Prop:=w.heap[b]? =some (.cells #[bv,.map (some mb),.int .i64 (kn:Int)] 296 (0,0))
theorem Pst.cell0 {w:World}{b mb kn:Nat}{bv:Value}(h:Pst w b bv mb kn):w.cell? ⟨b,0,none⟩=some bv:=Ac h
theorem Pst.cell1 {w:World}{b mb kn:Nat}{bv:Value}(h:Pst w b bv mb kn):w.cell? ⟨b,1,none⟩=some (.map (some mb)):=Ac h
theorem Pst.cell2 {w:World}{b mb kn:Nat}{bv:Value}(h:Pst w b bv mb kn):w.cell? ⟨b,2,none⟩=some (.int .i64 (kn:Int)):=Ac h
theorem Pst.frozen {w:World}{b mb kn:Nat}{bv:Value}(h:Pst w b bv mb kn)(j:Nat):w.frozen? ⟨b,j,none⟩=false:=frozen_of_row w b j _ _ h
theorem Pst.lt {w:World}{b mb kn:Nat}{bv:Value}(h:Pst w b bv mb kn):b<w.heap.size:=(VG.1 h).1
theorem Pst.grown {w w':World}{b mb kn:Nat}{bv:Value}{r:Option Nat}(h:Pst w b bv mb kn)(hg:w.grownBy w' r)(hr:some b≠r):Pst w' b bv mb kn:=(hg.block b h.lt hr).trans h
theorem Pst.set {w:World}{b mb kn:Nat}{bv:Value}(h:Pst w b bv mb kn)(q:Nat):Pst (w.setCell ⟨b,2,none⟩ (.int .i64 (q:Int))) b bv mb q:=by
 unfold Pst;rw[heap_setCell_same w b 2 _ _ _ h];rfl
structure Geo (No:Nat->Prop)(B p mb base b:Nat)(bs:List Nat):Prop where
 bB:b<B
 pB:B<=p
 mB:B<=mb
 pm:p≠mb
 pb:p<base
 nop:¬No p
 nom:¬No mb
 len:bs.length<=3000
 byte:∀j,bs.getD j 0<256
structure Pas (No:Nat->Prop)(w:World)(p mb base b o n cap:Nat)(bs:List Nat)(kn:Nat):Prop where
 pst:Pst w p (.slice (some ⟨b,o,none⟩) n cap) mb kn
 grp:Grp w base mb bs kn
 shun:w.Shuns mb No
 row:Bytes w b o bs
 size:base<=w.heap.size
theorem Pas.drewN {No:Nat->Prop}{w:World}{p mb base b o n cap kn:Nat}{bs:List Nat}(h:Pas No w p mb base b o n cap bs kn)(q:Nat):Pas No (w.drewN q) p mb base b o n cap bs kn:=by
 have hg:w.grownBy (w.drewN q) none:=⟨rfl,rfl,rfl,VC _,fun _ _ _=>rfl⟩
 exact⟨h.pst,h.grp.kept hg (fun j e=>by cases e),h.shun,h.row,h.size⟩
theorem Pas.grown {No:Nat->Prop}{w w':World}{B p mb base b o n cap kn:Nat}{bs:List Nat}{r:Option Nat}(h:Pas No w p mb base b o n cap bs kn)(G:Geo No B p mb base b bs)(hg:w.grownBy w' r)(hr:∀j,r=some j->j≠p/\j≠mb/\j≠b/\(No j\/j<base)):Pas No w' p mb base b o n cap bs kn:=by
 obtain⟨D,hD,hA⟩:=h.grp;have hmr:some mb≠r:=fun e=>(hr mb e.symm).2.1 rfl
 refine⟨h.pst.grown hg (fun e=>(hr p e.symm).1 rfl),⟨D,hD.kept hg hmr ?_,hA⟩,h.shun.kept hg h.grp.lt.2 hmr,h.row.grown hg (fun e=>(hr b e.symm).2.2.1 rfl),VX h.size hg.size⟩;intro es clock hb x hx
 cases hx':x.val.ownBlock with
 |none=>exact .inl rfl
 |some g=>
  refine .inr (fun e1=> ?_)
  rcases(hr g e1.symm).2.2.2 with h1|h1
  . exact h.shun es clock hb x hx g hx' h1
  . rcases hD.rowsAbove (row:=r) (fun j e=>by
     by_cases c:j<base
     . exact c
     . have:=(hr j e)
       rw[<-e1]at e
       cases e
       omega) es clock hb x hx with h2|h2
    . rw[h2]at hx';cases hx'
    . exact h2 (by rw[hx'];exact e1)
end Go.Proofs.YtieianhejdcgdaaGreatDoor
namespace Go.Proofs.YtieianhejdcgdaaGreatDoor
open Go.RowKit Go.Maps Go.WideElems Go.MapKept Go.ChangeMaps
set_option linter.unusedVariables false
theorem H7 {H:Type}{P:Program}{k:TypeId}(K:Keyed P k){R:Value->Option (DataW H×List MemPlace)}{es:Array MapEntry}{clock:Nat}(F:Fit P k R es clock){x:Value}{lx:Lit}(hx:keyOf P k x=some lx)(w w':World){r:Option (Nat×Value)}
 (h:(Instr.findKey k x es.toList).run P w=.ok r w):(Instr.findKey k x es.toList).run P w'=.ok r w':=by
 rcases K.find w hx es.toList F.keys with ⟨h1,h2⟩|⟨j,e0,h1,h2,h3⟩<;>rcases K.find w' hx es.toList F.keys with ⟨i1,i2⟩|⟨i,e1,i1,i2,i3⟩
 . rw[h1]at h
   cases h
   exact i1
 . exact absurd i3 (h2 e1 (YF i2))
 . exact absurd h3 (i2 e0 (YF h2))
 . have e:i=j:=by
    by_cases c:i=j
    . exact c
    . exact absurd (i3.trans h3.symm) (other_key F h2 i2 c)
   subst e;rw[h2]at i2
   cases i2
   rw[h1]at h
   cases h
   exact i1
theorem Sv (w:World)(b:Nat)(x y:Obj):setBlock (setBlock w b x) b y=setBlock w b y:=by
 simp[setBlock]
theorem Cp {w:World}{b:Nat}{es:Array MapEntry}{clock:Nat}(hb:w.heap[b]? =some (.map es clock))(es':Array MapEntry)(clock':Nat):w.grownBy (setBlock w b (.map es' clock')) (some b):=
 ⟨rfl,rfl,rfl,by simp[setBlock],fun i _ hi=>heap_setBlock_other hb _ (fun e1=>hi (by rw[e1]))⟩
def N2 {H:Type}(w w1:World)(P:Program)(t k:TypeId)(base:Nat)(e:TypeId)(q:IntKind)(b n st:Nat)(D:DataW H)(kl:Lit)(v:Value):Prop:=
 ∀(w2:World) (v':Value) (zs':List Int),w1.grownBy w2 v.ownBlock->w2.ownsInts base e q v' zs'->zs'.length<=n+1->(v'.ownBlock=v.ownBlock\/∃g,v'.ownBlock=some g/\w1.heap.size<=g)->
  ∃w3,(Instr.entryStore t (.map (some b)) (goInt st) v').run P w2=.ok () w3/\w3.ownsGroups P k base e q b (n+1) (D.put kl (rowDatum q v' zs'))/\w2.grownBy w3 (some b)/\
   (∀No:Nat->Prop,w.Shuns b No->(∀g,v'.ownBlock=some g->¬No g)->w3.Shuns b No)
theorem J2 {H:Type}{P:Program}{w:World}{t E k e:TypeId}{q:IntKind}{base b n:Nat}{D:DataW H}{key:Value}{kl:Lit}(h:w.ownsGroups P k base e q b n D)(K:Keyed P k)(ht:P.underlying t=some (.map k E))(hz:∀u:World,(zeroValue E).run P u=.ok (.slice none 0 0) u)(hn:n<maxLen)(hkey:keyOf P k key=some kl):
 ∃(v:Value) (zs:List Int) (st:Nat) (w1:World),(Instr.mapEntry t (.map (some b)) key).run P w=.ok (.tuple #[v,goInt st]) w1/\w.grownBy w1 (some b)/\w1.heap.size=w.heap.size/\D.atKey kl .nil=rowDatum q v zs/\w1.ownsInts base e q v zs/\zs.length<=n/\(∀No:Nat->Prop,w.Shuns b No->∀g,v.ownBlock=some g->¬No g)/\
  N2 w w1 P t k base e q b n st D kl v:=by
 obtain⟨v,zs,hrun,hat,hoi,hzl,hback⟩:=h.at K ht (hz w) hn hkey;obtain⟨es,clock,hb,F,hs,_,hbb,_⟩:=h;have hblt:b<w.heap.size:=(VG.1 hb).1
 have hvb:v.ownBlock=none\/v.ownBlock≠some b:=by
  cases hv:v.ownBlock with
  |none=>exact .inl rfl
  |some g=>
   refine .inr (fun e1=> ?_);have:=(hoi.1.lt g hv).1
   cases e1
   omega
 obtain⟨s1,s2,_⟩:=F.stamped
 have finish:∀(es1:Array MapEntry) (clock1 st:Nat),
  (∀(w2:World) (val:Value),w2.heap[b]? =some (.map es1 clock1)->∃es' clock',(Instr.entryStore t (.map (some b)) (goInt st) val).run P w2=.ok () (setBlock w2 b (.map es' clock'))/\
   ∀u:World,u.heap[b]? =some (.map es clock)->(Instr.mapUpdate t (.map (some b)) key val).run P u=.ok () (setBlock u b (.map es' clock')))->
  N2 w (setBlock w b (.map es1 clock1)) P t k base e q b n st D kl v:=by
  intro es1 clock1 st hst w2 v' zs' hg ho' hl' hloc;have hsz1:(setBlock w b (.map es1 clock1)).heap.size=w.heap.size:=by simp[setBlock]
  have hb2:w2.heap[b]? =some (.map es1 clock1):=by
   rw[hg.block b (by rw[hsz1];exact hblt) (fun e1=>by
    rcases hvb with h1|h1
    . rw[h1]at e1;cases e1
    . exact h1 e1.symm)]
   exact heap_setBlock_same hb _
  obtain⟨es',clock',hE,hU⟩:=hst w2 v' hb2;have hb2':(setBlock w2 b (.map es clock)).heap[b]? =some (.map es clock):=heap_setBlock_same hb2 _;have hg2':=Cp hb2 es clock
  have hgw:w.grownBy (setBlock w2 b (.map es clock)) v.ownBlock:=by
   refine⟨hg.os,hg.tape,hg.output, ?_, ?_⟩
   . have:=hg.size
     rw[hsz1]at this;exact VX this hg2'.size
   . intro i hi hr
     by_cases c:i=b
     . subst c;rw[hb2',hb]
     . rw[hg2'.block i (by have:=hg.size;rw[hsz1]at this;omega) (fun e1=>c (by simpa using e1)),hg.block i (by rw[hsz1];exact hi) hr];exact heap_setBlock_other hb _ c
  have ho2:(setBlock w2 b (.map es clock)).ownsInts base e q v' zs':=ho'.kept hg2' (by
   cases hv:v'.ownBlock with
   |none=>exact .inl rfl
   |some g=>
    refine .inr (fun e1=> ?_);have:=(ho'.1.lt g hv).1
    cases e1
    omega)
  obtain⟨w3,hrun3,hG3,hg3⟩:=hback _ v' zs' hgw ho2 hl' (by
   rcases hloc with h1|⟨g,h1,h2⟩
   . exact .inl h1
   . exact .inr ⟨g,h1,by rw[hsz1]at h2;exact h2⟩)
  have hsh:=stored_who K ht hb2' F (XV hs hn) hkey hrun3;rw[hU _ hb2',Sv]at hrun3;obtain rfl:setBlock w2 b (.map es' clock')=w3:=by simpa using hrun3
  refine⟨_,hE,hG3,Cp hb2 es' clock', ?_⟩;intro No hno hv' es2 clock2 hb3 x hx g hxg;obtain⟨es3,clock3,hb4,hwho⟩:=hsh;obtain⟨rfl,rfl⟩:es3=es2/\clock3=clock2:=by rw[hb4]at hb3;simpa using hb3
  rcases hwho x hx with ⟨hx0,_⟩|⟨_,hval⟩
  . exact hno es clock hb x hx0 g hxg
  . exact hv' g (by rw[<-hval];exact hxg)
 rcases K.find w hkey es.toList F.keys with ⟨h1,h2⟩|⟨j,e0,h1,h2,h3⟩
 . have hv:v=.slice none 0 0:=by
    simp[Instr.lookup,run_underlying ht,MapKept.run_getObj_map hb,K.check w _ hkey,h1,hz w,Result.andThen]at hrun
    exact hrun.symm
   refine⟨v,zs,clock,setBlock w b (.map (es.push ⟨key,v,clock⟩) (clock+1)), ?_,Cp hb _ _,by simp[setBlock],hat,hoi.kept (Cp hb _ _) hvb,hzl, ?_,finish _ _ _ ?_⟩
   . rw[hv];simp[Instr.mapEntry,run_underlying ht,MapKept.run_getObj_map hb,K.check w false hkey,h1,hz,MapKept.run_setObj_map _ hb,Result.andThen,setBlock]
   . intro No _ g hg;rw[hv]at hg
     cases hg
   . intro w2 val hw2;refine⟨es.push ⟨key,val,clock⟩,clock+1, ?_, ?_⟩
     . have hidx:(es.push ⟨key,v,clock⟩).findIdx? (fun e=>((e.born:Nat):Int)==((clock:Nat):Int))=some es.size:=by
        rw[findIdx_arr]
        have:=findIdx_born (l:=(es.push ⟨key,v,clock⟩).toList) (j:=es.size) (e0:=⟨key,v,clock⟩) (by
         simp only[Array.toList_push,XO,WG,YB];refine List.nodup_append.2 ⟨s2,by simp,fun a ha c hc e1=> ?_⟩;simp only[WK]at hc;obtain⟨x,hx,rfl⟩:=WY.1 ha;have:=s1 x hx
         omega) (by simp)
        exact this
       have hmod:(es.push ⟨key,v,clock⟩).modify es.size (fun e=> {e with val:=val})=es.push ⟨key,val,clock⟩:=by
        apply Array.ext'
        rw[Array.toList_modify,Array.toList_push,Array.toList_push,<-Array.length_toList,modify_last]
       simp[Instr.entryStore,MapKept.run_getObj_map hw2,asInt,asIntOf,goInt,hidx,hmod,MapKept.run_setObj_map _ hw2,Result.andThen,setBlock]
     . intro u hu;have h1u:=H7 K F hkey w u h1;simp[Instr.mapUpdate,run_underlying ht,MapKept.run_getObj_map hu,K.check u false hkey,h1u,MapKept.run_setObj_map _ hu,Result.andThen,setBlock]
 . have hj:es[j]? =some e0:=by simpa using h2
   have hv:v=e0.val:=by
    simp[Instr.lookup,run_underlying ht,MapKept.run_getObj_map hb,K.check w _ hkey,h1,Result.andThen]at hrun
    exact hrun.symm
   have hsame:es.modify j (fun e=> {e with key:=key})=es:=by
    apply Array.ext'
    rw[Array.toList_modify,modify_eq_set _ _ _ _ h2];have:({e0 with key:=key}:MapEntry)=e0:=by rw[<-h3]
    rw[this];exact set_self _ _ _ h2
   refine⟨v,zs,e0.born,setBlock w b (.map es clock), ?_,Cp hb _ _,by simp[setBlock],hat,hoi.kept (Cp hb _ _) hvb,hzl, ?_,finish _ _ _ ?_⟩
   . rw[hv];simp[Instr.mapEntry,run_underlying ht,MapKept.run_getObj_map hb,K.check w false hkey,h1,hj,h3,K.stays w hkey,hsame,MapKept.run_setObj_map _ hb,Result.andThen,setBlock]
   . intro No hno g hg;exact hno es clock hb e0 (YF h2) g (by rw[<-hv];exact hg)
   . intro w2 val hw2;refine⟨es.modify j (fun e'=> {e' with key:=key,val:=val}),clock, ?_, ?_⟩
     . have hidx:es.findIdx? (fun e=>((e.born:Nat):Int)==((e0.born:Nat):Int))=some j:=by
        rw[findIdx_arr];exact findIdx_born s2 h2
       have hmod:es.modify j (fun e=> {e with val:=val})=es.modify j (fun e'=> {e' with key:=key,val:=val}):=by
        apply Array.ext'
        rw[Array.toList_modify,Array.toList_modify,modify_eq_set _ _ _ _ h2,modify_eq_set _ _ _ _ h2,<-h3]
       simp[Instr.entryStore,MapKept.run_getObj_map hw2,asInt,asIntOf,goInt,hidx,hmod,MapKept.run_setObj_map _ hw2,Result.andThen,setBlock]
     . intro u hu;have h1u:=H7 K F hkey w u h1;simp[Instr.mapUpdate,run_underlying ht,MapKept.run_getObj_map hu,K.check u false hkey,h1u,hj,h3,K.stays u hkey,MapKept.run_setObj_map _ hu,Result.andThen,setBlock]
end Go.Proofs.YtieianhejdcgdaaGreatDoor
