import Derived.Test.YtleocpdblhbimaaGreatDoorQ25
import Derived.Test.YtleocpdblhbimaaGreatDoorQ22
set_option linter.unusedSimpArgs false
set_option maxHeartbeats 2000000
namespace Go.Proofs.YtleocpdblhbimaaGreatDoor
open Go.RowKit
set_option linter.unusedVariables false
set_option maxRecDepth 100000
theorem Z56 (a b:Fl):(a=b)↔(a.name=b.name/\a.bytes=b.bytes/\a.stamp=b.stamp/\a.node=b.node/\a.gone=b.gone):=by
 cases a;cases b;simp
theorem PN (x y:Fv)(w:World)(hx:FvIn w x)(hy:FvIn w y):
 Calls Tryz.prog 11 #[x.val,y.val] w fun e w'=>e=.returned (.bool (decide (x.f=y.f)))/\Below w.heap.size w w':=by
 have HE:=Ab (fun W (hW:Below w.heap.size w W)=>RQ (hx.bs.below hW (VC _)) (hy.bs.below hW (VC _)));have hq:=Z56 x.f y.f
 have hn:((B x.f.name).toList==(B y.f.name).toList)=decide (x.f.name=y.f.name):=by
  rw[Fc,Fc,YR,beq_iff_eq,decide_eq_true_iff]
 rw[Tj,Tj];obtain⟨r,hr⟩:∃r,decide (x.f=y.f)=r:=⟨_,rfl⟩
 have hr2:r=decide (x.f.name=y.f.name/\x.f.bytes=y.f.bytes/\x.f.stamp=y.f.stamp/\x.f.node=y.f.node/\x.f.gone=y.f.gone):=by rw[<-hr];exact decide_eq_decide.2 hq
 rw[hr];clear hq hr hx hy;have HR:=Ab hr2;clear hr2
 by_cases h1:x.f.name=y.f.name
 . rw[decide_eq_true h1]at hn
   by_cases h2:x.f.bytes=y.f.bytes
   . by_cases h3:x.f.stamp=y.f.stamp
     . by_cases h4:x.f.node=y.f.node
       . have h5:r=decide (x.f.gone=y.f.gone):=by rw[Aa HR];exact decide_eq_decide.2 ⟨fun k=>k.2.2.2.2,fun k=>⟨h1,h2,h3,h4,k⟩⟩
         rw[h5];rw[decide_eq_true h2]at HE;clear h1 h2 h5 HR;generalize B x.f.name=t at*;generalize B y.f.name=t2 at*;generalize x.f.bytes.length=n at*;generalize y.f.bytes.length=n2 at*;generalize x.f.stamp=s1 at*;generalize y.f.stamp=s2 at*;generalize x.f.node=d1 at*;generalize y.f.node=d2 at*;generalize x.f.gone=g1 at*;generalize y.f.gone=g2 at*;subst h3;subst h4;go_enter Tryz.func11,Tryz.ntmps11
         go_wp2_with (go_at_call 13;refine(Aa HE _ (Ch (Ch (Below.refl _ _) _) _)).mono ?_;rintro e w' ⟨rfl,rfl⟩)
         go_ret;exact⟨De (by cases g1<;>cases g2<;>rfl),Ch (Ch (Below.refl _ _) _) _⟩
       . have h5:r=false:=by rw[Aa HR];exact decide_eq_false (fun k=>h4 k.2.2.2.1)
         have hb:(x.f.node==y.f.node)=false:=by simpa using h4
         rw[h5];rw[decide_eq_true h2]at HE;clear h1 h2 h5 HR h4;generalize B x.f.name=t at*;generalize B y.f.name=t2 at*;generalize x.f.bytes.length=n at*;generalize y.f.bytes.length=n2 at*;generalize x.f.stamp=s1 at*;generalize y.f.stamp=s2 at*;subst h3;go_enter Tryz.func11,Tryz.ntmps11
         go_wp2_with (go_at_call 13;refine(Aa HE _ (Ch (Ch (Below.refl _ _) _) _)).mono ?_;rintro e w' ⟨rfl,rfl⟩)
         go_ret;exact⟨rfl,Ch (Ch (Below.refl _ _) _) _⟩
     . have h5:r=false:=by rw[Aa HR];exact decide_eq_false (fun k=>h3 k.2.2.1)
       have hb:(x.f.stamp==y.f.stamp)=false:=by simpa using h3
       rw[h5];rw[decide_eq_true h2]at HE;clear h1 h2 h5 HR h3;generalize B x.f.name=t at*;generalize B y.f.name=t2 at*;generalize x.f.bytes.length=n at*;generalize y.f.bytes.length=n2 at*;go_enter Tryz.func11,Tryz.ntmps11
       go_wp2_with (go_at_call 13;refine(Aa HE _ (Ch (Ch (Below.refl _ _) _) _)).mono ?_;rintro e w' ⟨rfl,rfl⟩)
       go_ret;exact⟨rfl,Ch (Ch (Below.refl _ _) _) _⟩
   . have h5:r=false:=by rw[Aa HR];exact decide_eq_false (fun k=>h2 k.2.1)
     rw[h5];rw[decide_eq_false h2]at HE;clear h1 h2 h5 HR;generalize B x.f.name=t at*;generalize B y.f.name=t2 at*;generalize x.f.bytes.length=n at*;generalize y.f.bytes.length=n2 at*;go_enter Tryz.func11,Tryz.ntmps11
     go_wp2_with (go_at_call 13;refine(Aa HE _ (Ch (Ch (Below.refl _ _) _) _)).mono ?_;rintro e w' ⟨rfl,rfl⟩)
     go_ret;exact⟨rfl,Ch (Ch (Below.refl _ _) _) _⟩
 . have h5:r=false:=by rw[Aa HR];exact decide_eq_false (fun k=>h1 k.1)
   rw[h5];rw[decide_eq_false h1]at hn;clear h1 h5 HR HE;generalize B x.f.name=t at*;generalize B y.f.name=t2 at*;generalize x.f.bytes.length=n at*;generalize y.f.bytes.length=n2 at*;go_enter Tryz.func11,Tryz.ntmps11
   go_wp2;go_ret;exact⟨rfl,Ch (Ch (Below.refl _ _) _) _⟩
def NW (c x k:Nat):Nat:=Hz k (c^^^x%2^k)
theorem MI (c x:Nat):NW c x 0=c:=by simp[NW,Hz,Nat.mod_one]
theorem MJ (c x k:Nat):NW c x (k+1)=lft (NW c x k^^^x/2^k%2):=JX c x k
theorem RY {c x:Nat}(hx:x<256):NW c x 8=RX c x:=by
 unfold NW RX;rw[ZH (by simpa using hx)]
theorem Z2e {c x:Nat}(k:Nat)(hc:c<4294967296)(hx:x<256):NW c x k<4294967296:=by
 unfold NW;refine Qz k (Nat.xor_lt_two_pow (n:=32) hc ?_);have:=Nat.mod_le x (2^k)
 omega
theorem Z5f {m x j:Nat}(hm:m<4294967296)(hx:x<256)(hj:j<8):bits .xor .u32 (bits .and .u32 (m:Int) 1) (bits .and .u8 ((x:Int)/2^j) 1%4294967296)=(((m%2^^^x/2^j%2):Nat):Int):=by
 have h1:bits .and .u8 ((x/2^j:Nat):Int) ((1:Nat):Int)=((x/2^j&&&1:Nat):Int):=u8_and_nat _ _ (XU (YY _ _) hx) (by decide);rw[Nat.and_one_is_mod]at h1;have e:((x/2^j:Nat):Int)=(x:Int)/2^j:=by push_cast;rfl
 rw[e]at h1;rw[Z59 hm,show (1:Int)=((1:Nat):Int) from rfl,h1,show (((x/2^j%2:Nat):Int))%4294967296=((x/2^j%2:Nat):Int) by omega];exact u32_xor_nat _ _ (by omega) (by omega)
theorem MH (p:Nat)(a:Option Addr)(n cap:Nat)(bs:List Nat)(w:World)(hl:bs.length=n)(hn:n<=12000)(hp:p<4294967296)(hby:BytesIn w a bs)(hv:∀j,bs.getD j 0<256):
 Calls Tryz.prog 12 #[.int .u32 (p:Int),.slice a n cap] w fun e w'=>e=.returned (.int .u32 (crcN p bs:Nat))/\w'=w:=by
 have HBY:=Ab hby;have HV:=Ab hv;have HL:=Ab hl;clear hby hv hl;go_enter Tryz.func12,Tryz.ntmps12
 go_wp2;rw[Z4d hp];go_loop [5,14] (fun r i=>∃k:Nat,k<=n/\i=.int .i64 (k:Int)/\r=.int .u32 (Sa (p^^^4294967295) (bs.take k):Nat)) (fun _ i=>n-(intOf i).toNat)
 case atStart=>exact⟨0,by omega,rfl,rfl⟩
 case round=>
  obtain⟨k,hk,rfl,rfl⟩:=hrel
  have hr:Sa (p^^^4294967295) (bs.take k)<4294967296:=Ry _ _ (fun y hy=>by
   obtain⟨i,hi,rfl⟩:=XF hy;have:=Aa HV i
   rw[VM]at hi;rw[ZB];rw[List.getD,VR (by omega)]at this;exact this) (Zs hp)
  by_cases hlt:k<n
  . have hkl:k<bs.length:=by rw[Aa HL];exact hlt
    obtain⟨b,o,rfl,hb,hc⟩:=BB (Aa HBY) hkl;have hx:=Aa HV k;have HC:Hid (Sa (p^^^4294967295) (bs.take (k+1))=RX (Sa (p^^^4294967295) (bs.take k)) (bs.getD k 0)):=Ab (by rw[Yj hkl,E7]);generalize Sa (p^^^4294967295) (bs.take k)=r at*;generalize bs.getD k 0=x at*;clear hkl;go_wp2;go_loop [5,18] (fun r1 i=>∃j:Nat,j<=8/\i=.int .i64 (j:Int)/\r1=.int .u32 (NW r x j:Nat)) (fun _ i=>8-(intOf i).toNat)
    case atStart=>exact⟨0,by omega,rfl,by rw[MI]⟩
    case round=>
     obtain⟨j,hj,rfl,rfl⟩:=hrel
     by_cases hjl:j<8
     . have HN:=Ab (MJ r x j);have hm:=Z2e j hr hx;generalize NW r x j=m at*
       by_cases hodd:(m%2^^^x/2^j%2)=1
       . have h1:(bits .xor .u32 (bits .and .u32 (m:Int) 1) (bits .and .u8 ((x:Int)/2^j) 1%4294967296)==1)=true:=by rw[Z5f hm hx hjl,hodd];rfl
         have HL1:Hid (lft (m^^^x/2^j%2)=m/2^^^3988292384):=Ab (by rw[JY _ _ (Nat.mod_lt _ (by decide)),if_pos hodd]);have HX:=Ab (Z5c hm);clear hodd;go_wp2;go_round
         case rel=>exact⟨j+1,by omega,by go_num,by rw[Aa HN,Aa HL1,Aa HX]⟩
         case measure=>simp[intOf];omega
       . have h1:=Z5f hm hx hjl;have h2:((((m%2^^^x/2^j%2):Nat):Int)==1)=false:=by rw[beq_eq_false_iff_ne];omega
         rw[<-h1]at h2;have HL1:Hid (lft (m^^^x/2^j%2)=m/2):=Ab (by rw[JY _ _ (Nat.mod_lt _ (by decide)),if_neg hodd]);clear hodd h1;go_wp2;go_round
         case rel=>exact⟨j+1,by omega,by go_num,by rw[Aa HN,Aa HL1];rfl⟩
         case measure=>simp[intOf];omega
     . obtain rfl:j=8:=by omega
       go_wp2;go_round
       case rel=>exact⟨k+1,by omega,by go_num,by rw[Aa HC,RY hx]⟩
       case measure=>simp[intOf];omega
  . have e:k=n:=by omega
    subst e;have HE:Hid (Sa (p^^^4294967295) (bs.take k)^^^4294967295=crcN p bs):=Ab (by rw[VP (by rw[Aa HL];exact VC _)];rfl);have HNN:=Ab (Z4d hr);clear hr;go_wp2;go_ret;exact⟨by rw[Aa HNN,Aa HE];rfl,rfl⟩
end Go.Proofs.YtleocpdblhbimaaGreatDoor
