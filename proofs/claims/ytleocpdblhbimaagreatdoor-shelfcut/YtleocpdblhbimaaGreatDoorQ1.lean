import Derived.Test.YtleocpdblhbimaaGreatDoorQ0
import Derived.Laws.BitsAllLaws
import Derived.Maps.AppendAt
import Derived.Laws.AppendOwnNone
import Derived.Lib.AppendStr
import Derived.Deep.RegionLaw
import Derived.Deep.DeepCutAuto
import Derived.Deep.DeepAppendRoom
import Derived.OwnWalk
import Derived.Laws.BytesArg
import Derived.Laws.Externs
import Derived.Lib.BytesEntry
import Derived.Laws.ResultCell
import Derived.Deep.RegionHeld3
import Derived.Deep.RegionWith
import Derived.Maps.Own
set_option linter.unusedVariables false
set_option linter.unusedSimpArgs false
set_option maxRecDepth 100000
set_option maxHeartbeats 4000000
namespace Go.Proofs.YtleocpdblhbimaaGreatDoor
open Go.Value (int)
open Go.IntKind (i64)
variable{row:List Bool}{F k n p:Nat}{u:US}
def Kg (k:Nat)(u:US):US:=if u.e=0 then ukept k u else u
def Ed (row:List Bool)(k:Nat)(u:US):US:=
 if k=0 then Kg 0 (Cn row u)
 else if k=1 then Kg 1 (Hz row Pu Lj (row.length+1) u)
 else if k=2 then (if (Dm row u).2.e≠0 then (Dm row u).2 else Kg 2 (Hz row (Dm row u).1.1 (Dm row u).1.2 (row.length+1) (Dm row u).2))
 else {u with e:=4}
def Bh (row:List Bool)(u:US):Nat×US:=
 if (uget row 1 u).2.e≠0 then (1,(uget row 1 u).2)
 else if (uget row 2 (uget row 1 u).2).2.e≠0 then (1,(uget row 2 (uget row 1 u).2).2)
 else ((uget row 1 u).1,Ed row (uget row 2 (uget row 1 u).2).1 (uget row 2 (uget row 1 u).2).2)
def Bz (row:List Bool):Nat->US->US
 |0,u=>u
 |f+1,u=>if (Bh row u).1=0/\(Bh row u).2.e=0 then Bz row f (Bh row u).2 else (Bh row u).2
def Du (row:List Bool):US:=Bz row (row.length+1) US0
structure Ahd (row:List Bool)(u v:US):Prop where
 ks:v.ks=u.ks
 ge:u.p<=v.p
 le:v.p<=row.length
 out:v.out.length<=3000
theorem Ahd.trans {v x:US}(h:Ahd row u v)(k:Ahd row v x):Ahd row u x:=⟨k.ks.trans h.ks,WJ h.ge k.ge,k.le,k.out⟩
theorem A3 (row:List Bool)(n:Nat)(u:US)(E:u.p<=row.length)(G:u.out.length<=3000):Ahd row u (uget row n u).2:=⟨Ix _ _ _,CS _ _ _,He _ _ _ E,by rw[Cs];exact G⟩
theorem Xm (l:List Int)(row:List Bool)(u:US)(E:u.p<=row.length)(G:u.out.length<=3000):Ahd row u (uplace l row u).2:=by obtain⟨I,H,O⟩:=Gz l row u;exact⟨H,O,Ju l row u E,by rw[I];exact G⟩
theorem Z5 (lb:List Int)(k:Nat)(u:US)(G:u.p<=row.length)(O:u.out.length<=3000)(h:(Cu row lb k u).e=0):Ahd row u (Cu row lb k u):=by unfold Cu at h ⊢;split;(. rename_i c1;rw[kac c1]at h;split;(. rename_i c2;rw[kac c2]at h;exact zC);refine⟨rfl,VA _,G, ?_⟩;simp only[VB,VG,WE];omega);. rename_i c1;rw[kab c1]at h;split;(. rename_i c2;rw[kac c2]at h;exact vL);. rename_i c2;rw[kab c2]at h;split;(. rename_i dt;exact zQ);. rename_i dt;rw[kab dt]at h;have a1:=A3 row (Dr k).2 u G O;generalize uget row (Dr k).2 u=g at*;split;(. rename_i E;rw[kac E]at h;exact absurd h E);. rename_i E;rw[kab E]at h;obtain⟨b1,b2,b3,b4⟩:=Yp row lb g.2 a1.le;have a2:Ahd row g.2 (Nt row lb g.2).2:=⟨b2,b3,b4,by rw[b1];exact a1.out⟩;generalize Nt row lb g.2=q at*;obtain⟨d1,H,I⟩:=Ul _ _ _ h;exact(a1.trans a2).trans ⟨H,om,by rw[d1];exact a2.le,I a2.out⟩
theorem Hy (row:List Bool)(E lb:List Int)(f:Nat)(u:US):Hz row E lb (f+1) u=if (uplace E row u).2.e≠0 then (uplace E row u).2 else if (uplace E row u).1=256 then (uplace E row u).2 else if (Cu row lb (uplace E row u).1 (uplace E row u).2).e≠0 then Cu row lb (uplace E row u).1 (uplace E row u).2 else Hz row E lb f (Cu row lb (uplace E row u).1 (uplace E row u).2):=by unfold Hz;rw[NL]
theorem Kf (row:List Bool)(E lb:List Int):∀(f:Nat) (u:US),u.p<=row.length->u.out.length<=3000->(Hz row E lb f u).e=0->Ahd row u (Hz row E lb f u)
 |0,u,hp,ho,h=>by have a1:=Xm E row u hp ho;unfold Hz;split;exact a1;exact a1
 |f+1,u,hp,ho,h=>by have a1:=Xm E row u hp ho;rw[Hy]at h ⊢;generalize uplace E row u=r at*;split;exact a1;. rename_i c1;rw[kab c1]at h;split;exact a1;. rename_i c2;rw[kab c2]at h;split;(. rename_i dt;exact zQ);. rename_i dt;rw[kab dt]at h;have a2:=Z5 lb r.1 r.2 a1.le a1.out om;exact(a1.trans a2).trans (Kf row E lb f _ a2.le a2.out h)
theorem EK (row:List Bool)(u:US)(U:(u.p+7)/8*8<=row.length)(ac:u.out.length<=3000)(h:(Cn row u).e=0):Ahd row u (Cn row u):=by obtain⟨r1,E,I⟩:∃r1 E,uget row 16 {u with p:=(u.p+7)/8*8}=(r1,E):=⟨_,_,rfl⟩;obtain⟨r2,v2,H⟩:∃r2 v2,uget row 16 E=(r2,v2):=⟨_,_,rfl⟩;have a1:=A3 row 16 {u with p:=(u.p+7)/8*8} U ac;rw[I]at a1;have a2:=A3 row 16 E a1.le a1.out;rw[H]at a2;rw[Yn row u E v2 _ r1 r2 rfl I H]at h ⊢;split;(. rename_i c;exact bH);. rename_i c;rw[kab c]at h;split;(. rename_i c2;rw[kac c2]at h;exact jU);. rename_i c2;rw[kab c2]at h;split;(. rename_i G;rw[kac G]at h;exact zC);. rename_i G;rw[kab G]at h;obtain⟨s1,ae,aa⟩:=Zs h a2.le;have O:=a1.ge;have af:=a2.ge;simp only at O af;exact⟨(Sl h).trans (a2.ks.trans a1.ks),om,ae,aa a2.out⟩
theorem L9 (x:Int)(u:US):(An x u).p=u.p/\(An x u).out=u.out/\(An x u).ks=u.ks:=by unfold An;split<;>exact⟨rfl,rfl,rfl⟩
theorem Sk (row:List Bool)(u:US)(G:u.p<=row.length)(O:u.out.length<=3000)(h:(Dm row u).2.e=0):Ahd row u (Dm row u).2:=by obtain⟨A,C,v,E⟩:=sT;rw[E]at h ⊢;obtain⟨m0,n0,c0,u1,u2,u3,us,S,L,U⟩:=Hs E h;obtain⟨ac,H,I,aa⟩:=Sj U G;exact⟨aa,by show u.p<=v.p;omega,H,by show v.out.length<=3000;rw[I];exact O⟩
theorem Z10 (q:Nat)(I:row.length=8*q)(k:Nat)(u:US)(H:u.p<=row.length)(G:u.out.length<=3000)(h:(Ed row k u).e=0):k<=2/\(Ed row k u).ks=u.ks++ [k]/\u.p<=(Ed row k u).p/\(Ed row k u).p<=row.length/\(Ed row k u).out.length<=3000:=by have key:∀(j:Nat) (x:US),(Kg j x).e=0->x.e=0/\Kg j x=ukept j x:=fun j x U=>vK;unfold Ed at h ⊢;split;(. rename_i c;subst c;rw[kac rfl]at h;obtain⟨k1,k2⟩:=key _ _ h;have a:=EK row u om G k1;rw[k2];exact⟨od,by show _++ [0]=_;rw[a.ks],a.ge,a.le,a.out⟩);. rename_i c;rw[kab c]at h;split;(. rename_i c1;subst c1;rw[kac rfl]at h;obtain⟨k1,k2⟩:=key _ _ h;have a:=Kf row Pu Lj _ u H G k1;rw[k2];exact⟨od,by show _++ [1]=_;rw[a.ks],a.ge,a.le,a.out⟩);. rename_i c1;rw[kab c1]at h;split;(. rename_i c2;subst c2;rw[kac rfl]at h;split;(. rename_i dt;exact zQ);. rename_i dt;rw[kab dt]at h;obtain⟨k1,k2⟩:=key _ _ h;have E:=Sk row u H G om;have a:=E.trans (Kf row _ _ _ _ E.le E.out k1);rw[k2];exact⟨od,by show _++ [2]=_;rw[a.ks],a.ge,a.le,a.out⟩);. rename_i c2;rw[kab c2]at h;exact jU
theorem Ia (q:Nat)(aa:row.length=8*q)(u:US)(ap:u.e=0)(al:u.p<=row.length)(af:u.out.length<=3000)(h:(Bh row u).2.e=0):(Bh row u).2.ks.length=u.ks.length+1/\u.p+3<=(Bh row u).2.p/\(Bh row u).2.p<=row.length/\(Bh row u).2.out.length<=3000:=by unfold Bh at h ⊢;split;(. rename_i c;exact bH);. rename_i c;rw[kab c]at h;split;(. rename_i c2;rw[kac c2]at h;exact absurd h c2);. rename_i c2;rw[kab c2]at h;obtain⟨r1,E,H⟩:∃r1 E,uget row 1 u=(r1,E):=⟨_,_,rfl⟩;rw[H]at c c2 h ⊢;obtain⟨r2,v2,G⟩:∃r2 v2,uget row 2 E=(r2,v2):=⟨_,_,rfl⟩;simp only at c c2 h ⊢;rw[G]at c2 h ⊢;simp only at c2 h ⊢;obtain⟨ak,ar,ae,ag,_⟩:=Bj H om;obtain⟨s1,ac,ah,O,_⟩:=Bj G om;obtain⟨ao,I,aj,U,ai⟩:=Z10 q aa r2 v2 ac (by rw[ah,ae];exact af) h;exact⟨by rw[I,O,ag,VB];rfl,om,U,ai⟩
def lft (n:Nat):Nat:=if n%2=1 then (n/2)^^^3988292384 else n/2
def Jn:Nat->Nat->Nat
 |0,n=>n
 |k+1,n=>Jn k (lft n)
def Z6e (r x:Nat):Nat:=Jn 8 (r^^^x)
def Vh (r:Nat)(l:List Nat):Nat:=l.foldl Z6e r
def crcN (p:Nat)(l:List Nat):Nat:=Vh (p^^^4294967295) l^^^4294967295
theorem H9 (r:Nat):Vh r []=r:=rfl
theorem Ok (r x:Nat)(l:List Nat):Vh r (x::l)=Vh (Z6e r x) l:=rfl
theorem Y6 (k n:Nat):Jn (k+1) n=lft (Jn k n):=by
 induction k generalizing n with
 |zero=>rfl
 |succ k ih=>rw[Jn,ih,Jn]
theorem GD (a b:Nat):(a^^^b)%2=(a%2+b%2)%2:=by have h:=Nat.xor_mod_two_eq_one (a:=a) (b:=b);have E:=XF (a^^^b);have G:=XF a;have H:=XF b;rcases E with E|E<;>rcases G with G|G<;>rcases H with H|H<;>simp_all
theorem GE (a b:Nat):(a^^^b)/2=a/2^^^b/2:=by have:=Nat.shiftRight_xor_distrib (a:=a) (b:=b) (i:=1);simpa[Nat.shiftRight_eq_div_pow]using this
theorem Z9j (a b:Nat):lft (a^^^b)=lft a^^^lft b:=by unfold lft;have E:=XF a;have G:=XF b;rw[GD,GE];generalize a/2=A;generalize b/2=B;rcases E with E|E<;>rcases G with G|G<;>simp only[E,G];simp;simp[ZQ];rw[if_pos od,if_pos trivial,if_neg od,ZQ,ZQ,Nat.xor_comm B];rw[if_neg od,if_pos trivial,if_pos trivial,ZQ,Nat.xor_comm B,<-ZQ 3988292384,Nat.xor_self,Nat.zero_xor]
theorem D7:∀(k a b:Nat),Jn k (a^^^b)=Jn k a^^^Jn k b
 |0,_,_=>rfl
 |k+1,a,b=>by rw[Jn,Z9j,D7 k];rfl
theorem Z9k (y:Nat):lft (2*y)=y:=by unfold lft;rw[if_neg om];omega
theorem JD (k y:Nat):Jn k (2^k*y)=y:=by
 induction k with
 |zero=>simp[Jn]
 |succ k ih=>rw[Jn,show 2^(k+1)*y=2*(2^k*y) by rw[XI,YM (2^k) 2,YG],Z9k,ih]
theorem Zbv (h:n<4294967296):lft n<4294967296:=by unfold lft;by_cases e:n%2=1;rw[if_pos e];exact ZY (n:=32) om od;rw[if_neg e];omega
theorem Ud:∀(k:Nat) {n:Nat},n<4294967296->Jn k n<4294967296
 |0,_,h=>h
 |k+1,_,h=>Ud k (Zbv h)
theorem Zbt (k n:Nat):n=n%2^k^^^2^k*(n/2^k):=by apply Nat.eq_of_testBit_eq;intro i;rw[Nat.testBit_xor,Nat.testBit_mod_two_pow,Nat.testBit_two_pow_mul,Nat.testBit_div_two_pow];by_cases h:i<k;simp[h,show ¬(k<=i) by omega];simp[h,show k<=i by omega,show i-k+k=i by omega]
theorem Zao {x:Nat}(y:Nat)(E:x<2^k):x+2^k*y=x^^^2^k*y:=by have h:=Zbt k (x+2^k*y);rw[Nat.add_mul_mod_self_left,ZU E,Nat.add_mul_div_left _ _ (YY k),Nat.div_eq_of_lt E,VY]at h;exact h
theorem MZ (n:Nat):Jn 8 n=Jn 8 (n%256)^^^n/256:=by have h:=Zbt 8 n;(conv=>lhs;rw[h]);rw[D7,JD]
theorem Vg:∀(a b:List Nat) (r:Nat),Vh r (a++b)=Vh (Vh r a) b
 | [],_,_=>by rw[H9,XN]
 |x::a,b,r=>by rw[XV,Ok,Vg a,Ok]
theorem Vf:∀(l:List Nat) (r:Nat),(∀x∈l,x<256)->r<4294967296->Vh r l<4294967296
 | [],r,_,h=>by rw[H9];exact h
 |x::l,r,hl,h=>by rw[Ok];have G:=hl x oS;exact Vf l _ (fun y E=>hl y (by simp[E])) (Ud 8 (ZY (n:=32) h om))
theorem not_lt (h:n<4294967296):n^^^4294967295<4294967296:=ZY (n:=32) h od
theorem FI {l:List Nat}(E:∀x∈l,x<256)(h:p<4294967296):crcN p l<4294967296:=not_lt (Vf l _ E (not_lt h))
theorem Z0g (c x k:Nat):Jn (k+1) (c^^^x%2^(k+1))=lft (Jn k (c^^^x%2^k)^^^x/2^k%2):=by(have E:x%2^(k+1)=x%2^k^^^2^k*(x/2^k%2):=by rw[Nat.mod_pow_succ];exact Zao _ (UH _ (YY k)));rw[E,<-ZQ,Y6,D7,JD]
theorem Z0h (c b:Nat)(H:b<2):lft (c^^^b)=if (c%2^^^b)=1 then (c/2)^^^3988292384 else c/2:=by unfold lft;rw[GD,GE];have:b/2=0:=om;rw[this,Nat.xor_zero];have E:=XF c;have G:b=0\/b=1:=om;rcases E with E|E<;>rcases G with G|G<;>simp[E,G]
theorem BH (l:List Nat)(r x:Nat):Vh r (l++ [x])=Z6e (Vh r l) x:=by rw[Vg,Ok,H9]
def n8 (l:List UInt8):List Nat:=l.map UInt8.toNat
def o8 (l:List Nat):List UInt8:=l.map UInt8.ofNat
theorem Cf (l:List UInt8):(n8 l).length=l.length:=by simp[n8]
theorem Fg (l:List Nat):(o8 l).length=l.length:=by simp[o8]
theorem Kb (l:List UInt8):∀x∈n8 l,x<256:=by intro x E;obtain⟨y,_,rfl⟩:=WU.1 E;exact y.toNat_lt
theorem MT (l:List UInt8):o8 (n8 l)=l:=by simp[o8,n8,ZM]
theorem Z58 {l:List Nat}(h:∀x∈l,x<256):n8 (o8 l)=l:=by unfold n8 o8;rw[List.map_map];(conv=>rhs;rw[<-List.map_id l]);apply YZ;intro x E;have:=h x E;simp;omega
theorem Cq {l:List Nat}(h:∀x∈l,x<256)(j:Nat):l.getD j 0<256:=by by_cases E:j<l.length;(have e:l.getD j 0=l[j]:=by simp[List.getD,E]);rw[e];exact h _ (WO E);simp[List.getD,E]
theorem F9 {l:List Nat}(h:∀j,l.getD j 0<256):∀x∈l,x<256:=by intro x E;obtain⟨j,hj,rfl⟩:=XP E;have:=h j;exact bJ
structure En where
 f:Fl
 meth:Nat
 pk:List Nat
 crc:Nat
def Fy (b:Bool):Nat:=if b then 1 else 0
def Wt (x:En):List Nat:=Ah 20 2++Ah 0 2++Ah x.meth 2++Ah 0 4++Ah x.crc 4++Ah x.pk.length 4++Ah x.f.bytes.length 4++Ah x.f.name.length 2++Ah 11 2
def Kl (x:En):List Nat:=Ah 29297 2++Ah 7 2++Ah x.f.stamp.toNat 4++Ah x.f.node.toNat 2++Ah (Fy x.f.gone) 1
def Vw (x:En):List Nat:=Ah 67324752 4++Wt x++n8 x.f.name++Kl x++x.pk
def Tb (x:En)(p:Nat):List Nat:=Ah 33639248 4++Ah 20 2++Wt x++Ah 0 10++Ah p 4++n8 x.f.name++Kl x
def Au:List En->List Nat
 | []=> []
 |x::r=>Vw x++Au r
def Ao:Nat->List En->List Nat
 |_,[]=> []
 |p,x::r=>Tb x p++Ao (p+(Vw x).length) r
def Sa (n size at_:Nat):List Nat:=Ah 101010256 4++Ah 0 4++Ah n 2++Ah n 2++Ah size 4++Ah at_ 4++Ah 0 2
def Ba (l:List En):List Nat:=Au l++Ao 0 l++Sa l.length (Ao 0 l).length (Au l).length
theorem Np (x:En):(Wt x).length=26:=by simp[Wt,Ag]
theorem Jb (x:En):(Kl x).length=11:=by simp[Kl,Ag]
theorem Lf (x:En):(Vw x).length=41+x.f.name.length+x.pk.length:=by simp[Vw,Ag,Np,Jb,Cf];omega
theorem My (x:En)(p:Nat):(Tb x p).length=57+x.f.name.length:=by simp[Tb,Ag,Np,Jb,Cf];omega
theorem G7 (n s a:Nat):(Sa n s a).length=22:=by simp[Sa,Ag]
theorem JM:∀(a b:List En),Au (a++b)=Au a++Au b
 | [],b=>rfl
 |x::a,b=>by rw[XV,Au,JM a b,Au,VO]
theorem O5:∀(a b:List En) (p:Nat),Ao p (a++b)=Ao p a++Ao (p+(Au a).length) b
 | [],b,p=>by simp[Ao,Au]
 |x::a,b,p=>by rw[XV,Ao,O5 a b,Ao,Au,VO,VB,WV]
theorem Dg {a b:List Nat}(E:∀x∈a,x<256)(H:∀x∈b,x<256):∀x∈a++b,x<256:=by intro x G;rcases WG.1 G with h|h;exact E x h;exact H x h
theorem IY (x:En):∀y∈Wt x,y<256:=by unfold Wt;exact jP
theorem JS (x:En):∀y∈Kl x,y<256:=by unfold Kl;exact jP
theorem Z5x (x:En)(h:∀y∈x.pk,y<256):∀y∈Vw x,y<256:=by unfold Vw;exact Dg (Dg (Dg (Dg (Et _ _) (IY x)) (Kb _)) (JS x)) h
theorem Z4a (x:En)(p:Nat):∀y∈Tb x p,y<256:=by unfold Tb;exact Dg (Dg (Dg (Dg (Dg (Dg (Et _ _) (Et _ _)) (IY x)) (Et _ _)) (Et _ _)) (Kb _)) (JS x)
theorem JK:∀(l:List En),(∀x∈l,∀y∈x.pk,y<256)->∀y∈Au l,y<256
 | [],_=>fun y E=>by cases E
 |x::r,h=>Dg (Z5x x (h x oS)) (JK r (fun z G=>h z (WL _ G)))
theorem O3:∀(l:List En) (p:Nat),∀y∈Ao p l,y<256
 | [],_=>fun y E=>by cases E
 |x::r,p=>Dg (Z4a x p) (O3 r _)
theorem Z6c (n s a:Nat):∀y∈Sa n s a,y<256:=by unfold Sa;exact jP
theorem Se (l:List En)(h:∀x∈l,∀y∈x.pk,y<256):∀y∈Ba l,y<256:=Dg (Dg (JK l h) (O3 l 0)) (Z6c _ _ _)
def Iy (k:Nat)(r:List Nat):Option (List Nat×List Nat):=if r.length<k then none else some (r.take k,r.drop k)
theorem Bp (a r:List Nat)(h:a.length=k):Iy k (a++r)=some (a,r):=by unfold Iy;rw[kab uW,ZA h,ZB h]
theorem Rx (n k:Nat)(r:List Nat):Iy k (Ah n k++r)=some (Ah n k,r):=Bp _ _ (Ag k n)
theorem AE {r a q:List Nat}(h:Iy k r=some (a,q)):r=a++q/\a.length=k:=by unfold Iy at h;split at h;(. cases h);. rename_i E;simp only[YI,ZH]at h;obtain⟨rfl,rfl⟩:=h;exact⟨(YE _ _).symm,by rw[VL];omega⟩
theorem Ap {G:Type}{r:List Nat}{f:List Nat×List Nat->Option G}{y:G}(h:(Iy k r).bind f=some y):∃a q,r=a++q/\a.length=k/\f (a,q)=some y:=by
 cases E:Iy k r with
 |none=>rw[E]at h;cases h
 |some p=>rw[E]at h;exact⟨p.1,p.2,(AE E).1,(AE E).2,h⟩
def unpF (m:Nat)(pk:List Nat):Option (List Nat):=
 if m=0 then some pk
 else if m=8 then (if pk.length<=6000/\(Du (rowB pk pk.length)).e=0/\((Du (rowB pk pk.length)).p+7)/8=pk.length then some (Du (rowB pk pk.length)).out else none)
 else none
def Vx (r:List Nat):Option (En×List Nat):=
 (Iy 4 r).bind fun a1=>(Iy 2 a1.2).bind fun a2=>(Iy 4 a2.2).bind fun a3=>(Iy 4 a3.2).bind fun a4=>(Iy 4 a4.2).bind fun a5=>
 (Iy 4 a5.2).bind fun a6=>(Iy 2 a6.2).bind fun a7=>(Iy 2 a7.2).bind fun a8=>(Iy (Ak a7.1) a8.2).bind fun a9=>(Iy 4 a9.2).bind fun a10=>
 (Iy 4 a10.2).bind fun a11=>(Iy 2 a11.2).bind fun a12=>(Iy 1 a12.2).bind fun a13=>(Iy (Ak a5.1) a13.2).bind fun a14=>
 (unpF (Ak a2.1) a14.1).bind fun b=>some (⟨⟨o8 a9.1,o8 b,(Ak a11.1:Nat),(Ak a12.1:Nat),decide (Ak a13.1=1)⟩,Ak a2.1,a14.1,Ak a4.1⟩,a14.2)
def Cd:Nat->List Nat->Option (List En)
 |0,_=>none
 |F+1,r=>(Iy 4 r).bind fun m=>if Ak m.1=67324752 then (Vx m.2).bind fun x=>(Cd F x.2).map (x.1:: ·)else some []
theorem Uz {r:List Nat}{x:En}{q:List Nat}(h:Vx r=some (x,q)):q.length+37<=r.length/\((∀z∈r,z<256)->(∀z∈x.pk,z<256)/\∀z∈q,z<256)/\∀t,Vx (r++t)=some (x,q++t):=by
 unfold Vx at h;obtain⟨a1,r1,rfl,l1,h⟩:=Ap h;dsimp only at h;obtain⟨a2,r2,rfl,l2,h⟩:=Ap h;dsimp only at h;obtain⟨ax,ao,rfl,ag,h⟩:=Ap h;dsimp only at h;obtain⟨a5,au,rfl,ah,h⟩:=Ap h;dsimp only at h;obtain⟨az,a3,rfl,aa,h⟩:=Ap h;dsimp only at h;obtain⟨ba,ar,rfl,ak,h⟩:=Ap h;dsimp only at h;obtain⟨ap,av,rfl,ai,h⟩:=Ap h;dsimp only at h;obtain⟨al,bf,rfl,af,h⟩:=Ap h;dsimp only at h;obtain⟨a8,a9,rfl,aj,h⟩:=Ap h;dsimp only at h;obtain⟨ay,aw,rfl,l10,h⟩:=Ap h;dsimp only at h;obtain⟨a6,a4,rfl,I,h⟩:=Ap h;dsimp only at h;obtain⟨bd,bc,rfl,O,h⟩:=Ap h;dsimp only at h;obtain⟨bg,a7,rfl,U,h⟩:=Ap h;dsimp only at h;obtain⟨ac,bb,rfl,ae,h⟩:=Ap h;dsimp only at h
 cases G:unpF (Ak a2) ac with
 |none=>rw[G]at h;cases h
 |some b=>rw[G]at h;simp only[VS,YI,ZH]at h;obtain⟨rfl,rfl⟩:=h;refine⟨?_,fun H=>⟨fun z E=>H z (by simp[E]),fun z E=>H z (by simp[E])⟩,fun t=> ?_⟩;simp only[VB];omega;unfold Vx;simp only[VO];rw[Bp _ _ l1,VS];dsimp only;rw[Bp _ _ l2,VS];dsimp only;rw[Bp _ _ ag,VS];dsimp only;rw[Bp _ _ ah,VS];dsimp only;rw[Bp _ _ aa,VS];dsimp only;rw[Bp _ _ ak,VS];dsimp only;rw[Bp _ _ ai,VS];dsimp only;rw[Bp _ _ af,VS];dsimp only;rw[Bp _ _ aj,VS];dsimp only;rw[Bp _ _ l10,VS];dsimp only;rw[Bp _ _ I,VS];dsimp only;rw[Bp _ _ O,VS];dsimp only;rw[Bp _ _ U,VS];dsimp only;rw[Bp _ _ ae,VS];dsimp only;rw[G];rfl
theorem OO:∀ {F:Nat} {r:List Nat} {l:List En},Cd F r=some l->∀t,Cd F (r++t)=some l
 |0,r,l,h,t=>by cases h
 |F+1,r,l,h,t=>by
  unfold Cd at h ⊢;obtain⟨m,q,rfl,hl,h⟩:=Ap h;dsimp only at h;rw[VO,Bp _ _ hl,VS];dsimp only;split at h
  . rename_i hm;rw[kac hm]
    cases E:Vx q with
    |none=>rw[E]at h;cases h
    |some p=>rw[E]at h;rw[(Uz (x:=p.1) (q:=p.2) E).2.2 t,VS];simp only[VS,XK]at h ⊢;obtain⟨l2,G,H⟩:=h;exact⟨l2,OO G t,H⟩
  . rename_i hm;rw[kab hm];exact h
theorem Uw:∀ {F:Nat} {r:List Nat} {l:List En},Cd F r=some l->(∀z∈r,z<256)->∀x∈l,∀z∈x.pk,z<256
 |0,r,l,h,_=>by cases h
 |F+1,r,l,h,hv=>by
  unfold Cd at h;obtain⟨m,q,rfl,hl,h⟩:=Ap h;dsimp only at h;split at h
  . cases G:Vx q with
    |none=>rw[G]at h;cases h
    |some p=>rw[G]at h;simp only[VS,XK]at h;obtain⟨l2,I,rfl⟩:=h;have H:=(Uz (x:=p.1) (q:=p.2) G).2.1 (fun z O=>hv z (by simp[O]));intro x E;rcases VV.1 E with rfl|E;exact H.1;exact Uw I H.2 x E
  . cases h;intro x E;cases E
structure EOk (x:En):Prop where
 st:0<=x.f.stamp/\x.f.stamp<4294967296
 nd:0<=x.f.node/\x.f.node<65536
 nm:x.f.name.length<65536
 pl:x.pk.length<4294967296
 cr:x.crc<4294967296
 mt:x.meth<65536
 un:unpF x.meth x.pk=some (n8 x.f.bytes)
theorem Z69 (x:En)(h:EOk x)(t:List Nat):Vx (Wt x++n8 x.f.name++Kl x++x.pk++t)=some (x,t):=by(have e:Wt x++n8 x.f.name++Kl x++x.pk++t=(Ah 20 2++Ah 0 2)++(Ah x.meth 2++(Ah 0 4++(Ah x.crc 4++(Ah x.pk.length 4++(Ah x.f.bytes.length 4++(Ah x.f.name.length 2++(Ah 11 2++(n8 x.f.name++((Ah 29297 2++Ah 7 2)++(Ah x.f.stamp.toNat 4++(Ah x.f.node.toNat 2++(Ah (Fy x.f.gone) 1++(x.pk++t))))))))))))):=by simp only[Wt,Kl,VO]);obtain⟨⟨U,st1⟩,⟨I,ac⟩,nm,pl,cr,mt,un⟩:=h;have o1:Ak (Ah x.meth 2)=x.meth:=Ck 2 _ mt;have o2:Ak (Ah x.crc 4)=x.crc:=Ck 4 _ cr;have E:Ak (Ah x.pk.length 4)=x.pk.length:=Ck 4 _ pl;have aa:Ak (Ah x.f.name.length 2)=x.f.name.length:=Ck 2 _ nm;have G:Ak (Ah x.f.stamp.toNat 4)=x.f.stamp.toNat:=Ck 4 _ (by show _<4294967296;omega);have H:Ak (Ah x.f.node.toNat 2)=x.f.node.toNat:=Ck 2 _ (by show _<65536;omega);have O:Ak (Ah (Fy x.f.gone) 1)=Fy x.f.gone:=Ck 1 _ (by unfold Fy;split<;>decide);rw[e];unfold Vx;rw[Bp _ _ (show (Ah 20 2++Ah 0 2).length=4 from rfl)];simp only[VS,Rx,o1,o2,E,aa];rw[Bp _ _ (Cf x.f.name)];simp only[VS];rw[Bp _ _ (show (Ah 29297 2++Ah 7 2).length=4 from rfl)];simp only[VS,Rx,G,H,O];rw[Bp _ _ rfl];simp only[VS,un,MT,YI,ZH,and_true];have e1:((x.f.stamp.toNat:Nat):Int)=x.f.stamp:=ZD U;have e2:((x.f.node.toNat:Nat):Int)=x.f.node:=ZD I;(have e3:decide (Fy x.f.gone=1)=x.f.gone:=by cases x.f.gone<;>rfl);rw[e1,e2,e3]
theorem Yz:∀(l:List En) {F:Nat} {t:List Nat},(∀x∈l,EOk x)->l.length<F->(∃m q,Iy 4 t=some (m,q)/\Ak m≠67324752)->Cd F (Au l++t)=some l
 | [],0,t,_,h,_=>by cases h
 | [],F+1,t,_,_,⟨m,q,h1,h2⟩=>by unfold Cd;show (Iy 4 t).bind _=_;rw[h1,VS];dsimp only;rw[kab h2]
 |x::l,0,t,_,h,_=>by cases h
 |x::l,F+1,t,h,hF,ht=>by unfold Cd;(have e:Au (x::l)++t=Ah 67324752 4++(Wt x++n8 x.f.name++Kl x++x.pk++(Au l++t)):=by simp only[Au,Vw,VO]);have hm:Ak (Ah 67324752 4)=67324752:=Ck 4 _ od;rw[e,Rx,VS];dsimp only;rw[kac hm,Z69 x (h x oS),VS];dsimp only;rw[Yz l (fun y E=>h y (WL _ E)) (by simpa using hF) ht];rfl
theorem BC (l:List En)(h:∀x∈l,EOk x)(t:List Nat)(E:l.length<F):Cd F (Ba l++t)=some l:=by
 unfold Ba;rw[VO,VO];refine Yz l h E ?_
 cases l with
 |nil=>refine⟨Ah 101010256 4,(Sa 0 0 0).drop 4++t, ?_,by rw[Ck 4 _ od];decide⟩;exact Bp (Ah 101010256 4) ((Sa 0 0 0).drop 4++t) rfl
 |cons x r=>refine⟨Ah 33639248 4,Ah 20 2++(Wt x++(Ah 0 10++(Ah 0 4++(n8 x.f.name++(Kl x++(Ao (0+(Vw x).length) r++(Sa (x::r).length (Ao 0 (x::r)).length (Au (x::r)).length++t))))))), ?_,by rw[Ck 4 _ od];decide⟩;rw[<-Rx];simp only[Ao,Tb,VO]
theorem QA (l:List En):l.length+22<=(Ba l).length:=by
 have:∀l:List En,l.length<=(Au l).length:=by
  intro l
  induction l with
  |nil=>exact VF _
  |cons x r ih=>rw[Au,VB,Lf,VG];omega
 have h:=this l;unfold Ba;rw[VB,VB,G7];omega
theorem KO (l:List En):l.length<(Ba l).length+1:=by have:=QA l;omega
def sumsF (l:List En):Bool:=l.all fun x=>decide (x.crc=crcN 0 (n8 x.f.bytes))
def readE (b:List Nat):Nat:=
 if 12000<b.length then 2
 else match Cd (b.length+1) b with
  |none=>7
  |some l=>if errM (l.map En.f)≠0\/Ba l≠b then 7 else if sumsF l=false then 10 else 0
def readL (b:List Nat):List Fl:=if readE b≠0 then []else ((Cd (b.length+1) b).getD []).map En.f
theorem To {b:List Nat}(h:readE b=0):∃l,Cd (b.length+1) b=some l/\errM (l.map En.f)=0/\Ba l=b/\sumsF l=true/\readL b=l.map En.f/\b.length<=12000:=by
 (have G:readL b=((Cd (b.length+1) b).getD []).map En.f:=by unfold readL;rw[kab (by rw[h];decide)]);unfold readE at h;split at h;. cases h
 . rename_i hb
   cases E:Cd (b.length+1) b with
   |none=>rw[E]at h;cases h
   |some l=>rw[E]at h G;dsimp only at h;split at h;(. cases h);. rename_i hc;split at h;(. cases h);. rename_i H;refine⟨l,rfl, ?_, ?_, ?_,G,om⟩;by_cases e:errM (l.map En.f)=0;exact e;exact absurd (.inl e) hc;by_cases e:Ba l=b;exact e;exact absurd (.inr e) hc;. cases e:sumsF l;exact absurd e H;rfl
theorem U8 (l:List En)(h:∀x∈l,EOk x)(O:errM (l.map En.f)=0)(I:sumsF l=true)(U:(Ba l).length<=12000):readE (Ba l)=0/\readL (Ba l)=l.map En.f:=by(have G:Cd ((Ba l).length+1) (Ba l)=some l:=by have:=BC l h [] (KO l);rwa [XB]at this);(have H:readE (Ba l)=0:=by unfold readE;rw[kab om,G];dsimp only;rw[kab (by intro E;rcases E with E|E;exact E O;exact E rfl),kab (by rw[I];decide)]);refine⟨H, ?_⟩;unfold readL;rw[kab (by rw[H];decide),G];rfl
end Go.Proofs.YtleocpdblhbimaaGreatDoor
namespace Go.Proofs.YtleocpdblhbimaaGreatDoor
open Go.RowKit Go.Proofs.Tryz
open Go.Value (int)
open Go.IntKind (i64)
variable{ag h5:Array Oper}{gn:Bool}{Q:Exit->Act->World->Prop}{af bs ys:List Nat}{al:List Oper}{au:List Value}{G X aa ac ai ak b c cr e g j k mt n nd p st:Nat}{o:Oper}{a ah ap:Option Addr}{r:Option Nat}{E v v':Value}{O W ao w w' wr:World}
def KpT (w w':World):Prop:=∀(g:Nat) (cs:Array Value) (t:TypeId) (fz:Nat×Nat),t≠5->t≠101->w.heap[g]? =some (Obj.cells cs t fz)->w'.heap[g]? =some (Obj.cells cs t fz)
theorem KpT.refl (w:World):KpT w w:=fun _ _ _ _ _ _ h=>h
theorem KpT.trans {a b c:World}(h:KpT a b)(k:KpT b c):KpT a c:=fun g cs t fz E G H=>k g cs t fz E G (h g cs t fz E G H)
theorem KpT.below (h:Below w.heap.size w w'):KpT w w':=fun g cs t fz _ _ E=>(h.block g (VD.1 E).1).trans E
structure ZC (B:Nat)(w:World)(b:Nat)(xs:List Nat)(ov:Value):Prop where
 base:B<=b
 cell:w.heap[b]? =some (.cells #[ov] 101 (0,0))
 own:w.ownsRow (b+1) 5 1 ov xs.length (u8s xs)
theorem ZC.lt {B:Nat}{xs:List Nat}(h:ZC B w b xs E):b<w.heap.size:=(VD.1 h.cell).1
structure ZUp (B:Nat)(w:World)(b:Nat)(xs:List Nat)(w':World):Prop where
 is:∃ov,ZC B w' b xs ov
 below:Below B w w'
 kp:KpT w w'
theorem ZUp.refl {B:Nat}{xs:List Nat}(h:ZC B w b xs E):ZUp B w b xs w:=⟨⟨E,h⟩,kaa _ _,KpT.refl _⟩
theorem ZUp.trans {B:Nat}{xs:List Nat}(h:ZUp B w b xs O)(k:ZUp B O b ys ao):ZUp B w b ys ao:=⟨k.is,h.below.trans k.below,h.kp.trans k.kp⟩
theorem ZC.later {B:Nat}{xs:List Nat}(h:ZC B w b xs E)(G:Below w.heap.size w w'):ZC B w' b xs E:=
 ⟨h.base,(G.block b h.lt).trans h.cell,Bv h.own (fun g H=>G.block g (h.own.lt g H).2)⟩
theorem ZC.apart {B:Nat}{xs:List Nat}(h:ZC B w b xs E):E.ownBlock=none\/E.ownBlock≠some b:=by
 cases G:E.ownBlock with
 |none=>exact .inl rfl
 |some g=>refine .inr (fun e=> ?_);have:=(h.own.lt g G).1;cases e;omega
theorem Ri {B:Nat}{xs:List Value}(h:w.ownsRow B e ac v n xs)(G:v.ownBlock=some g):∃cs,w.heap[g]? =some (.cells cs e (0,0)):=by(rcases h.2 with ⟨E,_⟩|⟨O,cap,cur,E,I,H,_⟩);(. subst E;cases G);. subst E;cases G;exact⟨_,H⟩
theorem ZC.put {B:Nat}{r:World}{xs:List Nat}(h:ZC B r b xs E)(I:r.grownBy W none)(H:W.grownBy w' E.ownBlock)(ac:w'.ownsRow (b+1) 5 1 v' (xs.length+ys.length) (u8s xs++u8s ys)):w'.cell? ⟨b,0,none⟩=some E/\w'.frozen? ⟨b,0,none⟩=false/\ZUp B r b (xs++ys) (w'.setCell ⟨b,0,none⟩ v'):=by
 have ae:=h.lt;have ar:=I.size;have av:=H.size;have ak:W.heap[b]? =some (.cells #[E] 101 (0,0)):=(I.block b ae oS).trans h.cell;have U:w'.heap[b]? =some (.cells #[E] 101 (0,0)):=(H.block b om (fun e=>by rcases h.apart with h|h;rw[h]at e;cases e;exact h e.symm)).trans ak;have O:=Ad w' b 0 v'
 have ah:v'.ownBlock=none\/v'.ownBlock≠some b:=by
  cases al:v'.ownBlock with
  |none=>exact .inl rfl
  |some g=>refine .inr (fun e=> ?_);have:=(ac.lt g al).1;cases e;omega
 have aa:=h.base;refine⟨Ac U,kag w' b 0 _ _ U,⟨v',aa, ?_, ?_⟩, ?_, ?_⟩;rw[kah w' b 0 _ _ _ U];rfl;have:=ac.kept O ah;rw[VB,u8s,XC];exact this;have ai:=(kaa B r).grown I om (fun g e=>by cases e);have b1:=ai.grown H om (fun g e=>by have:=(h.own.lt g e).1;omega);exact b1.grown O om (fun g e=>by cases e;exact aa);intro g cs t fz aj ag G;have ap:=(VD.1 G).1;have e1:W.heap[g]? =some (.cells cs t fz):=(I.block g ap oS).trans G;(have af:some g≠E.ownBlock:=by intro e;obtain⟨au,hc⟩:=Ri h.own e.symm;rw[G]at hc;injection hc with hc;injection hc with _ hc2;exact aj hc2);have e2:w'.heap[g]? =some (.cells cs t fz):=(H.block g om af).trans e1;(have ao:g≠b:=by intro e;rw[e,h.cell]at G;injection G with G;injection G with _ h4;exact ag h4.symm);exact(O.block g om (fun e=>ao (VK e))).trans e2
def PkIn (w:World)(a:Option Addr)(c:Nat)(ys:List Nat):Prop:=BytesIn w a ys/\(a=none->c=0)
theorem PkIn.below (h:PkIn w a c ys)(E:Below w.heap.size w w'):PkIn w' a c ys:=by refine⟨?_,h.2⟩;rcases h.1 with h|⟨b,o,e,hb,hc⟩;exact .inl h;exact .inr ⟨b,o,e,VC hb E.size,fun j G=>(kaj (w:=w) (a:=⟨b,_,none⟩) (E.block b hb)).trans (hc j G)⟩
theorem JG:(prog.info? 5).map (fun i=>(i.zero,i.size,i.bytes))=some (some (int .u8 0),1,1):=oR
theorem Na (w:World)(O:TypeId)(base:Nat)(v:Value)(xs ys:List Nat)(H:w.ownsRow base 5 1 v xs.length (u8s xs))(E:Option Addr)(m c:Nat)(ap:ys.length=m)(aa:PkIn w E c ys)(au:xs.length+m<=140737488355328)(ah:base<=w.heap.size):∃v' w',(Builtin.append_ #[23,23] O #[v,.slice E m c]).run prog w=.ok v' w'/\w'.ownsRow base 5 1 v' (xs.length+ys.length) (u8s xs++u8s ys)/\w.grownBy w' v.ownBlock:=by
 obtain⟨ae,hi,ag,aj,al⟩:=kas JG;subst ap
 cases E with
 |none=>have hc:c=0:=aa.2 rfl;subst hc;(have ak:ys= []:=by rcases aa.1 with h|⟨b,o,e,_⟩;exact h;. cases e);subst ak;have hr:=run_append_owned_none (P:=prog) (w:=w) base 23 O 5 ae 1 underlying23 hi v xs.length (u8s xs) H;exact⟨v,w,hr,by simpa using H,Av _ _⟩
 |some E=>
  obtain⟨v',w',ai,af,ao,_⟩:=run_append_own_at (P:=prog) w base 23 O 5 ae (int .u8 0) 1 1 underlying23 hi ag aj al rfl od v xs.length (u8s xs) H E ys.length c (u8s ys) oS (by
   intro j u U
   have G:j<ys.length:=by
    have:=(WY.1 U).1
    simpa using this
   rcases aa.1 with h|⟨b,o,e,_,ar⟩
   . subst h;simp at G
   . cases e
     have I:u=int .u8 ((ys.getD j 0:Nat):Int):=by
      simp[u8s,G]at U
      simp[List.getD,G,U]
     rw[I]
     have:=ar j G
     by_cases ac:j=0
     . subst ac;simpa[Addr.add]using this
     . simpa[Addr.add,ac]using this) (by
   intro u I
   obtain⟨x,_,rfl⟩:=WU.1 I
   rfl) ou om ah
  exact⟨v',w',ai,af,ao⟩
theorem RV {a:Act}{K:Act->World->Prop}{E:Prop}(lk:o.guard=none)(s x:Operand) (ag:o.op=.call {callee:=.builtin .append,args:= #[s,x],argTypes:= #[23,23]}) (r:World) (B b:Nat) (xs ys:List Nat) (I:Value) (aj:a.eval s=I) (O:ZC B r b xs I) (U:r.grownBy W none) (aa:Option Addr) (m c:Nat) (ak:a.eval x=.slice aa m c) (al:ys.length=m) (ao:PkIn W aa c ys) (ar:xs.length+m<=1000000) (h:∀H ae G w',w'.cell? ⟨b,0,none⟩=some I->w'.frozen? ⟨b,0,none⟩=false->Hid (ZUp B r b (xs++ys) (w'.setCell ⟨b,0,none⟩ (.slice H ae G)))->K (a.put o.dst (.slice H ae G)) w'):if Region.wanted o (yielded h5 a.tmps)=true then Oper.wp prog o a W K Q else E:=by have af:=pO;rw[kac af];have ap:=O.lt;have au:=U.size;obtain⟨v',w',hr,ac,ai⟩:=Na W o.type (b+1) I xs ys (Lb O.own U) aa m c al ao om om;obtain⟨c1,c2,ah⟩:=O.put U ai ac;obtain⟨H,G,rfl⟩:=Am ac;unfold Oper.wp execOp;simp only[ag,resolve,invoke,builtin,kbc,kbp,kbe,YP,WN,YT,aj,ak,hr];exact h H _ G w' c1 c2 (Ab ah)
theorem LU (l:List UInt8):Lib.strCells (B l)=u8s (n8 l):=by simp[Lib.strCells,B,u8s,n8,ZM]
theorem RU {a:Act}{K:Act->World->Prop}{E:Prop}(lk:o.guard=none)(s x:Operand) (al:o.op=.call {callee:=.builtin .append,args:= #[s,x],argTypes:= #[23,9]}) (r:World) (ae b:Nat) (xs:List Nat) (l:List UInt8) (I:Value) (ar:a.eval s=I) (O:ZC ae r b xs I) (aa:r.grownBy W none) (au:a.eval x=.string (B l)) (aw:xs.length+l.length<=1000000) (h:∀H af G w',w'.cell? ⟨b,0,none⟩=some I->w'.frozen? ⟨b,0,none⟩=false->Hid (ZUp ae r b (xs++n8 l) (w'.setCell ⟨b,0,none⟩ (.slice H af G)))->K (a.put o.dst (.slice H af G)) w'):if Region.wanted o (yielded h5 a.tmps)=true then Oper.wp prog o a W K Q else E:=by have aj:=pO;rw[kac aj];have av:=O.lt;have ax:=aa.size;obtain⟨ai,hi,ag,ah,ak⟩:=kas JG;(have ac:(B l).size=l.length:=by simp[B,ByteArray.size]);obtain⟨v',w',hr,U,ap,_⟩:=Lib.run_append_own_string (P:=prog) W (b+1) 23 9 o.type 5 ai underlying23 underlying9 hi ag ah ak I xs.length (u8s xs) (Lb O.own aa) (B l) (by rw[ac];unfold maxLen;omega) (by rw[ac];omega) om;rw[ac,LU,<-Cf]at U;obtain⟨c1,c2,ao⟩:=O.put aa ap U;obtain⟨H,G,rfl⟩:=Am U;unfold Oper.wp execOp;simp only[al,resolve,invoke,builtin,kbc,kbp,kbe,YP,WN,YT,ar,au,hr];exact h H _ G w' c1 c2 (Ab ao)
theorem BytesIn.cut {xs:List Nat}(h:BytesIn w a xs)(q:Nat):BytesIn w a (xs.take q):=by rcases h with rfl|⟨b,o,rfl,hb,H⟩;exact .inl oS;refine .inr ⟨b,o,rfl,hb,fun j G=> ?_⟩;(have E:j<q/\j<xs.length:=by rw[VL]at G;omega);(have e:(xs.take q).getD j 0=xs.getD j 0:=by simp only[List.getD];rw[XR E.1]);rw[e];exact H j E.2
theorem Tu {B:Nat}(h:w.ownsRow B 5 1 v n (u8s ys)):∃a c,v=.slice a n c/\PkIn w a c ys/\n<=c/\ys.length=n/\∀g o,a=some ⟨g,o,none⟩->B<=g:=by(have hl:ys.length=n:=by have:=h.1;simpa using this);obtain⟨_,a,c,I,H⟩:=BytesIn.ofOwn h;subst I;(rcases h.2 with ⟨E,G⟩|⟨g,cap,cur,E,G,U,O,_⟩);(. cases E;exact⟨none,0,rfl,⟨H,fun _=>rfl⟩,om,hl,fun g o e=>by cases e⟩);. cases E;exact⟨_,_,rfl,⟨H,fun e=>by cases e⟩,O,hl,fun aa o e=>by cases e;exact G⟩
theorem B6 (a:Option Addr)(p:Nat)(h:p<=n)(af:n<=ac)(O:a=none->ac=0):∃E,(∀W:World,(Instr.slice 23 (.slice a n ac) (some (int i64 (p:Int))) none none).run prog W=.ok (.slice E (n-p) (ac-p)) W)/\(∀b o,a=some ⟨b,o,none⟩->p<n->E=some ⟨b,o+p,none⟩)/\(E=none->ac-p=0):=by
 have I:=Tryz.sizeOf5;have G:=underlying23;have aa:(p:Int)<=n:=om
 cases a with
 |none=>have:=O rfl;subst this;obtain rfl:n=0:=om;obtain rfl:p=0:=om;exact⟨none,fun W=>by simp[go_sem,G],fun b o e=>(by cases e),fun _=>rfl⟩
 |some ad=>by_cases H:ac=p;subst H;obtain rfl:n=ac:=om;refine⟨some ad,fun W=> ?_,fun b o e U=>om,fun e=>by cases e⟩;simp[go_sem,G,I];. have ae:(p:Int)<ac:=om;refine⟨some (ad.add p),fun W=> ?_,fun b o e U=> ?_,fun e=>by cases e⟩;(. simp[go_sem,G,I,aa,H];try omega);. cases e;unfold Addr.add;split<;>simp_all
theorem TD (H:PkIn w a ac bs)(ae:bs.length=n)(I:∀b o,a=some ⟨b,o,none⟩->p<n->ah=some ⟨b,o+p,none⟩)(G:ah=none->k=0):PkIn w ah k (bs.drop p):=by refine⟨?_,G⟩;by_cases U:p<n;obtain⟨g,o,e,aa,O⟩:=Cb H.1 om;refine .inr ⟨g,o+p,I g o e U,aa,fun j E=> ?_⟩;rw[VR]at E;(have e2:(bs.drop p).getD j 0=bs.getD (p+j) 0:=by simp only[List.getD];rw[XL]);rw[e2,WV];exact O (p+j) om;exact .inl (XE om)
theorem Pm (E:PkIn w a ac bs)(q:Nat):PkIn w a ac (bs.take q):=⟨E.1.cut q,E.2⟩
theorem Z1u (h:∀x∈bs,x<256)(q:Nat):∀x∈bs.drop q,x<256:=fun x E=>h x (WM E)
theorem RO (h:∀x∈bs,x<256)(q:Nat):∀x∈bs.take q,x<256:=fun x E=>h x (VU E)
def PIn (w:World)(v:Value)(bs:List Nat):Prop:=∃a c,v=.slice a bs.length c/\bs.length<=c/\PkIn w a c bs
theorem PIn.below (h:PIn w v bs)(I:Below w.heap.size w w'):PIn w' v bs:=by obtain⟨a,c,E,G,H⟩:=h;exact⟨a,c,E,G,H.below I⟩
theorem PIn.nil (w:World):PIn w (.slice none 0 0) []:=⟨none,0,rfl,VA _,.inl rfl,fun _=>rfl⟩
theorem GA (n:Nat):(Builtin.zeroCells (Value.int .u8 0).cells n).toList=u8s (List.replicate n 0):=by show (Builtin.zeroCells #[Value.int .u8 0] n).toList=_;exact jA
theorem Qt (w:World)(ag:TypeId)(n:Nat)(af:0<n)(ak:n<=281474976710656):∃c w',(Builtin.append_ #[23,3] ag #[.slice none 0 0,int i64 (n:Int)]).run prog w=.ok (.slice (some ⟨w.heap.size,0,none⟩) n c) w'/\n<=c/\c<=maxLen/\w'.heap[w.heap.size]? =some (.cells (u8s (List.replicate c 0)).toArray 5 (0,0))/\w.grownBy w' none:=by obtain⟨aj,hi,ac,ae,H⟩:=kas Gq;have E:=grownCap_ge w n 0 5;have aa:=grownCap_le_maxLen w n 0 5 ou;have O:n≠0:=om;have ai:¬(9223372036854775807<(n:Int)):=om;have ah:¬((n:Int)<0):=om;have U:¬(281474976710656<(n:Int)):=om;(have I:¬(281474976710656<Builtin.nextslicecap n 0):=by rw[nextslicecap_zero af];omega);have G:=mM;refine⟨grownCap w n 0 5,w.drew.alloc (.cells (Builtin.zeroCells (Value.int .u8 0).cells n++Builtin.zeroCells (Value.int .u8 0).cells (grownCap w n 0 5-n)) 5), ?_,E,aa, ?_, ?_⟩;simp[Builtin.append_,ka0 underlying23,ka0 underlying3,sizeOf,typeInfo,zeroValue,hi,ac,ae,H,asInt,asIntOf,G,ah,U,O,ai,I,Question.forced,run_firstCells_none,newRow,grownCap];have:=kae w.drew (.cells (Builtin.zeroCells (Value.int .u8 0).cells n++Builtin.zeroCells (Value.int .u8 0).cells (grownCap w n 0 5-n)) 5);rw[show w.drew.heap.size=w.heap.size from rfl]at this;rw[this];congr 2;apply Array.ext';rw[Array.toList_append,GA,GA];show _=u8s (List.replicate (grownCap w n 0 5) 0);unfold u8s;rw[<-XC,List.replicate_append_replicate];congr 2;omega;exact wV
theorem Lo (w:World){a:Act}(E:o.guard=none)(s x:Operand) (G:o.op=.call {callee:=.builtin .append,args:= #[s,x],argTypes:= #[23,3]}) (n:Nat) (O:a.eval s=.slice none 0 0) (ae:a.eval x=int i64 (n:Int)) (aa:0<n) (af:n<=281474976710656) (h:∀c w',n<=c->c<=maxLen->w'.heap[w.heap.size]? =some (.cells (u8s (List.replicate c 0)).toArray 5 (0,0))->w.grownBy w' none->wpList prog ag Q al (a.put o.dst (.slice (some ⟨w.heap.size,0,none⟩) n c)) w'):wpList prog ag Q (o::al) a w:=by refine kb1 E fun K hK=> ?_;obtain⟨c,w',hr,H,ac,I,U⟩:=Qt w o.type n aa af;unfold Oper.wp execOp;simp only[G,resolve,invoke,builtin,kbc,kbp,kbe,YP,WN,YT,O,ae,hr];exact hK _ _ (h c w' H ac I U)
theorem Z1a (w:World)(U:0<n)(ae:n<=281474976710656):Calls prog 47 #[.slice none 0 0,int i64 (n:Int)] w fun e w'=>∃c,n<=c/\e=.returned (.slice (some ⟨w.heap.size,0,none⟩) 0 c)/\w'.ownsRow w.heap.size 5 1 (.slice (some ⟨w.heap.size,0,none⟩) 0 c) 0 (u8s [])/\Below w.heap.size w w':=by go_enter func47,ntmps47;go_wp2_with (refine Lo w rfl (.tmp 20) (.tmp 21) rfl n rfl rfl U ae ?_);intro c aa ac O G E;have I:=Ab (Li (kaa w.heap.size w) E (VA _));have H:Hid (aa.ownsRow w.heap.size 5 1 (.slice (some ⟨w.heap.size,0,none⟩) 0 c) 0 (u8s [])):=⟨rfl,.inr ⟨w.heap.size,c,_,rfl,VA _,G,VF _,O,oS,rfl⟩⟩;clear G E;go_wp2;go_ret;exact⟨c,ac,rfl,H,I⟩
theorem C0 (w:World)(O:TypeId)(base x:Option Addr)(n G c:Nat)(h:n<=G):(Builtin.append_ #[23,23] O #[.slice base n G,.slice x 0 c]).run prog w=.ok (.slice base n G) w:=by
 obtain⟨E,hi,aa,I,U⟩:=kas Gq
 have H:(Builtin.firstCells E.size 0 (.slice x 0 c)).run prog w=.ok #[] w:=by
  cases x with
  |none=>exact run_firstCells_none w E.size 0 0 c
  |some b=>exact run_firstCells_some w E.size 0 b 0 c [] oS oS
 rw[I]at H;cases base<;>simp[Builtin.append_,ka0 underlying23,sizeOf,typeInfo,hi,I,Builtin.lenOf,H,h,storeCells]
theorem Jk (w:World){a:Act}(G:o.guard=none)(s x:Operand) (H:o.op=.call {callee:=.builtin .append,args:= #[s,x],argTypes:= #[23,23]}) (base y:Option Addr) (n E c:Nat) (I:a.eval s=.slice base n E) (O:a.eval x=.slice y 0 c) (U:n<=E) (h:wpList prog ag Q al (a.put o.dst (.slice base n E)) w):wpList prog ag Q (o::al) a w:=by refine kb1 G fun K hK=> ?_;unfold Oper.wp execOp;simp only[H,resolve,invoke,builtin,kbc,kbp,kbe,YP,WN,YT,I,O,C0 w o.type base y n E c U];exact hK _ _ h
theorem Z19 (w:World):Calls prog 47 #[.slice none 0 0,int i64 0] w fun e w'=>e=.returned (.slice none 0 0)/\w'=w:=by go_enter func47,ntmps47;go_wp2;go_ret;trivial
def Jg (ps:List (Option Addr×Nat×List Nat)):Nat->List Nat
 |0=> []
 |k+1=>Jg ps k++(ps.getD k (none,0,[])).2.2
theorem Zac (E:List (Option Addr×Nat×List Nat))(h:j<=k):(Jg E j).length<=(Jg E k).length:=by
 induction k with
 |zero=>rw[show j=0 by omega];exact VA _
 |succ k ih=>by_cases e:j=k+1;rw[e];exact VA _;have:=ih om;rw[Jg,VB];omega
theorem FP {o:Nat}{xs:List Nat}(h:Bytes w b o xs):∀j u,(u8s xs)[j]? =some u->w.cell? ((⟨b,o,none⟩:Addr).add j)=some u:=by intro j u E;have e:=dP;(have G:j<xs.length:=by by_cases c:j<xs.length;exact c;. rw[VZ (by simp[u8s];omega)]at E;cases E);have:=h j G;rw[e,this];simp[u8s,G]at E;subst E;simp[List.getD,G]
theorem Z80 (xs:List Nat):∀u∈u8s xs,u.oneCell'=true:=by intro u E;obtain⟨x,_,rfl⟩:=WU.1 E;rfl
theorem Zc (b o G bd:Nat)(E:List (Option Addr×Nat×List Nat))(w:World)(bc:b<w.heap.size)(a5:∀j,j<G->w.cell? ⟨b,o+j,none⟩=some (.slice (E.getD j (none,0,[])).1 (E.getD j (none,0,[])).2.2.length (E.getD j (none,0,[])).2.1)) (az:∀j,j<G->BytesIn w (E.getD j (none,0,[])).1 (E.getD j (none,0,[])).2.2) (ar:(Jg E G).length<=281474976710656) (bw:G<=100):Calls prog 29 #[.slice (some ⟨b,o,none⟩) G bd] w fun e w'=>∃a c,(Jg E G).length<=c/\e=.returned (.slice a (Jg E G).length c)/\BytesIn w' a (Jg E G)/\Below w.heap.size w w'/\(a=none->c=0):=by obtain⟨bj,hi,bv,bg,bz⟩:=kas Gq;have ak:=Ab a5;have bi:=Ab az;obtain⟨T,af⟩:=exq ((Jg E G).length);rw[af]at ar;have O:=Ab af;have a9:Hid (∀k,k<=G->(Jg E k).length<=T):=Ab (fun k aw=>by rw[<-af];exact Zac E aw);clear a5 az af;go_enter func29,ntmps29;go_wp2;go_loop [3,11] (fun ba al=>∃k:Nat,k<=G/\al=int i64 (k:Int)/\ba=int i64 ((Jg E k).length:Int)) (fun _ al=>G-(intOf al).toNat);exact zG;obtain⟨k,aw,rfl,rfl⟩:=hrel;by_cases a7:k<G;(. have c1:=Aa ak k a7;have H:=nO;have bf:Hid ((Jg E (k+1)).length=(Jg E k).length+(E.getD k (none,0,[])).2.2.length):=Ab (by rw[Jg,VB]);rw[Aa bf]at H;generalize (E.getD k (none,0,[])).2.2.length=m at*;generalize (E.getD k (none,0,[])).2.1=ac at*;generalize (E.getD k (none,0,[])).1=g at*;generalize (Jg E k).length=L at*;go_wp2;go_round;exact bC;simp[intOf];omega);. obtain rfl:G=k:=om;rw[Aa O];by_cases bn:T=0;(. subst bn;go_wp2_with fail;refine(Z19 w).mono ?_;rintro e bu ⟨rfl,rfl⟩;go_wp2;go_loop [6,27] (fun ai I=>∃k:Nat,k<=G/\I=int i64 (k:Int)/\ai=.slice none 0 0) (fun _ I=>G-(intOf I).toNat);exact zG;obtain⟨k,a8,rfl,rfl⟩:=hrel;by_cases ag:k<G;(. have c1:=Aa ak k ag;have H:=nO;rw[Jg,VB]at H;have au:(E.getD k (none,0,[])).2.2.length=0:=om;rw[au]at c1;generalize (E.getD k (none,0,[])).2.1=ac at*;generalize (E.getD k (none,0,[])).1=g at*;clear H au;go_wp2_with (at_builtin;refine Jk _ rfl (.tmp 31) (.tmp 32) rfl none g 0 0 ac rfl rfl (VA _) ?_);go_round;exact⟨k+1,om,by go_num,rfl⟩;simp[intOf];omega);. obtain rfl:G=k:=om;go_wp2;go_ret;exact⟨none,0,by rw[Aa O];exact VA _,by rw[Aa O];rfl,.inl (ZR.1 O),kaa _ _,fun _=>rfl⟩);. go_wp2_with fail;refine(Z1a w om ar).mono ?_;rintro e bu ⟨c,bm,rfl,a3,ay⟩;have bh:=Ab a3;have bk:=Ab ay;clear a3 ay;go_wp2;go_loopw [6,27] (fun ai I wr=>∃k:Nat,k<=G/\I=int i64 (k:Int)/\ai=.slice (some ⟨w.heap.size,0,none⟩) (Jg E k).length c/\Hid (wr.ownsRow w.heap.size 5 1 (.slice (some ⟨w.heap.size,0,none⟩) (Jg E k).length c) (Jg E k).length (u8s (Jg E k)))/\Hid (Below w.heap.size w wr)) (fun _ I _=>G-(intOf I).toNat);exact⟨0,VF _,rfl,rfl,bh,bk⟩;obtain⟨k,a8,rfl,rfl,ae,U⟩:=hrel;by_cases ag:k<G;(. have c1:=(U.cell (p:=⟨b,o+k,none⟩) bc).trans (ak k ag);have ah:=(bi k ag).below (Aa U) (VA _);have H:=nO;have bf:Hid (Jg E (k+1)=Jg E k++(E.getD k (none,0,[])).2.2):=Ab rfl;rw[Aa bf,VB]at H;generalize (E.getD k (none,0,[])).2.2=xs at*;generalize (E.getD k (none,0,[])).1=g at*;generalize (E.getD k (none,0,[])).2.1=ac at*;rcases ah with rfl|⟨gb,go,rfl,b0,ah⟩;(. have ap:Hid (Jg E (k+1)=Jg E k):=Ab (by rw[Aa bf,XB]);simp only[WE]at c1 H;generalize aa:(Jg E k).length=L at*;clear bf;go_wp2_with (at_builtin;refine Jk _ rfl (.tmp 31) (.tmp 32) rfl _ g L c ac rfl rfl om ?_);go_roundw;exact⟨k+1,om,by go_num,by rw[Aa ap,aa],Ab (by rw[Aa ap,aa];exact Aa ae),U⟩;simp[intOf];omega);. have ax:=Ab (FP ah);obtain⟨m,hm⟩:=exq (xs.length);obtain⟨L,aa⟩:=exq ((Jg E k).length);rw[hm]at c1 H;rw[aa]at H ae ⊢;have aj:=Ab hm;have av:=Ab aa;clear ah hm aa;go_wp2_with (at_builtin;refine wpList_append_own_spare _ rfl (.tmp 31) (.tmp 32) 23 rfl w.heap.size 5 bj 1 underlying23 hi bg w.heap.size L c (u8s (Jg E k)) rfl ae ⟨gb,go,none⟩ m ac (u8s xs) rfl (by simp[u8s,Aa aj]) ax (Z80 xs) om ?_);intro ao a6 a4;(have bo:Hid (ao.ownsRow w.heap.size 5 1 (.slice (some ⟨w.heap.size,0,none⟩) (Jg E (k+1)).length c) (Jg E (k+1)).length (u8s (Jg E (k+1)))):=by rw[Aa bf,VB,Aa av,Aa aj];show ao.ownsRow w.heap.size 5 1 _ (L+m) (List.map _ (Jg E k++xs));rw[XC];exact a6);have bq:=Ab (U.grown a4 U.size (fun g e=>by cases e;exact VA _));have bb:Hid ((Jg E (k+1)).length=L+m):=Ab (by rw[Aa bf,VB,Aa av,Aa aj]);clear a6 a4 c1 ax;go_wp2;go_roundw;exact⟨k+1,om,by go_num,by rw[Aa bb],bo,bq⟩;simp[intOf];omega);. obtain rfl:G=k:=om;rw[Aa O]at ae ⊢;go_wp2;go_ret;exact⟨_,c,by rw[Aa O];exact bm,by rw[Aa O];rfl,BytesIn.own ae,U,fun e=>by cases e⟩
theorem Fu (n E:Nat)(w:World)(U:n<=9223372036854775807)(O:E<=100):Calls prog 62 #[int i64 (n:Int),int i64 (E:Int)] w fun e w'=>∃a l c,e=.returned (.slice a l c)/\PIn w' (.slice a l c) (Ah n E)/\Below w.heap.size w w':=by refine(Z9i w U O).mono ?_;rintro e w' ⟨v,rfl,I,H⟩;obtain⟨a,c,rfl,k1,k2,G,_⟩:=Tu I;exact⟨a,E,c,rfl,⟨a,c,by rw[G],by rw[G];exact k2,k1⟩,H⟩
inductive PIns (w:World):List Value->List (List Nat)->Prop
 |nil:PIns w [] []
 |cons {v:Value} {b:List Nat} {vs:List Value} {bs:List (List Nat)}:PIn w v b->PIns w vs bs->PIns w (v::vs) (b::bs)
theorem PIns.rows {bs:List (List Nat)}(h:PIns w au bs):∃ps:List (Option Addr×Nat×List Nat),au=ps.map (fun p=>.slice p.1 p.2.2.length p.2.1)/\bs=ps.map (fun p=>p.2.2)/\∀p∈ps,BytesIn w p.1 p.2.2:=by
 induction h with
 |nil=>exact⟨[],rfl,rfl,fun p E=>by cases E⟩
 |cons h1 _ ih=>obtain⟨a,c,rfl,_,G⟩:=h1;obtain⟨ps,rfl,rfl,H⟩:=ih;refine⟨(a,c,_)::ps,rfl,rfl,fun p E=> ?_⟩;rcases VV.1 E with rfl|E;exact G.1;exact H p E
theorem BO:∀(ps:List (Option Addr×Nat×List Nat)) (k:Nat),k<=ps.length->Jg ps k=((ps.take k).map (fun p=>p.2.2)).flatten
 |ps,0,_=>by simp[Jg]
 |ps,k+1,h=>by rw[Jg,BO ps k om,XD,XC,List.flatten_append];simp[List.getD,VP (show k<ps.length by omega)]
theorem Id (E:List Value)(bs:List (List Nat))(A:Array Value)(t:TypeId)(n I:Nat)(h:PIns w E bs)(ag:A=E.toArray)(ah:E.length=n)(O:n<=100)(af:bs.flatten.length<=281474976710656):Calls prog 29 #[.slice (some ⟨w.heap.size,0,none⟩) n I] (w.alloc (.cells A t)) fun e w'=>∃a l c,e=.returned (.slice a l c)/\PIn w' (.slice a l c) bs.flatten/\Below w.heap.size w w':=by obtain⟨ps,rfl,rfl,ae⟩:=h.rows;(have aa:ps.length=n:=by simpa using ah);subst aa;(have e:Jg ps ps.length=(ps.map (fun p=>p.2.2)).flatten:=by rw[BO ps _ (VA _),VQ (VA _)]);refine(Zc w.heap.size 0 ps.length I ps _ oS (fun j hj=> ?_) (fun j hj=> ?_) (by rw[e];exact af) O).mono ?_;rw[VY,kbx _ _ _ _ _ _ (kae w _),ag];simp[List.getD,hj];have hm:ps.getD j (none,0,[])∈ps:=tE;exact(ae _ hm).alloc _;rintro ai w' ⟨a,c,H,rfl,G,U,ac⟩;rw[e]at H G ⊢;exact⟨a,_,c,rfl,⟨a,c,rfl,H,G,ac⟩,((kaa w.heap.size w).alloc (VA _) _).trans (U.mono oS)⟩
theorem PIns.keep {bs:List (List Nat)}(h:PIns w au bs)(E:Below w.heap.size w w'):PIns w' au bs:=by
 induction h with
 |nil=>exact .nil
 |cons h1 _ ih=>exact .cons (h1.below E) ih
theorem Z8v (k:Nat):256^k=2^(8*k):=by rw[Nat.pow_mul]
theorem ZC.new {B:Nat}{xs:List Nat}(h:ZC B w b xs E):w.cell? ⟨b,0,none⟩=some E/\w.frozen? ⟨b,0,none⟩=false:=⟨Ac h.cell,kag w b 0 _ _ h.cell⟩
theorem Zbe {y:Nat}(h:W.cell? ⟨ac,0,none⟩=some (int .u8 (y:Int))):PkIn W (some ⟨ac,0,none⟩) 1 [y]:=by
 refine⟨.inr ⟨ac,0,rfl, ?_, ?_⟩,fun e=>by cases e⟩
 . simp only[World.cell?]at h
   cases hb:W.heap[ac]? with
   |none=>rw[hb]at h;cases h
   |some o=>exact(VD.1 hb).1
 intro j hj;obtain rfl:j=0:=tH;simpa using h
theorem Z8h (k:Nat)(U:k<=10)(I:n<4294967296)(W:World):(Op.shift .shr .u32 (n:Int) .i64 (IntKind.i64.wrap (8*(k:Int)))).run prog W=.ok (int .u32 ((n/256^k:Nat):Int)) W:=by have e:IntKind.i64.wrap (8*(k:Int))=((8*k:Nat):Int):=xF;rw[e,Z8v];have O:n/2^(8*k)<=n:=YW _ _;(have G:(n:Int).fdiv (2^min (8*k) 32)=((n/2^(8*k):Nat):Int):=by rw[Int.fdiv_eq_ediv_of_nonneg _ (by exact_mod_cast VF _)];by_cases E:8*k<=32;rw[YX E];push_cast;rfl;rw[YO om];have H:n/2^(8*k)=0:=Nat.div_eq_of_lt (VC I (show (4294967296:Nat)<=2^(8*k) from VN (n:=2) (i:=32) (j:=8*k) od om));rw[H];omega);unfold Op.shift;rw[kab om,WQ];show Result.ok (Value.int .u32 ((n:Int).fdiv (2^min (8*k) 32))) W=_;rw[G]
theorem Bb (B b E n:Nat)(xs:List Nat)(w:World)(h:∃ov,ZC B w b xs ov)(az:E<=10)(ap:n<4294967296)(a3:xs.length<=900000):Calls prog 77 #[.pointer (some ⟨b,0,none⟩),int i64 (E:Int),int .u32 (n:Int)] w fun e w'=>e=.returned (.tuple #[])/\ZUp B w b (xs++Ah n E) w':=by obtain⟨ax,U⟩:=h;have H:=Ab U;clear U;go_enter func77,ntmps77;go_wp2;go_loopw [8] (fun i wr=>∃k:Nat,k<=E/\i=int i64 (k:Int)/\Hid (ZUp B w b (xs++Ah n k) wr)) (fun i _=>E-(intOf i).toNat);exact⟨0,VF _,rfl,Ab (by simpa[Ah]using ZUp.refl H)⟩;obtain⟨k,ay,rfl,O⟩:=hrel;by_cases av:k<E;(. obtain⟨ov,G⟩:=O.is;have I:=Ub k n;have ac:=Ag k n;obtain⟨c0,f0⟩:=G.new;have ar:=Z8h k om ap;obtain⟨z,ae⟩:=exq (n/256^k);rw[ae]at I ar;obtain⟨y,af⟩:=exq (z%256);rw[af]at I;have a4:IntKind.u8.wrap (z:Int)=y:=xF;have aw:∀o:Obj,(wr.alloc o).cell? ⟨b,0,none⟩=some ov:=fun o=>(ka1 wr o _ G.lt).trans c0;have ak:=Ab I;(have aa:(xs++Ah n k).length+1<=1000000:=by rw[VB,ac];omega);have ah:=Ab aa;have al:=Ab G;clear G I ac aa af ae;go_wp2;go_region_law (refine RV rfl (.tmp 15) (.tmp 21) rfl wr B b _ [y] _ rfl al uA _ 1 1 rfl rfl (Zbe (by repeat (first|with_reducible refine Z2g ?_|with_reducible exact Vr oS|with_reducible exact Z2f oS))) ah ?_;intro aj au ai w' c1 c2 ag);all_goals (have ao:Hid (ZUp B w b (xs++Ah n (k+1)) (w'.setCell ⟨b,0,none⟩ (.slice aj au ai))):=Ab (by rw[Aa ak,<-VO];exact O.trans ag);clear c1 c2 ag;go_wp2;go_roundw;exact⟨k+1,om,by go_num,ao⟩;simp[intOf];omega));. obtain rfl:E=k:=om;go_wp2;go_end0;exact⟨rfl,O⟩
theorem Hq (B b E:Nat)(xs:List Nat)(w:World)(h:∃ov,ZC B w b xs ov)(I:E<=10)(U:xs.length<=900000):Calls prog 80 #[.pointer (some ⟨b,0,none⟩),int i64 (E:Int)] w fun e w'=>e=.returned (.tuple #[])/\ZUp B w b (xs++Ah 0 E) w':=by have H:=Ab (Bb B b E 0 xs w h I od U);clear h;go_enter func80,ntmps80;go_wp2_with fail;refine H.mono ?_;rintro e w' ⟨rfl,G⟩;have O:=Ab G;clear G;go_wp2;go_end0;exact⟨rfl,O⟩
theorem Gv (h:Below w.heap.size w w'):w.grownBy w' none:=⟨h.os,h.tape,h.output,h.size,fun k E _=>h.block k E⟩
theorem W5 {B:Nat}{xs:List Value}(h:w.ownsRow B e ac v n xs)(E:Below w.heap.size w w'):w'.ownsRow B e ac v n xs:=
 h.kept (Gv E) (by cases G:v.ownBlock with
  |none=>exact .inl rfl
  |some k=>exact .inr oS)
def BsIn (w:World)(a:Option Addr)(c:Nat)(bs:List UInt8):Prop:=
 (a=none/\bs= []/\c=0)\/ (bs= []/\∃ad,a=some ad)\/∃b o,a=some ⟨b,o,none⟩/\b<w.heap.size/\bs.length<=c/\∀j,j<bs.length->w.cell? ⟨b,o+j,none⟩=some (int .u8 (((bs.getD j 0).toNat:Nat):Int))
theorem BsIn.below {B:Nat}{bs:List UInt8}(h:BsIn w a c bs)(E:Below B w w')(aa:w.heap.size<=B):BsIn w' a c bs:=by rcases h with h|h|⟨b,o,O,H,U,I⟩;exact .inl h;exact .inr (.inl h);refine .inr (.inr ?_);exact⟨b,o,O,VC H E.size,U,fun j G=>(E.cell (p:=⟨b,o+j,none⟩) oO).trans (I j G)⟩
theorem BsIn.grown {bs:List UInt8}(h:BsIn w a c bs)(G:w.grownBy w' r)(U:∀b o,a=some ⟨b,o,none⟩->some b≠r):BsIn w' a c bs:=by rcases h with h|h|⟨b,o,E,I,aa,O⟩;exact .inl h;exact .inr (.inl h);refine .inr (.inr ?_);exact⟨b,o,E,VC I G.size,aa,fun j H=>G.cell (O j H) (U b o E)⟩
abbrev IR (bs:List UInt8):List Int:=bs.map fun x:UInt8=>((x.toNat:Nat):Int)
theorem Z00 (bs:List UInt8)(j:Nat):(IR bs).getD j 0=(((bs.getD j 0).toNat:Nat):Int):=by unfold IR;by_cases h:j<bs.length;simp[List.getD,h];simp[List.getD,h]
theorem Z7a (bs:List UInt8):(IR bs).map (fun n=>UInt8.ofNat n.toNat)=bs:=by unfold IR;rw[List.map_map];(have:((fun n:Int=>UInt8.ofNat n.toNat) ∘ fun x:UInt8=>((x.toNat:Nat):Int))=id:=by funext x;simp);rw[this,List.map_id]
theorem CZ (bs:List UInt8):strOfNums (IR bs)=B bs:=by unfold strOfNums B;rw[Z7a]
theorem Ol {bs:List UInt8}(h:BsIn w a c bs):(convert 23 9 (.slice a bs.length c)).run prog w=.ok (.string (B bs)) w:=by(rcases h with ⟨rfl,rfl,rfl⟩|⟨rfl,ad,rfl⟩|⟨b,o,rfl,G,H,E⟩);exact run_convert_bytes_nil w _ _ underlying23 underlying5 0 0 _ underlying9;show (convert 23 9 (.slice (some ad) 0 c)).run prog w=.ok (.string (B [])) w;rw[run_convert_bytes_string w _ _ _ (some ad) 0 c underlying23 underlying5 underlying9];exact(run_bytesToString (P:=prog) w ad 0 c [] (by rfl)).trans rfl;have:=run_convert_bytes_arg (P:=prog) w _ _ underlying23 underlying5 b o bs.length c (IR bs) (by simp[IR]) (fun i hi=>by rw[E i hi,Z00]) _ underlying9;rw[this,CZ]
structure Fv where
 f:Fl
 a:Option Addr
 c:Nat
variable{x:Fv}
def Fv.sl (x:Fv):Value:=.slice x.a x.f.bytes.length x.c
def Fv.val (x:Fv):Value:=.agg #[.string (B x.f.name),x.sl,int i64 x.f.stamp,int i64 x.f.node,.bool x.f.gone]
def Fv.cells (x:Fv):List Value:= [.string (B x.f.name),x.sl,int i64 x.f.stamp,int i64 x.f.node,.bool x.f.gone]
structure FvIn (w:World)(x:Fv):Prop where
 bs:BsIn w x.a x.c x.f.bytes
 big:x.f.bytes.length<=140737488355328
 txt:x.f.name.length<=140737488355328
theorem FvIn.below {B:Nat}(h:FvIn w x)(E:Below B w w')(G:w.heap.size<=B):FvIn w' x:=⟨h.bs.below E G,h.big,h.txt⟩
theorem FvIn.grown (h:FvIn w x)(E:w.grownBy w' r)(G:∀b o,x.a=some ⟨b,o,none⟩->some b≠r):FvIn w' x:=⟨h.bs.grown E G,h.big,h.txt⟩
theorem FvIn.alloc (h:FvIn w x)(o:Obj):FvIn (w.alloc o) x:=h.below ((kaa w.heap.size w).alloc (VA _) o) (VA _)
def Fs (w:World)(b o:Nat)(xs:List Fv):Prop:=∀j x,xs[j]? =some x->w.cell? ⟨b,o+j*5,none⟩=some (.string (B x.f.name))/\w.cell? ⟨b,o+j*5+1,none⟩=some x.sl/\w.cell? ⟨b,o+j*5+2,none⟩=some (int i64 x.f.stamp)/\w.cell? ⟨b,o+j*5+3,none⟩=some (int i64 x.f.node)/\w.cell? ⟨b,o+j*5+4,none⟩=some (.bool x.f.gone)
structure FsIn (w:World)(ad:Option Addr)(c:Nat)(xs:List Fv):Prop where
 at_:xs= []\/∃b o,ad=some ⟨b,o,none⟩/\b<w.heap.size/\Fs w b o xs
 cap:xs.length<=c
 capm:c<=9223372036854775807
 lim:xs.length<=2199023255552
 all:∀x∈xs,FvIn w x
theorem FsIn.below {B:Nat}{xs:List Fv}(h:FsIn w ah c xs)(E:Below B w w')(ac:w.heap.size<=B):FsIn w' ah c xs:=by refine⟨?_,h.cap,h.capm,h.lim,fun x ag=>(h.all x ag).below E ac⟩;rcases h.at_ with H|⟨b,o,H,U,aa⟩;exact .inl H;refine .inr ⟨b,o,H,VC U E.size, ?_⟩;intro j x O;obtain⟨k1,k2,I,ae,af⟩:=aa j x O;have G:b<B:=om;exact⟨(E.cell (p:=⟨b,_,none⟩) G).trans k1,(E.cell (p:=⟨b,_,none⟩) G).trans k2,(E.cell (p:=⟨b,_,none⟩) G).trans I,(E.cell (p:=⟨b,_,none⟩) G).trans ae,(E.cell (p:=⟨b,_,none⟩) G).trans af⟩
theorem FsIn.nil (w:World):FsIn w none 0 []:=⟨.inl rfl,VA _,om,oS,fun x E=>by cases E⟩
theorem FsIn.get {xs:List Fv}(h:FsIn w ah c xs)(U:Below w.heap.size w w')(E:xs[k]? =some x):∃b o,ah=some ⟨b,o,none⟩/\b<w.heap.size/\w'.cell? ⟨b,o+k*5,none⟩=some (.string (B x.f.name))/\w'.cell? ⟨b,o+k*5+1,none⟩=some x.sl/\w'.cell? ⟨b,o+k*5+2,none⟩=some (int i64 x.f.stamp)/\w'.cell? ⟨b,o+k*5+3,none⟩=some (int i64 x.f.node)/\w'.cell? ⟨b,o+k*5+4,none⟩=some (.bool x.f.gone):=by rcases(h.below U (VA _)).at_ with rfl|⟨b,o,G,af,aa⟩;simp at E;. rcases h.at_ with rfl|⟨ag,ai,H,I,_⟩;simp at E;. rw[G]at H;cases H;obtain⟨k1,k2,O,ac,ae⟩:=aa k x E;exact⟨b,o,G,I,k1,k2,O,ac,ae⟩
theorem Lm {xs:List Fv}(h:k<xs.length):∃x,xs[k]? =some x/\x∈xs:=⟨xs[k],VP h,WO h⟩
abbrev fls (xs:List Fv):List Fl:=xs.map Fv.f
theorem Db (x:Fv):x.val=.agg #[.string (B x.f.name),.slice x.a x.f.bytes.length x.c,int i64 x.f.stamp,int i64 x.f.node,.bool x.f.gone]:=rfl
theorem Ea (l:List UInt8):(B l).toList=l:=by rw[ByteArray.toList_eq];rfl
theorem Ze {bs:List UInt8}(h:BsIn w a c bs):(Extern.Bytes.bytesOf (.slice a bs.length c)).run prog w=.ok (B bs) w:=by
 (rcases h with ⟨rfl,rfl,rfl⟩|⟨rfl,ad,rfl⟩|⟨b,o,rfl,I,O,H⟩);rfl;rfl
 . have:=Lib.run_loadBytesX (P:=prog) w (IR bs) ⟨b,o,none⟩ .empty (fun j x E=>by
    have G:j<bs.length:=by
     by_cases k:j<bs.length
     . exact k
     . rw[VZ (by simp[IR];omega)]at E;cases E
    have e2:=dP
    rw[e2,H j G]
    simp[IR,G]at E
    subst E
    simp[List.getD,G])
   (have hl:(IR bs).length=bs.length:=by simp[IR]);rw[hl]at this;show (Extern.Bytes.loadBytes ⟨b,o,none⟩ bs.length .empty).run prog w=_;rw[this];congr 1;(have e3:Lib.bytesOf (IR bs)=bs:=by unfold Lib.bytesOf;first|exact Z7a bs|(simp[IR]));rw[e3];simp[B,ByteArray.empty,ByteArray.emptyWithCapacity];rfl
theorem Z67 {x y:List UInt8}(h:BsIn w a c x)(E:BsIn w ah ac y):Calls prog 13 #[.slice a x.length c,.slice ah y.length ac] w fun e w'=>e=.returned (.bool (decide (x=y)))/\w'=w:=by have e1:=Ol h;have e2:=Ol E;(have e3:((B x).toList==(B y).toList)=decide (x=y):=by rw[Ea,Ea,XU,ka2,ka5]);clear h E;generalize B x=s at*;generalize B y=t at*;go_enter func13,ntmps13;go_wp2;go_ret;exact⟨rfl,rfl⟩
structure Ev where
 e:En
 fa:Option Addr
 fc:Nat
 pa:Option Addr
 pc:Nat
def Ev.cells (x:Ev):List Value:= [.string (B x.e.f.name),.slice x.fa x.e.f.bytes.length x.fc,int i64 x.e.f.stamp,int i64 x.e.f.node,.bool x.e.f.gone,int .u32 (x.e.meth:Int),.slice x.pa x.e.pk.length x.pc,int .u32 (x.e.crc:Int)]
def Ev.val (x:Ev):Value:=.agg #[.string (B x.e.f.name),.slice x.fa x.e.f.bytes.length x.fc,int i64 x.e.f.stamp,int i64 x.e.f.node,.bool x.e.f.gone,int .u32 (x.e.meth:Int),.slice x.pa x.e.pk.length x.pc,int .u32 (x.e.crc:Int)]
structure ENum (x:En):Prop where
 st:0<=x.f.stamp/\x.f.stamp<=1000000
 nd:0<=x.f.node/\x.f.node<=3
 nm:x.f.name.length<=40
 bl:x.f.bytes.length<=3000
 pl:x.pk.length<=12000
 cr:x.crc<4294967296
 mt:x.meth<65536
theorem Bf (h:n<4294967296):IntKind.u32.wrap (n:Int)=n:=by exact xF
abbrev Bx (w:World)(X:Nat)(nm:ByteArray)(fa:Option Addr)(bl fc:Nat)(st nd:Nat)(gn:Bool)(mt:Nat)(pa:Option Addr)(pl pc cr:Nat):Prop:=
 w.heap[X]? =some (.cells #[.string nm,.slice fa bl fc,int i64 (st:Int),int i64 (nd:Int),.bool gn,int .u32 (mt:Int),.slice pa pl pc,int .u32 (cr:Int)] 71 (0,0))
theorem Hg {E:ByteArray}(h:Bx w X E ah ac G st nd gn mt ap aa ai cr):w.cell? ⟨X,0,none⟩=some (.string E)/\w.cell? ⟨X,1,none⟩=some (.slice ah ac G)/\w.cell? ⟨X,2,none⟩=some (int i64 (st:Int))/\w.cell? ⟨X,3,none⟩=some (int i64 (nd:Int))/\w.cell? ⟨X,4,none⟩=some (.bool gn)/\w.cell? ⟨X,5,none⟩=some (int .u32 (mt:Int))/\w.cell? ⟨X,6,none⟩=some (.slice ap aa ai)/\w.cell? ⟨X,7,none⟩=some (int .u32 (cr:Int)):=⟨Ac h,Ac h,Ac h,Ac h,Ac h,Ac h,Ac h,Ac h⟩
theorem zx {f:Nat}{xs:List Nat}{E:ByteArray}{A:Array Value}(h:Hid (ZUp ac w b xs W/\Bx W X E ah G aa st nd gn mt ap ai ak cr))(U:Calls prog f A W fun e w'=>e=.returned (.tuple #[])/\ZUp ac W b ys w'):Calls prog f A W fun e w'=>e=.returned (.tuple #[])/\Hid (ZUp ac w b ys w'/\Bx w' X E ah G aa st nd gn mt ap ai ak cr)/\w'.cell? ⟨X,0,none⟩=some (.string E)/\w'.cell? ⟨X,1,none⟩=some (.slice ah G aa)/\w'.cell? ⟨X,2,none⟩=some (int i64 (st:Int))/\w'.cell? ⟨X,3,none⟩=some (int i64 (nd:Int))/\w'.cell? ⟨X,4,none⟩=some (.bool gn)/\w'.cell? ⟨X,5,none⟩=some (int .u32 (mt:Int))/\w'.cell? ⟨X,6,none⟩=some (.slice ap ai ak)/\w'.cell? ⟨X,7,none⟩=some (int .u32 (cr:Int)):=by refine U.mono ?_;rintro e w' ⟨O,H⟩;have I:=H.kp _ _ _ _ od od h.2;exact⟨O,Ab ⟨h.1.trans H,I⟩,Hg I⟩
theorem zy {f:Nat}{xs:List Nat}{A:Array Value}(h:Hid (ZUp ac w b xs W))(G:Calls prog f A W fun e w'=>e=.returned (.tuple #[])/\ZUp ac W b ys w'):Calls prog f A W fun e w'=>e=.returned (.tuple #[])/\Hid (ZUp ac w b ys w'):=by refine G.mono ?_;rintro e w' ⟨E,H⟩;exact⟨E,Ab (h.trans H)⟩
theorem FY (aa b:Nat)(x:Ev)(xs:List Nat)(w:World)(h:∃ov,ZC aa w b xs ov)(ap:ENum x.e)(ba:xs.length<=800000):Calls prog 78 #[.pointer (some ⟨b,0,none⟩),x.val] w fun e w'=>e=.returned (.tuple #[])/\ZUp aa w b (xs++Wt x.e) w':=by
 obtain⟨x,fa,fc,pa,pc⟩:=x;obtain⟨⟨nml,bys,lf,l0,gn⟩,mt,pk,cr⟩:=x;obtain⟨⟨ao,st1⟩,⟨au,ah⟩,ag,ac,ae,ar,ak⟩:=ap;simp only at ao st1 au ah ag ac ae ar ak;obtain⟨st,rfl⟩:=dI;obtain⟨nd,rfl⟩:=dJ;have bg:=pY;have a9:=pZ;have av:=(show Wt ⟨⟨nml,bys,(st:Int),(nd:Int),gn⟩,mt,pk,cr⟩=Ah 20 2++Ah 0 2++Ah mt 2++Ah 0 4++Ah cr 4++Ah pk.length 4++Ah bys.length 4++Ah nml.length 2++Ah 11 2 from rfl);unfold Ev.val;dsimp only;obtain⟨nm,e8⟩:=exq (B nml);obtain⟨fx,e4⟩:=exq (nml.length);obtain⟨bl,dn⟩:=exq (bys.length);obtain⟨pl,du⟩:=exq (pk.length);have kc:=dQ;rw[e4]at ag;rw[dn]at ac;rw[du]at ae;rw[e8,dn,du];obtain⟨a8,ai,aj,al⟩:=mU;have a6:=rC;have ay:=rD;have a7:=cV;clear e8 e4 dn du kc;obtain⟨ov,fj⟩:=h;have bb:=bM
 have ep:ZUp aa w b xs (w.alloc (.cells #[.string nm,.slice fa bl fc,int i64 (st:Int),int i64 (nd:Int),.bool gn,int .u32 (mt:Int),.slice pa pl pc,int .u32 (cr:Int)] 71)):=
  ⟨⟨ov,fj.later ((kaa _ _).alloc (VA _) _)⟩,(kaa aa w).alloc uI _,KpT.below ((kaa _ _).alloc (VA _) _)⟩
 obtain⟨X,af⟩:=exq (w.heap.size);rw[af]at bb;have E:=mV;have a4:=Ab af;obtain⟨c0,c1,c2,H,U,I,O,G⟩:=Hg bb;clear fj bb ep;go_enter func78,ntmps78;go_wp2_with fail;refine(zx E (Bb aa b 2 20 _ _ E.1.is od om om)).mono ?_;clear E c0 c1 c2 H U I O G;rintro e ax ⟨rfl,E,c0,c1,c2,H,U,I,O,G⟩;go_wp2_with fail;refine(zx E (Hq aa b 2 _ _ E.1.is od tZ)).mono ?_;clear E c0 c1 c2 H U I O G;rintro e bf ⟨rfl,E,c0,c1,c2,H,U,I,O,G⟩;go_wp2_with fail;refine(zx E (Bb aa b 2 mt _ _ E.1.is od om tZ)).mono ?_;clear E c0 c1 c2 H U I O G;rintro e az ⟨rfl,E,c0,c1,c2,H,U,I,O,G⟩;go_wp2_with fail;refine(zx E (Hq aa b 4 _ _ E.1.is od tZ)).mono ?_;clear E c0 c1 c2 H U I O G;rintro e aw ⟨rfl,E,c0,c1,c2,H,U,I,O,G⟩;go_wp2_with fail;refine(zx E (Bb aa b 4 cr _ _ E.1.is od om tZ)).mono ?_;clear E c0 c1 c2 H U I O G;rintro e a5 ⟨rfl,E,c0,c1,c2,H,U,I,O,G⟩;go_wp2_with fail;refine(zx E (Bb aa b 4 pl _ _ E.1.is od om tZ)).mono ?_;clear E c0 c1 c2 H U I O G;rintro e w6 ⟨rfl,E,c0,c1,c2,H,U,I,O,G⟩;go_wp2_with fail;refine(zx E (Bb aa b 4 bl _ _ E.1.is od om tZ)).mono ?_;clear E c0 c1 c2 H U I O G;rintro e a3 ⟨rfl,E,c0,c1,c2,H,U,I,O,G⟩;go_wp2_with fail;refine(zx E (Bb aa b 2 fx _ _ E.1.is od om tZ)).mono ?_;clear E c0 c1 c2 H U I O G;rintro e bc ⟨rfl,E,c0,c1,c2,H,U,I,O,G⟩;go_wp2_with fail;refine(zx E (Bb aa b 2 11 _ _ E.1.is od om tZ)).mono ?_;clear E c0 c1 c2 H U I O G;rintro e bd ⟨rfl,E,c0,c1,c2,H,U,I,O,G⟩;go_wp2;go_end0;refine⟨rfl, ?_⟩;rw[av];simp only[<-VO];rw[Aa ai,Aa aj,Aa al];exact E.1
theorem FZ (U b:Nat)(x:Ev)(xs:List Nat)(w:World)(h:∃ov,ZC U w b xs ov)(ar:ENum x.e)(a8:xs.length<=800000):Calls prog 79 #[.pointer (some ⟨b,0,none⟩),x.val] w fun e w'=>e=.returned (.tuple #[])/\ZUp U w b (xs++Kl x.e) w':=by
 obtain⟨x,fa,fc,pa,pc⟩:=x;obtain⟨⟨nml,bys,lf,l0,gn⟩,mt,pk,cr⟩:=x;obtain⟨⟨ap,st1⟩,⟨av,ak⟩,ag,ae,af,au,ao⟩:=ar;simp only at ap st1 av ak ag ae af au ao;obtain⟨st,rfl⟩:=dI;obtain⟨nd,rfl⟩:=dJ;have a9:=pY;have a7:=pZ;have sx:=(show Kl ⟨⟨nml,bys,(st:Int),(nd:Int),gn⟩,mt,pk,cr⟩=Ah 29297 2++Ah 7 2++Ah st 4++Ah nd 2++Ah (Fy gn) 1 from rfl);unfold Ev.val;dsimp only;obtain⟨nm,e8⟩:=exq (B nml);obtain⟨fx,e4⟩:=exq (nml.length);obtain⟨bl,dn⟩:=exq (bys.length);obtain⟨pl,du⟩:=exq (pk.length);have kc:=dQ;rw[e4]at ag;rw[dn]at ae;rw[du]at af;rw[e8,dn,du];obtain⟨a4,ay,a5,a6⟩:=mU;have az:=rC;have ax:=rD;have a3:=cV;clear e8 e4 dn du kc;cases gn
 . obtain⟨ov,fj⟩:=h;have bb:Bx (w.alloc (.cells #[.string nm,.slice fa bl fc,int i64 (st:Int),int i64 (nd:Int),.bool false,int .u32 (mt:Int),.slice pa pl pc,int .u32 (cr:Int)] 71)) w.heap.size nm fa bl fc st nd false mt pa pl pc cr:=kae w _
   have ep:ZUp U w b xs (w.alloc (.cells #[.string nm,.slice fa bl fc,int i64 (st:Int),int i64 (nd:Int),.bool false,int .u32 (mt:Int),.slice pa pl pc,int .u32 (cr:Int)] 71)):=
    ⟨⟨ov,fj.later ((kaa _ _).alloc (VA _) _)⟩,(kaa U w).alloc uI _,KpT.below ((kaa _ _).alloc (VA _) _)⟩
   obtain⟨X,ac⟩:=exq (w.heap.size);rw[ac]at bb;have aa:=mV;have al:=Ab ac;obtain⟨c0,c1,c2,G,O,H,I,E⟩:=Hg bb;clear fj bb ep;go_enter func79,ntmps79;go_wp2_with fail;refine(zx aa (Bb U b 2 29297 _ _ aa.1.is od om om)).mono ?_;clear aa c0 c1 c2 G O H I E;rintro e ai ⟨rfl,aa,c0,c1,c2,G,O,H,I,E⟩;go_wp2_with fail;refine(zx aa (Bb U b 2 7 _ _ aa.1.is od om tZ)).mono ?_;clear aa c0 c1 c2 G O H I E;rintro e aw ⟨rfl,aa,c0,c1,c2,G,O,H,I,E⟩;go_wp2_with fail;refine(zx aa (Bb U b 4 st _ _ aa.1.is od om tZ)).mono ?_;clear aa c0 c1 c2 G O H I E;rintro e aj ⟨rfl,aa,c0,c1,c2,G,O,H,I,E⟩;go_wp2_with fail;refine(zx aa (Bb U b 2 nd _ _ aa.1.is od om tZ)).mono ?_;clear aa c0 c1 c2 G O H I E;rintro e ah ⟨rfl,aa,c0,c1,c2,G,O,H,I,E⟩;replace aa:=Ab aa.1;clear c0 c1 c2 G H I E;go_wp2_with fail;refine(zy aa (Bb U b 1 0 _ _ aa.is od om tZ)).mono ?_;clear aa;exact vX
 . obtain⟨ov,fj⟩:=h;have bb:Bx (w.alloc (.cells #[.string nm,.slice fa bl fc,int i64 (st:Int),int i64 (nd:Int),.bool true,int .u32 (mt:Int),.slice pa pl pc,int .u32 (cr:Int)] 71)) w.heap.size nm fa bl fc st nd true mt pa pl pc cr:=kae w _
   have ep:ZUp U w b xs (w.alloc (.cells #[.string nm,.slice fa bl fc,int i64 (st:Int),int i64 (nd:Int),.bool true,int .u32 (mt:Int),.slice pa pl pc,int .u32 (cr:Int)] 71)):=
    ⟨⟨ov,fj.later ((kaa _ _).alloc (VA _) _)⟩,(kaa U w).alloc uI _,KpT.below ((kaa _ _).alloc (VA _) _)⟩
   obtain⟨X,ac⟩:=exq (w.heap.size);rw[ac]at bb;have aa:=mV;have al:=Ab ac;obtain⟨c0,c1,c2,G,O,H,I,E⟩:=Hg bb;clear fj bb ep;go_enter func79,ntmps79;go_wp2_with fail;refine(zx aa (Bb U b 2 29297 _ _ aa.1.is od om om)).mono ?_;clear aa c0 c1 c2 G O H I E;rintro e ai ⟨rfl,aa,c0,c1,c2,G,O,H,I,E⟩;go_wp2_with fail;refine(zx aa (Bb U b 2 7 _ _ aa.1.is od om tZ)).mono ?_;clear aa c0 c1 c2 G O H I E;rintro e aw ⟨rfl,aa,c0,c1,c2,G,O,H,I,E⟩;go_wp2_with fail;refine(zx aa (Bb U b 4 st _ _ aa.1.is od om tZ)).mono ?_;clear aa c0 c1 c2 G O H I E;rintro e aj ⟨rfl,aa,c0,c1,c2,G,O,H,I,E⟩;go_wp2_with fail;refine(zx aa (Bb U b 2 nd _ _ aa.1.is od om tZ)).mono ?_;clear aa c0 c1 c2 G O H I E;rintro e ah ⟨rfl,aa,c0,c1,c2,G,O,H,I,E⟩;replace aa:=Ab aa.1;clear c0 c1 c2 G H I E;go_wp2_with fail;refine(zy aa (Bb U b 1 1 _ _ aa.is od om tZ)).mono ?_;clear aa;exact vX
theorem Z3h (G b m s t:Nat)(xs:List Nat)(w:World)(h:∃ov,ZC G w b xs ov)(ac:m<=60000)(aj:s<=1000000)(ag:t<=1000000)(ao:xs.length<=800000):Calls prog 57 #[.pointer (some ⟨b,0,none⟩),int i64 (m:Int),int i64 (s:Int),int i64 (t:Int)] w fun e w'=>e=.returned (.tuple #[])/\ZUp G w b (xs++Sa m s t) w':=by have I:=(show Sa m s t=Ah 101010256 4++Ah 0 4++Ah m 2++Ah m 2++Ah s 4++Ah t 4++Ah 0 2 from rfl);have ak:=Bf (n:=m) om;have U:=Bf (n:=s) om;have ae:=Bf (n:=t) om;obtain⟨ov,H⟩:=h;have E:=Ab (ZUp.refl H);clear H;go_enter func57,ntmps57;go_wp2_with fail;refine(zy E (Bb G b 4 101010256 _ _ E.is od om om)).mono ?_;clear E;rintro e aa ⟨rfl,E⟩;go_wp2_with fail;refine(zy E (Hq G b 4 _ _ E.is od tZ)).mono ?_;clear E;rintro e ah ⟨rfl,E⟩;go_wp2_with fail;refine(zy E (Bb G b 2 m _ _ E.is od om tZ)).mono ?_;clear E;rintro e af ⟨rfl,E⟩;go_wp2_with fail;refine(zy E (Bb G b 2 m _ _ E.is od om tZ)).mono ?_;clear E;rintro e O ⟨rfl,E⟩;go_wp2_with fail;refine(zy E (Bb G b 4 s _ _ E.is od om tZ)).mono ?_;clear E;rintro e ai ⟨rfl,E⟩;go_wp2_with fail;refine(zy E (Bb G b 4 t _ _ E.is od om tZ)).mono ?_;clear E;rintro e w6 ⟨rfl,E⟩;go_wp2_with fail;refine(zy E (Hq G b 2 _ _ E.is od tZ)).mono ?_;clear E;rintro e al ⟨rfl,E⟩;go_wp2;go_end0;refine⟨rfl, ?_⟩;rw[I];simp only[<-VO];exact E
theorem Z4n (h:PkIn w a c ys)(H:Below ac w w')(aa:∀g o,a=some ⟨g,o,none⟩->ys≠ []->g<ac)(G:w'.grownBy W none):PkIn W a c ys:=by refine⟨?_,h.2⟩;by_cases E:ys= [];exact .inl E;rcases h.1 with U|⟨b,o,e,hl,hc⟩;exact absurd U E;have I:=aa b o e E;have ae:=H.size;refine .inr ⟨b,o,e,VC hl (WJ ae G.size),fun j O=> ?_⟩;have e1:w'.heap[b]? =w.heap[b]? :=H.block b I;have e2:W.heap[b]? =w'.heap[b]? :=G.block b om oS;exact(kaj (w:=w) (a:=⟨b,_,none⟩) (e2.trans e1)).trans (hc j O)
theorem Z3f (dh b:Nat)(x:Ev)(xs:List Nat)(w:World)(h:∃ov,ZC dh w b xs ov)(aw:ENum x.e)(au:PkIn w x.pa x.pc x.e.pk)(ap:∀g o,x.pa=some ⟨g,o,none⟩->x.e.pk≠ []->g<dh)(b7:xs.length<=700000):Calls prog 55 #[.pointer (some ⟨b,0,none⟩),x.val] w fun e w'=>e=.returned (.tuple #[])/\ZUp dh w b (xs++Vw x.e) w':=by
 obtain⟨x,fa,fc,pa,pc⟩:=x;obtain⟨⟨nml,bys,lf,l0,gn⟩,mt,pk,cr⟩:=x;have p9:=aw;obtain⟨⟨bh,st1⟩,⟨bm,a4⟩,ay,ao,ar,bj,bd⟩:=aw;simp only at bh st1 bm a4 ay ao ar bj bd;obtain⟨st,rfl⟩:=dI;obtain⟨nd,rfl⟩:=dJ;have b0:((st:Int)).toNat=st:=om;have b8:=pY;have b5:=pZ;have az:=(show Vw ⟨⟨nml,bys,(st:Int),(nd:Int),gn⟩,mt,pk,cr⟩=Ah 67324752 4++Wt ⟨⟨nml,bys,(st:Int),(nd:Int),gn⟩,mt,pk,cr⟩++n8 nml++Kl ⟨⟨nml,bys,(st:Int),(nd:Int),gn⟩,mt,pk,cr⟩++pk from rfl);have ac:=gG;have af:=gH;obtain⟨bg,ag⟩:=rZ;obtain⟨a7,ah⟩:=sA;(have ko:bg.length=26:=by rw[<-ag];exact Np _);(have a6:a7.length=11:=by rw[<-ah];exact Jb _);unfold Ev.val at ac af;dsimp only at ac af;rw[ag,ah]at az;rw[ag]at ac;rw[ah]at af;clear ag ah;unfold Ev.val;dsimp only;have ba:=Ab au;have a8:=Ab ap;clear au ap;obtain⟨nm,e8⟩:=exq (B nml);obtain⟨fx,e4⟩:=exq (nml.length);obtain⟨bl,dn⟩:=exq (bys.length);obtain⟨pl,du⟩:=exq (pk.length);have kc:=dQ;rw[e4]at ay;rw[dn]at ao;rw[du]at ar;rw[e8,dn,du]at ac af ⊢;obtain⟨bc,oj,bz,bf⟩:=mU;have bv:=rC;have bq:=rD;have bw:=cV;clear e8 e4 dn du kc;obtain⟨ov,fj⟩:=h;have bb:=bM
 have ep:ZUp dh w b xs (w.alloc (.cells #[.string nm,.slice fa bl fc,int i64 (st:Int),int i64 (nd:Int),.bool gn,int .u32 (mt:Int),.slice pa pl pc,int .u32 (cr:Int)] 71)):=
  ⟨⟨ov,fj.later ((kaa _ _).alloc (VA _) _)⟩,(kaa dh w).alloc uI _,KpT.below ((kaa _ _).alloc (VA _) _)⟩
 obtain⟨X,ax⟩:=exq (w.heap.size);rw[ax]at bb;have aa:=mV;have bu:=Ab ax;obtain⟨c0,c1,c2,G,O,H,I,E⟩:=Hg bb;clear fj bb ep;go_enter func55,ntmps55;go_wp2_with fail;refine(zx aa (Bb dh b 4 67324752 _ _ aa.1.is od om om)).mono ?_;clear aa c0 c1 c2 G O H I E;rintro e bo ⟨rfl,aa,c0,c1,c2,G,O,H,I,E⟩;go_wp2_with fail;refine(zx aa (ac _ _ aa.1.is tZ)).mono ?_;clear aa c0 c1 c2 G O H I E;rintro e bn ⟨rfl,aa,c0,c1,c2,G,O,H,I,E⟩;obtain⟨bi,U⟩:=aa.1.is;obtain⟨d0,aj⟩:=U.new;have ae:=Ab U;clear U;go_wp2;go_region_law (refine RU rfl (.tmp 13) (.tmp 16) rfl bn dh b _ nml _ rfl ae uA (congrArg Value.string bc.symm) qBB ?_;intro a9 bk a5 w' ak al cq);all_goals (replace aa:=sK;clear ak al cq c0 c1 c2 G O H I E d0 aj ae;obtain⟨c0,c1,c2,G,O,H,I,E⟩:=Hg aa.2;go_wp2_with fail;refine(zx aa (af _ _ aa.1.is qAN)).mono ?_;clear aa c0 c1 c2 G O H I E;rintro e a3 ⟨rfl,aa,c0,c1,c2,G,O,H,I,E⟩;obtain⟨bi,U⟩:=aa.1.is;obtain⟨d0,aj⟩:=U.new;have ae:=Ab U;clear U;go_wp2;go_region_law (refine RV rfl (.tmp 27) (.tmp 29) rfl a3 dh b _ pk _ rfl ae uA pa pl pc rfl bf (Z4n ba aa.1.below a8 uA) (by simp only[VB,Ag,ko,a6,Cf,Aa oj];omega) ?_;intro a9 bk a5 w' ak al cq);all_goals (replace aa:=Ab (aa.1.trans cq);clear ak al cq c0 c1 c2 G O H I E d0 aj ae;go_wp2;go_end0;refine⟨rfl, ?_⟩;rw[az];simp only[<-VO];exact aa))
theorem Z3e (dh b p:Nat)(x:Ev)(xs:List Nat)(w:World)(h:∃ov,ZC dh w b xs ov)(al:ENum x.e)(bo:p<=1000000)(bz:xs.length<=700000):Calls prog 56 #[.pointer (some ⟨b,0,none⟩),x.val,int i64 (p:Int)] w fun e w'=>e=.returned (.tuple #[])/\ZUp dh w b (xs++Tb x.e p) w':=by
 obtain⟨x,fa,fc,pa,pc⟩:=x;obtain⟨⟨nml,bys,lf,l0,gn⟩,mt,pk,cr⟩:=x;have p9:=al;obtain⟨⟨a6,st1⟩,⟨a8,au⟩,ap,ah,aj,a7,a4⟩:=al;simp only at a6 st1 a8 au ap ah aj a7 a4;obtain⟨st,rfl⟩:=dI;obtain⟨nd,rfl⟩:=dJ;have bv:((st:Int)).toNat=st:=om;have b8:=pY;have bw:=pZ;have ar:=(show Tb ⟨⟨nml,bys,(st:Int),(nd:Int),gn⟩,mt,pk,cr⟩ p=Ah 33639248 4++Ah 20 2++Wt ⟨⟨nml,bys,(st:Int),(nd:Int),gn⟩,mt,pk,cr⟩++Ah 0 10++Ah p 4++n8 nml++Kl ⟨⟨nml,bys,(st:Int),(nd:Int),gn⟩,mt,pk,cr⟩ from rfl);have U:=gG;have ac:=gH;obtain⟨a5,ae⟩:=rZ;obtain⟨aw,af⟩:=sA;(have ko:a5.length=26:=by rw[<-ae];exact Np _);(have bh:aw.length=11:=by rw[<-af];exact Jb _);unfold Ev.val at U ac;dsimp only at U ac;rw[ae,af]at ar;rw[ae]at U;rw[af]at ac;clear ae af;unfold Ev.val;dsimp only;have b5:=Bf (n:=p) om;obtain⟨nm,e8⟩:=exq (B nml);obtain⟨fx,e4⟩:=exq (nml.length);obtain⟨bl,dn⟩:=exq (bys.length);obtain⟨pl,du⟩:=exq (pk.length);have kc:=dQ;rw[e4]at ap;rw[dn]at ah;rw[du]at aj;rw[e8,dn,du]at U ac ⊢;obtain⟨a3,oj,bn,bq⟩:=mU;have bk:=rC;have bd:=rD;have bm:=cV;clear e8 e4 dn du kc;obtain⟨ov,fj⟩:=h;have bb:=bM
 have ep:ZUp dh w b xs (w.alloc (.cells #[.string nm,.slice fa bl fc,int i64 (st:Int),int i64 (nd:Int),.bool gn,int .u32 (mt:Int),.slice pa pl pc,int .u32 (cr:Int)] 71)):=
  ⟨⟨ov,fj.later ((kaa _ _).alloc (VA _) _)⟩,(kaa dh w).alloc uI _,KpT.below ((kaa _ _).alloc (VA _) _)⟩
 obtain⟨X,ao⟩:=exq (w.heap.size);rw[ao]at bb;have aa:=mV;have bi:=Ab ao;obtain⟨c0,c1,c2,G,O,H,I,E⟩:=Hg bb;clear fj bb ep;go_enter func56,ntmps56;go_wp2_with fail;refine(zx aa (Bb dh b 4 33639248 _ _ aa.1.is od om om)).mono ?_;clear aa c0 c1 c2 G O H I E;rintro e bc ⟨rfl,aa,c0,c1,c2,G,O,H,I,E⟩;go_wp2_with fail;refine(zx aa (Bb dh b 2 20 _ _ aa.1.is od om tZ)).mono ?_;clear aa c0 c1 c2 G O H I E;rintro e b7 ⟨rfl,aa,c0,c1,c2,G,O,H,I,E⟩;go_wp2_with fail;refine(zx aa (U _ _ aa.1.is tZ)).mono ?_;clear aa c0 c1 c2 G O H I E;rintro e bf ⟨rfl,aa,c0,c1,c2,G,O,H,I,E⟩;go_wp2_with fail;refine(zx aa (Hq dh b 10 _ _ aa.1.is od (by simp only[VB,Ag,ko];omega))).mono ?_;clear aa c0 c1 c2 G O H I E;rintro e ba ⟨rfl,aa,c0,c1,c2,G,O,H,I,E⟩;go_wp2_with fail;refine(zx aa (Bb dh b 4 p _ _ aa.1.is od om (by simp only[VB,Ag,ko];omega))).mono ?_;clear aa c0 c1 c2 G O H I E;rintro e az ⟨rfl,aa,c0,c1,c2,G,O,H,I,E⟩;obtain⟨bu,ag⟩:=aa.1.is;obtain⟨d0,ax⟩:=ag.new;have ak:=Ab ag;clear ag;go_wp2;go_region_law (refine RU rfl (.tmp 23) (.tmp 26) rfl az dh b _ nml _ rfl ak uA (congrArg Value.string a3.symm) qBB ?_;intro bj b0 bg w' ay a9 cq);all_goals (replace aa:=sK;clear ay a9 cq c0 c1 c2 G O H I E d0 ax ak;obtain⟨c0,c1,c2,G,O,H,I,E⟩:=Hg aa.2;replace aa:=Ab aa.1;go_wp2_with fail;refine(zy aa (ac _ _ aa.is qAN)).mono ?_;clear aa;rintro e w6 ⟨rfl,aa⟩;go_wp2;go_end0;refine⟨rfl, ?_⟩;rw[ar];simp only[<-VO];exact aa)
theorem Z2k {bs:List UInt8}(h:BsIn w a c bs):PkIn w a c (n8 bs):=by(rcases h with ⟨rfl,rfl,rfl⟩|⟨rfl,ad,rfl⟩|⟨b,o,rfl,G,I,H⟩);exact⟨.inl rfl,fun _=>rfl⟩;exact⟨.inl rfl,fun e=>by cases e⟩;refine⟨.inr ⟨b,o,rfl,G,fun j E=> ?_⟩,fun e=>by cases e⟩;rw[Cf]at E;rw[H j E];simp[n8,List.getD,E]
theorem Zbg (h:PkIn w a c ys)(O:ys.length<=c)(G:∀x∈ys,x<256):BsIn w a c (o8 ys):=by
 cases a with
 |none=>have I:=h.2 rfl;have:ys= []:=WK om;subst this;exact .inl ⟨rfl,rfl,I⟩
 |some ad=>rcases h.1 with rfl|⟨b,o,e,hb,H⟩;exact .inr (.inl ⟨rfl,ad,rfl⟩);refine .inr (.inr ⟨b,o,e,hb,by rw[Fg];exact O,fun j E=> ?_⟩);rw[Fg]at E;rw[H j E];have U:=G ys[j] (WO E);simp[o8,List.getD,E];omega
structure EvIn (w:World)(x:Ev):Prop where
 fb:PkIn w x.fa x.fc (n8 x.e.f.bytes)
 fl:x.e.f.bytes.length<=x.fc
 big:x.e.f.bytes.length<=140737488355328
 txt:x.e.f.name.length<=140737488355328
 pk:PkIn w x.pa x.pc x.e.pk
theorem EvIn.below {x:Ev}(h:EvIn w x)(E:Below w.heap.size w w'):EvIn w' x:=⟨h.fb.below E,h.fl,h.big,h.txt,h.pk.below E⟩
theorem EvIn.fv {x:Ev}(h:EvIn w x):FvIn w ⟨x.e.f,x.fa,x.fc⟩:=⟨by have:=Zbg h.fb (by rw[Cf];exact h.fl) (Kb _);rw[MT]at this;exact this,h.big,h.txt⟩
theorem J6 {bs:List UInt8}(h:BsIn w a c bs):bs.length<=c:=by(rcases h with ⟨rfl,rfl,rfl⟩|⟨rfl,ad,rfl⟩|⟨b,o,rfl,G,E,H⟩);exact VA _;exact VF _;exact E
theorem PkIn.grown (h:PkIn w a c ys)(G:w.grownBy w' r)(I:∀g o,a=some ⟨g,o,none⟩->ys≠ []->some g≠r):PkIn w' a c ys:=by refine⟨?_,h.2⟩;by_cases E:ys= [];exact .inl E;rcases h.1 with H|⟨b,o,e,hb,hc⟩;exact absurd H E;exact .inr ⟨b,o,e,VC hb G.size,hc.grown G (I b o e E)⟩
def Ev.lies (x:Ev)(Pr:Nat->Prop):Prop:=(∀g o,x.fa=some ⟨g,o,none⟩->x.e.f.bytes≠ []->Pr g)/\(∀g o,x.pa=some ⟨g,o,none⟩->x.e.pk≠ []->Pr g)
theorem Z06 {l:List UInt8}(h:n8 l≠ []):l≠ []:=fun e=>h (by rw[e];rfl)
theorem EvIn.grown {x:Ev}(h:EvIn w x)(E:w.grownBy w' r)(G:x.lies (fun g=>some g≠r)):EvIn w' x:=
 ⟨h.fb.grown E (fun g o e1 e2=>G.1 g o e1 (Z06 e2)),h.fl,h.big,h.txt,h.pk.grown E (fun g o e1 e2=>G.2 g o e1 e2)⟩
theorem Ev.lies.mono {x:Ev}{A C:Nat->Prop}(h:x.lies A)(E:∀g,A g->C g):x.lies C:=⟨fun g o e1 e2=>E g (h.1 g o e1 e2),fun g o e1 e2=>E g (h.2 g o e1 e2)⟩
theorem EvIn.lt {x:Ev}(h:EvIn w x):x.lies (fun g=>g<w.heap.size):=by constructor;(. intro g o e1 e2;rcases h.fb.1 with E|⟨b,G,e,hb,_⟩;exact absurd (by rw[<-MT x.e.f.bytes,E];rfl) e2;. rw[e1]at e;cases e;exact hb);. intro g o e1 e2;rcases h.pk.1 with E|⟨b,G,e,hb,_⟩;exact absurd E e2;. rw[e1]at e;cases e;exact hb
theorem C7 (h:PkIn w a c ys):∀g o,a=some ⟨g,o,none⟩->ys≠ []->g<w.heap.size:=by intro g o e H;rcases h.1 with G|⟨b,I,E,hb,_⟩;exact absurd G H;. rw[e]at E;cases E;exact hb
theorem Ht {E:Type}{l:List E}{x:E}(h:l[k]? =some x):l.take (k+1)=l.take k++ [x]:=by obtain⟨G,e⟩:=WY.1 h;rw[XH G,e]
def ecells (xs:List Ev):List Value:=xs.flatMap Ev.cells
theorem OQ (xs:List Ev):(ecells xs).length=xs.length*8:=by
 induction xs with
 |nil=>rfl
 |cons x r ih=>have:ecells (x::r)=x.cells++ecells r:=rfl;rw[this,VB,ih,VG];show 8+_=_;omega
theorem OR (xs ys:List Ev):ecells (xs++ys)=ecells xs++ecells ys:=by simp[ecells]
theorem OP (y:Ev):ecells [y]=y.cells:=by simp[ecells]
theorem BE:∀(xs:List Ev) (j:Nat) (x:Ev) (i:Nat),xs[j]? =some x->i<8->(ecells xs)[j*8+i]? =x.cells[i]?
 | [],j,x,i,h,_=>by simp at h
 |y::r,0,x,i,h,hi=>by have:ecells (y::r)=y.cells++ecells r:=rfl;exact bB
 |y::r,j+1,x,i,h,hi=>by have e:ecells (y::r)=y.cells++ecells r:=rfl;have hl:y.cells.length=8:=rfl;have ih:=BE r j x i uJ hi;exact jN
theorem FF (y:Ev):∀u∈y.cells,u.oneCell'=true:=by intro u ey;simp only[Ev.cells,VV,WS,or_false]at ey;exact yU
structure ERow (w:World)(B:Nat)(v:Value)(xs:List Ev):Prop where
 own:w.ownsRow B 71 8 v xs.length (ecells xs)
 all:∀x∈xs,EvIn w x
 apart:∀x∈xs,x.lies (fun g=>some g≠v.ownBlock)
theorem ERow.nil (w:World)(B:Nat):ERow w B (.slice none 0 0) []:=⟨kaq _ _ _ _,(fun x E=>absurd E WS),(fun x E=>absurd E WS)⟩
theorem ERow.below {B:Nat}{xs:List Ev}(h:ERow w B v xs)(E:Below w.heap.size w w'):ERow w' B v xs:=
 ⟨Bv h.own (fun g G=>E.block g (h.own.lt g G).2),fun x H=>(h.all x H).below E,h.apart⟩
theorem NU:(prog.info? 71).map (fun i=>(i.zero,i.size,i.bytes))=some (some (.agg #[.string ⟨#[]⟩,.slice none 0 0,int i64 0,int i64 0,.bool false,int .u32 0,.slice none 0 0,int .u32 0]),8,104):=oR
theorem Gg (w:World){a:Act}(H:o.guard=none)(s x:Operand) (ah:o.op=.call {callee:=.builtin .append,args:= #[s,x],argTypes:= #[69,69]}) (base:Nat) (v:Value) (xs:List Ev) (ai:a.eval s=v) (fq:ERow w base v xs) (g:Nat) (y:Ev) (aj:a.eval x=.slice (some ⟨g,0,none⟩) 1 1) (hc:∀j u,y.cells[j]? =some u->w.cell? ⟨g,j,none⟩=some u) (gq:EvIn w y) (pv:y.lies (fun g=>some g≠v.ownBlock)) (ao:xs.length+1<=100000) (O:base<=w.heap.size) (h:∀v' w',Hid (ERow w' base v' (xs++ [y]))->Hid (w.grownBy w' v.ownBlock)->wpList prog ag Q al (a.put o.dst v') w'):wpList prog ag Q (o::al) a w:=by obtain⟨ac,hi,I,aa,ae⟩:=kas NU;refine kao w H s x 69 ah base 71 ac _ 8 104 underlying69 hi I aa ae rfl od v xs.length (ecells xs) ai fq.own ⟨g,0,none⟩ 1 1 y.cells aj rfl ?_ (FF y) ou om O ?_;exact qQ;intro v' w' U E _ b0;have bk:∀z∈xs++ [y],z.lies (fun g=>some g≠v.ownBlock):=zH;have G:∀z∈xs++ [y],EvIn w z:=zO;refine h v' w' (Ab ⟨?_,fun z ak=>(G z ak).grown E (bk z ak),fun z ak=> ?_⟩) (Ab E);rw[OR,OP,VB];exact U;have hl:=(G z ak).lt;exact xN
def Es (w:World)(b o:Nat)(xs:List Ev):Prop:=∀j x,xs[j]? =some x->∀i,i<8->w.cell? ⟨b,o+j*8+i,none⟩=x.cells[i]?
structure EsIn (w:World)(ad:Option Addr)(c:Nat)(xs:List Ev):Prop where
 at_:xs= []\/∃b o,ad=some ⟨b,o,none⟩/\b<w.heap.size/\Es w b o xs
 all:∀x∈xs,EvIn w x
theorem EsIn.below {xs:List Ev}(h:EsIn w ah c xs)(I:Below w.heap.size w w'):EsIn w' ah c xs:=by refine⟨?_,fun x E=>(h.all x E).below I⟩;exact xY
theorem EsIn.get {xs:List Ev}{x:Ev}(h:EsIn w ah c xs)(U:Below w.heap.size w w')(E:xs[k]? =some x):∃b o,ah=some ⟨b,o,none⟩/\b<w.heap.size/\w'.cell? ⟨b,o+k*8,none⟩=some (.string (B x.e.f.name))/\w'.cell? ⟨b,o+k*8+1,none⟩=some (.slice x.fa x.e.f.bytes.length x.fc)/\w'.cell? ⟨b,o+k*8+2,none⟩=some (int i64 x.e.f.stamp)/\w'.cell? ⟨b,o+k*8+3,none⟩=some (int i64 x.e.f.node)/\w'.cell? ⟨b,o+k*8+4,none⟩=some (.bool x.e.f.gone)/\w'.cell? ⟨b,o+k*8+5,none⟩=some (int .u32 (x.e.meth:Int))/\w'.cell? ⟨b,o+k*8+6,none⟩=some (.slice x.pa x.e.pk.length x.pc)/\w'.cell? ⟨b,o+k*8+7,none⟩=some (int .u32 (x.e.crc:Int)):=by rcases(h.below U).at_ with I|⟨b,o,e,hb,G⟩;subst I;simp at E;(have H:b<w.heap.size:=by rcases h.at_ with I|⟨aa,ac,O,H,_⟩;subst I;simp at E;. rw[e]at O;cases O;exact H);exact⟨b,o,e,H,G k x E 0 od,G k x E 1 od,G k x E 2 od,G k x E 3 od,G k x E 4 od,G k x E 5 od,G k x E 6 od,G k x E 7 od⟩
def Wo:Nat->List En->List Nat
 |_,[]=> []
 |p,x::r=>p::Wo (p+(Vw x).length) r
theorem II:∀(a:List En) (x:En) (p:Nat),Wo p (a++ [x])=Wo p a++ [p+(Au a).length]
 | [],x,p=>by simp[Wo,Au]
 |y::a,x,p=>by rw[XV,Wo,II a x,Wo,Au,VB,XV,WV]
theorem DS:∀(a:List En) (p:Nat),(Wo p a).length=a.length
 | [],p=>rfl
 |y::a,p=>by rw[Wo,VG,DS a,VG]
theorem Z76:∀(a:List En) (p k:Nat),k<a.length->(Wo p a).getD k 0=p+(Au (a.take k)).length
 | [],p,k,h=>by simp at h
 |y::a,p,0,h=>by simp[Wo,Au]
 |y::a,p,k+1,h=>by have:=Z76 a (p+(Vw y).length) k uJ;simp only[Wo,List.getD_cons_succ,YC,Au,VB];rw[this];omega
theorem AB (a:List En)(x:En):Au (a++ [x])=Au a++Vw x:=by rw[JM];simp[Au]
theorem Xv (a:List En)(x:En):Ao 0 (a++ [x])=Ao 0 a++Tb x (Au a).length:=by rw[O5];simp[Ao]
theorem ERow.entries {B:Nat}{xs:List Ev}(h:ERow w B v xs):∃ad c,v=.slice ad xs.length c/\EsIn w ad c xs:=by(rcases h.own.2 with ⟨ai,av⟩|⟨g,cap,cur,ai,av,O,H,I⟩);exact bE;refine⟨some ⟨g,0,none⟩,cap,ai,.inr ⟨g,0,rfl,(h.own.lt g qAC).2,fun j x G i hi=> ?_⟩,h.all⟩;have E:=h.own;rw[ai]at E;have hl:=OQ xs;have U:=(WY.1 G).1;rw[VY,E.cellAt _ om];exact BE xs j x i G hi
structure AS (w:World)(Bs b:Nat)(xs:List Nat)(v:Value)(ps:List Nat)(wr:World):Prop where
 z:∃ov,ZC Bs wr b xs ov
 p:wr.ownsRow (b+1) 3 1 v ps.length (i64s ps)
 below:Below Bs w wr
theorem AS.later {xs:List Nat}(h:AS w ac b xs v af wr)(E:Below wr.heap.size wr w'):AS w ac b xs v af w':=by obtain⟨ov,G⟩:=h.z;refine⟨⟨ov,G.later E⟩,Bv h.p (fun g H=>E.block g (h.p.lt g H).2),h.below.trans (E.mono (by have:=G.lt;have:=G.base;omega))⟩
theorem AS.app {y:Nat}{xs:List Nat}(h:AS w ac b xs v af W)(G:W.grownBy O v.ownBlock)(U:O.ownsRow (b+1) 3 1 v' (af.length+1) (i64s af++ [int i64 (y:Int)])):AS w ac b xs v' (af++ [y]) O:=by obtain⟨ov,E⟩:=h.z;have I:=E.lt;have ae:=E.base;have aa:=G.size;refine⟨⟨ov,E.base, ?_, ?_⟩, ?_, ?_⟩;refine(G.block b I (fun e=> ?_)).trans E.cell;have:=(h.p.lt b e.symm).1;omega;refine Bv E.own (fun g H=>G.block g (E.own.lt g H).2 (fun e=> ?_));obtain⟨c1,e1⟩:=Ri E.own H;obtain⟨c2,e2⟩:=Ri h.p e.symm;rw[e1]at e2;injection e2 with e2;injection e2 with _ e2;exact absurd e2 od;rw[VB,i64s,XC];exact U;exact h.below.grown G om (fun g e=>by have:=(h.p.lt g e).1;omega)
theorem AS.up {xs:List Nat}(h:AS w ac b xs v af O)(E:ZUp ac O b ys ao):AS w ac b ys v af ao:=by refine⟨E.is,Bv h.p (fun g G=> ?_),h.below.trans E.below⟩;obtain⟨cs,e⟩:=Ri h.p G;rw[e];exact E.kp g cs _ _ od od e
theorem Z0v:(prog.info? 3).map (fun i=>(i.zero,i.size,i.bytes))=some (some (int i64 0),1,8):=oR
theorem Z16:∀(l:List En),(∀x∈l,ENum x)->(Au l).length<=12081*l.length
 | [],_=>by simp[Au]
 |x::r,h=>by have I:=Z16 r (fun y G=>h y (WL _ G));have E:=h x oS;have O:=E.nm;have H:=E.pl;rw[Au,VB,Lf,VG];omega
theorem GU:∀(l:List En) (p:Nat),(∀x∈l,ENum x)->(Ao p l).length<=97*l.length
 | [],p,_=>by simp[Ao]
 |x::r,p,h=>by have G:=GU r (p+(Vw x).length) (fun y E=>h y (WL _ E));have H:=(h x oS).nm;rw[Ao,VB,My,VG];omega
abbrev Wu:Array MapEntry:= #[{key:=.bool true,val:=.int .i64 1,born:=0}]
theorem Z0b (X:World):(Instr.mapUpdate 111 (.map (some X.heap.size)) (.bool true) (.int .i64 1)).run prog (X.alloc (.map #[] 0))=.ok () (X.alloc (.map Wu 1)):=by have hb:(X.alloc (.map #[] 0)).heap[X.heap.size]? =some (.map #[] 0):=kae X _;have E:=underlying4;have H:Instr.findNow .bool (.bool true) ([]:List MapEntry) 0=some none:=rfl;have hc:(Instr.checkKey false 10000 4 (.bool true)).run prog (X.alloc (.map #[] 0))=.ok () (X.alloc (.map #[] 0)):=kbv (k:=.bool true) E uY false 9999;(have I: {X.alloc (.map #[] 0)with heap:=(X.alloc (.map #[] 0)).heap.setIfInBounds X.heap.size (.map Wu 1)}=X.alloc (.map Wu 1):=by(have e1:(X.alloc (.map #[] 0)).heap.setIfInBounds X.heap.size (.map Wu 1)=(X.alloc (.map Wu 1)).heap:=by show (X.heap.push (.map #[] 0)).setIfInBounds X.heap.size (.map Wu 1)=X.heap.push (.map Wu 1);apply Array.ext;simp;intro i G O;simp only[Array.size_setIfInBounds,ZE]at G;rw[Array.getElem_setIfInBounds];by_cases hi:X.heap.size=i;subst hi;simp;rw[kab hi,Array.getElem_push_lt om,Array.getElem_push_lt om];simpa using G);rw[e1];rfl);simp only[Instr.mapUpdate,kbc,ka0 underlying111,ka6 hb,hc,kbf E H,MapKept.run_setObj_map _ hb,Result.andThen];exact congrArg (Result.ok ()) I
theorem IZ (W:World)(r:Nat)(g:Bool)(H:W.heap[r]? =some (.map Wu 1)):(Instr.lookup 111 (.map (some r)) (.bool g) false).run prog W=.ok (.int .i64 (if g then 1 else 0)) W:=by have E:=underlying4;have hc:(Instr.checkKey false 10000 4 (.bool g)).run prog W=.ok () W:=kbv (k:=.bool g) E uY false 9999;(have G:Instr.findNow .bool (.bool g) Wu.toList 0=some (if g then some (0,.int .i64 1)else none):=by cases g<;>rfl);have I:(zeroValue 3).run prog W=.ok (.int .i64 0) W:=Tryz.zeroValue3 W;cases g;simp[Instr.lookup,ka0 underlying111,ka6 H,hc,kbf E G,I,Result.andThen];simp[Instr.lookup,ka0 underlying111,ka6 H,hc,kbf E G,Result.andThen]
end Go.Proofs.YtleocpdblhbimaaGreatDoor
