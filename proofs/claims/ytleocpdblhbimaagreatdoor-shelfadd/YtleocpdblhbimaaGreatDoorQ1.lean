import Derived.Test.YtleocpdblhbimaaGreatDoorQ0
import Derived.Laws.AppendOwnNone
import Derived.Deep.RegionLaw
import Derived.Deep.DeepCutAuto
import Derived.Lib.BytesEntry
import Derived.Deep.DeepAppendRoom
set_option linter.unusedVariables false
set_option linter.unusedSimpArgs false
set_option maxRecDepth 100000
set_option maxHeartbeats 4000000
namespace Go.Proofs.YtleocpdblhbimaaGreatDoor
open Go.Value renaming int->so,slice->va,string->vb,pointer->vc,tuple->vd,bool->ve,agg->vf
open Go.IntKind renaming i64->vh,u8->vi,u32->vj
open Go.Obj renaming cells->vl
open Go.Ending renaming returned->vm
open Option renaming none->vn,some->vp
open Bool renaming false->vq,true->vr
open Go renaming World->wd,Value->vt,Calls->vu,Addr->vw
open Go.RowKit renaming Below->vx,intOf->vy,Hid->vz
open Go.Proofs.Tryz renaming prog->v8
section
variable{row:List Bool}{F k n p:Nat}{u:US}
def Kg(k:Nat)(u:US):US:=if u.e=0 then ukept k u else u
def Ed(row:List Bool)(k:Nat)(u:US):US:=
 if k=0 then Kg 0 (Cn row u)
 else if k=1 then Kg 1 (Hz row Pu Lj (row.length+1) u)
 else if k=2 then (if (Dm row u).2.e≠0 then (Dm row u).2 else Kg 2 (Hz row (Dm row u).1.1 (Dm row u).1.2 (row.length+1) (Dm row u).2))
 else {u with e:=4}
def Bh(row:List Bool)(u:US):Nat×US:=
 if (uget row 1 u).2.e≠0 then (1,(uget row 1 u).2)
 else if (uget row 2 (uget row 1 u).2).2.e≠0 then (1,(uget row 2 (uget row 1 u).2).2)
 else ((uget row 1 u).1,Ed row (uget row 2 (uget row 1 u).2).1 (uget row 2 (uget row 1 u).2).2)
def Bz(row:List Bool):Nat->US->US
 |0,u=>u
 |f+1,u=>if (Bh row u).1=0/\(Bh row u).2.e=0 then Bz row f (Bh row u).2 else (Bh row u).2
def Du(row:List Bool):US:=Bz row (row.length+1) O9
structure RA(row:List Bool)(u v:US):Prop where
 ks:v.ks=u.ks
 ge:u.p<=v.p
 le:v.p<=row.length
 out:v.out.length<=3000
theorem RA.trans{v x:US}(h:RA row u v)(k:RA row v x):RA row u x:=⟨k.ks.trans h.ks,WJ h.ge k.ge,k.le,k.out⟩
theorem A3(row:List Bool)(n:Nat)(u:US)(E:u.p<=row.length)(F:u.out.length<=3000):RA row u (uget row n u).2:=⟨Ix _ _ _,CS _ _ _,He _ _ _ E,by rw[Cs];exact F⟩
theorem Xm(l:List Int)(row:List Bool)(u:US)(E:u.p<=row.length)(F:u.out.length<=3000):RA row u (uplace l row u).2:=by obtain⟨H,G,I⟩:=Gz l row u;exact⟨G,I,Ju l row u E,by rw[H];exact F⟩
theorem Z5(lb:List Int)(k:Nat)(u:US)(F:u.p<=row.length)(I:u.out.length<=3000)(h:(Cu row lb k u).e=0):RA row u (Cu row lb k u):=by unfold Cu at h ⊢;split;(. rename_i c1;rw[A1 c1]at h;split;(. rename_i c2;rw[A1 c2]at h;exact zC);refine⟨rfl,VA _,F,?_⟩;simp only[VB,VG,WE];omega);. rename_i c1;rw[A0 c1]at h;split;(. rename_i c2;rw[A1 c2]at h;exact vL);. rename_i c2;rw[A0 c2]at h;split;(. rename_i dt;exact zQ);. rename_i dt;rw[A0 dt]at h;have a1:=A3 row (Dr k).2 u F I;generalize uget row (Dr k).2 u=g at*;split;(. rename_i E;rw[A1 E]at h;exact absurd h E);. rename_i E;rw[A0 E]at h;obtain⟨b1,b2,b3,O⟩:=Yp row lb g.2 a1.le;have a2:RA row g.2 (Nt row lb g.2).2:=⟨b2,b3,O,by rw[b1];exact a1.out⟩;generalize Nt row lb g.2=q at*;obtain⟨d1,G,H⟩:=Ul _ _ _ h;exact(a1.trans a2).trans ⟨G,om,by rw[d1];exact a2.le,H a2.out⟩
theorem Hy(row:List Bool)(E lb:List Int)(f:Nat)(u:US):Hz row E lb (f+1) u=if (uplace E row u).2.e≠0 then (uplace E row u).2 else if (uplace E row u).1=256 then (uplace E row u).2 else if (Cu row lb (uplace E row u).1 (uplace E row u).2).e≠0 then Cu row lb (uplace E row u).1 (uplace E row u).2 else Hz row E lb f (Cu row lb (uplace E row u).1 (uplace E row u).2):=by unfold Hz;rw[NL]
theorem Kf(row:List Bool)(E lb:List Int):∀(f:Nat) (u:US),u.p<=row.length->u.out.length<=3000->(Hz row E lb f u).e=0->RA row u (Hz row E lb f u)
 |0,u,hp,ho,h=>by have a1:=Xm E row u hp ho;unfold Hz;split;exact a1;exact a1
 |f+1,u,hp,ho,h=>by have a1:=Xm E row u hp ho;rw[Hy]at h ⊢;generalize uplace E row u=r at*;split;exact a1;. rename_i c1;rw[A0 c1]at h;split;exact a1;. rename_i c2;rw[A0 c2]at h;split;(. rename_i dt;exact zQ);. rename_i dt;rw[A0 dt]at h;have a2:=Z5 lb r.1 r.2 a1.le a1.out om;exact(a1.trans a2).trans (Kf row E lb f _ a2.le a2.out h)
theorem EK(row:List Bool)(u:US)(O:(u.p+7)/8*8<=row.length)(Z:u.out.length<=3000)(h:(Cn row u).e=0):RA row u (Cn row u):=by obtain⟨r1,E,H⟩:∃r1 E,uget row 16 {u with p:=(u.p+7)/8*8}=(r1,E):=⟨_,_,rfl⟩;obtain⟨r2,v2,G⟩:∃r2 v2,uget row 16 E=(r2,v2):=⟨_,_,rfl⟩;have a1:=A3 row 16 {u with p:=(u.p+7)/8*8} O Z;rw[H]at a1;have a2:=A3 row 16 E a1.le a1.out;rw[G]at a2;rw[Yn row u E v2 _ r1 r2 rfl H G]at h ⊢;split;(. rename_i c;exact bH);. rename_i c;rw[A0 c]at h;split;(. rename_i c2;rw[A1 c2]at h;exact jU);. rename_i c2;rw[A0 c2]at h;split;(. rename_i F;rw[A1 F]at h;exact zC);. rename_i F;rw[A0 F]at h;obtain⟨ae,aa,U⟩:=Zs h a2.le;have I:=a1.ge;have ac:=a2.ge;simp only at I ac;exact⟨(Sl h).trans (a2.ks.trans a1.ks),om,aa,U a2.out⟩
theorem L9(x:Int)(u:US):(An x u).p=u.p/\(An x u).out=u.out/\(An x u).ks=u.ks:=by unfold An;split<;>exact⟨rfl,rfl,rfl⟩
theorem Sk(row:List Bool)(u:US)(F:u.p<=row.length)(I:u.out.length<=3000)(h:(Dm row u).2.e=0):RA row u (Dm row u).2:=by obtain⟨A,C,v,E⟩:=sT;rw[E]at h ⊢;obtain⟨m0,n0,c0,u1,u2,u3,us,S,L,O⟩:=Hs E h;obtain⟨Z,G,H,U⟩:=Sj O F;exact⟨U,by show u.p<=v.p;omega,G,by show v.out.length<=3000;rw[H];exact I⟩
theorem Z10(q:Nat)(H:row.length=8*q)(k:Nat)(u:US)(G:u.p<=row.length)(F:u.out.length<=3000)(h:(Ed row k u).e=0):k<=2/\(Ed row k u).ks=u.ks++ [k]/\u.p<=(Ed row k u).p/\(Ed row k u).p<=row.length/\(Ed row k u).out.length<=3000:=by have key:∀(j:Nat) (x:US),(Kg j x).e=0->x.e=0/\Kg j x=ukept j x:=λj x U=>vK;unfold Ed at h ⊢;split;(. rename_i c;subst c;rw[A1 rfl]at h;obtain⟨k1,k2⟩:=key _ _ h;have a:=EK row u om F k1;rw[k2];exact⟨od,by show _++ [0]=_;rw[a.ks],a.ge,a.le,a.out⟩);. rename_i c;rw[A0 c]at h;split;(. rename_i c1;subst c1;rw[A1 rfl]at h;obtain⟨k1,k2⟩:=key _ _ h;have a:=Kf row Pu Lj _ u G F k1;rw[k2];exact⟨od,by show _++ [1]=_;rw[a.ks],a.ge,a.le,a.out⟩);. rename_i c1;rw[A0 c1]at h;split;(. rename_i c2;subst c2;rw[A1 rfl]at h;split;(. rename_i dt;exact zQ);. rename_i dt;rw[A0 dt]at h;obtain⟨k1,k2⟩:=key _ _ h;have E:=Sk row u G F om;have a:=E.trans (Kf row _ _ _ _ E.le E.out k1);rw[k2];exact⟨od,by show _++ [2]=_;rw[a.ks],a.ge,a.le,a.out⟩);. rename_i c2;rw[A0 c2]at h;exact jU
theorem Ia(q:Nat)(U:row.length=8*q)(u:US)(ao:u.e=0)(aj:u.p<=row.length)(ac:u.out.length<=3000)(h:(Bh row u).2.e=0):(Bh row u).2.ks.length=u.ks.length+1/\u.p+3<=(Bh row u).2.p/\(Bh row u).2.p<=row.length/\(Bh row u).2.out.length<=3000:=by unfold Bh at h ⊢;split;(. rename_i c;exact bH);. rename_i c;rw[A0 c]at h;split;(. rename_i c2;rw[A1 c2]at h;exact absurd h c2);. rename_i c2;rw[A0 c2]at h;obtain⟨r1,E,G⟩:∃r1 E,uget row 1 u=(r1,E):=⟨_,_,rfl⟩;rw[G]at c c2 h ⊢;obtain⟨r2,v2,F⟩:∃r2 v2,uget row 2 E=(r2,v2):=⟨_,_,rfl⟩;simp only at c c2 h ⊢;rw[F]at c2 h ⊢;simp only at c2 h ⊢;obtain⟨ai,ap,aa,ae,_⟩:=Bj G om;obtain⟨al,Z,af,I,_⟩:=Bj F om;obtain⟨ak,H,ah,O,ag⟩:=Z10 q U r2 v2 Z (by rw[af,aa];exact ac) h;exact⟨by rw[H,I,ae,VB];rfl,om,O,ag⟩
def I4(n:Nat):Nat:=if n%2=1 then (n/2)^^^3988292384 else n/2
def Jn:Nat->Nat->Nat
 |0,n=>n
 |k+1,n=>Jn k (I4 n)
def W7(r x:Nat):Nat:=Jn 8 (r^^^x)
def Vh(r:Nat)(l:List Nat):Nat:=l.foldl W7 r
def crcN(p:Nat)(l:List Nat):Nat:=Vh (p^^^4294967295) l^^^4294967295
theorem H9(r:Nat):Vh r []=r:=rfl
theorem Ok(r x:Nat)(l:List Nat):Vh r (x::l)=Vh (W7 r x) l:=rfl
theorem Y6(k n:Nat):Jn (k+1) n=I4 (Jn k n):=by
 induction k generalizing n with
 |zero=>rfl
 |succ k ih=>rw[Jn,ih,Jn]
theorem GD(a b:Nat):(a^^^b)%2=(a%2+b%2)%2:=by have h:=Nat.xor_mod_two_eq_one (a:=a) (b:=b);have E:=XF (a^^^b);have F:=XF a;have G:=XF b;rcases E with E|E<;>rcases F with F|F<;>rcases G with G|G<;>simp_all
theorem GE(a b:Nat):(a^^^b)/2=a/2^^^b/2:=by have:=Nat.shiftRight_xor_distrib (a:=a) (b:=b) (i:=1);simpa[Nat.shiftRight_eq_div_pow]using this
theorem Z9j(a b:Nat):I4 (a^^^b)=I4 a^^^I4 b:=by unfold I4;have E:=XF a;have F:=XF b;rw[GD,GE];generalize a/2=A;generalize b/2=B;rcases E with E|E<;>rcases F with F|F<;>simp only[E,F];simp;simp[ZQ];rw[if_pos od,if_pos trivial,if_neg od,ZQ,ZQ,Nat.xor_comm B];rw[if_neg od,if_pos trivial,if_pos trivial,ZQ,Nat.xor_comm B,<-ZQ 3988292384,Nat.xor_self,Nat.zero_xor]
theorem D7:∀(k a b:Nat),Jn k (a^^^b)=Jn k a^^^Jn k b
 |0,_,_=>rfl
 |k+1,a,b=>by rw[Jn,Z9j,D7 k];rfl
theorem Z9k(y:Nat):I4 (2*y)=y:=by unfold I4;rw[if_neg om];omega
theorem JD(k y:Nat):Jn k (2^k*y)=y:=by
 induction k with
 |zero=>simp[Jn]
 |succ k ih=>rw[Jn,show 2^(k+1)*y=2*(2^k*y) by rw[XI,YM (2^k) 2,YG],Z9k,ih]
theorem Zbv(h:n<4294967296):I4 n<4294967296:=by unfold I4;by_cases e:n%2=1;rw[if_pos e];exact ZY (n:=32) om od;rw[if_neg e];omega
theorem Ud:∀(k:Nat) {n:Nat},n<4294967296->Jn k n<4294967296
 |0,_,h=>h
 |k+1,_,h=>Ud k (Zbv h)
theorem Zbt(k n:Nat):n=n%2^k^^^2^k*(n/2^k):=by apply Nat.eq_of_testBit_eq;intro i;rw[Nat.testBit_xor,Nat.testBit_mod_two_pow,Nat.testBit_two_pow_mul,Nat.testBit_div_two_pow];by_cases h:i<k;simp[h,show ¬(k<=i) by omega];simp[h,show k<=i by omega,show i-k+k=i by omega]
theorem Zao{x:Nat}(y:Nat)(E:x<2^k):x+2^k*y=x^^^2^k*y:=by have h:=Zbt k (x+2^k*y);rw[Nat.add_mul_mod_self_left,ZU E,Nat.add_mul_div_left _ _ (YY k),UK E,VY]at h;exact h
theorem MZ(n:Nat):Jn 8 n=Jn 8 (n%256)^^^n/256:=by have h:=Zbt 8 n;(conv=>lhs;rw[h]);rw[D7,JD]
theorem Vg:∀(a b:List Nat) (r:Nat),Vh r (a++b)=Vh (Vh r a) b
 | [],_,_=>by rw[H9,XN]
 |x::a,b,r=>by rw[XV,Ok,Vg a,Ok]
theorem Vf:∀(l:List Nat) (r:Nat),(∀x∈l,x<256)->r<4294967296->Vh r l<4294967296
 | [],r,_,h=>by rw[H9];exact h
 |x::l,r,hl,h=>by rw[Ok];have F:=hl x oS;exact Vf l _ (λy E=>hl y (by simp[E])) (Ud 8 (ZY (n:=32) h om))
theorem HU(h:n<4294967296):n^^^4294967295<4294967296:=ZY (n:=32) h od
theorem FI{l:List Nat}(E:∀x∈l,x<256)(h:p<4294967296):crcN p l<4294967296:=HU (Vf l _ E (HU h))
theorem Z0g(c x k:Nat):Jn (k+1) (c^^^x%2^(k+1))=I4 (Jn k (c^^^x%2^k)^^^x/2^k%2):=by(have E:x%2^(k+1)=x%2^k^^^2^k*(x/2^k%2):=by rw[Nat.mod_pow_succ];exact Zao _ (UH _ (YY k)));rw[E,<-ZQ,Y6,D7,JD]
theorem Z0h(c b:Nat)(G:b<2):I4 (c^^^b)=if (c%2^^^b)=1 then (c/2)^^^3988292384 else c/2:=by unfold I4;rw[GD,GE];have:b/2=0:=om;rw[this,Nat.xor_zero];have E:=XF c;have F:b=0\/b=1:=om;rcases E with E|E<;>rcases F with F|F<;>simp[E,F]
theorem BH(l:List Nat)(r x:Nat):Vh r (l++ [x])=W7 (Vh r l) x:=by rw[Vg,Ok,H9]
def n8(l:List UInt8):List Nat:=l.map UInt8.toNat
def o8(l:List Nat):List UInt8:=l.map UInt8.ofNat
theorem Cf(l:List UInt8):(n8 l).length=l.length:=by simp[n8]
theorem Fg(l:List Nat):(o8 l).length=l.length:=by simp[o8]
theorem Kb(l:List UInt8):∀x∈n8 l,x<256:=by intro x E;obtain⟨y,_,rfl⟩:=WU.1 E;exact y.toNat_lt
theorem MT(l:List UInt8):o8 (n8 l)=l:=by simp[o8,n8,ZM]
theorem Z58{l:List Nat}(h:∀x∈l,x<256):n8 (o8 l)=l:=by unfold n8 o8;rw[List.map_map];(conv=>rhs;rw[<-List.map_id l]);apply YZ;intro x E;have:=h x E;simp;omega
theorem Cq{l:List Nat}(h:∀x∈l,x<256)(j:Nat):l.getD j 0<256:=by by_cases E:j<l.length;(have e:l.getD j 0=l[j]:=by simp[List.getD,E]);rw[e];exact h _ (WO E);simp[List.getD,E]
theorem F9{l:List Nat}(h:∀j,l.getD j 0<256):∀x∈l,x<256:=by intro x E;obtain⟨j,hj,rfl⟩:=XP E;have:=h j;exact bJ
structure En where
 f:Fl
 meth:Nat
 pk:List Nat
 crc:Nat
def Fy(b:Bool):Nat:=if b then 1 else 0
def Wt(x:En):List Nat:=Ah 20 2++Ah 0 2++Ah x.meth 2++Ah 0 4++Ah x.crc 4++Ah x.pk.length 4++Ah x.f.bytes.length 4++Ah x.f.name.length 2++Ah 11 2
def Kl(x:En):List Nat:=Ah 29297 2++Ah 7 2++Ah x.f.stamp.toNat 4++Ah x.f.node.toNat 2++Ah (Fy x.f.gone) 1
def Vw(x:En):List Nat:=Ah 67324752 4++Wt x++n8 x.f.name++Kl x++x.pk
def Tb(x:En)(p:Nat):List Nat:=Ah 33639248 4++Ah 20 2++Wt x++Ah 0 10++Ah p 4++n8 x.f.name++Kl x
def Au:List En->List Nat
 | []=> []
 |x::r=>Vw x++Au r
def Ao:Nat->List En->List Nat
 |_,[]=> []
 |p,x::r=>Tb x p++Ao (p+(Vw x).length) r
def Sa(n size at_:Nat):List Nat:=Ah 101010256 4++Ah 0 4++Ah n 2++Ah n 2++Ah size 4++Ah at_ 4++Ah 0 2
def Ba(l:List En):List Nat:=Au l++Ao 0 l++Sa l.length (Ao 0 l).length (Au l).length
theorem Np(x:En):(Wt x).length=26:=by simp[Wt,Ag]
theorem Jb(x:En):(Kl x).length=11:=by simp[Kl,Ag]
theorem Lf(x:En):(Vw x).length=41+x.f.name.length+x.pk.length:=by simp[Vw,Ag,Np,Jb,Cf];omega
theorem My(x:En)(p:Nat):(Tb x p).length=57+x.f.name.length:=by simp[Tb,Ag,Np,Jb,Cf];omega
theorem G7(n s a:Nat):(Sa n s a).length=22:=by simp[Sa,Ag]
theorem JM:∀(a b:List En),Au (a++b)=Au a++Au b
 | [],b=>rfl
 |x::a,b=>by rw[XV,Au,JM a b,Au,VO]
theorem O5:∀(a b:List En) (p:Nat),Ao p (a++b)=Ao p a++Ao (p+(Au a).length) b
 | [],b,p=>by simp[Ao,Au]
 |x::a,b,p=>by rw[XV,Ao,O5 a b,Ao,Au,VO,VB,WV]
theorem Dg{a b:List Nat}(E:∀x∈a,x<256)(G:∀x∈b,x<256):∀x∈a++b,x<256:=by intro x F;rcases WG.1 F with h|h;exact E x h;exact G x h
theorem IY(x:En):∀y∈Wt x,y<256:=by unfold Wt;exact jP
theorem JS(x:En):∀y∈Kl x,y<256:=by unfold Kl;exact jP
theorem Z5x(x:En)(h:∀y∈x.pk,y<256):∀y∈Vw x,y<256:=by unfold Vw;exact Dg (Dg (Dg (Dg (Et _ _) (IY x)) (Kb _)) (JS x)) h
theorem Z4a(x:En)(p:Nat):∀y∈Tb x p,y<256:=by unfold Tb;exact Dg (Dg (Dg (Dg (Dg (Dg (Et _ _) (Et _ _)) (IY x)) (Et _ _)) (Et _ _)) (Kb _)) (JS x)
theorem JK:∀(l:List En),(∀x∈l,∀y∈x.pk,y<256)->∀y∈Au l,y<256
 | [],_=>λy E=>by cases E
 |x::r,h=>Dg (Z5x x (h x oS)) (JK r (λz F=>h z (WL _ F)))
theorem O3:∀(l:List En) (p:Nat),∀y∈Ao p l,y<256
 | [],_=>λy E=>by cases E
 |x::r,p=>Dg (Z4a x p) (O3 r _)
theorem Z6c(n s a:Nat):∀y∈Sa n s a,y<256:=by unfold Sa;exact jP
theorem Se(l:List En)(h:∀x∈l,∀y∈x.pk,y<256):∀y∈Ba l,y<256:=Dg (Dg (JK l h) (O3 l 0)) (Z6c _ _ _)
def Iy(k:Nat)(r:List Nat):Option (List Nat×List Nat):=if r.length<k then vn else vp (r.take k,r.drop k)
theorem Bp(a r:List Nat)(h:a.length=k):Iy k (a++r)=vp (a,r):=by unfold Iy;rw[A0 uW,ZA h,ZB h]
theorem Rx(n k:Nat)(r:List Nat):Iy k (Ah n k++r)=vp (Ah n k,r):=Bp _ _ (Ag k n)
theorem AE{r a q:List Nat}(h:Iy k r=vp (a,q)):r=a++q/\a.length=k:=by unfold Iy at h;split at h;(. cases h);. rename_i E;simp only[YI,ZH]at h;obtain⟨rfl,rfl⟩:=h;exact⟨(YE _ _).symm,by rw[VL];omega⟩
theorem Ap{F:Type}{r:List Nat}{f:List Nat×List Nat->Option F}{y:F}(h:(Iy k r).bind f=vp y):∃a q,r=a++q/\a.length=k/\f (a,q)=vp y:=by
 cases E:Iy k r with
 |none=>rw[E]at h;cases h
 |some p=>rw[E]at h;exact⟨p.1,p.2,(AE E).1,(AE E).2,h⟩
def unpF(m:Nat)(pk:List Nat):Option (List Nat):=
 if m=0 then vp pk
 else if m=8 then (if pk.length<=6000/\(Du (rowB pk pk.length)).e=0/\((Du (rowB pk pk.length)).p+7)/8=pk.length then vp (Du (rowB pk pk.length)).out else vn)
 else vn
def Vx(r:List Nat):Option (En×List Nat):=
 (Iy 4 r).bind λa1=>(Iy 2 a1.2).bind λa2=>(Iy 4 a2.2).bind λa3=>(Iy 4 a3.2).bind λa4=>(Iy 4 a4.2).bind λa5=>
 (Iy 4 a5.2).bind λa6=>(Iy 2 a6.2).bind λa7=>(Iy 2 a7.2).bind λa8=>(Iy (Ak a7.1) a8.2).bind λa9=>(Iy 4 a9.2).bind λa10=>
 (Iy 4 a10.2).bind λa11=>(Iy 2 a11.2).bind λa12=>(Iy 1 a12.2).bind λa13=>(Iy (Ak a5.1) a13.2).bind λa14=>
 (unpF (Ak a2.1) a14.1).bind λb=>vp (⟨⟨o8 a9.1,o8 b,(Ak a11.1:Nat),(Ak a12.1:Nat),decide (Ak a13.1=1)⟩,Ak a2.1,a14.1,Ak a4.1⟩,a14.2)
def Cd:Nat->List Nat->Option (List En)
 |0,_=>vn
 |F+1,r=>(Iy 4 r).bind λm=>if Ak m.1=67324752 then (Vx m.2).bind λx=>(Cd F x.2).map (x.1:: ·)else vp []
theorem Uz{r:List Nat}{x:En}{q:List Nat}(h:Vx r=vp (x,q)):q.length+37<=r.length/\((∀z∈r,z<256)->(∀z∈x.pk,z<256)/\∀z∈q,z<256)/\∀t,Vx (r++t)=vp (x,q++t):=by
 unfold Vx at h;obtain⟨a1,r1,rfl,l1,h⟩:=Ap h;dsimp only at h;obtain⟨a2,r2,rfl,l2,h⟩:=Ap h;dsimp only at h;obtain⟨av,ak,rfl,ae,h⟩:=Ap h;dsimp only at h;obtain⟨a3,ap,rfl,af,h⟩:=Ap h;dsimp only at h;obtain⟨ax,ay,rfl,U,h⟩:=Ap h;dsimp only at h;obtain⟨a8,ao,rfl,ai,h⟩:=Ap h;dsimp only at h;obtain⟨al,ar,rfl,ag,h⟩:=Ap h;dsimp only at h;obtain⟨aj,bc,rfl,ac,h⟩:=Ap h;dsimp only at h;obtain⟨a6,a7,rfl,ah,h⟩:=Ap h;dsimp only at h;obtain⟨aw,au,rfl,l10,h⟩:=Ap h;dsimp only at h;obtain⟨a4,az,rfl,H,h⟩:=Ap h;dsimp only at h;obtain⟨bb,ba,rfl,I,h⟩:=Ap h;dsimp only at h;obtain⟨bd,a5,rfl,O,h⟩:=Ap h;dsimp only at h;obtain⟨Z,a9,rfl,aa,h⟩:=Ap h;dsimp only at h
 cases F:unpF (Ak a2) Z with
 |none=>rw[F]at h;cases h
 |some b=>rw[F]at h;simp only[VS,YI,ZH]at h;obtain⟨rfl,rfl⟩:=h;refine⟨?_,λG=>⟨λz E=>G z (by simp[E]),λz E=>G z (by simp[E])⟩,λt=> ?_⟩;simp only[VB];omega;unfold Vx;simp only[VO];rw[Bp _ _ l1,VS];dsimp only;rw[Bp _ _ l2,VS];dsimp only;rw[Bp _ _ ae,VS];dsimp only;rw[Bp _ _ af,VS];dsimp only;rw[Bp _ _ U,VS];dsimp only;rw[Bp _ _ ai,VS];dsimp only;rw[Bp _ _ ag,VS];dsimp only;rw[Bp _ _ ac,VS];dsimp only;rw[Bp _ _ ah,VS];dsimp only;rw[Bp _ _ l10,VS];dsimp only;rw[Bp _ _ H,VS];dsimp only;rw[Bp _ _ I,VS];dsimp only;rw[Bp _ _ O,VS];dsimp only;rw[Bp _ _ aa,VS];dsimp only;rw[F];rfl
theorem OO:∀ {F:Nat} {r:List Nat} {l:List En},Cd F r=vp l->∀t,Cd F (r++t)=vp l
 |0,r,l,h,t=>by cases h
 |F+1,r,l,h,t=>by
  unfold Cd at h ⊢;obtain⟨m,q,rfl,hl,h⟩:=Ap h;dsimp only at h;rw[VO,Bp _ _ hl,VS];dsimp only;split at h
  . rename_i hm;rw[A1 hm]
    cases E:Vx q with
    |none=>rw[E]at h;cases h
    |some p=>rw[E]at h;rw[(Uz (x:=p.1) (q:=p.2) E).2.2 t,VS];simp only[VS,XK]at h ⊢;obtain⟨l2,G,H⟩:=h;exact⟨l2,OO G t,H⟩
  . rename_i hm;rw[A0 hm];exact h
theorem Uw:∀ {F:Nat} {r:List Nat} {l:List En},Cd F r=vp l->(∀z∈r,z<256)->∀x∈l,∀z∈x.pk,z<256
 |0,r,l,h,_=>by cases h
 |F+1,r,l,h,hv=>by
  unfold Cd at h;obtain⟨m,q,rfl,hl,h⟩:=Ap h;dsimp only at h;split at h
  . cases G:Vx q with
    |none=>rw[G]at h;cases h
    |some p=>rw[G]at h;simp only[VS,XK]at h;obtain⟨l2,I,rfl⟩:=h;have H:=(Uz (x:=p.1) (q:=p.2) G).2.1 (λz O=>hv z (by simp[O]));intro x E;rcases VV.1 E with rfl|E;exact H.1;exact Uw I H.2 x E
  . cases h;intro x E;cases E
structure EOk(x:En):Prop where
 st:0<=x.f.stamp/\x.f.stamp<4294967296
 nd:0<=x.f.node/\x.f.node<65536
 nm:x.f.name.length<65536
 pl:x.pk.length<4294967296
 cr:x.crc<4294967296
 mt:x.meth<65536
 un:unpF x.meth x.pk=vp (n8 x.f.bytes)
theorem Z69(x:En)(h:EOk x)(t:List Nat):Vx (Wt x++n8 x.f.name++Kl x++x.pk++t)=vp (x,t):=by(have e:Wt x++n8 x.f.name++Kl x++x.pk++t=(Ah 20 2++Ah 0 2)++(Ah x.meth 2++(Ah 0 4++(Ah x.crc 4++(Ah x.pk.length 4++(Ah x.f.bytes.length 4++(Ah x.f.name.length 2++(Ah 11 2++(n8 x.f.name++((Ah 29297 2++Ah 7 2)++(Ah x.f.stamp.toNat 4++(Ah x.f.node.toNat 2++(Ah (Fy x.f.gone) 1++(x.pk++t))))))))))))):=by simp only[Wt,Kl,VO]);obtain⟨⟨U,st1⟩,⟨I,aa⟩,nm,pl,cr,mt,un⟩:=h;have o1:Ak (Ah x.meth 2)=x.meth:=Ck 2 _ mt;have o2:Ak (Ah x.crc 4)=x.crc:=Ck 4 _ cr;have F:Ak (Ah x.pk.length 4)=x.pk.length:=Ck 4 _ pl;have Z:Ak (Ah x.f.name.length 2)=x.f.name.length:=Ck 2 _ nm;have G:Ak (Ah x.f.stamp.toNat 4)=x.f.stamp.toNat:=Ck 4 _ (by show _<4294967296;omega);have H:Ak (Ah x.f.node.toNat 2)=x.f.node.toNat:=Ck 2 _ (by show _<65536;omega);have O:Ak (Ah (Fy x.f.gone) 1)=Fy x.f.gone:=Ck 1 _ (by unfold Fy;split<;>decide);rw[e];unfold Vx;rw[Bp _ _ (show (Ah 20 2++Ah 0 2).length=4 from rfl)];simp only[VS,Rx,o1,o2,F,Z];rw[Bp _ _ (Cf x.f.name)];simp only[VS];rw[Bp _ _ (show (Ah 29297 2++Ah 7 2).length=4 from rfl)];simp only[VS,Rx,G,H,O];rw[Bp _ _ rfl];simp only[VS,un,MT,YI,ZH,and_true];have E:((x.f.stamp.toNat:Nat):Int)=x.f.stamp:=ZD U;have e2:((x.f.node.toNat:Nat):Int)=x.f.node:=ZD I;(have e3:decide (Fy x.f.gone=1)=x.f.gone:=by cases x.f.gone<;>rfl);rw[E,e2,e3]
theorem Yz:∀(l:List En) {F:Nat} {t:List Nat},(∀x∈l,EOk x)->l.length<F->(∃m q,Iy 4 t=vp (m,q)/\Ak m≠67324752)->Cd F (Au l++t)=vp l
 | [],0,t,_,h,_=>by cases h
 | [],F+1,t,_,_,⟨m,q,h1,h2⟩=>by unfold Cd;show (Iy 4 t).bind _=_;rw[h1,VS];dsimp only;rw[A0 h2]
 |x::l,0,t,_,h,_=>by cases h
 |x::l,F+1,t,h,hF,ht=>by unfold Cd;(have e:Au (x::l)++t=Ah 67324752 4++(Wt x++n8 x.f.name++Kl x++x.pk++(Au l++t)):=by simp only[Au,Vw,VO]);have hm:Ak (Ah 67324752 4)=67324752:=Ck 4 _ od;rw[e,Rx,VS];dsimp only;rw[A1 hm,Z69 x (h x oS),VS];dsimp only;rw[Yz l (λy E=>h y (WL _ E)) (by simpa using hF) ht];rfl
theorem BC(l:List En)(h:∀x∈l,EOk x)(t:List Nat)(E:l.length<F):Cd F (Ba l++t)=vp l:=by
 unfold Ba;rw[VO,VO];refine Yz l h E ?_
 cases l with
 |nil=>refine⟨Ah 101010256 4,(Sa 0 0 0).drop 4++t,?_,by rw[Ck 4 _ od];decide⟩;exact Bp (Ah 101010256 4) ((Sa 0 0 0).drop 4++t) rfl
 |cons x r=>refine⟨Ah 33639248 4,Ah 20 2++(Wt x++(Ah 0 10++(Ah 0 4++(n8 x.f.name++(Kl x++(Ao (0+(Vw x).length) r++(Sa (x::r).length (Ao 0 (x::r)).length (Au (x::r)).length++t))))))),?_,by rw[Ck 4 _ od];decide⟩;rw[<-Rx];simp only[Ao,Tb,VO]
theorem QA(l:List En):l.length+22<=(Ba l).length:=by
 have:∀l:List En,l.length<=(Au l).length:=by
  intro l
  induction l with
  |nil=>exact VF _
  |cons x r ih=>rw[Au,VB,Lf,VG];omega
 have h:=this l;unfold Ba;rw[VB,VB,G7];omega
theorem KO(l:List En):l.length<(Ba l).length+1:=by have:=QA l;omega
def sumsF(l:List En):Bool:=l.all λx=>decide (x.crc=crcN 0 (n8 x.f.bytes))
def readE(b:List Nat):Nat:=
 if 12000<b.length then 2
 else match Cd (b.length+1) b with
  |none=>7
  |some l=>if errM (l.map En.f)≠0\/Ba l≠b then 7 else if sumsF l=vq then 10 else 0
def readL(b:List Nat):List Fl:=if readE b≠0 then []else ((Cd (b.length+1) b).getD []).map En.f
theorem To{b:List Nat}(h:readE b=0):∃l,Cd (b.length+1) b=vp l/\errM (l.map En.f)=0/\Ba l=b/\sumsF l=vr/\readL b=l.map En.f/\b.length<=12000:=by
 (have F:readL b=((Cd (b.length+1) b).getD []).map En.f:=by unfold readL;rw[A0 (by rw[h];decide)]);unfold readE at h;split at h;. cases h
 . rename_i hb
   cases E:Cd (b.length+1) b with
   |none=>rw[E]at h;cases h
   |some l=>rw[E]at h F;dsimp only at h;split at h;(. cases h);. rename_i hc;split at h;(. cases h);. rename_i G;refine⟨l,rfl,?_,?_,?_,F,om⟩;by_cases e:errM (l.map En.f)=0;exact e;exact absurd (.inl e) hc;by_cases e:Ba l=b;exact e;exact absurd (.inr e) hc;. cases e:sumsF l;exact absurd e G;rfl
theorem U8(l:List En)(h:∀x∈l,EOk x)(I:errM (l.map En.f)=0)(H:sumsF l=vr)(O:(Ba l).length<=12000):readE (Ba l)=0/\readL (Ba l)=l.map En.f:=by(have F:Cd ((Ba l).length+1) (Ba l)=vp l:=by have:=BC l h [] (KO l);rwa [XB]at this);(have G:readE (Ba l)=0:=by unfold readE;rw[A0 om,F];dsimp only;rw[A0 (by intro E;rcases E with E|E;exact E I;exact E rfl),A0 (by rw[H];decide)]);refine⟨G,?_⟩;unfold readL;rw[A0 (by rw[G];decide),F];rfl
end
section
open Go.RowKit Go.Proofs.Tryz
variable{ag h5:Array Oper}{gn:Bool}{Q:Exit->Act->World->Prop}{af bs ys:List Nat}{al:List Oper}{au:List Value}{G X aa ac ai ak b c cr e g j k mt n nd o p st:Nat}{a ah ap:Option Addr}{r:Option Nat}{E v v':Value}{O W ao w w' wr:World}
def KpT(w w':wd):Prop:=∀(g:Nat) (cs:Array vt) (t:TypeId) (fz:Nat×Nat),t≠5->t≠101->w.heap[g]? =vp (vl cs t fz)->w'.heap[g]? =vp (vl cs t fz)
theorem KpT.refl(w:wd):KpT w w:=λ_ _ _ _ _ _ h=>h
theorem KpT.trans{a b c:wd}(h:KpT a b)(k:KpT b c):KpT a c:=λg cs t fz E F G=>k g cs t fz E F (h g cs t fz E F G)
theorem KpT.below(h:vx w.heap.size w w'):KpT w w':=λg cs t fz _ _ E=>(h.block g (VD.1 E).1).trans E
structure ZC(B:Nat)(w:wd)(b:Nat)(xs:List Nat)(ov:vt):Prop where
 base:B<=b
 cell:w.heap[b]? =vp (vl #[ov] 101 (0,0))
 own:w.ownsRow (b+1) 5 1 ov xs.length (u8s xs)
theorem ZC.lt{B:Nat}{xs:List Nat}(h:ZC B w b xs E):b<w.heap.size:=(VD.1 h.cell).1
structure H5(B:Nat)(w:wd)(b:Nat)(xs:List Nat)(w':wd):Prop where
 is:∃ov,ZC B w' b xs ov
 below:vx B w w'
 kp:KpT w w'
theorem H5.refl{B:Nat}{xs:List Nat}(h:ZC B w b xs E):H5 B w b xs w:=⟨⟨E,h⟩,A2 _ _,KpT.refl _⟩
theorem H5.trans{B:Nat}{xs:List Nat}(h:H5 B w b xs O)(k:H5 B O b ys ao):H5 B w b ys ao:=⟨k.is,h.below.trans k.below,h.kp.trans k.kp⟩
theorem ZC.later{B:Nat}{xs:List Nat}(h:ZC B w b xs E)(F:vx w.heap.size w w'):ZC B w' b xs E:=
 ⟨h.base,(F.block b h.lt).trans h.cell,Bv h.own (λg G=>F.block g (h.own.lt g G).2)⟩
theorem ZC.apart{B:Nat}{xs:List Nat}(h:ZC B w b xs E):E.ownBlock=vn\/E.ownBlock≠vp b:=by
 cases F:E.ownBlock with
 |none=>exact .inl rfl
 |some g=>refine .inr (λe=> ?_);have:=(h.own.lt g F).1;cases e;omega
theorem Ri{B:Nat}{xs:List vt}(h:w.ownsRow B e ac v n xs)(F:v.ownBlock=vp g):∃cs,w.heap[g]? =vp (vl cs e (0,0)):=by(rcases h.2 with ⟨E,_⟩|⟨I,cap,cur,E,H,G,_⟩);(. subst E;cases F);. subst E;cases F;exact⟨_,G⟩
theorem ZC.put{B:Nat}{r:wd}{xs:List Nat}(h:ZC B r b xs E)(H:r.grownBy W vn)(G:W.grownBy w' E.ownBlock)(Z:w'.ownsRow (b+1) 5 1 v' (xs.length+ys.length) (u8s xs++u8s ys)):w'.cell? ⟨b,0,vn⟩=vp E/\w'.frozen? ⟨b,0,vn⟩=vq/\H5 B r b (xs++ys) (w'.setCell ⟨b,0,vn⟩ v'):=by
 have aa:=h.lt;have ap:=H.size;have au:=G.size;have ai:W.heap[b]? =vp (vl #[E] 101 (0,0)):=(H.block b aa oS).trans h.cell;have O:w'.heap[b]? =vp (vl #[E] 101 (0,0)):=(G.block b om (λe=>by rcases h.apart with h|h;rw[h]at e;cases e;exact h e.symm)).trans ai;have I:=Ad w' b 0 v'
 have af:v'.ownBlock=vn\/v'.ownBlock≠vp b:=by
  cases aj:v'.ownBlock with
  |none=>exact .inl rfl
  |some g=>refine .inr (λe=> ?_);have:=(Z.lt g aj).1;cases e;omega
 have U:=h.base;refine⟨Ac O,B1 w' b 0 _ _ O,⟨v',U,?_,?_⟩,?_,?_⟩;rw[CR w' b 0 _ _ _ O];rfl;have:=Z.kept I af;rw[VB,u8s,XC];exact this;have ag:=(A2 B r).grown H om (λg e=>by cases e);have b1:=ag.grown G om (λg e=>by have:=(h.own.lt g e).1;omega);exact b1.grown I om (λg e=>by cases e;exact U);intro g cs t fz ah ae F;have ao:=(VD.1 F).1;have al:W.heap[g]? =vp (vl cs t fz):=(H.block g ao oS).trans F;(have ac:vp g≠E.ownBlock:=by intro e;obtain⟨ar,hc⟩:=Ri h.own e.symm;rw[F]at hc;injection hc with hc;injection hc with _ hc2;exact ah hc2);have e2:w'.heap[g]? =vp (vl cs t fz):=(G.block g om ac).trans al;(have ak:g≠b:=by intro e;rw[e,h.cell]at F;injection F with F;injection F with _ h4;exact ae h4.symm);exact(I.block g om (λe=>ak (VK e))).trans e2
def PkIn(w:wd)(a:Option vw)(c:Nat)(ys:List Nat):Prop:=BytesIn w a ys/\(a=vn->c=0)
theorem PkIn.below(h:PkIn w a c ys)(E:vx w.heap.size w w'):PkIn w' a c ys:=by refine⟨?_,h.2⟩;rcases h.1 with h|⟨b,o,e,hb,hc⟩;exact .inl h;exact .inr ⟨b,o,e,VC hb E.size,λj F=>(FA (w:=w) (a:=⟨b,_,vn⟩) (E.block b hb)).trans (hc j F)⟩
theorem JG:(Tryz.prog.info? 5).map (λi=>(i.zero,i.size,i.bytes))=vp (vp (so vi 0),1,1):=oR
theorem Na(w:wd)(I:TypeId)(base:Nat)(v:vt)(xs ys:List Nat)(G:w.ownsRow base 5 1 v xs.length (u8s xs))(E:Option vw)(m c:Nat)(al:ys.length=m)(U:PkIn w E c ys)(ap:xs.length+m<=140737488355328)(af:base<=w.heap.size):∃v' w',(Builtin.append_ #[23,23] I #[v,va E m c]).run v8 w=.ok v' w'/\w'.ownsRow base 5 1 v' (xs.length+ys.length) (u8s xs++u8s ys)/\w.grownBy w' v.ownBlock:=by
 obtain⟨aa,hi,ae,ah,aj⟩:=EM JG;subst al
 cases E with
 |none=>have hc:c=0:=U.2 rfl;subst hc;(have ai:ys= []:=by rcases U.1 with h|⟨b,o,e,_⟩;exact h;. cases e);subst ai;have hr:=run_append_owned_none (P:=v8) (w:=w) base 23 I 5 aa 1 underlying23 hi v xs.length (u8s xs) G;exact⟨v,w,hr,by simpa using G,Av _ _⟩
 |some E=>
  obtain⟨v',w',ag,ac,ak,_⟩:=run_append_own_at (P:=v8) w base 23 I 5 aa (so vi 0) 1 1 underlying23 hi ae ah aj rfl od v xs.length (u8s xs) G E ys.length c (u8s ys) oS (by
   intro j u O
   have F:j<ys.length:=by
    have:=(WY.1 O).1
    simpa using this
   rcases U.1 with h|⟨b,o,e,_,ao⟩
   . subst h;simp at F
   . cases e
     have H:u=so vi (ys.getD j 0:Nat):=by
      simp[u8s,F]at O
      simp[List.getD,F,O]
     rw[H]
     have:=ao j F
     by_cases Z:j=0
     . subst Z;simpa[Addr.add]using this
     . simpa[Addr.add,Z]using this) (by
   intro u H
   obtain⟨x,_,rfl⟩:=WU.1 H
   rfl) ou om af
  exact⟨v',w',ag,ac,ak⟩
theorem RV{o:Oper}{a:Act}{K:Act->wd->Prop}{E:Prop}(lk:o.guard=vn)(s x:Operand) (ae:o.op=.call {callee:=.builtin .append,args:= #[s,x],argTypes:= #[23,23]}) (r:wd) (B b:Nat) (xs ys:List Nat) (H:vt) (ah:a.eval s=H) (I:ZC B r b xs H) (O:r.grownBy W vn) (U:Option vw) (m c:Nat) (ai:a.eval x=va U m c) (aj:ys.length=m) (ak:PkIn W U c ys) (ao:xs.length+m<=1000000) (h:∀G aa F w',w'.cell? ⟨b,0,vn⟩=vp H->w'.frozen? ⟨b,0,vn⟩=vq->vz (H5 B r b (xs++ys) (w'.setCell ⟨b,0,vn⟩ (va G aa F)))->K (a.put o.dst (va G aa F)) w'):if Region.wanted o (yielded h5 a.tmps)=vr then Oper.wp v8 o a W K Q else E:=by have ac:=pO;rw[A1 ac];have al:=I.lt;have ap:=O.size;obtain⟨v',w',hr,Z,ag⟩:=Na W o.type (b+1) H xs ys (Lb I.own O) U m c aj ak om om;obtain⟨c1,c2,af⟩:=I.put O ag Z;obtain⟨G,F,rfl⟩:=Am Z;unfold Oper.wp execOp;simp only[ae,resolve,invoke,builtin,P0,TO,V6,YP,WN,YT,ah,ai,hr];exact h G _ F w' c1 c2 (Ab af)
theorem LU(l:List UInt8):Lib.strCells (B l)=u8s (n8 l):=by simp[Lib.strCells,B,u8s,n8,ZM]
theorem RU{o:Oper}{a:Act}{K:Act->wd->Prop}{E:Prop}(lk:o.guard=vn)(s x:Operand) (aj:o.op=.call {callee:=.builtin .append,args:= #[s,x],argTypes:= #[23,9]}) (r:wd) (aa b:Nat) (xs:List Nat) (l:List UInt8) (H:vt) (ao:a.eval s=H) (I:ZC aa r b xs H) (U:r.grownBy W vn) (ap:a.eval x=vb (B l)) (au:xs.length+l.length<=1000000) (h:∀G ac F w',w'.cell? ⟨b,0,vn⟩=vp H->w'.frozen? ⟨b,0,vn⟩=vq->vz (H5 aa r b (xs++n8 l) (w'.setCell ⟨b,0,vn⟩ (va G ac F)))->K (a.put o.dst (va G ac F)) w'):if Region.wanted o (yielded h5 a.tmps)=vr then Oper.wp v8 o a W K Q else E:=by have ah:=pO;rw[A1 ah];have ar:=I.lt;have av:=U.size;obtain⟨ag,hi,ae,af,ai⟩:=EM JG;(have Z:(B l).size=l.length:=by simp[B,ByteArray.size]);obtain⟨v',w',hr,O,al,_⟩:=Lib.run_append_own_string (P:=v8) W (b+1) 23 9 o.type 5 ag underlying23 underlying9 hi ae af ai H xs.length (u8s xs) (Lb I.own U) (B l) (by rw[Z];unfold maxLen;omega) (by rw[Z];omega) om;rw[Z,LU,<-Cf]at O;obtain⟨c1,c2,ak⟩:=I.put U al O;obtain⟨G,F,rfl⟩:=Am O;unfold Oper.wp execOp;simp only[aj,resolve,invoke,builtin,P0,TO,V6,YP,WN,YT,ao,ap,hr];exact h G _ F w' c1 c2 (Ab ak)
theorem Z8v(k:Nat):256^k=2^(8*k):=by rw[Nat.pow_mul]
theorem ZC.new{B:Nat}{xs:List Nat}(h:ZC B w b xs E):w.cell? ⟨b,0,vn⟩=vp E/\w.frozen? ⟨b,0,vn⟩=false:=⟨Ac h.cell,B1 w b 0 _ _ h.cell⟩
theorem Zbe{y:Nat}(h:W.cell? ⟨ac,0,vn⟩=vp (so vi y)):PkIn W (vp ⟨ac,0,vn⟩) 1 [y]:=by
 refine⟨.inr ⟨ac,0,rfl,?_,?_⟩,λe=>by cases e⟩
 . simp only[World.cell?]at h
   cases hb:W.heap[ac]? with
   |none=>rw[hb]at h;cases h
   |some o=>exact(VD.1 hb).1
 intro j hj;obtain rfl:j=0:=tH;simpa using h
theorem Z8h(k:Nat)(O:k<=10)(H:n<4294967296)(W:wd):(Op.shift .shr vj (n:Int) vh (vh.wrap (8*(k:Int)))).run v8 W=.ok (so vj (n/256^k:Nat)) W:=by have e:vh.wrap (8*(k:Int))=((8*k:Nat):Int):=xF;rw[e,Z8v];have I:n/2^(8*k)<=n:=YW _ _;(have F:(n:Int).fdiv (2^min (8*k) 32)=((n/2^(8*k):Nat):Int):=by rw[Int.fdiv_eq_ediv_of_nonneg _ (by exact_mod_cast VF _)];by_cases E:8*k<=32;rw[YX E];push_cast;rfl;rw[YO om];have G:n/2^(8*k)=0:=UK (VC H (show (4294967296:Nat)<=2^(8*k) from VN (n:=2) (i:=32) (j:=8*k) od om));rw[G];omega);unfold Op.shift;rw[A0 om,WQ];show Result.ok (so vj ((n:Int).fdiv (2^min (8*k) 32))) W=_;rw[F]
theorem Bb(B b E n:Nat)(xs:List Nat)(w:wd)(h:∃ov,ZC B w b xs ov)(ax:E<=10)(al:n<4294967296)(ay:xs.length<=900000):vu v8 77 #[vc (vp ⟨b,0,vn⟩),so vh E,so vj n] w λe w'=>e=vm (vd #[])/\H5 B w b (xs++Ah n E) w':=by obtain⟨av,O⟩:=h;have H:=Ab O;clear O;go_enter func77,ntmps77;go_wp2;go_loopw [8] (λi wr=>∃k:Nat,k<=E/\i=so vh k/\vz (H5 B w b (xs++Ah n k) wr)) (λi _=>E-(vy i).toNat);exact⟨0,VF _,rfl,Ab (by simpa[Ah]using H5.refl H)⟩;obtain⟨k,aw,rfl,I⟩:=hrel;by_cases ar:k<E;(. obtain⟨ov,F⟩:=I.is;have G:=Ub k n;have Z:=Ag k n;obtain⟨c0,f0⟩:=F.new;have ao:=Z8h k om al;obtain⟨z,aa⟩:=exq (n/256^k);rw[aa]at G ao;obtain⟨y,ac⟩:=exq (z%256);rw[ac]at G;have az:vi.wrap (z:Int)=y:=xF;have au:∀o:Obj,(wr.alloc o).cell? ⟨b,0,vn⟩=vp ov:=λo=>(U0 wr o _ F.lt).trans c0;have ai:=Ab G;(have U:(xs++Ah n k).length+1<=1000000:=by rw[VB,Z];omega);have af:=Ab U;have aj:=Ab F;clear F G Z U ac aa;go_wp2;go_region_law (refine RV rfl (.tmp 15) (.tmp 21) rfl wr B b _ [y] _ rfl aj uA _ 1 1 rfl rfl (Zbe (by repeat (first|with_reducible refine Z2g ?_|with_reducible exact Vr oS|with_reducible exact Z2f oS))) af ?_;intro ah ap ag w' c1 c2 ae);all_goals (have ak:vz (H5 B w b (xs++Ah n (k+1)) (w'.setCell ⟨b,0,vn⟩ (va ah ap ag))):=Ab (by rw[Aa ai,<-VO];exact I.trans ae);clear c1 c2 ae;go_wp2;go_roundw;exact⟨k+1,om,by go_num,ak⟩;simp[vy];omega));. obtain rfl:E=k:=om;go_wp2;go_end0;exact⟨rfl,I⟩
theorem Hq(B b E:Nat)(xs:List Nat)(w:wd)(h:∃ov,ZC B w b xs ov)(G:E<=10)(O:xs.length<=900000):vu v8 80 #[vc (vp ⟨b,0,vn⟩),so vh E] w λe w'=>e=vm (vd #[])/\H5 B w b (xs++Ah 0 E) w':=by have H:=Ab (Bb B b E 0 xs w h G od O);clear h;go_enter func80,ntmps80;go_wp2_with fail;refine H.mono ?_;rintro e w' ⟨rfl,F⟩;have I:=Ab F;clear F;go_wp2;go_end0;exact⟨rfl,I⟩
theorem Gv(h:vx w.heap.size w w'):w.grownBy w' none:=⟨h.os,h.tape,h.output,h.size,λk E _=>h.block k E⟩
theorem W5{B:Nat}{xs:List vt}(h:w.ownsRow B e ac v n xs)(E:vx w.heap.size w w'):w'.ownsRow B e ac v n xs:=
 h.kept (Gv E) (by cases F:v.ownBlock with
  |none=>exact .inl rfl
  |some k=>exact .inr oS)
def BsIn(w:wd)(a:Option vw)(c:Nat)(bs:List UInt8):Prop:=
 (a=vn/\bs= []/\c=0)\/ (bs= []/\∃ad,a=vp ad)\/∃b o,a=vp ⟨b,o,vn⟩/\b<w.heap.size/\bs.length<=c/\∀j,j<bs.length->w.cell? ⟨b,o+j,vn⟩=vp (so vi ((bs.getD j 0).toNat:Nat))
theorem BsIn.below{B:Nat}{bs:List UInt8}(h:BsIn w a c bs)(E:vx B w w')(U:w.heap.size<=B):BsIn w' a c bs:=by rcases h with h|h|⟨b,o,I,G,O,H⟩;exact .inl h;exact .inr (.inl h);refine .inr (.inr ?_);exact⟨b,o,I,VC G E.size,O,λj F=>(E.cell (p:=⟨b,o+j,vn⟩) oO).trans (H j F)⟩
theorem BsIn.grown{bs:List UInt8}(h:BsIn w a c bs)(F:w.grownBy w' r)(O:∀b o,a=vp ⟨b,o,vn⟩->vp b≠r):BsIn w' a c bs:=by rcases h with h|h|⟨b,o,E,H,U,I⟩;exact .inl h;exact .inr (.inl h);refine .inr (.inr ?_);exact⟨b,o,E,VC H F.size,U,λj G=>F.cell (I j G) (O b o E)⟩
abbrev IR(bs:List UInt8):List Int:=bs.map λx:UInt8=>((x.toNat:Nat):Int)
theorem Z00(bs:List UInt8)(j:Nat):(IR bs).getD j 0=(((bs.getD j 0).toNat:Nat):Int):=by unfold IR;by_cases h:j<bs.length;simp[List.getD,h];simp[List.getD,h]
theorem Z7a(bs:List UInt8):(IR bs).map (λn=>UInt8.ofNat n.toNat)=bs:=by unfold IR;rw[List.map_map];(have:((λn:Int=>UInt8.ofNat n.toNat) ∘ λx:UInt8=>((x.toNat:Nat):Int))=id:=by funext x;simp);rw[this,List.map_id]
theorem CZ(bs:List UInt8):strOfNums (IR bs)=B bs:=by unfold strOfNums B;rw[Z7a]
theorem Ol{bs:List UInt8}(h:BsIn w a c bs):(convert 23 9 (va a bs.length c)).run v8 w=.ok (vb (B bs)) w:=by(rcases h with ⟨rfl,rfl,rfl⟩|⟨rfl,ad,rfl⟩|⟨b,o,rfl,F,G,E⟩);exact run_convert_bytes_nil w _ _ underlying23 underlying5 0 0 _ underlying9;show (convert 23 9 (va (vp ad) 0 c)).run v8 w=.ok (vb (B [])) w;rw[run_convert_bytes_string w _ _ _ (vp ad) 0 c underlying23 underlying5 underlying9];exact(run_bytesToString (P:=v8) w ad 0 c [] (by rfl)).trans rfl;have:=run_convert_bytes_arg (P:=v8) w _ _ underlying23 underlying5 b o bs.length c (IR bs) (by simp[IR]) (λi hi=>by rw[E i hi,Z00]) _ underlying9;rw[this,CZ]
structure Fv where
 f:Fl
 a:Option vw
 c:Nat
variable{x:Fv}
def Fv.sl(x:Fv):Value:=va x.a x.f.bytes.length x.c
def Fv.val(x:Fv):Value:=vf #[vb (B x.f.name),x.sl,so vh x.f.stamp,so vh x.f.node,ve x.f.gone]
def Fv.cells(x:Fv):List Value:= [vb (B x.f.name),x.sl,so vh x.f.stamp,so vh x.f.node,ve x.f.gone]
structure FvIn(w:wd)(x:Fv):Prop where
 bs:BsIn w x.a x.c x.f.bytes
 big:x.f.bytes.length<=140737488355328
 txt:x.f.name.length<=140737488355328
theorem FvIn.below{B:Nat}(h:FvIn w x)(E:vx B w w')(F:w.heap.size<=B):FvIn w' x:=⟨h.bs.below E F,h.big,h.txt⟩
theorem FvIn.grown(h:FvIn w x)(E:w.grownBy w' r)(F:∀b o,x.a=vp ⟨b,o,vn⟩->vp b≠r):FvIn w' x:=⟨h.bs.grown E F,h.big,h.txt⟩
theorem FvIn.alloc(h:FvIn w x)(o:Obj):FvIn (w.alloc o) x:=h.below ((A2 w.heap.size w).alloc (VA _) o) (VA _)
def Fs(w:wd)(b o:Nat)(xs:List Fv):Prop:=∀j x,xs[j]? =vp x->w.cell? ⟨b,o+j*5,vn⟩=vp (vb (B x.f.name))/\w.cell? ⟨b,o+j*5+1,vn⟩=vp x.sl/\w.cell? ⟨b,o+j*5+2,vn⟩=vp (so vh x.f.stamp)/\w.cell? ⟨b,o+j*5+3,vn⟩=vp (so vh x.f.node)/\w.cell? ⟨b,o+j*5+4,vn⟩=vp (ve x.f.gone)
structure FsIn(w:wd)(ad:Option vw)(c:Nat)(xs:List Fv):Prop where
 at_:xs= []\/∃b o,ad=vp ⟨b,o,vn⟩/\b<w.heap.size/\Fs w b o xs
 cap:xs.length<=c
 capm:c<=9223372036854775807
 lim:xs.length<=2199023255552
 all:∀x∈xs,FvIn w x
theorem FsIn.below{B:Nat}{xs:List Fv}(h:FsIn w ah c xs)(E:vx B w w')(Z:w.heap.size<=B):FsIn w' ah c xs:=by refine⟨?_,h.cap,h.capm,h.lim,λx ae=>(h.all x ae).below E Z⟩;rcases h.at_ with G|⟨b,o,G,O,U⟩;exact .inl G;refine .inr ⟨b,o,G,VC O E.size,?_⟩;intro j x I;obtain⟨k1,k2,H,aa,ac⟩:=U j x I;have F:b<B:=om;exact⟨(E.cell (p:=⟨b,_,vn⟩) F).trans k1,(E.cell (p:=⟨b,_,vn⟩) F).trans k2,(E.cell (p:=⟨b,_,vn⟩) F).trans H,(E.cell (p:=⟨b,_,vn⟩) F).trans aa,(E.cell (p:=⟨b,_,vn⟩) F).trans ac⟩
theorem FsIn.nil(w:wd):FsIn w vn 0 []:=⟨.inl rfl,VA _,om,oS,λx E=>by cases E⟩
theorem FsIn.get{xs:List Fv}(h:FsIn w ah c xs)(O:vx w.heap.size w w')(E:xs[k]? =vp x):∃b o,ah=vp ⟨b,o,vn⟩/\b<w.heap.size/\w'.cell? ⟨b,o+k*5,vn⟩=vp (vb (B x.f.name))/\w'.cell? ⟨b,o+k*5+1,vn⟩=vp x.sl/\w'.cell? ⟨b,o+k*5+2,vn⟩=vp (so vh x.f.stamp)/\w'.cell? ⟨b,o+k*5+3,vn⟩=vp (so vh x.f.node)/\w'.cell? ⟨b,o+k*5+4,vn⟩=vp (ve x.f.gone):=by rcases(h.below O (VA _)).at_ with rfl|⟨b,o,F,ac,U⟩;simp at E;. rcases h.at_ with rfl|⟨ae,af,G,H,_⟩;simp at E;. rw[F]at G;cases G;obtain⟨k1,k2,I,Z,aa⟩:=U k x E;exact⟨b,o,F,H,k1,k2,I,Z,aa⟩
theorem Lm{xs:List Fv}(h:k<xs.length):∃x,xs[k]? =vp x/\x∈xs:=⟨xs[k],VP h,WO h⟩
abbrev fls(xs:List Fv):List Fl:=xs.map Fv.f
theorem Db(x:Fv):x.val=vf #[vb (B x.f.name),va x.a x.f.bytes.length x.c,so vh x.f.stamp,so vh x.f.node,ve x.f.gone]:=rfl
theorem Ea(l:List UInt8):(B l).toList=l:=by rw[ByteArray.toList_eq];rfl
theorem Ze{bs:List UInt8}(h:BsIn w a c bs):(Extern.Bytes.bytesOf (va a bs.length c)).run v8 w=.ok (B bs) w:=by
 (rcases h with ⟨rfl,rfl,rfl⟩|⟨rfl,ad,rfl⟩|⟨b,o,rfl,H,I,G⟩);rfl;rfl
 . have:=Lib.run_loadBytesX (P:=v8) w (IR bs) ⟨b,o,vn⟩ .empty (λj x E=>by
    have F:j<bs.length:=by
     by_cases k:j<bs.length
     . exact k
     . rw[VZ (by simp[IR];omega)]at E;cases E
    have e2:=dP
    rw[e2,G j F]
    simp[IR,F]at E
    subst E
    simp[List.getD,F])
   (have hl:(IR bs).length=bs.length:=by simp[IR]);rw[hl]at this;show (Extern.Bytes.loadBytes ⟨b,o,vn⟩ bs.length .empty).run v8 w=_;rw[this];congr 1;(have e3:Lib.bytesOf (IR bs)=bs:=by unfold Lib.bytesOf;first|exact Z7a bs|(simp[IR]));rw[e3];simp[B,ByteArray.empty,ByteArray.emptyWithCapacity];rfl
structure Ev where
 e:En
 fa:Option vw
 fc:Nat
 pa:Option vw
 pc:Nat
def Ev.cells(x:Ev):List Value:= [vb (B x.e.f.name),va x.fa x.e.f.bytes.length x.fc,so vh x.e.f.stamp,so vh x.e.f.node,ve x.e.f.gone,so vj (x.e.meth:Int),va x.pa x.e.pk.length x.pc,so vj (x.e.crc:Int)]
def Ev.val(x:Ev):Value:=vf #[vb (B x.e.f.name),va x.fa x.e.f.bytes.length x.fc,so vh x.e.f.stamp,so vh x.e.f.node,ve x.e.f.gone,so vj (x.e.meth:Int),va x.pa x.e.pk.length x.pc,so vj (x.e.crc:Int)]
structure HY(x:En):Prop where
 st:0<=x.f.stamp/\x.f.stamp<=1000000
 nd:0<=x.f.node/\x.f.node<=3
 nm:x.f.name.length<=40
 bl:x.f.bytes.length<=3000
 pl:x.pk.length<=12000
 cr:x.crc<4294967296
 mt:x.meth<65536
theorem Bf(h:n<4294967296):vj.wrap (n:Int)=n:=by exact xF
abbrev Bx(w:wd)(X:Nat)(nm:ByteArray)(fa:Option vw)(bl fc:Nat)(st nd:Nat)(gn:Bool)(mt:Nat)(pa:Option vw)(pl pc cr:Nat):Prop:=
 w.heap[X]? =vp (vl #[vb nm,va fa bl fc,so vh st,so vh nd,ve gn,so vj mt,va pa pl pc,so vj cr] 71 (0,0))
theorem Hg{E:ByteArray}(h:Bx w X E ah ac G st nd gn mt ap aa ai cr):w.cell? ⟨X,0,vn⟩=vp (vb E)/\w.cell? ⟨X,1,vn⟩=vp (va ah ac G)/\w.cell? ⟨X,2,vn⟩=vp (so vh st)/\w.cell? ⟨X,3,vn⟩=vp (so vh nd)/\w.cell? ⟨X,4,vn⟩=vp (ve gn)/\w.cell? ⟨X,5,vn⟩=vp (so vj mt)/\w.cell? ⟨X,6,vn⟩=vp (va ap aa ai)/\w.cell? ⟨X,7,vn⟩=vp (so vj cr):=⟨Ac h,Ac h,Ac h,Ac h,Ac h,Ac h,Ac h,Ac h⟩
theorem zx{f:Nat}{xs:List Nat}{E:ByteArray}{A:Array vt}(h:vz (H5 ac w b xs W/\Bx W X E ah G aa st nd gn mt ap ai ak cr))(O:vu v8 f A W λe w'=>e=vm (vd #[])/\H5 ac W b ys w'):vu v8 f A W λe w'=>e=vm (vd #[])/\vz (H5 ac w b ys w'/\Bx w' X E ah G aa st nd gn mt ap ai ak cr)/\w'.cell? ⟨X,0,vn⟩=vp (vb E)/\w'.cell? ⟨X,1,vn⟩=vp (va ah G aa)/\w'.cell? ⟨X,2,vn⟩=vp (so vh st)/\w'.cell? ⟨X,3,vn⟩=vp (so vh nd)/\w'.cell? ⟨X,4,vn⟩=vp (ve gn)/\w'.cell? ⟨X,5,vn⟩=vp (so vj mt)/\w'.cell? ⟨X,6,vn⟩=vp (va ap ai ak)/\w'.cell? ⟨X,7,vn⟩=vp (so vj cr):=by refine O.mono ?_;rintro e w' ⟨I,F⟩;have H:=F.kp _ _ _ _ od od h.2;exact⟨I,Ab ⟨h.1.trans F,H⟩,Hg H⟩
theorem zy{f:Nat}{xs:List Nat}{A:Array vt}(h:vz (H5 ac w b xs W))(F:vu v8 f A W λe w'=>e=vm (vd #[])/\H5 ac W b ys w'):vu v8 f A W λe w'=>e=vm (vd #[])/\vz (H5 ac w b ys w'):=by refine F.mono ?_;rintro e w' ⟨E,G⟩;exact⟨E,Ab (h.trans G)⟩
theorem FY(U b:Nat)(x:Ev)(xs:List Nat)(w:wd)(h:∃ov,ZC U w b xs ov)(al:HY x.e)(a7:xs.length<=800000):vu v8 78 #[vc (vp ⟨b,0,vn⟩),x.val] w λe w'=>e=vm (vd #[])/\H5 U w b (xs++Wt x.e) w':=by
 obtain⟨x,fa,fc,pa,pc⟩:=x;obtain⟨⟨nml,bys,lf,l0,gn⟩,mt,pk,cr⟩:=x;obtain⟨⟨ak,st1⟩,⟨ap,af⟩,ae,Z,aa,ao,ai⟩:=al;simp only at ak st1 ap af ae Z aa ao ai;obtain⟨st,rfl⟩:=dI;obtain⟨nd,rfl⟩:=dJ;have bc:=pY;have a6:=pZ;have ar:=(show Wt ⟨⟨nml,bys,(st:Int),(nd:Int),gn⟩,mt,pk,cr⟩=Ah 20 2++Ah 0 2++Ah mt 2++Ah 0 4++Ah cr 4++Ah pk.length 4++Ah bys.length 4++Ah nml.length 2++Ah 11 2 from rfl);unfold Ev.val;dsimp only;obtain⟨nm,e8⟩:=exq (B nml);obtain⟨fx,e4⟩:=exq (nml.length);obtain⟨bl,dn⟩:=exq (bys.length);obtain⟨pl,du⟩:=exq (pk.length);have kc:=dQ;rw[e4]at ae;rw[dn]at Z;rw[du]at aa;rw[e8,dn,du];obtain⟨a5,ag,ah,aj⟩:=mU;have a3:=rC;have aw:=rD;have a4:=cV;clear e8 e4 dn du kc;obtain⟨ov,fj⟩:=h;have bb:=bM
 have ep:H5 U w b xs (w.alloc (vl #[vb nm,va fa bl fc,so vh st,so vh nd,ve gn,so vj mt,va pa pl pc,so vj cr] 71)):=
  ⟨⟨ov,fj.later ((A2 _ _).alloc (VA _) _)⟩,(A2 U w).alloc uI _,KpT.below ((A2 _ _).alloc (VA _) _)⟩
 obtain⟨X,ac⟩:=exq (w.heap.size);rw[ac]at bb;have E:=mV;have ay:=Ab ac;obtain⟨c0,c1,c2,G,O,H,I,F⟩:=Hg bb;clear fj bb ep;go_enter func78,ntmps78;go_wp2_with fail;refine(zx E (Bb U b 2 20 _ _ E.1.is od om om)).mono ?_;clear E c0 c1 c2 G O H I F;rintro e av ⟨rfl,E,c0,c1,c2,G,O,H,I,F⟩;go_wp2_with fail;refine(zx E (Hq U b 2 _ _ E.1.is od tZ)).mono ?_;clear E c0 c1 c2 G O H I F;rintro e ba ⟨rfl,E,c0,c1,c2,G,O,H,I,F⟩;go_wp2_with fail;refine(zx E (Bb U b 2 mt _ _ E.1.is od om tZ)).mono ?_;clear E c0 c1 c2 G O H I F;rintro e w3 ⟨rfl,E,c0,c1,c2,G,O,H,I,F⟩;go_wp2_with fail;refine(zx E (Hq U b 4 _ _ E.1.is od tZ)).mono ?_;clear E c0 c1 c2 G O H I F;rintro e au ⟨rfl,E,c0,c1,c2,G,O,H,I,F⟩;go_wp2_with fail;refine(zx E (Bb U b 4 cr _ _ E.1.is od om tZ)).mono ?_;clear E c0 c1 c2 G O H I F;rintro e az ⟨rfl,E,c0,c1,c2,G,O,H,I,F⟩;go_wp2_with fail;refine(zx E (Bb U b 4 pl _ _ E.1.is od om tZ)).mono ?_;clear E c0 c1 c2 G O H I F;rintro e w6 ⟨rfl,E,c0,c1,c2,G,O,H,I,F⟩;go_wp2_with fail;refine(zx E (Bb U b 4 bl _ _ E.1.is od om tZ)).mono ?_;clear E c0 c1 c2 G O H I F;rintro e ax ⟨rfl,E,c0,c1,c2,G,O,H,I,F⟩;go_wp2_with fail;refine(zx E (Bb U b 2 fx _ _ E.1.is od om tZ)).mono ?_;clear E c0 c1 c2 G O H I F;rintro e a8 ⟨rfl,E,c0,c1,c2,G,O,H,I,F⟩;go_wp2_with fail;refine(zx E (Bb U b 2 11 _ _ E.1.is od om tZ)).mono ?_;clear E c0 c1 c2 G O H I F;rintro e a9 ⟨rfl,E,c0,c1,c2,G,O,H,I,F⟩;go_wp2;go_end0;refine⟨rfl,?_⟩;rw[ar];simp only[<-VO];rw[Aa ag,Aa ah,Aa aj];exact E.1
theorem FZ(O b:Nat)(x:Ev)(xs:List Nat)(w:wd)(h:∃ov,ZC O w b xs ov)(al:HY x.e)(a5:xs.length<=800000):vu v8 79 #[vc (vp ⟨b,0,vn⟩),x.val] w λe w'=>e=vm (vd #[])/\H5 O w b (xs++Kl x.e) w':=by
 obtain⟨x,fa,fc,pa,pc⟩:=x;obtain⟨⟨nml,bys,lf,l0,gn⟩,mt,pk,cr⟩:=x;obtain⟨⟨ak,st1⟩,⟨ap,ah⟩,ae,Z,ac,ao,aj⟩:=al;simp only at ak st1 ap ah ae Z ac ao aj;obtain⟨st,rfl⟩:=dI;obtain⟨nd,rfl⟩:=dJ;have a6:=pY;have a4:=pZ;have sx:=(show Kl ⟨⟨nml,bys,(st:Int),(nd:Int),gn⟩,mt,pk,cr⟩=Ah 29297 2++Ah 7 2++Ah st 4++Ah nd 2++Ah (Fy gn) 1 from rfl);unfold Ev.val;dsimp only;obtain⟨nm,e8⟩:=exq (B nml);obtain⟨fx,e4⟩:=exq (nml.length);obtain⟨bl,dn⟩:=exq (bys.length);obtain⟨pl,du⟩:=exq (pk.length);have kc:=dQ;rw[e4]at ae;rw[dn]at Z;rw[du]at ac;rw[e8,dn,du];obtain⟨ay,av,az,a3⟩:=mU;have aw:=rC;have au:=rD;have ax:=cV;clear e8 e4 dn du kc;cases gn
 . obtain⟨ov,fj⟩:=h;have bb:Bx (w.alloc (vl #[vb nm,va fa bl fc,so vh st,so vh nd,ve vq,so vj mt,va pa pl pc,so vj cr] 71)) w.heap.size nm fa bl fc st nd vq mt pa pl pc cr:=B2 w _
   have ep:H5 O w b xs (w.alloc (vl #[vb nm,va fa bl fc,so vh st,so vh nd,ve vq,so vj mt,va pa pl pc,so vj cr] 71)):=
    ⟨⟨ov,fj.later ((A2 _ _).alloc (VA _) _)⟩,(A2 O w).alloc uI _,KpT.below ((A2 _ _).alloc (VA _) _)⟩
   obtain⟨X,U⟩:=exq (w.heap.size);rw[U]at bb;have aa:=mV;have ai:=Ab U;obtain⟨c0,c1,c2,F,I,G,H,E⟩:=Hg bb;clear fj bb ep;go_enter func79,ntmps79;go_wp2_with fail;refine(zx aa (Bb O b 2 29297 _ _ aa.1.is od om om)).mono ?_;clear aa c0 c1 c2 F I G H E;rintro e ag ⟨rfl,aa,c0,c1,c2,F,I,G,H,E⟩;go_wp2_with fail;refine(zx aa (Bb O b 2 7 _ _ aa.1.is od om tZ)).mono ?_;clear aa c0 c1 c2 F I G H E;rintro e ar ⟨rfl,aa,c0,c1,c2,F,I,G,H,E⟩;go_wp2_with fail;refine(zx aa (Bb O b 4 st _ _ aa.1.is od om tZ)).mono ?_;clear aa c0 c1 c2 F I G H E;rintro e w3 ⟨rfl,aa,c0,c1,c2,F,I,G,H,E⟩;go_wp2_with fail;refine(zx aa (Bb O b 2 nd _ _ aa.1.is od om tZ)).mono ?_;clear aa c0 c1 c2 F I G H E;rintro e af ⟨rfl,aa,c0,c1,c2,F,I,G,H,E⟩;replace aa:=Ab aa.1;clear c0 c1 c2 F G H E;go_wp2_with fail;refine(zy aa (Bb O b 1 0 _ _ aa.is od om tZ)).mono ?_;clear aa;exact vX
 . obtain⟨ov,fj⟩:=h;have bb:Bx (w.alloc (vl #[vb nm,va fa bl fc,so vh st,so vh nd,ve vr,so vj mt,va pa pl pc,so vj cr] 71)) w.heap.size nm fa bl fc st nd vr mt pa pl pc cr:=B2 w _
   have ep:H5 O w b xs (w.alloc (vl #[vb nm,va fa bl fc,so vh st,so vh nd,ve vr,so vj mt,va pa pl pc,so vj cr] 71)):=
    ⟨⟨ov,fj.later ((A2 _ _).alloc (VA _) _)⟩,(A2 O w).alloc uI _,KpT.below ((A2 _ _).alloc (VA _) _)⟩
   obtain⟨X,U⟩:=exq (w.heap.size);rw[U]at bb;have aa:=mV;have ai:=Ab U;obtain⟨c0,c1,c2,F,I,G,H,E⟩:=Hg bb;clear fj bb ep;go_enter func79,ntmps79;go_wp2_with fail;refine(zx aa (Bb O b 2 29297 _ _ aa.1.is od om om)).mono ?_;clear aa c0 c1 c2 F I G H E;rintro e ag ⟨rfl,aa,c0,c1,c2,F,I,G,H,E⟩;go_wp2_with fail;refine(zx aa (Bb O b 2 7 _ _ aa.1.is od om tZ)).mono ?_;clear aa c0 c1 c2 F I G H E;rintro e ar ⟨rfl,aa,c0,c1,c2,F,I,G,H,E⟩;go_wp2_with fail;refine(zx aa (Bb O b 4 st _ _ aa.1.is od om tZ)).mono ?_;clear aa c0 c1 c2 F I G H E;rintro e w3 ⟨rfl,aa,c0,c1,c2,F,I,G,H,E⟩;go_wp2_with fail;refine(zx aa (Bb O b 2 nd _ _ aa.1.is od om tZ)).mono ?_;clear aa c0 c1 c2 F I G H E;rintro e af ⟨rfl,aa,c0,c1,c2,F,I,G,H,E⟩;replace aa:=Ab aa.1;clear c0 c1 c2 F G H E;go_wp2_with fail;refine(zy aa (Bb O b 1 1 _ _ aa.is od om tZ)).mono ?_;clear aa;exact vX
theorem Z3h(F b m s t:Nat)(xs:List Nat)(w:wd)(h:∃ov,ZC F w b xs ov)(Z:m<=60000)(ag:s<=1000000)(ac:t<=1000000)(aj:xs.length<=800000):vu v8 57 #[vc (vp ⟨b,0,vn⟩),so vh m,so vh s,so vh t] w λe w'=>e=vm (vd #[])/\H5 F w b (xs++Sa m s t) w':=by have H:=(show Sa m s t=Ah 101010256 4++Ah 0 4++Ah m 2++Ah m 2++Ah s 4++Ah t 4++Ah 0 2 from rfl);have ah:=Bf (n:=m) om;have O:=Bf (n:=s) om;have aa:=Bf (n:=t) om;obtain⟨ov,G⟩:=h;have E:=Ab (H5.refl G);clear G;go_enter func57,ntmps57;go_wp2_with fail;refine(zy E (Bb F b 4 101010256 _ _ E.is od om om)).mono ?_;clear E;rintro e U ⟨rfl,E⟩;go_wp2_with fail;refine(zy E (Hq F b 4 _ _ E.is od tZ)).mono ?_;clear E;rintro e ae ⟨rfl,E⟩;go_wp2_with fail;refine(zy E (Bb F b 2 m _ _ E.is od om tZ)).mono ?_;clear E;rintro e w3 ⟨rfl,E⟩;go_wp2_with fail;refine(zy E (Bb F b 2 m _ _ E.is od om tZ)).mono ?_;clear E;rintro e I ⟨rfl,E⟩;go_wp2_with fail;refine(zy E (Bb F b 4 s _ _ E.is od om tZ)).mono ?_;clear E;rintro e af ⟨rfl,E⟩;go_wp2_with fail;refine(zy E (Bb F b 4 t _ _ E.is od om tZ)).mono ?_;clear E;rintro e w6 ⟨rfl,E⟩;go_wp2_with fail;refine(zy E (Hq F b 2 _ _ E.is od tZ)).mono ?_;clear E;rintro e ai ⟨rfl,E⟩;go_wp2;go_end0;refine⟨rfl,?_⟩;rw[H];simp only[<-VO];exact E
theorem Z4n(h:PkIn w a c ys)(G:vx ac w w')(Z:∀g o,a=vp ⟨g,o,vn⟩->ys≠ []->g<ac)(F:w'.grownBy W vn):PkIn W a c ys:=by refine⟨?_,h.2⟩;by_cases E:ys= [];exact .inl E;rcases h.1 with U|⟨b,o,e,hl,hc⟩;exact absurd U E;have H:=Z b o e E;have aa:=G.size;refine .inr ⟨b,o,e,VC hl (WJ aa F.size),λj O=> ?_⟩;have I:w'.heap[b]? =w.heap[b]? :=G.block b H;have e2:W.heap[b]? =w'.heap[b]? :=F.block b om oS;exact(FA (w:=w) (a:=⟨b,_,vn⟩) (e2.trans I)).trans (hc j O)
theorem Z3f(dh b:Nat)(x:Ev)(xs:List Nat)(w:wd)(h:∃ov,ZC dh w b xs ov)(ar:HY x.e)(ap:PkIn w x.pa x.pc x.e.pk)(al:∀g o,x.pa=vp ⟨g,o,vn⟩->x.e.pk≠ []->g<dh)(bz:xs.length<=700000):vu v8 55 #[vc (vp ⟨b,0,vn⟩),x.val] w λe w'=>e=vm (vd #[])/\H5 dh w b (xs++Vw x.e) w':=by
 obtain⟨x,fa,fc,pa,pc⟩:=x;obtain⟨⟨nml,bys,lf,l0,gn⟩,mt,pk,cr⟩:=x;have p9:=ar;obtain⟨⟨bd,st1⟩,⟨bi,az⟩,aw,ak,ao,bg,a9⟩:=ar;simp only at bd st1 bi az aw ak ao bg a9;obtain⟨st,rfl⟩:=dI;obtain⟨nd,rfl⟩:=dJ;have bv:((st:Int)).toNat=st:=om;have b0:=pY;have bw:=pZ;have ax:=(show Vw ⟨⟨nml,bys,(st:Int),(nd:Int),gn⟩,mt,pk,cr⟩=Ah 67324752 4++Wt ⟨⟨nml,bys,(st:Int),(nd:Int),gn⟩,mt,pk,cr⟩++n8 nml++Kl ⟨⟨nml,bys,(st:Int),(nd:Int),gn⟩,mt,pk,cr⟩++pk from rfl);have U:=gG;have ac:=gH;obtain⟨bc,ae⟩:=rZ;obtain⟨a4,af⟩:=qBS;(have ko:bc.length=26:=by rw[<-ae];exact Np _);(have a3:a4.length=11:=by rw[<-af];exact Jb _);unfold Ev.val at U ac;dsimp only at U ac;rw[ae,af]at ax;rw[ae]at U;rw[af]at ac;clear ae af;unfold Ev.val;dsimp only;have a7:=Ab ap;have a5:=Ab al;clear ap al;obtain⟨nm,e8⟩:=exq (B nml);obtain⟨fx,e4⟩:=exq (nml.length);obtain⟨bl,dn⟩:=exq (bys.length);obtain⟨pl,du⟩:=exq (pk.length);have kc:=dQ;rw[e4]at aw;rw[dn]at ak;rw[du]at ao;rw[e8,dn,du]at U ac ⊢;obtain⟨a8,oj,bu,ba⟩:=mU;have bo:=rC;have bm:=rD;have bq:=cV;clear e8 e4 dn du kc;obtain⟨ov,fj⟩:=h;have bb:=bM
 have ep:H5 dh w b xs (w.alloc (vl #[vb nm,va fa bl fc,so vh st,so vh nd,ve gn,so vj mt,va pa pl pc,so vj cr] 71)):=
  ⟨⟨ov,fj.later ((A2 _ _).alloc (VA _) _)⟩,(A2 dh w).alloc uI _,KpT.below ((A2 _ _).alloc (VA _) _)⟩
 obtain⟨X,au⟩:=exq (w.heap.size);rw[au]at bb;have aa:=mV;have bn:=Ab au;obtain⟨c0,c1,c2,F,I,G,H,E⟩:=Hg bb;clear fj bb ep;go_enter func55,ntmps55;go_wp2_with fail;refine(zx aa (Bb dh b 4 67324752 _ _ aa.1.is od om om)).mono ?_;clear aa c0 c1 c2 F I G H E;rintro e bk ⟨rfl,aa,c0,c1,c2,F,I,G,H,E⟩;go_wp2_with fail;refine(zx aa (U _ _ aa.1.is tZ)).mono ?_;clear aa c0 c1 c2 F I G H E;rintro e bj ⟨rfl,aa,c0,c1,c2,F,I,G,H,E⟩;obtain⟨bf,O⟩:=aa.1.is;obtain⟨d0,ag⟩:=O.new;have Z:=Ab O;clear O;go_wp2;go_region_law (refine RU rfl (.tmp 13) (.tmp 16) rfl bj dh b _ nml _ rfl Z uA (congrArg vb a8.symm) qBB ?_;intro a6 bh ay w' ah aj cq);all_goals (replace aa:=sK;clear ah aj cq c0 c1 c2 F I G H E d0 ag Z;obtain⟨c0,c1,c2,F,I,G,H,E⟩:=Hg aa.2;go_wp2_with fail;refine(zx aa (ac _ _ aa.1.is qAN)).mono ?_;clear aa c0 c1 c2 F I G H E;rintro e w3 ⟨rfl,aa,c0,c1,c2,F,I,G,H,E⟩;obtain⟨bf,O⟩:=aa.1.is;obtain⟨d0,ag⟩:=O.new;have Z:=Ab O;clear O;go_wp2;go_region_law (refine RV rfl (.tmp 27) (.tmp 29) rfl w3 dh b _ pk _ rfl Z uA pa pl pc rfl ba (Z4n a7 aa.1.below a5 uA) (by simp only[VB,Ag,ko,a3,Cf,Aa oj];omega) ?_;intro a6 bh ay w' ah aj cq);all_goals (replace aa:=Ab (aa.1.trans cq);clear ah aj cq c0 c1 c2 F I G H E d0 ag Z;go_wp2;go_end0;refine⟨rfl,?_⟩;rw[ax];simp only[<-VO];exact aa))
theorem Z3e(dh b p:Nat)(x:Ev)(xs:List Nat)(w:wd)(h:∃ov,ZC dh w b xs ov)(aj:HY x.e)(bk:p<=1000000)(bu:xs.length<=700000):vu v8 56 #[vc (vp ⟨b,0,vn⟩),x.val,so vh p] w λe w'=>e=vm (vd #[])/\H5 dh w b (xs++Tb x.e p) w':=by
 obtain⟨x,fa,fc,pa,pc⟩:=x;obtain⟨⟨nml,bys,lf,l0,gn⟩,mt,pk,cr⟩:=x;have p9:=aj;obtain⟨⟨a4,st1⟩,⟨a6,ap⟩,al,af,ag,a5,az⟩:=aj;simp only at a4 st1 a6 ap al af ag a5 az;obtain⟨st,rfl⟩:=dI;obtain⟨nd,rfl⟩:=dJ;have bo:((st:Int)).toNat=st:=om;have b0:=pY;have bq:=pZ;have ao:=(show Tb ⟨⟨nml,bys,(st:Int),(nd:Int),gn⟩,mt,pk,cr⟩ p=Ah 33639248 4++Ah 20 2++Wt ⟨⟨nml,bys,(st:Int),(nd:Int),gn⟩,mt,pk,cr⟩++Ah 0 10++Ah p 4++n8 nml++Kl ⟨⟨nml,bys,(st:Int),(nd:Int),gn⟩,mt,pk,cr⟩ from rfl);have O:=gG;have U:=gH;obtain⟨a3,Z⟩:=rZ;obtain⟨ar,ac⟩:=qBS;(have ko:a3.length=26:=by rw[<-Z];exact Np _);(have bd:ar.length=11:=by rw[<-ac];exact Jb _);unfold Ev.val at O U;dsimp only at O U;rw[Z,ac]at ao;rw[Z]at O;rw[ac]at U;clear Z ac;unfold Ev.val;dsimp only;have bw:=Bf (n:=p) om;obtain⟨nm,e8⟩:=exq (B nml);obtain⟨fx,e4⟩:=exq (nml.length);obtain⟨bl,dn⟩:=exq (bys.length);obtain⟨pl,du⟩:=exq (pk.length);have kc:=dQ;rw[e4]at al;rw[dn]at af;rw[du]at ag;rw[e8,dn,du]at O U ⊢;obtain⟨ay,oj,bj,bm⟩:=mU;have bh:=rC;have ba:=rD;have bi:=cV;clear e8 e4 dn du kc;obtain⟨ov,fj⟩:=h;have bb:=bM
 have ep:H5 dh w b xs (w.alloc (vl #[vb nm,va fa bl fc,so vh st,so vh nd,ve gn,so vj mt,va pa pl pc,so vj cr] 71)):=
  ⟨⟨ov,fj.later ((A2 _ _).alloc (VA _) _)⟩,(A2 dh w).alloc uI _,KpT.below ((A2 _ _).alloc (VA _) _)⟩
 obtain⟨X,ak⟩:=exq (w.heap.size);rw[ak]at bb;have aa:=mV;have bf:=Ab ak;obtain⟨c0,c1,c2,F,I,G,H,E⟩:=Hg bb;clear fj bb ep;go_enter func56,ntmps56;go_wp2_with fail;refine(zx aa (Bb dh b 4 33639248 _ _ aa.1.is od om om)).mono ?_;clear aa c0 c1 c2 F I G H E;rintro e a9 ⟨rfl,aa,c0,c1,c2,F,I,G,H,E⟩;go_wp2_with fail;refine(zx aa (Bb dh b 2 20 _ _ aa.1.is od om tZ)).mono ?_;clear aa c0 c1 c2 F I G H E;rintro e bz ⟨rfl,aa,c0,c1,c2,F,I,G,H,E⟩;go_wp2_with fail;refine(zx aa (O _ _ aa.1.is tZ)).mono ?_;clear aa c0 c1 c2 F I G H E;rintro e w3 ⟨rfl,aa,c0,c1,c2,F,I,G,H,E⟩;go_wp2_with fail;refine(zx aa (Hq dh b 10 _ _ aa.1.is od (by simp only[VB,Ag,ko];omega))).mono ?_;clear aa c0 c1 c2 F I G H E;rintro e a8 ⟨rfl,aa,c0,c1,c2,F,I,G,H,E⟩;go_wp2_with fail;refine(zx aa (Bb dh b 4 p _ _ aa.1.is od om (by simp only[VB,Ag,ko];omega))).mono ?_;clear aa c0 c1 c2 F I G H E;rintro e ax ⟨rfl,aa,c0,c1,c2,F,I,G,H,E⟩;obtain⟨bn,ae⟩:=aa.1.is;obtain⟨d0,au⟩:=ae.new;have ah:=Ab ae;clear ae;go_wp2;go_region_law (refine RU rfl (.tmp 23) (.tmp 26) rfl ax dh b _ nml _ rfl ah uA (congrArg vb ay.symm) qBB ?_;intro bg bv bc w' aw a7 cq);all_goals (replace aa:=sK;clear aw a7 cq c0 c1 c2 F I G H E d0 au ah;obtain⟨c0,c1,c2,F,I,G,H,E⟩:=Hg aa.2;replace aa:=Ab aa.1;go_wp2_with fail;refine(zy aa (U _ _ aa.is qAN)).mono ?_;clear aa;rintro e w6 ⟨rfl,aa⟩;go_wp2;go_end0;refine⟨rfl,?_⟩;rw[ao];simp only[<-VO];exact aa)
theorem Z2k{bs:List UInt8}(h:BsIn w a c bs):PkIn w a c (n8 bs):=by(rcases h with ⟨rfl,rfl,rfl⟩|⟨rfl,ad,rfl⟩|⟨b,o,rfl,F,H,G⟩);exact⟨.inl rfl,λ_=>rfl⟩;exact⟨.inl rfl,λe=>by cases e⟩;refine⟨.inr ⟨b,o,rfl,F,λj E=> ?_⟩,λe=>by cases e⟩;rw[Cf]at E;rw[G j E];simp[n8,List.getD,E]
theorem Zbg(h:PkIn w a c ys)(I:ys.length<=c)(F:∀x∈ys,x<256):BsIn w a c (o8 ys):=by
 cases a with
 |none=>have H:=h.2 rfl;have:ys= []:=WK om;subst this;exact .inl ⟨rfl,rfl,H⟩
 |some ad=>rcases h.1 with rfl|⟨b,o,e,hb,G⟩;exact .inr (.inl ⟨rfl,ad,rfl⟩);refine .inr (.inr ⟨b,o,e,hb,by rw[Fg];exact I,λj E=> ?_⟩);rw[Fg]at E;rw[G j E];have O:=F ys[j] (WO E);simp[o8,List.getD,E];omega
structure EvIn(w:wd)(x:Ev):Prop where
 fb:PkIn w x.fa x.fc (n8 x.e.f.bytes)
 fl:x.e.f.bytes.length<=x.fc
 big:x.e.f.bytes.length<=140737488355328
 txt:x.e.f.name.length<=140737488355328
 pk:PkIn w x.pa x.pc x.e.pk
theorem EvIn.below{x:Ev}(h:EvIn w x)(E:vx w.heap.size w w'):EvIn w' x:=⟨h.fb.below E,h.fl,h.big,h.txt,h.pk.below E⟩
theorem EvIn.fv{x:Ev}(h:EvIn w x):FvIn w ⟨x.e.f,x.fa,x.fc⟩:=⟨by have:=Zbg h.fb (by rw[Cf];exact h.fl) (Kb _);rw[MT]at this;exact this,h.big,h.txt⟩
theorem J6{bs:List UInt8}(h:BsIn w a c bs):bs.length<=c:=by(rcases h with ⟨rfl,rfl,rfl⟩|⟨rfl,ad,rfl⟩|⟨b,o,rfl,F,E,G⟩);exact VA _;exact VF _;exact E
theorem PkIn.grown(h:PkIn w a c ys)(F:w.grownBy w' r)(H:∀g o,a=vp ⟨g,o,vn⟩->ys≠ []->vp g≠r):PkIn w' a c ys:=by refine⟨?_,h.2⟩;by_cases E:ys= [];exact .inl E;rcases h.1 with G|⟨b,o,e,hb,hc⟩;exact absurd G E;exact .inr ⟨b,o,e,VC hb F.size,hc.grown F (H b o e E)⟩
def Ev.lies(x:Ev)(Pr:Nat->Prop):Prop:=(∀g o,x.fa=vp ⟨g,o,vn⟩->x.e.f.bytes≠ []->Pr g)/\(∀g o,x.pa=vp ⟨g,o,vn⟩->x.e.pk≠ []->Pr g)
theorem Z06{l:List UInt8}(h:n8 l≠ []):l≠ []:=λe=>h (by rw[e];rfl)
theorem EvIn.grown{x:Ev}(h:EvIn w x)(F:w.grownBy w' r)(G:x.lies (λg=>vp g≠r)):EvIn w' x:=
 ⟨h.fb.grown F (λg o E e2=>G.1 g o E (Z06 e2)),h.fl,h.big,h.txt,h.pk.grown F (λg o E e2=>G.2 g o E e2)⟩
theorem Ev.lies.mono{x:Ev}{A C:Nat->Prop}(h:x.lies A)(F:∀g,A g->C g):x.lies C:=⟨λg o E e2=>F g (h.1 g o E e2),λg o E e2=>F g (h.2 g o E e2)⟩
theorem EvIn.lt{x:Ev}(h:EvIn w x):x.lies (λg=>g<w.heap.size):=by constructor;(. intro g o F e2;rcases h.fb.1 with E|⟨b,G,e,hb,_⟩;exact absurd (by rw[<-MT x.e.f.bytes,E];rfl) e2;. rw[F]at e;cases e;exact hb);. intro g o F e2;rcases h.pk.1 with E|⟨b,G,e,hb,_⟩;exact absurd E e2;. rw[F]at e;cases e;exact hb
theorem C7(h:PkIn w a c ys):∀g o,a=vp ⟨g,o,vn⟩->ys≠ []->g<w.heap.size:=by intro g o e G;rcases h.1 with F|⟨b,H,E,hb,_⟩;exact absurd F G;. rw[e]at E;cases E;exact hb
theorem Ht{E:Type}{l:List E}{x:E}(h:l[k]? =vp x):l.take (k+1)=l.take k++ [x]:=by obtain⟨F,e⟩:=WY.1 h;rw[XH F,e]
def ecells(xs:List Ev):List Value:=xs.flatMap Ev.cells
theorem OQ(xs:List Ev):(ecells xs).length=xs.length*8:=by
 induction xs with
 |nil=>rfl
 |cons x r ih=>have:ecells (x::r)=x.cells++ecells r:=rfl;rw[this,VB,ih,VG];show 8+_=_;omega
theorem OR(xs ys:List Ev):ecells (xs++ys)=ecells xs++ecells ys:=by simp[ecells]
theorem OP(y:Ev):ecells [y]=y.cells:=by simp[ecells]
theorem BE:∀(xs:List Ev) (j:Nat) (x:Ev) (i:Nat),xs[j]? =vp x->i<8->(ecells xs)[j*8+i]? =x.cells[i]?
 | [],j,x,i,h,_=>by simp at h
 |y::r,0,x,i,h,hi=>by have:ecells (y::r)=y.cells++ecells r:=rfl;exact qBK
 |y::r,j+1,x,i,h,hi=>by have e:ecells (y::r)=y.cells++ecells r:=rfl;have hl:y.cells.length=8:=rfl;have ih:=BE r j x i uJ hi;exact jN
theorem FF(y:Ev):∀u∈y.cells,u.oneCell'=true:=by intro u ey;simp only[Ev.cells,VV,WS,or_false]at ey;exact yU
structure ERow(w:wd)(B:Nat)(v:vt)(xs:List Ev):Prop where
 own:w.ownsRow B 71 8 v xs.length (ecells xs)
 all:∀x∈xs,EvIn w x
 apart:∀x∈xs,x.lies (λg=>vp g≠v.ownBlock)
theorem ERow.nil(w:wd)(B:Nat):ERow w B (va vn 0 0) []:=⟨HM _ _ _ _,(λx E=>absurd E WS),(λx E=>absurd E WS)⟩
theorem ERow.below{B:Nat}{xs:List Ev}(h:ERow w B v xs)(E:vx w.heap.size w w'):ERow w' B v xs:=
 ⟨Bv h.own (λg F=>E.block g (h.own.lt g F).2),λx G=>(h.all x G).below E,h.apart⟩
theorem NU:(Tryz.prog.info? 71).map (λi=>(i.zero,i.size,i.bytes))=vp (vp (vf #[vb ⟨#[]⟩,va vn 0 0,so vh 0,so vh 0,ve vq,so vj 0,va vn 0 0,so vj 0]),8,104):=oR
theorem Gg(w:wd){o:Oper}{a:Act}(G:o.guard=vn)(s x:Operand) (ac:o.op=.call {callee:=.builtin .append,args:= #[s,x],argTypes:= #[69,69]}) (base:Nat) (v:vt) (xs:List Ev) (ae:a.eval s=v) (fq:ERow w base v xs) (g:Nat) (y:Ev) (ah:a.eval x=va (vp ⟨g,0,vn⟩) 1 1) (hc:∀j u,y.cells[j]? =vp u->w.cell? ⟨g,j,vn⟩=vp u) (gq:EvIn w y) (pv:y.lies (λg=>vp g≠v.ownBlock)) (ai:xs.length+1<=100000) (I:base<=w.heap.size) (h:∀v' w',vz (ERow w' base v' (xs++ [y]))->vz (w.grownBy w' v.ownBlock)->wpList v8 ag Q al (a.put o.dst v') w'):wpList v8 ag Q (o::al) a w:=by obtain⟨Z,hi,H,U,aa⟩:=EM NU;refine HG w G s x 69 ac base 71 Z _ 8 104 underlying69 hi H U aa rfl od v xs.length (ecells xs) ae fq.own ⟨g,0,vn⟩ 1 1 y.cells ah rfl ?_ (FF y) ou om I ?_;exact qQ;intro v' w' O E _ b0;have bk:∀z∈xs++ [y],z.lies (λg=>vp g≠v.ownBlock):=zH;have F:∀z∈xs++ [y],EvIn w z:=zO;refine h v' w' (Ab ⟨?_,λz ak=>(F z ak).grown E (bk z ak),λz ak=> ?_⟩) (Ab E);rw[OR,OP,VB];exact O;have hl:=(F z ak).lt;exact xN
def Es(w:wd)(b o:Nat)(xs:List Ev):Prop:=∀j x,xs[j]? =vp x->∀i,i<8->w.cell? ⟨b,o+j*8+i,vn⟩=x.cells[i]?
structure K9(w:wd)(ad:Option vw)(c:Nat)(xs:List Ev):Prop where
 at_:xs= []\/∃b o,ad=vp ⟨b,o,vn⟩/\b<w.heap.size/\Es w b o xs
 all:∀x∈xs,EvIn w x
theorem K9.below{xs:List Ev}(h:K9 w ah c xs)(I:vx w.heap.size w w'):K9 w' ah c xs:=by refine⟨?_,λx E=>(h.all x E).below I⟩;exact xY
theorem K9.get{xs:List Ev}{x:Ev}(h:K9 w ah c xs)(O:vx w.heap.size w w')(E:xs[k]? =vp x):∃b o,ah=vp ⟨b,o,vn⟩/\b<w.heap.size/\w'.cell? ⟨b,o+k*8,vn⟩=vp (vb (B x.e.f.name))/\w'.cell? ⟨b,o+k*8+1,vn⟩=vp (va x.fa x.e.f.bytes.length x.fc)/\w'.cell? ⟨b,o+k*8+2,vn⟩=vp (so vh x.e.f.stamp)/\w'.cell? ⟨b,o+k*8+3,vn⟩=vp (so vh x.e.f.node)/\w'.cell? ⟨b,o+k*8+4,vn⟩=vp (ve x.e.f.gone)/\w'.cell? ⟨b,o+k*8+5,vn⟩=vp (so vj (x.e.meth:Int))/\w'.cell? ⟨b,o+k*8+6,vn⟩=vp (va x.pa x.e.pk.length x.pc)/\w'.cell? ⟨b,o+k*8+7,vn⟩=vp (so vj (x.e.crc:Int)):=by rcases(h.below O).at_ with H|⟨b,o,e,hb,F⟩;subst H;simp at E;(have G:b<w.heap.size:=by rcases h.at_ with H|⟨U,Z,I,G,_⟩;subst H;simp at E;. rw[e]at I;cases I;exact G);exact⟨b,o,e,G,F k x E 0 od,F k x E 1 od,F k x E 2 od,F k x E 3 od,F k x E 4 od,F k x E 5 od,F k x E 6 od,F k x E 7 od⟩
def Wo:Nat->List En->List Nat
 |_,[]=> []
 |p,x::r=>p::Wo (p+(Vw x).length) r
theorem II:∀(a:List En) (x:En) (p:Nat),Wo p (a++ [x])=Wo p a++ [p+(Au a).length]
 | [],x,p=>by simp[Wo,Au]
 |y::a,x,p=>by rw[XV,Wo,II a x,Wo,Au,VB,XV,WV]
theorem DS:∀(a:List En) (p:Nat),(Wo p a).length=a.length
 | [],p=>rfl
 |y::a,p=>by rw[Wo,VG,DS a,VG]
theorem Z76:∀(a:List En) (p k:Nat),k<a.length->(Wo p a).getD k 0=p+(Au (a.take k)).length
 | [],p,k,h=>by simp at h
 |y::a,p,0,h=>by simp[Wo,Au]
 |y::a,p,k+1,h=>by have:=Z76 a (p+(Vw y).length) k uJ;simp only[Wo,List.getD_cons_succ,YC,Au,VB];rw[this];omega
theorem AB(a:List En)(x:En):Au (a++ [x])=Au a++Vw x:=by rw[JM];simp[Au]
theorem Xv(a:List En)(x:En):Ao 0 (a++ [x])=Ao 0 a++Tb x (Au a).length:=by rw[O5];simp[Ao]
theorem ERow.entries{B:Nat}{xs:List Ev}(h:ERow w B v xs):∃ad c,v=va ad xs.length c/\K9 w ad c xs:=by(rcases h.own.2 with ⟨ai,av⟩|⟨g,cap,cur,ai,av,I,G,H⟩);exact bE;refine⟨vp ⟨g,0,vn⟩,cap,ai,.inr ⟨g,0,rfl,(h.own.lt g qAC).2,λj x F i hi=> ?_⟩,h.all⟩;have E:=h.own;rw[ai]at E;have hl:=OQ xs;have O:=(WY.1 F).1;rw[VY,E.cellAt _ om];exact BE xs j x i F hi
structure AS(w:wd)(Bs b:Nat)(xs:List Nat)(v:vt)(ps:List Nat)(wr:wd):Prop where
 z:∃ov,ZC Bs wr b xs ov
 p:wr.ownsRow (b+1) 3 1 v ps.length (i64s ps)
 below:vx Bs w wr
theorem AS.later{xs:List Nat}(h:AS w ac b xs v af wr)(E:vx wr.heap.size wr w'):AS w ac b xs v af w':=by obtain⟨ov,F⟩:=h.z;refine⟨⟨ov,F.later E⟩,Bv h.p (λg G=>E.block g (h.p.lt g G).2),h.below.trans (E.mono (by have:=F.lt;have:=F.base;omega))⟩
theorem AS.app{y:Nat}{xs:List Nat}(h:AS w ac b xs v af W)(F:W.grownBy O v.ownBlock)(I:O.ownsRow (b+1) 3 1 v' (af.length+1) (i64s af++ [so vh y])):AS w ac b xs v' (af++ [y]) O:=by obtain⟨ov,E⟩:=h.z;have H:=E.lt;have aa:=E.base;have Z:=F.size;refine⟨⟨ov,E.base,?_,?_⟩,?_,?_⟩;refine(F.block b H (λe=> ?_)).trans E.cell;have:=(h.p.lt b e.symm).1;omega;refine Bv E.own (λg G=>F.block g (E.own.lt g G).2 (λe=> ?_));obtain⟨c1,U⟩:=Ri E.own G;obtain⟨c2,e2⟩:=Ri h.p e.symm;rw[U]at e2;injection e2 with e2;injection e2 with _ e2;exact absurd e2 od;rw[VB,i64s,XC];exact I;exact h.below.grown F om (λg e=>by have:=(h.p.lt g e).1;omega)
theorem AS.up{xs:List Nat}(h:AS w ac b xs v af O)(E:H5 ac O b ys ao):AS w ac b ys v af ao:=by refine⟨E.is,Bv h.p (λg F=> ?_),h.below.trans E.below⟩;obtain⟨cs,e⟩:=Ri h.p F;rw[e];exact E.kp g cs _ _ od od e
theorem Z0v:(Tryz.prog.info? 3).map (λi=>(i.zero,i.size,i.bytes))=vp (vp (so vh 0),1,8):=oR
theorem Z16:∀(l:List En),(∀x∈l,HY x)->(Au l).length<=12081*l.length
 | [],_=>by simp[Au]
 |x::r,h=>by have H:=Z16 r (λy F=>h y (WL _ F));have E:=h x oS;have I:=E.nm;have G:=E.pl;rw[Au,VB,Lf,VG];omega
theorem GU:∀(l:List En) (p:Nat),(∀x∈l,HY x)->(Ao p l).length<=97*l.length
 | [],p,_=>by simp[Ao]
 |x::r,p,h=>by have F:=GU r (p+(Vw x).length) (λy E=>h y (WL _ E));have G:=(h x oS).nm;rw[Ao,VB,My,VG];omega
theorem BytesIn.cut{xs:List Nat}(h:BytesIn w a xs)(q:Nat):BytesIn w a (xs.take q):=by rcases h with rfl|⟨b,o,rfl,hb,G⟩;exact .inl oS;refine .inr ⟨b,o,rfl,hb,λj F=> ?_⟩;(have E:j<q/\j<xs.length:=by rw[VL]at F;omega);(have e:(xs.take q).getD j 0=xs.getD j 0:=by simp only[List.getD];rw[XR E.1]);rw[e];exact G j E.2
theorem Tu{B:Nat}(h:w.ownsRow B 5 1 v n (u8s ys)):∃a c,v=va a n c/\PkIn w a c ys/\n<=c/\ys.length=n/\∀g o,a=vp ⟨g,o,vn⟩->B<=g:=by(have hl:ys.length=n:=by have:=h.1;simpa using this);obtain⟨_,a,c,H,G⟩:=BytesIn.ofOwn h;subst H;(rcases h.2 with ⟨E,F⟩|⟨g,cap,cur,E,F,O,I,_⟩);(. cases E;exact⟨vn,0,rfl,⟨G,λ_=>rfl⟩,om,hl,λg o e=>by cases e⟩);. cases E;exact⟨_,_,rfl,⟨G,λe=>by cases e⟩,I,hl,λU o e=>by cases e;exact F⟩
theorem B6(a:Option vw)(p:Nat)(h:p<=n)(aa:n<=ac)(I:a=vn->ac=0):∃E,(∀W:wd,(Instr.slice 23 (va a n ac) (vp (so vh p)) vn vn).run v8 W=.ok (va E (n-p) (ac-p)) W)/\(∀b o,a=vp ⟨b,o,vn⟩->p<n->E=vp ⟨b,o+p,vn⟩)/\(E=vn->ac-p=0):=by
 have H:=Tryz.sizeOf5;have F:=underlying23;have U:(p:Int)<=n:=om
 cases a with
 |none=>have:=I rfl;subst this;obtain rfl:n=0:=om;obtain rfl:p=0:=om;exact⟨vn,λW=>by simp[go_sem,F],λb o e=>(by cases e),λ_=>rfl⟩
 |some ad=>by_cases G:ac=p;subst G;obtain rfl:n=ac:=om;refine⟨vp ad,λW=> ?_,λb o e O=>om,λe=>by cases e⟩;simp[go_sem,F,H];. have Z:(p:Int)<ac:=om;refine⟨vp (ad.add p),λW=> ?_,λb o e O=> ?_,λe=>by cases e⟩;(. simp[go_sem,F,H,U,G];try omega);. cases e;unfold Addr.add;split<;>simp_all
theorem TD(G:PkIn w a ac bs)(Z:bs.length=n)(H:∀b o,a=vp ⟨b,o,vn⟩->p<n->ah=vp ⟨b,o+p,vn⟩)(F:ah=vn->k=0):PkIn w ah k (bs.drop p):=by refine⟨?_,F⟩;by_cases O:p<n;obtain⟨g,o,e,U,I⟩:=Cb G.1 om;refine .inr ⟨g,o+p,H g o e O,U,λj E=> ?_⟩;rw[VR]at E;(have e2:(bs.drop p).getD j 0=bs.getD (p+j) 0:=by simp only[List.getD];rw[XL]);rw[e2,WV];exact I (p+j) om;exact .inl (XE om)
theorem Pm(E:PkIn w a ac bs)(q:Nat):PkIn w a ac (bs.take q):=⟨E.1.cut q,E.2⟩
theorem Z1u(h:∀x∈bs,x<256)(q:Nat):∀x∈bs.drop q,x<256:=λx E=>h x (WM E)
theorem RO(h:∀x∈bs,x<256)(q:Nat):∀x∈bs.take q,x<256:=λx E=>h x (VU E)
def PIn(w:wd)(v:vt)(bs:List Nat):Prop:=∃a c,v=va a bs.length c/\bs.length<=c/\PkIn w a c bs
theorem PIn.below(h:PIn w v bs)(H:vx w.heap.size w w'):PIn w' v bs:=by obtain⟨a,c,E,F,G⟩:=h;exact⟨a,c,E,F,G.below H⟩
theorem PIn.nil(w:wd):PIn w (va vn 0 0) []:=⟨vn,0,rfl,VA _,.inl rfl,λ_=>rfl⟩
theorem GA(n:Nat):(Builtin.zeroCells (so vi 0).cells n).toList=u8s (List.replicate n 0):=by show (Builtin.zeroCells #[so vi 0] n).toList=_;exact jA
theorem Qt(w:wd)(ae:TypeId)(n:Nat)(ac:0<n)(ai:n<=281474976710656):∃c w',(Builtin.append_ #[23,3] ae #[va vn 0 0,so vh n]).run v8 w=.ok (va (vp ⟨w.heap.size,0,vn⟩) n c) w'/\n<=c/\c<=maxLen/\w'.heap[w.heap.size]? =vp (vl (u8s (List.replicate c 0)).toArray 5 (0,0))/\w.grownBy w' none:=by obtain⟨ah,hi,Z,aa,G⟩:=EM Gq;have E:=grownCap_ge w n 0 5;have U:=grownCap_le_maxLen w n 0 5 ou;have I:n≠0:=om;have ag:¬(9223372036854775807<(n:Int)):=om;have af:¬((n:Int)<0):=om;have O:¬(281474976710656<(n:Int)):=om;(have H:¬(281474976710656<Builtin.nextslicecap n 0):=by rw[nextslicecap_zero ac];omega);have F:=mM;refine⟨grownCap w n 0 5,w.drew.alloc (vl (Builtin.zeroCells (so vi 0).cells n++Builtin.zeroCells (so vi 0).cells (grownCap w n 0 5-n)) 5),?_,E,U,?_,?_⟩;simp[Builtin.append_,Mz underlying23,Mz underlying3,sizeOf,typeInfo,zeroValue,hi,Z,aa,G,asInt,asIntOf,F,af,O,I,ag,H,Question.forced,run_firstCells_none,newRow,grownCap];have:=B2 w.drew (vl (Builtin.zeroCells (so vi 0).cells n++Builtin.zeroCells (so vi 0).cells (grownCap w n 0 5-n)) 5);rw[show w.drew.heap.size=w.heap.size from rfl]at this;rw[this];congr 2;apply Array.ext';rw[Array.toList_append,GA,GA];show _=u8s (List.replicate (grownCap w n 0 5) 0);unfold u8s;rw[<-XC,List.replicate_append_replicate];congr 2;omega;exact wV
theorem Lo(w:wd){o:Oper}{a:Act}(E:o.guard=vn)(s x:Operand) (F:o.op=.call {callee:=.builtin .append,args:= #[s,x],argTypes:= #[23,3]}) (n:Nat) (I:a.eval s=va vn 0 0) (aa:a.eval x=so vh n) (U:0<n) (ac:n<=281474976710656) (h:∀c w',n<=c->c<=maxLen->w'.heap[w.heap.size]? =vp (vl (u8s (List.replicate c 0)).toArray 5 (0,0))->w.grownBy w' vn->wpList v8 ag Q al (a.put o.dst (va (vp ⟨w.heap.size,0,vn⟩) n c)) w'):wpList v8 ag Q (o::al) a w:=by refine kb1 E λK hK=> ?_;obtain⟨c,w',hr,G,Z,H,O⟩:=Qt w o.type n U ac;unfold Oper.wp execOp;simp only[F,resolve,invoke,builtin,P0,TO,V6,YP,WN,YT,I,aa,hr];exact hK _ _ (h c w' G Z H O)
theorem Z1a(w:wd)(O:0<n)(aa:n<=281474976710656):vu v8 47 #[va vn 0 0,so vh n] w λe w'=>∃c,n<=c/\e=vm (va (vp ⟨w.heap.size,0,vn⟩) 0 c)/\w'.ownsRow w.heap.size 5 1 (va (vp ⟨w.heap.size,0,vn⟩) 0 c) 0 (u8s [])/\vx w.heap.size w w':=by go_enter func47,ntmps47;go_wp2_with (refine Lo w rfl (.tmp 20) (.tmp 21) rfl n rfl rfl O aa ?_);intro c U Z I F E;have H:=Ab (Li (A2 w.heap.size w) E (VA _));have G:vz (U.ownsRow w.heap.size 5 1 (va (vp ⟨w.heap.size,0,vn⟩) 0 c) 0 (u8s [])):=⟨rfl,.inr ⟨w.heap.size,c,_,rfl,VA _,F,VF _,I,oS,rfl⟩⟩;clear F E;go_wp2;go_ret;exact⟨c,Z,rfl,G,H⟩
theorem C0(w:wd)(I:TypeId)(base x:Option vw)(n F c:Nat)(h:n<=F):(Builtin.append_ #[23,23] I #[va base n F,va x 0 c]).run v8 w=.ok (va base n F) w:=by
 obtain⟨E,hi,U,H,O⟩:=EM Gq
 have G:(Builtin.firstCells E.size 0 (va x 0 c)).run v8 w=.ok #[] w:=by
  cases x with
  |none=>exact run_firstCells_none w E.size 0 0 c
  |some b=>exact run_firstCells_some w E.size 0 b 0 c [] oS oS
 rw[H]at G;cases base<;>simp[Builtin.append_,Mz underlying23,sizeOf,typeInfo,hi,H,Builtin.lenOf,G,h,storeCells]
theorem Jk(w:wd){o:Oper}{a:Act}(F:o.guard=vn)(s x:Operand) (G:o.op=.call {callee:=.builtin .append,args:= #[s,x],argTypes:= #[23,23]}) (base y:Option vw) (n E c:Nat) (H:a.eval s=va base n E) (I:a.eval x=va y 0 c) (O:n<=E) (h:wpList v8 ag Q al (a.put o.dst (va base n E)) w):wpList v8 ag Q (o::al) a w:=by refine kb1 F λK hK=> ?_;unfold Oper.wp execOp;simp only[G,resolve,invoke,builtin,P0,TO,V6,YP,WN,YT,H,I,C0 w o.type base y n E c O];exact hK _ _ h
theorem Z19(w:wd):vu v8 47 #[va vn 0 0,so vh 0] w λe w'=>e=vm (va vn 0 0)/\w'=w:=by go_enter func47,ntmps47;go_wp2;go_ret;trivial
def Jg(ps:List (Option vw×Nat×List Nat)):Nat->List Nat
 |0=> []
 |k+1=>Jg ps k++(ps.getD k (vn,0,[])).2.2
theorem Zac(E:List (Option vw×Nat×List Nat))(h:j<=k):(Jg E j).length<=(Jg E k).length:=by
 induction k with
 |zero=>rw[show j=0 by omega];exact VA _
 |succ k ih=>by_cases e:j=k+1;rw[e];exact VA _;have:=ih om;rw[Jg,VB];omega
theorem FP{xs:List Nat}(h:Bytes w b o xs):∀j u,(u8s xs)[j]? =vp u->w.cell? ((⟨b,o,vn⟩:vw).add j)=vp u:=by intro j u E;have e:=dP;(have F:j<xs.length:=by by_cases c:j<xs.length;exact c;. rw[VZ (by simp[u8s];omega)]at E;cases E);have:=h j F;rw[e,this];simp[u8s,F]at E;subst E;simp[List.getD,F]
theorem Z80(xs:List Nat):∀u∈u8s xs,u.oneCell'=true:=by intro u E;obtain⟨x,_,rfl⟩:=WU.1 E;rfl
theorem Zc(b o F bb:Nat)(E:List (Option vw×Nat×List Nat))(w:wd)(ba:b<w.heap.size)(a3:∀j,j<F->w.cell? ⟨b,o+j,vn⟩=vp (va (E.getD j (vn,0,[])).1 (E.getD j (vn,0,[])).2.2.length (E.getD j (vn,0,[])).2.1)) (ax:∀j,j<F->BytesIn w (E.getD j (vn,0,[])).1 (E.getD j (vn,0,[])).2.2) (ao:(Jg E F).length<=281474976710656) (bu:F<=100):vu v8 29 #[va (vp ⟨b,o,vn⟩) F bb] w λe w'=>∃a c,(Jg E F).length<=c/\e=vm (va a (Jg E F).length c)/\BytesIn w' a (Jg E F)/\vx w.heap.size w w'/\(a=vn->c=0):=by obtain⟨bh,hi,bq,bc,bv⟩:=EM Gq;have ai:=Ab a3;have bg:=Ab ax;obtain⟨T,ac⟩:=exq ((Jg E F).length);rw[ac]at ao;have I:=Ab ac;have a9:vz (∀k,k<=F->(Jg E k).length<=T):=Ab (λk au=>by rw[<-ac];exact Zac E au);clear a3 ax ac;go_enter func29,ntmps29;go_wp2;go_loop [3,11] (λa7 aj=>∃k:Nat,k<=F/\aj=so vh k/\a7=so vh ((Jg E k).length:Int)) (λ_ aj=>F-(vy aj).toNat);exact zG;obtain⟨k,au,rfl,rfl⟩:=hrel;by_cases a5:k<F;(. have c1:=Aa ai k a5;have G:=nO;have bf:vz ((Jg E (k+1)).length=(Jg E k).length+(E.getD k (vn,0,[])).2.2.length):=Ab (by rw[Jg,VB]);rw[Aa bf]at G;generalize (E.getD k (vn,0,[])).2.2.length=m at*;generalize (E.getD k (vn,0,[])).2.1=Z at*;generalize (E.getD k (vn,0,[])).1=g at*;generalize (Jg E k).length=L at*;go_wp2;go_round;exact bC;simp[vy];omega);. obtain rfl:F=k:=om;rw[Aa I];by_cases bk:T=0;(. subst bk;go_wp2_with fail;refine(Z19 w).mono ?_;rintro e bo ⟨rfl,rfl⟩;go_wp2;go_loop [6,27] (λag H=>∃k:Nat,k<=F/\H=so vh k/\ag=va vn 0 0) (λ_ H=>F-(vy H).toNat);exact zG;obtain⟨k,a6,rfl,rfl⟩:=hrel;by_cases ae:k<F;(. have c1:=Aa ai k ae;have G:=nO;rw[Jg,VB]at G;have ap:(E.getD k (vn,0,[])).2.2.length=0:=om;rw[ap]at c1;generalize (E.getD k (vn,0,[])).2.1=Z at*;generalize (E.getD k (vn,0,[])).1=g at*;clear G ap;go_wp2_with (at_builtin;refine Jk _ rfl (.tmp 31) (.tmp 32) rfl vn g 0 0 Z rfl rfl (VA _) ?_);go_round;exact⟨k+1,om,by go_num,rfl⟩;simp[vy];omega);. obtain rfl:F=k:=om;go_wp2;go_ret;exact⟨vn,0,by rw[Aa I];exact VA _,by rw[Aa I];rfl,.inl (ZR.1 I),A2 _ _,λ_=>rfl⟩);. go_wp2_with fail;refine(Z1a w om ao).mono ?_;rintro e bo ⟨c,bj,rfl,ay,aw⟩;have bd:=Ab ay;have bi:=Ab aw;clear ay aw;go_wp2;go_loopw [6,27] (λag H wr=>∃k:Nat,k<=F/\H=so vh k/\ag=va (vp ⟨w.heap.size,0,vn⟩) (Jg E k).length c/\vz (wr.ownsRow w.heap.size 5 1 (va (vp ⟨w.heap.size,0,vn⟩) (Jg E k).length c) (Jg E k).length (u8s (Jg E k)))/\vz (vx w.heap.size w wr)) (λ_ H _=>F-(vy H).toNat);exact⟨0,VF _,rfl,rfl,bd,bi⟩;obtain⟨k,a6,rfl,rfl,aa,O⟩:=hrel;by_cases ae:k<F;(. have c1:=(O.cell (p:=⟨b,o+k,vn⟩) ba).trans (ai k ae);have af:=(bg k ae).below (Aa O) (VA _);have G:=nO;have bf:vz (Jg E (k+1)=Jg E k++(E.getD k (vn,0,[])).2.2):=Ab rfl;rw[Aa bf,VB]at G;generalize (E.getD k (vn,0,[])).2.2=xs at*;generalize (E.getD k (vn,0,[])).1=g at*;generalize (E.getD k (vn,0,[])).2.1=Z at*;rcases af with rfl|⟨gb,go,rfl,bw,af⟩;(. have al:vz (Jg E (k+1)=Jg E k):=Ab (by rw[Aa bf,XB]);simp only[WE]at c1 G;generalize U:(Jg E k).length=L at*;clear bf;go_wp2_with (at_builtin;refine Jk _ rfl (.tmp 31) (.tmp 32) rfl _ g L c Z rfl rfl om ?_);go_roundw;exact⟨k+1,om,by go_num,by rw[Aa al,U],Ab (by rw[Aa al,U];exact Aa aa),O⟩;simp[vy];omega);. have av:=Ab (FP af);obtain⟨m,hm⟩:=exq (xs.length);obtain⟨L,U⟩:=exq ((Jg E k).length);rw[hm]at c1 G;rw[U]at G aa ⊢;have ah:=Ab hm;have ar:=Ab U;clear af hm U;go_wp2_with (at_builtin;refine wpList_append_own_spare _ rfl (.tmp 31) (.tmp 32) 23 rfl w.heap.size 5 bh 1 underlying23 hi bc w.heap.size L c (u8s (Jg E k)) rfl aa ⟨gb,go,vn⟩ m Z (u8s xs) rfl (by simp[u8s,Aa ah]) av (Z80 xs) om ?_);intro ak a4 az;(have bm:vz (ak.ownsRow w.heap.size 5 1 (va (vp ⟨w.heap.size,0,vn⟩) (Jg E (k+1)).length c) (Jg E (k+1)).length (u8s (Jg E (k+1)))):=by rw[Aa bf,VB,Aa ar,Aa ah];show ak.ownsRow w.heap.size 5 1 _ (L+m) (List.map _ (Jg E k++xs));rw[XC];exact a4);have bn:=Ab (O.grown az O.size (λg e=>by cases e;exact VA _));have a8:vz ((Jg E (k+1)).length=L+m):=Ab (by rw[Aa bf,VB,Aa ar,Aa ah]);clear a4 az c1 av;go_wp2;go_roundw;exact⟨k+1,om,by go_num,by rw[Aa a8],bm,bn⟩;simp[vy];omega);. obtain rfl:F=k:=om;rw[Aa I]at aa ⊢;go_wp2;go_ret;exact⟨_,c,by rw[Aa I];exact bj,by rw[Aa I];rfl,BytesIn.own aa,O,λe=>by cases e⟩
theorem Fu(n E:Nat)(w:wd)(O:n<=9223372036854775807)(I:E<=100):vu v8 62 #[so vh n,so vh E] w λe w'=>∃a l c,e=vm (va a l c)/\PIn w' (va a l c) (Ah n E)/\vx w.heap.size w w':=by refine(Z9i w O I).mono ?_;rintro e w' ⟨v,rfl,H,G⟩;obtain⟨a,c,rfl,k1,k2,F,_⟩:=Tu H;exact⟨a,E,c,rfl,⟨a,c,by rw[F],by rw[F];exact k2,k1⟩,G⟩
inductive PIns (w:wd):List vt->List (List Nat)->Prop
 |nil:PIns w [] []
 |cons {v:vt} {b:List Nat} {vs:List vt} {bs:List (List Nat)}:PIn w v b->PIns w vs bs->PIns w (v::vs) (b::bs)
theorem PIns.rows{bs:List (List Nat)}(h:PIns w au bs):∃ps:List (Option vw×Nat×List Nat),au=ps.map (λp=>va p.1 p.2.2.length p.2.1)/\bs=ps.map (λp=>p.2.2)/\∀p∈ps,BytesIn w p.1 p.2.2:=by
 induction h with
 |nil=>exact⟨[],rfl,rfl,λp E=>by cases E⟩
 |cons h1 _ ih=>obtain⟨a,c,rfl,_,F⟩:=h1;obtain⟨ps,rfl,rfl,G⟩:=ih;refine⟨(a,c,_)::ps,rfl,rfl,λp E=> ?_⟩;rcases VV.1 E with rfl|E;exact F.1;exact G p E
theorem BO:∀(ps:List (Option vw×Nat×List Nat)) (k:Nat),k<=ps.length->Jg ps k=((ps.take k).map (λp=>p.2.2)).flatten
 |ps,0,_=>by simp[Jg]
 |ps,k+1,h=>by rw[Jg,BO ps k om,XD,XC,List.flatten_append];simp[List.getD,VP (show k<ps.length by omega)]
theorem Id(E:List vt)(bs:List (List Nat))(A:Array vt)(t:TypeId)(n H:Nat)(h:PIns w E bs)(ae:A=E.toArray)(af:E.length=n)(I:n<=100)(ac:bs.flatten.length<=281474976710656):vu v8 29 #[va (vp ⟨w.heap.size,0,vn⟩) n H] (w.alloc (vl A t)) λe w'=>∃a l c,e=vm (va a l c)/\PIn w' (va a l c) bs.flatten/\vx w.heap.size w w':=by obtain⟨ps,rfl,rfl,aa⟩:=h.rows;(have U:ps.length=n:=by simpa using af);subst U;(have e:Jg ps ps.length=(ps.map (λp=>p.2.2)).flatten:=by rw[BO ps _ (VA _),VQ (VA _)]);refine(Zc w.heap.size 0 ps.length H ps _ oS (λj hj=> ?_) (λj hj=> ?_) (by rw[e];exact ac) I).mono ?_;rw[VY,V3 _ _ _ _ _ _ (B2 w _),ae];simp[List.getD,hj];have hm:ps.getD j (vn,0,[])∈ps:=tE;exact(aa _ hm).alloc _;rintro ag w' ⟨a,c,G,rfl,F,O,Z⟩;rw[e]at G F ⊢;exact⟨a,_,c,rfl,⟨a,c,rfl,G,F,Z⟩,((A2 w.heap.size w).alloc (VA _) _).trans (O.mono oS)⟩
theorem PIns.keep{bs:List (List Nat)}(h:PIns w au bs)(E:vx w.heap.size w w'):PIns w' au bs:=by
 induction h with
 |nil=>exact .nil
 |cons h1 _ ih=>exact .cons (h1.below E) ih
abbrev Wu:Array MapEntry:= #[{key:=.bool vr,val:=.int .i64 1,born:=0}]
theorem Z0b(X:wd):(Instr.mapUpdate 111 (.map (vp X.heap.size)) (.bool vr) (.int .i64 1)).run v8 (X.alloc (.map #[] 0))=.ok () (X.alloc (.map Wu 1)):=by have hb:(X.alloc (.map #[] 0)).heap[X.heap.size]? =vp (.map #[] 0):=B2 X _;have E:=underlying4;have G:Instr.findNow .bool (.bool vr) ([]:List MapEntry) 0=vp none:=rfl;have hc:(Instr.checkKey vq 10000 4 (.bool vr)).run v8 (X.alloc (.map #[] 0))=.ok () (X.alloc (.map #[] 0)):=kbv (k:=.bool vr) E uY vq 9999;(have I: {X.alloc (.map #[] 0)with heap:=(X.alloc (.map #[] 0)).heap.setIfInBounds X.heap.size (.map Wu 1)}=X.alloc (.map Wu 1):=by(have H:(X.alloc (.map #[] 0)).heap.setIfInBounds X.heap.size (.map Wu 1)=(X.alloc (.map Wu 1)).heap:=by show (X.heap.push (.map #[] 0)).setIfInBounds X.heap.size (.map Wu 1)=X.heap.push (.map Wu 1);apply Array.ext;simp;intro i F O;simp only[Array.size_setIfInBounds,ZE]at F;rw[Array.getElem_setIfInBounds];by_cases hi:X.heap.size=i;subst hi;simp;rw[A0 hi,Array.getElem_push_lt om,Array.getElem_push_lt om];simpa using F);rw[H];rfl);simp only[Instr.mapUpdate,P0,Mz underlying111,aF hb,hc,aC E G,MapKept.run_setObj_map _ hb,Result.andThen];exact congrArg (Result.ok ()) I
theorem IZ(W:wd)(r:Nat)(g:Bool)(G:W.heap[r]? =vp (.map Wu 1)):(Instr.lookup 111 (.map (vp r)) (.bool g) vq).run v8 W=.ok (.int .i64 (if g then 1 else 0)) W:=by have E:=underlying4;have hc:(Instr.checkKey vq 10000 4 (.bool g)).run v8 W=.ok () W:=kbv (k:=.bool g) E uY vq 9999;(have F:Instr.findNow .bool (.bool g) Wu.toList 0=vp (if g then vp (0,.int .i64 1)else vn):=by cases g<;>rfl);have H:(zeroValue 3).run v8 W=.ok (.int .i64 0) W:=Tryz.zeroValue3 W;cases g;simp[Instr.lookup,Mz underlying111,aF G,hc,aC E F,H,Result.andThen];simp[Instr.lookup,Mz underlying111,aF G,hc,aC E F,Result.andThen]
end
end Go.Proofs.YtleocpdblhbimaaGreatDoor
