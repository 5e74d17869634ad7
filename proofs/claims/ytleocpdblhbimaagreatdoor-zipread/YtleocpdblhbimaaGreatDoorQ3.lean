import Derived.Test.YtleocpdblhbimaaGreatDoorQ2
import Derived.Laws.BitsAllLaws
set_option linter.unusedSimpArgs false
set_option linter.unusedVariables false
set_option maxRecDepth 100000
namespace Go.Proofs.YtleocpdblhbimaaGreatDoor
def Jg (k:Nat)(u:US):US:=if u.e=0 then ukept k u else u
def Ds (row:List Bool)(k:Nat)(u:US):US:=
 if k=0 then Jg 0 (Cj row u)
 else if k=1 then Jg 1 (Hk row Ky Ir (row.length+1) u)
 else if k=2 then (if (Db row u).2.e≠0 then (Db row u).2 else Jg 2 (Hk row (Db row u).1.1 (Db row u).1.2 (row.length+1) (Db row u).2))
 else {u with e:=4}
def Bj (row:List Bool)(u:US):Nat×US:=
 if (uget row 1 u).2.e≠0 then (1,(uget row 1 u).2)
 else if (uget row 2 (uget row 1 u).2).2.e≠0 then (1,(uget row 2 (uget row 1 u).2).2)
 else ((uget row 1 u).1,Ds row (uget row 2 (uget row 1 u).2).1 (uget row 2 (uget row 1 u).2).2)
def Bw (row:List Bool):Nat->US->US
 |0,u=>u
 |f+1,u=>if (Bj row u).1=0/\(Bj row u).2.e=0 then Bw row f (Bj row u).2 else (Bj row u).2
def Dk (row:List Bool):US:=Bw row (row.length+1) US0
structure Ahd (row:List Bool)(u v:US):Prop where
 ks:v.ks=u.ks
 ge:u.p<=v.p
 le:v.p<=row.length
 out:v.out.length<=3000
theorem Ahd.trans {row:List Bool}{u v x:US}(E:Ahd row u v)(k:Ahd row v x):Ahd row u x:=⟨k.ks.trans E.ks,VU E.ge k.ge,k.le,k.out⟩
theorem Wv (row:List Bool)(n:Nat)(u:US)(E:u.p<=row.length)(F:u.out.length<=3000):Ahd row u (uget row n u).2:=⟨Ic _ _ _,R0 _ _ _,Gr _ _ _ E,by rw[Cm];exact F⟩
theorem Ue (l:List Int)(row:List Bool)(u:US)(H:u.p<=row.length)(I:u.out.length<=3000):Ahd row u (uplace l row u).2:=by obtain⟨G,E,F⟩:=Gm l row u;exact⟨E,F,Ix l row u H,by rw[G];exact I⟩
theorem I3 (row:List Bool)(lb:List Int)(k:Nat)(u:US)(M:u.p<=row.length)(O:u.out.length<=3000)(E:(Co row lb k u).e=0):Ahd row u (Co row lb k u):=by unfold Co at E ⊢;split;(. rename_i c1;rw[if_pos c1]at E;split;(. rename_i c2;rw[if_pos c2]at E;exact absurd (show (2:Int)=0 from E) od);refine⟨rfl,VB _,M, ?_⟩;simp only[VE,VJ,WE];omega);. rename_i c1;rw[if_neg c1]at E;split;(. rename_i c2;rw[if_pos c2]at E;exact absurd (show (8:Int)=0 from E) od);. rename_i c2;rw[if_neg c2]at E;split;(. rename_i G;rw[if_pos G]at E;exact absurd E G);. rename_i G;rw[if_neg G]at E;have H:=Wv row (Df k).2 u M O;generalize uget row (Df k).2 u=g at*;split;(. rename_i F;rw[if_pos F]at E;exact absurd E F);. rename_i F;rw[if_neg F]at E;obtain⟨b1,b2,U,Y⟩:=Vm row lb g.2 H.le;have I:Ahd row g.2 (Me row lb g.2).2:=⟨b2,U,Y,by rw[b1];exact H.out⟩;generalize Me row lb g.2=q at*;obtain⟨aa,Z,T⟩:=Ru _ _ _ E;exact(H.trans I).trans ⟨Z,om,by rw[aa];exact I.le,T I.out⟩
theorem Hj (row:List Bool)(E lb:List Int)(f:Nat)(u:US):Hk row E lb (f+1) u=if (uplace E row u).2.e≠0 then (uplace E row u).2 else if (uplace E row u).1=256 then (uplace E row u).2 else if (Co row lb (uplace E row u).1 (uplace E row u).2).e≠0 then Co row lb (uplace E row u).1 (uplace E row u).2 else Hk row E lb f (Co row lb (uplace E row u).1 (uplace E row u).2):=by unfold Hk;rw[GE]
theorem Jf (row:List Bool)(F lb:List Int):∀(f:Nat) (u:US),u.p<=row.length->u.out.length<=3000->(Hk row F lb f u).e=0->Ahd row u (Hk row F lb f u)
 |0,u,hp,ho,h=>by have E:=Ue F row u hp ho;unfold Hk;split;exact E;exact E
 |f+1,u,hp,ho,h=>by have E:=Ue F row u hp ho;rw[Hj]at h ⊢;generalize uplace F row u=r at*;split;exact E;. rename_i c1;rw[if_neg c1]at h;split;exact E;. rename_i c2;rw[if_neg c2]at h;split;(. rename_i G;rw[if_pos G]at h;exact absurd h G);. rename_i G;rw[if_neg G]at h;have H:=I3 row lb r.1 r.2 E.le E.out om;exact(E.trans H).trans (Jf row F lb f _ H.le H.out h)
theorem Y3 (row:List Bool)(u:US)(Y:(u.p+7)/8*8<=row.length)(Z:u.out.length<=3000)(E:(Cj row u).e=0):Ahd row u (Cj row u):=by obtain⟨r1,H,T⟩:∃r1 H,uget row 16 {u with p:=(u.p+7)/8*8}=(r1,H):=⟨_,_,rfl⟩;obtain⟨r2,I,O⟩:∃r2 I,uget row 16 H=(r2,I):=⟨_,_,rfl⟩;have F:=Wv row 16 {u with p:=(u.p+7)/8*8} Y Z;rw[T]at F;have G:=Wv row 16 H F.le F.out;rw[O]at G;rw[Vj row u H I _ r1 r2 rfl T O]at E ⊢;split;(. rename_i c;rw[if_pos c]at E;exact absurd E c);. rename_i c;rw[if_neg c]at E;split;(. rename_i c2;rw[if_pos c2]at E;exact absurd (show (4:Int)=0 from E) od);. rename_i c2;rw[if_neg c2]at E;split;(. rename_i M;rw[if_pos M]at E;exact absurd (show (2:Int)=0 from E) od);. rename_i M;rw[if_neg M]at E;obtain⟨af,ae,ac⟩:=Wm E G.le;have aa:=F.ge;have U:=G.ge;simp only at aa U;exact⟨(Pw E).trans (G.ks.trans F.ks),om,ae,ac G.out⟩
theorem Ze (x:Int)(u:US):(Am x u).p=u.p/\(Am x u).out=u.out/\(Am x u).ks=u.ks:=by unfold Am;split<;>exact⟨rfl,rfl,rfl⟩
theorem Pv (row:List Bool)(u:US)(H:u.p<=row.length)(I:u.out.length<=3000)(F:(Db row u).2.e=0):Ahd row u (Db row u).2:=by obtain⟨A,C,v,E⟩:∃A C v,Db row u=((A,C),v):=⟨_,_,_,rfl⟩;rw[E]at F ⊢;obtain⟨m0,n0,c0,u1,u2,u3,us,S,L,M⟩:=Hd E F;obtain⟨U,T,G,O⟩:=Pu M H;exact⟨O,by show u.p<=v.p;omega,T,by show v.out.length<=3000;rw[G];exact I⟩
theorem OO (row:List Bool)(q:Nat)(O:row.length=8*q)(k:Nat)(u:US)(M:u.p<=row.length)(G:u.out.length<=3000)(E:(Ds row k u).e=0):k<=2/\(Ds row k u).ks=u.ks++ [k]/\u.p<=(Ds row k u).p/\(Ds row k u).p<=row.length/\(Ds row k u).out.length<=3000:=by(have key:∀(j:Nat) (x:US),(Jg j x).e=0->x.e=0/\Jg j x=ukept j x:=fun j x I=>by unfold Jg at I ⊢;by_cases c:x.e=0;exact⟨c,by rw[if_pos c]⟩;rw[if_neg c]at I;exact absurd I c);unfold Ds at E ⊢;split;(. rename_i c;subst c;rw[if_pos rfl]at E;obtain⟨k1,k2⟩:=key _ _ E;have a:=Y3 row u om G k1;rw[k2];exact⟨od,by show _++ [0]=_;rw[a.ks],a.ge,a.le,a.out⟩);. rename_i c;rw[if_neg c]at E;split;(. rename_i c1;subst c1;rw[if_pos rfl]at E;obtain⟨k1,k2⟩:=key _ _ E;have a:=Jf row Ky Ir _ u M G k1;rw[k2];exact⟨od,by show _++ [1]=_;rw[a.ks],a.ge,a.le,a.out⟩);. rename_i c1;rw[if_neg c1]at E;split;(. rename_i c2;subst c2;rw[if_pos rfl]at E;split;(. rename_i F;rw[if_pos F]at E;exact absurd E F);. rename_i F;rw[if_neg F]at E;obtain⟨k1,k2⟩:=key _ _ E;have H:=Pv row u M G om;have a:=H.trans (Jf row _ _ _ _ H.le H.out k1);rw[k2];exact⟨od,by show _++ [2]=_;rw[a.ks],a.ge,a.le,a.out⟩);. rename_i c2;rw[if_neg c2]at E;exact absurd (show (4:Int)=0 from E) od
theorem Hl (row:List Bool)(q:Nat)(Z:row.length=8*q)(u:US)(ao:u.e=0)(ai:u.p<=row.length)(aa:u.out.length<=3000)(E:(Bj row u).2.e=0):(Bj row u).2.ks.length=u.ks.length+1/\u.p+3<=(Bj row u).2.p/\(Bj row u).2.p<=row.length/\(Bj row u).2.out.length<=3000:=by unfold Bj at E ⊢;split;(. rename_i c;rw[if_pos c]at E;exact absurd E c);. rename_i c;rw[if_neg c]at E;split;(. rename_i c2;rw[if_pos c2]at E;exact absurd E c2);. rename_i c2;rw[if_neg c2]at E;obtain⟨r1,F,I⟩:∃r1 F,uget row 1 u=(r1,F):=⟨_,_,rfl⟩;rw[I]at c c2 E ⊢;obtain⟨r2,G,H⟩:∃r2 G,uget row 2 F=(r2,G):=⟨_,_,rfl⟩;simp only at c c2 E ⊢;rw[H]at c2 E ⊢;simp only at c2 E ⊢;obtain⟨ak,ah,ae,ac,_⟩:=Bn I om;obtain⟨al,Y,U,T,_⟩:=Bn H om;obtain⟨aj,af,ag,O,M⟩:=OO row q Z r2 G Y (by rw[U,ae];exact aa) E;exact⟨by rw[af,T,ac,VE];rfl,om,O,M⟩
def lft (n:Nat):Nat:=if n%2=1 then (n/2)^^^3988292384 else n/2
def Ik:Nat->Nat->Nat
 |0,n=>n
 |k+1,n=>Ik k (lft n)
def Z1x (r x:Nat):Nat:=Ik 8 (r^^^x)
def Sn (r:Nat)(l:List Nat):Nat:=l.foldl Z1x r
def crcN (p:Nat)(l:List Nat):Nat:=Sn (p^^^4294967295) l^^^4294967295
theorem Ym (r:Nat):Sn r []=r:=rfl
theorem Ms (r x:Nat)(l:List Nat):Sn r (x::l)=Sn (Z1x r x) l:=rfl
theorem F4 (k n:Nat):Ik (k+1) n=lft (Ik k n):=by
 induction k generalizing n with
 |zero=>rfl
 |succ k ih=>rw[Ik,ih,Ik]
theorem AU (a b:Nat):(a^^^b)%2=(a%2+b%2)%2:=by have h:=Nat.xor_mod_two_eq_one (a:=a) (b:=b);have G:=WY (a^^^b);have E:=WY a;have F:=WY b;rcases G with G|G<;>rcases E with E|E<;>rcases F with F|F<;>simp_all
theorem AV (a b:Nat):(a^^^b)/2=a/2^^^b/2:=by have:=Nat.shiftRight_xor_distrib (a:=a) (b:=b) (i:=1);simpa[Nat.shiftRight_eq_div_pow]using this
theorem Z4r (a b:Nat):lft (a^^^b)=lft a^^^lft b:=by unfold lft;have E:=WY a;have F:=WY b;rw[AU,AV];generalize a/2=A;generalize b/2=B;rcases E with E|E<;>rcases F with F|F<;>simp only[E,F];simp;simp[ZG];rw[if_pos od,if_pos trivial,if_neg od,ZG,ZG,Nat.xor_comm B];rw[if_neg od,if_pos trivial,if_pos trivial,ZG,Nat.xor_comm B,<-ZG 3988292384,Nat.xor_self,Nat.zero_xor]
theorem Xs:∀(k a b:Nat),Ik k (a^^^b)=Ik k a^^^Ik k b
 |0,_,_=>rfl
 |k+1,a,b=>by rw[Ik,Z4r,Xs k];rfl
theorem Z4s (y:Nat):lft (2*y)=y:=by unfold lft;rw[if_neg om];omega
theorem CE (k y:Nat):Ik k (2^k*y)=y:=by
 induction k with
 |zero=>simp[Ik]
 |succ k ih=>rw[Ik,show 2^(k+1)*y=2*(2^k*y) by rw[XC,YF (2^k) 2,XY],Z4s,ih]
theorem Z6u {n:Nat}(E:n<4294967296):lft n<4294967296:=by unfold lft;by_cases e:n%2=1;rw[if_pos e];exact ZO (n:=32) om od;rw[if_neg e];omega
theorem Rl:∀(k:Nat) {n:Nat},n<4294967296->Ik k n<4294967296
 |0,_,h=>h
 |k+1,_,h=>Rl k (Z6u h)
theorem Z6p (k n:Nat):n=n%2^k^^^2^k*(n/2^k):=by apply Nat.eq_of_testBit_eq;intro i;rw[Nat.testBit_xor,Nat.testBit_mod_two_pow,Nat.testBit_two_pow_mul,Nat.testBit_div_two_pow];by_cases h:i<k;simp[h,show ¬(k<=i) by omega];simp[h,show k<=i by omega,show i-k+k=i by omega]
theorem Z5t {k x:Nat}(y:Nat)(E:x<2^k):x+2^k*y=x^^^2^k*y:=by have h:=Z6p k (x+2^k*y);rw[Nat.add_mul_mod_self_left,ZJ E,Nat.add_mul_div_left _ _ (YQ k),Nat.div_eq_of_lt E,WG]at h;exact h
theorem FX (n:Nat):Ik 8 n=Ik 8 (n%256)^^^n/256:=by have h:=Z6p 8 n;(conv=>lhs;rw[h]);rw[Xs,CE]
theorem Sm:∀(a b:List Nat) (r:Nat),Sn r (a++b)=Sn (Sn r a) b
 | [],_,_=>by rw[Ym,List.nil_append]
 |x::a,b,r=>by rw[XL,Ms,Sm a,Ms]
theorem Sl:∀(l:List Nat) (r:Nat),(∀x∈l,x<256)->r<4294967296->Sn r l<4294967296
 | [],r,_,h=>by rw[Ym];exact h
 |x::l,r,hl,h=>by rw[Ms];have F:=hl x oS;exact Sl l _ (fun y E=>hl y (by simp[E])) (Rl 8 (ZO (n:=32) h om))
theorem E5 {n:Nat}(E:n<4294967296):n^^^4294967295<4294967296:=ZO (n:=32) E od
theorem Z5b {l:List Nat}{p:Nat}(E:∀x∈l,x<256)(F:p<4294967296):crcN p l<4294967296:=E5 (Sl l _ E (E5 F))
theorem NU (c x k:Nat):Ik (k+1) (c^^^x%2^(k+1))=lft (Ik k (c^^^x%2^k)^^^x/2^k%2):=by(have E:x%2^(k+1)=x%2^k^^^2^k*(x/2^k%2):=by rw[Nat.mod_pow_succ];exact Z5t _ (Nat.mod_lt _ (YQ k)));rw[E,<-ZG,F4,Xs,CE]
theorem NV (c b:Nat)(G:b<2):lft (c^^^b)=if (c%2^^^b)=1 then (c/2)^^^3988292384 else c/2:=by unfold lft;rw[AU,AV];have:b/2=0:=om;rw[this,Nat.xor_zero];have E:=WY c;have F:b=0\/b=1:=om;rcases E with E|E<;>rcases F with F|F<;>simp[E,F]
theorem N7 (l:List Nat)(r x:Nat):Sn r (l++ [x])=Z1x (Sn r l) x:=by rw[Sm,Ms,Ym]
def n8 (l:List UInt8):List Nat:=l.map UInt8.toNat
def o8 (l:List Nat):List UInt8:=l.map UInt8.ofNat
theorem Da (l:List UInt8):(n8 l).length=l.length:=by simp[n8]
theorem Ey (l:List Nat):(o8 l).length=l.length:=by simp[o8]
theorem Lv (l:List UInt8):∀x∈n8 l,x<256:=by intro x E;obtain⟨y,_,rfl⟩:=XG.1 E;exact y.toNat_lt
theorem FQ (l:List UInt8):o8 (n8 l)=l:=by simp[o8,n8,ZA]
theorem Z0w {l:List Nat}(F:∀x∈l,x<256):n8 (o8 l)=l:=by unfold n8 o8;rw[ZU];(conv=>rhs;rw[<-List.map_id l]);apply YR;intro x E;have:=F x E;simp;omega
theorem Er {l:List Nat}(F:∀x∈l,x<256)(j:Nat):l.getD j 0<256:=by by_cases E:j<l.length;(have e:l.getD j 0=l[j]:=by simp[List.getD,E]);rw[e];exact F _ (WK E);simp[List.getD,E]
theorem Yf {l:List Nat}(G:∀j,l.getD j 0<256):∀x∈l,x<256:=by intro x E;obtain⟨j,F,rfl⟩:=XI E;have:=G j;simpa[List.getD,F]using this
structure En where
 f:Fl
 meth:Nat
 pk:List Nat
 crc:Nat
def Ed (b:Bool):Nat:=if b then 1 else 0
def To (x:En):List Nat:=Ag 20 2++Ag 0 2++Ag x.meth 2++Ag 0 4++Ag x.crc 4++Ag x.pk.length 4++Ag x.f.bytes.length 4++Ag x.f.name.length 2++Ag 11 2
def Jj (x:En):List Nat:=Ag 29297 2++Ag 7 2++Ag x.f.stamp.toNat 4++Ag x.f.node.toNat 2++Ag (Ed x.f.gone) 1
def Vr (x:En):List Nat:=Ag 67324752 4++To x++n8 x.f.name++Jj x++x.pk
def Qo (x:En)(p:Nat):List Nat:=Ag 33639248 4++Ag 20 2++To x++Ag 0 10++Ag p 4++n8 x.f.name++Jj x
def Av:List En->List Nat
 | []=> []
 |x::r=>Vr x++Av r
def Ao:Nat->List En->List Nat
 |_,[]=> []
 |p,x::r=>Qo x p++Ao (p+(Vr x).length) r
def Pm (n size at_:Nat):List Nat:=Ag 101010256 4++Ag 0 4++Ag n 2++Ag n 2++Ag size 4++Ag at_ 4++Ag 0 2
def Be (l:List En):List Nat:=Av l++Ao 0 l++Pm l.length (Ao 0 l).length (Av l).length
theorem Ly (x:En):(To x).length=26:=by simp[To,Ai]
theorem Ie (x:En):(Jj x).length=11:=by simp[Jj,Ai]
theorem Kc (x:En):(Vr x).length=41+x.f.name.length+x.pk.length:=by simp[Vr,Ai,Ly,Ie,Da];omega
theorem Lk (x:En)(p:Nat):(Qo x p).length=57+x.f.name.length:=by simp[Qo,Ai,Ly,Ie,Da];omega
theorem Pl (n s a:Nat):(Pm n s a).length=22:=by simp[Pm,Ai]
theorem CW:∀(a b:List En),Av (a++b)=Av a++Av b
 | [],b=>rfl
 |x::a,b=>by rw[XL,Av,CW a b,Av,VS]
theorem Zv:∀(a b:List En) (p:Nat),Ao p (a++b)=Ao p a++Ao (p+(Av a).length) b
 | [],b,p=>by simp[Ao,Av]
 |x::a,b,p=>by rw[XL,Ao,Zv a b,Ao,Av,VS,VE,WT]
theorem Di {a b:List Nat}(F:∀x∈a,x<256)(G:∀x∈b,x<256):∀x∈a++b,x<256:=by intro x E;rcases WP.1 E with h|h;exact F x h;exact G x h
theorem CB (x:En):∀y∈To x,y<256:=by unfold To;repeat first|apply Fi|apply Di
theorem DD (x:En):∀y∈Jj x,y<256:=by unfold Jj;repeat first|apply Fi|apply Di
theorem Z1j (x:En)(E:∀y∈x.pk,y<256):∀y∈Vr x,y<256:=by unfold Vr;exact Di (Di (Di (Di (Fi _ _) (CB x)) (Lv _)) (DD x)) E
theorem TZ (x:En)(p:Nat):∀y∈Qo x p,y<256:=by unfold Qo;exact Di (Di (Di (Di (Di (Di (Fi _ _) (Fi _ _)) (CB x)) (Fi _ _)) (Fi _ _)) (Lv _)) (DD x)
theorem CT:∀(l:List En),(∀x∈l,∀y∈x.pk,y<256)->∀y∈Av l,y<256
 | [],_=>fun y F=>by cases F
 |x::r,h=>Di (Z1j x (h x oS)) (CT r (fun z E=>h z (WR _ E)))
theorem Zt:∀(l:List En) (p:Nat),∀y∈Ao p l,y<256
 | [],_=>fun y E=>by cases E
 |x::r,p=>Di (TZ x p) (Zt r _)
theorem Z1v (n s a:Nat):∀y∈Pm n s a,y<256:=by unfold Pm;repeat first|apply Fi|apply Di
theorem Yx (l:List En)(E:∀x∈l,∀y∈x.pk,y<256):∀y∈Be l,y<256:=Di (Di (CT l E) (Zt l 0)) (Z1v _ _ _)
def Dy (k:Nat)(r:List Nat):Option (List Nat×List Nat):=if r.length<k then none else some (r.take k,r.drop k)
theorem Br (a r:List Nat){k:Nat}(E:a.length=k):Dy k (a++r)=some (a,r):=by unfold Dy;rw[if_neg (by rw[VE];omega),YS E,YT E]
theorem Pj (n k:Nat)(r:List Nat):Dy k (Ag n k++r)=some (Ag n k,r):=Br _ _ (Ai k n)
theorem J7 {k:Nat}{r a q:List Nat}(E:Dy k r=some (a,q)):r=a++q/\a.length=k:=by unfold Dy at E;split at E;(. cases E);. rename_i F;simp only[YB,YD]at E;obtain⟨rfl,rfl⟩:=E;exact⟨(YW _ _).symm,by rw[VL];omega⟩
theorem Ap {G:Type}{k:Nat}{r:List Nat}{f:List Nat×List Nat->Option G}{y:G}(E:(Dy k r).bind f=some y):∃a q,r=a++q/\a.length=k/\f (a,q)=some y:=by
 cases F:Dy k r with
 |none=>rw[F]at E;cases E
 |some p=>rw[F]at E;exact⟨p.1,p.2,(J7 F).1,(J7 F).2,E⟩
def unpF (m:Nat)(pk:List Nat):Option (List Nat):=
 if m=0 then some pk
 else if m=8 then (if pk.length<=6000/\(Dk (rowB pk pk.length)).e=0/\((Dk (rowB pk pk.length)).p+7)/8=pk.length then some (Dk (rowB pk pk.length)).out else none)
 else none
def Fe (r:List Nat):Option (En×List Nat):=
 (Dy 4 r).bind fun a1=>(Dy 2 a1.2).bind fun a2=>(Dy 4 a2.2).bind fun a3=>(Dy 4 a3.2).bind fun a4=>(Dy 4 a4.2).bind fun a5=>
 (Dy 4 a5.2).bind fun a6=>(Dy 2 a6.2).bind fun a7=>(Dy 2 a7.2).bind fun a8=>(Dy (Ak a7.1) a8.2).bind fun a9=>(Dy 4 a9.2).bind fun a10=>
 (Dy 4 a10.2).bind fun a11=>(Dy 2 a11.2).bind fun a12=>(Dy 1 a12.2).bind fun a13=>(Dy (Ak a5.1) a13.2).bind fun a14=>
 (unpF (Ak a2.1) a14.1).bind fun b=>some (⟨⟨o8 a9.1,o8 b,(Ak a11.1:Nat),(Ak a12.1:Nat),decide (Ak a13.1=1)⟩,Ak a2.1,a14.1,Ak a4.1⟩,a14.2)
def Cd:Nat->List Nat->Option (List En)
 |0,_=>none
 |F+1,r=>(Dy 4 r).bind fun m=>if Ak m.1=67324752 then (Fe m.2).bind fun x=>(Cd F x.2).map (x.1:: ·)else some []
theorem Si {r:List Nat}{x:En}{q:List Nat}(E:Fe r=some (x,q)):q.length+37<=r.length/\((∀z∈r,z<256)->(∀z∈x.pk,z<256)/\∀z∈q,z<256)/\∀t,Fe (r++t)=some (x,q++t):=by
 unfold Fe at E;obtain⟨a4,r1,rfl,l1,E⟩:=Ap E;dsimp only at E;obtain⟨Y,r2,rfl,l2,E⟩:=Ap E;dsimp only at E;obtain⟨az,a3,rfl,aa,E⟩:=Ap E;dsimp only at E;obtain⟨ak,a7,rfl,M,E⟩:=Ap E;dsimp only at E;obtain⟨ax,aw,rfl,O,E⟩:=Ap E;dsimp only at E;obtain⟨a8,ap,rfl,ah,E⟩:=Ap E;dsimp only at E;obtain⟨aj,ba,rfl,ae,E⟩:=Ap E;dsimp only at E;obtain⟨a5,al,rfl,ag,E⟩:=Ap E;dsimp only at E;obtain⟨a6,ai,rfl,ac,E⟩:=Ap E;dsimp only at E;obtain⟨ay,ar,rfl,l10,E⟩:=Ap E;dsimp only at E;obtain⟨ao,a1,rfl,af,E⟩:=Ap E;dsimp only at E;obtain⟨a9,au,rfl,Z,E⟩:=Ap E;dsimp only at E;obtain⟨bb,a2,rfl,U,E⟩:=Ap E;dsimp only at E;obtain⟨I,av,rfl,T,E⟩:=Ap E;dsimp only at E
 cases G:unpF (Ak Y) I with
 |none=>rw[G]at E;cases E
 |some b=>rw[G]at E;simp only[VF,YB,YD]at E;obtain⟨rfl,rfl⟩:=E;refine⟨?_,fun H=>⟨fun z F=>H z (by simp[F]),fun z F=>H z (by simp[F])⟩,fun t=> ?_⟩;simp only[VE];omega;unfold Fe;simp only[VS];rw[Br _ _ l1,VF];dsimp only;rw[Br _ _ l2,VF];dsimp only;rw[Br _ _ aa,VF];dsimp only;rw[Br _ _ M,VF];dsimp only;rw[Br _ _ O,VF];dsimp only;rw[Br _ _ ah,VF];dsimp only;rw[Br _ _ ae,VF];dsimp only;rw[Br _ _ ag,VF];dsimp only;rw[Br _ _ ac,VF];dsimp only;rw[Br _ _ l10,VF];dsimp only;rw[Br _ _ af,VF];dsimp only;rw[Br _ _ Z,VF];dsimp only;rw[Br _ _ U,VF];dsimp only;rw[Br _ _ T,VF];dsimp only;rw[G];rfl
theorem IG:∀ {F:Nat} {r:List Nat} {l:List En},Cd F r=some l->∀t,Cd F (r++t)=some l
 |0,r,l,h,t=>by cases h
 |F+1,r,l,h,t=>by
  unfold Cd at h ⊢;obtain⟨m,q,rfl,hl,h⟩:=Ap h;dsimp only at h;rw[VS,Br _ _ hl,VF];dsimp only;split at h
  . rename_i hm;rw[if_pos hm]
    cases E:Fe q with
    |none=>rw[E]at h;cases h
    |some p=>rw[E]at h;rw[(Si (x:=p.1) (q:=p.2) E).2.2 t,VF];simp only[VF,XF]at h ⊢;obtain⟨l2,H,G⟩:=h;exact⟨l2,IG H t,G⟩
  . rename_i hm;rw[if_neg hm];exact h
theorem Sf:∀ {F:Nat} {r:List Nat} {l:List En},Cd F r=some l->(∀z∈r,z<256)->∀x∈l,∀z∈x.pk,z<256
 |0,r,l,h,_=>by cases h
 |F+1,r,l,h,hv=>by
  unfold Cd at h;obtain⟨m,q,rfl,hl,h⟩:=Ap h;dsimp only at h;split at h
  . cases G:Fe q with
    |none=>rw[G]at h;cases h
    |some p=>rw[G]at h;simp only[VF,XF]at h;obtain⟨l2,M,rfl⟩:=h;have H:=(Si (x:=p.1) (q:=p.2) G).2.1 (fun z I=>hv z (by simp[I]));intro x E;rcases WH.1 E with rfl|E;exact H.1;exact Sf M H.2 x E
  . cases h;intro x E;cases E
structure EOk (x:En):Prop where
 st:0<=x.f.stamp/\x.f.stamp<4294967296
 nd:0<=x.f.node/\x.f.node<65536
 nm:x.f.name.length<65536
 pl:x.pk.length<4294967296
 cr:x.crc<4294967296
 mt:x.meth<65536
 un:unpF x.meth x.pk=some (n8 x.f.bytes)
theorem Z1s (x:En)(U:EOk x)(t:List Nat):Fe (To x++n8 x.f.name++Jj x++x.pk++t)=some (x,t):=by(have e:To x++n8 x.f.name++Jj x++x.pk++t=(Ag 20 2++Ag 0 2)++(Ag x.meth 2++(Ag 0 4++(Ag x.crc 4++(Ag x.pk.length 4++(Ag x.f.bytes.length 4++(Ag x.f.name.length 2++(Ag 11 2++(n8 x.f.name++((Ag 29297 2++Ag 7 2)++(Ag x.f.stamp.toNat 4++(Ag x.f.node.toNat 2++(Ag (Ed x.f.gone) 1++(x.pk++t))))))))))))):=by simp only[To,Jj,VS]);obtain⟨⟨I,st1⟩,⟨O,Y⟩,nm,pl,cr,mt,un⟩:=U;have o1:Ak (Ag x.meth 2)=x.meth:=Cu 2 _ mt;have o2:Ak (Ag x.crc 4)=x.crc:=Cu 4 _ cr;have T:Ak (Ag x.pk.length 4)=x.pk.length:=Cu 4 _ pl;have G:Ak (Ag x.f.name.length 2)=x.f.name.length:=Cu 2 _ nm;have H:Ak (Ag x.f.stamp.toNat 4)=x.f.stamp.toNat:=Cu 4 _ (by show _<4294967296;omega);have E:Ak (Ag x.f.node.toNat 2)=x.f.node.toNat:=Cu 2 _ (by show _<65536;omega);have F:Ak (Ag (Ed x.f.gone) 1)=Ed x.f.gone:=Cu 1 _ (by unfold Ed;split<;>decide);rw[e];unfold Fe;rw[Br _ _ (show (Ag 20 2++Ag 0 2).length=4 from rfl)];simp only[VF,Pj,o1,o2,T,G];rw[Br _ _ (Da x.f.name)];simp only[VF];rw[Br _ _ (show (Ag 29297 2++Ag 7 2).length=4 from rfl)];simp only[VF,Pj,H,E,F];rw[Br _ _ rfl];simp only[VF,un,FQ,YB,YD,and_true];have M:((x.f.stamp.toNat:Nat):Int)=x.f.stamp:=YU I;have e2:((x.f.node.toNat:Nat):Int)=x.f.node:=YU O;(have e3:decide (Ed x.f.gone=1)=x.f.gone:=by cases x.f.gone<;>rfl);rw[M,e2,e3]
theorem Vv:∀(l:List En) {F:Nat} {t:List Nat},(∀x∈l,EOk x)->l.length<F->(∃m q,Dy 4 t=some (m,q)/\Ak m≠67324752)->Cd F (Av l++t)=some l
 | [],0,t,_,h,_=>by cases h
 | [],F+1,t,_,_,⟨m,q,h1,h2⟩=>by unfold Cd;show (Dy 4 t).bind _=_;rw[h1,VF];dsimp only;rw[if_neg h2]
 |x::l,0,t,_,h,_=>by cases h
 |x::l,F+1,t,h,hF,ht=>by unfold Cd;(have e:Av (x::l)++t=Ag 67324752 4++(To x++n8 x.f.name++Jj x++x.pk++(Av l++t)):=by simp only[Av,Vr,VS]);have hm:Ak (Ag 67324752 4)=67324752:=Cu 4 _ od;rw[e,Pj,VF];dsimp only;rw[if_pos hm,Z1s x (h x oS),VF];dsimp only;rw[Vv l (fun y E=>h y (WR _ E)) (by simpa using hF) ht];rfl
theorem Se (l:List En)(G:∀x∈l,EOk x)(t:List Nat){F:Nat}(E:l.length<F):Cd F (Be l++t)=some l:=by
 unfold Be;rw[VS,VS];refine Vv l G E ?_
 cases l with
 |nil=>refine⟨Ag 101010256 4,(Pm 0 0 0).drop 4++t, ?_,by rw[Cu 4 _ od];decide⟩;exact Br (Ag 101010256 4) ((Pm 0 0 0).drop 4++t) rfl
 |cons x r=>refine⟨Ag 33639248 4,Ag 20 2++(To x++(Ag 0 10++(Ag 0 4++(n8 x.f.name++(Jj x++(Ao (0+(Vr x).length) r++(Pm (x::r).length (Ao 0 (x::r)).length (Av (x::r)).length++t))))))), ?_,by rw[Cu 4 _ od];decide⟩;rw[<-Pj];simp only[Ao,Qo,VS]
theorem JP (l:List En):l.length+22<=(Be l).length:=by
 have:∀l:List En,l.length<=(Av l).length:=by
  intro l
  induction l with
  |nil=>exact VH _
  |cons x r ih=>rw[Av,VE,Kc,VJ];omega
 have h:=this l;unfold Be;rw[VE,VE,Pl];omega
theorem Yy (l:List En):l.length<(Be l).length+1:=by have:=JP l;omega
def sumsF (l:List En):Bool:=l.all fun x=>decide (x.crc=crcN 0 (n8 x.f.bytes))
def readE (b:List Nat):Nat:=
 if 12000<b.length then 2
 else match Cd (b.length+1) b with
  |none=>7
  |some l=>if errM (l.map En.f)≠0\/Be l≠b then 7 else if sumsF l=false then 10 else 0
def readL (b:List Nat):List Fl:=if readE b≠0 then []else ((Cd (b.length+1) b).getD []).map En.f
theorem C6 {b:List Nat}(E:readE b=0):∃l,Cd (b.length+1) b=some l/\errM (l.map En.f)=0/\Be l=b/\sumsF l=true/\readL b=l.map En.f/\b.length<=12000:=by
 (have G:readL b=((Cd (b.length+1) b).getD []).map En.f:=by unfold readL;rw[if_neg (by rw[E];decide)]);unfold readE at E;split at E;. cases E
 . rename_i hb
   cases F:Cd (b.length+1) b with
   |none=>rw[F]at E;cases E
   |some l=>rw[F]at E G;dsimp only at E;split at E;(. cases E);. rename_i hc;split at E;(. cases E);. rename_i H;refine⟨l,rfl, ?_, ?_, ?_,G,om⟩;by_cases e:errM (l.map En.f)=0;exact e;exact absurd (.inl e) hc;by_cases e:Be l=b;exact e;exact absurd (.inr e) hc;. cases e:sumsF l;exact absurd e H;rfl
theorem ME (l:List En)(M:∀x∈l,EOk x)(I:errM (l.map En.f)=0)(H:sumsF l=true)(O:(Be l).length<=12000):readE (Be l)=0/\readL (Be l)=l.map En.f:=by(have F:Cd ((Be l).length+1) (Be l)=some l:=by have:=Se l M [] (Yy l);rwa [XA]at this);(have G:readE (Be l)=0:=by unfold readE;rw[if_neg om,F];dsimp only;rw[if_neg (by intro E;rcases E with E|E;exact E I;exact E rfl),if_neg (by rw[H];decide)]);refine⟨G, ?_⟩;unfold readL;rw[if_neg (by rw[G];decide),F];rfl
end Go.Proofs.YtleocpdblhbimaaGreatDoor
