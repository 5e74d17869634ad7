import Derived.Laws.BitsAllLaws
import Derived.Test.YtcjbgpacnkilnagGreatDoorQ0
import Derived.Test.YtcjbgpacnkilnagGreatDoorQ9
namespace Go.Proofs.YtcjbgpacnkilnagGreatDoor
set_option linter.unusedVariables false
def lft (n:Nat):Nat:=if n%2=1 then (n/2)^^^3988292384 else n/2
def Ji:Nat->Nat->Nat
 |0,n=>n
 |k+1,n=>Ji k (lft n)
def Zl7 (r x:Nat):Nat:=Ji 8 (r^^^x)
def Z14 (r:Nat)(l:List Nat):Nat:=l.foldl Zl7 r
def crcN (p:Nat)(l:List Nat):Nat:=Z14 (p^^^4294967295) l^^^4294967295
theorem Wx (r:Nat):Z14 r []=r:=rfl
theorem Mb (r x:Nat)(l:List Nat):Z14 r (x::l)=Z14 (Zl7 r x) l:=rfl
theorem Zbm (k n:Nat):Ji (k+1) n=lft (Ji k n):=by
 induction k generalizing n with
 |zero=>rfl
 |succ k ih=>rw[Ji,ih,Ji]
theorem Zec (a b:Nat):(a^^^b)%2=(a%2+b%2)%2:=by
 have h:=Nat.xor_mod_two_eq_one (a:=a) (b:=b);have h1:=Nat.mod_two_eq_zero_or_one (a^^^b);have h2:=Nat.mod_two_eq_zero_or_one a;have h3:=Nat.mod_two_eq_zero_or_one b
 rcases h1 with h1|h1<;>rcases h2 with h2|h2<;>rcases h3 with h3|h3<;>simp_all
theorem Zed (a b:Nat):(a^^^b)/2=a/2^^^b/2:=by
 have:=Nat.shiftRight_xor_distrib (a:=a) (b:=b) (i:=1)
 simpa[Nat.shiftRight_eq_div_pow]using this
theorem Zjw (a b:Nat):lft (a^^^b)=lft a^^^lft b:=by
 unfold lft;have h2:=Nat.mod_two_eq_zero_or_one a;have h3:=Nat.mod_two_eq_zero_or_one b;rw[Zec,Zed];generalize a/2=A;generalize b/2=B
 rcases h2 with h2|h2<;>rcases h3 with h3|h3<;>simp only[h2,h3]
 . simp
 . simp[Nat.xor_assoc]
 . rw[if_pos (by decide),if_pos trivial,if_neg (by decide),Nat.xor_assoc,Nat.xor_assoc,Nat.xor_comm B]
 . rw[if_neg (by decide),if_pos trivial,if_pos trivial,Nat.xor_assoc,Nat.xor_comm B,<-Nat.xor_assoc 3988292384,Nat.xor_self,Nat.zero_xor]
theorem Z5e:∀(k a b:Nat),Ji k (a^^^b)=Ji k a^^^Ji k b
 |0,_,_=>rfl
 |k+1,a,b=>by rw[Ji,Zjw,Z5e k];rfl
theorem Zjx (y:Nat):lft (2*y)=y:=by
 unfold lft;rw[if_neg (by omega)];omega
theorem Zg4 (k y:Nat):Ji k (2^k*y)=y:=by
 induction k with
 |zero=>simp[Ji]
 |succ k ih=>
  rw[Ji,show 2^(k+1)*y=2*(2^k*y) by rw[Nat.pow_succ,Nat.mul_comm (2^k) 2,Nat.mul_assoc],Zjx,ih]
theorem Zm8 {n:Nat}(h:n<4294967296):lft n<4294967296:=by
 unfold lft
 by_cases e:n%2=1
 . rw[if_pos e];exact Nat.xor_lt_two_pow (n:=32) (by omega) (by decide)
 . rw[if_neg e];omega
theorem Wc:∀(k:Nat) {n:Nat},n<4294967296->Ji k n<4294967296
 |0,_,h=>h
 |k+1,_,h=>Wc k (Zm8 h)
theorem Zn2 (k n:Nat):n=n%2^k^^^2^k*(n/2^k):=by
 apply Nat.eq_of_testBit_eq
 intro i;rw[Nat.testBit_xor,Nat.testBit_mod_two_pow,Nat.testBit_two_pow_mul,Nat.testBit_div_two_pow]
 by_cases h:i<k
 . simp[h,show ¬(k<=i) by omega]
 . simp[h,show k<=i by omega,show i-k+k=i by omega]
theorem Z77 (n:Nat):Ji 8 n=Ji 8 (n%256)^^^n/256:=by
 have h:=Zn2 8 n
 conv=>lhs;rw[h]
 rw[Z5e,Zg4]
theorem Rn:∀(a b:List Nat) (r:Nat),Z14 r (a++b)=Z14 (Z14 r a) b
 | [],_,_=>by rw[Wx,List.nil_append]
 |x::a,b,r=>by rw[List.cons_append,Mb,Rn a,Mb]
theorem Wy:∀(l:List Nat) (r:Nat),(∀x∈l,x<256)->r<4294967296->Z14 r l<4294967296
 | [],r,_,h=>by rw[Wx];exact h
 |x::l,r,hl,h=>by
  rw[Mb];have hx:=hl x (by simp);exact Wy l _ (fun y hy=>hl y (by simp[hy])) (Wc 8 (Nat.xor_lt_two_pow (n:=32) h (by omega)))
theorem Z55 {n:Nat}(h:n<4294967296):n^^^4294967295<4294967296:=Nat.xor_lt_two_pow (n:=32) h (by decide)
theorem Z3j {l:List Nat}{p:Nat}(hl:∀x∈l,x<256)(h:p<4294967296):crcN p l<4294967296:=Z55 (Wy l _ hl (Z55 h))
theorem Zd5 (l:List Nat)(r x:Nat):Z14 r (l++ [x])=Zl7 (Z14 r l) x:=by rw[Rn,Mb,Wx]
def n8 (l:List UInt8):List Nat:=l.map UInt8.toNat
def o8 (l:List Nat):List UInt8:=l.map UInt8.ofNat
theorem Dv (l:List UInt8):(n8 l).length=l.length:=by simp[n8]
theorem Lg (l:List Nat):(o8 l).length=l.length:=by simp[o8]
theorem Jw (l:List UInt8):∀x∈n8 l,x<256:=by
 intro x hx;obtain⟨y,_,rfl⟩:=List.mem_map.1 hx;exact y.toNat_lt
theorem Zfq (l:List UInt8):o8 (n8 l)=l:=by simp[o8,n8,Function.comp_def]
theorem Zn1 {l:List Nat}(h:∀x∈l,x<256):n8 (o8 l)=l:=by
 unfold n8 o8;rw[List.map_map]
 conv=>rhs;rw[<-List.map_id l]
 apply List.map_congr_left
 intro x hx;have:=h x hx
 simp
 omega
theorem Dk {l:List Nat}(h:∀x∈l,x<256)(j:Nat):l.getD j 0<256:=by
 by_cases hk:j<l.length
 . have e:l.getD j 0=l[j]:=by simp[List.getD,hk]
   rw[e];exact h _ (List.getElem_mem hk)
 . simp[List.getD,hk]
theorem Z5r {l:List Nat}(h:∀j,l.getD j 0<256):∀x∈l,x<256:=by
 intro x hx;obtain⟨j,hj,rfl⟩:=List.getElem_of_mem hx;have:=h j
 simpa[List.getD,hj]using this
structure En where
 f:Fl
 meth:Nat
 pk:List Nat
 crc:Nat
def Z39 (b:Bool):Nat:=if b then 1 else 0
def Zx (x:En):List Nat:=Bd 20 2++Bd 0 2++Bd x.meth 2++Bd 0 4++Bd x.crc 4++Bd x.pk.length 4++Bd x.f.bytes.length 4++Bd x.f.name.length 2++Bd 11 2
def Z0s (x:En):List Nat:=Bd 29297 2++Bd 7 2++Bd x.f.stamp.toNat 4++Bd x.f.node.toNat 2++Bd (Z39 x.f.gone) 1
def Z1t (x:En):List Nat:=Bd 67324752 4++Zx x++n8 x.f.name++Z0s x++x.pk
def Zf4 (x:En)(p:Nat):List Nat:=Bd 33639248 4++Bd 20 2++Zx x++Bd 0 10++Bd p 4++n8 x.f.name++Z0s x
def Bh:List En->List Nat
 | []=> []
 |x::r=>Z1t x++Bh r
def Bj:Nat->List En->List Nat
 |_,[]=> []
 |p,x::r=>Zf4 x p++Bj (p+(Z1t x).length) r
def Z8w (n size at_:Nat):List Nat:=Bd 101010256 4++Bd 0 4++Bd n 2++Bd n 2++Bd size 4++Bd at_ 4++Bd 0 2
def Ca (l:List En):List Nat:=Bh l++Bj 0 l++Z8w l.length (Bj 0 l).length (Bh l).length
theorem Oq (x:En):(Zx x).length=26:=by simp[Zx,Ak]
theorem Pb (x:En):(Z0s x).length=11:=by simp[Z0s,Ak]
theorem Pa (x:En):(Z1t x).length=41+x.f.name.length+x.pk.length:=by simp[Z1t,Ak,Oq,Pb,Dv];omega
theorem Vh (x:En)(p:Nat):(Zf4 x p).length=57+x.f.name.length:=by simp[Zf4,Ak,Oq,Pb,Dv];omega
theorem Z5w (n s a:Nat):(Z8w n s a).length=22:=by simp[Z8w,Ak]
theorem Z5q:∀(a b:List En),Bh (a++b)=Bh a++Bh b
 | [],b=>rfl
 |x::a,b=>by rw[List.cons_append,Bh,Z5q a b,Bh,List.append_assoc]
theorem Yk:∀(a b:List En) (p:Nat),Bj p (a++b)=Bj p a++Bj (p+(Bh a).length) b
 | [],b,p=>by simp[Bj,Bh]
 |x::a,b,p=>by rw[List.cons_append,Bj,Yk a b,Bj,Bh,List.append_assoc,List.length_append,Nat.add_assoc]
theorem Db {a b:List Nat}(ha:∀x∈a,x<256)(hb:∀x∈b,x<256):∀x∈a++b,x<256:=by
 intro x hx
 rcases List.mem_append.1 hx with h|h
 . exact ha x h
 . exact hb x h
theorem Z5b (x:En):∀y∈Zx x,y<256:=by
 unfold Zx
 repeat first|apply Eh|apply Db
theorem Z5u (x:En):∀y∈Z0s x,y<256:=by
 unfold Z0s
 repeat first|apply Eh|apply Db
theorem Zgi (x:En)(h:∀y∈x.pk,y<256):∀y∈Z1t x,y<256:=by
 unfold Z1t;exact Db (Db (Db (Db (Eh _ _) (Z5b x)) (Jw _)) (Z5u x)) h
theorem Zf3 (x:En)(p:Nat):∀y∈Zf4 x p,y<256:=by
 unfold Zf4;exact Db (Db (Db (Db (Db (Db (Eh _ _) (Eh _ _)) (Z5b x)) (Eh _ _)) (Eh _ _)) (Jw _)) (Z5u x)
theorem Z5p:∀(l:List En),(∀x∈l,∀y∈x.pk,y<256)->∀y∈Bh l,y<256
 | [],_=>fun y hy=>by cases hy
 |x::r,h=>Db (Zgi x (h x (by simp))) (Z5p r (fun z hz=>h z (List.mem_cons_of_mem _ hz)))
theorem Yj:∀(l:List En) (p:Nat),∀y∈Bj p l,y<256
 | [],_=>fun y hy=>by cases hy
 |x::r,p=>Db (Zf3 x p) (Yj r _)
theorem Zgw (n s a:Nat):∀y∈Z8w n s a,y<256:=by
 unfold Z8w
 repeat first|apply Eh|apply Db
theorem Xk (l:List En)(h:∀x∈l,∀y∈x.pk,y<256):∀y∈Ca l,y<256:=Db (Db (Z5p l h) (Yj l 0)) (Zgw _ _ _)
def Dw (k:Nat)(r:List Nat):Option (List Nat×List Nat):=if r.length<k then none else some (r.take k,r.drop k)
theorem Bg (a r:List Nat){k:Nat}(h:a.length=k):Dw k (a++r)=some (a,r):=by
 unfold Dw;rw[if_neg (by rw[List.length_append];omega),List.take_left' h,List.drop_left' h]
theorem Oz (n k:Nat)(r:List Nat):Dw k (Bd n k++r)=some (Bd n k,r):=Bg _ _ (Ak k n)
theorem Z0i {k:Nat}{r a q:List Nat}(h:Dw k r=some (a,q)):r=a++q/\a.length=k:=by
 unfold Dw at h
 split at h
 . cases h
 . rename_i hk
   simp only[Option.some.injEq,Prod.mk.injEq]at h;obtain⟨rfl,rfl⟩:=h;exact⟨(List.take_append_drop _ _).symm,by rw[List.length_take];omega⟩
theorem Al {β:Type}{k:Nat}{r:List Nat}{f:List Nat×List Nat->Option β}{y:β}(h:(Dw k r).bind f=some y):
 ∃a q,r=a++q/\a.length=k/\f (a,q)=some y:=by
 cases hg:Dw k r with
 |none=>rw[hg]at h;cases h
 |some p=>rw[hg]at h;exact⟨p.1,p.2,(Z0i hg).1,(Z0i hg).2,h⟩
def unpF (m:Nat)(pk:List Nat):Option (List Nat):=
 if m=0 then some pk
 else if m=8 then (if pk.length<=6000/\(Df (rowB pk pk.length)).e=0/\((Df (rowB pk pk.length)).p+7)/8=pk.length then some (Df (rowB pk pk.length)).out else none)
 else none
def Fp (r:List Nat):Option (En×List Nat):=
 (Dw 4 r).bind fun a1=>(Dw 2 a1.2).bind fun a2=>(Dw 4 a2.2).bind fun a3=>(Dw 4 a3.2).bind fun a4=>(Dw 4 a4.2).bind fun a5=>
 (Dw 4 a5.2).bind fun a6=>(Dw 2 a6.2).bind fun a7=>(Dw 2 a7.2).bind fun a8=>(Dw (Ai a7.1) a8.2).bind fun a9=>(Dw 4 a9.2).bind fun a10=>
 (Dw 4 a10.2).bind fun a11=>(Dw 2 a11.2).bind fun a12=>(Dw 1 a12.2).bind fun a13=>(Dw (Ai a5.1) a13.2).bind fun a14=>
 (unpF (Ai a2.1) a14.1).bind fun b=>some (⟨⟨o8 a9.1,o8 b,(Ai a11.1:Nat),(Ai a12.1:Nat),decide (Ai a13.1=1)⟩,Ai a2.1,a14.1,Ai a4.1⟩,a14.2)
def Ce:Nat->List Nat->Option (List En)
 |0,_=>none
 |F+1,r=>(Dw 4 r).bind fun m=>if Ai m.1=67324752 then (Fp m.2).bind fun x=>(Ce F x.2).map (x.1:: ·)else some []
theorem Rl {r:List Nat}{x:En}{q:List Nat}(h:Fp r=some (x,q)):
 q.length+37<=r.length/\((∀z∈r,z<256)->(∀z∈x.pk,z<256)/\∀z∈q,z<256)/\∀t,Fp (r++t)=some (x,q++t):=by
 unfold Fp at h;obtain⟨a1,r1,rfl,l1,h⟩:=Al h;dsimp only at h;obtain⟨a2,r2,rfl,l2,h⟩:=Al h;dsimp only at h;obtain⟨a3,r3,rfl,l3,h⟩:=Al h;dsimp only at h;obtain⟨a4,r4,rfl,l4,h⟩:=Al h;dsimp only at h;obtain⟨a5,r5,rfl,l5,h⟩:=Al h;dsimp only at h;obtain⟨a6,r6,rfl,l6,h⟩:=Al h;dsimp only at h;obtain⟨a7,r7,rfl,l7,h⟩:=Al h;dsimp only at h;obtain⟨a8,r8,rfl,l8,h⟩:=Al h;dsimp only at h;obtain⟨a9,r9,rfl,l9,h⟩:=Al h;dsimp only at h;obtain⟨a10,r10,rfl,l10,h⟩:=Al h;dsimp only at h;obtain⟨a11,r11,rfl,l11,h⟩:=Al h;dsimp only at h;obtain⟨a12,r12,rfl,l12,h⟩:=Al h;dsimp only at h;obtain⟨a13,r13,rfl,l13,h⟩:=Al h;dsimp only at h;obtain⟨a14,r14,rfl,l14,h⟩:=Al h;dsimp only at h
 cases hu:unpF (Ai a2) a14 with
 |none=>rw[hu]at h;cases h
 |some b=>
  rw[hu]at h;simp only[Option.bind_some,Option.some.injEq,Prod.mk.injEq]at h;obtain⟨rfl,rfl⟩:=h;refine⟨?_,fun hv=>⟨fun z hz=>hv z (by simp[hz]),fun z hz=>hv z (by simp[hz])⟩,fun t=> ?_⟩
  . simp only[List.length_append];omega
  . unfold Fp;simp only[List.append_assoc];rw[Bg _ _ l1,Option.bind_some];dsimp only;rw[Bg _ _ l2,Option.bind_some];dsimp only;rw[Bg _ _ l3,Option.bind_some];dsimp only;rw[Bg _ _ l4,Option.bind_some];dsimp only;rw[Bg _ _ l5,Option.bind_some];dsimp only;rw[Bg _ _ l6,Option.bind_some];dsimp only;rw[Bg _ _ l7,Option.bind_some];dsimp only;rw[Bg _ _ l8,Option.bind_some];dsimp only;rw[Bg _ _ l9,Option.bind_some];dsimp only;rw[Bg _ _ l10,Option.bind_some];dsimp only;rw[Bg _ _ l11,Option.bind_some];dsimp only;rw[Bg _ _ l12,Option.bind_some];dsimp only;rw[Bg _ _ l13,Option.bind_some];dsimp only;rw[Bg _ _ l14,Option.bind_some];dsimp only;rw[hu];rfl
theorem Z83:∀ {F:Nat} {r:List Nat} {l:List En},Ce F r=some l->∀t,Ce F (r++t)=some l
 |0,r,l,h,t=>by cases h
 |F+1,r,l,h,t=>by
  unfold Ce at h ⊢;obtain⟨m,q,rfl,hl,h⟩:=Al h;dsimp only at h;rw[List.append_assoc,Bg _ _ hl,Option.bind_some];dsimp only
  split at h
  . rename_i hm
    rw[if_pos hm]
    cases he:Fp q with
    |none=>rw[he]at h;cases h
    |some p=>
     rw[he]at h;rw[(Rl (x:=p.1) (q:=p.2) he).2.2 t,Option.bind_some];simp only[Option.bind_some,Option.map_eq_some_iff]at h ⊢;obtain⟨l2,h1,h2⟩:=h;exact⟨l2,Z83 h1 t,h2⟩
  . rename_i hm
    rw[if_neg hm];exact h
theorem Z0x:∀ {F:Nat} {r:List Nat} {l:List En},Ce F r=some l->(∀z∈r,z<256)->∀x∈l,∀z∈x.pk,z<256
 |0,r,l,h,_=>by cases h
 |F+1,r,l,h,hv=>by
  unfold Ce at h;obtain⟨m,q,rfl,hl,h⟩:=Al h;dsimp only at h
  split at h
  . cases he:Fp q with
    |none=>rw[he]at h;cases h
    |some p=>
     rw[he]at h;simp only[Option.bind_some,Option.map_eq_some_iff]at h;obtain⟨l2,h1,rfl⟩:=h;have h2:=(Rl (x:=p.1) (q:=p.2) he).2.1 (fun z hz=>hv z (by simp[hz]));intro x hx
     rcases List.mem_cons.1 hx with rfl|hx
     . exact h2.1
     . exact Z0x h1 h2.2 x hx
  . cases h
    intro x hx
    cases hx
structure EOk (x:En):Prop where
 st:0<=x.f.stamp/\x.f.stamp<4294967296
 nd:0<=x.f.node/\x.f.node<65536
 nm:x.f.name.length<65536
 pl:x.pk.length<4294967296
 cr:x.crc<4294967296
 mt:x.meth<65536
 un:unpF x.meth x.pk=some (n8 x.f.bytes)
theorem Zgv (x:En)(h:EOk x)(t:List Nat):Fp (Zx x++n8 x.f.name++Z0s x++x.pk++t)=some (x,t):=by
 have e:Zx x++n8 x.f.name++Z0s x++x.pk++t=(Bd 20 2++Bd 0 2)++(Bd x.meth 2++(Bd 0 4++(Bd x.crc 4++(Bd x.pk.length 4++(Bd x.f.bytes.length 4++(Bd x.f.name.length 2++(Bd 11 2++(n8 x.f.name++((Bd 29297 2++Bd 7 2)++(Bd x.f.stamp.toNat 4++(Bd x.f.node.toNat 2++(Bd (Z39 x.f.gone) 1++(x.pk++t))))))))))))):=by
  simp only[Zx,Z0s,List.append_assoc]
 obtain⟨⟨st0,st1⟩,⟨nd0,nd1⟩,nm,pl,cr,mt,un⟩:=h;have o1:Ai (Bd x.meth 2)=x.meth:=Ch 2 _ mt;have o2:Ai (Bd x.crc 4)=x.crc:=Ch 4 _ cr;have o3:Ai (Bd x.pk.length 4)=x.pk.length:=Ch 4 _ pl;have o4:Ai (Bd x.f.name.length 2)=x.f.name.length:=Ch 2 _ nm;have o5:Ai (Bd x.f.stamp.toNat 4)=x.f.stamp.toNat:=Ch 4 _ (by show _<4294967296;omega);have o6:Ai (Bd x.f.node.toNat 2)=x.f.node.toNat:=Ch 2 _ (by show _<65536;omega);have o7:Ai (Bd (Z39 x.f.gone) 1)=Z39 x.f.gone:=Ch 1 _ (by unfold Z39;split<;>decide);rw[e];unfold Fp;rw[Bg _ _ (show (Bd 20 2++Bd 0 2).length=4 from rfl)];simp only[Option.bind_some,Oz,o1,o2,o3,o4];rw[Bg _ _ (Dv x.f.name)];simp only[Option.bind_some];rw[Bg _ _ (show (Bd 29297 2++Bd 7 2).length=4 from rfl)];simp only[Option.bind_some,Oz,o5,o6,o7];rw[Bg _ _ rfl];simp only[Option.bind_some,un,Zfq,Option.some.injEq,Prod.mk.injEq,and_true];have e1:((x.f.stamp.toNat:Nat):Int)=x.f.stamp:=Int.toNat_of_nonneg st0;have e2:((x.f.node.toNat:Nat):Int)=x.f.node:=Int.toNat_of_nonneg nd0;have e3:decide (Z39 x.f.gone=1)=x.f.gone:=by cases x.f.gone<;>rfl
 rw[e1,e2,e3]
theorem Uh:∀(l:List En) {F:Nat} {t:List Nat},(∀x∈l,EOk x)->l.length<F->(∃m q,Dw 4 t=some (m,q)/\Ai m≠67324752)->Ce F (Bh l++t)=some l
 | [],0,t,_,h,_=>by cases h
 | [],F+1,t,_,_,⟨m,q,h1,h2⟩=>by
  unfold Ce;show (Dw 4 t).bind _=_
  rw[h1,Option.bind_some];dsimp only;rw[if_neg h2]
 |x::l,0,t,_,h,_=>by cases h
 |x::l,F+1,t,h,hF,ht=>by
  unfold Ce
  have e:Bh (x::l)++t=Bd 67324752 4++(Zx x++n8 x.f.name++Z0s x++x.pk++(Bh l++t)):=by
   simp only[Bh,Z1t,List.append_assoc]
  have hm:Ai (Bd 67324752 4)=67324752:=Ch 4 _ (by decide);rw[e,Oz,Option.bind_some];dsimp only;rw[if_pos hm,Zgv x (h x (by simp)),Option.bind_some];dsimp only;rw[Uh l (fun y hy=>h y (List.mem_cons_of_mem _ hy)) (by simpa using hF) ht];rfl
theorem Zcw (l:List En)(h:∀x∈l,EOk x)(t:List Nat){F:Nat}(hF:l.length<F):Ce F (Ca l++t)=some l:=by
 unfold Ca;rw[List.append_assoc,List.append_assoc];refine Uh l h hF ?_
 cases l with
 |nil=>
  refine⟨Bd 101010256 4,(Z8w 0 0 0).drop 4++t, ?_,by rw[Ch 4 _ (by decide)];decide⟩;exact Bg (Bd 101010256 4) ((Z8w 0 0 0).drop 4++t) rfl
 |cons x r=>
  refine⟨Bd 33639248 4,Bd 20 2++(Zx x++(Bd 0 10++(Bd 0 4++(n8 x.f.name++(Z0s x++(Bj (0+(Z1t x).length) r++(Z8w (x::r).length (Bj 0 (x::r)).length (Bh (x::r)).length++t))))))), ?_,by rw[Ch 4 _ (by decide)];decide⟩;rw[<-Oz];simp only[Bj,Zf4,List.append_assoc]
theorem Z8u (l:List En):l.length+22<=(Ca l).length:=by
 have:∀l:List En,l.length<=(Bh l).length:=by
  intro l
  induction l with
  |nil=>exact Nat.zero_le _
  |cons x r ih=>rw[Bh,List.length_append,Pa,List.length_cons];omega
 have h:=this l;unfold Ca;rw[List.length_append,List.length_append,Z5w];omega
theorem Zh5 (l:List En):l.length<(Ca l).length+1:=by
 have:=Z8u l
 omega
def Mq (l:List En):Bool:=l.all fun x=>decide (x.crc=crcN 0 (n8 x.f.bytes))
def Fc (b:List Nat):Nat:=
 if 12000<b.length then 2
 else match Ce (b.length+1) b with
  |none=>7
  |some l=>if Ej (l.map En.f)≠0\/Ca l≠b then 7 else if Mq l=false then 10 else 0
def Dp (b:List Nat):List Fl:=if Fc b≠0 then []else ((Ce (b.length+1) b).getD []).map En.f
theorem Ze {b:List Nat}(h:Fc b=0):∃l,Ce (b.length+1) b=some l/\Ej (l.map En.f)=0/\Ca l=b/\Mq l=true/\Dp b=l.map En.f/\b.length<=12000:=by
 have hL:Dp b=((Ce (b.length+1) b).getD []).map En.f:=by unfold Dp;rw[if_neg (by rw[h];decide)]
 unfold Fc at h
 split at h
 . cases h
 . rename_i hb
   cases he:Ce (b.length+1) b with
   |none=>rw[he]at h;cases h
   |some l=>
    rw[he]at h hL;dsimp only at h
    split at h
    . cases h
    . rename_i hc
      split at h
      . cases h
      . rename_i hs
        refine⟨l,rfl, ?_, ?_, ?_,hL,by omega⟩
        . by_cases e:Ej (l.map En.f)=0
          . exact e
          . exact absurd (.inl e) hc
        . by_cases e:Ca l=b
          . exact e
          . exact absurd (.inr e) hc
        . cases e:Mq l
          . exact absurd e hs
          . rfl
theorem Zf (l:List En)(h:∀x∈l,EOk x)(hc:Ej (l.map En.f)=0)(hs:Mq l=true)(hn:(Ca l).length<=12000):Fc (Ca l)=0/\Dp (Ca l)=l.map En.f:=by
 have he:Ce ((Ca l).length+1) (Ca l)=some l:=by
  have:=Zcw l h [] (Zh5 l)
  rwa [List.append_nil]at this
 have h0:Fc (Ca l)=0:=by
  unfold Fc;rw[if_neg (by omega),he];dsimp only;rw[if_neg (by intro hh;rcases hh with hh|hh;exact hh hc;exact hh rfl),if_neg (by rw[hs];decide)]
 refine⟨h0, ?_⟩;unfold Dp;rw[if_neg (by rw[h0];decide),he];rfl
end Go.Proofs.YtcjbgpacnkilnagGreatDoor
