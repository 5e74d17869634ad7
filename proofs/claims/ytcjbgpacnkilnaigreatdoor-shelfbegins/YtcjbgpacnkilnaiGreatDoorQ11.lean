import Derived.Laws.BitsAllLaws
import Derived.Test.YtcjbgpacnkilnaiGreatDoorQ0
import Derived.Test.YtcjbgpacnkilnaiGreatDoorQ10
namespace Go.Proofs.YtcjbgpacnkilnaiGreatDoor
set_option linter.unusedVariables false
def lft (n:Nat):Nat:=if n%2=1 then (n/2)^^^3988292384 else n/2
def Ig:Nat->Nat->Nat
 |0,n=>n
 |k+1,n=>Ig k (lft n)
def Zhr (r x:Nat):Nat:=Ig 8 (r^^^x)
def Yz (r:Nat)(l:List Nat):Nat:=l.foldl Zhr r
def crcN (p:Nat)(l:List Nat):Nat:=Yz (p^^^4294967295) l^^^4294967295
theorem Uq (r:Nat):Yz r []=r:=rfl
theorem Kq (r x:Nat)(l:List Nat):Yz r (x::l)=Yz (Zhr r x) l:=rfl
theorem Z8z (k n:Nat):Ig (k+1) n=lft (Ig k n):=by
 induction k generalizing n with
 |zero=>rfl
 |succ k ih=>rw[Ig,ih,Ig]
theorem Zbn (a b:Nat):(a^^^b)%2=(a%2+b%2)%2:=by
 have h:=Nat.xor_mod_two_eq_one (a:=a) (b:=b);have h1:=Nat.mod_two_eq_zero_or_one (a^^^b);have h2:=Nat.mod_two_eq_zero_or_one a;have h3:=Nat.mod_two_eq_zero_or_one b
 rcases h1 with h1|h1<;>rcases h2 with h2|h2<;>rcases h3 with h3|h3<;>simp_all
theorem Zbo (a b:Nat):(a^^^b)/2=a/2^^^b/2:=by
 have:=Nat.shiftRight_xor_distrib (a:=a) (b:=b) (i:=1)
 simpa[Nat.shiftRight_eq_div_pow]using this
theorem Zgk (a b:Nat):lft (a^^^b)=lft a^^^lft b:=by
 unfold lft;have h2:=Nat.mod_two_eq_zero_or_one a;have h3:=Nat.mod_two_eq_zero_or_one b;rw[Zbn,Zbo];generalize a/2=A;generalize b/2=B
 rcases h2 with h2|h2<;>rcases h3 with h3|h3<;>simp only[h2,h3]
 . simp
 . simp[Nat.xor_assoc]
 . rw[if_pos (by decide),if_pos trivial,if_neg (by decide),Nat.xor_assoc,Nat.xor_assoc,Nat.xor_comm B]
 . rw[if_neg (by decide),if_pos trivial,if_pos trivial,Nat.xor_assoc,Nat.xor_comm B,<-Nat.xor_assoc 3988292384,Nat.xor_self,Nat.zero_xor]
theorem Z2z:∀(k a b:Nat),Ig k (a^^^b)=Ig k a^^^Ig k b
 |0,_,_=>rfl
 |k+1,a,b=>by rw[Ig,Zgk,Z2z k];rfl
theorem Zgl (y:Nat):lft (2*y)=y:=by
 unfold lft;rw[if_neg (by omega)];omega
theorem Zdb (k y:Nat):Ig k (2^k*y)=y:=by
 induction k with
 |zero=>simp[Ig]
 |succ k ih=>
  rw[Ig,show 2^(k+1)*y=2*(2^k*y) by rw[Nat.pow_succ,Nat.mul_comm (2^k) 2,Nat.mul_assoc],Zgl,ih]
theorem Ziu {n:Nat}(h:n<4294967296):lft n<4294967296:=by
 unfold lft
 by_cases e:n%2=1
 . rw[if_pos e];exact Nat.xor_lt_two_pow (n:=32) (by omega) (by decide)
 . rw[if_neg e];omega
theorem Tx:∀(k:Nat) {n:Nat},n<4294967296->Ig k n<4294967296
 |0,_,h=>h
 |k+1,_,h=>Tx k (Ziu h)
theorem Zjo (k n:Nat):n=n%2^k^^^2^k*(n/2^k):=by
 apply Nat.eq_of_testBit_eq
 intro i;rw[Nat.testBit_xor,Nat.testBit_mod_two_pow,Nat.testBit_two_pow_mul,Nat.testBit_div_two_pow]
 by_cases h:i<k
 . simp[h,show ¬(k<=i) by omega]
 . simp[h,show k<=i by omega,show i-k+k=i by omega]
theorem Z4u (n:Nat):Ig 8 n=Ig 8 (n%256)^^^n/256:=by
 have h:=Zjo 8 n
 conv=>lhs;rw[h]
 rw[Z2z,Zdb]
theorem Pq:∀(a b:List Nat) (r:Nat),Yz r (a++b)=Yz (Yz r a) b
 | [],_,_=>by rw[Uq,List.nil_append]
 |x::a,b,r=>by rw[List.cons_append,Kq,Pq a,Kq]
theorem Ur:∀(l:List Nat) (r:Nat),(∀x∈l,x<256)->r<4294967296->Yz r l<4294967296
 | [],r,_,h=>by rw[Uq];exact h
 |x::l,r,hl,h=>by
  rw[Kq];have hx:=hl x (by simp);exact Ur l _ (fun y hy=>hl y (by simp[hy])) (Tx 8 (Nat.xor_lt_two_pow (n:=32) h (by omega)))
theorem Z2s {n:Nat}(h:n<4294967296):n^^^4294967295<4294967296:=Nat.xor_lt_two_pow (n:=32) h (by decide)
theorem Z1d {l:List Nat}{p:Nat}(hl:∀x∈l,x<256)(h:p<4294967296):crcN p l<4294967296:=Z2s (Ur l _ hl (Z2s h))
theorem Zae (l:List Nat)(r x:Nat):Yz r (l++ [x])=Zhr (Yz r l) x:=by rw[Pq,Kq,Uq]
def n8 (l:List UInt8):List Nat:=l.map UInt8.toNat
def o8 (l:List Nat):List UInt8:=l.map UInt8.ofNat
theorem Fm (l:List UInt8):(n8 l).length=l.length:=by simp[n8]
theorem Jw (l:List Nat):(o8 l).length=l.length:=by simp[o8]
theorem Ly (l:List UInt8):∀x∈n8 l,x<256:=by
 intro x hx;obtain⟨y,_,rfl⟩:=List.mem_map.1 hx;exact y.toNat_lt
theorem Zcx (l:List UInt8):o8 (n8 l)=l:=by simp[o8,n8,Function.comp_def]
theorem Zjn {l:List Nat}(h:∀x∈l,x<256):n8 (o8 l)=l:=by
 unfold n8 o8;rw[List.map_map]
 conv=>rhs;rw[<-List.map_id l]
 apply List.map_congr_left
 intro x hx;have:=h x hx
 simp
 omega
theorem Dm {l:List Nat}(h:∀x∈l,x<256)(j:Nat):l.getD j 0<256:=by
 by_cases hk:j<l.length
 . have e:l.getD j 0=l[j]:=by simp[List.getD,hk]
   rw[e];exact h _ (List.getElem_mem hk)
 . simp[List.getD,hk]
theorem Z3c {l:List Nat}(h:∀j,l.getD j 0<256):∀x∈l,x<256:=by
 intro x hx;obtain⟨j,hj,rfl⟩:=List.getElem_of_mem hx;have:=h j
 simpa[List.getD,hj]using this
structure En where
 f:Fl
 meth:Nat
 pk:List Nat
 crc:Nat
def Z14 (b:Bool):Nat:=if b then 1 else 0
def Xk (x:En):List Nat:=Az 20 2++Az 0 2++Az x.meth 2++Az 0 4++Az x.crc 4++Az x.pk.length 4++Az x.f.bytes.length 4++Az x.f.name.length 2++Az 11 2
def Yp (x:En):List Nat:=Az 29297 2++Az 7 2++Az x.f.stamp.toNat 4++Az x.f.node.toNat 2++Az (Z14 x.f.gone) 1
def Zv (x:En):List Nat:=Az 67324752 4++Xk x++n8 x.f.name++Yp x++x.pk
def Zce (x:En)(p:Nat):List Nat:=Az 33639248 4++Az 20 2++Xk x++Az 0 10++Az p 4++n8 x.f.name++Yp x
def Bd:List En->List Nat
 | []=> []
 |x::r=>Zv x++Bd r
def Bf:Nat->List En->List Nat
 |_,[]=> []
 |p,x::r=>Zce x p++Bf (p+(Zv x).length) r
def Z6k (n size at_:Nat):List Nat:=Az 101010256 4++Az 0 4++Az n 2++Az n 2++Az size 4++Az at_ 4++Az 0 2
def Bt (l:List En):List Nat:=Bd l++Bf 0 l++Z6k l.length (Bf 0 l).length (Bd l).length
theorem Mw (x:En):(Xk x).length=26:=by simp[Xk,Aj]
theorem Nf (x:En):(Yp x).length=11:=by simp[Yp,Aj]
theorem Nc (x:En):(Zv x).length=41+x.f.name.length+x.pk.length:=by simp[Zv,Aj,Mw,Nf,Fm];omega
theorem Tg (x:En)(p:Nat):(Zce x p).length=57+x.f.name.length:=by simp[Zce,Aj,Mw,Nf,Fm];omega
theorem Z3l (n s a:Nat):(Z6k n s a).length=22:=by simp[Z6k,Aj]
theorem Z3a:∀(a b:List En),Bd (a++b)=Bd a++Bd b
 | [],b=>rfl
 |x::a,b=>by rw[List.cons_append,Bd,Z3a a b,Bd,List.append_assoc]
theorem Vy:∀(a b:List En) (p:Nat),Bf p (a++b)=Bf p a++Bf (p+(Bd a).length) b
 | [],b,p=>by simp[Bf,Bd]
 |x::a,b,p=>by rw[List.cons_append,Bf,Vy a b,Bf,Bd,List.append_assoc,List.length_append,Nat.add_assoc]
theorem Cq {a b:List Nat}(ha:∀x∈a,x<256)(hb:∀x∈b,x<256):∀x∈a++b,x<256:=by
 intro x hx
 rcases List.mem_append.1 hx with h|h
 . exact ha x h
 . exact hb x h
theorem Z2x (x:En):∀y∈Xk x,y<256:=by
 unfold Xk
 repeat first|apply Ds|apply Cq
theorem Z3f (x:En):∀y∈Yp x,y<256:=by
 unfold Yp
 repeat first|apply Ds|apply Cq
theorem Zdp (x:En)(h:∀y∈x.pk,y<256):∀y∈Zv x,y<256:=by
 unfold Zv;exact Cq (Cq (Cq (Cq (Ds _ _) (Z2x x)) (Ly _)) (Z3f x)) h
theorem Zcd (x:En)(p:Nat):∀y∈Zce x p,y<256:=by
 unfold Zce;exact Cq (Cq (Cq (Cq (Cq (Cq (Ds _ _) (Ds _ _)) (Z2x x)) (Ds _ _)) (Ds _ _)) (Ly _)) (Z3f x)
theorem Z39:∀(l:List En),(∀x∈l,∀y∈x.pk,y<256)->∀y∈Bd l,y<256
 | [],_=>fun y hy=>by cases hy
 |x::r,h=>Cq (Zdp x (h x (by simp))) (Z39 r (fun z hz=>h z (List.mem_cons_of_mem _ hz)))
theorem Vx:∀(l:List En) (p:Nat),∀y∈Bf p l,y<256
 | [],_=>fun y hy=>by cases hy
 |x::r,p=>Cq (Zcd x p) (Vx r _)
theorem Ze2 (n s a:Nat):∀y∈Z6k n s a,y<256:=by
 unfold Z6k
 repeat first|apply Ds|apply Cq
theorem Vb (l:List En)(h:∀x∈l,∀y∈x.pk,y<256):∀y∈Bt l,y<256:=Cq (Cq (Z39 l h) (Vx l 0)) (Ze2 _ _ _)
def Dg (k:Nat)(r:List Nat):Option (List Nat×List Nat):=if r.length<k then none else some (r.take k,r.drop k)
theorem Bc (a r:List Nat){k:Nat}(h:a.length=k):Dg k (a++r)=some (a,r):=by
 unfold Dg;rw[if_neg (by rw[List.length_append];omega),List.take_left' h,List.drop_left' h]
theorem Nb (n k:Nat)(r:List Nat):Dg k (Az n k++r)=some (Az n k,r):=Bc _ _ (Aj k n)
theorem Yf {k:Nat}{r a q:List Nat}(h:Dg k r=some (a,q)):r=a++q/\a.length=k:=by
 unfold Dg at h
 split at h
 . cases h
 . rename_i hk
   simp only[Option.some.injEq,Prod.mk.injEq]at h;obtain⟨rfl,rfl⟩:=h;exact⟨(List.take_append_drop _ _).symm,by rw[List.length_take];omega⟩
theorem Al {β:Type}{k:Nat}{r:List Nat}{f:List Nat×List Nat->Option β}{y:β}(h:(Dg k r).bind f=some y):
 ∃a q,r=a++q/\a.length=k/\f (a,q)=some y:=by
 cases hg:Dg k r with
 |none=>rw[hg]at h;cases h
 |some p=>rw[hg]at h;exact⟨p.1,p.2,(Yf hg).1,(Yf hg).2,h⟩
def unpF (m:Nat)(pk:List Nat):Option (List Nat):=
 if m=0 then some pk
 else if m=8 then (if pk.length<=6000/\(Dj (rowB pk pk.length)).e=0/\((Dj (rowB pk pk.length)).p+7)/8=pk.length then some (Dj (rowB pk pk.length)).out else none)
 else none
def Eo (r:List Nat):Option (En×List Nat):=
 (Dg 4 r).bind fun a1=>(Dg 2 a1.2).bind fun a2=>(Dg 4 a2.2).bind fun a3=>(Dg 4 a3.2).bind fun a4=>(Dg 4 a4.2).bind fun a5=>
 (Dg 4 a5.2).bind fun a6=>(Dg 2 a6.2).bind fun a7=>(Dg 2 a7.2).bind fun a8=>(Dg (Ah a7.1) a8.2).bind fun a9=>(Dg 4 a9.2).bind fun a10=>
 (Dg 4 a10.2).bind fun a11=>(Dg 2 a11.2).bind fun a12=>(Dg 1 a12.2).bind fun a13=>(Dg (Ah a5.1) a13.2).bind fun a14=>
 (unpF (Ah a2.1) a14.1).bind fun b=>some (⟨⟨o8 a9.1,o8 b,(Ah a11.1:Nat),(Ah a12.1:Nat),decide (Ah a13.1=1)⟩,Ah a2.1,a14.1,Ah a4.1⟩,a14.2)
def Bw:Nat->List Nat->Option (List En)
 |0,_=>none
 |F+1,r=>(Dg 4 r).bind fun m=>if Ah m.1=67324752 then (Eo m.2).bind fun x=>(Bw F x.2).map (x.1:: ·)else some []
theorem Po {r:List Nat}{x:En}{q:List Nat}(h:Eo r=some (x,q)):
 q.length+37<=r.length/\((∀z∈r,z<256)->(∀z∈x.pk,z<256)/\∀z∈q,z<256)/\∀t,Eo (r++t)=some (x,q++t):=by
 unfold Eo at h;obtain⟨a1,r1,rfl,l1,h⟩:=Al h;dsimp only at h;obtain⟨a2,r2,rfl,l2,h⟩:=Al h;dsimp only at h;obtain⟨a3,r3,rfl,l3,h⟩:=Al h;dsimp only at h;obtain⟨a4,r4,rfl,l4,h⟩:=Al h;dsimp only at h;obtain⟨a5,r5,rfl,l5,h⟩:=Al h;dsimp only at h;obtain⟨a6,r6,rfl,l6,h⟩:=Al h;dsimp only at h;obtain⟨a7,r7,rfl,l7,h⟩:=Al h;dsimp only at h;obtain⟨a8,r8,rfl,l8,h⟩:=Al h;dsimp only at h;obtain⟨a9,r9,rfl,l9,h⟩:=Al h;dsimp only at h;obtain⟨a10,r10,rfl,l10,h⟩:=Al h;dsimp only at h;obtain⟨a11,r11,rfl,l11,h⟩:=Al h;dsimp only at h;obtain⟨a12,r12,rfl,l12,h⟩:=Al h;dsimp only at h;obtain⟨a13,r13,rfl,l13,h⟩:=Al h;dsimp only at h;obtain⟨a14,r14,rfl,l14,h⟩:=Al h;dsimp only at h
 cases hu:unpF (Ah a2) a14 with
 |none=>rw[hu]at h;cases h
 |some b=>
  rw[hu]at h;simp only[Option.bind_some,Option.some.injEq,Prod.mk.injEq]at h;obtain⟨rfl,rfl⟩:=h;refine⟨?_,fun hv=>⟨fun z hz=>hv z (by simp[hz]),fun z hz=>hv z (by simp[hz])⟩,fun t=> ?_⟩
  . simp only[List.length_append];omega
  . unfold Eo;simp only[List.append_assoc];rw[Bc _ _ l1,Option.bind_some];dsimp only;rw[Bc _ _ l2,Option.bind_some];dsimp only;rw[Bc _ _ l3,Option.bind_some];dsimp only;rw[Bc _ _ l4,Option.bind_some];dsimp only;rw[Bc _ _ l5,Option.bind_some];dsimp only;rw[Bc _ _ l6,Option.bind_some];dsimp only;rw[Bc _ _ l7,Option.bind_some];dsimp only;rw[Bc _ _ l8,Option.bind_some];dsimp only;rw[Bc _ _ l9,Option.bind_some];dsimp only;rw[Bc _ _ l10,Option.bind_some];dsimp only;rw[Bc _ _ l11,Option.bind_some];dsimp only;rw[Bc _ _ l12,Option.bind_some];dsimp only;rw[Bc _ _ l13,Option.bind_some];dsimp only;rw[Bc _ _ l14,Option.bind_some];dsimp only;rw[hu];rfl
theorem Z5q:∀ {F:Nat} {r:List Nat} {l:List En},Bw F r=some l->∀t,Bw F (r++t)=some l
 |0,r,l,h,t=>by cases h
 |F+1,r,l,h,t=>by
  unfold Bw at h ⊢;obtain⟨m,q,rfl,hl,h⟩:=Al h;dsimp only at h;rw[List.append_assoc,Bc _ _ hl,Option.bind_some];dsimp only
  split at h
  . rename_i hm
    rw[if_pos hm]
    cases he:Eo q with
    |none=>rw[he]at h;cases h
    |some p=>
     rw[he]at h;rw[(Po (x:=p.1) (q:=p.2) he).2.2 t,Option.bind_some];simp only[Option.bind_some,Option.map_eq_some_iff]at h ⊢;obtain⟨l2,h1,h2⟩:=h;exact⟨l2,Z5q h1 t,h2⟩
  . rename_i hm
    rw[if_neg hm];exact h
theorem Yt:∀ {F:Nat} {r:List Nat} {l:List En},Bw F r=some l->(∀z∈r,z<256)->∀x∈l,∀z∈x.pk,z<256
 |0,r,l,h,_=>by cases h
 |F+1,r,l,h,hv=>by
  unfold Bw at h;obtain⟨m,q,rfl,hl,h⟩:=Al h;dsimp only at h
  split at h
  . cases he:Eo q with
    |none=>rw[he]at h;cases h
    |some p=>
     rw[he]at h;simp only[Option.bind_some,Option.map_eq_some_iff]at h;obtain⟨l2,h1,rfl⟩:=h;have h2:=(Po (x:=p.1) (q:=p.2) he).2.1 (fun z hz=>hv z (by simp[hz]));intro x hx
     rcases List.mem_cons.1 hx with rfl|hx
     . exact h2.1
     . exact Yt h1 h2.2 x hx
  . cases h
    intro x hx
    cases hx
structure EOk (x:En):Prop where
 st:0<=x.f.stamp/\x.f.stamp<4294967296
 nd:0<=x.f.node/\x.f.node<65536
 nm:x.f.name.length<65536
 pl:x.pk.length<4294967296
 cr:x.crc<4294967296
 mt:x.meth<65536
 un:unpF x.meth x.pk=some (n8 x.f.bytes)
theorem Ze1 (x:En)(h:EOk x)(t:List Nat):Eo (Xk x++n8 x.f.name++Yp x++x.pk++t)=some (x,t):=by
 have e:Xk x++n8 x.f.name++Yp x++x.pk++t=(Az 20 2++Az 0 2)++(Az x.meth 2++(Az 0 4++(Az x.crc 4++(Az x.pk.length 4++(Az x.f.bytes.length 4++(Az x.f.name.length 2++(Az 11 2++(n8 x.f.name++((Az 29297 2++Az 7 2)++(Az x.f.stamp.toNat 4++(Az x.f.node.toNat 2++(Az (Z14 x.f.gone) 1++(x.pk++t))))))))))))):=by
  simp only[Xk,Yp,List.append_assoc]
 obtain⟨⟨st0,st1⟩,⟨nd0,nd1⟩,nm,pl,cr,mt,un⟩:=h;have o1:Ah (Az x.meth 2)=x.meth:=Bz 2 _ mt;have o2:Ah (Az x.crc 4)=x.crc:=Bz 4 _ cr;have o3:Ah (Az x.pk.length 4)=x.pk.length:=Bz 4 _ pl;have o4:Ah (Az x.f.name.length 2)=x.f.name.length:=Bz 2 _ nm;have o5:Ah (Az x.f.stamp.toNat 4)=x.f.stamp.toNat:=Bz 4 _ (by show _<4294967296;omega);have o6:Ah (Az x.f.node.toNat 2)=x.f.node.toNat:=Bz 2 _ (by show _<65536;omega);have o7:Ah (Az (Z14 x.f.gone) 1)=Z14 x.f.gone:=Bz 1 _ (by unfold Z14;split<;>decide);rw[e];unfold Eo;rw[Bc _ _ (show (Az 20 2++Az 0 2).length=4 from rfl)];simp only[Option.bind_some,Nb,o1,o2,o3,o4];rw[Bc _ _ (Fm x.f.name)];simp only[Option.bind_some];rw[Bc _ _ (show (Az 29297 2++Az 7 2).length=4 from rfl)];simp only[Option.bind_some,Nb,o5,o6,o7];rw[Bc _ _ rfl];simp only[Option.bind_some,un,Zcx,Option.some.injEq,Prod.mk.injEq,and_true];have e1:((x.f.stamp.toNat:Nat):Int)=x.f.stamp:=Int.toNat_of_nonneg st0;have e2:((x.f.node.toNat:Nat):Int)=x.f.node:=Int.toNat_of_nonneg nd0;have e3:decide (Z14 x.f.gone=1)=x.f.gone:=by cases x.f.gone<;>rfl
 rw[e1,e2,e3]
theorem Sj:∀(l:List En) {F:Nat} {t:List Nat},(∀x∈l,EOk x)->l.length<F->(∃m q,Dg 4 t=some (m,q)/\Ah m≠67324752)->Bw F (Bd l++t)=some l
 | [],0,t,_,h,_=>by cases h
 | [],F+1,t,_,_,⟨m,q,h1,h2⟩=>by
  unfold Bw;show (Dg 4 t).bind _=_
  rw[h1,Option.bind_some];dsimp only;rw[if_neg h2]
 |x::l,0,t,_,h,_=>by cases h
 |x::l,F+1,t,h,hF,ht=>by
  unfold Bw
  have e:Bd (x::l)++t=Az 67324752 4++(Xk x++n8 x.f.name++Yp x++x.pk++(Bd l++t)):=by
   simp only[Bd,Zv,List.append_assoc]
  have hm:Ah (Az 67324752 4)=67324752:=Bz 4 _ (by decide);rw[e,Nb,Option.bind_some];dsimp only;rw[if_pos hm,Ze1 x (h x (by simp)),Option.bind_some];dsimp only;rw[Sj l (fun y hy=>h y (List.mem_cons_of_mem _ hy)) (by simpa using hF) ht];rfl
theorem Za5 (l:List En)(h:∀x∈l,EOk x)(t:List Nat){F:Nat}(hF:l.length<F):Bw F (Bt l++t)=some l:=by
 unfold Bt;rw[List.append_assoc,List.append_assoc];refine Sj l h hF ?_
 cases l with
 |nil=>
  refine⟨Az 101010256 4,(Z6k 0 0 0).drop 4++t, ?_,by rw[Bz 4 _ (by decide)];decide⟩;exact Bc (Az 101010256 4) ((Z6k 0 0 0).drop 4++t) rfl
 |cons x r=>
  refine⟨Az 33639248 4,Az 20 2++(Xk x++(Az 0 10++(Az 0 4++(n8 x.f.name++(Yp x++(Bf (0+(Zv x).length) r++(Z6k (x::r).length (Bf 0 (x::r)).length (Bd (x::r)).length++t))))))), ?_,by rw[Bz 4 _ (by decide)];decide⟩;rw[<-Nb];simp only[Bf,Zce,List.append_assoc]
theorem Z6i (l:List En):l.length+22<=(Bt l).length:=by
 have:∀l:List En,l.length<=(Bd l).length:=by
  intro l
  induction l with
  |nil=>exact Nat.zero_le _
  |cons x r ih=>rw[Bd,List.length_append,Nc,List.length_cons];omega
 have h:=this l;unfold Bt;rw[List.length_append,List.length_append,Z3l];omega
theorem Zea (l:List En):l.length<(Bt l).length+1:=by
 have:=Z6i l
 omega
def Lc (l:List En):Bool:=l.all fun x=>decide (x.crc=crcN 0 (n8 x.f.bytes))
def Ee (b:List Nat):Nat:=
 if 12000<b.length then 2
 else match Bw (b.length+1) b with
  |none=>7
  |some l=>if Em (l.map En.f)≠0\/Bt l≠b then 7 else if Lc l=false then 10 else 0
def Da (b:List Nat):List Fl:=if Ee b≠0 then []else ((Bw (b.length+1) b).getD []).map En.f
theorem Wt {b:List Nat}(h:Ee b=0):∃l,Bw (b.length+1) b=some l/\Em (l.map En.f)=0/\Bt l=b/\Lc l=true/\Da b=l.map En.f/\b.length<=12000:=by
 have hL:Da b=((Bw (b.length+1) b).getD []).map En.f:=by unfold Da;rw[if_neg (by rw[h];decide)]
 unfold Ee at h
 split at h
 . cases h
 . rename_i hb
   cases he:Bw (b.length+1) b with
   |none=>rw[he]at h;cases h
   |some l=>
    rw[he]at h hL;dsimp only at h
    split at h
    . cases h
    . rename_i hc
      split at h
      . cases h
      . rename_i hs
        refine⟨l,rfl, ?_, ?_, ?_,hL,by omega⟩
        . by_cases e:Em (l.map En.f)=0
          . exact e
          . exact absurd (.inl e) hc
        . by_cases e:Bt l=b
          . exact e
          . exact absurd (.inr e) hc
        . cases e:Lc l
          . exact absurd e hs
          . rfl
theorem Wu (l:List En)(h:∀x∈l,EOk x)(hc:Em (l.map En.f)=0)(hs:Lc l=true)(hn:(Bt l).length<=12000):Ee (Bt l)=0/\Da (Bt l)=l.map En.f:=by
 have he:Bw ((Bt l).length+1) (Bt l)=some l:=by
  have:=Za5 l h [] (Zea l)
  rwa [List.append_nil]at this
 have h0:Ee (Bt l)=0:=by
  unfold Ee;rw[if_neg (by omega),he];dsimp only;rw[if_neg (by intro hh;rcases hh with hh|hh;exact hh hc;exact hh rfl),if_neg (by rw[hs];decide)]
 refine⟨h0, ?_⟩;unfold Da;rw[if_neg (by rw[h0];decide),he];rfl
end Go.Proofs.YtcjbgpacnkilnaiGreatDoor
