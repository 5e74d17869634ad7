import Derived.Laws.BitsAllLaws
import Derived.Test.YtleocpdblhbimaaGreatDoorQ3
set_option linter.unusedSimpArgs false
namespace Go.Proofs.YtleocpdblhbimaaGreatDoor
set_option linter.unusedVariables false
def lft (n:Nat):Nat:=if n%2=1 then (n/2)^^^3988292384 else n/2
def Hz:Nat->Nat->Nat
 |0,n=>n
 |k+1,n=>Hz k (lft n)
def RX (r x:Nat):Nat:=Hz 8 (r^^^x)
def Sa (r:Nat)(l:List Nat):Nat:=l.foldl RX r
def crcN (p:Nat)(l:List Nat):Nat:=Sa (p^^^4294967295) l^^^4294967295
theorem Wx (r:Nat):Sa r []=r:=rfl
theorem Mh (r x:Nat)(l:List Nat):Sa r (x::l)=Sa (RX r x) l:=rfl
theorem Zy (k n:Nat):Hz (k+1) n=lft (Hz k n):=by
 induction k generalizing n with
 |zero=>rfl
 |succ k ih=>rw[Hz,ih,Hz]
theorem T3 (a b:Nat):(a^^^b)%2=(a%2+b%2)%2:=by
 have h:=Nat.xor_mod_two_eq_one (a:=a) (b:=b);have h1:=XD (a^^^b);have h2:=XD a;have h3:=XD b
 rcases h1 with h1|h1<;>rcases h2 with h2|h2<;>rcases h3 with h3|h3<;>simp_all
theorem T4 (a b:Nat):(a^^^b)/2=a/2^^^b/2:=by
 have:=Nat.shiftRight_xor_distrib (a:=a) (b:=b) (i:=1)
 simpa[Nat.shiftRight_eq_div_pow]using this
theorem Z1r (a b:Nat):lft (a^^^b)=lft a^^^lft b:=by
 unfold lft;have h2:=XD a;have h3:=XD b;rw[T3,T4];generalize a/2=A;generalize b/2=B
 rcases h2 with h2|h2<;>rcases h3 with h3|h3<;>simp only[h2,h3]
 . simp
 . simp[ZO]
 . rw[if_pos (by decide),if_pos trivial,if_neg (by decide),ZO,ZO,Nat.xor_comm B]
 . rw[if_neg (by decide),if_pos trivial,if_pos trivial,ZO,Nat.xor_comm B,<-ZO 3988292384,Nat.xor_self,Nat.zero_xor]
theorem Wj:∀(k a b:Nat),Hz k (a^^^b)=Hz k a^^^Hz k b
 |0,_,_=>rfl
 |k+1,a,b=>by rw[Hz,Z1r,Wj k];rfl
theorem Z1s (y:Nat):lft (2*y)=y:=by
 unfold lft;rw[if_neg (by omega)];omega
theorem Z4 (k y:Nat):Hz k (2^k*y)=y:=by
 induction k with
 |zero=>simp[Hz]
 |succ k ih=>
  rw[Hz,show 2^(k+1)*y=2*(2^k*y) by rw[XE,YC (2^k) 2,XS],Z1s,ih]
theorem Z3t {n:Nat}(h:n<4294967296):lft n<4294967296:=by
 unfold lft
 by_cases e:n%2=1
 . rw[if_pos e];exact Nat.xor_lt_two_pow (n:=32) (by omega) (by decide)
 . rw[if_neg e];omega
theorem Qz:∀(k:Nat) {n:Nat},n<4294967296->Hz k n<4294967296
 |0,_,h=>h
 |k+1,_,h=>Qz k (Z3t h)
theorem Z3p (k n:Nat):n=n%2^k^^^2^k*(n/2^k):=by
 apply Nat.eq_of_testBit_eq
 intro i;rw[Nat.testBit_xor,Nat.testBit_mod_two_pow,Nat.testBit_two_pow_mul,Nat.testBit_div_two_pow]
 by_cases h:i<k
 . simp[h,show ¬(k<=i) by omega]
 . simp[h,show k<=i by omega,show i-k+k=i by omega]
theorem Z2v {k x:Nat}(y:Nat)(hx:x<2^k):x+2^k*y=x^^^2^k*y:=by
 have h:=Z3p k (x+2^k*y);rw[Nat.add_mul_mod_self_left,ZH hx,Nat.add_mul_div_left _ _ (YN k),Nat.div_eq_of_lt hx,WI]at h;exact h
theorem DA (n:Nat):Hz 8 n=Hz 8 (n%256)^^^n/256:=by
 have h:=Z3p 8 n
 conv=>lhs;rw[h]
 rw[Wj,Z4]
theorem Rz:∀(a b:List Nat) (r:Nat),Sa r (a++b)=Sa (Sa r a) b
 | [],_,_=>by rw[Wx,List.nil_append]
 |x::a,b,r=>by rw[XH,Mh,Rz a,Mh]
theorem Ry:∀(l:List Nat) (r:Nat),(∀x∈l,x<256)->r<4294967296->Sa r l<4294967296
 | [],r,_,h=>by rw[Wx];exact h
 |x::l,r,hl,h=>by
  rw[Mh];have hx:=hl x (by simp);exact Ry l _ (fun y hy=>hl y (by simp[hy])) (Qz 8 (Nat.xor_lt_two_pow (n:=32) h (by omega)))
theorem Zs {n:Nat}(h:n<4294967296):n^^^4294967295<4294967296:=Nat.xor_lt_two_pow (n:=32) h (by decide)
theorem Z2d {l:List Nat}{p:Nat}(hl:∀x∈l,x<256)(h:p<4294967296):crcN p l<4294967296:=Zs (Ry l _ hl (Zs h))
theorem JX (c x k:Nat):Hz (k+1) (c^^^x%2^(k+1))=lft (Hz k (c^^^x%2^k)^^^x/2^k%2):=by
 have h1:x%2^(k+1)=x%2^k^^^2^k*(x/2^k%2):=by
  rw[Nat.mod_pow_succ];exact Z2v _ (Nat.mod_lt _ (YN k))
 rw[h1,<-ZO,Zy,Wj,Z4]
theorem JY (c b:Nat)(hb:b<2):lft (c^^^b)=if (c%2^^^b)=1 then (c/2)^^^3988292384 else c/2:=by
 unfold lft;rw[T3,T4];have:b/2=0:=by omega
 rw[this,Nat.xor_zero];have h2:=XD c;have h3:b=0\/b=1:=by omega
 rcases h2 with h2|h2<;>rcases h3 with h3|h3<;>simp[h2,h3]
theorem E7 (l:List Nat)(r x:Nat):Sa r (l++ [x])=RX (Sa r l) x:=by rw[Rz,Mh,Wx]
def n8 (l:List UInt8):List Nat:=l.map UInt8.toNat
def o8 (l:List Nat):List UInt8:=l.map UInt8.ofNat
theorem Cd (l:List UInt8):(n8 l).length=l.length:=by simp[n8]
theorem Fr (l:List Nat):(o8 l).length=l.length:=by simp[o8]
theorem Ir (l:List UInt8):∀x∈n8 l,x<256:=by
 intro x hx;obtain⟨y,_,rfl⟩:=XC.1 hx;exact y.toNat_lt
theorem CW (l:List UInt8):o8 (n8 l)=l:=by simp[o8,n8,YZ]
theorem Z3l {l:List Nat}(h:∀x∈l,x<256):n8 (o8 l)=l:=by
 unfold n8 o8;rw[ZL]
 conv=>rhs;rw[<-List.map_id l]
 apply YO
 intro x hx;have:=h x hx
 simp
 omega
theorem Cv {l:List Nat}(h:∀x∈l,x<256)(j:Nat):l.getD j 0<256:=by
 by_cases hk:j<l.length
 . have e:l.getD j 0=l[j]:=by simp[List.getD,hk]
   rw[e];exact h _ (WK hk)
 . simp[List.getD,hk]
theorem Wr {l:List Nat}(h:∀j,l.getD j 0<256):∀x∈l,x<256:=by
 intro x hx;obtain⟨j,hj,rfl⟩:=XF hx;have:=h j
 simpa[List.getD,hj]using this
structure En where
 f:Fl
 meth:Nat
 pk:List Nat
 crc:Nat
def Dp (b:Bool):Nat:=if b then 1 else 0
def Sv (x:En):List Nat:=Ag 20 2++Ag 0 2++Ag x.meth 2++Ag 0 4++Ag x.crc 4++Ag x.pk.length 4++Ag x.f.bytes.length 4++Ag x.f.name.length 2++Ag 11 2
def Jb (x:En):List Nat:=Ag 29297 2++Ag 7 2++Ag x.f.stamp.toNat 4++Ag x.f.node.toNat 2++Ag (Dp x.f.gone) 1
def Sy (x:En):List Nat:=Ag 67324752 4++Sv x++n8 x.f.name++Jb x++x.pk
def Qe (x:En)(p:Nat):List Nat:=Ag 33639248 4++Ag 20 2++Sv x++Ag 0 10++Ag p 4++n8 x.f.name++Jb x
def Ar:List En->List Nat
 | []=> []
 |x::r=>Sy x++Ar r
def Am:Nat->List En->List Nat
 |_,[]=> []
 |p,x::r=>Qe x p++Am (p+(Sy x).length) r
def Pm (n size at_:Nat):List Nat:=Ag 101010256 4++Ag 0 4++Ag n 2++Ag n 2++Ag size 4++Ag at_ 4++Ag 0 2
def Ba (l:List En):List Nat:=Ar l++Am 0 l++Pm l.length (Am 0 l).length (Ar l).length
theorem Lr (x:En):(Sv x).length=26:=by simp[Sv,Aj]
theorem Ht (x:En):(Jb x).length=11:=by simp[Jb,Aj]
theorem Gc (x:En):(Sy x).length=41+x.f.name.length+x.pk.length:=by simp[Sy,Aj,Lr,Ht,Cd];omega
theorem Jk (x:En)(p:Nat):(Qe x p).length=57+x.f.name.length:=by simp[Qe,Aj,Lr,Ht,Cd];omega
theorem Mg (n s a:Nat):(Pm n s a).length=22:=by simp[Pm,Aj]
theorem AJ:∀(a b:List En),Ar (a++b)=Ar a++Ar b
 | [],b=>rfl
 |x::a,b=>by rw[XH,Ar,AJ a b,Ar,VH]
theorem Yg:∀(a b:List En) (p:Nat),Am p (a++b)=Am p a++Am (p+(Ar a).length) b
 | [],b,p=>by simp[Am,Ar]
 |x::a,b,p=>by rw[XH,Am,Yg a b,Am,Ar,VH,VB,WH]
theorem Cu {a b:List Nat}(ha:∀x∈a,x<256)(hb:∀x∈b,x<256):∀x∈a++b,x<256:=by
 intro x hx
 rcases WJ.1 hx with h|h
 . exact ha x h
 . exact hb x h
theorem Z1 (x:En):∀y∈Sv x,y<256:=by
 unfold Sv
 repeat first|apply Fe|apply Cu
theorem AN (x:En):∀y∈Jb x,y<256:=by
 unfold Jb
 repeat first|apply Fe|apply Cu
theorem RJ (x:En)(h:∀y∈x.pk,y<256):∀y∈Sy x,y<256:=by
 unfold Sy;exact Cu (Cu (Cu (Cu (Fe _ _) (Z1 x)) (Ir _)) (AN x)) h
theorem PH (x:En)(p:Nat):∀y∈Qe x p,y<256:=by
 unfold Qe;exact Cu (Cu (Cu (Cu (Cu (Cu (Fe _ _) (Fe _ _)) (Z1 x)) (Fe _ _)) (Fe _ _)) (Ir _)) (AN x)
theorem AG:∀(l:List En),(∀x∈l,∀y∈x.pk,y<256)->∀y∈Ar l,y<256
 | [],_=>fun y hy=>by cases hy
 |x::r,h=>Cu (RJ x (h x (by simp))) (AG r (fun z hz=>h z (WM _ hz)))
theorem Ye:∀(l:List En) (p:Nat),∀y∈Am p l,y<256
 | [],_=>fun y hy=>by cases hy
 |x::r,p=>Cu (PH x p) (Ye r _)
theorem RV (n s a:Nat):∀y∈Pm n s a,y<256:=by
 unfold Pm
 repeat first|apply Fe|apply Cu
theorem Pp (l:List En)(h:∀x∈l,∀y∈x.pk,y<256):∀y∈Ba l,y<256:=Cu (Cu (AG l h) (Ye l 0)) (RV _ _ _)
def Dl (k:Nat)(r:List Nat):Option (List Nat×List Nat):=if r.length<k then none else some (r.take k,r.drop k)
theorem Bj (a r:List Nat){k:Nat}(h:a.length=k):Dl k (a++r)=some (a,r):=by
 unfold Dl;rw[if_neg (by rw[VB];omega),YP h,YQ h]
theorem Pi (n k:Nat)(r:List Nat):Dl k (Ag n k++r)=some (Ag n k,r):=Bj _ _ (Aj k n)
theorem C1 {k:Nat}{r a q:List Nat}(h:Dl k r=some (a,q)):r=a++q/\a.length=k:=by
 unfold Dl at h
 split at h
 . cases h
 . rename_i hk
   simp only[YK,YU]at h;obtain⟨rfl,rfl⟩:=h;exact⟨(YV _ _).symm,by rw[VM];omega⟩
theorem An {β:Type}{k:Nat}{r:List Nat}{f:List Nat×List Nat->Option β}{y:β}(h:(Dl k r).bind f=some y):
 ∃a q,r=a++q/\a.length=k/\f (a,q)=some y:=by
 cases hg:Dl k r with
 |none=>rw[hg]at h;cases h
 |some p=>rw[hg]at h;exact⟨p.1,p.2,(C1 hg).1,(C1 hg).2,h⟩
def unpF (m:Nat)(pk:List Nat):Option (List Nat):=
 if m=0 then some pk
 else if m=8 then (if pk.length<=6000/\(Db (rowB pk pk.length)).e=0/\((Db (rowB pk pk.length)).p+7)/8=pk.length then some (Db (rowB pk pk.length)).out else none)
 else none
def Fa (r:List Nat):Option (En×List Nat):=
 (Dl 4 r).bind fun a1=>(Dl 2 a1.2).bind fun a2=>(Dl 4 a2.2).bind fun a3=>(Dl 4 a3.2).bind fun a4=>(Dl 4 a4.2).bind fun a5=>
 (Dl 4 a5.2).bind fun a6=>(Dl 2 a6.2).bind fun a7=>(Dl 2 a7.2).bind fun a8=>(Dl (Al a7.1) a8.2).bind fun a9=>(Dl 4 a9.2).bind fun a10=>
 (Dl 4 a10.2).bind fun a11=>(Dl 2 a11.2).bind fun a12=>(Dl 1 a12.2).bind fun a13=>(Dl (Al a5.1) a13.2).bind fun a14=>
 (unpF (Al a2.1) a14.1).bind fun b=>some (⟨⟨o8 a9.1,o8 b,(Al a11.1:Nat),(Al a12.1:Nat),decide (Al a13.1=1)⟩,Al a2.1,a14.1,Al a4.1⟩,a14.2)
def Ca:Nat->List Nat->Option (List En)
 |0,_=>none
 |F+1,r=>(Dl 4 r).bind fun m=>if Al m.1=67324752 then (Fa m.2).bind fun x=>(Ca F x.2).map (x.1:: ·)else some []
theorem Rv {r:List Nat}{x:En}{q:List Nat}(h:Fa r=some (x,q)):
 q.length+37<=r.length/\((∀z∈r,z<256)->(∀z∈x.pk,z<256)/\∀z∈q,z<256)/\∀t,Fa (r++t)=some (x,q++t):=by
 unfold Fa at h;obtain⟨a1,r1,rfl,l1,h⟩:=An h;dsimp only at h;obtain⟨a2,r2,rfl,l2,h⟩:=An h;dsimp only at h;obtain⟨a3,r3,rfl,l3,h⟩:=An h;dsimp only at h;obtain⟨a4,r4,rfl,l4,h⟩:=An h;dsimp only at h;obtain⟨a5,r5,rfl,l5,h⟩:=An h;dsimp only at h;obtain⟨a6,r6,rfl,l6,h⟩:=An h;dsimp only at h;obtain⟨a7,r7,rfl,l7,h⟩:=An h;dsimp only at h;obtain⟨a8,r8,rfl,l8,h⟩:=An h;dsimp only at h;obtain⟨a9,r9,rfl,l9,h⟩:=An h;dsimp only at h;obtain⟨a10,r10,rfl,l10,h⟩:=An h;dsimp only at h;obtain⟨a11,r11,rfl,l11,h⟩:=An h;dsimp only at h;obtain⟨a12,r12,rfl,l12,h⟩:=An h;dsimp only at h;obtain⟨a13,r13,rfl,l13,h⟩:=An h;dsimp only at h;obtain⟨a14,r14,rfl,l14,h⟩:=An h;dsimp only at h
 cases hu:unpF (Al a2) a14 with
 |none=>rw[hu]at h;cases h
 |some b=>
  rw[hu]at h;simp only[VF,YK,YU]at h;obtain⟨rfl,rfl⟩:=h;refine⟨?_,fun hv=>⟨fun z hz=>hv z (by simp[hz]),fun z hz=>hv z (by simp[hz])⟩,fun t=> ?_⟩
  . simp only[VB];omega
  . unfold Fa;simp only[VH];rw[Bj _ _ l1,VF];dsimp only;rw[Bj _ _ l2,VF];dsimp only;rw[Bj _ _ l3,VF];dsimp only;rw[Bj _ _ l4,VF];dsimp only;rw[Bj _ _ l5,VF];dsimp only;rw[Bj _ _ l6,VF];dsimp only;rw[Bj _ _ l7,VF];dsimp only;rw[Bj _ _ l8,VF];dsimp only;rw[Bj _ _ l9,VF];dsimp only;rw[Bj _ _ l10,VF];dsimp only;rw[Bj _ _ l11,VF];dsimp only;rw[Bj _ _ l12,VF];dsimp only;rw[Bj _ _ l13,VF];dsimp only;rw[Bj _ _ l14,VF];dsimp only;rw[hu];rfl
theorem EG:∀ {F:Nat} {r:List Nat} {l:List En},Ca F r=some l->∀t,Ca F (r++t)=some l
 |0,r,l,h,t=>by cases h
 |F+1,r,l,h,t=>by
  unfold Ca at h ⊢;obtain⟨m,q,rfl,hl,h⟩:=An h;dsimp only at h;rw[VH,Bj _ _ hl,VF];dsimp only
  split at h
  . rename_i hm
    rw[if_pos hm]
    cases he:Fa q with
    |none=>rw[he]at h;cases h
    |some p=>
     rw[he]at h;rw[(Rv (x:=p.1) (q:=p.2) he).2.2 t,VF];simp only[VF,XG]at h ⊢;obtain⟨l2,h1,h2⟩:=h;exact⟨l2,EG h1 t,h2⟩
  . rename_i hm
    rw[if_neg hm];exact h
theorem D8:∀ {F:Nat} {r:List Nat} {l:List En},Ca F r=some l->(∀z∈r,z<256)->∀x∈l,∀z∈x.pk,z<256
 |0,r,l,h,_=>by cases h
 |F+1,r,l,h,hv=>by
  unfold Ca at h;obtain⟨m,q,rfl,hl,h⟩:=An h;dsimp only at h
  split at h
  . cases he:Fa q with
    |none=>rw[he]at h;cases h
    |some p=>
     rw[he]at h;simp only[VF,XG]at h;obtain⟨l2,h1,rfl⟩:=h;have h2:=(Rv (x:=p.1) (q:=p.2) he).2.1 (fun z hz=>hv z (by simp[hz]));intro x hx
     rcases WE.1 hx with rfl|hx
     . exact h2.1
     . exact D8 h1 h2.2 x hx
  . cases h
    intro x hx
    cases hx
structure EOk (x:En):Prop where
 st:0<=x.f.stamp/\x.f.stamp<4294967296
 nd:0<=x.f.node/\x.f.node<65536
 nm:x.f.name.length<65536
 pl:x.pk.length<4294967296
 cr:x.crc<4294967296
 mt:x.meth<65536
 un:unpF x.meth x.pk=some (n8 x.f.bytes)
theorem RS (x:En)(h:EOk x)(t:List Nat):Fa (Sv x++n8 x.f.name++Jb x++x.pk++t)=some (x,t):=by
 have e:Sv x++n8 x.f.name++Jb x++x.pk++t=(Ag 20 2++Ag 0 2)++(Ag x.meth 2++(Ag 0 4++(Ag x.crc 4++(Ag x.pk.length 4++(Ag x.f.bytes.length 4++(Ag x.f.name.length 2++(Ag 11 2++(n8 x.f.name++((Ag 29297 2++Ag 7 2)++(Ag x.f.stamp.toNat 4++(Ag x.f.node.toNat 2++(Ag (Dp x.f.gone) 1++(x.pk++t))))))))))))):=by
  simp only[Sv,Jb,VH]
 obtain⟨⟨st0,st1⟩,⟨nd0,nd1⟩,nm,pl,cr,mt,un⟩:=h;have o1:Al (Ag x.meth 2)=x.meth:=Cm 2 _ mt;have o2:Al (Ag x.crc 4)=x.crc:=Cm 4 _ cr;have o3:Al (Ag x.pk.length 4)=x.pk.length:=Cm 4 _ pl;have o4:Al (Ag x.f.name.length 2)=x.f.name.length:=Cm 2 _ nm;have o5:Al (Ag x.f.stamp.toNat 4)=x.f.stamp.toNat:=Cm 4 _ (by show _<4294967296;omega);have o6:Al (Ag x.f.node.toNat 2)=x.f.node.toNat:=Cm 2 _ (by show _<65536;omega);have o7:Al (Ag (Dp x.f.gone) 1)=Dp x.f.gone:=Cm 1 _ (by unfold Dp;split<;>decide);rw[e];unfold Fa;rw[Bj _ _ (show (Ag 20 2++Ag 0 2).length=4 from rfl)];simp only[VF,Pi,o1,o2,o3,o4];rw[Bj _ _ (Cd x.f.name)];simp only[VF];rw[Bj _ _ (show (Ag 29297 2++Ag 7 2).length=4 from rfl)];simp only[VF,Pi,o5,o6,o7];rw[Bj _ _ rfl];simp only[VF,un,CW,YK,YU,and_true];have e1:((x.f.stamp.toNat:Nat):Int)=x.f.stamp:=XX st0;have e2:((x.f.node.toNat:Nat):Int)=x.f.node:=XX nd0;have e3:decide (Dp x.f.gone=1)=x.f.gone:=by cases x.f.gone<;>rfl
 rw[e1,e2,e3]
theorem Uv:∀(l:List En) {F:Nat} {t:List Nat},(∀x∈l,EOk x)->l.length<F->(∃m q,Dl 4 t=some (m,q)/\Al m≠67324752)->Ca F (Ar l++t)=some l
 | [],0,t,_,h,_=>by cases h
 | [],F+1,t,_,_,⟨m,q,h1,h2⟩=>by
  unfold Ca;show (Dl 4 t).bind _=_
  rw[h1,VF];dsimp only;rw[if_neg h2]
 |x::l,0,t,_,h,_=>by cases h
 |x::l,F+1,t,h,hF,ht=>by
  unfold Ca
  have e:Ar (x::l)++t=Ag 67324752 4++(Sv x++n8 x.f.name++Jb x++x.pk++(Ar l++t)):=by
   simp only[Ar,Sy,VH]
  have hm:Al (Ag 67324752 4)=67324752:=Cm 4 _ (by decide);rw[e,Pi,VF];dsimp only;rw[if_pos hm,RS x (h x (by simp)),VF];dsimp only;rw[Uv l (fun y hy=>h y (WM _ hy)) (by simpa using hF) ht];rfl
theorem D7 (l:List En)(h:∀x∈l,EOk x)(t:List Nat){F:Nat}(hF:l.length<F):Ca F (Ba l++t)=some l:=by
 unfold Ba;rw[VH,VH];refine Uv l h hF ?_
 cases l with
 |nil=>
  refine⟨Ag 101010256 4,(Pm 0 0 0).drop 4++t, ?_,by rw[Cm 4 _ (by decide)];decide⟩;exact Bj (Ag 101010256 4) ((Pm 0 0 0).drop 4++t) rfl
 |cons x r=>
  refine⟨Ag 33639248 4,Ag 20 2++(Sv x++(Ag 0 10++(Ag 0 4++(n8 x.f.name++(Jb x++(Am (0+(Sy x).length) r++(Pm (x::r).length (Am 0 (x::r)).length (Ar (x::r)).length++t))))))), ?_,by rw[Cm 4 _ (by decide)];decide⟩;rw[<-Pi];simp only[Am,Qe,VH]
theorem FG (l:List En):l.length+22<=(Ba l).length:=by
 have:∀l:List En,l.length<=(Ar l).length:=by
  intro l
  induction l with
  |nil=>exact VK _
  |cons x r ih=>rw[Ar,VB,Gc,VJ];omega
 have h:=this l;unfold Ba;rw[VB,VB,Mg];omega
theorem BH (l:List En):l.length<(Ba l).length+1:=by
 have:=FG l
 omega
def Qb (l:List En):Bool:=l.all fun x=>decide (x.crc=crcN 0 (n8 x.f.bytes))
def Id (b:List Nat):Nat:=
 if 12000<b.length then 2
 else match Ca (b.length+1) b with
  |none=>7
  |some l=>if Nh (l.map En.f)≠0\/Ba l≠b then 7 else if Qb l=false then 10 else 0
def Hk (b:List Nat):List Fl:=if Id b≠0 then []else ((Ca (b.length+1) b).getD []).map En.f
theorem IJ {b:List Nat}(h:Id b=0):∃l,Ca (b.length+1) b=some l/\Nh (l.map En.f)=0/\Ba l=b/\Qb l=true/\Hk b=l.map En.f/\b.length<=12000:=by
 have hL:Hk b=((Ca (b.length+1) b).getD []).map En.f:=by unfold Hk;rw[if_neg (by rw[h];decide)]
 unfold Id at h
 split at h
 . cases h
 . rename_i hb
   cases he:Ca (b.length+1) b with
   |none=>rw[he]at h;cases h
   |some l=>
    rw[he]at h hL;dsimp only at h
    split at h
    . cases h
    . rename_i hc
      split at h
      . cases h
      . rename_i hs
        refine⟨l,rfl, ?_, ?_, ?_,hL,by omega⟩
        . by_cases e:Nh (l.map En.f)=0
          . exact e
          . exact absurd (.inl e) hc
        . by_cases e:Ba l=b
          . exact e
          . exact absurd (.inr e) hc
        . cases e:Qb l
          . exact absurd e hs
          . rfl
theorem IK (l:List En)(h:∀x∈l,EOk x)(hc:Nh (l.map En.f)=0)(hs:Qb l=true)(hn:(Ba l).length<=12000):Id (Ba l)=0/\Hk (Ba l)=l.map En.f:=by
 have he:Ca ((Ba l).length+1) (Ba l)=some l:=by
  have:=D7 l h [] (BH l)
  rwa [WZ]at this
 have h0:Id (Ba l)=0:=by
  unfold Id;rw[if_neg (by omega),he];dsimp only;rw[if_neg (by intro hh;rcases hh with hh|hh;exact hh hc;exact hh rfl),if_neg (by rw[hs];decide)]
 refine⟨h0, ?_⟩;unfold Hk;rw[if_neg (by rw[h0];decide),he];rfl
end Go.Proofs.YtleocpdblhbimaaGreatDoor
