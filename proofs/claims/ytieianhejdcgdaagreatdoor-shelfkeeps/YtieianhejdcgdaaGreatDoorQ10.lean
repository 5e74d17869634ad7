import Derived.Laws.BitsAllLaws
import Derived.Test.YtieianhejdcgdaaGreatDoorQ9
namespace Go.Proofs.YtieianhejdcgdaaGreatDoor
set_option linter.unusedVariables false
def lft (n:Nat):Nat:=if n%2=1 then (n/2)^^^3988292384 else n/2
def Jl:Nat->Nat->Nat
 |0,n=>n
 |k+1,n=>Jl k (lft n)
def Z4j (r x:Nat):Nat:=Jl 8 (r^^^x)
def J6 (r:Nat)(l:List Nat):Nat:=l.foldl Z4j r
def crcN (p:Nat)(l:List Nat):Nat:=J6 (p^^^4294967295) l^^^4294967295
theorem Xp (r:Nat):J6 r []=r:=rfl
theorem Md (r x:Nat)(l:List Nat):J6 r (x::l)=J6 (Z4j r x) l:=rfl
theorem LW (k n:Nat):Jl (k+1) n=lft (Jl k n):=by
 induction k generalizing n with
 |zero=>rfl
 |succ k ih=>rw[Jl,ih,Jl]
theorem QG (a b:Nat):(a^^^b)%2=(a%2+b%2)%2:=by
 have h:=Nat.xor_mod_two_eq_one (a:=a) (b:=b);have h1:=WZ (a^^^b);have h2:=WZ a;have h3:=WZ b
 rcases h1 with h1|h1<;>rcases h2 with h2|h2<;>rcases h3 with h3|h3<;>simp_all
theorem QH (a b:Nat):(a^^^b)/2=a/2^^^b/2:=by
 have:=Nat.shiftRight_xor_distrib (a:=a) (b:=b) (i:=1)
 simpa[Nat.shiftRight_eq_div_pow]using this
theorem Z34 (a b:Nat):lft (a^^^b)=lft a^^^lft b:=by
 unfold lft;have h2:=WZ a;have h3:=WZ b;rw[QG,QH];generalize a/2=A;generalize b/2=B
 rcases h2 with h2|h2<;>rcases h3 with h3|h3<;>simp only[h2,h3]
 . simp
 . simp[ZF]
 . rw[if_pos (by decide),if_pos trivial,if_neg (by decide),ZF,ZF,Nat.xor_comm B]
 . rw[if_neg (by decide),if_pos trivial,if_pos trivial,ZF,Nat.xor_comm B,<-ZF 3988292384,Nat.xor_self,Nat.zero_xor]
theorem BD:∀(k a b:Nat),Jl k (a^^^b)=Jl k a^^^Jl k b
 |0,_,_=>rfl
 |k+1,a,b=>by rw[Jl,Z34,BD k];rfl
theorem Z35 (y:Nat):lft (2*y)=y:=by
 unfold lft;rw[if_neg (by omega)];omega
theorem SW (k y:Nat):Jl k (2^k*y)=y:=by
 induction k with
 |zero=>simp[Jl]
 |succ k ih=>
  rw[Jl,show 2^(k+1)*y=2*(2^k*y) by rw[XE,YH (2^k) 2,YG],Z35,ih]
theorem Z5j {n:Nat}(h:n<4294967296):lft n<4294967296:=by
 unfold lft
 by_cases e:n%2=1
 . rw[if_pos e];exact Nat.xor_lt_two_pow (n:=32) (by omega) (by decide)
 . rw[if_neg e];omega
theorem Wx:∀(k:Nat) {n:Nat},n<4294967296->Jl k n<4294967296
 |0,_,h=>h
 |k+1,_,h=>Wx k (Z5j h)
theorem Z6h (k n:Nat):n=n%2^k^^^2^k*(n/2^k):=by
 apply Nat.eq_of_testBit_eq
 intro i;rw[Nat.testBit_xor,Nat.testBit_mod_two_pow,Nat.testBit_two_pow_mul,Nat.testBit_div_two_pow]
 by_cases h:i<k
 . simp[h,show ¬(k<=i) by omega]
 . simp[h,show k<=i by omega,show i-k+k=i by omega]
theorem EF (n:Nat):Jl 8 n=Jl 8 (n%256)^^^n/256:=by
 have h:=Z6h 8 n
 conv=>lhs;rw[h]
 rw[BD,SW]
theorem Rz:∀(a b:List Nat) (r:Nat),J6 r (a++b)=J6 (J6 r a) b
 | [],_,_=>by rw[Xp,XG]
 |x::a,b,r=>by rw[XJ,Md,Rz a,Md]
theorem Xq:∀(l:List Nat) (r:Nat),(∀x∈l,x<256)->r<4294967296->J6 r l<4294967296
 | [],r,_,h=>by rw[Xp];exact h
 |x::l,r,hl,h=>by
  rw[Md];have hx:=hl x (by simp);exact Xq l _ (fun y hy=>hl y (by simp[hy])) (Wx 8 (Nat.xor_lt_two_pow (n:=32) h (by omega)))
theorem AU {n:Nat}(h:n<4294967296):n^^^4294967295<4294967296:=Nat.xor_lt_two_pow (n:=32) h (by decide)
theorem V6 {l:List Nat}{p:Nat}(hl:∀x∈l,x<256)(h:p<4294967296):crcN p l<4294967296:=AU (Xq l _ hl (AU h))
theorem OL (l:List Nat)(r x:Nat):J6 r (l++ [x])=Z4j (J6 r l) x:=by rw[Rz,Md,Xp]
def n8 (l:List UInt8):List Nat:=l.map UInt8.toNat
def o8 (l:List Nat):List UInt8:=l.map UInt8.ofNat
theorem Gn (l:List UInt8):(n8 l).length=l.length:=by simp[n8]
theorem Li (l:List Nat):(o8 l).length=l.length:=by simp[o8]
theorem Ns (l:List UInt8):∀x∈n8 l,x<256:=by
 intro x hx;obtain⟨y,_,rfl⟩:=WY.1 hx;exact y.toNat_lt
theorem SH (l:List UInt8):o8 (n8 l)=l:=by simp[o8,n8,YR]
theorem Z6g {l:List Nat}(h:∀x∈l,x<256):n8 (o8 l)=l:=by
 unfold n8 o8;rw[List.map_map]
 conv=>rhs;rw[<-List.map_id l]
 apply YI
 intro x hx;have:=h x hx
 simp
 omega
theorem Dj {l:List Nat}(h:∀x∈l,x<256)(j:Nat):l.getD j 0<256:=by
 by_cases hk:j<l.length
 . have e:l.getD j 0=l[j]:=by simp[List.getD,hk]
   rw[e];exact h _ (WR hk)
 . simp[List.getD,hk]
theorem BR {l:List Nat}(h:∀j,l.getD j 0<256):∀x∈l,x<256:=by
 intro x hx;obtain⟨j,hj,rfl⟩:=XC hx;have:=h j
 simpa[List.getD,hj]using this
structure En where
 f:Fl
 meth:Nat
 pk:List Nat
 crc:Nat
def U4 (b:Bool):Nat:=if b then 1 else 0
def C5 (x:En):List Nat:=Bd 20 2++Bd 0 2++Bd x.meth 2++Bd 0 4++Bd x.crc 4++Bd x.pk.length 4++Bd x.f.bytes.length 4++Bd x.f.name.length 2++Bd 11 2
def I3 (x:En):List Nat:=Bd 29297 2++Bd 7 2++Bd x.f.stamp.toNat 4++Bd x.f.node.toNat 2++Bd (U4 x.f.gone) 1
def N5 (x:En):List Nat:=Bd 67324752 4++C5 x++n8 x.f.name++I3 x++x.pk
def RI (x:En)(p:Nat):List Nat:=Bd 33639248 4++Bd 20 2++C5 x++Bd 0 10++Bd p 4++n8 x.f.name++I3 x
def Bh:List En->List Nat
 | []=> []
 |x::r=>N5 x++Bh r
def Bj:Nat->List En->List Nat
 |_,[]=> []
 |p,x::r=>RI x p++Bj (p+(N5 x).length) r
def GW (n size at_:Nat):List Nat:=Bd 101010256 4++Bd 0 4++Bd n 2++Bd n 2++Bd size 4++Bd at_ 4++Bd 0 2
def Cb (l:List En):List Nat:=Bh l++Bj 0 l++GW l.length (Bj 0 l).length (Bh l).length
theorem Pa (x:En):(C5 x).length=26:=by simp[C5,Ak]
theorem Pj (x:En):(I3 x).length=11:=by simp[I3,Ak]
theorem Pi (x:En):(N5 x).length=41+x.f.name.length+x.pk.length:=by simp[N5,Ak,Pa,Pj,Gn];omega
theorem Vz (x:En)(p:Nat):(RI x p).length=57+x.f.name.length:=by simp[RI,Ak,Pa,Pj,Gn];omega
theorem BW (n s a:Nat):(GW n s a).length=22:=by simp[GW,Ak]
theorem BQ:∀(a b:List En),Bh (a++b)=Bh a++Bh b
 | [],b=>rfl
 |x::a,b=>by rw[XJ,Bh,BQ a b,Bh,VJ]
theorem Ze:∀(a b:List En) (p:Nat),Bj p (a++b)=Bj p a++Bj (p+(Bh a).length) b
 | [],b,p=>by simp[Bj,Bh]
 |x::a,b,p=>by rw[XJ,Bj,Ze a b,Bj,Bh,VJ,VB,WJ]
theorem Cz {a b:List Nat}(ha:∀x∈a,x<256)(hb:∀x∈b,x<256):∀x∈a++b,x<256:=by
 intro x hx
 rcases VZ.1 hx with h|h
 . exact ha x h
 . exact hb x h
theorem BA (x:En):∀y∈C5 x,y<256:=by
 unfold C5
 repeat first|apply Ef|apply Cz
theorem BU (x:En):∀y∈I3 x,y<256:=by
 unfold I3
 repeat first|apply Ef|apply Cz
theorem TR (x:En)(h:∀y∈x.pk,y<256):∀y∈N5 x,y<256:=by
 unfold N5;exact Cz (Cz (Cz (Cz (Ef _ _) (BA x)) (Ns _)) (BU x)) h
theorem RH (x:En)(p:Nat):∀y∈RI x p,y<256:=by
 unfold RI;exact Cz (Cz (Cz (Cz (Cz (Cz (Ef _ _) (Ef _ _)) (BA x)) (Ef _ _)) (Ef _ _)) (Ns _)) (BU x)
theorem BP:∀(l:List En),(∀x∈l,∀y∈x.pk,y<256)->∀y∈Bh l,y<256
 | [],_=>fun y hy=>by cases hy
 |x::r,h=>Cz (TR x (h x (by simp))) (BP r (fun z hz=>h z (WF _ hz)))
theorem Zd:∀(l:List En) (p:Nat),∀y∈Bj p l,y<256
 | [],_=>fun y hy=>by cases hy
 |x::r,p=>Cz (RH x p) (Zd r _)
theorem Z05 (n s a:Nat):∀y∈GW n s a,y<256:=by
 unfold GW
 repeat first|apply Ef|apply Cz
theorem Yc (l:List En)(h:∀x∈l,∀y∈x.pk,y<256):∀y∈Cb l,y<256:=Cz (Cz (BP l h) (Zd l 0)) (Z05 _ _ _)
def Du (k:Nat)(r:List Nat):Option (List Nat×List Nat):=if r.length<k then none else some (r.take k,r.drop k)
theorem Bg (a r:List Nat){k:Nat}(h:a.length=k):Du k (a++r)=some (a,r):=by
 unfold Du;rw[if_neg (by rw[VB];omega),List.take_left' h,List.drop_left' h]
theorem Ph (n k:Nat)(r:List Nat):Du k (Bd n k++r)=some (Bd n k,r):=Bg _ _ (Ak k n)
theorem F4 {k:Nat}{r a q:List Nat}(h:Du k r=some (a,q)):r=a++q/\a.length=k:=by
 unfold Du at h
 split at h
 . cases h
 . rename_i hk
   simp only[Option.some.injEq,YW]at h;obtain⟨rfl,rfl⟩:=h;exact⟨(XN _ _).symm,by rw[VL];omega⟩
theorem Al {β:Type}{k:Nat}{r:List Nat}{f:List Nat×List Nat->Option β}{y:β}(h:(Du k r).bind f=some y):
 ∃a q,r=a++q/\a.length=k/\f (a,q)=some y:=by
 cases hg:Du k r with
 |none=>rw[hg]at h;cases h
 |some p=>rw[hg]at h;exact⟨p.1,p.2,(F4 hg).1,(F4 hg).2,h⟩
def unpF (m:Nat)(pk:List Nat):Option (List Nat):=
 if m=0 then some pk
 else if m=8 then (if pk.length<=6000/\(Dd (rowB pk pk.length)).e=0/\((Dd (rowB pk pk.length)).p+7)/8=pk.length then some (Dd (rowB pk pk.length)).out else none)
 else none
def Fo (r:List Nat):Option (En×List Nat):=
 (Du 4 r).bind fun a1=>(Du 2 a1.2).bind fun a2=>(Du 4 a2.2).bind fun a3=>(Du 4 a3.2).bind fun a4=>(Du 4 a4.2).bind fun a5=>
 (Du 4 a5.2).bind fun a6=>(Du 2 a6.2).bind fun a7=>(Du 2 a7.2).bind fun a8=>(Du (Ai a7.1) a8.2).bind fun a9=>(Du 4 a9.2).bind fun a10=>
 (Du 4 a10.2).bind fun a11=>(Du 2 a11.2).bind fun a12=>(Du 1 a12.2).bind fun a13=>(Du (Ai a5.1) a13.2).bind fun a14=>
 (unpF (Ai a2.1) a14.1).bind fun b=>some (⟨⟨o8 a9.1,o8 b,(Ai a11.1:Nat),(Ai a12.1:Nat),decide (Ai a13.1=1)⟩,Ai a2.1,a14.1,Ai a4.1⟩,a14.2)
def Cf:Nat->List Nat->Option (List En)
 |0,_=>none
 |F+1,r=>(Du 4 r).bind fun m=>if Ai m.1=67324752 then (Fo m.2).bind fun x=>(Cf F x.2).map (x.1:: ·)else some []
theorem Rx {r:List Nat}{x:En}{q:List Nat}(h:Fo r=some (x,q)):
 q.length+37<=r.length/\((∀z∈r,z<256)->(∀z∈x.pk,z<256)/\∀z∈q,z<256)/\∀t,Fo (r++t)=some (x,q++t):=by
 unfold Fo at h;obtain⟨a1,r1,rfl,l1,h⟩:=Al h;dsimp only at h;obtain⟨a2,r2,rfl,l2,h⟩:=Al h;dsimp only at h;obtain⟨a3,r3,rfl,l3,h⟩:=Al h;dsimp only at h;obtain⟨a4,r4,rfl,l4,h⟩:=Al h;dsimp only at h;obtain⟨a5,r5,rfl,l5,h⟩:=Al h;dsimp only at h;obtain⟨a6,r6,rfl,l6,h⟩:=Al h;dsimp only at h;obtain⟨a7,r7,rfl,l7,h⟩:=Al h;dsimp only at h;obtain⟨a8,r8,rfl,l8,h⟩:=Al h;dsimp only at h;obtain⟨a9,r9,rfl,l9,h⟩:=Al h;dsimp only at h;obtain⟨a10,r10,rfl,l10,h⟩:=Al h;dsimp only at h;obtain⟨a11,r11,rfl,l11,h⟩:=Al h;dsimp only at h;obtain⟨a12,r12,rfl,l12,h⟩:=Al h;dsimp only at h;obtain⟨a13,r13,rfl,l13,h⟩:=Al h;dsimp only at h;obtain⟨a14,r14,rfl,l14,h⟩:=Al h;dsimp only at h
 cases hu:unpF (Ai a2) a14 with
 |none=>rw[hu]at h;cases h
 |some b=>
  rw[hu]at h;simp only[VF,Option.some.injEq,YW]at h;obtain⟨rfl,rfl⟩:=h;refine⟨?_,fun hv=>⟨fun z hz=>hv z (by simp[hz]),fun z hz=>hv z (by simp[hz])⟩,fun t=> ?_⟩
  . simp only[VB];omega
  . unfold Fo;simp only[VJ];rw[Bg _ _ l1,VF];dsimp only;rw[Bg _ _ l2,VF];dsimp only;rw[Bg _ _ l3,VF];dsimp only;rw[Bg _ _ l4,VF];dsimp only;rw[Bg _ _ l5,VF];dsimp only;rw[Bg _ _ l6,VF];dsimp only;rw[Bg _ _ l7,VF];dsimp only;rw[Bg _ _ l8,VF];dsimp only;rw[Bg _ _ l9,VF];dsimp only;rw[Bg _ _ l10,VF];dsimp only;rw[Bg _ _ l11,VF];dsimp only;rw[Bg _ _ l12,VF];dsimp only;rw[Bg _ _ l13,VF];dsimp only;rw[Bg _ _ l14,VF];dsimp only;rw[hu];rfl
theorem FT:∀ {F:Nat} {r:List Nat} {l:List En},Cf F r=some l->∀t,Cf F (r++t)=some l
 |0,r,l,h,t=>by cases h
 |F+1,r,l,h,t=>by
  unfold Cf at h ⊢;obtain⟨m,q,rfl,hl,h⟩:=Al h;dsimp only at h;rw[VJ,Bg _ _ hl,VF];dsimp only
  split at h
  . rename_i hm
    rw[if_pos hm]
    cases he:Fo q with
    |none=>rw[he]at h;cases h
    |some p=>
     rw[he]at h;rw[(Rx (x:=p.1) (q:=p.2) he).2.2 t,VF];simp only[VF,ZA]at h ⊢;obtain⟨l2,h1,h2⟩:=h;exact⟨l2,FT h1 t,h2⟩
  . rename_i hm
    rw[if_neg hm];exact h
theorem J0:∀ {F:Nat} {r:List Nat} {l:List En},Cf F r=some l->(∀z∈r,z<256)->∀x∈l,∀z∈x.pk,z<256
 |0,r,l,h,_=>by cases h
 |F+1,r,l,h,hv=>by
  unfold Cf at h;obtain⟨m,q,rfl,hl,h⟩:=Al h;dsimp only at h
  split at h
  . cases he:Fo q with
    |none=>rw[he]at h;cases h
    |some p=>
     rw[he]at h;simp only[VF,ZA]at h;obtain⟨l2,h1,rfl⟩:=h;have h2:=(Rx (x:=p.1) (q:=p.2) he).2.1 (fun z hz=>hv z (by simp[hz]));intro x hx
     rcases VW.1 hx with rfl|hx
     . exact h2.1
     . exact J0 h1 h2.2 x hx
  . cases h
    intro x hx
    cases hx
structure EOk (x:En):Prop where
 st:0<=x.f.stamp/\x.f.stamp<4294967296
 nd:0<=x.f.node/\x.f.node<65536
 nm:x.f.name.length<65536
 pl:x.pk.length<4294967296
 cr:x.crc<4294967296
 mt:x.meth<65536
 un:unpF x.meth x.pk=some (n8 x.f.bytes)
theorem Z04 (x:En)(h:EOk x)(t:List Nat):Fo (C5 x++n8 x.f.name++I3 x++x.pk++t)=some (x,t):=by
 have e:C5 x++n8 x.f.name++I3 x++x.pk++t=(Bd 20 2++Bd 0 2)++(Bd x.meth 2++(Bd 0 4++(Bd x.crc 4++(Bd x.pk.length 4++(Bd x.f.bytes.length 4++(Bd x.f.name.length 2++(Bd 11 2++(n8 x.f.name++((Bd 29297 2++Bd 7 2)++(Bd x.f.stamp.toNat 4++(Bd x.f.node.toNat 2++(Bd (U4 x.f.gone) 1++(x.pk++t))))))))))))):=by
  simp only[C5,I3,VJ]
 obtain⟨⟨st0,st1⟩,⟨nd0,nd1⟩,nm,pl,cr,mt,un⟩:=h;have o1:Ai (Bd x.meth 2)=x.meth:=Ch 2 _ mt;have o2:Ai (Bd x.crc 4)=x.crc:=Ch 4 _ cr;have o3:Ai (Bd x.pk.length 4)=x.pk.length:=Ch 4 _ pl;have o4:Ai (Bd x.f.name.length 2)=x.f.name.length:=Ch 2 _ nm;have o5:Ai (Bd x.f.stamp.toNat 4)=x.f.stamp.toNat:=Ch 4 _ (by show _<4294967296;omega);have o6:Ai (Bd x.f.node.toNat 2)=x.f.node.toNat:=Ch 2 _ (by show _<65536;omega);have o7:Ai (Bd (U4 x.f.gone) 1)=U4 x.f.gone:=Ch 1 _ (by unfold U4;split<;>decide);rw[e];unfold Fo;rw[Bg _ _ (show (Bd 20 2++Bd 0 2).length=4 from rfl)];simp only[VF,Ph,o1,o2,o3,o4];rw[Bg _ _ (Gn x.f.name)];simp only[VF];rw[Bg _ _ (show (Bd 29297 2++Bd 7 2).length=4 from rfl)];simp only[VF,Ph,o5,o6,o7];rw[Bg _ _ rfl];simp only[VF,un,SH,Option.some.injEq,YW,and_true];have e1:((x.f.stamp.toNat:Nat):Int)=x.f.stamp:=YM st0;have e2:((x.f.node.toNat:Nat):Int)=x.f.node:=YM nd0;have e3:decide (U4 x.f.gone=1)=x.f.gone:=by cases x.f.gone<;>rfl
 rw[e1,e2,e3]
theorem Uz:∀(l:List En) {F:Nat} {t:List Nat},(∀x∈l,EOk x)->l.length<F->(∃m q,Du 4 t=some (m,q)/\Ai m≠67324752)->Cf F (Bh l++t)=some l
 | [],0,t,_,h,_=>by cases h
 | [],F+1,t,_,_,⟨m,q,h1,h2⟩=>by
  unfold Cf;show (Du 4 t).bind _=_
  rw[h1,VF];dsimp only;rw[if_neg h2]
 |x::l,0,t,_,h,_=>by cases h
 |x::l,F+1,t,h,hF,ht=>by
  unfold Cf
  have e:Bh (x::l)++t=Bd 67324752 4++(C5 x++n8 x.f.name++I3 x++x.pk++(Bh l++t)):=by
   simp only[Bh,N5,VJ]
  have hm:Ai (Bd 67324752 4)=67324752:=Ch 4 _ (by decide);rw[e,Ph,VF];dsimp only;rw[if_pos hm,Z04 x (h x (by simp)),VF];dsimp only;rw[Uz l (fun y hy=>h y (WF _ hy)) (by simpa using hF) ht];rfl
theorem OA (l:List En)(h:∀x∈l,EOk x)(t:List Nat){F:Nat}(hF:l.length<F):Cf F (Cb l++t)=some l:=by
 unfold Cb;rw[VJ,VJ];refine Uz l h hF ?_
 cases l with
 |nil=>
  refine⟨Bd 101010256 4,(GW 0 0 0).drop 4++t, ?_,by rw[Ch 4 _ (by decide)];decide⟩;exact Bg (Bd 101010256 4) ((GW 0 0 0).drop 4++t) rfl
 |cons x r=>
  refine⟨Bd 33639248 4,Bd 20 2++(C5 x++(Bd 0 10++(Bd 0 4++(n8 x.f.name++(I3 x++(Bj (0+(N5 x).length) r++(GW (x::r).length (Bj 0 (x::r)).length (Bh (x::r)).length++t))))))), ?_,by rw[Ch 4 _ (by decide)];decide⟩;rw[<-Ph];simp only[Bj,RI,VJ]
theorem GU (l:List En):l.length+22<=(Cb l).length:=by
 have:∀l:List En,l.length<=(Bh l).length:=by
  intro l
  induction l with
  |nil=>exact VM _
  |cons x r ih=>rw[Bh,VB,Pi,VH];omega
 have h:=this l;unfold Cb;rw[VB,VB,BW];omega
theorem Z0e (l:List En):l.length<(Cb l).length+1:=by
 have:=GU l
 omega
def Ms (l:List En):Bool:=l.all fun x=>decide (x.crc=crcN 0 (n8 x.f.bytes))
def Ew (b:List Nat):Nat:=
 if 12000<b.length then 2
 else match Cf (b.length+1) b with
  |none=>7
  |some l=>if Eh (l.map En.f)≠0\/Cb l≠b then 7 else if Ms l=false then 10 else 0
def Dn (b:List Nat):List Fl:=if Ew b≠0 then []else ((Cf (b.length+1) b).getD []).map En.f
theorem Zz {b:List Nat}(h:Ew b=0):∃l,Cf (b.length+1) b=some l/\Eh (l.map En.f)=0/\Cb l=b/\Ms l=true/\Dn b=l.map En.f/\b.length<=12000:=by
 have hL:Dn b=((Cf (b.length+1) b).getD []).map En.f:=by unfold Dn;rw[if_neg (by rw[h];decide)]
 unfold Ew at h
 split at h
 . cases h
 . rename_i hb
   cases he:Cf (b.length+1) b with
   |none=>rw[he]at h;cases h
   |some l=>
    rw[he]at h hL;dsimp only at h
    split at h
    . cases h
    . rename_i hc
      split at h
      . cases h
      . rename_i hs
        refine⟨l,rfl, ?_, ?_, ?_,hL,by omega⟩
        . by_cases e:Eh (l.map En.f)=0
          . exact e
          . exact absurd (.inl e) hc
        . by_cases e:Cb l=b
          . exact e
          . exact absurd (.inr e) hc
        . cases e:Ms l
          . exact absurd e hs
          . rfl
theorem A3 (l:List En)(h:∀x∈l,EOk x)(hc:Eh (l.map En.f)=0)(hs:Ms l=true)(hn:(Cb l).length<=12000):Ew (Cb l)=0/\Dn (Cb l)=l.map En.f:=by
 have he:Cf ((Cb l).length+1) (Cb l)=some l:=by
  have:=OA l h [] (Z0e l)
  rwa [WO]at this
 have h0:Ew (Cb l)=0:=by
  unfold Ew;rw[if_neg (by omega),he];dsimp only;rw[if_neg (by intro hh;rcases hh with hh|hh;exact hh hc;exact hh rfl),if_neg (by rw[hs];decide)]
 refine⟨h0, ?_⟩;unfold Dn;rw[if_neg (by rw[h0];decide),he];rfl
end Go.Proofs.YtieianhejdcgdaaGreatDoor
