import Derived.Test.YtleocpdblhbimaaGreatDoorQ3
import Derived.Maps.AppendAt
import Derived.Laws.AppendOwnNone
import Derived.Lib.AppendStr
import Derived.Deep.RegionLaw
import Derived.Deep.DeepCutAuto
import Derived.Deep.DeepAppendRoom
import Derived.OwnWalk
set_option linter.unusedSimpArgs false
set_option maxHeartbeats 2000000
namespace Go.Proofs.YtleocpdblhbimaaGreatDoor
set_option linter.unusedVariables false
def n8 (l:List UInt8):List Nat:=l.map UInt8.toNat
def o8 (l:List Nat):List UInt8:=l.map UInt8.ofNat
theorem Da (l:List UInt8):(n8 l).length=l.length:=by simp[n8]
theorem Ey (l:List Nat):(o8 l).length=l.length:=by simp[o8]
theorem Lv (l:List UInt8):∀x∈n8 l,x<256:=by
 intro x hx;obtain⟨y,_,rfl⟩:=XG.1 hx;exact y.toNat_lt
theorem FQ (l:List UInt8):o8 (n8 l)=l:=by simp[o8,n8,ZA]
theorem Z0w {l:List Nat}(h:∀x∈l,x<256):n8 (o8 l)=l:=by
 unfold n8 o8;rw[ZU]
 conv=>rhs;rw[<-List.map_id l]
 apply YR
 intro x hx;have:=h x hx
 simp
 omega
theorem Er {l:List Nat}(h:∀x∈l,x<256)(j:Nat):l.getD j 0<256:=by
 by_cases hk:j<l.length
 . have e:l.getD j 0=l[j]:=by simp[List.getD,hk]
   rw[e];exact h _ (WK hk)
 . simp[List.getD,hk]
theorem Yf {l:List Nat}(h:∀j,l.getD j 0<256):∀x∈l,x<256:=by
 intro x hx;obtain⟨j,hj,rfl⟩:=XI hx;have:=h j
 simpa[List.getD,hj]using this
structure En where
 f:Fl
 meth:Nat
 pk:List Nat
 crc:Nat
def Ed (b:Bool):Nat:=if b then 1 else 0
def To (x:En):List Nat:=Ag 20 2++Ag 0 2++Ag x.meth 2++Ag 0 4++Ag x.crc 4++Ag x.pk.length 4++Ag x.f.bytes.length 4++Ag x.f.name.length 2++Ag 11 2
def Jj (x:En):List Nat:=Ag 29297 2++Ag 7 2++Ag x.f.stamp.toNat 4++Ag x.f.node.toNat 2++Ag (Ed x.f.gone) 1
def Vr (x:En):List Nat:=Ag 67324752 4++To x++n8 x.f.name++Jj x++x.pk
def Qo (x:En)(p:Nat):List Nat:=Ag 33639248 4++Ag 20 2++To x++Ag 0 10++Ag p 4++n8 x.f.name++Jj x
def Av:List En->List Nat
 | []=> []
 |x::r=>Vr x++Av r
def Ao:Nat->List En->List Nat
 |_,[]=> []
 |p,x::r=>Qo x p++Ao (p+(Vr x).length) r
def Pm (n size at_:Nat):List Nat:=Ag 101010256 4++Ag 0 4++Ag n 2++Ag n 2++Ag size 4++Ag at_ 4++Ag 0 2
def Be (l:List En):List Nat:=Av l++Ao 0 l++Pm l.length (Ao 0 l).length (Av l).length
theorem Ly (x:En):(To x).length=26:=by simp[To,Ai]
theorem Ie (x:En):(Jj x).length=11:=by simp[Jj,Ai]
theorem Kc (x:En):(Vr x).length=41+x.f.name.length+x.pk.length:=by simp[Vr,Ai,Ly,Ie,Da];omega
theorem Lk (x:En)(p:Nat):(Qo x p).length=57+x.f.name.length:=by simp[Qo,Ai,Ly,Ie,Da];omega
theorem Pl (n s a:Nat):(Pm n s a).length=22:=by simp[Pm,Ai]
theorem CW:∀(a b:List En),Av (a++b)=Av a++Av b
 | [],b=>rfl
 |x::a,b=>by rw[XL,Av,CW a b,Av,VS]
theorem Zv:∀(a b:List En) (p:Nat),Ao p (a++b)=Ao p a++Ao (p+(Av a).length) b
 | [],b,p=>by simp[Ao,Av]
 |x::a,b,p=>by rw[XL,Ao,Zv a b,Ao,Av,VS,VE,WT]
theorem Di {a b:List Nat}(ha:∀x∈a,x<256)(hb:∀x∈b,x<256):∀x∈a++b,x<256:=by
 intro x hx
 rcases WP.1 hx with h|h
 . exact ha x h
 . exact hb x h
theorem CB (x:En):∀y∈To x,y<256:=by
 unfold To
 repeat first|apply Fi|apply Di
theorem DD (x:En):∀y∈Jj x,y<256:=by
 unfold Jj
 repeat first|apply Fi|apply Di
theorem Z1j (x:En)(h:∀y∈x.pk,y<256):∀y∈Vr x,y<256:=by
 unfold Vr;exact Di (Di (Di (Di (Fi _ _) (CB x)) (Lv _)) (DD x)) h
theorem TZ (x:En)(p:Nat):∀y∈Qo x p,y<256:=by
 unfold Qo;exact Di (Di (Di (Di (Di (Di (Fi _ _) (Fi _ _)) (CB x)) (Fi _ _)) (Fi _ _)) (Lv _)) (DD x)
theorem CT:∀(l:List En),(∀x∈l,∀y∈x.pk,y<256)->∀y∈Av l,y<256
 | [],_=>fun y hy=>by cases hy
 |x::r,h=>Di (Z1j x (h x (by simp))) (CT r (fun z hz=>h z (WR _ hz)))
theorem Zt:∀(l:List En) (p:Nat),∀y∈Ao p l,y<256
 | [],_=>fun y hy=>by cases hy
 |x::r,p=>Di (TZ x p) (Zt r _)
theorem Z1v (n s a:Nat):∀y∈Pm n s a,y<256:=by
 unfold Pm
 repeat first|apply Fi|apply Di
theorem Yx (l:List En)(h:∀x∈l,∀y∈x.pk,y<256):∀y∈Be l,y<256:=Di (Di (CT l h) (Zt l 0)) (Z1v _ _ _)
def Dy (k:Nat)(r:List Nat):Option (List Nat×List Nat):=if r.length<k then none else some (r.take k,r.drop k)
theorem Br (a r:List Nat){k:Nat}(h:a.length=k):Dy k (a++r)=some (a,r):=by
 unfold Dy;rw[if_neg (by rw[VE];omega),YS h,YT h]
theorem Pj (n k:Nat)(r:List Nat):Dy k (Ag n k++r)=some (Ag n k,r):=Br _ _ (Ai k n)
theorem J7 {k:Nat}{r a q:List Nat}(h:Dy k r=some (a,q)):r=a++q/\a.length=k:=by
 unfold Dy at h
 split at h
 . cases h
 . rename_i hk
   simp only[YB,YD]at h;obtain⟨rfl,rfl⟩:=h;exact⟨(YW _ _).symm,by rw[VL];omega⟩
theorem Ap {β:Type}{k:Nat}{r:List Nat}{f:List Nat×List Nat->Option β}{y:β}(h:(Dy k r).bind f=some y):
 ∃a q,r=a++q/\a.length=k/\f (a,q)=some y:=by
 cases hg:Dy k r with
 |none=>rw[hg]at h;cases h
 |some p=>rw[hg]at h;exact⟨p.1,p.2,(J7 hg).1,(J7 hg).2,h⟩
def unpF (m:Nat)(pk:List Nat):Option (List Nat):=
 if m=0 then some pk
 else if m=8 then (if pk.length<=6000/\(Dk (rowB pk pk.length)).e=0/\((Dk (rowB pk pk.length)).p+7)/8=pk.length then some (Dk (rowB pk pk.length)).out else none)
 else none
def Fe (r:List Nat):Option (En×List Nat):=
 (Dy 4 r).bind fun a1=>(Dy 2 a1.2).bind fun a2=>(Dy 4 a2.2).bind fun a3=>(Dy 4 a3.2).bind fun a4=>(Dy 4 a4.2).bind fun a5=>
 (Dy 4 a5.2).bind fun a6=>(Dy 2 a6.2).bind fun a7=>(Dy 2 a7.2).bind fun a8=>(Dy (Ak a7.1) a8.2).bind fun a9=>(Dy 4 a9.2).bind fun a10=>
 (Dy 4 a10.2).bind fun a11=>(Dy 2 a11.2).bind fun a12=>(Dy 1 a12.2).bind fun a13=>(Dy (Ak a5.1) a13.2).bind fun a14=>
 (unpF (Ak a2.1) a14.1).bind fun b=>some (⟨⟨o8 a9.1,o8 b,(Ak a11.1:Nat),(Ak a12.1:Nat),decide (Ak a13.1=1)⟩,Ak a2.1,a14.1,Ak a4.1⟩,a14.2)
def Cd:Nat->List Nat->Option (List En)
 |0,_=>none
 |F+1,r=>(Dy 4 r).bind fun m=>if Ak m.1=67324752 then (Fe m.2).bind fun x=>(Cd F x.2).map (x.1:: ·)else some []
theorem Si {r:List Nat}{x:En}{q:List Nat}(h:Fe r=some (x,q)):
 q.length+37<=r.length/\((∀z∈r,z<256)->(∀z∈x.pk,z<256)/\∀z∈q,z<256)/\∀t,Fe (r++t)=some (x,q++t):=by
 unfold Fe at h;obtain⟨a1,r1,rfl,l1,h⟩:=Ap h;dsimp only at h;obtain⟨a2,r2,rfl,l2,h⟩:=Ap h;dsimp only at h;obtain⟨a3,r3,rfl,l3,h⟩:=Ap h;dsimp only at h;obtain⟨a4,r4,rfl,l4,h⟩:=Ap h;dsimp only at h;obtain⟨a5,r5,rfl,l5,h⟩:=Ap h;dsimp only at h;obtain⟨a6,r6,rfl,l6,h⟩:=Ap h;dsimp only at h;obtain⟨a7,r7,rfl,l7,h⟩:=Ap h;dsimp only at h;obtain⟨a8,r8,rfl,l8,h⟩:=Ap h;dsimp only at h;obtain⟨a9,r9,rfl,l9,h⟩:=Ap h;dsimp only at h;obtain⟨a10,r10,rfl,l10,h⟩:=Ap h;dsimp only at h;obtain⟨a11,r11,rfl,l11,h⟩:=Ap h;dsimp only at h;obtain⟨a12,r12,rfl,l12,h⟩:=Ap h;dsimp only at h;obtain⟨a13,r13,rfl,l13,h⟩:=Ap h;dsimp only at h;obtain⟨a14,r14,rfl,l14,h⟩:=Ap h;dsimp only at h
 cases hu:unpF (Ak a2) a14 with
 |none=>rw[hu]at h;cases h
 |some b=>
  rw[hu]at h;simp only[VF,YB,YD]at h;obtain⟨rfl,rfl⟩:=h;refine⟨?_,fun hv=>⟨fun z hz=>hv z (by simp[hz]),fun z hz=>hv z (by simp[hz])⟩,fun t=> ?_⟩
  . simp only[VE];omega
  . unfold Fe;simp only[VS];rw[Br _ _ l1,VF];dsimp only;rw[Br _ _ l2,VF];dsimp only;rw[Br _ _ l3,VF];dsimp only;rw[Br _ _ l4,VF];dsimp only;rw[Br _ _ l5,VF];dsimp only;rw[Br _ _ l6,VF];dsimp only;rw[Br _ _ l7,VF];dsimp only;rw[Br _ _ l8,VF];dsimp only;rw[Br _ _ l9,VF];dsimp only;rw[Br _ _ l10,VF];dsimp only;rw[Br _ _ l11,VF];dsimp only;rw[Br _ _ l12,VF];dsimp only;rw[Br _ _ l13,VF];dsimp only;rw[Br _ _ l14,VF];dsimp only;rw[hu];rfl
theorem IG:∀ {F:Nat} {r:List Nat} {l:List En},Cd F r=some l->∀t,Cd F (r++t)=some l
 |0,r,l,h,t=>by cases h
 |F+1,r,l,h,t=>by
  unfold Cd at h ⊢;obtain⟨m,q,rfl,hl,h⟩:=Ap h;dsimp only at h;rw[VS,Br _ _ hl,VF];dsimp only
  split at h
  . rename_i hm
    rw[if_pos hm]
    cases he:Fe q with
    |none=>rw[he]at h;cases h
    |some p=>
     rw[he]at h;rw[(Si (x:=p.1) (q:=p.2) he).2.2 t,VF];simp only[VF,XF]at h ⊢;obtain⟨l2,h1,h2⟩:=h;exact⟨l2,IG h1 t,h2⟩
  . rename_i hm
    rw[if_neg hm];exact h
theorem Sf:∀ {F:Nat} {r:List Nat} {l:List En},Cd F r=some l->(∀z∈r,z<256)->∀x∈l,∀z∈x.pk,z<256
 |0,r,l,h,_=>by cases h
 |F+1,r,l,h,hv=>by
  unfold Cd at h;obtain⟨m,q,rfl,hl,h⟩:=Ap h;dsimp only at h
  split at h
  . cases he:Fe q with
    |none=>rw[he]at h;cases h
    |some p=>
     rw[he]at h;simp only[VF,XF]at h;obtain⟨l2,h1,rfl⟩:=h;have h2:=(Si (x:=p.1) (q:=p.2) he).2.1 (fun z hz=>hv z (by simp[hz]));intro x hx
     rcases WH.1 hx with rfl|hx
     . exact h2.1
     . exact Sf h1 h2.2 x hx
  . cases h
    intro x hx
    cases hx
structure EOk (x:En):Prop where
 st:0<=x.f.stamp/\x.f.stamp<4294967296
 nd:0<=x.f.node/\x.f.node<65536
 nm:x.f.name.length<65536
 pl:x.pk.length<4294967296
 cr:x.crc<4294967296
 mt:x.meth<65536
 un:unpF x.meth x.pk=some (n8 x.f.bytes)
theorem Z1s (x:En)(h:EOk x)(t:List Nat):Fe (To x++n8 x.f.name++Jj x++x.pk++t)=some (x,t):=by
 have e:To x++n8 x.f.name++Jj x++x.pk++t=(Ag 20 2++Ag 0 2)++(Ag x.meth 2++(Ag 0 4++(Ag x.crc 4++(Ag x.pk.length 4++(Ag x.f.bytes.length 4++(Ag x.f.name.length 2++(Ag 11 2++(n8 x.f.name++((Ag 29297 2++Ag 7 2)++(Ag x.f.stamp.toNat 4++(Ag x.f.node.toNat 2++(Ag (Ed x.f.gone) 1++(x.pk++t))))))))))))):=by
  simp only[To,Jj,VS]
 obtain⟨⟨st0,st1⟩,⟨nd0,nd1⟩,nm,pl,cr,mt,un⟩:=h;have o1:Ak (Ag x.meth 2)=x.meth:=Cu 2 _ mt;have o2:Ak (Ag x.crc 4)=x.crc:=Cu 4 _ cr;have o3:Ak (Ag x.pk.length 4)=x.pk.length:=Cu 4 _ pl;have o4:Ak (Ag x.f.name.length 2)=x.f.name.length:=Cu 2 _ nm;have o5:Ak (Ag x.f.stamp.toNat 4)=x.f.stamp.toNat:=Cu 4 _ (by show _<4294967296;omega);have o6:Ak (Ag x.f.node.toNat 2)=x.f.node.toNat:=Cu 2 _ (by show _<65536;omega);have o7:Ak (Ag (Ed x.f.gone) 1)=Ed x.f.gone:=Cu 1 _ (by unfold Ed;split<;>decide);rw[e];unfold Fe;rw[Br _ _ (show (Ag 20 2++Ag 0 2).length=4 from rfl)];simp only[VF,Pj,o1,o2,o3,o4];rw[Br _ _ (Da x.f.name)];simp only[VF];rw[Br _ _ (show (Ag 29297 2++Ag 7 2).length=4 from rfl)];simp only[VF,Pj,o5,o6,o7];rw[Br _ _ rfl];simp only[VF,un,FQ,YB,YD,and_true];have e1:((x.f.stamp.toNat:Nat):Int)=x.f.stamp:=YU st0;have e2:((x.f.node.toNat:Nat):Int)=x.f.node:=YU nd0;have e3:decide (Ed x.f.gone=1)=x.f.gone:=by cases x.f.gone<;>rfl
 rw[e1,e2,e3]
theorem Vv:∀(l:List En) {F:Nat} {t:List Nat},(∀x∈l,EOk x)->l.length<F->(∃m q,Dy 4 t=some (m,q)/\Ak m≠67324752)->Cd F (Av l++t)=some l
 | [],0,t,_,h,_=>by cases h
 | [],F+1,t,_,_,⟨m,q,h1,h2⟩=>by
  unfold Cd;show (Dy 4 t).bind _=_
  rw[h1,VF];dsimp only;rw[if_neg h2]
 |x::l,0,t,_,h,_=>by cases h
 |x::l,F+1,t,h,hF,ht=>by
  unfold Cd
  have e:Av (x::l)++t=Ag 67324752 4++(To x++n8 x.f.name++Jj x++x.pk++(Av l++t)):=by
   simp only[Av,Vr,VS]
  have hm:Ak (Ag 67324752 4)=67324752:=Cu 4 _ (by decide);rw[e,Pj,VF];dsimp only;rw[if_pos hm,Z1s x (h x (by simp)),VF];dsimp only;rw[Vv l (fun y hy=>h y (WR _ hy)) (by simpa using hF) ht];rfl
theorem Se (l:List En)(h:∀x∈l,EOk x)(t:List Nat){F:Nat}(hF:l.length<F):Cd F (Be l++t)=some l:=by
 unfold Be;rw[VS,VS];refine Vv l h hF ?_
 cases l with
 |nil=>
  refine⟨Ag 101010256 4,(Pm 0 0 0).drop 4++t, ?_,by rw[Cu 4 _ (by decide)];decide⟩;exact Br (Ag 101010256 4) ((Pm 0 0 0).drop 4++t) rfl
 |cons x r=>
  refine⟨Ag 33639248 4,Ag 20 2++(To x++(Ag 0 10++(Ag 0 4++(n8 x.f.name++(Jj x++(Ao (0+(Vr x).length) r++(Pm (x::r).length (Ao 0 (x::r)).length (Av (x::r)).length++t))))))), ?_,by rw[Cu 4 _ (by decide)];decide⟩;rw[<-Pj];simp only[Ao,Qo,VS]
theorem JP (l:List En):l.length+22<=(Be l).length:=by
 have:∀l:List En,l.length<=(Av l).length:=by
  intro l
  induction l with
  |nil=>exact VH _
  |cons x r ih=>rw[Av,VE,Kc,VJ];omega
 have h:=this l;unfold Be;rw[VE,VE,Pl];omega
theorem Yy (l:List En):l.length<(Be l).length+1:=by
 have:=JP l
 omega
def sumsF (l:List En):Bool:=l.all fun x=>decide (x.crc=crcN 0 (n8 x.f.bytes))
def readE (b:List Nat):Nat:=
 if 12000<b.length then 2
 else match Cd (b.length+1) b with
  |none=>7
  |some l=>if errM (l.map En.f)≠0\/Be l≠b then 7 else if sumsF l=false then 10 else 0
def readL (b:List Nat):List Fl:=if readE b≠0 then []else ((Cd (b.length+1) b).getD []).map En.f
theorem C6 {b:List Nat}(h:readE b=0):∃l,Cd (b.length+1) b=some l/\errM (l.map En.f)=0/\Be l=b/\sumsF l=true/\readL b=l.map En.f/\b.length<=12000:=by
 have hL:readL b=((Cd (b.length+1) b).getD []).map En.f:=by unfold readL;rw[if_neg (by rw[h];decide)]
 unfold readE at h
 split at h
 . cases h
 . rename_i hb
   cases he:Cd (b.length+1) b with
   |none=>rw[he]at h;cases h
   |some l=>
    rw[he]at h hL;dsimp only at h
    split at h
    . cases h
    . rename_i hc
      split at h
      . cases h
      . rename_i hs
        refine⟨l,rfl, ?_, ?_, ?_,hL,by omega⟩
        . by_cases e:errM (l.map En.f)=0
          . exact e
          . exact absurd (.inl e) hc
        . by_cases e:Be l=b
          . exact e
          . exact absurd (.inr e) hc
        . cases e:sumsF l
          . exact absurd e hs
          . rfl
theorem ME (l:List En)(h:∀x∈l,EOk x)(hc:errM (l.map En.f)=0)(hs:sumsF l=true)(hn:(Be l).length<=12000):readE (Be l)=0/\readL (Be l)=l.map En.f:=by
 have he:Cd ((Be l).length+1) (Be l)=some l:=by
  have:=Se l h [] (Yy l)
  rwa [XA]at this
 have h0:readE (Be l)=0:=by
  unfold readE;rw[if_neg (by omega),he];dsimp only;rw[if_neg (by intro hh;rcases hh with hh|hh;exact hh hc;exact hh rfl),if_neg (by rw[hs];decide)]
 refine⟨h0, ?_⟩;unfold readL;rw[if_neg (by rw[h0];decide),he];rfl
end Go.Proofs.YtleocpdblhbimaaGreatDoor
namespace Go.Proofs.YtleocpdblhbimaaGreatDoor
open Go.RowKit
set_option linter.unusedVariables false
set_option maxRecDepth 100000
def KpT (w w':World):Prop:=∀(g:Nat) (cs:Array Value) (t:TypeId) (fz:Nat×Nat),t≠5->t≠101->w.heap[g]? =some (Obj.cells cs t fz)->w'.heap[g]? =some (Obj.cells cs t fz)
theorem KpT.refl (w:World):KpT w w:=fun _ _ _ _ _ _ h=>h
theorem KpT.trans {a b c:World}(h:KpT a b)(k:KpT b c):KpT a c:=fun g cs t fz h1 h2 h3=>k g cs t fz h1 h2 (h g cs t fz h1 h2 h3)
theorem KpT.below {w w':World}(h:Below w.heap.size w w'):KpT w w':=fun g cs t fz _ _ h3=>(h.block g (VK.1 h3).1).trans h3
structure ZC (B:Nat)(w:World)(b:Nat)(xs:List Nat)(ov:Value):Prop where
 base:B<=b
 cell:w.heap[b]? =some (.cells #[ov] 101 (0,0))
 own:w.ownsRow (b+1) 5 1 ov xs.length (u8s xs)
theorem ZC.lt {B b:Nat}{w:World}{xs:List Nat}{ov:Value}(h:ZC B w b xs ov):b<w.heap.size:=(VK.1 h.cell).1
structure ZUp (B:Nat)(w:World)(b:Nat)(xs:List Nat)(w':World):Prop where
 is:∃ov,ZC B w' b xs ov
 below:Below B w w'
 kp:KpT w w'
theorem ZUp.refl {B b:Nat}{w:World}{xs:List Nat}{ov:Value}(h:ZC B w b xs ov):ZUp B w b xs w:=⟨⟨ov,h⟩,Below.refl _ _,KpT.refl _⟩
theorem ZUp.trans {B b:Nat}{w w1 w2:World}{xs ys:List Nat}(h:ZUp B w b xs w1)(k:ZUp B w1 b ys w2):ZUp B w b ys w2:=⟨k.is,h.below.trans k.below,h.kp.trans k.kp⟩
theorem ZC.later {B b:Nat}{w w':World}{xs:List Nat}{ov:Value}(h:ZC B w b xs ov)(hB:Below w.heap.size w w'):ZC B w' b xs ov:=
 ⟨h.base,(hB.block b h.lt).trans h.cell,Au h.own (fun g hg=>hB.block g (h.own.lt g hg).2)⟩
theorem ZC.apart {B b:Nat}{w:World}{xs:List Nat}{ov:Value}(h:ZC B w b xs ov):ov.ownBlock=none\/ov.ownBlock≠some b:=by
 cases hx:ov.ownBlock with
 |none=>exact .inl rfl
 |some g=>
  refine .inr (fun e=> ?_);have:=(h.own.lt g hx).1
  cases e
  omega
theorem Oy {w:World}{B e size n g:Nat}{v:Value}{xs:List Value}(h:w.ownsRow B e size v n xs)(hg:v.ownBlock=some g):∃cs,w.heap[g]? =some (.cells cs e (0,0)):=by
 rcases h.2 with ⟨h1,_⟩|⟨g',cap,cur,h1,h2,h3,_⟩
 . subst h1;cases hg
 . subst h1
   cases hg
   exact⟨_,h3⟩
theorem ZC.put {B b:Nat}{r W w':World}{xs ys:List Nat}{ov v':Value}(h:ZC B r b xs ov)(hW:r.grownBy W none)(hg:W.grownBy w' ov.ownBlock)(ho:w'.ownsRow (b+1) 5 1 v' (xs.length+ys.length) (u8s xs++u8s ys)):
 w'.cell? ⟨b,0,none⟩=some ov/\w'.frozen? ⟨b,0,none⟩=false/\ZUp B r b (xs++ys) (w'.setCell ⟨b,0,none⟩ v'):=by
 have hlt:=h.lt;have hWs:=hW.size;have hgs:=hg.size;have hbW:W.heap[b]? =some (.cells #[ov] 101 (0,0)):=(hW.block b hlt (by simp)).trans h.cell;have hb':w'.heap[b]? =some (.cells #[ov] 101 (0,0)):=(hg.block b (by omega) (fun e=>by rcases h.apart with h|h;rw[h]at e;cases e;exact h e.symm)).trans hbW;have hset:=Ad w' b 0 v'
 have hv'b:v'.ownBlock=none\/v'.ownBlock≠some b:=by
  cases hx:v'.ownBlock with
  |none=>exact .inl rfl
  |some g=>
   refine .inr (fun e=> ?_);have:=(ho.lt g hx).1
   cases e
   omega
 have hbb:=h.base;refine⟨Ac hb',frozen_of_row w' b 0 _ _ hb',⟨v',hbb, ?_, ?_⟩, ?_, ?_⟩
 . rw[heap_setCell_same w' b 0 _ _ _ hb'];rfl
 . have:=ho.kept hset hv'b
   rw[VE,u8s,WU];exact this
 . have b0:=(Below.refl B r).grown hW (by omega) (fun g e=>by cases e);have b1:=b0.grown hg (by omega) (fun g e=>by have:=(h.own.lt g e).1;omega);exact b1.grown hset (by omega) (fun g e=>by cases e;exact hbb)
 . intro g cs t fz h1 h2 h3;have hgl:=(VK.1 h3).1;have e1:W.heap[g]? =some (.cells cs t fz):=(hW.block g hgl (by simp)).trans h3
   have hne:some g≠ov.ownBlock:=by
    intro e;obtain⟨cs',hc⟩:=Oy h.own e.symm;rw[h3]at hc
    injection hc with hc
    injection hc with _ hc2
    exact h1 hc2
   have e2:w'.heap[g]? =some (.cells cs t fz):=(hg.block g (by omega) hne).trans e1
   have hgb:g≠b:=by
    intro e;rw[e,h.cell]at h3
    injection h3 with h3
    injection h3 with _ h4
    exact h2 h4.symm
   exact(hset.block g (by omega) (fun e=>hgb (VM e))).trans e2
def PkIn (w:World)(a:Option Addr)(c:Nat)(ys:List Nat):Prop:=BytesIn w a ys/\(a=none->c=0)
theorem PkIn.below {w w':World}{a:Option Addr}{c:Nat}{ys:List Nat}(h:PkIn w a c ys)(hB:Below w.heap.size w w'):PkIn w' a c ys:=by
 refine⟨?_,h.2⟩
 rcases h.1 with h|⟨b,o,e,hb,hc⟩
 . exact .inl h
 . exact .inr ⟨b,o,e,VG hb hB.size,fun j hj=>(World.cell?_of_block (w:=w) (a:=⟨b,_,none⟩) (hB.block b hb)).trans (hc j hj)⟩
theorem CN:(Tryz.prog.info? 5).map (fun i=>(i.zero,i.size,i.bytes))=some (some (.int .u8 0),1,1):=by kernel_rfl
theorem Ll (w:World)(ty:TypeId)(base:Nat)(v:Value)(xs ys:List Nat)(hown:w.ownsRow base 5 1 v xs.length (u8s xs))(ad:Option Addr)(m c:Nat)(hm:ys.length=m)(hP:PkIn w ad c ys)(hsz:xs.length+m<=140737488355328)(hbase:base<=w.heap.size):
 ∃v' w',(Builtin.append_ #[23,23] ty #[v,.slice ad m c]).run Tryz.prog w=.ok v' w'/\w'.ownsRow base 5 1 v' (xs.length+ys.length) (u8s xs++u8s ys)/\w.grownBy w' v.ownBlock:=by
 obtain⟨i0,hi,hz0,hz1,hz2⟩:=info_parts CN;subst hm
 cases ad with
 |none=>
  have hc:c=0:=hP.2 rfl;subst hc
  have hys:ys= []:=by
   rcases hP.1 with h|⟨b,o,e,_⟩
   . exact h
   . cases e
  subst hys;have hr:=run_append_owned_none (P:=Tryz.prog) (w:=w) base 23 ty 5 i0 1 Tryz.underlying23 hi v xs.length (u8s xs) hown;exact⟨v,w,hr,by simpa using hown,Aw _ _⟩
 |some ad=>
  obtain⟨v',w',h1,h2,h3,_⟩:=run_append_own_at (P:=Tryz.prog) w base 23 ty 5 i0 (.int .u8 0) 1 1 Tryz.underlying23 hi hz0 hz1 hz2 rfl (by decide) v xs.length (u8s xs) hown ad ys.length c (u8s ys) (by simp) (by
   intro j u hj
   have hj':j<ys.length:=by
    have:=(XT.1 hj).1
    simpa using this
   rcases hP.1 with h|⟨b,o,e,_,hB⟩
   . subst h;simp at hj'
   . cases e
     have hu:u=.int .u8 ((ys.getD j 0:Nat):Int):=by
      simp[u8s,hj']at hj
      simp[List.getD,hj',hj]
     rw[hu];have:=hB j hj'
     by_cases h0:j=0
     . subst h0;simpa[Addr.add]using this
     . simpa[Addr.add,h0]using this) (by
   intro u hu;obtain⟨x,_,rfl⟩:=XG.1 hu;rfl) (by unfold maxLen;omega) (by omega) hbase
  exact⟨v',w',h1,h2,h3⟩
theorem LM {ops:Array Oper}{o:Oper}{a:Act}{W:World}{K:Act->World->Prop}{Q:Exit->Act->World->Prop}{E:Prop}(hgd:o.guard=none)(s x:Operand)
 (ho:o.op=.call {callee:=.builtin .append,args:= #[s,x],argTypes:= #[23,23]})
 (r:World) (B b:Nat) (xs ys:List Nat) (ov:Value) (hs:a.eval s=ov) (hC:ZC B r b xs ov) (hW:r.grownBy W none) (ad:Option Addr) (m c:Nat) (hx:a.eval x=.slice ad m c) (hm:ys.length=m) (hP:PkIn W ad c ys) (hk:xs.length+m<=1000000)
 (h:∀a' l' c' w',w'.cell? ⟨b,0,none⟩=some ov->w'.frozen? ⟨b,0,none⟩=false->Hid (ZUp B r b (xs++ys) (w'.setCell ⟨b,0,none⟩ (.slice a' l' c')))->K (a.put o.dst (.slice a' l' c')) w'):
 if Region.wanted o (yielded ops a.tmps)=true then Oper.wp Tryz.prog o a W K Q else E:=by
 have hw:Region.wanted o (yielded ops a.tmps)=true:=by simp[Region.wanted,hgd]
 rw[if_pos hw];have hlt:=hC.lt;have hsz:=hW.size;obtain⟨v',w',hr,h2,h3⟩:=Ll W o.type (b+1) ov xs ys (Hv hC.own hW) ad m c hm hP (by omega) (by omega);obtain⟨c1,c2,c3⟩:=hC.put hW h3 h2;obtain⟨a',c',rfl⟩:=An h2;unfold Oper.wp execOp;simp only[ho,resolve,invoke,builtin,Sem.run_bind,Sem.run_pure,Result.andThen_ok,ZL,WQ,ZE,hs,hx,hr];exact h a' _ c' w' c1 c2 (Ab c3)
theorem ET (l:List UInt8):Lib.strCells (B l)=u8s (n8 l):=by simp[Lib.strCells,B,u8s,n8,ZA]
theorem LL {ops:Array Oper}{o:Oper}{a:Act}{W:World}{K:Act->World->Prop}{Q:Exit->Act->World->Prop}{E:Prop}(hgd:o.guard=none)(s x:Operand)
 (ho:o.op=.call {callee:=.builtin .append,args:= #[s,x],argTypes:= #[23,9]})
 (r:World) (Bs b:Nat) (xs:List Nat) (l:List UInt8) (ov:Value) (hs:a.eval s=ov) (hC:ZC Bs r b xs ov) (hW:r.grownBy W none) (hx:a.eval x=.string (B l)) (hk:xs.length+l.length<=1000000)
 (h:∀a' l' c' w',w'.cell? ⟨b,0,none⟩=some ov->w'.frozen? ⟨b,0,none⟩=false->Hid (ZUp Bs r b (xs++n8 l) (w'.setCell ⟨b,0,none⟩ (.slice a' l' c')))->K (a.put o.dst (.slice a' l' c')) w'):
 if Region.wanted o (yielded ops a.tmps)=true then Oper.wp Tryz.prog o a W K Q else E:=by
 have hw:Region.wanted o (yielded ops a.tmps)=true:=by simp[Region.wanted,hgd]
 rw[if_pos hw];have hlt:=hC.lt;have hsz:=hW.size;obtain⟨i0,hi,hz0,hz1,hz2⟩:=info_parts CN;have hB:(B l).size=l.length:=by simp[B,ByteArray.size]
 obtain⟨v',w',hr,h2,h3,_⟩:=Lib.run_append_own_string (P:=Tryz.prog) W (b+1) 23 9 o.type 5 i0 Tryz.underlying23 Tryz.underlying9 hi hz0 hz1 hz2 ov xs.length (u8s xs) (Hv hC.own hW) (B l) (by rw[hB];unfold maxLen;omega) (by rw[hB];omega) (by omega);rw[hB,ET,<-Da]at h2;obtain⟨c1,c2,c3⟩:=hC.put hW h3 h2;obtain⟨a',c',rfl⟩:=An h2;unfold Oper.wp execOp;simp only[ho,resolve,invoke,builtin,Sem.run_bind,Sem.run_pure,Result.andThen_ok,ZL,WQ,ZE,hs,hx,hr];exact h a' _ c' w' c1 c2 (Ab c3)
theorem Ve {w:World}{B n:Nat}{v:Value}{ys:List Nat}(h:w.ownsRow B 5 1 v n (u8s ys)):∃a c,v=.slice a n c/\PkIn w a c ys/\n<=c/\ys.length=n/\∀g o,a=some ⟨g,o,none⟩->B<=g:=by
 have hl:ys.length=n:=by have:=h.1;simpa using this
 obtain⟨_,a,c,hv,hB⟩:=BytesIn.ofOwn h;subst hv
 rcases h.2 with ⟨h1,h2⟩|⟨g,cap,cur,h1,h2,h3,h4,_⟩
 . cases h1
   exact⟨none,0,rfl,⟨hB,fun _=>rfl⟩,by omega,hl,fun g o e=>by cases e⟩
 . cases h1
   exact⟨_,_,rfl,⟨hB,fun e=>by cases e⟩,h4,hl,fun g' o e=>by cases e;exact h2⟩
theorem Z3q (a:Option Addr)(p n cap:Nat)(h:p<=n)(hn:n<=cap)(hnil:a=none->cap=0):
 ∃a',(∀W:World,(Instr.slice 23 (.slice a n cap) (some (.int .i64 (p:Int))) none none).run Tryz.prog W=.ok (.slice a' (n-p) (cap-p)) W)/\(∀b o,a=some ⟨b,o,none⟩->p<n->a'=some ⟨b,o+p,none⟩)/\(a'=none->cap-p=0):=by
 have hs:=Tryz.sizeOf5;have ht:=Tryz.underlying23;have h1:(p:Int)<=(n:Int):=by omega
 cases a with
 |none=>
  have:=hnil rfl
  subst this;obtain rfl:n=0:=by omega
  obtain rfl:p=0:=by omega
  exact⟨none,fun W=>by simp[go_sem,ht],fun b o e=>(by cases e),fun _=>rfl⟩
 |some ad=>
  by_cases hp:cap=p
  . subst hp;obtain rfl:n=cap:=by omega
    refine⟨some ad,fun W=> ?_,fun b o e hlt=>by omega,fun e=>by cases e⟩;simp[go_sem,ht,hs]
  . have h2:(p:Int)<(cap:Int):=by omega
    refine⟨some (ad.add p),fun W=> ?_,fun b o e hlt=> ?_,fun e=>by cases e⟩
    . simp[go_sem,ht,hs,h1,hp]
      try omega
    . cases e
      unfold Addr.add
      split<;>simp_all
def PIn (w:World)(v:Value)(bs:List Nat):Prop:=∃a c,v=.slice a bs.length c/\bs.length<=c/\PkIn w a c bs
theorem PIn.below {w w':World}{v:Value}{bs:List Nat}(h:PIn w v bs)(hB:Below w.heap.size w w'):PIn w' v bs:=by
 obtain⟨a,c,h1,h2,h3⟩:=h;exact⟨a,c,h1,h2,h3.below hB⟩
theorem PIn.nil (w:World):PIn w (.slice none 0 0) []:=⟨none,0,rfl,VB _,.inl rfl,fun _=>rfl⟩
theorem AN (n:Nat):(Builtin.zeroCells (Value.int .u8 0).cells n).toList=u8s (List.replicate n 0):=by
 show (Builtin.zeroCells #[Value.int .u8 0] n).toList=_
 unfold Builtin.zeroCells;apply List.ext_getElem?
 intro i
 by_cases h:i<n
 . simp[h,Nat.mod_one]
 . simp[h]
theorem Oj (w:World)(ty:TypeId)(n:Nat)(h0:0<n)(hn:n<=281474976710656):
 ∃c w',(Builtin.append_ #[23,3] ty #[.slice none 0 0,.int .i64 (n:Int)]).run Tryz.prog w=.ok (.slice (some ⟨w.heap.size,0,none⟩) n c) w'/\n<=c/\c<=maxLen/\w'.heap[w.heap.size]? =some (.cells (u8s (List.replicate c 0)).toArray 5 (0,0))/\w.grownBy w' none:=by
 obtain⟨i0,hi,hz0,hz1,hz2⟩:=info_parts Gz;have hge:=grownCap_ge w n 0 5;have hle:=grownCap_le_maxLen w n 0 5 (by unfold maxLen;omega);have hnz:n≠0:=by omega
 have h63':¬(9223372036854775807<(n:Int)):=by omega
 have hneg:¬((n:Int)<0):=by omega
 have h48:¬(281474976710656<(n:Int)):=by omega
 have h48':¬(281474976710656<Builtin.nextslicecap n 0):=by rw[nextslicecap_zero h0];omega
 have hw:IntKind.i64.wrap (n:Int)=(n:Int):=by simp[IntKind.wrap,IntKind.signed,IntKind.bits];omega
 refine⟨grownCap w n 0 5,w.drew.alloc (.cells (Builtin.zeroCells (Value.int .u8 0).cells n++Builtin.zeroCells (Value.int .u8 0).cells (grownCap w n 0 5-n)) 5), ?_,hge,hle, ?_, ?_⟩
 . simp[Builtin.append_,run_underlying Tryz.underlying23,run_underlying Tryz.underlying3,sizeOf,typeInfo,zeroValue,hi,hz0,hz1,hz2,asInt,asIntOf,hw,hneg,h48,hnz,h63',h48',Question.forced,run_firstCells_none,newRow,grownCap]
 . have:=heap_alloc_new w.drew (.cells (Builtin.zeroCells (Value.int .u8 0).cells n++Builtin.zeroCells (Value.int .u8 0).cells (grownCap w n 0 5-n)) 5)
   rw[show w.drew.heap.size=w.heap.size from rfl]at this;rw[this]
   congr 2
   apply Array.ext'
   rw[Array.toList_append,AN,AN];show _=u8s (List.replicate (grownCap w n 0 5) 0)
   unfold u8s;rw[<-WU,List.replicate_append_replicate]
   congr 2
   omega
 . exact⟨rfl,rfl,rfl,by simp,fun k hk _=>Below.heap_alloc w.drew _ k hk⟩
theorem Kh (w:World){ops:Array Oper}{rest:List Oper}{o:Oper}{a:Act}{Q:Exit->Act->World->Prop}(hgd:o.guard=none)(s x:Operand)
 (ho:o.op=.call {callee:=.builtin .append,args:= #[s,x],argTypes:= #[23,3]}) (n:Nat) (hs:a.eval s=.slice none 0 0) (hx:a.eval x=.int .i64 (n:Int)) (h0:0<n) (hn:n<=281474976710656)
 (h:∀c w',n<=c->c<=maxLen->w'.heap[w.heap.size]? =some (.cells (u8s (List.replicate c 0)).toArray 5 (0,0))->w.grownBy w' none->wpList Tryz.prog ops Q rest (a.put o.dst (.slice (some ⟨w.heap.size,0,none⟩) n c)) w'):
 wpList Tryz.prog ops Q (o::rest) a w:=by
 refine wpList_plain hgd fun K hK=> ?_
 obtain⟨c,w',hr,h2,h3,h4,h5⟩:=Oj w o.type n h0 hn;unfold Oper.wp execOp;simp only[ho,resolve,invoke,builtin,Sem.run_bind,Sem.run_pure,Result.andThen_ok,ZL,WQ,ZE,hs,hx,hr];exact hK _ _ (h c w' h2 h3 h4 h5)
theorem OY (n:Nat)(w:World)(h0:0<n)(hn:n<=281474976710656):Calls Tryz.prog 47 #[.slice none 0 0,.int .i64 (n:Int)] w fun e w'=>∃c,n<=c/\e=.returned (.slice (some ⟨w.heap.size,0,none⟩) 0 c)/\w'.ownsRow w.heap.size 5 1 (.slice (some ⟨w.heap.size,0,none⟩) 0 c) 0 (u8s [])/\Below w.heap.size w w':=by
 go_enter Tryz.func47,Tryz.ntmps47
 go_wp2_with (refine Kh w rfl (.tmp 20) (.tmp 21) rfl n rfl rfl h0 hn ?_)
 intro c w2 hc1 hc2 hg hgr;have HB:=Ab (Hq (Below.refl w.heap.size w) hgr (VB _));have HO:Hid (w2.ownsRow w.heap.size 5 1 (.slice (some ⟨w.heap.size,0,none⟩) 0 c) 0 (u8s [])):=⟨rfl,.inr ⟨w.heap.size,c,_,rfl,VB _,hg,VH _,hc2,by simp,rfl⟩⟩
 clear hg hgr;go_wp2;go_ret;exact⟨c,hc1,rfl,Aa HO,Aa HB⟩
theorem Xf (w:World)(ty:TypeId)(base x:Option Addr)(n cap c:Nat)(h:n<=cap):
 (Builtin.append_ #[23,23] ty #[.slice base n cap,.slice x 0 c]).run Tryz.prog w=.ok (.slice base n cap) w:=by
 obtain⟨i0,hi,hz0,hz1,hz2⟩:=info_parts Gz
 have hf:(Builtin.firstCells i0.size 0 (.slice x 0 c)).run Tryz.prog w=.ok #[] w:=by
  cases x with
  |none=>exact run_firstCells_none w i0.size 0 0 c
  |some b=>exact run_firstCells_some w i0.size 0 b 0 c [] (by simp) (by simp)
 rw[hz1]at hf
 cases base<;>simp[Builtin.append_,run_underlying Tryz.underlying23,sizeOf,typeInfo,hi,hz1,Builtin.lenOf,hf,h,storeCells]
theorem Ii (w:World){ops:Array Oper}{rest:List Oper}{o:Oper}{a:Act}{Q:Exit->Act->World->Prop}(hgd:o.guard=none)(s x:Operand)
 (ho:o.op=.call {callee:=.builtin .append,args:= #[s,x],argTypes:= #[23,23]}) (base y:Option Addr) (n cap c:Nat) (hs:a.eval s=.slice base n cap) (hx:a.eval x=.slice y 0 c) (hn:n<=cap)
 (h:wpList Tryz.prog ops Q rest (a.put o.dst (.slice base n cap)) w):wpList Tryz.prog ops Q (o::rest) a w:=by
 refine wpList_plain hgd fun K hK=> ?_
 unfold Oper.wp execOp;simp only[ho,resolve,invoke,builtin,Sem.run_bind,Sem.run_pure,Result.andThen_ok,ZL,WQ,ZE,hs,hx,Xf w o.type base y n cap c hn];exact hK _ _ h
theorem OX (w:World):Calls Tryz.prog 47 #[.slice none 0 0,.int .i64 0] w fun e w'=>e=.returned (.slice none 0 0)/\w'=w:=by
 go_enter Tryz.func47,Tryz.ntmps47
 go_wp2;go_ret
 trivial
def Iu (ps:List (Option Addr×Nat×List Nat)):Nat->List Nat
 |0=> []
 |k+1=>Iu ps k++(ps.getD k (none,0,[])).2.2
theorem Z5g (ps:List (Option Addr×Nat×List Nat)){j k:Nat}(h:j<=k):(Iu ps j).length<=(Iu ps k).length:=by
 induction k with
 |zero=>rw[show j=0 by omega];exact VB _
 |succ k ih=>
  by_cases e:j=k+1
  . rw[e];exact VB _
  . have:=ih (by omega)
    rw[Iu,VE];omega
theorem AD {w:World}{b o:Nat}{xs:List Nat}(h:Bytes w b o xs):∀j u,(u8s xs)[j]? =some u->w.cell? ((⟨b,o,none⟩:Addr).add j)=some u:=by
 intro j u hj;have e:(⟨b,o,none⟩:Addr).add j=⟨b,o+j,none⟩:=by unfold Addr.add;split<;>simp_all
 have hj2:j<xs.length:=by
  by_cases c:j<xs.length
  . exact c
  . rw[WJ (by simp[u8s];omega)]at hj;cases hj
 have:=h j hj2
 rw[e,this];simp[u8s,hj2]at hj
 subst hj;simp[List.getD,hj2]
theorem Z3b (xs:List Nat):∀u∈u8s xs,u.oneCell'=true:=by intro u hu;obtain⟨x,_,rfl⟩:=XG.1 hu;rfl
theorem IY (b o len cap:Nat)(ps:List (Option Addr×Nat×List Nat))(w:World)(hb:b<w.heap.size)(hc:∀j,j<len->w.cell? ⟨b,o+j,none⟩=some (.slice (ps.getD j (none,0,[])).1 (ps.getD j (none,0,[])).2.2.length (ps.getD j (none,0,[])).2.1))
 (hr:∀j,j<len->BytesIn w (ps.getD j (none,0,[])).1 (ps.getD j (none,0,[])).2.2) (hsum:(Iu ps len).length<=281474976710656) (hlen:len<=100):
 Calls Tryz.prog 29 #[.slice (some ⟨b,o,none⟩) len cap] w fun e w'=>∃a c,(Iu ps len).length<=c/\e=.returned (.slice a (Iu ps len).length c)/\BytesIn w' a (Iu ps len)/\Below w.heap.size w w'/\(a=none->c=0):=by
 obtain⟨i0,hi,hz0,hz1,hz2⟩:=info_parts Gz;have HC:=Ab hc;have HR:=Ab hr;obtain⟨T,hT⟩:∃T,(Iu ps len).length=T:=⟨_,rfl⟩
 rw[hT]at hsum;have HTT:=Ab hT;have HS:Hid (∀k,k<=len->(Iu ps k).length<=T):=Ab (fun k hk=>by rw[<-hT];exact Z5g ps hk);clear hc hr hT;go_enter Tryz.func29,Tryz.ntmps29
 go_wp2;go_loop [3,11] (fun v3 v11=>∃k:Nat,k<=len/\v11=.int .i64 (k:Int)/\v3=.int .i64 ((Iu ps k).length:Int)) (fun _ v11=>len-(intOf v11).toNat)
 case atStart=>exact⟨0,VH _,rfl,rfl⟩
 case round=>
  obtain⟨k,hk,rfl,rfl⟩:=hrel
  by_cases hlt:k<len
  . have c1:=Aa HC k hlt;have hs:=Aa HS (k+1) (by omega);have HN:Hid ((Iu ps (k+1)).length=(Iu ps k).length+(ps.getD k (none,0,[])).2.2.length):=Ab (by rw[Iu,VE]);rw[Aa HN]at hs;generalize (ps.getD k (none,0,[])).2.2.length=m at*;generalize (ps.getD k (none,0,[])).2.1=mc at*;generalize (ps.getD k (none,0,[])).1=g at*;generalize (Iu ps k).length=L at*;go_wp2;go_round
    case rel=>exact⟨k+1,by omega,by go_num,by rw[Aa HN];go_num⟩
    case measure=>simp[intOf];omega
  . obtain rfl:len=k:=by omega
    rw[Aa HTT]
    by_cases hT0:T=0
    . subst hT0;go_wp2_with fail
      refine(OX w).mono ?_;rintro e w2 ⟨rfl,rfl⟩;go_wp2;go_loop [6,27] (fun v6 v27=>∃k:Nat,k<=len/\v27=.int .i64 (k:Int)/\v6=.slice none 0 0) (fun _ v27=>len-(intOf v27).toNat)
      case atStart=>exact⟨0,VH _,rfl,rfl⟩
      case round=>
       obtain⟨k,hk2,rfl,rfl⟩:=hrel
       by_cases hlt2:k<len
       . have c1:=Aa HC k hlt2;have hs:=Aa HS (k+1) (by omega);rw[Iu,VE]at hs;have h0:(ps.getD k (none,0,[])).2.2.length=0:=by omega
         rw[h0]at c1;generalize (ps.getD k (none,0,[])).2.1=mc at*;generalize (ps.getD k (none,0,[])).1=g at*;clear hs h0;go_wp2_with (at_builtin;refine Ii _ rfl (.tmp 31) (.tmp 32) rfl none g 0 0 mc rfl rfl (VB _) ?_)
         go_round
         case rel=>exact⟨k+1,by omega,by go_num,rfl⟩
         case measure=>simp[intOf];omega
       . obtain rfl:len=k:=by omega
         go_wp2;go_ret;exact⟨none,0,by rw[Aa HTT];exact VB _,by rw[Aa HTT];rfl,.inl (ZH.1 (Aa HTT)),Below.refl _ _,fun _=>rfl⟩
    . go_wp2_with fail
      refine(OY T w (by omega) hsum).mono ?_;rintro e w2 ⟨c,hTc,rfl,hO2,hB2⟩;have HO2:=Ab hO2;have HB2:=Ab hB2;clear hO2 hB2;go_wp2;go_loopw [6,27] (fun v6 v27 wr=>∃k:Nat,k<=len/\v27=.int .i64 (k:Int)/\v6=.slice (some ⟨w.heap.size,0,none⟩) (Iu ps k).length c/\Hid (wr.ownsRow w.heap.size 5 1 (.slice (some ⟨w.heap.size,0,none⟩) (Iu ps k).length c) (Iu ps k).length (u8s (Iu ps k)))/\Hid (Below w.heap.size w wr)) (fun _ v27 _=>len-(intOf v27).toNat)
      case atStart=>exact⟨0,VH _,rfl,rfl,HO2,HB2⟩
      case round=>
       obtain⟨k,hk2,rfl,rfl,HO,HBr⟩:=hrel
       by_cases hlt2:k<len
       . have c1:=((Aa HBr).cell (p:=⟨b,o+k,none⟩) hb).trans (Aa HC k hlt2);have hrow:=(Aa HR k hlt2).below (Aa HBr) (VB _);have hs:=Aa HS (k+1) (by omega);have HN:Hid (Iu ps (k+1)=Iu ps k++(ps.getD k (none,0,[])).2.2):=Ab rfl;rw[Aa HN,VE]at hs;generalize (ps.getD k (none,0,[])).2.2=xs at*;generalize (ps.getD k (none,0,[])).1=g at*;generalize (ps.getD k (none,0,[])).2.1=mc at*
         rcases hrow with rfl|⟨gb,go,rfl,hgb,hrow⟩
         . have HN2:Hid (Iu ps (k+1)=Iu ps k):=Ab (by rw[Aa HN,XA]);simp only[WE]at c1 hs;generalize hL:(Iu ps k).length=L at*;clear HN;go_wp2_with (at_builtin;refine Ii _ rfl (.tmp 31) (.tmp 32) rfl _ g L c mc rfl rfl (by omega) ?_)
           go_roundw
           case rel=>exact⟨k+1,by omega,by go_num,by rw[Aa HN2,hL],Ab (by rw[Aa HN2,hL];exact Aa HO),HBr⟩
           case measure=>simp[intOf];omega
         . have HRC:=Ab (AD hrow);obtain⟨m,hm⟩:∃m,xs.length=m:=⟨_,rfl⟩
           obtain⟨L,hL⟩:∃L,(Iu ps k).length=L:=⟨_,rfl⟩
           rw[hm]at c1 hs;rw[hL]at hs HO ⊢;have HM:=Ab hm;have HLL:=Ab hL;clear hrow hm hL;go_wp2_with (at_builtin;refine wpList_append_own_spare _ rfl (.tmp 31) (.tmp 32) 23 rfl w.heap.size 5 i0 1 Tryz.underlying23 hi hz1 w.heap.size L c (u8s (Iu ps k)) rfl (Aa HO) ⟨gb,go,none⟩ m mc (u8s xs) rfl (by simp[u8s,Aa HM]) (Aa HRC) (Z3b xs) (by omega) ?_)
           intro w4 hO4 hgrow
           have HO4:Hid (w4.ownsRow w.heap.size 5 1 (.slice (some ⟨w.heap.size,0,none⟩) (Iu ps (k+1)).length c) (Iu ps (k+1)).length (u8s (Iu ps (k+1)))):=by
            rw[Aa HN,VE,Aa HLL,Aa HM];show w4.ownsRow w.heap.size 5 1 _ (L+m) (List.map _ (Iu ps k++xs))
            rw[WU];exact hO4
           have HB4:=Ab ((Aa HBr).grown hgrow (Aa HBr).size (fun g e=>by cases e;exact VB _));have HLN:Hid ((Iu ps (k+1)).length=L+m):=Ab (by rw[Aa HN,VE,Aa HLL,Aa HM]);clear hO4 hgrow c1 HRC;go_wp2;go_roundw
           case rel=>exact⟨k+1,by omega,by go_num,by rw[Aa HLN],HO4,HB4⟩
           case measure=>simp[intOf];omega
       . obtain rfl:len=k:=by omega
         rw[Aa HTT]at HO ⊢;go_wp2;go_ret;exact⟨_,c,by rw[Aa HTT];exact hTc,by rw[Aa HTT];rfl,BytesIn.own (Aa HO),Aa HBr,fun e=>by cases e⟩
end Go.Proofs.YtleocpdblhbimaaGreatDoor
