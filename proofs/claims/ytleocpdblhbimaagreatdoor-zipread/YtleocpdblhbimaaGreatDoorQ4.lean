import Derived.Test.YtleocpdblhbimaaGreatDoorQ3
import Derived.Maps.AppendAt
import Derived.Laws.AppendOwnNone
import Derived.Lib.AppendStr
import Derived.Deep.RegionLaw
import Derived.Deep.DeepCutAuto
import Derived.Deep.DeepAppendRoom
import Derived.OwnWalk
set_option linter.unusedSimpArgs false
set_option maxHeartbeats 2000000
namespace Go.Proofs.YtleocpdblhbimaaGreatDoor
set_option linter.unusedVariables false
def n8 (l:List UInt8):List Nat:=l.map UInt8.toNat
def o8 (l:List Nat):List UInt8:=l.map UInt8.ofNat
theorem Da (l:List UInt8):(n8 l).length=l.length:=by simp[n8]
theorem Ey (l:List Nat):(o8 l).length=l.length:=by simp[o8]
theorem Lv (l:List UInt8):∀x∈n8 l,x<256:=by
 intro x E;obtain⟨y,_,rfl⟩:=XG.1 E;exact y.toNat_lt
theorem FQ (l:List UInt8):o8 (n8 l)=l:=by simp[o8,n8,ZA]
theorem Z0w {l:List Nat}(F:∀x∈l,x<256):n8 (o8 l)=l:=by
 unfold n8 o8;rw[ZU]
 conv=>rhs;rw[<-List.map_id l]
 apply YR
 intro x E;have:=F x E
 simp
 omega
theorem Er {l:List Nat}(F:∀x∈l,x<256)(j:Nat):l.getD j 0<256:=by
 by_cases E:j<l.length
 . have e:l.getD j 0=l[j]:=by simp[List.getD,E]
   rw[e];exact F _ (WK E)
 . simp[List.getD,E]
theorem Yf {l:List Nat}(G:∀j,l.getD j 0<256):∀x∈l,x<256:=by
 intro x E;obtain⟨j,F,rfl⟩:=XI E;have:=G j
 simpa[List.getD,F]using this
structure En where
 f:Fl
 meth:Nat
 pk:List Nat
 crc:Nat
def Ed (b:Bool):Nat:=if b then 1 else 0
def To (x:En):List Nat:=Ag 20 2++Ag 0 2++Ag x.meth 2++Ag 0 4++Ag x.crc 4++Ag x.pk.length 4++Ag x.f.bytes.length 4++Ag x.f.name.length 2++Ag 11 2
def Jj (x:En):List Nat:=Ag 29297 2++Ag 7 2++Ag x.f.stamp.toNat 4++Ag x.f.node.toNat 2++Ag (Ed x.f.gone) 1
def Vr (x:En):List Nat:=Ag 67324752 4++To x++n8 x.f.name++Jj x++x.pk
def Qo (x:En)(p:Nat):List Nat:=Ag 33639248 4++Ag 20 2++To x++Ag 0 10++Ag p 4++n8 x.f.name++Jj x
def Av:List En->List Nat
 | []=> []
 |x::r=>Vr x++Av r
def Ao:Nat->List En->List Nat
 |_,[]=> []
 |p,x::r=>Qo x p++Ao (p+(Vr x).length) r
def Pm (n size at_:Nat):List Nat:=Ag 101010256 4++Ag 0 4++Ag n 2++Ag n 2++Ag size 4++Ag at_ 4++Ag 0 2
def Be (l:List En):List Nat:=Av l++Ao 0 l++Pm l.length (Ao 0 l).length (Av l).length
theorem Ly (x:En):(To x).length=26:=by simp[To,Ai]
theorem Ie (x:En):(Jj x).length=11:=by simp[Jj,Ai]
theorem Kc (x:En):(Vr x).length=41+x.f.name.length+x.pk.length:=by simp[Vr,Ai,Ly,Ie,Da];omega
theorem Lk (x:En)(p:Nat):(Qo x p).length=57+x.f.name.length:=by simp[Qo,Ai,Ly,Ie,Da];omega
theorem Pl (n s a:Nat):(Pm n s a).length=22:=by simp[Pm,Ai]
theorem CW:∀(a b:List En),Av (a++b)=Av a++Av b
 | [],b=>rfl
 |x::a,b=>by rw[XL,Av,CW a b,Av,VS]
theorem Zv:∀(a b:List En) (p:Nat),Ao p (a++b)=Ao p a++Ao (p+(Av a).length) b
 | [],b,p=>by simp[Ao,Av]
 |x::a,b,p=>by rw[XL,Ao,Zv a b,Ao,Av,VS,VE,WT]
theorem Di {a b:List Nat}(G:∀x∈a,x<256)(F:∀x∈b,x<256):∀x∈a++b,x<256:=by
 intro x E
 rcases WP.1 E with h|h
 . exact G x h
 . exact F x h
theorem CB (x:En):∀y∈To x,y<256:=by
 unfold To
 repeat first|apply Fi|apply Di
theorem DD (x:En):∀y∈Jj x,y<256:=by
 unfold Jj
 repeat first|apply Fi|apply Di
theorem Z1j (x:En)(E:∀y∈x.pk,y<256):∀y∈Vr x,y<256:=by
 unfold Vr;exact Di (Di (Di (Di (Fi _ _) (CB x)) (Lv _)) (DD x)) E
theorem TZ (x:En)(p:Nat):∀y∈Qo x p,y<256:=by
 unfold Qo;exact Di (Di (Di (Di (Di (Di (Fi _ _) (Fi _ _)) (CB x)) (Fi _ _)) (Fi _ _)) (Lv _)) (DD x)
theorem CT:∀(l:List En),(∀x∈l,∀y∈x.pk,y<256)->∀y∈Av l,y<256
 | [],_=>fun y E=>by cases E
 |x::r,h=>Di (Z1j x (h x (by simp))) (CT r (fun z F=>h z (WR _ F)))
theorem Zt:∀(l:List En) (p:Nat),∀y∈Ao p l,y<256
 | [],_=>fun y E=>by cases E
 |x::r,p=>Di (TZ x p) (Zt r _)
theorem Z1v (n s a:Nat):∀y∈Pm n s a,y<256:=by
 unfold Pm
 repeat first|apply Fi|apply Di
theorem Yx (l:List En)(E:∀x∈l,∀y∈x.pk,y<256):∀y∈Be l,y<256:=Di (Di (CT l E) (Zt l 0)) (Z1v _ _ _)
def Dy (k:Nat)(r:List Nat):Option (List Nat×List Nat):=if r.length<k then none else some (r.take k,r.drop k)
theorem Br (a r:List Nat){k:Nat}(E:a.length=k):Dy k (a++r)=some (a,r):=by
 unfold Dy;rw[if_neg (by rw[VE];omega),YS E,YT E]
theorem Pj (n k:Nat)(r:List Nat):Dy k (Ag n k++r)=some (Ag n k,r):=Br _ _ (Ai k n)
theorem J7 {k:Nat}{r a q:List Nat}(E:Dy k r=some (a,q)):r=a++q/\a.length=k:=by
 unfold Dy at E
 split at E
 . cases E
 . rename_i F
   simp only[YB,YD]at E;obtain⟨rfl,rfl⟩:=E;exact⟨(YW _ _).symm,by rw[VL];omega⟩
theorem Ap {G:Type}{k:Nat}{r:List Nat}{f:List Nat×List Nat->Option G}{y:G}(F:(Dy k r).bind f=some y):
 ∃a q,r=a++q/\a.length=k/\f (a,q)=some y:=by
 cases E:Dy k r with
 |none=>rw[E]at F;cases F
 |some p=>rw[E]at F;exact⟨p.1,p.2,(J7 E).1,(J7 E).2,F⟩
def unpF (m:Nat)(pk:List Nat):Option (List Nat):=
 if m=0 then some pk
 else if m=8 then (if pk.length<=6000/\(Dk (rowB pk pk.length)).e=0/\((Dk (rowB pk pk.length)).p+7)/8=pk.length then some (Dk (rowB pk pk.length)).out else none)
 else none
def Fe (r:List Nat):Option (En×List Nat):=
 (Dy 4 r).bind fun a1=>(Dy 2 a1.2).bind fun a2=>(Dy 4 a2.2).bind fun a3=>(Dy 4 a3.2).bind fun a4=>(Dy 4 a4.2).bind fun a5=>
 (Dy 4 a5.2).bind fun a6=>(Dy 2 a6.2).bind fun a7=>(Dy 2 a7.2).bind fun a8=>(Dy (Ak a7.1) a8.2).bind fun a9=>(Dy 4 a9.2).bind fun a10=>
 (Dy 4 a10.2).bind fun a11=>(Dy 2 a11.2).bind fun a12=>(Dy 1 a12.2).bind fun a13=>(Dy (Ak a5.1) a13.2).bind fun a14=>
 (unpF (Ak a2.1) a14.1).bind fun b=>some (⟨⟨o8 a9.1,o8 b,(Ak a11.1:Nat),(Ak a12.1:Nat),decide (Ak a13.1=1)⟩,Ak a2.1,a14.1,Ak a4.1⟩,a14.2)
def Cd:Nat->List Nat->Option (List En)
 |0,_=>none
 |F+1,r=>(Dy 4 r).bind fun m=>if Ak m.1=67324752 then (Fe m.2).bind fun x=>(Cd F x.2).map (x.1:: ·)else some []
theorem Si {r:List Nat}{x:En}{q:List Nat}(E:Fe r=some (x,q)):
 q.length+37<=r.length/\((∀z∈r,z<256)->(∀z∈x.pk,z<256)/\∀z∈q,z<256)/\∀t,Fe (r++t)=some (x,q++t):=by
 unfold Fe at E;obtain⟨ay,r1,rfl,l1,E⟩:=Ap E;dsimp only at E;obtain⟨Z,r2,rfl,l2,E⟩:=Ap E;dsimp only at E;obtain⟨aj,an,rfl,ag,E⟩:=Ap E;dsimp only at E;obtain⟨a4,au,rfl,O,E⟩:=Ap E;dsimp only at E;obtain⟨av,a3,rfl,T,E⟩:=Ap E;dsimp only at E;obtain⟨al,am,rfl,ae,E⟩:=Ap E;dsimp only at E;obtain⟨a2,a1,rfl,I,E⟩:=Ap E;dsimp only at E;obtain⟨ap,ai,rfl,Y,E⟩:=Ap E;dsimp only at E;obtain⟨aq,aw,rfl,ac,E⟩:=Ap E;dsimp only at E;obtain⟨as,a0,rfl,l10,E⟩:=Ap E;dsimp only at E;obtain⟨ao,a5,rfl,af,E⟩:=Ap E;dsimp only at E;obtain⟨ar,ak,rfl,aa,E⟩:=Ap E;dsimp only at E;obtain⟨ah,az,rfl,U,E⟩:=Ap E;dsimp only at E;obtain⟨M,ax,rfl,ab,E⟩:=Ap E;dsimp only at E
 cases F:unpF (Ak Z) M with
 |none=>rw[F]at E;cases E
 |some b=>
  rw[F]at E;simp only[VF,YB,YD]at E;obtain⟨rfl,rfl⟩:=E;refine⟨?_,fun H=>⟨fun z G=>H z (by simp[G]),fun z G=>H z (by simp[G])⟩,fun t=> ?_⟩
  . simp only[VE];omega
  . unfold Fe;simp only[VS];rw[Br _ _ l1,VF];dsimp only;rw[Br _ _ l2,VF];dsimp only;rw[Br _ _ ag,VF];dsimp only;rw[Br _ _ O,VF];dsimp only;rw[Br _ _ T,VF];dsimp only;rw[Br _ _ ae,VF];dsimp only;rw[Br _ _ I,VF];dsimp only;rw[Br _ _ Y,VF];dsimp only;rw[Br _ _ ac,VF];dsimp only;rw[Br _ _ l10,VF];dsimp only;rw[Br _ _ af,VF];dsimp only;rw[Br _ _ aa,VF];dsimp only;rw[Br _ _ U,VF];dsimp only;rw[Br _ _ ab,VF];dsimp only;rw[F];rfl
theorem IG:∀ {F:Nat} {r:List Nat} {l:List En},Cd F r=some l->∀t,Cd F (r++t)=some l
 |0,r,l,h,t=>by cases h
 |F+1,r,l,h,t=>by
  unfold Cd at h ⊢;obtain⟨m,q,rfl,hl,h⟩:=Ap h;dsimp only at h;rw[VS,Br _ _ hl,VF];dsimp only
  split at h
  . rename_i hm
    rw[if_pos hm]
    cases E:Fe q with
    |none=>rw[E]at h;cases h
    |some p=>
     rw[E]at h;rw[(Si (x:=p.1) (q:=p.2) E).2.2 t,VF];simp only[VF,XF]at h ⊢;obtain⟨l2,H,G⟩:=h;exact⟨l2,IG H t,G⟩
  . rename_i hm
    rw[if_neg hm];exact h
theorem Sf:∀ {F:Nat} {r:List Nat} {l:List En},Cd F r=some l->(∀z∈r,z<256)->∀x∈l,∀z∈x.pk,z<256
 |0,r,l,h,_=>by cases h
 |F+1,r,l,h,hv=>by
  unfold Cd at h;obtain⟨m,q,rfl,hl,h⟩:=Ap h;dsimp only at h
  split at h
  . cases G:Fe q with
    |none=>rw[G]at h;cases h
    |some p=>
     rw[G]at h;simp only[VF,XF]at h;obtain⟨l2,M,rfl⟩:=h;have H:=(Si (x:=p.1) (q:=p.2) G).2.1 (fun z I=>hv z (by simp[I]));intro x E
     rcases WH.1 E with rfl|E
     . exact H.1
     . exact Sf M H.2 x E
  . cases h
    intro x E
    cases E
structure EOk (x:En):Prop where
 st:0<=x.f.stamp/\x.f.stamp<4294967296
 nd:0<=x.f.node/\x.f.node<65536
 nm:x.f.name.length<65536
 pl:x.pk.length<4294967296
 cr:x.crc<4294967296
 mt:x.meth<65536
 un:unpF x.meth x.pk=some (n8 x.f.bytes)
theorem Z1s (x:En)(H:EOk x)(t:List Nat):Fe (To x++n8 x.f.name++Jj x++x.pk++t)=some (x,t):=by
 have e:To x++n8 x.f.name++Jj x++x.pk++t=(Ag 20 2++Ag 0 2)++(Ag x.meth 2++(Ag 0 4++(Ag x.crc 4++(Ag x.pk.length 4++(Ag x.f.bytes.length 4++(Ag x.f.name.length 2++(Ag 11 2++(n8 x.f.name++((Ag 29297 2++Ag 7 2)++(Ag x.f.stamp.toNat 4++(Ag x.f.node.toNat 2++(Ag (Ed x.f.gone) 1++(x.pk++t))))))))))))):=by
  simp only[To,Jj,VS]
 obtain⟨⟨E,st1⟩,⟨F,Y⟩,nm,pl,cr,mt,un⟩:=H;have o1:Ak (Ag x.meth 2)=x.meth:=Cu 2 _ mt;have o2:Ak (Ag x.crc 4)=x.crc:=Cu 4 _ cr;have M:Ak (Ag x.pk.length 4)=x.pk.length:=Cu 4 _ pl;have I:Ak (Ag x.f.name.length 2)=x.f.name.length:=Cu 2 _ nm;have T:Ak (Ag x.f.stamp.toNat 4)=x.f.stamp.toNat:=Cu 4 _ (by show _<4294967296;omega);have O:Ak (Ag x.f.node.toNat 2)=x.f.node.toNat:=Cu 2 _ (by show _<65536;omega);have G:Ak (Ag (Ed x.f.gone) 1)=Ed x.f.gone:=Cu 1 _ (by unfold Ed;split<;>decide);rw[e];unfold Fe;rw[Br _ _ (show (Ag 20 2++Ag 0 2).length=4 from rfl)];simp only[VF,Pj,o1,o2,M,I];rw[Br _ _ (Da x.f.name)];simp only[VF];rw[Br _ _ (show (Ag 29297 2++Ag 7 2).length=4 from rfl)];simp only[VF,Pj,T,O,G];rw[Br _ _ rfl];simp only[VF,un,FQ,YB,YD,and_true];have U:((x.f.stamp.toNat:Nat):Int)=x.f.stamp:=YU E;have e2:((x.f.node.toNat:Nat):Int)=x.f.node:=YU F;have e3:decide (Ed x.f.gone=1)=x.f.gone:=by cases x.f.gone<;>rfl
 rw[U,e2,e3]
theorem Vv:∀(l:List En) {F:Nat} {t:List Nat},(∀x∈l,EOk x)->l.length<F->(∃m q,Dy 4 t=some (m,q)/\Ak m≠67324752)->Cd F (Av l++t)=some l
 | [],0,t,_,h,_=>by cases h
 | [],F+1,t,_,_,⟨m,q,h1,h2⟩=>by
  unfold Cd;show (Dy 4 t).bind _=_
  rw[h1,VF];dsimp only;rw[if_neg h2]
 |x::l,0,t,_,h,_=>by cases h
 |x::l,F+1,t,h,hF,ht=>by
  unfold Cd
  have e:Av (x::l)++t=Ag 67324752 4++(To x++n8 x.f.name++Jj x++x.pk++(Av l++t)):=by
   simp only[Av,Vr,VS]
  have hm:Ak (Ag 67324752 4)=67324752:=Cu 4 _ (by decide);rw[e,Pj,VF];dsimp only;rw[if_pos hm,Z1s x (h x (by simp)),VF];dsimp only;rw[Vv l (fun y E=>h y (WR _ E)) (by simpa using hF) ht];rfl
theorem Se (l:List En)(G:∀x∈l,EOk x)(t:List Nat){F:Nat}(E:l.length<F):Cd F (Be l++t)=some l:=by
 unfold Be;rw[VS,VS];refine Vv l G E ?_
 cases l with
 |nil=>
  refine⟨Ag 101010256 4,(Pm 0 0 0).drop 4++t, ?_,by rw[Cu 4 _ (by decide)];decide⟩;exact Br (Ag 101010256 4) ((Pm 0 0 0).drop 4++t) rfl
 |cons x r=>
  refine⟨Ag 33639248 4,Ag 20 2++(To x++(Ag 0 10++(Ag 0 4++(n8 x.f.name++(Jj x++(Ao (0+(Vr x).length) r++(Pm (x::r).length (Ao 0 (x::r)).length (Av (x::r)).length++t))))))), ?_,by rw[Cu 4 _ (by decide)];decide⟩;rw[<-Pj];simp only[Ao,Qo,VS]
theorem JP (l:List En):l.length+22<=(Be l).length:=by
 have:∀l:List En,l.length<=(Av l).length:=by
  intro l
  induction l with
  |nil=>exact VH _
  |cons x r ih=>rw[Av,VE,Kc,VJ];omega
 have h:=this l;unfold Be;rw[VE,VE,Pl];omega
theorem Yy (l:List En):l.length<(Be l).length+1:=by
 have:=JP l
 omega
def sumsF (l:List En):Bool:=l.all fun x=>decide (x.crc=crcN 0 (n8 x.f.bytes))
def readE (b:List Nat):Nat:=
 if 12000<b.length then 2
 else match Cd (b.length+1) b with
  |none=>7
  |some l=>if errM (l.map En.f)≠0\/Be l≠b then 7 else if sumsF l=false then 10 else 0
def readL (b:List Nat):List Fl:=if readE b≠0 then []else ((Cd (b.length+1) b).getD []).map En.f
theorem C6 {b:List Nat}(E:readE b=0):∃l,Cd (b.length+1) b=some l/\errM (l.map En.f)=0/\Be l=b/\sumsF l=true/\readL b=l.map En.f/\b.length<=12000:=by
 have F:readL b=((Cd (b.length+1) b).getD []).map En.f:=by unfold readL;rw[if_neg (by rw[E];decide)]
 unfold readE at E
 split at E
 . cases E
 . rename_i hb
   cases G:Cd (b.length+1) b with
   |none=>rw[G]at E;cases E
   |some l=>
    rw[G]at E F;dsimp only at E
    split at E
    . cases E
    . rename_i hc
      split at E
      . cases E
      . rename_i H
        refine⟨l,rfl, ?_, ?_, ?_,F,by omega⟩
        . by_cases e:errM (l.map En.f)=0
          . exact e
          . exact absurd (.inl e) hc
        . by_cases e:Be l=b
          . exact e
          . exact absurd (.inr e) hc
        . cases e:sumsF l
          . exact absurd e H
          . rfl
theorem ME (l:List En)(H:∀x∈l,EOk x)(I:errM (l.map En.f)=0)(M:sumsF l=true)(O:(Be l).length<=12000):readE (Be l)=0/\readL (Be l)=l.map En.f:=by
 have F:Cd ((Be l).length+1) (Be l)=some l:=by
  have:=Se l H [] (Yy l)
  rwa [XA]at this
 have G:readE (Be l)=0:=by
  unfold readE;rw[if_neg (by omega),F];dsimp only;rw[if_neg (by intro E;rcases E with E|E;exact E I;exact E rfl),if_neg (by rw[M];decide)]
 refine⟨G, ?_⟩;unfold readL;rw[if_neg (by rw[G];decide),F];rfl
end Go.Proofs.YtleocpdblhbimaaGreatDoor
namespace Go.Proofs.YtleocpdblhbimaaGreatDoor
open Go.RowKit
set_option linter.unusedVariables false
set_option maxRecDepth 100000
def KpT (w w':World):Prop:=∀(g:Nat) (cs:Array Value) (t:TypeId) (fz:Nat×Nat),t≠5->t≠101->w.heap[g]? =some (Obj.cells cs t fz)->w'.heap[g]? =some (Obj.cells cs t fz)
theorem KpT.refl (w:World):KpT w w:=fun _ _ _ _ _ _ h=>h
theorem KpT.trans {a b c:World}(H:KpT a b)(k:KpT b c):KpT a c:=fun g cs t fz F E G=>k g cs t fz F E (H g cs t fz F E G)
theorem KpT.below {w w':World}(F:Below w.heap.size w w'):KpT w w':=fun g cs t fz _ _ E=>(F.block g (VK.1 E).1).trans E
structure ZC (B:Nat)(w:World)(b:Nat)(xs:List Nat)(ov:Value):Prop where
 base:B<=b
 cell:w.heap[b]? =some (.cells #[ov] 101 (0,0))
 own:w.ownsRow (b+1) 5 1 ov xs.length (u8s xs)
theorem ZC.lt {B b:Nat}{w:World}{xs:List Nat}{E:Value}(F:ZC B w b xs E):b<w.heap.size:=(VK.1 F.cell).1
structure ZUp (B:Nat)(w:World)(b:Nat)(xs:List Nat)(w':World):Prop where
 is:∃ov,ZC B w' b xs ov
 below:Below B w w'
 kp:KpT w w'
theorem ZUp.refl {B b:Nat}{w:World}{xs:List Nat}{E:Value}(F:ZC B w b xs E):ZUp B w b xs w:=⟨⟨E,F⟩,Below.refl _ _,KpT.refl _⟩
theorem ZUp.trans {B b:Nat}{w E F:World}{xs ys:List Nat}(G:ZUp B w b xs E)(k:ZUp B E b ys F):ZUp B w b ys F:=⟨k.is,G.below.trans k.below,G.kp.trans k.kp⟩
theorem ZC.later {B b:Nat}{w w':World}{xs:List Nat}{F:Value}(E:ZC B w b xs F)(G:Below w.heap.size w w'):ZC B w' b xs F:=
 ⟨E.base,(G.block b E.lt).trans E.cell,Au E.own (fun g H=>G.block g (E.own.lt g H).2)⟩
theorem ZC.apart {B b:Nat}{w:World}{xs:List Nat}{E:Value}(G:ZC B w b xs E):E.ownBlock=none\/E.ownBlock≠some b:=by
 cases F:E.ownBlock with
 |none=>exact .inl rfl
 |some g=>
  refine .inr (fun e=> ?_);have:=(G.own.lt g F).1
  cases e
  omega
theorem Oy {w:World}{B e M n G:Nat}{v:Value}{xs:List Value}(I:w.ownsRow B e M v n xs)(F:v.ownBlock=some G):∃cs,w.heap[G]? =some (.cells cs e (0,0)):=by
 rcases I.2 with ⟨E,_⟩|⟨O,cap,cur,E,T,H,_⟩
 . subst E;cases F
 . subst E
   cases F
   exact⟨_,H⟩
theorem ZC.put {B b:Nat}{r W w':World}{xs ys:List Nat}{G v':Value}(E:ZC B r b xs G)(I:r.grownBy W none)(H:W.grownBy w' G.ownBlock)(U:w'.ownsRow (b+1) 5 1 v' (xs.length+ys.length) (u8s xs++u8s ys)):
 w'.cell? ⟨b,0,none⟩=some G/\w'.frozen? ⟨b,0,none⟩=false/\ZUp B r b (xs++ys) (w'.setCell ⟨b,0,none⟩ v'):=by
 have ac:=E.lt;have am:=I.size;have al:=H.size;have Y:W.heap[b]? =some (.cells #[G] 101 (0,0)):=(I.block b ac (by simp)).trans E.cell;have O:w'.heap[b]? =some (.cells #[G] 101 (0,0)):=(H.block b (by omega) (fun e=>by rcases E.apart with E|E;rw[E]at e;cases e;exact E e.symm)).trans Y;have M:=Ad w' b 0 v'
 have aj:v'.ownBlock=none\/v'.ownBlock≠some b:=by
  cases ae:v'.ownBlock with
  |none=>exact .inl rfl
  |some g=>
   refine .inr (fun e=> ?_);have:=(U.lt g ae).1
   cases e
   omega
 have T:=E.base;refine⟨Ac O,frozen_of_row w' b 0 _ _ O,⟨v',T, ?_, ?_⟩, ?_, ?_⟩
 . rw[heap_setCell_same w' b 0 _ _ _ O];rfl
 . have:=U.kept M aj
   rw[VE,u8s,WU];exact this
 . have ah:=(Below.refl B r).grown I (by omega) (fun g e=>by cases e);have b1:=ah.grown H (by omega) (fun g e=>by have:=(E.own.lt g e).1;omega);exact b1.grown M (by omega) (fun g e=>by cases e;exact T)
 . intro g cs t fz aa ab F;have ag:=(VK.1 F).1;have Z:W.heap[g]? =some (.cells cs t fz):=(I.block g ag (by simp)).trans F
   have af:some g≠G.ownBlock:=by
    intro e;obtain⟨ak,hc⟩:=Oy E.own e.symm;rw[F]at hc
    injection hc with hc
    injection hc with _ hc2
    exact aa hc2
   have e2:w'.heap[g]? =some (.cells cs t fz):=(H.block g (by omega) af).trans Z
   have ai:g≠b:=by
    intro e;rw[e,E.cell]at F
    injection F with F
    injection F with _ h4
    exact ab h4.symm
   exact(M.block g (by omega) (fun e=>ai (VM e))).trans e2
def PkIn (w:World)(a:Option Addr)(c:Nat)(ys:List Nat):Prop:=BytesIn w a ys/\(a=none->c=0)
theorem PkIn.below {w w':World}{a:Option Addr}{c:Nat}{ys:List Nat}(E:PkIn w a c ys)(F:Below w.heap.size w w'):PkIn w' a c ys:=by
 refine⟨?_,E.2⟩
 rcases E.1 with E|⟨b,o,e,hb,hc⟩
 . exact .inl E
 . exact .inr ⟨b,o,e,VG hb F.size,fun j G=>(World.cell?_of_block (w:=w) (a:=⟨b,_,none⟩) (F.block b hb)).trans (hc j G)⟩
theorem CN:(Tryz.prog.info? 5).map (fun i=>(i.zero,i.size,i.bytes))=some (some (.int .u8 0),1,1):=by kernel_rfl
theorem Ll (w:World)(H:TypeId)(F:Nat)(v:Value)(xs ys:List Nat)(O:w.ownsRow F 5 1 v xs.length (u8s xs))(E:Option Addr)(m c:Nat)(ab:ys.length=m)(T:PkIn w E c ys)(ak:xs.length+m<=140737488355328)(Z:F<=w.heap.size):
 ∃v' w',(Builtin.append_ #[23,23] H #[v,.slice E m c]).run Tryz.prog w=.ok v' w'/\w'.ownsRow F 5 1 v' (xs.length+ys.length) (u8s xs++u8s ys)/\w.grownBy w' v.ownBlock:=by
 obtain⟨Y,hi,aj,ag,af⟩:=info_parts CN;subst ab
 cases E with
 |none=>
  have hc:c=0:=T.2 rfl;subst hc
  have ac:ys= []:=by
   rcases T.1 with h|⟨b,o,e,_⟩
   . exact h
   . cases e
  subst ac;have hr:=run_append_owned_none (P:=Tryz.prog) (w:=w) F 23 H 5 Y 1 Tryz.underlying23 hi v xs.length (u8s xs) O;exact⟨v,w,hr,by simpa using O,Aw _ _⟩
 |some E=>
  obtain⟨v',w',aa,ae,ai,_⟩:=run_append_own_at (P:=Tryz.prog) w F 23 H 5 Y (.int .u8 0) 1 1 Tryz.underlying23 hi aj ag af rfl (by decide) v xs.length (u8s xs) O E ys.length c (u8s ys) (by simp) (by
   intro j u I
   have G:j<ys.length:=by
    have:=(XT.1 I).1
    simpa using this
   rcases T.1 with h|⟨b,o,e,_,ah⟩
   . subst h;simp at G
   . cases e
     have M:u=.int .u8 ((ys.getD j 0:Nat):Int):=by
      simp[u8s,G]at I
      simp[List.getD,G,I]
     rw[M];have:=ah j G
     by_cases U:j=0
     . subst U;simpa[Addr.add]using this
     . simpa[Addr.add,U]using this) (by
   intro u M;obtain⟨x,_,rfl⟩:=XG.1 M;rfl) (by unfold maxLen;omega) (by omega) Z
  exact⟨v',w',aa,ae,ai⟩
theorem LM {U:Array Oper}{o:Oper}{a:Act}{W:World}{K:Act->World->Prop}{Q:Exit->Act->World->Prop}{E:Prop}(aa:o.guard=none)(s x:Operand)
 (ah:o.op=.call {callee:=.builtin .append,args:= #[s,x],argTypes:= #[23,23]})
 (r:World) (B b:Nat) (xs ys:List Nat) (H:Value) (ac:a.eval s=H) (M:ZC B r b xs H) (O:r.grownBy W none) (I:Option Addr) (m c:Nat) (Z:a.eval x=.slice I m c) (af:ys.length=m) (ai:PkIn W I c ys) (aj:xs.length+m<=1000000)
 (h:∀F T G w',w'.cell? ⟨b,0,none⟩=some H->w'.frozen? ⟨b,0,none⟩=false->Hid (ZUp B r b (xs++ys) (w'.setCell ⟨b,0,none⟩ (.slice F T G)))->K (a.put o.dst (.slice F T G)) w'):
 if Region.wanted o (yielded U a.tmps)=true then Oper.wp Tryz.prog o a W K Q else E:=by
 have ab:Region.wanted o (yielded U a.tmps)=true:=by simp[Region.wanted,aa]
 rw[if_pos ab];have al:=M.lt;have ak:=O.size;obtain⟨v',w',hr,Y,ae⟩:=Ll W o.type (b+1) H xs ys (Hv M.own O) I m c af ai (by omega) (by omega);obtain⟨c1,c2,ag⟩:=M.put O ae Y;obtain⟨F,G,rfl⟩:=An Y;unfold Oper.wp execOp;simp only[ah,resolve,invoke,builtin,Sem.run_bind,Sem.run_pure,Result.andThen_ok,ZL,WQ,ZE,ac,Z,hr];exact h F _ G w' c1 c2 (Ab ag)
theorem ET (l:List UInt8):Lib.strCells (B l)=u8s (n8 l):=by simp[Lib.strCells,B,u8s,n8,ZA]
theorem LL {Y:Array Oper}{o:Oper}{a:Act}{W:World}{K:Act->World->Prop}{Q:Exit->Act->World->Prop}{E:Prop}(ac:o.guard=none)(s x:Operand)
 (ak:o.op=.call {callee:=.builtin .append,args:= #[s,x],argTypes:= #[23,9]})
 (r:World) (Z b:Nat) (xs:List Nat) (l:List UInt8) (H:Value) (ag:a.eval s=H) (M:ZC Z r b xs H) (T:r.grownBy W none) (aa:a.eval x=.string (B l)) (am:xs.length+l.length<=1000000)
 (h:∀F U G w',w'.cell? ⟨b,0,none⟩=some H->w'.frozen? ⟨b,0,none⟩=false->Hid (ZUp Z r b (xs++n8 l) (w'.setCell ⟨b,0,none⟩ (.slice F U G)))->K (a.put o.dst (.slice F U G)) w'):
 if Region.wanted o (yielded Y a.tmps)=true then Oper.wp Tryz.prog o a W K Q else E:=by
 have af:Region.wanted o (yielded Y a.tmps)=true:=by simp[Region.wanted,ac]
 rw[if_pos af];have ao:=M.lt;have an:=T.size;obtain⟨ab,hi,ai,ae,al⟩:=info_parts CN;have I:(B l).size=l.length:=by simp[B,ByteArray.size]
 obtain⟨v',w',hr,O,ah,_⟩:=Lib.run_append_own_string (P:=Tryz.prog) W (b+1) 23 9 o.type 5 ab Tryz.underlying23 Tryz.underlying9 hi ai ae al H xs.length (u8s xs) (Hv M.own T) (B l) (by rw[I];unfold maxLen;omega) (by rw[I];omega) (by omega);rw[I,ET,<-Da]at O;obtain⟨c1,c2,aj⟩:=M.put T ah O;obtain⟨F,G,rfl⟩:=An O;unfold Oper.wp execOp;simp only[ak,resolve,invoke,builtin,Sem.run_bind,Sem.run_pure,Result.andThen_ok,ZL,WQ,ZE,ag,aa,hr];exact h F _ G w' c1 c2 (Ab aj)
theorem Ve {w:World}{B n:Nat}{v:Value}{ys:List Nat}(E:w.ownsRow B 5 1 v n (u8s ys)):∃a c,v=.slice a n c/\PkIn w a c ys/\n<=c/\ys.length=n/\∀g o,a=some ⟨g,o,none⟩->B<=g:=by
 have hl:ys.length=n:=by have:=E.1;simpa using this
 obtain⟨_,a,c,I,H⟩:=BytesIn.ofOwn E;subst I
 rcases E.2 with ⟨F,G⟩|⟨g,cap,cur,F,G,T,M,_⟩
 . cases F
   exact⟨none,0,rfl,⟨H,fun _=>rfl⟩,by omega,hl,fun g o e=>by cases e⟩
 . cases F
   exact⟨_,_,rfl,⟨H,fun e=>by cases e⟩,M,hl,fun O o e=>by cases e;exact G⟩
theorem Z3q (a:Option Addr)(p n E:Nat)(Z:p<=n)(U:n<=E)(O:a=none->E=0):
 ∃F,(∀W:World,(Instr.slice 23 (.slice a n E) (some (.int .i64 (p:Int))) none none).run Tryz.prog W=.ok (.slice F (n-p) (E-p)) W)/\(∀b o,a=some ⟨b,o,none⟩->p<n->F=some ⟨b,o+p,none⟩)/\(F=none->E-p=0):=by
 have I:=Tryz.sizeOf5;have G:=Tryz.underlying23;have T:(p:Int)<=(n:Int):=by omega
 cases a with
 |none=>
  have:=O rfl
  subst this;obtain rfl:n=0:=by omega
  obtain rfl:p=0:=by omega
  exact⟨none,fun W=>by simp[go_sem,G],fun b o e=>(by cases e),fun _=>rfl⟩
 |some ad=>
  by_cases H:E=p
  . subst H;obtain rfl:n=E:=by omega
    refine⟨some ad,fun W=> ?_,fun b o e M=>by omega,fun e=>by cases e⟩;simp[go_sem,G,I]
  . have Y:(p:Int)<(E:Int):=by omega
    refine⟨some (ad.add p),fun W=> ?_,fun b o e M=> ?_,fun e=>by cases e⟩
    . simp[go_sem,G,I,T,H]
      try omega
    . cases e
      unfold Addr.add
      split<;>simp_all
def PIn (w:World)(v:Value)(bs:List Nat):Prop:=∃a c,v=.slice a bs.length c/\bs.length<=c/\PkIn w a c bs
theorem PIn.below {w w':World}{v:Value}{bs:List Nat}(G:PIn w v bs)(H:Below w.heap.size w w'):PIn w' v bs:=by
 obtain⟨a,c,I,F,E⟩:=G;exact⟨a,c,I,F,E.below H⟩
theorem PIn.nil (w:World):PIn w (.slice none 0 0) []:=⟨none,0,rfl,VB _,.inl rfl,fun _=>rfl⟩
theorem AN (n:Nat):(Builtin.zeroCells (Value.int .u8 0).cells n).toList=u8s (List.replicate n 0):=by
 show (Builtin.zeroCells #[Value.int .u8 0] n).toList=_
 unfold Builtin.zeroCells;apply List.ext_getElem?
 intro i
 by_cases h:i<n
 . simp[h,Nat.mod_one]
 . simp[h]
theorem Oj (w:World)(O:TypeId)(n:Nat)(H:0<n)(ae:n<=281474976710656):
 ∃c w',(Builtin.append_ #[23,3] O #[.slice none 0 0,.int .i64 (n:Int)]).run Tryz.prog w=.ok (.slice (some ⟨w.heap.size,0,none⟩) n c) w'/\n<=c/\c<=maxLen/\w'.heap[w.heap.size]? =some (.cells (u8s (List.replicate c 0)).toArray 5 (0,0))/\w.grownBy w' none:=by
 obtain⟨af,hi,F,T,aa⟩:=info_parts Gz;have E:=grownCap_ge w n 0 5;have ac:=grownCap_le_maxLen w n 0 5 (by unfold maxLen;omega);have M:n≠0:=by omega
 have G:¬(9223372036854775807<(n:Int)):=by omega
 have Z:¬((n:Int)<0):=by omega
 have U:¬(281474976710656<(n:Int)):=by omega
 have Y:¬(281474976710656<Builtin.nextslicecap n 0):=by rw[nextslicecap_zero H];omega
 have ab:IntKind.i64.wrap (n:Int)=(n:Int):=by simp[IntKind.wrap,IntKind.signed,IntKind.bits];omega
 refine⟨grownCap w n 0 5,w.drew.alloc (.cells (Builtin.zeroCells (Value.int .u8 0).cells n++Builtin.zeroCells (Value.int .u8 0).cells (grownCap w n 0 5-n)) 5), ?_,E,ac, ?_, ?_⟩
 . simp[Builtin.append_,run_underlying Tryz.underlying23,run_underlying Tryz.underlying3,sizeOf,typeInfo,zeroValue,hi,F,T,aa,asInt,asIntOf,ab,Z,U,M,G,Y,Question.forced,run_firstCells_none,newRow,grownCap]
 . have:=heap_alloc_new w.drew (.cells (Builtin.zeroCells (Value.int .u8 0).cells n++Builtin.zeroCells (Value.int .u8 0).cells (grownCap w n 0 5-n)) 5)
   rw[show w.drew.heap.size=w.heap.size from rfl]at this;rw[this]
   congr 2
   apply Array.ext'
   rw[Array.toList_append,AN,AN];show _=u8s (List.replicate (grownCap w n 0 5) 0)
   unfold u8s;rw[<-WU,List.replicate_append_replicate]
   congr 2
   omega
 . exact⟨rfl,rfl,rfl,by simp,fun k I _=>Below.heap_alloc w.drew _ k I⟩
theorem Kh (w:World){E:Array Oper}{F:List Oper}{o:Oper}{a:Act}{Q:Exit->Act->World->Prop}(Z:o.guard=none)(s x:Operand)
 (U:o.op=.call {callee:=.builtin .append,args:= #[s,x],argTypes:= #[23,3]}) (n:Nat) (ab:a.eval s=.slice none 0 0) (G:a.eval x=.int .i64 (n:Int)) (O:0<n) (H:n<=281474976710656)
 (Y:∀c w',n<=c->c<=maxLen->w'.heap[w.heap.size]? =some (.cells (u8s (List.replicate c 0)).toArray 5 (0,0))->w.grownBy w' none->wpList Tryz.prog E Q F (a.put o.dst (.slice (some ⟨w.heap.size,0,none⟩) n c)) w'):
 wpList Tryz.prog E Q (o::F) a w:=by
 refine wpList_plain Z fun K hK=> ?_
 obtain⟨c,w',hr,T,M,aa,I⟩:=Oj w o.type n O H;unfold Oper.wp execOp;simp only[U,resolve,invoke,builtin,Sem.run_bind,Sem.run_pure,Result.andThen_ok,ZL,WQ,ZE,ab,G,hr];exact hK _ _ (Y c w' T M aa I)
theorem OY (n:Nat)(w:World)(O:0<n)(G:n<=281474976710656):Calls Tryz.prog 47 #[.slice none 0 0,.int .i64 (n:Int)] w fun e w'=>∃c,n<=c/\e=.returned (.slice (some ⟨w.heap.size,0,none⟩) 0 c)/\w'.ownsRow w.heap.size 5 1 (.slice (some ⟨w.heap.size,0,none⟩) 0 c) 0 (u8s [])/\Below w.heap.size w w':=by
 go_enter Tryz.func47,Tryz.ntmps47
 go_wp2_with (refine Kh w rfl (.tmp 20) (.tmp 21) rfl n rfl rfl O G ?_)
 intro c U M I E F;have T:=Ab (Hq (Below.refl w.heap.size w) F (VB _));have H:Hid (U.ownsRow w.heap.size 5 1 (.slice (some ⟨w.heap.size,0,none⟩) 0 c) 0 (u8s [])):=⟨rfl,.inr ⟨w.heap.size,c,_,rfl,VB _,E,VH _,I,by simp,rfl⟩⟩
 clear E F;go_wp2;go_ret;exact⟨c,M,rfl,Aa H,Aa T⟩
theorem Xf (w:World)(M:TypeId)(G x:Option Addr)(n F c:Nat)(O:n<=F):
 (Builtin.append_ #[23,23] M #[.slice G n F,.slice x 0 c]).run Tryz.prog w=.ok (.slice G n F) w:=by
 obtain⟨E,hi,T,H,U⟩:=info_parts Gz
 have I:(Builtin.firstCells E.size 0 (.slice x 0 c)).run Tryz.prog w=.ok #[] w:=by
  cases x with
  |none=>exact run_firstCells_none w E.size 0 0 c
  |some b=>exact run_firstCells_some w E.size 0 b 0 c [] (by simp) (by simp)
 rw[H]at I
 cases G<;>simp[Builtin.append_,run_underlying Tryz.underlying23,sizeOf,typeInfo,hi,H,Builtin.lenOf,I,O,storeCells]
theorem Ii (w:World){G:Array Oper}{H:List Oper}{o:Oper}{a:Act}{Q:Exit->Act->World->Prop}(T:o.guard=none)(s x:Operand)
 (O:o.op=.call {callee:=.builtin .append,args:= #[s,x],argTypes:= #[23,23]}) (F y:Option Addr) (n E c:Nat) (Y:a.eval s=.slice F n E) (I:a.eval x=.slice y 0 c) (M:n<=E)
 (U:wpList Tryz.prog G Q H (a.put o.dst (.slice F n E)) w):wpList Tryz.prog G Q (o::H) a w:=by
 refine wpList_plain T fun K hK=> ?_
 unfold Oper.wp execOp;simp only[O,resolve,invoke,builtin,Sem.run_bind,Sem.run_pure,Result.andThen_ok,ZL,WQ,ZE,Y,I,Xf w o.type F y n E c M];exact hK _ _ U
theorem OX (w:World):Calls Tryz.prog 47 #[.slice none 0 0,.int .i64 0] w fun e w'=>e=.returned (.slice none 0 0)/\w'=w:=by
 go_enter Tryz.func47,Tryz.ntmps47
 go_wp2;go_ret
 trivial
def Iu (ps:List (Option Addr×Nat×List Nat)):Nat->List Nat
 |0=> []
 |k+1=>Iu ps k++(ps.getD k (none,0,[])).2.2
theorem Z5g (E:List (Option Addr×Nat×List Nat)){j k:Nat}(F:j<=k):(Iu E j).length<=(Iu E k).length:=by
 induction k with
 |zero=>rw[show j=0 by omega];exact VB _
 |succ k ih=>
  by_cases e:j=k+1
  . rw[e];exact VB _
  . have:=ih (by omega)
    rw[Iu,VE];omega
theorem AD {w:World}{b o:Nat}{xs:List Nat}(G:Bytes w b o xs):∀j u,(u8s xs)[j]? =some u->w.cell? ((⟨b,o,none⟩:Addr).add j)=some u:=by
 intro j u E;have e:(⟨b,o,none⟩:Addr).add j=⟨b,o+j,none⟩:=by unfold Addr.add;split<;>simp_all
 have F:j<xs.length:=by
  by_cases c:j<xs.length
  . exact c
  . rw[WJ (by simp[u8s];omega)]at E;cases E
 have:=G j F
 rw[e,this];simp[u8s,F]at E
 subst E;simp[List.getD,F]
theorem Z3b (xs:List Nat):∀u∈u8s xs,u.oneCell'=true:=by intro u E;obtain⟨x,_,rfl⟩:=XG.1 E;rfl
theorem IY (b o F a1:Nat)(E:List (Option Addr×Nat×List Nat))(w:World)(a4:b<w.heap.size)(ao:∀j,j<F->w.cell? ⟨b,o+j,none⟩=some (.slice (E.getD j (none,0,[])).1 (E.getD j (none,0,[])).2.2.length (E.getD j (none,0,[])).2.1))
 (aw:∀j,j<F->BytesIn w (E.getD j (none,0,[])).1 (E.getD j (none,0,[])).2.2) (as:(Iu E F).length<=281474976710656) (bd:F<=100):
 Calls Tryz.prog 29 #[.slice (some ⟨b,o,none⟩) F a1] w fun e w'=>∃a c,(Iu E F).length<=c/\e=.returned (.slice a (Iu E F).length c)/\BytesIn w' a (Iu E F)/\Below w.heap.size w w'/\(a=none->c=0):=by
 obtain⟨a7,hi,bf,a8,be⟩:=info_parts Gz;have af:=Ab ao;have ax:=Ab aw;obtain⟨T,aa⟩:=exq ((Iu E F).length);rw[aa]at as;have M:=Ab aa;have ag:Hid (∀k,k<=F->(Iu E k).length<=T):=Ab (fun k al=>by rw[<-aa];exact Z5g E al);clear ao aw aa;go_enter Tryz.func29,Tryz.ntmps29
 go_wp2;go_loop [3,11] (fun a3 ai=>∃k:Nat,k<=F/\ai=.int .i64 (k:Int)/\a3=.int .i64 ((Iu E k).length:Int)) (fun _ ai=>F-(intOf ai).toNat)
 case atStart=>exact⟨0,VH _,rfl,rfl⟩
 case round=>
  obtain⟨k,al,rfl,rfl⟩:=hrel
  by_cases a5:k<F
  . have c1:=Aa af k a5;have G:=Aa ag (k+1) (by omega);have H:Hid ((Iu E (k+1)).length=(Iu E k).length+(E.getD k (none,0,[])).2.2.length):=Ab (by rw[Iu,VE]);rw[Aa H]at G;generalize (E.getD k (none,0,[])).2.2.length=m at*;generalize (E.getD k (none,0,[])).2.1=Z at*;generalize (E.getD k (none,0,[])).1=g at*;generalize (Iu E k).length=L at*;go_wp2;go_round
    case rel=>exact⟨k+1,by omega,by go_num,by rw[Aa H];go_num⟩
    case measure=>simp[intOf];omega
  . obtain rfl:F=k:=by omega
    rw[Aa M]
    by_cases bb:T=0
    . subst bb;go_wp2_with fail
      refine(OX w).mono ?_;rintro e a2 ⟨rfl,rfl⟩;go_wp2;go_loop [6,27] (fun ah I=>∃k:Nat,k<=F/\I=.int .i64 (k:Int)/\ah=.slice none 0 0) (fun _ I=>F-(intOf I).toNat)
      case atStart=>exact⟨0,VH _,rfl,rfl⟩
      case round=>
       obtain⟨k,a6,rfl,rfl⟩:=hrel
       by_cases ab:k<F
       . have c1:=Aa af k ab;have G:=Aa ag (k+1) (by omega);rw[Iu,VE]at G;have aj:(E.getD k (none,0,[])).2.2.length=0:=by omega
         rw[aj]at c1;generalize (E.getD k (none,0,[])).2.1=Z at*;generalize (E.getD k (none,0,[])).1=g at*;clear G aj;go_wp2_with (at_builtin;refine Ii _ rfl (.tmp 31) (.tmp 32) rfl none g 0 0 Z rfl rfl (VB _) ?_)
         go_round
         case rel=>exact⟨k+1,by omega,by go_num,rfl⟩
         case measure=>simp[intOf];omega
       . obtain rfl:F=k:=by omega
         go_wp2;go_ret;exact⟨none,0,by rw[Aa M];exact VB _,by rw[Aa M];rfl,.inl (ZH.1 (Aa M)),Below.refl _ _,fun _=>rfl⟩
    . go_wp2_with fail
      refine(OY T w (by omega) as).mono ?_;rintro e a2 ⟨c,bc,rfl,au,ak⟩;have ba:=Ab au;have az:=Ab ak;clear au ak;go_wp2;go_loopw [6,27] (fun ah I wr=>∃k:Nat,k<=F/\I=.int .i64 (k:Int)/\ah=.slice (some ⟨w.heap.size,0,none⟩) (Iu E k).length c/\Hid (wr.ownsRow w.heap.size 5 1 (.slice (some ⟨w.heap.size,0,none⟩) (Iu E k).length c) (Iu E k).length (u8s (Iu E k)))/\Hid (Below w.heap.size w wr)) (fun _ I _=>F-(intOf I).toNat)
      case atStart=>exact⟨0,VH _,rfl,rfl,ba,az⟩
      case round=>
       obtain⟨k,a6,rfl,rfl,Y,O⟩:=hrel
       by_cases ab:k<F
       . have c1:=((Aa O).cell (p:=⟨b,o+k,none⟩) a4).trans (Aa af k ab);have ac:=(Aa ax k ab).below (Aa O) (VB _);have G:=Aa ag (k+1) (by omega);have H:Hid (Iu E (k+1)=Iu E k++(E.getD k (none,0,[])).2.2):=Ab rfl;rw[Aa H,VE]at G;generalize (E.getD k (none,0,[])).2.2=xs at*;generalize (E.getD k (none,0,[])).1=g at*;generalize (E.getD k (none,0,[])).2.1=Z at*
         rcases ac with rfl|⟨gb,go,rfl,bg,ac⟩
         . have an:Hid (Iu E (k+1)=Iu E k):=Ab (by rw[Aa H,XA]);simp only[WE]at c1 G;generalize U:(Iu E k).length=L at*;clear H;go_wp2_with (at_builtin;refine Ii _ rfl (.tmp 31) (.tmp 32) rfl _ g L c Z rfl rfl (by omega) ?_)
           go_roundw
           case rel=>exact⟨k+1,by omega,by go_num,by rw[Aa an,U],Ab (by rw[Aa an,U];exact Aa Y),O⟩
           case measure=>simp[intOf];omega
         . have aq:=Ab (AD ac);obtain⟨m,hm⟩:=exq (xs.length);obtain⟨L,U⟩:=exq ((Iu E k).length);rw[hm]at c1 G;rw[U]at G Y ⊢;have ae:=Ab hm;have ar:=Ab U;clear ac hm U;go_wp2_with (at_builtin;refine wpList_append_own_spare _ rfl (.tmp 31) (.tmp 32) 23 rfl w.heap.size 5 a7 1 Tryz.underlying23 hi a8 w.heap.size L c (u8s (Iu E k)) rfl (Aa Y) ⟨gb,go,none⟩ m Z (u8s xs) rfl (by simp[u8s,Aa ae]) (Aa aq) (Z3b xs) (by omega) ?_)
           intro ap am av
           have a9:Hid (ap.ownsRow w.heap.size 5 1 (.slice (some ⟨w.heap.size,0,none⟩) (Iu E (k+1)).length c) (Iu E (k+1)).length (u8s (Iu E (k+1)))):=by
            rw[Aa H,VE,Aa ar,Aa ae];show ap.ownsRow w.heap.size 5 1 _ (L+m) (List.map _ (Iu E k++xs))
            rw[WU];exact am
           have a0:=Ab ((Aa O).grown av (Aa O).size (fun g e=>by cases e;exact VB _));have ay:Hid ((Iu E (k+1)).length=L+m):=Ab (by rw[Aa H,VE,Aa ar,Aa ae]);clear am av c1 aq;go_wp2;go_roundw
           case rel=>exact⟨k+1,by omega,by go_num,by rw[Aa ay],a9,a0⟩
           case measure=>simp[intOf];omega
       . obtain rfl:F=k:=by omega
         rw[Aa M]at Y ⊢;go_wp2;go_ret;exact⟨_,c,by rw[Aa M];exact bc,by rw[Aa M];rfl,BytesIn.own (Aa Y),Aa O,fun e=>by cases e⟩
end Go.Proofs.YtleocpdblhbimaaGreatDoor
