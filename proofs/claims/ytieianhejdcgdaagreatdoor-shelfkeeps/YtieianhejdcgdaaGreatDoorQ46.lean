import Derived.Test.YtieianhejdcgdaaGreatDoorQ45
set_option linter.unusedSimpArgs false
set_option maxHeartbeats 2000000
namespace Go.Proofs.YtieianhejdcgdaaGreatDoor
open Go
set_option linter.unusedVariables false
theorem BB (n:List UInt8):Tb n []=none:=rfl
theorem Ey (n:List UInt8)(x:Fl)(l:List Fl):Tb n (x::l)=if x.name=n then some x else Tb n l:=by
 unfold Tb;rw[List.find?_cons]
 by_cases h:x.name=n
 . simp[h]
 . have h2:(x.name==n)=false:=by simpa using h
   rw[h2,if_neg h]
theorem Ln {n:List UInt8}{l:List Fl}(h:∀f∈l,Fd n f.name<0):Tb n l=none:=by
 unfold Tb;rw[List.find?_eq_none];intro y hy;simp
 intro e;have:=h y hy
 rw[e,Sf]at this;omega
theorem Qp {x:Fl}{l:List Fl}(h1:On l)(h2:∀g∈l,Fd x.name g.name<0):On (x::l):=by
 intro i j a b ha hb hij
 match i,j,hij with
 |0,j+1,_=>
  simp at ha hb
  subst ha;exact h2 b (YF hb)
 |i+1,j+1,hij=>
  simp at ha hb
  exact h1 i j a b ha hb (by omega)
theorem RO:∀(a b:List Fl),On a->On b->(∀n,Tb n a=Tb n b)->a=b
 | [],[],_,_,_=>rfl
 | [],y::b,_,_,h=>by have:=h y.name;rw[BB,Ey,if_pos rfl]at this;cases this
 |x::a,[],_,_,h=>by have:=h x.name;rw[BB,Ey,if_pos rfl]at this;cases this
 |x::a,y::b,ha,hb,h=>by
  obtain⟨a1,a2⟩:=Il ha;obtain⟨b1,b2⟩:=Il hb
  rcases Ep x.name y.name with hc|hc|hc
  . have h1:=h x.name
    have h2:Tb x.name (y::b)=none:=Ln (fun f hf=>by
     rcases VW.1 hf with rfl|hf
     . omega
     . exact Fp (by omega) (b2 f hf))
    rw[Ey,if_pos rfl,h2]at h1
    cases h1
  . have hn:=Xu hc;have h1:=h x.name;rw[Ey,if_pos rfl,Ey,if_pos hn.symm]at h1;have hxy:x=y:=VN h1;subst hxy;rw[RO a b a1 b1 (fun n=> ?_)]
    by_cases e:x.name=n
    . subst e;rw[Ln a2,Ln b2]
    . have:=h n
      rw[Ey,Ey,if_neg e,if_neg e]at this;exact this
  . have hc':Fd y.name x.name<0:=by have:=Mg x.name y.name;omega
    have h1:=h y.name
    have h2:Tb y.name (x::a)=none:=Ln (fun f hf=>by
     rcases VW.1 hf with rfl|hf
     . exact hc'
     . exact Fp hc' (a2 f hf))
    rw[h2,Ey,if_pos rfl]at h1
    cases h1
theorem KU (x y:Fl):Wl x y=x\/Wl x y=y:=by
 unfold Wl
 split
 . exact .inr rfl
 . exact .inl rfl
theorem KV {x y:Fl}(h:x.name=y.name):(Wl x y).name=x.name:=by
 rcases KU x y with e|e
 . rw[e]
 . rw[e,h]
theorem Kh:∀(a b:List Fl) (f:Fl),f∈tog a b->f∈a\/f∈b
 | [],b,f,h=>by rw[Kc]at h;exact .inr h
 |x::a,[],f,h=>by rw[Kt]at h;exact .inl h
 |x::a,y::b,f,h=>by
  rcases Ep x.name y.name with hc|hc|hc
  . rw[Z3 (by omega)]at h
    rcases VW.1 h with rfl|h
    . exact .inl (by simp)
    . rcases Kh a (y::b) f h with h|h
      . exact .inl (WF _ h)
      . exact .inr h
  . rw[JE hc]at h
    rcases VW.1 h with rfl|h
    . rcases KU x y with e|e
      . rw[e];exact .inl (by simp)
      . rw[e];exact .inr (by simp)
    . rcases Kh a b f h with h|h
      . exact .inl (WF _ h)
      . exact .inr (WF _ h)
  . rw[JD (by omega)]at h
    rcases VW.1 h with rfl|h
    . exact .inr (by simp)
    . rcases Kh (x::a) b f h with h|h
      . exact .inl h
      . exact .inr (WF _ h)
termination_by a b=>a.length+b.length
theorem Ow:∀(a b:List Fl),On a->On b->On (tog a b)
 | [],b,_,hb=>by rw[Kc];exact hb
 |x::a,[],ha,_=>by rw[Kt];exact ha
 |x::a,y::b,ha,hb=>by
  obtain⟨a1,a2⟩:=Il ha;obtain⟨b1,b2⟩:=Il hb
  rcases Ep x.name y.name with hc|hc|hc
  . rw[Z3 (by omega)];refine Qp (Ow a (y::b) a1 hb) (fun g hg=> ?_)
    rcases Kh _ _ g hg with h|h
    . exact a2 g h
    . rcases VW.1 h with rfl|h
      . omega
      . exact Fp (by omega) (b2 g h)
  . have hn:=Xu hc;rw[JE hc];refine Qp (Ow a b a1 b1) (fun g hg=> ?_);rw[KV hn]
    rcases Kh _ _ g hg with h|h
    . exact a2 g h
    . rw[hn];exact b2 g h
  . have hc':Fd y.name x.name<0:=by have:=Mg x.name y.name;omega
    rw[JD (by omega)];refine Qp (Ow (x::a) b ha b1) (fun g hg=> ?_)
    rcases Kh _ _ g hg with h|h
    . rcases VW.1 h with rfl|h
      . exact hc'
      . exact Fp hc' (a2 g h)
    . exact b2 g h
termination_by a b=>a.length+b.length
theorem TZ {a b:List Fl}(ha:Eh a=0)(hb:Eh b=0)(hl:(tog a b).length<=12):Eh (tog a b)=0:=by
 obtain⟨_,a2,a3⟩:=Rv.1 ha;obtain⟨_,b2,b3⟩:=Rv.1 hb;refine Rv.2 ⟨hl,fun f hf=> ?_,Ow a b a3 b3⟩
 rcases Kh a b f hf with h|h
 . exact a2 f h
 . exact b2 f h
theorem Js {a b:List Fl}:Ct a b=0↔Eh a=0/\Eh b=0/\(tog a b).length<=12:=by
 constructor
 . intro h
   by_cases he:I9 a b=0
   . obtain⟨h1,h2⟩:=Rw.1 he;refine⟨h1,h2, ?_⟩
     by_cases hl:12<(tog a b).length
     . rw[Vf he hl]at h;cases h
     . omega
   . rw[M0 he]at h;exact absurd h he
 . rintro ⟨h1,h2,h3⟩;exact CJ (Rw.2 ⟨h1,h2⟩) (by omega)
theorem PG {a b:List Fl}(h:Ct a b=0):Eh (Gz a b)=0:=by
 obtain⟨h1,h2,h3⟩:=Js.1 h;rw[Pq h];exact TZ h1 h2 h3
end Go.Proofs.YtieianhejdcgdaaGreatDoor
namespace Go.Proofs.YtieianhejdcgdaaGreatDoor
set_option linter.unusedVariables false
def So (b:List Nat):Option (List Nat):=
 if b.length<8 then none
 else if 12000<Ai (b.take 4)\/b.length-8<Ai (b.take 4)then none
 else if crcN 0 ((b.drop 8).take (Ai (b.take 4)))=Ai ((b.drop 4).take 4)then some ((b.drop 8).take (Ai (b.take 4)))else none
def stepF (fs:List Fl)(b:List Nat):Option (List Fl×Nat):=
 (So b).bind fun ar=>if Ew ar=0/\Ct fs (Dn ar)=0 then some (Gz fs (Dn ar),8+ar.length)else none
inductive Recs:List Fl->List Nat->List Fl->Nat->Prop
 |stop {fs:List Fl} {b:List Nat}:stepF fs b=none->Recs fs b fs 0
 |more {fs:List Fl} {b:List Nat} {f1:List Fl} {k:Nat} {f2:List Fl} {n:Nat}:stepF fs b=some (f1,k)->Recs f1 (b.drop k) f2 n->Recs fs b f2 (k+n)
def Ga (ar:List Nat):List Nat:=Bd ar.length 4++Bd (crcN 0 ar) 4++ar
theorem Er (ar:List Nat):(Ga ar).length=8+ar.length:=by simp[Ga,Ak];omega
theorem Im {b ar:List Nat}(h:So b=some ar):8+ar.length<=b.length/\ar.length<=12000/\ar.length=Ai (b.take 4)/\ar=(b.drop 8).take (Ai (b.take 4))/\crcN 0 ar=Ai ((b.drop 4).take 4):=by
 unfold So at h
 split at h
 . cases h
 . split at h
   . cases h
   . split at h
     . rename_i h1 h2 h3
       cases h
       have e:((b.drop 8).take (Ai (b.take 4))).length=Ai (b.take 4):=by
        rw[VL,VO];omega
       exact⟨by rw[e];omega,by rw[e];omega,e,rfl,h3⟩
     . cases h
theorem Q9 {b ar:List Nat}(h1:8+ar.length<=b.length)(h2:ar.length<=12000)(h3:ar.length=Ai (b.take 4))(h4:ar=(b.drop 8).take (Ai (b.take 4)))(h5:crcN 0 ar=Ai ((b.drop 4).take 4)):So b=some ar:=by
 unfold So;rw[if_neg (by omega),if_neg (by omega),<-h4,if_pos h5]
theorem AA {b ar:List Nat}(h:So b=some ar)(c:List Nat):So (b++c)=some ar:=by
 obtain⟨h1,h2,h3,h4,h5⟩:=Im h;have e1:(b++c).take 4=b.take 4:=WC (by omega);have e2:(b++c).drop 4=b.drop 4++c:=XB (by omega);have e3:(b++c).drop 8=b.drop 8++c:=XB (by omega);refine Q9 (by rw[VB];omega) h2 (by rw[e1];exact h3) ?_ ?_
 . rw[e1,e3,WC (by rw[VO,<-h3];omega)];exact h4
 . rw[e2,WC (by rw[VO];omega)];exact h5
theorem RQ {a c ar:List Nat}(h:So (a++c)=some ar)(hl:8+ar.length<=a.length):So a=some ar:=by
 obtain⟨h1,h2,h3,h4,h5⟩:=Im h;have e1:(a++c).take 4=a.take 4:=WC (by omega);have e2:(a++c).drop 4=a.drop 4++c:=XB (by omega);have e3:(a++c).drop 8=a.drop 8++c:=XB (by omega);rw[e1]at h3 h4;rw[e3,WC (by rw[VO,<-h3];omega)]at h4;rw[e2,WC (by rw[VO];omega)]at h5;exact Q9 hl h2 h3 h4 h5
theorem Z9 {ar:List Nat}(hn:ar.length<=12000)(hv:∀x∈ar,x<256)(c:List Nat):So (Ga ar++c)=some ar:=by
 refine AA ?_ c
 have e1:(Ga ar).take 4=Bd ar.length 4:=by
  unfold Ga;rw[VJ,WC (by rw[Ak];decide),VP (by rw[Ak];decide)]
 have e2:((Ga ar).drop 4).take 4=Bd (crcN 0 ar) 4:=by
  unfold Ga;rw[VJ,XB (by rw[Ak];decide),XL (by rw[Ak];decide),XG,WC (by rw[Ak];decide),VP (by rw[Ak];decide)]
 have e3:(Ga ar).drop 8=ar:=by
  unfold Ga;rw[XB (by rw[VB,Ak,Ak];decide),XL (by rw[VB,Ak,Ak];decide),XG]
 have e4:Ai (Bd ar.length 4)=ar.length:=Ch 4 _ (by omega);have e5:Ai (Bd (crcN 0 ar) 4)=crcN 0 ar:=Ch 4 _ (by have:=V6 hv (p:=0) (by decide);omega);refine Q9 (by rw[Er];omega) hn (by rw[e1,e4]) (by rw[e1,e4,e3,VP (VC _)]) (by rw[e2,e5])
theorem Hb {fs f:List Fl}{b:List Nat}{k:Nat}(h:stepF fs b=some (f,k)):∃ar,So b=some ar/\Ew ar=0/\Ct fs (Dn ar)=0/\f=Gz fs (Dn ar)/\k=8+ar.length:=by
 unfold stepF at h
 cases hr:So b with
 |none=>rw[hr]at h;cases h
 |some ar=>
  rw[hr,VF]at h
  split at h
  . rename_i h1
    cases h
    exact⟨ar,rfl,h1.1,h1.2,rfl,rfl⟩
  . cases h
theorem Ou {fs:List Fl}{b ar:List Nat}(h:So b=some ar)(h1:Ew ar=0)(h2:Ct fs (Dn ar)=0):stepF fs b=some (Gz fs (Dn ar),8+ar.length):=by
 unfold stepF;rw[h,VF,if_pos ⟨h1,h2⟩]
theorem Fu {fs f:List Fl}{b:List Nat}{k:Nat}(h:stepF fs b=some (f,k)):8<=k/\k<=b.length:=by
 obtain⟨ar,h1,_,_,_,rfl⟩:=Hb h;have:=(Im h1).1
 omega
theorem Zn {fs f:List Fl}{b:List Nat}{k:Nat}(h:stepF fs b=some (f,k))(c:List Nat):stepF fs (b++c)=some (f,k):=by
 obtain⟨ar,h1,h2,h3,rfl,rfl⟩:=Hb h;exact Ou (AA h1 c) h2 h3
theorem JW {fs f:List Fl}{a c:List Nat}{k:Nat}(h:stepF fs (a++c)=some (f,k))(hk:k<=a.length):stepF fs a=some (f,k):=by
 obtain⟨ar,h1,h2,h3,rfl,rfl⟩:=Hb h;exact Ou (RQ h1 hk) h2 h3
theorem JV {fs f:List Fl}{b:List Nat}{k:Nat}(h:stepF fs b=some (f,k)):Eh f=0:=by
 obtain⟨ar,_,_,h3,rfl,_⟩:=Hb h;exact PG h3
theorem Recs.le {fs f:List Fl}{b:List Nat}{n:Nat}(h:Recs fs b f n):n<=b.length:=by
 induction h with
 |stop _=>exact VM _
 |more h1 _ ih=>
  have:=(Fu h1).2
  rw[VO]at ih;omega
theorem Recs.err {fs f:List Fl}{b:List Nat}{n:Nat}(h:Recs fs b f n)(he:Eh fs=0):Eh f=0:=by
 induction h with
 |stop _=>exact he
 |more h1 _ ih=>exact ih (JV h1)
theorem Recs.one {fs f g:List Fl}{b:List Nat}{n m:Nat}(h:Recs fs b f n)(k:Recs fs b g m):f=g/\n=m:=by
 induction h generalizing g m with
 |stop h1=>
  cases k with
  |stop _=>exact⟨rfl,rfl⟩
  |more k1 _=>rw[h1]at k1;cases k1
 |more h1 _ ih=>
  cases k with
  |stop k1=>rw[h1]at k1;cases k1
  |more k1 k2=>
   rw[h1]at k1
   cases k1
   obtain⟨e1,e2⟩:=ih k2;exact⟨e1,by rw[e2]⟩
theorem Recs.ex:∀(q:Nat) (fs:List Fl) (b:List Nat),b.length<=q->∃f n,Recs fs b f n
 |0,fs,b,h=>by
  cases hs:stepF fs b with
  |none=>exact⟨_,_,.stop hs⟩
  |some p=>have:=Fu (f:=p.1) (k:=p.2) hs;omega
 |q+1,fs,b,h=>by
  cases hs:stepF fs b with
  |none=>exact⟨_,_,.stop hs⟩
  |some p=>
   have h2:=Fu (f:=p.1) (k:=p.2) hs;obtain⟨f,n,h3⟩:=Recs.ex q p.1 (b.drop p.2) (by rw[VO];omega);exact⟨f,p.2+n,.more hs h3⟩
theorem Recs.app {fs f g:List Fl}{a c:List Nat}{n m:Nat}(h:Recs fs a f n)(hn:n=a.length)(k:Recs f c g m):Recs fs (a++c) g (n+m):=by
 induction h with
 | @stop fs b h1=>
  have:b= []:=List.length_eq_zero_iff.1 hn.symm
  subst this;rw[XG,WI];exact k
 | @more fs b f1 q f2 n h1 h2 ih=>
  have hq:=(Fu h1).2;have hi:=ih (by rw[VO];omega) k;rw[WJ];refine .more (Zn h1 c) ?_;rw[XB hq];exact hi
theorem Recs.self {fs f:List Fl}{b:List Nat}{n:Nat}(h:Recs fs b f n):Recs fs (b.take n) f n:=by
 induction h with
 | @stop fs b h1=>
  refine .stop ?_
  cases hs:stepF fs (List.take 0 b)with
  |none=>rfl
  |some p=>have:=Fu (f:=p.1) (k:=p.2) hs;simp at this;omega
 | @more fs b f1 q f2 n h1 h2 ih=>
  have hq:=(Fu h1).2;have hl:=h2.le;rw[VO]at hl;have e:b=b.take (q+n)++b.drop (q+n):=(XN _ _).symm;rw[e]at h1;have h3:=JW h1 (by rw[VL];omega);refine .more h3 ?_;have e2:(b.take (q+n)).drop q=(b.drop q).take n:=by rw[List.drop_take];congr 1;omega
  rw[e2];exact ih
theorem RD {fs:List Fl}{ar:List Nat}(hv:∀x∈ar,x<256)(h1:Ew ar=0)(h2:Ct fs (Dn ar)=0)(c:List Nat):stepF fs (Ga ar++c)=some (Gz fs (Dn ar),8+ar.length):=by
 obtain⟨_,_,_,_,_,_,hl⟩:=Zz h1;exact Ou (Z9 hl hv c) h1 h2
theorem JU {fs:List Fl}{ar:List Nat}(hv:∀x∈ar,x<256)(h1:Ew ar=0){j:Nat}(hj:j<8+ar.length):stepF fs ((Ga ar).take j)=none:=by
 obtain⟨_,_,_,_,_,_,hl⟩:=Zz h1
 cases hs:stepF fs ((Ga ar).take j)with
 |none=>rfl
 |some p=>
  obtain⟨p1,p2⟩:=p;have h3:=Fu hs;obtain⟨ar2,k1,_,_,_,k5⟩:=Hb (Zn hs ((Ga ar).drop j));rw[XN]at k1;have k2:=Z9 hl hv [];rw[WO,k1]at k2
  cases k2
  rw[VL]at h3;omega
theorem Zx (fs:List Fl):Recs fs [] fs 0:=by
 refine .stop ?_;unfold stepF So;rw[if_pos (by decide)];rfl
theorem Recs.snoc {fs f:List Fl}{b ar:List Nat}(h:Recs fs b f b.length)(hv:∀x∈ar,x<256)(h1:Ew ar=0)(h2:Ct f (Dn ar)=0):Recs fs (b++Ga ar) (Gz f (Dn ar)) (b++Ga ar).length:=by
 have h3:=RD (fs:=f) hv h1 h2 [];rw[WO]at h3
 have h4:Recs f (Ga ar) (Gz f (Dn ar)) (8+ar.length+0):=by
  refine .more h3 ?_;rw[XL (by rw[Er];omega)];exact Zx _
 have:=h.app rfl h4
 rw[VB,Er];exact this
theorem Recs.snoc_less {fs f:List Fl}{b ar:List Nat}(h:Recs fs b f b.length)(hv:∀x∈ar,x<256)(h1:Ew ar=0){j:Nat}(hj:j<8+ar.length):Recs fs (b++(Ga ar).take j) f b.length:=by
 have:=h.app rfl (Recs.stop (JU (fs:=f) hv h1 hj))
 rwa [YN]at this
theorem Wh {ar:List Nat}(hv:∀x∈ar,x<256):∀x∈Ga ar,x<256:=by
 intro x hx;unfold Ga at hx
 rcases VZ.1 hx with h|h
 . rcases VZ.1 h with h|h
   . exact Ef _ _ x h
   . exact Ef _ _ x h
 . exact hv x h
end Go.Proofs.YtieianhejdcgdaaGreatDoor
namespace Go.Proofs.YtieianhejdcgdaaGreatDoor
open Go.RowKit
set_option linter.unusedVariables false
set_option maxRecDepth 100000
def hdV (a c:Nat):Value:=.agg #[.int .u32 (a:Int),.int .u32 (c:Int)]
def hdC (a c:Nat):Obj:=.cells #[.int .u32 (a:Int),.int .u32 (c:Int)] 131 (0,0)
def hdL (a c:Nat):List Nat:= [a%256,a/256%256,a/65536%256,a/16777216%256,c%256,c/256%256,c/65536%256,c/16777216%256]
theorem Z3d (a c:Nat):hdL a c=Bd a 4++Bd c 4:=by
 simp[hdL,Bd,YZ]
theorem Ut (a:Option Addr)(n cap:Nat)(bs:List Nat)(w:World)(hl:bs.length=n)(hn:n<=12000)(hby:BytesIn w a bs)(hv:∀j,bs.getD j 0<256):
 Calls Tryz.prog 78 #[.slice a n cap] w fun e w'=>e=.returned (hdV n (crcN 0 bs))/\Below w.heap.size w w':=by
 obtain⟨N,hN⟩:∃N,w.heap.size=N:=⟨_,rfl⟩
 have HC:=Ab (fun X=>Z1c 0 a n cap bs (w.alloc X) hl hn (by decide) (hby.alloc _) hv);have hn32:IntKind.u32.wrap (n:Int)=(n:Int):=by simp[IntKind.wrap,IntKind.signed,IntKind.bits];omega
 obtain⟨c,hc⟩:∃c,crcN 0 bs=c:=⟨_,rfl⟩
 rw[hc]at HC ⊢;unfold hdV;clear hc hby hv hl;go_enter Tryz.func78,Tryz.ntmps78
 go_wp2_with fail
 refine(Aa HC _).mono ?_;rintro e w1 ⟨rfl,hB1⟩
 have hR:w1.heap[N]? =some (hdC 0 0):=by
  rw[<-hN];exact(hB1.block _ (by simp)).trans ((heap_alloc_new _ _).trans (by kernel_rfl))
 unfold hdC at hR;have c0:=Ac (i:=0) hR;have c1:=Ac (i:=1) hR;have f0:=frozen_of_row w1 N 0 _ _ hR;have f1:=frozen_of_row w1 N 1 _ _ hR
 have HB:Hid (∀u v:Value,Below w.heap.size w ((w1.setCell ⟨N,0,none⟩ u).setCell ⟨N,1,none⟩ v)):=Ab (fun u v=>by
  have h1:Below w.heap.size w w1:=((Below.refl w.heap.size w).alloc (VC _) _).trans (hB1.mono (by simp));have h2:=h1.grown (Ad w1 N 0 u) h1.size (fun g e=>by cases e;omega);exact h2.grown (Ad _ N 1 v) h2.size (fun g e=>by cases e;omega))
 have HR:=Ab hR;clear hB1 hR HC;go_wp2;refine bodyPost_ret (v:=.agg #[.int .u32 (n:Int),.int .u32 (c:Int)]) ?_ rfl ⟨rfl,Aa HB _ _⟩;refine results_cell_row rfl _ _ N 131 #[.int .u32 (n:Int),.int .u32 (c:Int)] (0,0) _ rfl ?_ Tryz.underlying131 rfl (by kernel_rfl);rw[heap_setCell_same _ N 1 _ _ _ (heap_setCell_same w1 N 0 _ _ _ (Aa HR))];rfl
theorem Nv {w:World}{g a c:Nat}(h:w.heap[g]? =some (hdC a c)):w.cell? ⟨g,0,none⟩=some (.int .u32 (a:Int))/\w.cell? ⟨g,1,none⟩=some (.int .u32 (c:Int)):=⟨Ac (i:=0) h,Ac (i:=1) h⟩
def RSt (a c N:Nat)(w:World)(j:Nat)(W:World):Prop:=URow 129 W (N+2) ((hdL a c).take j++List.replicate (8-j) 0)/\URow 129 W (N+1) (List.replicate 8 0)/\W.heap[N]? =some (hdC a c)/\Below N w W
theorem RSt.cell {a c N j:Nat}{w W:World}(h:RSt a c N w j W)(hj:j<8):∃x,W.cell? ⟨N+2,j,none⟩=some x/\W.frozen? ⟨N+2,j,none⟩=false:=⟨_,h.1.cell j (by simp[hdL];omega),h.1.frozen j⟩
theorem RSt.step {a c N j:Nat}{w W:World}{v:Int}(h:RSt a c N w j W)(hj:j<8)(hv:v=(((hdL a c).getD j 0:Nat):Int)):RSt a c N w (j+1) (W.setCell ⟨N+2,j,none⟩ (.int .u8 v)):=by
 have hgr:=Ad W (N+2) j (.int .u8 v);have hl:(hdL a c).length=8:=rfl;have hlt:N<W.heap.size:=(VG.1 h.2.2.1).1;refine⟨?_,h.2.1.keep (hgr.block _ h.2.1.lt (fun e=>by have:=VN e;omega)),(hgr.block _ hlt (fun e=>by have:=VN e;omega)).trans h.2.2.1,h.2.2.2.grown hgr (YU hlt) (fun g e=>by cases e;omega)⟩;have:=h.1.set j ((hdL a c).getD j 0)
 have e:=KY (hdL a c) j (by omega);rw[hl]at e;rw[e]at this;rw[hv];exact this
theorem Z2e (a c:Nat)(w:World)(ha:a<4294967296)(hc:c<4294967296):
 Calls Tryz.prog 79 #[hdV a c] w fun e w'=>e=.returned (.agg (u8s (hdL a c)).toArray)/\Below w.heap.size w w':=by
 obtain⟨N,hN⟩:∃N,w.heap.size=N:=⟨_,rfl⟩
 unfold hdV
 have HST:Hid (∀A1 A2:Array Value,A1=(u8s (List.replicate 8 0)).toArray->A2=(u8s (List.replicate 8 0)).toArray->RSt a c N w 0 (((w.alloc (.cells #[.int .u32 (a:Int),.int .u32 (c:Int)] 131)).alloc (.cells A1 129)).alloc (.cells A2 129))):=Ab (fun A1 A2 h1 h2=>by
  subst h1 h2;have z1:(w.alloc (.cells #[.int .u32 (a:Int),.int .u32 (c:Int)] 131)).heap.size=N+1:=by simp[hN]
  have z2:((w.alloc (.cells #[.int .u32 (a:Int),.int .u32 (c:Int)] 131)).alloc (.cells (u8s (List.replicate 8 0)).toArray 129)).heap.size=N+2:=by simp[hN]
  refine⟨?_, ?_, ?_, ?_⟩
  . rw[<-z2];exact heap_alloc_new _ _
  . refine(Below.heap_alloc _ _ _ (by rw[z2];omega)).trans ?_;rw[<-z1];exact heap_alloc_new _ _
  . refine(Below.heap_alloc _ _ _ (by rw[z2];omega)).trans ((Below.heap_alloc _ _ _ (by rw[z1];omega)).trans ?_);rw[<-hN];exact heap_alloc_new _ _
  . rw[<-hN];exact(((Below.refl w.heap.size w).alloc (VC _) _).alloc (by simp) _).alloc (by simp;omega) _)
 go_enter Tryz.func79,Tryz.ntmps79
 go_wp2;go_loopw [5] (fun v5 wr=>∃i:Nat,i<=8/\v5=.int .i64 (i:Int)/\Hid (RSt a c N w i wr)) (fun v5 _=>8-(intOf v5).toNat)
 case atStart=>exact⟨0,by decide,rfl,Ab (Aa HST _ _ (by kernel_rfl) (by kernel_rfl))⟩
 case round=>
  obtain⟨i,hi,rfl,hst⟩:=hrel;clear HST
  rcases(by omega:i=0\/i=1\/i=2\/i=3\/i=4\/i=5\/i=6\/i=7\/i=8)with rfl|rfl|rfl|rfl|rfl|rfl|rfl|rfl|rfl
  . obtain⟨x0,q0,f0⟩:=(Aa hst).cell (by decide);have c1:wr.cell? ⟨N+2,0,none⟩=some x0:=q0;have f1:wr.frozen? ⟨N+2,0,none⟩=false:=f0;obtain⟨d0,d1⟩:=Nv (Aa hst).2.2.1;clear q0 f0;go_wp2;refine⟨⟨1,by decide,rfl,Ab ((Aa hst).step (by decide) ?_)⟩,by simp[intOf]⟩;show _=((a%256:Nat):Int)
    omega
  . obtain⟨x0,q0,f0⟩:=(Aa hst).cell (by decide);have c1:wr.cell? ⟨N+2,1,none⟩=some x0:=q0;have f1:wr.frozen? ⟨N+2,1,none⟩=false:=f0;obtain⟨d0,d1⟩:=Nv (Aa hst).2.2.1;clear q0 f0;go_wp2;refine⟨⟨2,by decide,rfl,Ab ((Aa hst).step (by decide) ?_)⟩,by simp[intOf]⟩;show _=((a/256%256:Nat):Int)
    omega
  . obtain⟨x0,q0,f0⟩:=(Aa hst).cell (by decide);have c1:wr.cell? ⟨N+2,2,none⟩=some x0:=q0;have f1:wr.frozen? ⟨N+2,2,none⟩=false:=f0;obtain⟨d0,d1⟩:=Nv (Aa hst).2.2.1;clear q0 f0;go_wp2;refine⟨⟨3,by decide,rfl,Ab ((Aa hst).step (by decide) ?_)⟩,by simp[intOf]⟩;show _=((a/65536%256:Nat):Int)
    omega
  . obtain⟨x0,q0,f0⟩:=(Aa hst).cell (by decide);have c1:wr.cell? ⟨N+2,3,none⟩=some x0:=q0;have f1:wr.frozen? ⟨N+2,3,none⟩=false:=f0;obtain⟨d0,d1⟩:=Nv (Aa hst).2.2.1;clear q0 f0;go_wp2;refine⟨⟨4,by decide,rfl,Ab ((Aa hst).step (by decide) ?_)⟩,by simp[intOf]⟩;show _=((a/16777216%256:Nat):Int)
    omega
  . obtain⟨x0,q0,f0⟩:=(Aa hst).cell (by decide);have c1:wr.cell? ⟨N+2,4,none⟩=some x0:=q0;have f1:wr.frozen? ⟨N+2,4,none⟩=false:=f0;obtain⟨d0,d1⟩:=Nv (Aa hst).2.2.1;clear q0 f0;go_wp2;refine⟨⟨5,by decide,rfl,Ab ((Aa hst).step (by decide) ?_)⟩,by simp[intOf]⟩;show _=((c%256:Nat):Int)
    omega
  . obtain⟨x0,q0,f0⟩:=(Aa hst).cell (by decide);have c1:wr.cell? ⟨N+2,5,none⟩=some x0:=q0;have f1:wr.frozen? ⟨N+2,5,none⟩=false:=f0;obtain⟨d0,d1⟩:=Nv (Aa hst).2.2.1;clear q0 f0;go_wp2;refine⟨⟨6,by decide,rfl,Ab ((Aa hst).step (by decide) ?_)⟩,by simp[intOf]⟩;show _=((c/256%256:Nat):Int)
    omega
  . obtain⟨x0,q0,f0⟩:=(Aa hst).cell (by decide);have c1:wr.cell? ⟨N+2,6,none⟩=some x0:=q0;have f1:wr.frozen? ⟨N+2,6,none⟩=false:=f0;obtain⟨d0,d1⟩:=Nv (Aa hst).2.2.1;clear q0 f0;go_wp2;refine⟨⟨7,by decide,rfl,Ab ((Aa hst).step (by decide) ?_)⟩,by simp[intOf]⟩;show _=((c/65536%256:Nat):Int)
    omega
  . obtain⟨x0,q0,f0⟩:=(Aa hst).cell (by decide);have c1:wr.cell? ⟨N+2,7,none⟩=some x0:=q0;have f1:wr.frozen? ⟨N+2,7,none⟩=false:=f0;obtain⟨d0,d1⟩:=Nv (Aa hst).2.2.1;clear q0 f0;go_wp2;refine⟨⟨8,by decide,rfl,Ab ((Aa hst).step (by decide) ?_)⟩,by simp[intOf]⟩;show _=((c/16777216%256:Nat):Int)
    omega
  . obtain⟨TL,hTL⟩:∃TL,hdL a c=TL:=⟨_,rfl⟩
    have hTl:TL.length=8:=by rw[<-hTL];rfl
    have hi1:(Tryz.prog.info? 129).map (·.size)=some (u8s TL).toArray.size:=by rw[Z3b];simp[hTl]
    obtain⟨r5,r0,_,bN⟩:=Aa hst
    have r6:URow 129 wr (N+2) TL:=by
     have:(hdL a c).take 8++List.replicate (8-8) 0=TL:=by rw[hTL,VP (by omega)];simp
     rw[this]at r5;exact r5
    have R5:=Ab r6;have R0:=Ab r0;have BN:=Ab bN;have HTL:=Ab hTL;have hu8:=Tryz.underlying129;clear r5 r0 bN hst r6 hTL;have HFN:Hid (∀W,wr.setRow (N+1) (u8s TL).toArray=W->W.heap[N+1]? =some (.cells (u8s TL).toArray 129 (0,0))/\Below N w W):=Ab (fun W hW=>by rw[<-hW];exact⟨setRow_heap _ _ _ _ _ _ (Aa R0),Av (Aa BN) (Nat.le_succ _) _⟩);go_wp2_with (first|refine wpList_load_row rfl 129 (.tmp 3) rfl (N+2) rfl 129 (u8s TL).toArray (0,0) _ (Aa R5) hu8 rfl hi1 ?_|refine wpList_store_row rfl 129 (.tmp 2) (.tmp 20) rfl (N+1) (u8s TL).toArray rfl rfl 129 _ (Aa R0) hi1 (by simp[hTl]) (IX TL) ?_)
    obtain⟨W9,hW9⟩:∃W9,wr.setRow (N+1) (u8s TL).toArray=W9:=⟨_,rfl⟩
    obtain⟨z1,z2⟩:=Aa HFN W9 hW9;rw[hW9];refine bodyPost_ret (v:=.agg (u8s TL).toArray) ?_ rfl ⟨by rw[Aa HTL],by rw[hN];exact z2⟩;exact results_cell_row rfl _ _ (N+1) _ _ _ _ rfl z1 hu8 rfl hi1
end Go.Proofs.YtieianhejdcgdaaGreatDoor
