import Derived.Test.YtcjbgpacnkilnagGreatDoorQ45
import Derived.Test.YtcjbgpacnkilnagGreatDoorQ10
import Derived.Test.YtcjbgpacnkilnagGreatDoorQ44
set_option maxHeartbeats 2000000
namespace Go.Proofs.YtcjbgpacnkilnagGreatDoor
open Go
set_option linter.unusedVariables false
theorem Z5c (n:List UInt8):Sm n []=none:=rfl
theorem Ey (n:List UInt8)(x:Fl)(l:List Fl):Sm n (x::l)=if x.name=n then some x else Sm n l:=by
 unfold Sm;rw[List.find?_cons]
 by_cases h:x.name=n
 . simp[h]
 . have h2:(x.name==n)=false:=by simpa using h
   rw[h2,if_neg h]
theorem Ll {n:List UInt8}{l:List Fl}(h:∀f∈l,Fe n f.name<0):Sm n l=none:=by
 unfold Sm;rw[List.find?_eq_none];intro y hy;simp
 intro e;have:=h y hy
 rw[e,Ru]at this;omega
theorem Qd {x:Fl}{l:List Fl}(h1:Og l)(h2:∀g∈l,Fe x.name g.name<0):Og (x::l):=by
 intro i j a b ha hb hij
 match i,j,hij with
 |0,j+1,_=>
  simp at ha hb
  subst ha;exact h2 b (List.mem_of_getElem? hb)
 |i+1,j+1,hij=>
  simp at ha hb
  exact h1 i j a b ha hb (by omega)
theorem Zfa:∀(a b:List Fl),Og a->Og b->(∀n,Sm n a=Sm n b)->a=b
 | [],[],_,_,_=>rfl
 | [],y::b,_,_,h=>by have:=h y.name;rw[Z5c,Ey,if_pos rfl]at this;cases this
 |x::a,[],_,_,h=>by have:=h x.name;rw[Z5c,Ey,if_pos rfl]at this;cases this
 |x::a,y::b,ha,hb,h=>by
  obtain⟨a1,a2⟩:=Ik ha;obtain⟨b1,b2⟩:=Ik hb
  rcases Er x.name y.name with hc|hc|hc
  . have h1:=h x.name
    have h2:Sm x.name (y::b)=none:=Ll (fun f hf=>by
     rcases List.mem_cons.1 hf with rfl|hf
     . omega
     . exact Fq (by omega) (b2 f hf))
    rw[Ey,if_pos rfl,h2]at h1
    cases h1
  . have hn:=Xc hc;have h1:=h x.name;rw[Ey,if_pos rfl,Ey,if_pos hn.symm]at h1;have hxy:x=y:=Option.some.inj h1;subst hxy;rw[Zfa a b a1 b1 (fun n=> ?_)]
    by_cases e:x.name=n
    . subst e;rw[Ll a2,Ll b2]
    . have:=h n
      rw[Ey,Ey,if_neg e,if_neg e]at this;exact this
  . have hc':Fe y.name x.name<0:=by have:=Me x.name y.name;omega
    have h1:=h y.name
    have h2:Sm y.name (x::a)=none:=Ll (fun f hf=>by
     rcases List.mem_cons.1 hf with rfl|hf
     . exact hc'
     . exact Fq hc' (a2 f hf))
    rw[h2,Ey,if_pos rfl]at h1
    cases h1
theorem Zau (x y:Fl):Vs x y=x\/Vs x y=y:=by
 unfold Vs
 split
 . exact .inr rfl
 . exact .inl rfl
theorem Zav {x y:Fl}(h:x.name=y.name):(Vs x y).name=x.name:=by
 rcases Zau x y with e|e
 . rw[e]
 . rw[e,h]
theorem Kf:∀(a b:List Fl) (f:Fl),f∈tog a b->f∈a\/f∈b
 | [],b,f,h=>by rw[Ka]at h;exact .inr h
 |x::a,[],f,h=>by rw[Kq]at h;exact .inl h
 |x::a,y::b,f,h=>by
  rcases Er x.name y.name with hc|hc|hc
  . rw[Z4g (by omega)]at h
    rcases List.mem_cons.1 h with rfl|h
    . exact .inl (by simp)
    . rcases Kf a (y::b) f h with h|h
      . exact .inl (List.mem_cons_of_mem _ h)
      . exact .inr h
  . rw[Z9r hc]at h
    rcases List.mem_cons.1 h with rfl|h
    . rcases Zau x y with e|e
      . rw[e];exact .inl (by simp)
      . rw[e];exact .inr (by simp)
    . rcases Kf a b f h with h|h
      . exact .inl (List.mem_cons_of_mem _ h)
      . exact .inr (List.mem_cons_of_mem _ h)
  . rw[Z9q (by omega)]at h
    rcases List.mem_cons.1 h with rfl|h
    . exact .inr (by simp)
    . rcases Kf (x::a) b f h with h|h
      . exact .inl h
      . exact .inr (List.mem_cons_of_mem _ h)
termination_by a b=>a.length+b.length
theorem Ol:∀(a b:List Fl),Og a->Og b->Og (tog a b)
 | [],b,_,hb=>by rw[Ka];exact hb
 |x::a,[],ha,_=>by rw[Kq];exact ha
 |x::a,y::b,ha,hb=>by
  obtain⟨a1,a2⟩:=Ik ha;obtain⟨b1,b2⟩:=Ik hb
  rcases Er x.name y.name with hc|hc|hc
  . rw[Z4g (by omega)];refine Qd (Ol a (y::b) a1 hb) (fun g hg=> ?_)
    rcases Kf _ _ g hg with h|h
    . exact a2 g h
    . rcases List.mem_cons.1 h with rfl|h
      . omega
      . exact Fq (by omega) (b2 g h)
  . have hn:=Xc hc;rw[Z9r hc];refine Qd (Ol a b a1 b1) (fun g hg=> ?_);rw[Zav hn]
    rcases Kf _ _ g hg with h|h
    . exact a2 g h
    . rw[hn];exact b2 g h
  . have hc':Fe y.name x.name<0:=by have:=Me x.name y.name;omega
    rw[Z9q (by omega)];refine Qd (Ol (x::a) b ha b1) (fun g hg=> ?_)
    rcases Kf _ _ g hg with h|h
    . rcases List.mem_cons.1 h with rfl|h
      . exact hc'
      . exact Fq hc' (a2 g h)
    . exact b2 g h
termination_by a b=>a.length+b.length
theorem Zgq {a b:List Fl}(ha:Ej a=0)(hb:Ej b=0)(hl:(tog a b).length<=12):Ej (tog a b)=0:=by
 obtain⟨_,a2,a3⟩:=Ri.1 ha;obtain⟨_,b2,b3⟩:=Ri.1 hb;refine Ri.2 ⟨hl,fun f hf=> ?_,Ol a b a3 b3⟩
 rcases Kf a b f hf with h|h
 . exact a2 f h
 . exact b2 f h
theorem Jp {a b:List Fl}:Cw a b=0↔Ej a=0/\Ej b=0/\(tog a b).length<=12:=by
 constructor
 . intro h
   by_cases he:Z0w a b=0
   . obtain⟨h1,h2⟩:=Rj.1 he;refine⟨h1,h2, ?_⟩
     by_cases hl:12<(tog a b).length
     . rw[Un he hl]at h;cases h
     . omega
   . rw[Z1f he]at h;exact absurd h he
 . rintro ⟨h1,h2,h3⟩;exact Z66 (Rj.2 ⟨h1,h2⟩) (by omega)
theorem Zdm {a b:List Fl}(h:Cw a b=0):Ej (Gw a b)=0:=by
 obtain⟨h1,h2,h3⟩:=Jp.1 h;rw[Pg h];exact Zgq h1 h2 h3
end Go.Proofs.YtcjbgpacnkilnagGreatDoor
namespace Go.Proofs.YtcjbgpacnkilnagGreatDoor
set_option linter.unusedVariables false
def Tq (b:List Nat):Option (List Nat):=
 if b.length<8 then none
 else if 12000<Ai (b.take 4)\/b.length-8<Ai (b.take 4)then none
 else if crcN 0 ((b.drop 8).take (Ai (b.take 4)))=Ai ((b.drop 4).take 4)then some ((b.drop 8).take (Ai (b.take 4)))else none
def stepF (fs:List Fl)(b:List Nat):Option (List Fl×Nat):=
 (Tq b).bind fun ar=>if Fc ar=0/\Cw fs (Dp ar)=0 then some (Gw fs (Dp ar),8+ar.length)else none
inductive Recs:List Fl->List Nat->List Fl->Nat->Prop
 |stop {fs:List Fl} {b:List Nat}:stepF fs b=none->Recs fs b fs 0
 |more {fs:List Fl} {b:List Nat} {f1:List Fl} {k:Nat} {f2:List Fl} {n:Nat}:stepF fs b=some (f1,k)->Recs f1 (b.drop k) f2 n->Recs fs b f2 (k+n)
def Gy (ar:List Nat):List Nat:=Bd ar.length 4++Bd (crcN 0 ar) 4++ar
theorem Et (ar:List Nat):(Gy ar).length=8+ar.length:=by simp[Gy,Ak];omega
theorem La {b ar:List Nat}(h:Tq b=some ar):8+ar.length<=b.length/\ar.length<=12000/\ar.length=Ai (b.take 4)/\ar=(b.drop 8).take (Ai (b.take 4))/\crcN 0 ar=Ai ((b.drop 4).take 4):=by
 unfold Tq at h
 split at h
 . cases h
 . split at h
   . cases h
   . split at h
     . rename_i h1 h2 h3
       cases h
       have e:((b.drop 8).take (Ai (b.take 4))).length=Ai (b.take 4):=by
        rw[List.length_take,List.length_drop];omega
       exact⟨by rw[e];omega,by rw[e];omega,e,rfl,h3⟩
     . cases h
theorem Zam {b ar:List Nat}(h1:8+ar.length<=b.length)(h2:ar.length<=12000)(h3:ar.length=Ai (b.take 4))(h4:ar=(b.drop 8).take (Ai (b.take 4)))(h5:crcN 0 ar=Ai ((b.drop 4).take 4)):Tq b=some ar:=by
 unfold Tq;rw[if_neg (by omega),if_neg (by omega),<-h4,if_pos h5]
theorem Z4o {b ar:List Nat}(h:Tq b=some ar)(c:List Nat):Tq (b++c)=some ar:=by
 obtain⟨h1,h2,h3,h4,h5⟩:=La h;have e1:(b++c).take 4=b.take 4:=List.take_append_of_le_length (by omega);have e2:(b++c).drop 4=b.drop 4++c:=List.drop_append_of_le_length (by omega);have e3:(b++c).drop 8=b.drop 8++c:=List.drop_append_of_le_length (by omega);refine Zam (by rw[List.length_append];omega) h2 (by rw[e1];exact h3) ?_ ?_
 . rw[e1,e3,List.take_append_of_le_length (by rw[List.length_drop,<-h3];omega)];exact h4
 . rw[e2,List.take_append_of_le_length (by rw[List.length_drop];omega)];exact h5
theorem Z4n {ar:List Nat}(hn:ar.length<=12000)(hv:∀x∈ar,x<256)(c:List Nat):Tq (Gy ar++c)=some ar:=by
 refine Z4o ?_ c
 have e1:(Gy ar).take 4=Bd ar.length 4:=by
  unfold Gy;rw[List.append_assoc,List.take_append_of_le_length (by rw[Ak];decide),List.take_of_length_le (by rw[Ak];decide)]
 have e2:((Gy ar).drop 4).take 4=Bd (crcN 0 ar) 4:=by
  unfold Gy;rw[List.append_assoc,List.drop_append_of_le_length (by rw[Ak];decide),List.drop_of_length_le (by rw[Ak];decide),List.nil_append,List.take_append_of_le_length (by rw[Ak];decide),List.take_of_length_le (by rw[Ak];decide)]
 have e3:(Gy ar).drop 8=ar:=by
  unfold Gy;rw[List.drop_append_of_le_length (by rw[List.length_append,Ak,Ak];decide),List.drop_of_length_le (by rw[List.length_append,Ak,Ak];decide),List.nil_append]
 have e4:Ai (Bd ar.length 4)=ar.length:=Ch 4 _ (by omega);have e5:Ai (Bd (crcN 0 ar) 4)=crcN 0 ar:=Ch 4 _ (by have:=Z3j hv (p:=0) (by decide);omega);refine Zam (by rw[Et];omega) hn (by rw[e1,e4]) (by rw[e1,e4,e3,List.take_of_length_le (Nat.le_refl _)]) (by rw[e2,e5])
theorem Jf {fs f:List Fl}{b:List Nat}{k:Nat}(h:stepF fs b=some (f,k)):∃ar,Tq b=some ar/\Fc ar=0/\Cw fs (Dp ar)=0/\f=Gw fs (Dp ar)/\k=8+ar.length:=by
 unfold stepF at h
 cases hr:Tq b with
 |none=>rw[hr]at h;cases h
 |some ar=>
  rw[hr,Option.bind_some]at h
  split at h
  . rename_i h1
    cases h
    exact⟨ar,rfl,h1.1,h1.2,rfl,rfl⟩
  . cases h
theorem Vg {fs:List Fl}{b ar:List Nat}(h:Tq b=some ar)(h1:Fc ar=0)(h2:Cw fs (Dp ar)=0):stepF fs b=some (Gw fs (Dp ar),8+ar.length):=by
 unfold stepF;rw[h,Option.bind_some,if_pos ⟨h1,h2⟩]
theorem Ih {fs f:List Fl}{b:List Nat}{k:Nat}(h:stepF fs b=some (f,k)):8<=k/\k<=b.length:=by
 obtain⟨ar,h1,_,_,_,rfl⟩:=Jf h;have:=(La h1).1
 omega
theorem Ys {fs f:List Fl}{b:List Nat}{k:Nat}(h:stepF fs b=some (f,k))(c:List Nat):stepF fs (b++c)=some (f,k):=by
 obtain⟨ar,h1,h2,h3,rfl,rfl⟩:=Jf h;exact Vg (Z4o h1 c) h2 h3
theorem Za9 {fs f:List Fl}{b:List Nat}{k:Nat}(h:stepF fs b=some (f,k)):Ej f=0:=by
 obtain⟨ar,_,_,h3,rfl,_⟩:=Jf h;exact Zdm h3
theorem Recs.le {fs f:List Fl}{b:List Nat}{n:Nat}(h:Recs fs b f n):n<=b.length:=by
 induction h with
 |stop _=>exact Nat.zero_le _
 |more h1 _ ih=>
  have:=(Ih h1).2
  rw[List.length_drop]at ih;omega
theorem Recs.err {fs f:List Fl}{b:List Nat}{n:Nat}(h:Recs fs b f n)(he:Ej fs=0):Ej f=0:=by
 induction h with
 |stop _=>exact he
 |more h1 _ ih=>exact ih (Za9 h1)
theorem Recs.one {fs f g:List Fl}{b:List Nat}{n m:Nat}(h:Recs fs b f n)(k:Recs fs b g m):f=g/\n=m:=by
 induction h generalizing g m with
 |stop h1=>
  cases k with
  |stop _=>exact⟨rfl,rfl⟩
  |more k1 _=>rw[h1]at k1;cases k1
 |more h1 _ ih=>
  cases k with
  |stop k1=>rw[h1]at k1;cases k1
  |more k1 k2=>
   rw[h1]at k1
   cases k1
   obtain⟨e1,e2⟩:=ih k2;exact⟨e1,by rw[e2]⟩
theorem Recs.ex:∀(q:Nat) (fs:List Fl) (b:List Nat),b.length<=q->∃f n,Recs fs b f n
 |0,fs,b,h=>by
  cases hs:stepF fs b with
  |none=>exact⟨_,_,.stop hs⟩
  |some p=>have:=Ih (f:=p.1) (k:=p.2) hs;omega
 |q+1,fs,b,h=>by
  cases hs:stepF fs b with
  |none=>exact⟨_,_,.stop hs⟩
  |some p=>
   have h2:=Ih (f:=p.1) (k:=p.2) hs;obtain⟨f,n,h3⟩:=Recs.ex q p.1 (b.drop p.2) (by rw[List.length_drop];omega);exact⟨f,p.2+n,.more hs h3⟩
theorem Recs.app {fs f g:List Fl}{a c:List Nat}{n m:Nat}(h:Recs fs a f n)(hn:n=a.length)(k:Recs f c g m):Recs fs (a++c) g (n+m):=by
 induction h with
 | @stop fs b h1=>
  have:b= []:=List.length_eq_zero_iff.1 hn.symm
  subst this;rw[List.nil_append,Nat.zero_add];exact k
 | @more fs b f1 q f2 n h1 h2 ih=>
  have hq:=(Ih h1).2;have hi:=ih (by rw[List.length_drop];omega) k;rw[Nat.add_assoc];refine .more (Ys h1 c) ?_;rw[List.drop_append_of_le_length hq];exact hi
theorem Zez {fs:List Fl}{ar:List Nat}(hv:∀x∈ar,x<256)(h1:Fc ar=0)(h2:Cw fs (Dp ar)=0)(c:List Nat):stepF fs (Gy ar++c)=some (Gw fs (Dp ar),8+ar.length):=by
 obtain⟨_,_,_,_,_,_,hl⟩:=Ze h1;exact Vg (Z4n hl hv c) h1 h2
theorem Za8 {fs:List Fl}{ar:List Nat}(hv:∀x∈ar,x<256)(h1:Fc ar=0){j:Nat}(hj:j<8+ar.length):stepF fs ((Gy ar).take j)=none:=by
 obtain⟨_,_,_,_,_,_,hl⟩:=Ze h1
 cases hs:stepF fs ((Gy ar).take j)with
 |none=>rfl
 |some p=>
  obtain⟨p1,p2⟩:=p;have h3:=Ih hs;obtain⟨ar2,k1,_,_,_,k5⟩:=Jf (Ys hs ((Gy ar).drop j));rw[List.take_append_drop]at k1;have k2:=Z4n hl hv [];rw[List.append_nil,k1]at k2
  cases k2
  rw[List.length_take]at h3;omega
theorem Zd (fs:List Fl):Recs fs [] fs 0:=by
 refine .stop ?_;unfold stepF Tq;rw[if_pos (by decide)];rfl
theorem Recs.snoc {fs f:List Fl}{b ar:List Nat}(h:Recs fs b f b.length)(hv:∀x∈ar,x<256)(h1:Fc ar=0)(h2:Cw f (Dp ar)=0):Recs fs (b++Gy ar) (Gw f (Dp ar)) (b++Gy ar).length:=by
 have h3:=Zez (fs:=f) hv h1 h2 [];rw[List.append_nil]at h3
 have h4:Recs f (Gy ar) (Gw f (Dp ar)) (8+ar.length+0):=by
  refine .more h3 ?_;rw[List.drop_of_length_le (by rw[Et];omega)];exact Zd _
 have:=h.app rfl h4
 rw[List.length_append,Et];exact this
theorem Recs.snoc_less {fs f:List Fl}{b ar:List Nat}(h:Recs fs b f b.length)(hv:∀x∈ar,x<256)(h1:Fc ar=0){j:Nat}(hj:j<8+ar.length):Recs fs (b++(Gy ar).take j) f b.length:=by
 have:=h.app rfl (Recs.stop (Za8 (fs:=f) hv h1 hj))
 rwa [Nat.add_zero]at this
theorem Vp {ar:List Nat}(hv:∀x∈ar,x<256):∀x∈Gy ar,x<256:=by
 intro x hx;unfold Gy at hx
 rcases List.mem_append.1 hx with h|h
 . rcases List.mem_append.1 h with h|h
   . exact Eh _ _ x h
   . exact Eh _ _ x h
 . exact hv x h
end Go.Proofs.YtcjbgpacnkilnagGreatDoor
namespace Go.Proofs.YtcjbgpacnkilnagGreatDoor
open Go.RowKit
set_option linter.unusedVariables false
set_option linter.unusedSimpArgs false
set_option maxRecDepth 100000
def hdV (a c:Nat):Value:=.agg #[.int .u32 (a:Int),.int .u32 (c:Int)]
def hdC (a c:Nat):Obj:=.cells #[.int .u32 (a:Int),.int .u32 (c:Int)] 69 (0,0)
def hdL (a c:Nat):List Nat:= [a%256,a/256%256,a/65536%256,a/16777216%256,c%256,c/256%256,c/65536%256,c/16777216%256]
theorem Zk5 (a c:Nat):hdL a c=Bd a 4++Bd c 4:=by
 simp[hdL,Bd,Nat.div_div_eq_div_mul]
theorem Uc (a:Option Addr)(n cap:Nat)(bs:List Nat)(w:World)(hl:bs.length=n)(hn:n<=12000)(hby:BytesIn w a bs)(hv:∀j,bs.getD j 0<256):
 Calls Tryz.prog 31 #[.slice a n cap] w fun e w'=>e=.returned (hdV n (crcN 0 bs))/\Below w.heap.size w w':=by
 obtain⟨N,hN⟩:∃N,w.heap.size=N:=⟨_,rfl⟩
 have HC:=Ab (fun X=>Zi4 0 a n cap bs (w.alloc X) hl hn (by decide) (hby.alloc _) hv);have hn32:IntKind.u32.wrap (n:Int)=(n:Int):=by simp[IntKind.wrap,IntKind.signed,IntKind.bits];omega
 obtain⟨c,hc⟩:∃c,crcN 0 bs=c:=⟨_,rfl⟩
 rw[hc]at HC ⊢;unfold hdV;clear hc hby hv hl;go_enter Tryz.func31,Tryz.ntmps31
 go_wp2_with fail
 refine(Aa HC _).mono ?_;rintro e w1 ⟨rfl,hB1⟩
 have hR:w1.heap[N]? =some (hdC 0 0):=by
  rw[<-hN];exact(hB1.block _ (by simp)).trans ((heap_alloc_new _ _).trans (by kernel_rfl))
 unfold hdC at hR;have c0:=Ac (i:=0) hR;have c1:=Ac (i:=1) hR;have f0:=frozen_of_row w1 N 0 _ _ hR;have f1:=frozen_of_row w1 N 1 _ _ hR
 have HB:Hid (∀u v:Value,Below w.heap.size w ((w1.setCell ⟨N,0,none⟩ u).setCell ⟨N,1,none⟩ v)):=Ab (fun u v=>by
  have h1:Below w.heap.size w w1:=((Below.refl w.heap.size w).alloc (Nat.le_refl _) _).trans (hB1.mono (by simp));have h2:=h1.grown (Ad w1 N 0 u) h1.size (fun g e=>by cases e;omega);exact h2.grown (Ad _ N 1 v) h2.size (fun g e=>by cases e;omega))
 have HR:=Ab hR;clear hB1 hR HC;go_wp2;refine bodyPost_ret (v:=.agg #[.int .u32 (n:Int),.int .u32 (c:Int)]) ?_ rfl ⟨rfl,Aa HB _ _⟩;refine results_cell_row rfl _ _ N 69 #[.int .u32 (n:Int),.int .u32 (c:Int)] (0,0) _ rfl ?_ Tryz.underlying69 rfl (by kernel_rfl);rw[heap_setCell_same _ N 1 _ _ _ (heap_setCell_same w1 N 0 _ _ _ (Aa HR))];rfl
theorem Np {w:World}{g a c:Nat}(h:w.heap[g]? =some (hdC a c)):w.cell? ⟨g,0,none⟩=some (.int .u32 (a:Int))/\w.cell? ⟨g,1,none⟩=some (.int .u32 (c:Int)):=⟨Ac (i:=0) h,Ac (i:=1) h⟩
def RSt (a c N:Nat)(w:World)(j:Nat)(W:World):Prop:=URow 67 W (N+2) ((hdL a c).take j++List.replicate (8-j) 0)/\URow 67 W (N+1) (List.replicate 8 0)/\W.heap[N]? =some (hdC a c)/\Below N w W
theorem RSt.cell {a c N j:Nat}{w W:World}(h:RSt a c N w j W)(hj:j<8):∃x,W.cell? ⟨N+2,j,none⟩=some x/\W.frozen? ⟨N+2,j,none⟩=false:=⟨_,h.1.cell j (by simp[hdL];omega),h.1.frozen j⟩
theorem RSt.step {a c N j:Nat}{w W:World}{v:Int}(h:RSt a c N w j W)(hj:j<8)(hv:v=(((hdL a c).getD j 0:Nat):Int)):RSt a c N w (j+1) (W.setCell ⟨N+2,j,none⟩ (.int .u8 v)):=by
 have hgr:=Ad W (N+2) j (.int .u8 v);have hl:(hdL a c).length=8:=rfl;have hlt:N<W.heap.size:=(Array.getElem?_eq_some_iff.1 h.2.2.1).1;refine⟨?_,h.2.1.keep (hgr.block _ h.2.1.lt (fun e=>by have:=Option.some.inj e;omega)),(hgr.block _ hlt (fun e=>by have:=Option.some.inj e;omega)).trans h.2.2.1,h.2.2.2.grown hgr (Nat.le_of_lt hlt) (fun g e=>by cases e;omega)⟩;have:=h.1.set j ((hdL a c).getD j 0)
 have e:=Zay (hdL a c) j (by omega);rw[hl]at e;rw[e]at this;rw[hv];exact this
theorem Zj7 (a c:Nat)(w:World)(ha:a<4294967296)(hc:c<4294967296):
 Calls Tryz.prog 32 #[hdV a c] w fun e w'=>e=.returned (.agg (u8s (hdL a c)).toArray)/\Below w.heap.size w w':=by
 obtain⟨N,hN⟩:∃N,w.heap.size=N:=⟨_,rfl⟩
 unfold hdV
 have HST:Hid (∀A1 A2:Array Value,A1=(u8s (List.replicate 8 0)).toArray->A2=(u8s (List.replicate 8 0)).toArray->RSt a c N w 0 (((w.alloc (.cells #[.int .u32 (a:Int),.int .u32 (c:Int)] 69)).alloc (.cells A1 67)).alloc (.cells A2 67))):=Ab (fun A1 A2 h1 h2=>by
  subst h1 h2;have z1:(w.alloc (.cells #[.int .u32 (a:Int),.int .u32 (c:Int)] 69)).heap.size=N+1:=by simp[hN]
  have z2:((w.alloc (.cells #[.int .u32 (a:Int),.int .u32 (c:Int)] 69)).alloc (.cells (u8s (List.replicate 8 0)).toArray 67)).heap.size=N+2:=by simp[hN]
  refine⟨?_, ?_, ?_, ?_⟩
  . rw[<-z2];exact heap_alloc_new _ _
  . refine(Below.heap_alloc _ _ _ (by rw[z2];omega)).trans ?_;rw[<-z1];exact heap_alloc_new _ _
  . refine(Below.heap_alloc _ _ _ (by rw[z2];omega)).trans ((Below.heap_alloc _ _ _ (by rw[z1];omega)).trans ?_);rw[<-hN];exact heap_alloc_new _ _
  . rw[<-hN];exact(((Below.refl w.heap.size w).alloc (Nat.le_refl _) _).alloc (by simp) _).alloc (by simp;omega) _)
 go_enter Tryz.func32,Tryz.ntmps32
 go_wp2;go_loopw [5] (fun v5 wr=>∃i:Nat,i<=8/\v5=.int .i64 (i:Int)/\Hid (RSt a c N w i wr)) (fun v5 _=>8-(intOf v5).toNat)
 case atStart=>exact⟨0,by decide,rfl,Ab (Aa HST _ _ (by kernel_rfl) (by kernel_rfl))⟩
 case round=>
  obtain⟨i,hi,rfl,hst⟩:=hrel;clear HST
  rcases(by omega:i=0\/i=1\/i=2\/i=3\/i=4\/i=5\/i=6\/i=7\/i=8)with rfl|rfl|rfl|rfl|rfl|rfl|rfl|rfl|rfl
  . obtain⟨x0,q0,f0⟩:=(Aa hst).cell (by decide);have c1:wr.cell? ⟨N+2,0,none⟩=some x0:=q0;have f1:wr.frozen? ⟨N+2,0,none⟩=false:=f0;obtain⟨d0,d1⟩:=Np (Aa hst).2.2.1;clear q0 f0;go_wp2;refine⟨⟨1,by decide,rfl,Ab ((Aa hst).step (by decide) ?_)⟩,by simp[intOf]⟩;show _=((a%256:Nat):Int)
    omega
  . obtain⟨x0,q0,f0⟩:=(Aa hst).cell (by decide);have c1:wr.cell? ⟨N+2,1,none⟩=some x0:=q0;have f1:wr.frozen? ⟨N+2,1,none⟩=false:=f0;obtain⟨d0,d1⟩:=Np (Aa hst).2.2.1;clear q0 f0;go_wp2;refine⟨⟨2,by decide,rfl,Ab ((Aa hst).step (by decide) ?_)⟩,by simp[intOf]⟩;show _=((a/256%256:Nat):Int)
    omega
  . obtain⟨x0,q0,f0⟩:=(Aa hst).cell (by decide);have c1:wr.cell? ⟨N+2,2,none⟩=some x0:=q0;have f1:wr.frozen? ⟨N+2,2,none⟩=false:=f0;obtain⟨d0,d1⟩:=Np (Aa hst).2.2.1;clear q0 f0;go_wp2;refine⟨⟨3,by decide,rfl,Ab ((Aa hst).step (by decide) ?_)⟩,by simp[intOf]⟩;show _=((a/65536%256:Nat):Int)
    omega
  . obtain⟨x0,q0,f0⟩:=(Aa hst).cell (by decide);have c1:wr.cell? ⟨N+2,3,none⟩=some x0:=q0;have f1:wr.frozen? ⟨N+2,3,none⟩=false:=f0;obtain⟨d0,d1⟩:=Np (Aa hst).2.2.1;clear q0 f0;go_wp2;refine⟨⟨4,by decide,rfl,Ab ((Aa hst).step (by decide) ?_)⟩,by simp[intOf]⟩;show _=((a/16777216%256:Nat):Int)
    omega
  . obtain⟨x0,q0,f0⟩:=(Aa hst).cell (by decide);have c1:wr.cell? ⟨N+2,4,none⟩=some x0:=q0;have f1:wr.frozen? ⟨N+2,4,none⟩=false:=f0;obtain⟨d0,d1⟩:=Np (Aa hst).2.2.1;clear q0 f0;go_wp2;refine⟨⟨5,by decide,rfl,Ab ((Aa hst).step (by decide) ?_)⟩,by simp[intOf]⟩;show _=((c%256:Nat):Int)
    omega
  . obtain⟨x0,q0,f0⟩:=(Aa hst).cell (by decide);have c1:wr.cell? ⟨N+2,5,none⟩=some x0:=q0;have f1:wr.frozen? ⟨N+2,5,none⟩=false:=f0;obtain⟨d0,d1⟩:=Np (Aa hst).2.2.1;clear q0 f0;go_wp2;refine⟨⟨6,by decide,rfl,Ab ((Aa hst).step (by decide) ?_)⟩,by simp[intOf]⟩;show _=((c/256%256:Nat):Int)
    omega
  . obtain⟨x0,q0,f0⟩:=(Aa hst).cell (by decide);have c1:wr.cell? ⟨N+2,6,none⟩=some x0:=q0;have f1:wr.frozen? ⟨N+2,6,none⟩=false:=f0;obtain⟨d0,d1⟩:=Np (Aa hst).2.2.1;clear q0 f0;go_wp2;refine⟨⟨7,by decide,rfl,Ab ((Aa hst).step (by decide) ?_)⟩,by simp[intOf]⟩;show _=((c/65536%256:Nat):Int)
    omega
  . obtain⟨x0,q0,f0⟩:=(Aa hst).cell (by decide);have c1:wr.cell? ⟨N+2,7,none⟩=some x0:=q0;have f1:wr.frozen? ⟨N+2,7,none⟩=false:=f0;obtain⟨d0,d1⟩:=Np (Aa hst).2.2.1;clear q0 f0;go_wp2;refine⟨⟨8,by decide,rfl,Ab ((Aa hst).step (by decide) ?_)⟩,by simp[intOf]⟩;show _=((c/16777216%256:Nat):Int)
    omega
  . obtain⟨TL,hTL⟩:∃TL,hdL a c=TL:=⟨_,rfl⟩
    have hTl:TL.length=8:=by rw[<-hTL];rfl
    have hi1:(Tryz.prog.info? 67).map (·.size)=some (u8s TL).toArray.size:=by rw[Zk3];simp[hTl]
    obtain⟨r5,r0,_,bN⟩:=Aa hst
    have r6:URow 67 wr (N+2) TL:=by
     have:(hdL a c).take 8++List.replicate (8-8) 0=TL:=by rw[hTL,List.take_of_length_le (by omega)];simp
     rw[this]at r5;exact r5
    have R5:=Ab r6;have R0:=Ab r0;have BN:=Ab bN;have HTL:=Ab hTL;have hu8:=Tryz.underlying67;clear r5 r0 bN hst r6 hTL;have HFN:Hid (∀W,wr.setRow (N+1) (u8s TL).toArray=W->W.heap[N+1]? =some (.cells (u8s TL).toArray 67 (0,0))/\Below N w W):=Ab (fun W hW=>by rw[<-hW];exact⟨setRow_heap _ _ _ _ _ _ (Aa R0),Av (Aa BN) (Nat.le_succ _) _⟩);go_wp2_with (first|refine wpList_load_row rfl 67 (.tmp 3) rfl (N+2) rfl 67 (u8s TL).toArray (0,0) _ (Aa R5) hu8 rfl hi1 ?_|refine wpList_store_row rfl 67 (.tmp 2) (.tmp 20) rfl (N+1) (u8s TL).toArray rfl rfl 67 _ (Aa R0) hi1 (by simp[hTl]) (Z9k TL) ?_)
    obtain⟨W9,hW9⟩:∃W9,wr.setRow (N+1) (u8s TL).toArray=W9:=⟨_,rfl⟩
    obtain⟨z1,z2⟩:=Aa HFN W9 hW9;rw[hW9];refine bodyPost_ret (v:=.agg (u8s TL).toArray) ?_ rfl ⟨by rw[Aa HTL],by rw[hN];exact z2⟩;exact results_cell_row rfl _ _ (N+1) _ _ _ _ rfl z1 hu8 rfl hi1
end Go.Proofs.YtcjbgpacnkilnagGreatDoor
