import Derived.Test.YtcjbgpacnkilnaiGreatDoorQ45
import Derived.Test.YtcjbgpacnkilnaiGreatDoorQ11
import Derived.Test.YtcjbgpacnkilnaiGreatDoorQ44
set_option maxHeartbeats 2000000
namespace Go.Proofs.YtcjbgpacnkilnaiGreatDoor
open Go
set_option linter.unusedVariables false
theorem Lt {a b:List Fl}:Co a b=0↔Em a=0/\Em b=0/\(tog a b).length<=12:=by
 constructor
 . intro h
   by_cases he:Ys a b=0
   . obtain⟨h1,h2⟩:=Pn.1 he;refine⟨h1,h2, ?_⟩
     by_cases hl:12<(tog a b).length
     . rw[So he hl]at h;cases h
     . omega
   . rw[Zi he]at h;exact absurd h he
 . rintro ⟨h1,h2,h3⟩;exact Z3u (Pn.2 ⟨h1,h2⟩) (by omega)
end Go.Proofs.YtcjbgpacnkilnaiGreatDoor
namespace Go.Proofs.YtcjbgpacnkilnaiGreatDoor
set_option linter.unusedVariables false
def Pz (b:List Nat):Option (List Nat):=
 if b.length<8 then none
 else if 12000<Ah (b.take 4)\/b.length-8<Ah (b.take 4)then none
 else if crcN 0 ((b.drop 8).take (Ah (b.take 4)))=Ah ((b.drop 4).take 4)then some ((b.drop 8).take (Ah (b.take 4)))else none
def stepF (fs:List Fl)(b:List Nat):Option (List Fl×Nat):=
 (Pz b).bind fun ar=>if Ee ar=0/\Co fs (Da ar)=0 then some (Gl fs (Da ar),8+ar.length)else none
inductive Recs:List Fl->List Nat->List Fl->Nat->Prop
 |stop {fs:List Fl} {b:List Nat}:stepF fs b=none->Recs fs b fs 0
 |more {fs:List Fl} {b:List Nat} {f1:List Fl} {k:Nat} {f2:List Fl} {n:Nat}:stepF fs b=some (f1,k)->Recs f1 (b.drop k) f2 n->Recs fs b f2 (k+n)
def Hh (ar:List Nat):List Nat:=Az ar.length 4++Az (crcN 0 ar) 4++ar
theorem Ef (ar:List Nat):(Hh ar).length=8+ar.length:=by simp[Hh,Aj];omega
theorem Ho {b ar:List Nat}(h:Pz b=some ar):8+ar.length<=b.length/\ar.length<=12000/\ar.length=Ah (b.take 4)/\ar=(b.drop 8).take (Ah (b.take 4))/\crcN 0 ar=Ah ((b.drop 4).take 4):=by
 unfold Pz at h
 split at h
 . cases h
 . split at h
   . cases h
   . split at h
     . rename_i h1 h2 h3
       cases h
       have e:((b.drop 8).take (Ah (b.take 4))).length=Ah (b.take 4):=by
        rw[List.length_take,List.length_drop];omega
       exact⟨by rw[e];omega,by rw[e];omega,e,rfl,h3⟩
     . cases h
theorem Z0h {b ar:List Nat}(h1:8+ar.length<=b.length)(h2:ar.length<=12000)(h3:ar.length=Ah (b.take 4))(h4:ar=(b.drop 8).take (Ah (b.take 4)))(h5:crcN 0 ar=Ah ((b.drop 4).take 4)):Pz b=some ar:=by
 unfold Pz;rw[if_neg (by omega),if_neg (by omega),<-h4,if_pos h5]
theorem Z2g {b ar:List Nat}(h:Pz b=some ar)(c:List Nat):Pz (b++c)=some ar:=by
 obtain⟨h1,h2,h3,h4,h5⟩:=Ho h;have e1:(b++c).take 4=b.take 4:=List.take_append_of_le_length (by omega);have e2:(b++c).drop 4=b.drop 4++c:=List.drop_append_of_le_length (by omega);have e3:(b++c).drop 8=b.drop 8++c:=List.drop_append_of_le_length (by omega);refine Z0h (by rw[List.length_append];omega) h2 (by rw[e1];exact h3) ?_ ?_
 . rw[e1,e3,List.take_append_of_le_length (by rw[List.length_drop,<-h3];omega)];exact h4
 . rw[e2,List.take_append_of_le_length (by rw[List.length_drop];omega)];exact h5
theorem Zcj {a c ar:List Nat}(h:Pz (a++c)=some ar)(hl:8+ar.length<=a.length):Pz a=some ar:=by
 obtain⟨h1,h2,h3,h4,h5⟩:=Ho h;have e1:(a++c).take 4=a.take 4:=List.take_append_of_le_length (by omega);have e2:(a++c).drop 4=a.drop 4++c:=List.drop_append_of_le_length (by omega);have e3:(a++c).drop 8=a.drop 8++c:=List.drop_append_of_le_length (by omega);rw[e1]at h3 h4;rw[e3,List.take_append_of_le_length (by rw[List.length_drop,<-h3];omega)]at h4;rw[e2,List.take_append_of_le_length (by rw[List.length_drop];omega)]at h5;exact Z0h hl h2 h3 h4 h5
theorem Z2f {ar:List Nat}(hn:ar.length<=12000)(hv:∀x∈ar,x<256)(c:List Nat):Pz (Hh ar++c)=some ar:=by
 refine Z2g ?_ c
 have e1:(Hh ar).take 4=Az ar.length 4:=by
  unfold Hh;rw[List.append_assoc,List.take_append_of_le_length (by rw[Aj];decide),List.take_of_length_le (by rw[Aj];decide)]
 have e2:((Hh ar).drop 4).take 4=Az (crcN 0 ar) 4:=by
  unfold Hh;rw[List.append_assoc,List.drop_append_of_le_length (by rw[Aj];decide),List.drop_of_length_le (by rw[Aj];decide),List.nil_append,List.take_append_of_le_length (by rw[Aj];decide),List.take_of_length_le (by rw[Aj];decide)]
 have e3:(Hh ar).drop 8=ar:=by
  unfold Hh;rw[List.drop_append_of_le_length (by rw[List.length_append,Aj,Aj];decide),List.drop_of_length_le (by rw[List.length_append,Aj,Aj];decide),List.nil_append]
 have e4:Ah (Az ar.length 4)=ar.length:=Bz 4 _ (by omega);have e5:Ah (Az (crcN 0 ar) 4)=crcN 0 ar:=Bz 4 _ (by have:=Z1d hv (p:=0) (by decide);omega);refine Z0h (by rw[Ef];omega) hn (by rw[e1,e4]) (by rw[e1,e4,e3,List.take_of_length_le (Nat.le_refl _)]) (by rw[e2,e5])
theorem Ic {fs f:List Fl}{b:List Nat}{k:Nat}(h:stepF fs b=some (f,k)):∃ar,Pz b=some ar/\Ee ar=0/\Co fs (Da ar)=0/\f=Gl fs (Da ar)/\k=8+ar.length:=by
 unfold stepF at h
 cases hr:Pz b with
 |none=>rw[hr]at h;cases h
 |some ar=>
  rw[hr,Option.bind_some]at h
  split at h
  . rename_i h1
    cases h
    exact⟨ar,rfl,h1.1,h1.2,rfl,rfl⟩
  . cases h
theorem Mq {fs:List Fl}{b ar:List Nat}(h:Pz b=some ar)(h1:Ee ar=0)(h2:Co fs (Da ar)=0):stepF fs b=some (Gl fs (Da ar),8+ar.length):=by
 unfold stepF;rw[h,Option.bind_some,if_pos ⟨h1,h2⟩]
theorem Dz {fs f:List Fl}{b:List Nat}{k:Nat}(h:stepF fs b=some (f,k)):8<=k/\k<=b.length:=by
 obtain⟨ar,h1,_,_,_,rfl⟩:=Ic h;have:=(Ho h1).1
 omega
theorem Od {fs f:List Fl}{b:List Nat}{k:Nat}(h:stepF fs b=some (f,k))(c:List Nat):stepF fs (b++c)=some (f,k):=by
 obtain⟨ar,h1,h2,h3,rfl,rfl⟩:=Ic h;exact Mq (Z2g h1 c) h2 h3
theorem Z7r {fs f:List Fl}{a c:List Nat}{k:Nat}(h:stepF fs (a++c)=some (f,k))(hk:k<=a.length):stepF fs a=some (f,k):=by
 obtain⟨ar,h1,h2,h3,rfl,rfl⟩:=Ic h;exact Mq (Zcj h1 hk) h2 h3
theorem Recs.le {fs f:List Fl}{b:List Nat}{n:Nat}(h:Recs fs b f n):n<=b.length:=by
 induction h with
 |stop _=>exact Nat.zero_le _
 |more h1 _ ih=>
  have:=(Dz h1).2
  rw[List.length_drop]at ih;omega
theorem Recs.one {fs f g:List Fl}{b:List Nat}{n m:Nat}(h:Recs fs b f n)(k:Recs fs b g m):f=g/\n=m:=by
 induction h generalizing g m with
 |stop h1=>
  cases k with
  |stop _=>exact⟨rfl,rfl⟩
  |more k1 _=>rw[h1]at k1;cases k1
 |more h1 _ ih=>
  cases k with
  |stop k1=>rw[h1]at k1;cases k1
  |more k1 k2=>
   rw[h1]at k1
   cases k1
   obtain⟨e1,e2⟩:=ih k2;exact⟨e1,by rw[e2]⟩
theorem Recs.ex:∀(q:Nat) (fs:List Fl) (b:List Nat),b.length<=q->∃f n,Recs fs b f n
 |0,fs,b,h=>by
  cases hs:stepF fs b with
  |none=>exact⟨_,_,.stop hs⟩
  |some p=>have:=Dz (f:=p.1) (k:=p.2) hs;omega
 |q+1,fs,b,h=>by
  cases hs:stepF fs b with
  |none=>exact⟨_,_,.stop hs⟩
  |some p=>
   have h2:=Dz (f:=p.1) (k:=p.2) hs;obtain⟨f,n,h3⟩:=Recs.ex q p.1 (b.drop p.2) (by rw[List.length_drop];omega);exact⟨f,p.2+n,.more hs h3⟩
theorem Recs.app {fs f g:List Fl}{a c:List Nat}{n m:Nat}(h:Recs fs a f n)(hn:n=a.length)(k:Recs f c g m):Recs fs (a++c) g (n+m):=by
 induction h with
 | @stop fs b h1=>
  have:b= []:=List.length_eq_zero_iff.1 hn.symm
  subst this;rw[List.nil_append,Nat.zero_add];exact k
 | @more fs b f1 q f2 n h1 h2 ih=>
  have hq:=(Dz h1).2;have hi:=ih (by rw[List.length_drop];omega) k;rw[Nat.add_assoc];refine .more (Od h1 c) ?_;rw[List.drop_append_of_le_length hq];exact hi
theorem Recs.self {fs f:List Fl}{b:List Nat}{n:Nat}(h:Recs fs b f n):Recs fs (b.take n) f n:=by
 induction h with
 | @stop fs b h1=>
  refine .stop ?_
  cases hs:stepF fs (List.take 0 b)with
  |none=>rfl
  |some p=>have:=Dz (f:=p.1) (k:=p.2) hs;simp at this;omega
 | @more fs b f1 q f2 n h1 h2 ih=>
  have hq:=(Dz h1).2;have hl:=h2.le;rw[List.length_drop]at hl;have e:b=b.take (q+n)++b.drop (q+n):=(List.take_append_drop _ _).symm;rw[e]at h1;have h3:=Z7r h1 (by rw[List.length_take];omega);refine .more h3 ?_;have e2:(b.take (q+n)).drop q=(b.drop q).take n:=by rw[List.drop_take];congr 1;omega
  rw[e2];exact ih
theorem Recs.pre {fs f g:List Fl}{b c:List Nat}{n m:Nat}(h:Recs fs b f n)(k:Recs fs (b++c) g m):n<=m:=by
 induction h generalizing g m with
 |stop _=>exact Nat.zero_le _
 | @more fs b f1 q f2 n h1 h2 ih=>
  have h3:=Od h1 c;have hq:=(Dz h1).2
  cases k with
  |stop k1=>rw[h3]at k1;cases k1
  |more k1 k2=>
   rw[h3]at k1
   cases k1
   rw[List.drop_append_of_le_length hq]at k2;have:=ih k2
   omega
theorem Zc9 {fs:List Fl}{ar:List Nat}(hv:∀x∈ar,x<256)(h1:Ee ar=0)(h2:Co fs (Da ar)=0)(c:List Nat):stepF fs (Hh ar++c)=some (Gl fs (Da ar),8+ar.length):=by
 obtain⟨_,_,_,_,_,_,hl⟩:=Wt h1;exact Mq (Z2f hl hv c) h1 h2
theorem Z7q {fs:List Fl}{ar:List Nat}(hv:∀x∈ar,x<256)(h1:Ee ar=0){j:Nat}(hj:j<8+ar.length):stepF fs ((Hh ar).take j)=none:=by
 obtain⟨_,_,_,_,_,_,hl⟩:=Wt h1
 cases hs:stepF fs ((Hh ar).take j)with
 |none=>rfl
 |some p=>
  obtain⟨p1,p2⟩:=p;have h3:=Dz hs;obtain⟨ar2,k1,_,_,_,k5⟩:=Ic (Od hs ((Hh ar).drop j));rw[List.take_append_drop]at k1;have k2:=Z2f hl hv [];rw[List.append_nil,k1]at k2
  cases k2
  rw[List.length_take]at h3;omega
theorem Wp (fs:List Fl):Recs fs [] fs 0:=by
 refine .stop ?_;unfold stepF Pz;rw[if_pos (by decide)];rfl
theorem Recs.snoc {fs f:List Fl}{b ar:List Nat}(h:Recs fs b f b.length)(hv:∀x∈ar,x<256)(h1:Ee ar=0)(h2:Co f (Da ar)=0):Recs fs (b++Hh ar) (Gl f (Da ar)) (b++Hh ar).length:=by
 have h3:=Zc9 (fs:=f) hv h1 h2 [];rw[List.append_nil]at h3
 have h4:Recs f (Hh ar) (Gl f (Da ar)) (8+ar.length+0):=by
  refine .more h3 ?_;rw[List.drop_of_length_le (by rw[Ef];omega)];exact Wp _
 have:=h.app rfl h4
 rw[List.length_append,Ef];exact this
theorem Recs.snoc_less {fs f:List Fl}{b ar:List Nat}(h:Recs fs b f b.length)(hv:∀x∈ar,x<256)(h1:Ee ar=0){j:Nat}(hj:j<8+ar.length):Recs fs (b++(Hh ar).take j) f b.length:=by
 have:=h.app rfl (Recs.stop (Z7q (fs:=f) hv h1 hj))
 rwa [Nat.add_zero]at this
theorem Z2e {ar:List Nat}(hv:∀x∈ar,x<256):∀x∈Hh ar,x<256:=by
 intro x hx;unfold Hh at hx
 rcases List.mem_append.1 hx with h|h
 . rcases List.mem_append.1 h with h|h
   . exact Ds _ _ x h
   . exact Ds _ _ x h
 . exact hv x h
end Go.Proofs.YtcjbgpacnkilnaiGreatDoor
namespace Go.Proofs.YtcjbgpacnkilnaiGreatDoor
open Go.RowKit
set_option linter.unusedVariables false
set_option linter.unusedSimpArgs false
set_option maxRecDepth 100000
def hdV (a c:Nat):Value:=.agg #[.int .u32 (a:Int),.int .u32 (c:Int)]
def hdC (a c:Nat):Obj:=.cells #[.int .u32 (a:Int),.int .u32 (c:Int)] 105 (0,0)
def hdL (a c:Nat):List Nat:= [a%256,a/256%256,a/65536%256,a/16777216%256,c%256,c/256%256,c/65536%256,c/16777216%256]
theorem Zgt (a c:Nat):hdL a c=Az a 4++Az c 4:=by
 simp[hdL,Az,Nat.div_div_eq_div_mul]
theorem Sf (a:Option Addr)(n cap:Nat)(bs:List Nat)(w:World)(hl:bs.length=n)(hn:n<=12000)(hby:BytesIn w a bs)(hv:∀j,bs.getD j 0<256):
 Calls Tryz.prog 58 #[.slice a n cap] w fun e w'=>e=.returned (hdV n (crcN 0 bs))/\Below w.heap.size w w':=by
 obtain⟨N,hN⟩:∃N,w.heap.size=N:=⟨_,rfl⟩
 have HC:=Ab (fun X=>Zf1 0 a n cap bs (w.alloc X) hl hn (by decide) (hby.alloc _) hv);have hn32:IntKind.u32.wrap (n:Int)=(n:Int):=by simp[IntKind.wrap,IntKind.signed,IntKind.bits];omega
 obtain⟨c,hc⟩:∃c,crcN 0 bs=c:=⟨_,rfl⟩
 rw[hc]at HC ⊢;unfold hdV;clear hc hby hv hl;go_enter Tryz.func58,Tryz.ntmps58
 go_wp2_with fail
 refine(Aa HC _).mono ?_;rintro e w1 ⟨rfl,hB1⟩
 have hR:w1.heap[N]? =some (hdC 0 0):=by
  rw[<-hN];exact(hB1.block _ (by simp)).trans ((heap_alloc_new _ _).trans (by kernel_rfl))
 unfold hdC at hR;have c0:=Ac (i:=0) hR;have c1:=Ac (i:=1) hR;have f0:=frozen_of_row w1 N 0 _ _ hR;have f1:=frozen_of_row w1 N 1 _ _ hR
 have HB:Hid (∀u v:Value,Below w.heap.size w ((w1.setCell ⟨N,0,none⟩ u).setCell ⟨N,1,none⟩ v)):=Ab (fun u v=>by
  have h1:Below w.heap.size w w1:=((Below.refl w.heap.size w).alloc (Nat.le_refl _) _).trans (hB1.mono (by simp));have h2:=h1.grown (Ad w1 N 0 u) h1.size (fun g e=>by cases e;omega);exact h2.grown (Ad _ N 1 v) h2.size (fun g e=>by cases e;omega))
 have HR:=Ab hR;clear hB1 hR HC;go_wp2;refine bodyPost_ret (v:=.agg #[.int .u32 (n:Int),.int .u32 (c:Int)]) ?_ rfl ⟨rfl,Aa HB _ _⟩;refine results_cell_row rfl _ _ N 105 #[.int .u32 (n:Int),.int .u32 (c:Int)] (0,0) _ rfl ?_ Tryz.underlying105 rfl (by kernel_rfl);rw[heap_setCell_same _ N 1 _ _ _ (heap_setCell_same w1 N 0 _ _ _ (Aa HR))];rfl
theorem Ma {w:World}{g a c:Nat}(h:w.heap[g]? =some (hdC a c)):w.cell? ⟨g,0,none⟩=some (.int .u32 (a:Int))/\w.cell? ⟨g,1,none⟩=some (.int .u32 (c:Int)):=⟨Ac (i:=0) h,Ac (i:=1) h⟩
def RSt (a c N:Nat)(w:World)(j:Nat)(W:World):Prop:=URow 107 W (N+2) ((hdL a c).take j++List.replicate (8-j) 0)/\URow 107 W (N+1) (List.replicate 8 0)/\W.heap[N]? =some (hdC a c)/\Below N w W
theorem RSt.cell {a c N j:Nat}{w W:World}(h:RSt a c N w j W)(hj:j<8):∃x,W.cell? ⟨N+2,j,none⟩=some x/\W.frozen? ⟨N+2,j,none⟩=false:=⟨_,h.1.cell j (by simp[hdL];omega),h.1.frozen j⟩
theorem RSt.step {a c N j:Nat}{w W:World}{v:Int}(h:RSt a c N w j W)(hj:j<8)(hv:v=(((hdL a c).getD j 0:Nat):Int)):RSt a c N w (j+1) (W.setCell ⟨N+2,j,none⟩ (.int .u8 v)):=by
 have hgr:=Ad W (N+2) j (.int .u8 v);have hl:(hdL a c).length=8:=rfl;have hlt:N<W.heap.size:=(Array.getElem?_eq_some_iff.1 h.2.2.1).1;refine⟨?_,h.2.1.keep (hgr.block _ h.2.1.lt (fun e=>by have:=Option.some.inj e;omega)),(hgr.block _ hlt (fun e=>by have:=Option.some.inj e;omega)).trans h.2.2.1,h.2.2.2.grown hgr (Nat.le_of_lt hlt) (fun g e=>by cases e;omega)⟩;have:=h.1.set j ((hdL a c).getD j 0)
 have e:=Z8d (hdL a c) j (by omega);rw[hl]at e;rw[e]at this;rw[hv];exact this
theorem Zfv (a c:Nat)(w:World)(ha:a<4294967296)(hc:c<4294967296):
 Calls Tryz.prog 62 #[hdV a c] w fun e w'=>e=.returned (.agg (u8s (hdL a c)).toArray)/\Below w.heap.size w w':=by
 obtain⟨N,hN⟩:∃N,w.heap.size=N:=⟨_,rfl⟩
 unfold hdV
 have HST:Hid (∀A1 A2:Array Value,A1=(u8s (List.replicate 8 0)).toArray->A2=(u8s (List.replicate 8 0)).toArray->RSt a c N w 0 (((w.alloc (.cells #[.int .u32 (a:Int),.int .u32 (c:Int)] 105)).alloc (.cells A1 107)).alloc (.cells A2 107))):=Ab (fun A1 A2 h1 h2=>by
  subst h1 h2;have z1:(w.alloc (.cells #[.int .u32 (a:Int),.int .u32 (c:Int)] 105)).heap.size=N+1:=by simp[hN]
  have z2:((w.alloc (.cells #[.int .u32 (a:Int),.int .u32 (c:Int)] 105)).alloc (.cells (u8s (List.replicate 8 0)).toArray 107)).heap.size=N+2:=by simp[hN]
  refine⟨?_, ?_, ?_, ?_⟩
  . rw[<-z2];exact heap_alloc_new _ _
  . refine(Below.heap_alloc _ _ _ (by rw[z2];omega)).trans ?_;rw[<-z1];exact heap_alloc_new _ _
  . refine(Below.heap_alloc _ _ _ (by rw[z2];omega)).trans ((Below.heap_alloc _ _ _ (by rw[z1];omega)).trans ?_);rw[<-hN];exact heap_alloc_new _ _
  . rw[<-hN];exact(((Below.refl w.heap.size w).alloc (Nat.le_refl _) _).alloc (by simp) _).alloc (by simp;omega) _)
 go_enter Tryz.func62,Tryz.ntmps62
 go_wp2;go_loopw [5] (fun v5 wr=>∃i:Nat,i<=8/\v5=.int .i64 (i:Int)/\Hid (RSt a c N w i wr)) (fun v5 _=>8-(intOf v5).toNat)
 case atStart=>exact⟨0,by decide,rfl,Ab (Aa HST _ _ (by kernel_rfl) (by kernel_rfl))⟩
 case round=>
  obtain⟨i,hi,rfl,hst⟩:=hrel;clear HST
  rcases(by omega:i=0\/i=1\/i=2\/i=3\/i=4\/i=5\/i=6\/i=7\/i=8)with rfl|rfl|rfl|rfl|rfl|rfl|rfl|rfl|rfl
  . obtain⟨x0,q0,f0⟩:=(Aa hst).cell (by decide);have c1:wr.cell? ⟨N+2,0,none⟩=some x0:=q0;have f1:wr.frozen? ⟨N+2,0,none⟩=false:=f0;obtain⟨d0,d1⟩:=Ma (Aa hst).2.2.1;clear q0 f0;go_wp2;refine⟨⟨1,by decide,rfl,Ab ((Aa hst).step (by decide) ?_)⟩,by simp[intOf]⟩;show _=((a%256:Nat):Int)
    omega
  . obtain⟨x0,q0,f0⟩:=(Aa hst).cell (by decide);have c1:wr.cell? ⟨N+2,1,none⟩=some x0:=q0;have f1:wr.frozen? ⟨N+2,1,none⟩=false:=f0;obtain⟨d0,d1⟩:=Ma (Aa hst).2.2.1;clear q0 f0;go_wp2;refine⟨⟨2,by decide,rfl,Ab ((Aa hst).step (by decide) ?_)⟩,by simp[intOf]⟩;show _=((a/256%256:Nat):Int)
    omega
  . obtain⟨x0,q0,f0⟩:=(Aa hst).cell (by decide);have c1:wr.cell? ⟨N+2,2,none⟩=some x0:=q0;have f1:wr.frozen? ⟨N+2,2,none⟩=false:=f0;obtain⟨d0,d1⟩:=Ma (Aa hst).2.2.1;clear q0 f0;go_wp2;refine⟨⟨3,by decide,rfl,Ab ((Aa hst).step (by decide) ?_)⟩,by simp[intOf]⟩;show _=((a/65536%256:Nat):Int)
    omega
  . obtain⟨x0,q0,f0⟩:=(Aa hst).cell (by decide);have c1:wr.cell? ⟨N+2,3,none⟩=some x0:=q0;have f1:wr.frozen? ⟨N+2,3,none⟩=false:=f0;obtain⟨d0,d1⟩:=Ma (Aa hst).2.2.1;clear q0 f0;go_wp2;refine⟨⟨4,by decide,rfl,Ab ((Aa hst).step (by decide) ?_)⟩,by simp[intOf]⟩;show _=((a/16777216%256:Nat):Int)
    omega
  . obtain⟨x0,q0,f0⟩:=(Aa hst).cell (by decide);have c1:wr.cell? ⟨N+2,4,none⟩=some x0:=q0;have f1:wr.frozen? ⟨N+2,4,none⟩=false:=f0;obtain⟨d0,d1⟩:=Ma (Aa hst).2.2.1;clear q0 f0;go_wp2;refine⟨⟨5,by decide,rfl,Ab ((Aa hst).step (by decide) ?_)⟩,by simp[intOf]⟩;show _=((c%256:Nat):Int)
    omega
  . obtain⟨x0,q0,f0⟩:=(Aa hst).cell (by decide);have c1:wr.cell? ⟨N+2,5,none⟩=some x0:=q0;have f1:wr.frozen? ⟨N+2,5,none⟩=false:=f0;obtain⟨d0,d1⟩:=Ma (Aa hst).2.2.1;clear q0 f0;go_wp2;refine⟨⟨6,by decide,rfl,Ab ((Aa hst).step (by decide) ?_)⟩,by simp[intOf]⟩;show _=((c/256%256:Nat):Int)
    omega
  . obtain⟨x0,q0,f0⟩:=(Aa hst).cell (by decide);have c1:wr.cell? ⟨N+2,6,none⟩=some x0:=q0;have f1:wr.frozen? ⟨N+2,6,none⟩=false:=f0;obtain⟨d0,d1⟩:=Ma (Aa hst).2.2.1;clear q0 f0;go_wp2;refine⟨⟨7,by decide,rfl,Ab ((Aa hst).step (by decide) ?_)⟩,by simp[intOf]⟩;show _=((c/65536%256:Nat):Int)
    omega
  . obtain⟨x0,q0,f0⟩:=(Aa hst).cell (by decide);have c1:wr.cell? ⟨N+2,7,none⟩=some x0:=q0;have f1:wr.frozen? ⟨N+2,7,none⟩=false:=f0;obtain⟨d0,d1⟩:=Ma (Aa hst).2.2.1;clear q0 f0;go_wp2;refine⟨⟨8,by decide,rfl,Ab ((Aa hst).step (by decide) ?_)⟩,by simp[intOf]⟩;show _=((c/16777216%256:Nat):Int)
    omega
  . obtain⟨TL,hTL⟩:∃TL,hdL a c=TL:=⟨_,rfl⟩
    have hTl:TL.length=8:=by rw[<-hTL];rfl
    have hi1:(Tryz.prog.info? 107).map (·.size)=some (u8s TL).toArray.size:=by rw[Zgr];simp[hTl]
    obtain⟨r5,r0,_,bN⟩:=Aa hst
    have r6:URow 107 wr (N+2) TL:=by
     have:(hdL a c).take 8++List.replicate (8-8) 0=TL:=by rw[hTL,List.take_of_length_le (by omega)];simp
     rw[this]at r5;exact r5
    have R5:=Ab r6;have R0:=Ab r0;have BN:=Ab bN;have HTL:=Ab hTL;have hu8:=Tryz.underlying107;clear r5 r0 bN hst r6 hTL;have HFN:Hid (∀W,wr.setRow (N+1) (u8s TL).toArray=W->W.heap[N+1]? =some (.cells (u8s TL).toArray 107 (0,0))/\Below N w W):=Ab (fun W hW=>by rw[<-hW];exact⟨setRow_heap _ _ _ _ _ _ (Aa R0),Au (Aa BN) (Nat.le_succ _) _⟩);go_wp2_with (first|refine wpList_load_row rfl 107 (.tmp 3) rfl (N+2) rfl 107 (u8s TL).toArray (0,0) _ (Aa R5) hu8 rfl hi1 ?_|refine wpList_store_row rfl 107 (.tmp 2) (.tmp 20) rfl (N+1) (u8s TL).toArray rfl rfl 107 _ (Aa R0) hi1 (by simp[hTl]) (Z77 TL) ?_)
    obtain⟨W9,hW9⟩:∃W9,wr.setRow (N+1) (u8s TL).toArray=W9:=⟨_,rfl⟩
    obtain⟨z1,z2⟩:=Aa HFN W9 hW9;rw[hW9];refine bodyPost_ret (v:=.agg (u8s TL).toArray) ?_ rfl ⟨by rw[Aa HTL],by rw[hN];exact z2⟩;exact results_cell_row rfl _ _ (N+1) _ _ _ _ rfl z1 hu8 rfl hi1
end Go.Proofs.YtcjbgpacnkilnaiGreatDoor
