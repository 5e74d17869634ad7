import Derived.Test.YtcjbgpacnkilnagGreatDoorQ11
import Derived.Test.YtcjbgpacnkilnagGreatDoorQ23
import Derived.Test.YtcjbgpacnkilnagGreatDoorQ21
import Derived.Test.YtcjbgpacnkilnagGreatDoorQ17
import Derived.Test.YtcjbgpacnkilnagGreatDoorQ19
import Derived.Test.YtcjbgpacnkilnagGreatDoorQ1
import Derived.Test.YtcjbgpacnkilnagGreatDoorQ16
set_option maxHeartbeats 2000000
namespace Go.Proofs.YtcjbgpacnkilnagGreatDoor
set_option linter.unusedVariables false
set_option maxRecDepth 100000
theorem Cb (row:List Bool)(n:Nat)(u:US)(h:0<=u.e):0<=(uget row n u).2.e:=by
 unfold uget
 split
 . split
   . exact(by decide:(0:Int)<=7)
   . exact h
 . exact h
theorem Z56 (l:List Int)(row:List Bool)(p:Nat):∀f n,0<=(Ff l row p f n).2.2
 |0,n=>(by decide:(0:Int)<=8)
 |f+1,n=>by
  unfold Ff
  split
  . exact(by decide:(0:Int)<=7)
  . split
    . exact(by decide:(0:Int)<=0)
    . exact Z56 l row p f (n+1)
theorem Ed (l:List Int)(row:List Bool)(u:US)(h:0<=u.e):0<=(uplace l row u).2.e:=by
 unfold uplace
 split
 . exact Z56 l row u.p 15 1
 . exact h
theorem Ft (x:Int)(u:US)(hx:0<=x)(h:0<=u.e):0<=(Ay x u).e:=by
 unfold Ay
 split
 . exact hx
 . exact h
theorem Z9a (c:Nat)(u:US)(h:0<=u.e):0<=(Jq c u).e:=by
 unfold Jq
 split
 . split
   . exact(by decide:(0:Int)<=2)
   . exact h
 . exact h
theorem Xw (row:List Bool):∀(k:Nat) (u:US),0<=u.e->0<=(ustore row k u).e
 |0,u,h=>h
 |k+1,u,h=>by
  unfold ustore
  split
  . exact Xw row k _ (Z9a _ _ (Cb _ _ _ h))
  . exact h
theorem Z4d (d:Nat):∀(k:Nat) (u:US),0<=u.e->0<=(ucopy d k u).e
 |0,u,h=>h
 |k+1,u,h=>by
  unfold ucopy
  split
  . exact Z4d d k _ (Z9a _ _ h)
  . exact h
theorem Z7h (row:List Bool)(u:US)(h:0<=u.e):0<=(Ct row u).e:=by
 have h1:0<=(Dg row u).2.e:=by
  unfold Dg;dsimp only
  split
  . exact Ft _ _ (by decide) (Cb _ _ _ (Cb _ _ _ h))
  . exact Cb _ _ _ (Cb _ _ _ h)
 unfold Ct;dsimp only
 split
 . exact Ft _ _ (by decide) h1
 . exact Xw _ _ _ h1
theorem Zc6 (row:List Bool)(l:List Int)(u:US)(h:0<=u.e):0<=(Od row l u).2.e:=by
 unfold Od
 split
 . exact Ed _ _ _ h
 . split
   . exact(by decide:(0:Int)<=8)
   . exact Cb _ _ _ (Ed _ _ _ h)
theorem Zge (d k:Nat)(u:US)(h:0<=u.e):0<=(Jr d k u).e:=by
 unfold Jr
 split
 . exact(by decide:(0:Int)<=9)
 . split
   . exact(by decide:(0:Int)<=2)
   . exact Z4d _ _ _ h
theorem Z5j (row:List Bool)(lb:List Int)(k:Nat)(u:US)(h:0<=u.e):0<=(Cv row lb k u).e:=by
 unfold Cv
 split
 . split
   . exact(by decide:(0:Int)<=2)
   . exact h
 . split
   . exact(by decide:(0:Int)<=8)
   . split
     . exact Cb _ _ _ h
     . split
       . exact Zc6 _ _ _ (Cb _ _ _ h)
       . exact Zge _ _ _ (Zc6 _ _ _ (Cb _ _ _ h))
theorem Wj (row:List Bool)(la lb:List Int):∀(f:Nat) (u:US),0<=u.e->0<=(Hz row la lb f u).e
 |0,u,h=>by
  unfold Hz
  split
  . exact Ed _ _ _ h
  . exact Ed _ _ _ h
 |f+1,u,h=>by
  rw[Jl]
  split
  . exact Ed _ _ _ h
  . split
    . exact Ed _ _ _ h
    . split
      . exact Z5j _ _ _ _ (Ed _ _ _ h)
      . exact Wj row la lb f _ (Z5j _ _ _ _ (Ed _ _ _ h))
theorem Xy (row:List Bool):∀(ks:List Nat) (s:List Int) (u:US),0<=u.e->0<=(usmall row ks s u).2.e
 | [],s,u,h=>h
 |k::r,s,u,h=>by
  rw[usmall];exact Xy row r _ _ (Cb _ _ _ h)
theorem Zen (row:List Bool)(l:List Int)(k:Nat)(u:US)(h:0<=u.e):0<=(ukind row l k u).2.2.e:=by
 unfold ukind
 split
 . split
   . exact Ft _ _ (by decide) h
   . exact Cb _ _ _ h
 . split
   . exact Cb _ _ _ h
   . split
     . exact Cb _ _ _ h
     . exact h
theorem Zel (tot:Nat)(l:List Int)(r:Int×Nat×US)(h:0<=r.2.2.e):0<=(Sc tot l r).2.e:=by
 unfold Sc;dsimp only
 split
 . exact Ft _ _ (by decide) h
 . exact h
theorem Z49 (row:List Bool)(S:List Int)(tot:Nat):∀(F:Nat) (l:List Int) (u:US),0<=u.e->0<=(ulens row S tot F l u).2.e
 |0,l,u,h=>h
 |F+1,l,u,h=>by
  rw[ulens]
  split
  . exact Z49 row S tot F _ _ (Zel _ _ _ (Zen _ _ _ _ (Ed _ _ _ h)))
  . exact h
theorem Z47 (row:List Bool)(u:US)(h:0<=u.e):0<=(Dd row u).2.e:=by
 unfold Dd;dsimp only;have h3:=Cb row 4 _ (Cb row 5 _ (Cb row 5 u h));generalize (uget row 5 u).1=m0 at*;generalize (uget row 5 (uget row 5 u).2).1=n0 at*;generalize uget row 4 (uget row 5 (uget row 5 u).2).2=g at*
 have hs:0<=(Gi row (m0+257) (n0+1) (g.1+4) g.2).2.e:=by
  unfold Gi;refine Xy _ _ _ _ ?_
  split
  . exact Ft _ _ (by decide) h3
  . exact h3
 generalize Gi row (m0+257) (n0+1) (g.1+4) g.2=s at*
 have hc:0<=(Sz s).e:=by
  unfold Sz
  split
  . exact Ft _ _ (by decide) hs
  . exact hs
 unfold Ni
 split
 . exact hc
 . have hl:=Z49 row s.1 (m0+257+(n0+1)) (m0+257+(n0+1)) [] (Sz s) hc;generalize ulens row s.1 (m0+257+(n0+1)) (m0+257+(n0+1)) [] (Sz s)=r at*;unfold Id
   split
   . exact hl
   . split
     . exact Ft _ _ (by decide) hl
     . exact hl
theorem Wn (k:Nat)(u:US)(h:0<=u.e):0<=(Lo k u).e:=by
 unfold Lo
 split
 . exact h
 . exact h
theorem Zgb (row:List Bool)(k:Nat)(u:US)(h:0<=u.e):0<=(Dy row k u).e:=by
 unfold Dy
 split
 . exact Wn _ _ (Z7h _ _ h)
 . split
   . exact Wn _ _ (Wj _ _ _ _ _ h)
   . split
     . split
       . exact Z47 _ _ h
       . exact Wn _ _ (Wj _ _ _ _ _ (Z47 _ _ h))
     . exact(by decide:(0:Int)<=4)
theorem Z0c (row:List Bool)(u:US)(h:0<=u.e):0<=(Bv row u).2.e:=by
 unfold Bv
 split
 . exact Cb _ _ _ h
 . split
   . exact Cb _ _ _ (Cb _ _ _ h)
   . exact Zgb _ _ _ (Cb _ _ _ (Cb _ _ _ h))
theorem Ua (row:List Bool):∀(F:Nat) (u:US),0<=u.e->0<=(Cd row F u).e
 |0,u,h=>h
 |F+1,u,h=>by
  rw[Cd]
  split
  . exact Ua row F _ (Z0c row u h)
  . exact Z0c row u h
theorem Zg6 (row:List Bool):0<=(Df row).e:=Ua row _ _ (by decide)
end Go.Proofs.YtcjbgpacnkilnagGreatDoor
namespace Go.Proofs.YtcjbgpacnkilnagGreatDoor
open Go.RowKit
set_option linter.unusedVariables false
set_option maxRecDepth 100000
def Znu (w:World)(bs:List Nat)(n:Nat)(e:Ending)(w':World):Prop:=
 Below w.heap.size w w'/\(((Df (rowB bs n)).e=0/\∃ov kv,e=.returned (.tuple #[ov,.int .i64 ((((Df (rowB bs n)).p+7)/8:Nat):Int),kv,.int .i64 0])/\w'.ownsRow (w.heap.size+1) 5 1 ov (Df (rowB bs n)).out.length (u8s (Df (rowB bs n)).out)/\w'.ownsRow (w.heap.size+1) 3 1 kv (Df (rowB bs n)).ks.length (i64s (Df (rowB bs n)).ks))\/ ((Df (rowB bs n)).e≠0/\e=.returned (.tuple #[.slice none 0 0,.int .i64 0,.slice none 0 0,.int .i64 (Df (rowB bs n)).e])))
theorem Va (a:Option Addr)(n cap:Nat)(bs:List Nat)(w:World)(hl:bs.length=n)(hn:n<=6000)(hby:BytesIn w a bs)(hv:∀j,bs.getD j 0<256):
 Calls Tryz.prog 94 #[.slice a n cap] w fun e w'=>Znu w bs n e w':=by
 refine(Z6j a n cap bs w hn (Df (rowB bs n)) ?_ (Zg6 _) (fun e=> ?_)).mono (fun e w' h=>h)
 . intro No B b W hI h1 h2 h3 h4 hBel
   have hRw:Rd w No a n bs:=⟨hl,hn,hby,hv,fun b o ea hne=>h2 b (by
    rcases hby with h0|⟨b',o',e',hb',_⟩
    . exact absurd h0 hne
    . rw[ea]at e';cases e';exact hb')⟩
   have hRW:Rd W No a n bs:=hRw.keep hBel.size (fun g hg _=>hBel.block g hg);refine(Z8p No B b a n cap bs W hI hRW (fun g hg=>h1 g (by omega))).mono ?_;rintro e w' (⟨e0,rfl,hK⟩|⟨e0,rfl,hb⟩)
   . obtain⟨No',f1,f2,hn',hNo',hI',hF',hB'⟩:=hK;exact .inl ⟨e0,rfl,f1,f2,hI'.weak hn',hB'.below,hB'.kp⟩
   . exact .inr ⟨e0,rfl,hb.below,hb.kp⟩
 . have:=(Z08 (rowB bs n) n (Ag bs n) e).2.1
   rw[Ag]at this;omega
theorem Sb (a:Option Addr)(n cap:Nat)(w:World)(hn:6000<n)(hm:n<=9223372036854775807):
 Calls Tryz.prog 94 #[.slice a n cap] w fun e w'=>e=.returned (.tuple #[.slice none 0 0,.int .i64 0,.slice none 0 0,.int .i64 2])/\w'=w:=by
 have hnI:(6000:Int)<(n:Int):=by omega
 go_enter Tryz.func94,Tryz.ntmps94
 go_wp2;refine bodyPost_ret (v:=.tuple #[.slice none 0 0,.int .i64 0,.slice none 0 0,.int .i64 2]) ?_ rfl ⟨rfl,rfl⟩
 first|rfl|kernel_rfl
end Go.Proofs.YtcjbgpacnkilnagGreatDoor
namespace Go.Proofs.YtcjbgpacnkilnagGreatDoor
set_option linter.unusedVariables false
set_option maxRecDepth 100000
def Vl (u:US):Prop:=∀x∈u.out,x<256
theorem Vl.same {u v:US}(h:Vl u)(e:v.out=u.out):Vl v:=fun x hx=>h x (by rw[<-e];exact hx)
theorem Vl.at {u:US}(h:Vl u)(j:Nat):u.out.getD j 0<256:=by
 by_cases hj:j<u.out.length
 . rw[List.getD,List.getElem?_eq_getElem hj];exact h _ (List.getElem_mem hj)
 . rw[List.getD,List.getElem?_eq_none (by omega)];exact(by decide:(0:Nat)<256)
theorem Ee (row:List Bool)(n:Nat)(u:US)(h:Vl u):Vl (uget row n u).2:=h.same (Cf row n u)
theorem Ec (l:List Int)(row:List Bool)(u:US)(h:Vl u):Vl (uplace l row u).2:=h.same (Gj l row u).1
theorem Xq (x:Int)(u:US)(h:Vl u):Vl (Ay x u):=h.same (Xr x u).2.1
theorem Z99 (c:Nat)(u:US)(hc:c<256)(h:Vl u):Vl (Jq c u):=by
 unfold Jq
 split
 . split
   . exact h
   . intro x hx
     rcases List.mem_append.1 hx with h1|h1
     . exact h x h1
     . rw[List.mem_singleton.1 h1];exact hc
 . exact h
theorem Xu (row:List Bool):∀(k:Nat) (u:US),Vl u->Vl (ustore row k u)
 |0,u,h=>h
 |k+1,u,h=>by
  unfold ustore
  split
  . exact Xu row k _ (Z99 _ _ (Ze4 row 8 u) (Ee _ _ _ h))
  . exact h
theorem Z4b (d:Nat):∀(k:Nat) (u:US),Vl u->Vl (ucopy d k u)
 |0,u,h=>h
 |k+1,u,h=>by
  unfold ucopy
  split
  . exact Z4b d k _ (Z99 _ _ (h.at _) h)
  . exact h
theorem Z7f (row:List Bool)(u:US)(h:Vl u):Vl (Ct row u):=by
 have h0:Vl {u with p:=(u.p+7)/8*8}:=h
 have h1:Vl (Dg row u).2:=by
  unfold Dg;dsimp only
  split
  . exact Xq _ _ (Ee _ _ _ (Ee _ _ _ h0))
  . exact Ee _ _ _ (Ee _ _ _ h0)
 unfold Ct;dsimp only
 split
 . exact Xq _ _ h1
 . exact Xu _ _ _ h1
theorem Zc5 (row:List Bool)(l:List Int)(u:US)(h:Vl u):Vl (Od row l u).2:=by
 unfold Od
 split
 . exact Ec _ _ _ h
 . split
   . exact Ec _ _ _ h
   . exact Ee _ _ _ (Ec _ _ _ h)
theorem Zgd (d k:Nat)(u:US)(h:Vl u):Vl (Jr d k u):=by
 unfold Jr
 split
 . exact h
 . split
   . exact h
   . exact Z4b _ _ _ h
theorem Z5i (row:List Bool)(lb:List Int)(k:Nat)(u:US)(h:Vl u):Vl (Cv row lb k u):=by
 unfold Cv
 split
 . rename_i hk
   split
   . exact h
   . intro x hx
     rcases List.mem_append.1 hx with h1|h1
     . exact h x h1
     . rw[List.mem_singleton.1 h1];exact hk
 . split
   . exact h
   . split
     . exact Ee _ _ _ h
     . split
       . exact Zc5 _ _ _ (Ee _ _ _ h)
       . exact Zgd _ _ _ (Zc5 _ _ _ (Ee _ _ _ h))
theorem Wi (row:List Bool)(la lb:List Int):∀(f:Nat) (u:US),Vl u->Vl (Hz row la lb f u)
 |0,u,h=>by
  unfold Hz
  split
  . exact Ec _ _ _ h
  . exact Ec _ _ _ h
 |f+1,u,h=>by
  rw[Jl]
  split
  . exact Ec _ _ _ h
  . split
    . exact Ec _ _ _ h
    . split
      . exact Z5i _ _ _ _ (Ec _ _ _ h)
      . exact Wi row la lb f _ (Z5i _ _ _ _ (Ec _ _ _ h))
theorem Wm (k:Nat)(u:US)(h:Vl u):Vl (Lo k u):=by
 unfold Lo
 split
 . exact h
 . exact h
theorem Zga (row:List Bool)(k:Nat)(u:US)(hp:u.p<=row.length)(h:Vl u)(he:(Dy row k u).e=0):Vl (Dy row k u):=by
 unfold Dy at he ⊢
 split
 . exact Wm _ _ (Z7f _ _ h)
 . rename_i c0
   rw[if_neg c0]at he
   split
   . exact Wm _ _ (Wi _ _ _ _ _ h)
   . rename_i c1
     rw[if_neg c1]at he
     split
     . rename_i c2
       rw[if_pos c2]at he
       split
       . rename_i c3
         rw[if_pos c3]at he;exact absurd he c3
       . rename_i c3
         have e0:(Dd row u).2.e=0:=by omega
         obtain⟨A,C,v,hv⟩:∃A C v,Dd row u=((A,C),v):=⟨_,_,_,rfl⟩
         rw[hv]at e0 ⊢;obtain⟨m0,n0,c0,u1,u2,u3,us,S,L,hT⟩:=Ja hv e0;obtain⟨t1,t2,t3,t4⟩:=Ux hT hp;exact Wm _ _ (Wi _ _ _ _ _ (h.same t3))
     . exact h
theorem Z0b (row:List Bool)(u:US)(hp:u.p<=row.length)(h:Vl u)(he:(Bv row u).2.e=0):Vl (Bv row u).2:=by
 unfold Bv at he ⊢
 split
 . exact Ee _ _ _ h
 . rename_i c
   rw[if_neg c]at he
   split
   . exact Ee _ _ _ (Ee _ _ _ h)
   . rename_i c2
     rw[if_neg c2]at he;exact Zga _ _ _ (Gm _ _ _ (Gm _ _ _ hp)) (Ee _ _ _ (Ee _ _ _ h)) he
theorem Tz (row:List Bool)(N:Nat)(hN:row.length=8*N):∀(F:Nat) (u:US),u.e=0->u.p<=row.length->u.out.length<=3000->Vl u->(Cd row F u).e=0->Vl (Cd row F u)
 |0,u,he,hp,ho,h,hz=>h
 |F+1,u,he,hp,ho,h,hz=>by
  rw[Cd]at hz ⊢
  by_cases c:(Bv row u).1=0/\(Bv row u).2.e=0
  . rw[if_pos c]at hz ⊢;obtain⟨a1,a2,a3,a4⟩:=Jm row N hN u he hp ho c.2;exact Tz row N hN F _ c.2 a3 a4 (Z0b row u hp h c.2) hz
  . rw[if_neg c]at hz ⊢;exact Z0b row u hp h hz
theorem Zbu (row:List Bool)(N:Nat)(hN:row.length=8*N)(h:(Df row).e=0)(j:Nat):(Df row).out.getD j 0<256:=
 (Tz row N hN (row.length+1) US0 rfl (Nat.zero_le _) (Nat.zero_le _) (by intro x hx;cases hx) h).at j
end Go.Proofs.YtcjbgpacnkilnagGreatDoor
namespace Go.Proofs.YtcjbgpacnkilnagGreatDoor
open Go.RowKit
set_option linter.unusedVariables false
set_option maxRecDepth 100000
theorem Zn {w:World}{B n:Nat}{v:Value}{ys:List Nat}(h:w.ownsRow B 5 1 v n (u8s ys)):∃a c,v=.slice a n c/\PkIn w a c ys/\n<=c/\ys.length=n/\∀g o,a=some ⟨g,o,none⟩->B<=g:=by
 have hl:ys.length=n:=by have:=h.1;simpa using this
 obtain⟨_,a,c,hv,hB⟩:=BytesIn.ofOwn h;subst hv
 rcases h.2 with ⟨h1,h2⟩|⟨g,cap,cur,h1,h2,h3,h4,_⟩
 . cases h1
   exact⟨none,0,rfl,⟨hB,fun _=>rfl⟩,by omega,hl,fun g o e=>by cases e⟩
 . cases h1
   exact⟨_,_,rfl,⟨hB,fun e=>by cases e⟩,h4,hl,fun g' o e=>by cases e;exact h2⟩
theorem Hv {w:World}{ops:Array Oper}{rest:List Oper}{o:Oper}{a:Act}{Q:Exit->Act->World->Prop}(hgd:o.guard=none)(s x:Operand)
 (ho:o.op=.call {callee:=.builtin .append,args:= #[s,x],argTypes:= #[22,22]}) (base:Nat) (v:Value) (xs ys:List Nat) (hs:a.eval s=v) (hown:w.ownsRow base 5 1 v xs.length (u8s xs)) (ad:Option Addr) (m c:Nat) (hx:a.eval x=.slice ad m c) (hm:ys.length=m) (hP:PkIn w ad c ys) (hsz:xs.length+m<=140737488355328) (hbase:base<=w.heap.size)
 (h:∀v' w',w'.ownsRow base 5 1 v' (xs.length+ys.length) (u8s xs++u8s ys)->w.grownBy w' v.ownBlock->wpList Tryz.prog ops Q rest (a.put o.dst v') w'):wpList Tryz.prog ops Q (o::rest) a w:=by
 refine wpList_plain hgd fun K hK=> ?_
 obtain⟨v',w',hr,h2,h3⟩:=Kw w o.type base v xs ys hown ad m c hm hP hsz hbase;unfold Oper.wp execOp;simp only[ho,resolve,invoke,builtin,Sem.run_bind,Sem.run_pure,Result.andThen_ok,List.map_toArray,List.map_cons,List.map_nil,hs,hx,hr];exact hK _ _ (h v' w' h2 h3)
theorem Z42 (a:Option Addr)(n cap:Nat)(bs:List Nat)(w:World)(hl:bs.length=n)(hn:n<=12000)(hby:BytesIn w a bs)(hv:∀j,bs.getD j 0<256):
 Calls Tryz.prog 36 #[.slice a n cap] w fun e w'=>e=.returned (.int .u32 (crcN 0 bs:Nat))/\Below w.heap.size w w':=by
 have HC:=Ab (Zi4 0 a n cap bs w hl hn (by decide) hby hv);clear hl hby hv;go_enter Tryz.func36,Tryz.ntmps36
 go_wp2_with fail
 refine(Aa HC).mono ?_;rintro e w1 ⟨rfl,hB⟩;have HB:=Ab hB;clear hB;go_wp2;go_ret;exact⟨rfl,Aa HB⟩
def Unp (w:World)(m:Nat)(pk:List Nat)(e:Ending)(w':World):Prop:=
 Below w.heap.size w w'/\((unpF m pk=none/\∃a l c,e=.returned (.tuple #[.slice a l c,.bool false]))\/ (∃ys,unpF m pk=some ys/\ys.length<=12000/\(∀x∈ys,x<256)/\∃a c,e=.returned (.tuple #[.slice a ys.length c,.bool true])/\ys.length<=c/\PkIn w' a c ys/\∀g o,a=some ⟨g,o,none⟩->ys≠ []->w.heap.size<=g))
theorem Ya (m n c:Nat)(a:Option Addr)(pk:List Nat)(w:World)(hl:pk.length=n)(hn:n<=12000)(hP:PkIn w a c pk)(hv:∀x∈pk,x<256):
 Calls Tryz.prog 80 #[.int .u32 (m:Int),.slice a n c] w fun e w'=>Unp w m pk e w':=by
 by_cases h0:m=0
 . subst h0;have hu:unpF 0 pk=some pk:=rfl;have HP:=Ab hP;have HU:=Ab hu;have HV:=Ab hv;have HL:=Ab hl;clear hP hu hv hl;go_enter Tryz.func80,Tryz.ntmps80
   go_wp2_with (at_builtin;refine Hv rfl _ _ rfl w.heap.size (.slice none 0 0) [] pk rfl (World.ownsRow_nil _ _ _ _) a n c rfl (Aa HL) (Aa HP) (by simp;omega) (Nat.le_refl _) ?_)
   intro v' w' hO hg;have hO2:w'.ownsRow w.heap.size 5 1 v' pk.length (u8s pk):=by simpa using hO
   obtain⟨a',c',rfl,q1,q2,q3,q4⟩:=Zn hO2;have HF:Hid (Unp w 0 pk (.returned (.tuple #[.slice a' pk.length c',.bool true])) w'):=Ab ⟨(Below.refl w.heap.size w).grown hg (Nat.le_refl _) (fun g e=>by cases e),.inr ⟨pk,Aa HU,by rw[Aa HL];exact hn,Aa HV,a',c',rfl,q2,q1,fun g o e _=>q4 g o e⟩⟩;clear hO hg hO2 q1 q2 q3 q4;go_wp2;go_ret2;exact Aa HF
 . by_cases h8:m=8
   . subst h8;clear h0;have hv2:=Dk hv;have hu:unpF 8 pk=if pk.length<=6000/\(Df (rowB pk pk.length)).e=0/\((Df (rowB pk pk.length)).p+7)/8=pk.length then some (Df (rowB pk pk.length)).out else none:=rfl
     rw[hl]at hu
     by_cases h6:n<=6000
     . have HC:=Ab (Va a n c pk w hl h6 hP.1 hv2);have hval:=Zbu (rowB pk n) n (Ag pk n);have hah:(Df (rowB pk n)).e=0->(Df (rowB pk n)).out.length<=12000:=fun e=>by have:=Z08 (rowB pk n) n (Ag pk n) e;omega
       obtain⟨U,hU⟩:∃U,Df (rowB pk n)=U:=⟨_,rfl⟩
       unfold Znu at HC;rw[hU]at HC hu hval hah;have HAH:=Ab hah;have HU:=Ab hu;have HVA:=Ab hval;clear hl hP hv hv2 hu hU hval hah;go_enter Tryz.func80,Tryz.ntmps80
       go_wp2_with fail
       refine(Aa HC).mono ?_;rintro e w1 ⟨hB,(⟨e0,ov,kv,rfl,ho,hk⟩|⟨e0,rfl⟩)⟩
       . obtain⟨a',c',rfl,q1,q2,q3,q4⟩:=Zn ho;obtain⟨ka,kc,rfl⟩:=Ao hk;have hvv:∀x∈U.out,x<256:=Z5r (Aa HVA e0);have hLb:=Aa HAH e0;obtain⟨L,hL⟩:∃L,U.out.length=L:=⟨_,rfl⟩
         rw[hL]at hLb;obtain⟨KL,hKL⟩:∃KL,U.ks.length=KL:=⟨_,rfl⟩
         obtain⟨P,hPP⟩:∃P,(U.p+7)/8=P:=⟨_,rfl⟩
         rw[hL,hKL,hPP]
         by_cases hq:P=n
         . have HF:Hid (Unp w 8 pk (.returned (.tuple #[.slice a' L c',.bool true])) w1):=Ab ⟨hB,.inr ⟨U.out,by rw[Aa HU,if_pos ⟨h6,e0,by rw[hPP];exact hq⟩],by rw[hL];exact hLb,hvv,a',c',by rw[hL],q2,q1,fun g o e _=>Nat.le_of_succ_le (q4 g o e)⟩⟩;have hqb:((P:Int)==(n:Int))=true:=by rw[beq_iff_eq];omega
           clear hB ho hk q1 q2 q3 q4 hvv hL hKL hPP hq e0;go_wp2;go_ret2;exact Aa HF
         . have HF:Hid (Unp w 8 pk (.returned (.tuple #[.slice a' L c',.bool false])) w1):=Ab ⟨hB,.inl ⟨by rw[Aa HU,if_neg (by intro hh;exact hq (hPP.symm.trans hh.2.2))],a',L,c',rfl⟩⟩;have hqb:((P:Int)==(n:Int))=false:=by rw[beq_eq_false_iff_ne];omega
           clear hB ho hk q1 q2 q3 q4 hvv hL hKL hPP hq e0;go_wp2;go_ret2;exact Aa HF
       . have HF:Hid (Unp w 8 pk (.returned (.tuple #[.slice none 0 0,.bool false])) w1):=Ab ⟨hB,.inl ⟨by rw[Aa HU,if_neg (by intro hh;exact e0 hh.2.1)],none,0,0,rfl⟩⟩;obtain⟨E,hE⟩:∃E,U.e=E:=⟨_,rfl⟩
         rw[hE]at e0 ⊢;have heb:(E==0)=false:=by rw[beq_eq_false_iff_ne];exact e0
         clear hB hE e0;go_wp2;go_ret2;exact Aa HF
     . have HC:=Ab (Sb a n c w (by omega) (by omega));have HF:Hid (Unp w 8 pk (.returned (.tuple #[.slice none 0 0,.bool false])) w):=Ab ⟨Below.refl _ _,.inl ⟨by rw[hu,if_neg (by intro hh;exact h6 hh.1)],none,0,0,rfl⟩⟩;clear hl hP hv hv2 hu;go_enter Tryz.func80,Tryz.ntmps80
       go_wp2_with fail
       refine(Aa HC).mono ?_;rintro e w1 ⟨rfl,rfl⟩;go_wp2;go_ret2;exact Aa HF
   . have hu:unpF m pk=none:=by unfold unpF;rw[if_neg h0,if_neg h8]
     have HF:Hid (Unp w m pk (.returned (.tuple #[.slice none 0 0,.bool false])) w):=Ab ⟨Below.refl _ _,.inl ⟨hu,none,0,0,rfl⟩⟩;have hb0:((m:Int)==0)=false:=by rw[beq_eq_false_iff_ne];omega
     have hb8:((m:Int)==8)=false:=by rw[beq_eq_false_iff_ne];omega
     clear hl hP hv hu;go_enter Tryz.func80,Tryz.ntmps80
     go_wp2;go_ret2;exact Aa HF
end Go.Proofs.YtcjbgpacnkilnagGreatDoor
namespace Go.Proofs.YtcjbgpacnkilnagGreatDoor
open Go.RowKit
set_option linter.unusedVariables false
set_option linter.unusedSimpArgs false
set_option maxRecDepth 100000
theorem Zdz (b o j:Nat):(⟨b,o,none⟩:Addr).add j=⟨b,o+j,none⟩:=by unfold Addr.add;split<;>simp_all
theorem Z24 {xs:List Nat}{j:Nat}{v:Value}(h:(u8s xs)[j]? =some v):j<xs.length/\v=.int .u8 ((xs.getD j 0:Nat):Int):=by
 by_cases hj:j<xs.length
 . refine⟨hj, ?_⟩;simp[u8s,hj]at h
   subst h;simp[List.getD,hj]
 . rw[List.getElem?_eq_none (by simp;omega)]at h
   cases h
theorem Zld {l:List Nat}{j:Nat}(h:j<l.length):(u8s l)[j]? =some (.int .u8 ((l.getD j 0:Nat):Int)):=by simp[u8s,List.getD,h]
theorem Sh (w:World)(ty:TypeId)(g n m c:Nat)(xs ys:List Nat)(b:Option Addr)(hn:xs.length=n)(hX:Bytes w g 0 xs)(hm:ys.length=m)(h0:0<m)(hY:BytesIn w b ys)(hsz:n+m<=1000000):
 ∃c' w',(Builtin.append_ #[22,22] ty #[.slice (some ⟨g,0,none⟩) n n,.slice b m c]).run Tryz.prog w=.ok (.slice (some ⟨w.heap.size,0,none⟩) (n+m) c') w'/\n+m<=c'/\Bytes w' w.heap.size 0 (xs++ys)/\w.heap.size<w'.heap.size/\Below w.heap.size w w':=by
 obtain⟨i0,hi,hz0,hz1,hz2⟩:=info_parts Hq;obtain⟨bb,bo,rfl,hb,hB⟩:=Cm hY (by omega)
 have hr:=run_append_grow (P:=Tryz.prog) (w:=w) 22 ty 5 i0 (.int .u8 0) Tryz.underlying22 hi hz0 ⟨g,0,none⟩ n n (u8s xs) (by rw[hz1];simp[hn]) (fun j v hv=>by
  obtain⟨hj,rfl⟩:=Z24 hv;rw[Zdz];exact hX j hj) ⟨bb,bo,none⟩ m c (u8s ys) (by rw[hz1];simp[hm]) (fun j v hv=>by
  obtain⟨hj,rfl⟩:=Z24 hv;rw[Zdz];exact hB j hj) (by omega) (by omega) (by rw[hz2];exact growslice_fits (by omega) (by omega))
 refine⟨_,_,hr,grownCap_ge _ _ _ _, ?_,by rw[World.size_alloc];exact Nat.lt_succ_self _, ?_⟩
 . intro j hj;rw[Nat.zero_add];have hh:=heap_alloc_new w.drew (.cells ((u8s xs).toArray++(u8s ys).toArray++Builtin.zeroCells (Value.int .u8 0).cells (grownCap w (n+m) n 5-(n+m))) 5);rw[show w.drew.heap.size=w.heap.size from rfl]at hh;rw[Ac hh];have hj2:j<(u8s xs++u8s ys).length:=by simpa using hj
   have e:((u8s xs).toArray++(u8s ys).toArray++Builtin.zeroCells (Value.int .u8 0).cells (grownCap w (n+m) n 5-(n+m)))[j]? =(u8s xs++u8s ys)[j]? :=by
    rw[Array.getElem?_append_left (by simpa using hj2)];simp
   rw[e];have e2:u8s xs++u8s ys=u8s (xs++ys):=by simp[u8s]
   rw[e2];exact Zld hj
 . exact(Af (Below.refl w.heap.size w) 1).alloc (Nat.le_refl _) _
theorem Mm {w:World}{ops:Array Oper}{rest:List Oper}{o:Oper}{a:Act}{Q:Exit->Act->World->Prop}(hgd:o.guard=none)(s x:Operand)
 (ho:o.op=.call {callee:=.builtin .append,args:= #[s,x],argTypes:= #[22,22]}) (g n m c:Nat) (xs ys:List Nat) (b:Option Addr) (hs:a.eval s=.slice (some ⟨g,0,none⟩) n n) (hx:a.eval x=.slice b m c) (hn:xs.length=n) (hX:Bytes w g 0 xs) (hm:ys.length=m) (h0:0<m) (hY:BytesIn w b ys) (hsz:n+m<=1000000)
 (h:∀c' w',n+m<=c'->Bytes w' w.heap.size 0 (xs++ys)->w.heap.size<w'.heap.size->Below w.heap.size w w'->wpList Tryz.prog ops Q rest (a.put o.dst (.slice (some ⟨w.heap.size,0,none⟩) (n+m) c')) w'):wpList Tryz.prog ops Q (o::rest) a w:=by
 refine wpList_plain hgd fun K hK=> ?_
 obtain⟨c',w',hr,h1,h2,h3,h4⟩:=Sh w o.type g n m c xs ys b hn hX hm h0 hY hsz;unfold Oper.wp execOp;simp only[ho,resolve,invoke,builtin,Sem.run_bind,Sem.run_pure,Result.andThen_ok,List.map_toArray,List.map_cons,List.map_nil,hs,hx,hr];exact hK _ _ (h c' w' h1 h2 h3 h4)
theorem Z70 (a:Option Addr)(n cap:Nat)(bs:List Nat)(w:World)(hl:bs.length=n)(h0:0<n)(hn:n<=12000)(hby:BytesIn w a bs)(hv:∀x∈bs,x<256):
 Calls Tryz.prog 19 #[.slice a n cap] w fun e w'=>∃g c,e=.returned (.slice (some ⟨g,0,none⟩) (8+n) c)/\8+n<=c/\w.heap.size<=g/\g<w'.heap.size/\Bytes w' g 0 (Gy bs)/\Below w.heap.size w w':=by
 have HH:=Ab (Uc a n cap bs w hl hn hby (Dk hv));have hc:crcN 0 bs<4294967296:=Z3j hv (by decide);have hre:Gy bs=hdL n (crcN 0 bs)++bs:=by unfold Gy;rw[Zk5,hl]
 obtain⟨C,hC⟩:∃C,crcN 0 bs=C:=⟨_,rfl⟩
 rw[hC]at HH hre hc;have HR:=Ab (fun W=>Zj7 n C W (by omega) hc);obtain⟨TL,hTL⟩:∃TL,hdL n C=TL:=⟨_,rfl⟩
 have hTl:TL.length=8:=by rw[<-hTL];rfl
 rw[hTL]at HR hre;have HRE:=Ab hre;have HBY:=Ab hby;have HL:=Ab hl;have hi1:(Tryz.prog.info? 67).map (·.size)=some (u8s TL).toArray.size:=by rw[Zk3];simp[hTl]
 clear hby hv hl hC hTL hre;go_enter Tryz.func19,Tryz.ntmps19
 go_wp2_with fail
 refine(Aa HH).mono ?_;rintro e w1 ⟨rfl,hB1⟩;have HB1:=Ab hB1;clear hB1 HH;go_wp2_with fail
 refine(Aa HR w1).mono ?_;rintro e w2 ⟨rfl,hB2⟩;have HB2:=Ab ((Aa HB1).trans (hB2.mono (Aa HB1).size));clear hB2 HR;have HZ2:=Ab (Aa HB2).size
 have HNW:Hid (∀(A:Array Value) (W:World),(w2.alloc (.cells A 67)).setRow w2.heap.size (u8s TL).toArray=W->A.size=8->URow 67 W w2.heap.size TL/\Below w.heap.size w W):=Ab (fun A W hW hA=>by
  have h1:=heap_alloc_new w2 (.cells A 67);rw[<-hW];exact⟨setRow_heap _ _ _ _ _ _ h1,Av ((Aa HB2).alloc (Aa HZ2) _) (Aa HZ2) _⟩)
 go_wp2_with (first|refine wpList_store_row rfl 67 (.tmp 3) (.tmp 6) rfl w2.heap.size (u8s TL).toArray rfl rfl 67 _ (heap_alloc_new _ _) hi1 (by simp[hTl]) (Z9k TL) ?_|refine Mm rfl (.tmp 7) (.tmp 8) rfl w2.heap.size 8 n cap TL bs a rfl rfl hTl (Aa HNW _ _ rfl (by kernel_rfl)).1.bytes (Aa HL) h0 ((Aa HBY).below (Aa HNW _ _ rfl (by kernel_rfl)).2 (Nat.le_refl _)) (by omega) ?_)
 intro c' w4 k1 k2 k3 k4;generalize hW:World.setRow _ _ _=W at*;obtain⟨hU,hB3⟩:=Aa HNW _ W hW (by kernel_rfl);have HB3:=Ab hB3;have hlt:=hU.lt;clear hU hB3 HNW;have hz2:=Aa HZ2;have HF:Hid (8+n<=c'/\w.heap.size<=w2.heap.size+1/\w2.heap.size+1<w4.heap.size/\Bytes w4 (w2.heap.size+1) 0 (Gy bs)/\Below w.heap.size w w4):=Ab ⟨k1,by omega,k3,by rw[Aa HRE];exact k2,(Aa HB3).trans (k4.mono (by omega))⟩;clear k1 k2 k3 k4 hlt hW;go_wp2;go_ret;exact⟨_,_,rfl,Aa HF⟩
end Go.Proofs.YtcjbgpacnkilnagGreatDoor
