import Derived.Test.YtieianhejdcgdaaGreatDoorQA
import Derived.Test.YtieianhejdcgdaaGreatDoorRows
import Derived.WalkKit
import Derived.ProofKit
import Derived.OpenShut
import Derived.ShutString
import Derived.ChangeOld
import Derived.Below
import Derived.BigQuiet
import Derived.BigRegion
import Derived.Deep.QuietTactic
import Derived.WalkSpells
import Derived.WalkLawsBesides
import Derived.Lib.SplitLaws
import Derived.Lib.Strings
import Derived.Lib.Join
import Derived.Lib.SlTrimSet
import Derived.Lib.Bytealg
import GoSem.Op.String
namespace Go.Proofs.YtieianhejdcgdaaGreatDoor
open Go.RowKit
theorem own:ownKnob Tryz.prog.godebug=none:=by kernel_rfl
theorem Z36:laidOutB Tryz.prog=true:=by kernel_rfl
def Row (k:IntKind)(w:World)(b o:Nat)(xs:List Int):Prop:=∀j,j<xs.length->w.cell? ⟨b,o+j,none⟩=some (.int k (xs.getD j 0))
theorem Row.alloc {k:IntKind}{w:World}{b o:Nat}{xs:List Int}(h:Row k w b o xs)(hb:b<w.heap.size)(x:Obj):Row k (w.alloc x) b o xs:=by
 intro j hj;rw[World.cell?_alloc_past _ _ _ hb];exact h j hj
theorem Row.below {k:IntKind}{w w':World}{B b o:Nat}{xs:List Int}(h:Row k w b o xs)(hB:Below B w w')(hb:b<B):Row k w' b o xs:=by
 intro j hj;rw[hB.cell (p:=⟨b,o+j,none⟩) hb];exact h j hj
theorem Af {B:Nat}{a w:World}(h:Below B a w)(n:Nat):Below B a (w.drewN n):=⟨h.os,h.tape,h.output,h.size,h.block⟩
theorem Ab {p:Prop}(h:p):Hid p:=h
theorem Aa {p:Prop}(h:Hid p):p:=h
theorem Hk {a b:Bool}(h:a=b):Ending.returned (.bool a)=.returned (.bool b):=by rw[h]
theorem Fb {k:IntKind}{a b:Int}(h:a=b):Ending.returned (.int k a)=.returned (.int k b):=by rw[h]
end Go.Proofs.YtieianhejdcgdaaGreatDoor
namespace Go.Proofs.YtieianhejdcgdaaGreatDoor
open Go.RowKit
set_option linter.unusedVariables false
def Bytes (w:World)(b o:Nat)(xs:List Nat):Prop:=∀j,j<xs.length->w.cell? ⟨b,o+j,none⟩=some (.int .u8 ((xs.getD j 0:Nat):Int))
abbrev u8s (xs:List Nat):List Value:=xs.map fun x:Nat=>Value.int .u8 (x:Int)
theorem Ap (w:World)(r:Option Nat):w.grownBy w r:=⟨rfl,rfl,rfl,VC _,fun _ _ _=>rfl⟩
theorem Aj {a b c:World}{r:Option Nat}(h:a.grownBy b r)(k:b.grownBy c r):a.grownBy c r:=
 ⟨k.os.trans h.os,k.tape.trans h.tape,k.output.trans h.output,VX h.size k.size,fun i hi hr=>(k.block i (VK hi h.size) hr).trans (h.block i hi hr)⟩
theorem Ad (w:World)(b j:Nat)(v:Value):w.grownBy (w.setCell ⟨b,j,none⟩ v) (some b):=⟨rfl,rfl,rfl,by simp,fun i hi hr=>Below.heap_setCell w _ v i (fun e=>hr (by rw[e]))⟩
theorem Bp {a b:World}{r:Option Nat}(h:a.grownBy b r):a.grownBy b.drew r:=⟨h.os,h.tape,h.output,h.size,h.block⟩
theorem Hs:(Tryz.prog.info? 5).map (fun i=>(i.zero,i.size,i.bytes))=some (some (.int .u8 0),1,1):=by kernel_rfl
theorem Cn:(Tryz.prog.info? 3).map (fun i=>(i.zero,i.size,i.bytes))=some (some (.int .i64 0),1,8):=by kernel_rfl
theorem Rq (p:Nat->Bool):∀n,(∀j,j<n->p j=true)\/∃j,j<n/\p j=false/\∀i,i<j->p i=true
 |0=>.inl (fun j h=>by omega)
 |n+1=>by
  rcases Rq p n with h|⟨j,h1,h2,h3⟩
  . cases hp:p n with
    |true=>exact .inl (fun j hj=>by
     by_cases e:j=n
     . rw[e];exact hp
     . exact h j (by omega))
    |false=>exact .inr ⟨n,by omega,hp,h⟩
  . exact .inr ⟨j,by omega,h2,h3⟩
def RowIn (k:IntKind)(w:World)(a:Option Addr)(xs:List Int):Prop:=xs= []\/∃b o,a=some ⟨b,o,none⟩/\b<w.heap.size/\Row k w b o xs
def BytesIn (w:World)(a:Option Addr)(xs:List Nat):Prop:=xs= []\/∃b o,a=some ⟨b,o,none⟩/\b<w.heap.size/\Bytes w b o xs
theorem Bytes.below {w w':World}{B b o:Nat}{xs:List Nat}(h:Bytes w b o xs)(hB:Below B w w')(hb:b<B):Bytes w' b o xs:=by
 intro j hj;rw[hB.cell (p:=⟨b,o+j,none⟩) hb];exact h j hj
theorem BytesIn.below {w w':World}{B:Nat}{a:Option Addr}{xs:List Nat}(h:BytesIn w a xs)(hB:Below B w w')(hb:w.heap.size<=B):BytesIn w' a xs:=by
 rcases h with h|⟨b,o,h1,h2,h3⟩
 . exact .inl h
 . exact .inr ⟨b,o,h1,VK h2 hB.size,h3.below hB (by omega)⟩
theorem BytesIn.own {w:World}{B g n cap:Nat}{xs:List Nat}(h:w.ownsRow B 5 1 (.slice (some ⟨g,0,none⟩) n cap) n (u8s xs)):BytesIn w (some ⟨g,0,none⟩) xs:=by
 refine .inr ⟨g,0,rfl,(h.lt g rfl).2, ?_⟩;intro j hj;have hn:xs.length=n:=by have:=h.1;simpa using this
 rw[WI,h.cellAt j (by omega)];simp[u8s,List.getD,hj]
abbrev i64s (xs:List Nat):List Value:=xs.map fun x:Nat=>Value.int .i64 (x:Int)
theorem ST (n:Nat):(madeCells #[Value.int .i64 0] n).toList=i64s (List.replicate n 0):=by
 rw[toList_madeCells_one];simp[i64s]
theorem BytesIn.alloc {w:World}{a:Option Addr}{xs:List Nat}(h:BytesIn w a xs)(x:Obj):BytesIn (w.alloc x) a xs:=
 h.below ((Below.refl w.heap.size w).alloc (VC _) x) (VC _)
theorem RowIn.below {k:IntKind}{w w':World}{B:Nat}{a:Option Addr}{xs:List Int}(h:RowIn k w a xs)(hB:Below B w w')(hb:w.heap.size<=B):RowIn k w' a xs:=by
 rcases h with h|⟨b,o,h1,h2,h3⟩
 . exact .inl h
 . exact .inr ⟨b,o,h1,VK h2 hB.size,h3.below hB (by omega)⟩
theorem RowIn.alloc {k:IntKind}{w:World}{a:Option Addr}{xs:List Int}(h:RowIn k w a xs)(x:Obj):RowIn k (w.alloc x) a xs:=
 h.below ((Below.refl w.heap.size w).alloc (VC _) x) (VC _)
abbrev iv (xs:List Int):List Value:=xs.map (Value.int .i64)
theorem ga {a b:World}{r:Option Nat}(h:a.grownBy b r)(o:Obj):a.grownBy (b.alloc o) r:=Aj h (World.grownBy_alloc b o r)
theorem RY {w:World}{B e size n:Nat}{v:Value}{xs:List Value}(h:w.ownsRow B e size v n xs):w.drew.ownsRow B e size v n xs:=h
theorem Lg {w w':World}{B e size n:Nat}{v:Value}{xs:List Value}(h:w.ownsRow B e size v n xs)(hg:w.grownBy w' none):w'.ownsRow B e size v n xs:=
 h.kept hg (by cases hv:v.ownBlock with
  |none=>exact .inl rfl
  |some k=>exact .inr (by simp))
theorem Nl {B:Nat}{a w w':World}(h:Below B a w)(hg:w.grownBy w' none)(hB:B<=w.heap.size):Below B a w':=h.grown hg hB (fun k e=>by cases e)
theorem AZ {W:World}{b:Nat}{x u:Value}{j:Nat}(h:W.cell? ⟨b,0,none⟩=some x)(hj: [x][j]? =some u):W.cell? ((⟨b,0,none⟩:Addr).add j)=some u:=by
 match j,hj with
 |0,hj=>simp at hj;subst hj;simpa[Addr.add]using h
theorem L8 {w:World}{x:Value}{t:TypeId}{b:Nat}(hb:b=w.heap.size):(w.alloc (.cells #[x] t)).cell? ⟨b,0,none⟩=some x:=by
 rw[World.cell?_alloc_at _ _ _ _ hb];rfl
theorem PD {w:World}{x:Value}{t:TypeId}{o:Obj}{b:Nat}(hb:b=w.heap.size):((w.alloc (.cells #[x] t)).alloc o).cell? ⟨b,0,none⟩=some x:=by
 rw[World.cell?_alloc_past _ _ _ (by rw[hb];simp),World.cell?_alloc_at _ _ _ _ hb];rfl
theorem PE {w:World}{b:Nat}{v:Value}(h:w.cell? ⟨b,0,none⟩=some v):w.drew.cell? ⟨b,0,none⟩=some v:=h
theorem Bf {x:Value}(h:x.oneCell'=true):∀u∈ [x],u.oneCell'=true:=by
 intro u hu;simp at hu;subst hu;exact h
end Go.Proofs.YtieianhejdcgdaaGreatDoor
namespace Go.Proofs.YtieianhejdcgdaaGreatDoor
open Go
set_option linter.unusedVariables false
def Bd:Nat->Nat->List Nat
 |_,0=> []
 |n,k+1=>n%256::Bd (n/256) k
def Ai:List Nat->Nat
 | []=>0
 |x::r=>x+256*Ai r
theorem Ak:∀(k n:Nat),(Bd n k).length=k
 |0,n=>rfl
 |k+1,n=>by rw[Bd,VH,Ak k]
theorem Ef:∀(k n:Nat),∀x∈Bd n k,x<256
 |0,n,x,h=>by cases h
 |k+1,n,x,h=>by
  rw[Bd]at h
  rcases VW.1 h with rfl|h
  . omega
  . exact Ef k _ x h
theorem Ch:∀(k n:Nat),n<256^k->Ai (Bd n k)=n
 |0,n,h=>by simp at h;subst h;rfl
 |k+1,n,h=>by
  rw[Bd,Ai,Ch k (n/256) (by rw[XE]at h;omega)];omega
theorem LT:∀(l:List Nat),(∀x∈l,x<256)->Bd (Ai l) l.length=l
 | [],_=>rfl
 |x::r,h=>by
  have hx:=h x (by simp);have ih:=LT r (fun y hy=>h y (WF _ hy));rw[Ai,VH,Bd];have e1:(x+256*Ai r)%256=x:=by omega
  have e2:(x+256*Ai r)/256=Ai r:=by omega
  rw[e1,e2,ih]
theorem Lh:∀(l:List Nat),(∀x∈l,x<256)->Ai l<256^l.length
 | [],_=>by simp[Ai]
 |x::r,h=>by
  have hx:=h x (by simp);have ih:=Lh r (fun y hy=>h y (WF _ hy));rw[Ai,VH,XE];omega
theorem C8:∀(k n:Nat),Bd n (k+1)=Bd n k++ [n/256^k%256]
 |0,n=>by simp[Bd]
 |k+1,n=>by
  rw[Bd,C8 k (n/256),Bd,YZ,XE,YH (256^k) 256];rfl
def B (l:List UInt8):ByteArray:=⟨l.toArray⟩
theorem N3 (s:ByteArray):B s.data.toList=s:=by cases s;rfl
theorem Z1b (l:List UInt8):(B l).data.toList=l:=rfl
theorem Vk (l:List UInt8):(B l).size=l.length:=by simp[B,ByteArray.size]
theorem RK (s:ByteArray):s.size=s.data.toList.length:=(Array.length_toList).symm
def spl:List UInt8->List (List UInt8)
 | []=> [[]]
 |c::r=>if c=47 then []::spl r else
  match spl r with
  | []=> [[c]]
  |p::ps=>(c::p)::ps
theorem Z0o (l:List UInt8):spl l≠ []:=by
 cases l with
 |nil=>simp[spl]
 |cons c r=>
  simp only[spl]
  split
  . simp
  . split<;>simp
theorem Hj {c:UInt8}{r:List UInt8}(h:c≠47):∃p ps,spl r=p::ps/\spl (c::r)=(c::p)::ps:=by
 cases hs:spl r with
 |nil=>exact absurd hs (Z0o r)
 |cons p ps=>exact⟨p,ps,rfl,by simp[spl,h,hs]⟩
def jn (ps:List (List UInt8)):List UInt8:=Lib.join ps [47]
theorem Z15 (p:List UInt8):jn [p]=p:=Lib.join_one _ _
theorem Z14 (p q:List UInt8)(r:List (List UInt8)):jn (p::q::r)=p++47::jn (q::r):=by
 unfold jn;rw[Lib.join_cons,Lib.join_cons];simp[Lib.joinTail]
theorem Z5n:∀l:List UInt8,jn (spl l)=l
 | []=>by simp[spl,Z15]
 |c::r=>by
  have ih:=Z5n r
  by_cases h:c=47
  . subst h
    cases hs:spl r with
    |nil=>exact absurd hs (Z0o r)
    |cons p ps=>
     rw[show spl (47::r)= []::spl r from by simp[spl],hs,Z14,<-hs,ih];rfl
  . obtain⟨p,ps,h1,h2⟩:=Hj (r:=r) h;rw[h2];rw[h1]at ih
    cases ps with
    |nil=>rw[Z15]at ih ⊢;rw[ih]
    |cons q ps=>rw[Z14]at ih ⊢;rw[<-ih];simp
theorem JZ (l:List UInt8):(spl l).length=l.count 47+1:=by
 induction l with
 |nil=>simp[spl]
 |cons c r ih=>
  by_cases h:c=47
  . subst h;simp[spl,ih]
  . obtain⟨p,ps,h1,h2⟩:=Hj (r:=r) h;rw[h2,List.count_cons_of_ne (by simpa using h),<-ih,h1];simp
theorem Z4v (l:List UInt8):∀p∈spl l,p.length<=l.length:=by
 induction l with
 |nil=>intro p hp;simp[spl]at hp;subst hp;simp
 |cons c r ih=>
  by_cases h:c=47
  . subst h;intro p hp;rw[show spl (47::r)= []::spl r from by simp[spl]]at hp
    rcases VW.1 hp with h1|h1
    . subst h1;simp
    . have:=ih p h1;simp;omega
  . obtain⟨q,qs,h1,h2⟩:=Hj (r:=r) h;intro p hp;rw[h2]at hp
    rcases VW.1 hp with h3|h3
    . subst h3;have:=ih q (by rw[h1];simp)
      simp;omega
    . have:=ih p (by rw[h1];simp[h3]);simp;omega
theorem Ub:∀(l:List UInt8),Lib.splitK [47] 0 (Lib.count l [47]) l=spl l
 | []=>by
  rw[Lib.count_one];simp[spl,Lib.splitK]
 |c::r=>by
  have ih:=Ub r
  by_cases h:c=47
  . subst h;rw[Lib.count_cons_eq,Nat.add_comm];have hix:Lib.index (47::r) [47]=0:=by rw[Lib.index];simp[List.isPrefixOf]
    rw[Lib.splitK,hix];simp[spl,ih]
  . rw[Lib.count_cons_ne _ _ _ h];obtain⟨p,ps,h1,h2⟩:=Hj (r:=r) h;rw[h2]
    have hix:Lib.index (c::r) [47]=if Lib.index r [47]== -1 then-1 else Lib.index r [47]+1:=by
     rw[Lib.index];have hp:([47]:List UInt8).isPrefixOf (c::r)=false:=by simp[List.isPrefixOf,Ne.symm h]
     rw[hp];simp
    rw[h1]at ih
    cases hk:Lib.count r [47]with
    |zero=>
     rw[hk]at ih;simp only[Lib.splitK]at ih ⊢
     injection ih with i1 i2
     rw[i1,<-i2]
    |succ k=>
     rw[hk]at ih;simp only[Lib.splitK]at ih ⊢
     by_cases hm:Lib.index r [47]= -1
     . rw[if_pos (by rw[hix,if_pos (by simp[hm])];rfl)];rw[if_pos (by simp[hm])]at ih
       injection ih with i1 i2
       rw[i1,<-i2]
     . have hge:=Lib.index_ge r [47];obtain⟨j,hj⟩:∃j:Nat,Lib.index r [47]=j:=⟨(Lib.index r [47]).toNat,by omega⟩
       have hix':Lib.index (c::r) [47]=((j+1:Nat):Int):=by rw[hix,if_neg (by simp[hm]),hj];omega
       rw[hj]at ih;rw[hix'];rw[if_neg (by simp)]at ih;rw[if_neg (by simp;omega)]
       injection ih with i1 i2
       simp only[WL,YN,XS]at i1 ⊢;rw[i1]
       congr 1
theorem DM (s:ByteArray):Lib.splitB ⟨#[47]⟩ 0 (Lib.countB s ⟨#[47]⟩) s=(spl s.data.toList).map B:=by
 have h:=Lib.splitB_data ⟨#[47]⟩ 0 (Lib.countB s ⟨#[47]⟩) s;have h2:Lib.countB s ⟨#[47]⟩=Lib.count s.data.toList [47]:=rfl;have h3:(⟨#[47]⟩:ByteArray).data.toList= [47]:=rfl;rw[h2,h3,Ub]at h;rw[h2,<-h,List.map_map];have:(B ∘ fun x:ByteArray=>x.data.toList)=id:=by funext x;exact N3 x
 rw[this,List.map_id]
theorem FZ (s:ByteArray):Lib.countB s ⟨#[47]⟩+1=(spl s.data.toList).length:=by
 rw[JZ];have h2:Lib.countB s ⟨#[47]⟩=Lib.count s.data.toList [47]:=rfl;rw[h2,Lib.count_one]
def okB (c:UInt8):Bool:=(97<=c&&c<=122)||(65<=c&&c<=90)||(48<=c&&c<=57)||c==46||c==95||c==45
def okP (p:List UInt8):Bool:=p != []&&p != [46]&&p != [46,46]&&p.all okB
def Nw (l:List UInt8):Nat:=if 40<l.length then 2 else if (spl l).all okP then 0 else 1
theorem Z3o {l:List UInt8}(h:Nw l=0):l.length<=40/\(spl l).all okP=true:=by
 unfold Nw at h
 split at h
 . omega
 . split at h
   . exact⟨by omega,by assumption⟩
   . omega
theorem Z3p {l:List UInt8}(h:l.length<=40)(h2:(spl l).all okP=true):Nw l=0:=by
 unfold Nw;rw[if_neg (by omega),if_pos h2]
structure Fl where
 name:List UInt8
 bytes:List UInt8
 stamp:Int
 node:Int
 gone:Bool
deriving DecidableEq
abbrev Fd (a b:List UInt8):Int:=Lib.compareBytes a b
theorem Gh (a b:UInt8)(x y:List UInt8):Fd (a::x) (b::y)=if a<b then-1 else if b<a then 1 else Fd x y:=rfl
theorem IZ (a b:UInt8):(a<b)=(a.toNat<b.toNat):=by rw[UInt8.lt_iff_toNat_lt]
theorem QS {a b:UInt8}(h1:¬a<b)(h2:¬b<a):a=b:=by
 rw[IZ]at h1 h2;exact UInt8.toNat_inj.1 (by omega)
theorem Sf:∀a:List UInt8,Fd a a=0
 | []=>rfl
 |a::x=>by
  rw[Gh,if_neg (by rw[IZ];omega),if_neg (by rw[IZ];omega)];exact Sf x
theorem Xu:∀ {a b:List UInt8},Fd a b=0->a=b
 | [],[],_=>rfl
 | [],_::_,h=>by cases h
 |_::_,[],h=>by cases h
 |a::x,b::y,h=>by
  rw[Gh]at h
  split at h
  . cases h
  . split at h
    . cases h
    . rename_i h1 h2
      rw[QS h1 h2,Xu h]
theorem K7 {a b:List UInt8}:Fd a b=0↔a=b:=⟨Xu,fun h=>by rw[h,Sf]⟩
theorem Ep:∀a b:List UInt8,Fd a b= -1\/Fd a b=0\/Fd a b=1
 | [],[]=>.inr (.inl rfl)
 | [],_::_=>.inl rfl
 |_::_,[]=>.inr (.inr rfl)
 |a::x,b::y=>by
  rw[Gh]
  split
  . exact .inl rfl
  . split
    . exact .inr (.inr rfl)
    . exact Ep x y
theorem Mg:∀a b:List UInt8,Fd b a= -Fd a b
 | [],[]=>rfl
 | [],_::_=>rfl
 |_::_,[]=>rfl
 |a::x,b::y=>by
  rw[Gh,Gh]
  by_cases h1:a<b
  . have h2:¬b<a:=by rw[IZ]at h1 ⊢;omega
    rw[if_neg h2,if_pos h1,if_pos h1];rfl
  . by_cases h2:b<a
    . rw[if_pos h2,if_neg h1,if_pos h2]
    . rw[if_neg h2,if_neg h1,if_neg h1,if_neg h2];exact Mg x y
theorem Fp:∀ {a b c:List UInt8},Fd a b<0->Fd b c<0->Fd a c<0
 | [],[],_,h,_=>by cases h
 | [],_::_,[],_,h=>by cases h
 | [],_::_,_::_,_,_=>by show (-1:Int)<0;decide
 |_::_,[],_,h,_=>by cases h
 |_::_,_::_,[],_,h=>by cases h
 |a::x,b::y,c::z,h,k=>by
  rw[Gh]at h k ⊢
  by_cases h1:a<b
  . by_cases k1:b<c
    . have:a<c:=by rw[IZ]at h1 k1 ⊢;omega
      rw[if_pos this];decide
    . rw[if_neg k1]at k
      by_cases k2:c<b
      . rw[if_pos k2]at k;cases k
      . have:=QS k1 k2
        subst this;rw[if_pos h1];decide
  . rw[if_neg h1]at h
    by_cases h2:b<a
    . rw[if_pos h2]at h;cases h
    . rw[if_neg h2]at h;have:=QS h1 h2
      subst this
      by_cases k1:a<c
      . rw[if_pos k1];decide
      . rw[if_neg k1]at k ⊢
        by_cases k2:c<a
        . rw[if_pos k2]at k;cases k
        . rw[if_neg k2]at k ⊢;exact Fp h k
theorem Wy:∀a b:List UInt8,Op.bytesLess a b=decide (Fd a b<0)
 | [],[]=>rfl
 | [],_::_=>rfl
 |_::_,[]=>rfl
 |a::x,b::y=>by
  show (decide (a<b)||(a==b&&Op.bytesLess x y))=_
  rw[Gh,Wy x y]
  by_cases h1:a<b
  . simp[h1]
  . rw[if_neg h1]
    by_cases h2:b<a
    . have:(a==b)=false:=by
       rw[beq_eq_false_iff_ne];rintro rfl;exact h1 h2
      rw[if_pos h2,this];simp[h1]
    . have:=QS h1 h2
      subst this;rw[if_neg h2];simp[h1]
def Z1d (a b:Int):Int:=if a<b then-1 else if b<a then 1 else 0
def Z69 (a b:Bool):Int:=if a=b then 0 else if a then 1 else-1
def nz (a b:Int):Int:=if a≠0 then a else b
def nwr (a b:Fl):Int:=nz (Z1d a.stamp b.stamp) (nz (Z1d a.node b.node) (nz (Z69 a.gone b.gone) (Fd a.bytes b.bytes)))
def Jx (f:Fl):Nat:=
 if Nw f.name≠0 then Nw f.name else if 3000<f.bytes.length then 2 else if f.stamp<0\/1000000<f.stamp\/f.node<0\/3<f.node then 3
 else if f.gone=true/\0<f.bytes.length then 4 else 0
def behind:Option Fl->Fl->Bool
 |none,_=>true
 |some x,f=>decide (Fd x.name f.name<0)
def U7:Option Fl->List Fl->Nat
 |_,[]=>0
 |p,f::r=>if Jx f≠0 then Jx f else if behind p f=false then 4 else U7 (some f) r
def Eh (l:List Fl):Nat:=if 12<l.length then 2 else U7 none l
def Wl (x y:Fl):Fl:=if 0<nwr y x then y else x
def tog:List Fl->List Fl->List Fl
 | [],b=>b
 |x::a,[]=>x::a
 |x::a,y::b=>if Fd x.name y.name<0 then x::tog a (y::b)else if 0<Fd x.name y.name then y::tog (x::a) b else Wl x y::tog a b
termination_by a b=>a.length+b.length
theorem Kc (b:List Fl):tog [] b=b:=by unfold tog;rfl
theorem Kt (a:List Fl):tog a []=a:=by
 cases a with
 |nil=>exact Kc []
 |cons x a=>unfold tog;rfl
theorem Z3 {x y:Fl}{a b:List Fl}(h:Fd x.name y.name<0):tog (x::a) (y::b)=x::tog a (y::b):=by rw[tog,if_pos h]
theorem JD {x y:Fl}{a b:List Fl}(h:0<Fd x.name y.name):tog (x::a) (y::b)=y::tog (x::a) b:=by rw[tog,if_neg (by omega),if_pos h]
theorem JE {x y:Fl}{a b:List Fl}(h:Fd x.name y.name=0):tog (x::a) (y::b)=Wl x y::tog a b:=by rw[tog,if_neg (by omega),if_neg (by omega)]
end Go.Proofs.YtieianhejdcgdaaGreatDoor
