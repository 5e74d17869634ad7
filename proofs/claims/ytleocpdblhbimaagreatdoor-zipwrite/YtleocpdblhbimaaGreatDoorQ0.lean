import Derived.Test.YtleocpdblhbimaaGreatDoorQA
import Derived.Test.YtleocpdblhbimaaGreatDoorRows
import Derived.WalkKit
import Derived.ProofKit
import Derived.OpenShut
import Derived.ShutString
import Derived.ChangeOld
import Derived.Below
import Derived.BigQuiet
import Derived.BigRegion
import Derived.Deep.QuietTactic
import Derived.WalkSpells
import Derived.WalkLawsBesides
import Derived.Lib.SplitLaws
import Derived.Lib.Strings
import Derived.Lib.Join
import Derived.Lib.SlTrimSet
import Derived.Lib.Bytealg
import GoSem.Op.String
set_option linter.unusedSimpArgs false
namespace Go.Proofs.YtleocpdblhbimaaGreatDoor
open Go.RowKit
theorem own:ownKnob Tryz.prog.godebug=none:=by kernel_rfl
theorem Z1t:laidOutB Tryz.prog=true:=by kernel_rfl
def Row (k:IntKind)(w:World)(b o:Nat)(xs:List Int):Prop:=∀j,j<xs.length->w.cell? ⟨b,o+j,none⟩=some (.int k (xs.getD j 0))
theorem Row.new (k:IntKind)(w:World)(xs:List Int)(t:TypeId)(A:Array Value)(b:Nat)(hb:b=w.heap.size)(hA:A=(xs.map (Value.int k)).toArray):Row k (w.alloc (.cells A t)) b 0 xs:=by
 intro j hj;rw[World.cell?_alloc_at _ _ _ _ hb,hA];simp[List.getD,hj]
theorem Row.alloc {k:IntKind}{w:World}{b o:Nat}{xs:List Int}(h:Row k w b o xs)(hb:b<w.heap.size)(x:Obj):Row k (w.alloc x) b o xs:=by
 intro j hj;rw[World.cell?_alloc_past _ _ _ hb];exact h j hj
theorem Row.below {k:IntKind}{w w':World}{B b o:Nat}{xs:List Int}(h:Row k w b o xs)(hB:Below B w w')(hb:b<B):Row k w' b o xs:=by
 intro j hj;rw[hB.cell (p:=⟨b,o+j,none⟩) hb];exact h j hj
theorem Af {B:Nat}{a w:World}(h:Below B a w)(n:Nat):Below B a (w.drewN n):=⟨h.os,h.tape,h.output,h.size,h.block⟩
theorem Ab {p:Prop}(h:p):Hid p:=h
theorem Aa {p:Prop}(h:Hid p):p:=h
theorem De {a b:Bool}(h:a=b):Ending.returned (.bool a)=.returned (.bool b):=by rw[h]
theorem Cz {k:IntKind}{a b:Int}(h:a=b):Ending.returned (.int k a)=.returned (.int k b):=by rw[h]
end Go.Proofs.YtleocpdblhbimaaGreatDoor
namespace Go.Proofs.YtleocpdblhbimaaGreatDoor
open Go
set_option linter.unusedVariables false
def Ag:Nat->Nat->List Nat
 |_,0=> []
 |n,k+1=>n%256::Ag (n/256) k
def Al:List Nat->Nat
 | []=>0
 |x::r=>x+256*Al r
theorem Aj:∀(k n:Nat),(Ag n k).length=k
 |0,n=>rfl
 |k+1,n=>by rw[Ag,VJ,Aj k]
theorem Fe:∀(k n:Nat),∀x∈Ag n k,x<256
 |0,n,x,h=>by cases h
 |k+1,n,x,h=>by
  rw[Ag]at h
  rcases WE.1 h with rfl|h
  . omega
  . exact Fe k _ x h
theorem Cm:∀(k n:Nat),n<256^k->Al (Ag n k)=n
 |0,n,h=>by simp at h;subst h;rfl
 |k+1,n,h=>by
  rw[Ag,Al,Cm k (n/256) (by rw[XE]at h;omega)];omega
theorem JV:∀(l:List Nat),(∀x∈l,x<256)->Ag (Al l) l.length=l
 | [],_=>rfl
 |x::r,h=>by
  have hx:=h x (by simp);have ih:=JV r (fun y hy=>h y (WM _ hy));rw[Al,VJ,Ag];have e1:(x+256*Al r)%256=x:=by omega
  have e2:(x+256*Al r)/256=Al r:=by omega
  rw[e1,e2,ih]
theorem Jp:∀(l:List Nat),(∀x∈l,x<256)->Al l<256^l.length
 | [],_=>by simp[Al]
 |x::r,h=>by
  have hx:=h x (by simp);have ih:=Jp r (fun y hy=>h y (WM _ hy));rw[Al,VJ,XE];omega
theorem Qx:∀(k n:Nat),Ag n (k+1)=Ag n k++ [n/256^k%256]
 |0,n=>by simp[Ag]
 |k+1,n=>by
  rw[Ag,Qx k (n/256),Ag,ZJ,XE,YC (256^k) 256];rfl
theorem CU {l:List Nat}{k:Nat}(h:k<l.length):Al (l.drop k)=256*Al (l.drop (k+1))+l.getD k 0:=by
 rw[WU h,Al];simp[List.getD,h]
 omega
end Go.Proofs.YtleocpdblhbimaaGreatDoor
namespace Go.Proofs.YtleocpdblhbimaaGreatDoor
open Go.RowKit
set_option linter.unusedVariables false
def Bytes (w:World)(b o:Nat)(xs:List Nat):Prop:=∀j,j<xs.length->w.cell? ⟨b,o+j,none⟩=some (.int .u8 ((xs.getD j 0:Nat):Int))
abbrev u8s (xs:List Nat):List Value:=xs.map fun x:Nat=>Value.int .u8 (x:Int)
theorem Au (w:World)(r:Option Nat):w.grownBy w r:=⟨rfl,rfl,rfl,VC _,fun _ _ _=>rfl⟩
theorem Ak {a b c:World}{r:Option Nat}(h:a.grownBy b r)(k:b.grownBy c r):a.grownBy c r:=
 ⟨k.os.trans h.os,k.tape.trans h.tape,k.output.trans h.output,WC h.size k.size,fun i hi hr=>(k.block i (VG hi h.size) hr).trans (h.block i hi hr)⟩
theorem Ad (w:World)(b j:Nat)(v:Value):w.grownBy (w.setCell ⟨b,j,none⟩ v) (some b):=⟨rfl,rfl,rfl,by simp,fun i hi hr=>Below.heap_setCell w _ v i (fun e=>hr (by rw[e]))⟩
theorem Br {a b:World}{r:Option Nat}(h:a.grownBy b r):a.grownBy b.drew r:=⟨h.os,h.tape,h.output,h.size,h.block⟩
theorem Kl:(Tryz.prog.info? 5).map (fun i=>(i.zero,i.size,i.bytes))=some (some (.int .u8 0),1,1):=by kernel_rfl
theorem Cc:(Tryz.prog.info? 3).map (fun i=>(i.zero,i.size,i.bytes))=some (some (.int .i64 0),1,8):=by kernel_rfl
theorem Mc (p:Nat->Bool):∀n,(∀j,j<n->p j=true)\/∃j,j<n/\p j=false/\∀i,i<j->p i=true
 |0=>.inl (fun j h=>by omega)
 |n+1=>by
  rcases Mc p n with h|⟨j,h1,h2,h3⟩
  . cases hp:p n with
    |true=>exact .inl (fun j hj=>by
     by_cases e:j=n
     . rw[e];exact hp
     . exact h j (by omega))
    |false=>exact .inr ⟨n,by omega,hp,h⟩
  . exact .inr ⟨j,by omega,h2,h3⟩
def RowIn (k:IntKind)(w:World)(a:Option Addr)(xs:List Int):Prop:=xs= []\/∃b o,a=some ⟨b,o,none⟩/\b<w.heap.size/\Row k w b o xs
def BytesIn (w:World)(a:Option Addr)(xs:List Nat):Prop:=xs= []\/∃b o,a=some ⟨b,o,none⟩/\b<w.heap.size/\Bytes w b o xs
theorem Bytes.below {w w':World}{B b o:Nat}{xs:List Nat}(h:Bytes w b o xs)(hB:Below B w w')(hb:b<B):Bytes w' b o xs:=by
 intro j hj;rw[hB.cell (p:=⟨b,o+j,none⟩) hb];exact h j hj
theorem BytesIn.below {w w':World}{B:Nat}{a:Option Addr}{xs:List Nat}(h:BytesIn w a xs)(hB:Below B w w')(hb:w.heap.size<=B):BytesIn w' a xs:=by
 rcases h with h|⟨b,o,h1,h2,h3⟩
 . exact .inl h
 . exact .inr ⟨b,o,h1,VG h2 hB.size,h3.below hB (by omega)⟩
theorem BytesIn.own {w:World}{B g n cap:Nat}{xs:List Nat}(h:w.ownsRow B 5 1 (.slice (some ⟨g,0,none⟩) n cap) n (u8s xs)):BytesIn w (some ⟨g,0,none⟩) xs:=by
 refine .inr ⟨g,0,rfl,(h.lt g rfl).2, ?_⟩;intro j hj;have hn:xs.length=n:=by have:=h.1;simpa using this
 rw[WI,h.cellAt j (by omega)];simp[u8s,List.getD,hj]
abbrev i64s (xs:List Nat):List Value:=xs.map fun x:Nat=>Value.int .i64 (x:Int)
theorem Z2 (n:Nat):(madeCells #[Value.int .i64 0] n).toList=i64s (List.replicate n 0):=by
 rw[toList_madeCells_one];simp[i64s]
theorem BytesIn.alloc {w:World}{a:Option Addr}{xs:List Nat}(h:BytesIn w a xs)(x:Obj):BytesIn (w.alloc x) a xs:=
 h.below ((Below.refl w.heap.size w).alloc (VC _) x) (VC _)
theorem RowIn.new (k:IntKind)(w:World)(xs:List Int)(t:TypeId)(A:Array Value)(b:Nat)(hb:b=w.heap.size)(hA:A=(xs.map (Value.int k)).toArray):RowIn k (w.alloc (.cells A t)) (some ⟨b,0,none⟩) xs:=
 .inr ⟨b,0,rfl,by rw[hb];simp,Row.new k w xs t A b hb hA⟩
theorem RowIn.below {k:IntKind}{w w':World}{B:Nat}{a:Option Addr}{xs:List Int}(h:RowIn k w a xs)(hB:Below B w w')(hb:w.heap.size<=B):RowIn k w' a xs:=by
 rcases h with h|⟨b,o,h1,h2,h3⟩
 . exact .inl h
 . exact .inr ⟨b,o,h1,VG h2 hB.size,h3.below hB (by omega)⟩
theorem RowIn.alloc {k:IntKind}{w:World}{a:Option Addr}{xs:List Int}(h:RowIn k w a xs)(x:Obj):RowIn k (w.alloc x) a xs:=
 h.below ((Below.refl w.heap.size w).alloc (VC _) x) (VC _)
abbrev iv (xs:List Int):List Value:=xs.map (Value.int .i64)
theorem ga {a b:World}{r:Option Nat}(h:a.grownBy b r)(o:Obj):a.grownBy (b.alloc o) r:=Ak h (World.grownBy_alloc b o r)
theorem PZ {w:World}{B e size n:Nat}{v:Value}{xs:List Value}(h:w.ownsRow B e size v n xs):w.drew.ownsRow B e size v n xs:=h
theorem Lk {w w':World}{B e size n:Nat}{v:Value}{xs:List Value}(h:w.ownsRow B e size v n xs)(hg:w.grownBy w' none):w'.ownsRow B e size v n xs:=
 h.kept hg (by cases hv:v.ownBlock with
  |none=>exact .inl rfl
  |some k=>exact .inr (by simp))
theorem Gz {B:Nat}{a w w':World}(h:Below B a w)(hg:w.grownBy w' none)(hB:B<=w.heap.size):Below B a w':=h.grown hg hB (fun k e=>by cases e)
theorem Pa {W:World}{b:Nat}{x u:Value}{j:Nat}(h:W.cell? ⟨b,0,none⟩=some x)(hj: [x][j]? =some u):W.cell? ((⟨b,0,none⟩:Addr).add j)=some u:=by
 match j,hj with
 |0,hj=>simp at hj;subst hj;simpa[Addr.add]using h
theorem Mk {w:World}{x:Value}{t:TypeId}{b:Nat}(hb:b=w.heap.size):(w.alloc (.cells #[x] t)).cell? ⟨b,0,none⟩=some x:=by
 rw[World.cell?_alloc_at _ _ _ _ hb];rfl
theorem NA {w:World}{x:Value}{t:TypeId}{o:Obj}{b:Nat}(hb:b=w.heap.size):((w.alloc (.cells #[x] t)).alloc o).cell? ⟨b,0,none⟩=some x:=by
 rw[World.cell?_alloc_past _ _ _ (by rw[hb];simp),World.cell?_alloc_at _ _ _ _ hb];rfl
theorem NB {w:World}{b:Nat}{v:Value}(h:w.cell? ⟨b,0,none⟩=some v):w.drew.cell? ⟨b,0,none⟩=some v:=h
theorem Fd {x:Value}(h:x.oneCell'=true):∀u∈ [x],u.oneCell'=true:=by
 intro u hu;simp at hu;subst hu;exact h
theorem RowIn.iv {w:World}{B g n cap:Nat}{xs:List Int}(h:w.ownsRow B 3 1 (.slice (some ⟨g,0,none⟩) n cap) n (iv xs)):RowIn .i64 w (some ⟨g,0,none⟩) xs:=by
 refine .inr ⟨g,0,rfl,(h.lt g rfl).2, ?_⟩;intro j hj;have hn:xs.length=n:=by have:=h.1;simpa using this
 rw[WI,h.cellAt j (by omega)];simp[List.getD,hj]
end Go.Proofs.YtleocpdblhbimaaGreatDoor
namespace Go.Proofs.YtleocpdblhbimaaGreatDoor
open Go
set_option linter.unusedVariables false
def B (l:List UInt8):ByteArray:=⟨l.toArray⟩
theorem I7 (s:ByteArray):B s.data.toList=s:=by cases s;rfl
theorem MG (l:List UInt8):(B l).data.toList=l:=rfl
theorem Ha (l:List UInt8):(B l).size=l.length:=by simp[B,ByteArray.size]
theorem PI (s:ByteArray):s.size=s.data.toList.length:=(Array.length_toList).symm
def spl:List UInt8->List (List UInt8)
 | []=> [[]]
 |c::r=>if c=47 then []::spl r else
  match spl r with
  | []=> [[c]]
  |p::ps=>(c::p)::ps
theorem SX (l:List UInt8):spl l≠ []:=by
 cases l with
 |nil=>simp[spl]
 |cons c r=>
  simp only[spl]
  split
  . simp
  . split<;>simp
theorem Hi {c:UInt8}{r:List UInt8}(h:c≠47):∃p ps,spl r=p::ps/\spl (c::r)=(c::p)::ps:=by
 cases hs:spl r with
 |nil=>exact absurd hs (SX r)
 |cons p ps=>exact⟨p,ps,rfl,by simp[spl,h,hs]⟩
def jn (ps:List (List UInt8)):List UInt8:=Lib.join ps [47]
theorem TP (p:List UInt8):jn [p]=p:=Lib.join_one _ _
theorem TO (p q:List UInt8)(r:List (List UInt8)):jn (p::q::r)=p++47::jn (q::r):=by
 unfold jn;rw[Lib.join_cons,Lib.join_cons];simp[Lib.joinTail]
theorem Z3x:∀l:List UInt8,jn (spl l)=l
 | []=>by simp[spl,TP]
 |c::r=>by
  have ih:=Z3x r
  by_cases h:c=47
  . subst h
    cases hs:spl r with
    |nil=>exact absurd hs (SX r)
    |cons p ps=>
     rw[show spl (47::r)= []::spl r from by simp[spl],hs,TO,<-hs,ih];rfl
  . obtain⟨p,ps,h1,h2⟩:=Hi (r:=r) h;rw[h2];rw[h1]at ih
    cases ps with
    |nil=>rw[TP]at ih ⊢;rw[ih]
    |cons q ps=>rw[TO]at ih ⊢;rw[<-ih];simp
theorem GY (l:List UInt8):(spl l).length=l.count 47+1:=by
 induction l with
 |nil=>simp[spl]
 |cons c r ih=>
  by_cases h:c=47
  . subst h;simp[spl,ih]
  . obtain⟨p,ps,h1,h2⟩:=Hi (r:=r) h;rw[h2,List.count_cons_of_ne (by simpa using h),<-ih,h1];simp
theorem TA (l:List UInt8):∀p∈spl l,p.length<=l.length:=by
 induction l with
 |nil=>intro p hp;simp[spl]at hp;subst hp;simp
 |cons c r ih=>
  by_cases h:c=47
  . subst h;intro p hp;rw[show spl (47::r)= []::spl r from by simp[spl]]at hp
    rcases WE.1 hp with h1|h1
    . subst h1;simp
    . have:=ih p h1;simp;omega
  . obtain⟨q,qs,h1,h2⟩:=Hi (r:=r) h;intro p hp;rw[h2]at hp
    rcases WE.1 hp with h3|h3
    . subst h3;have:=ih q (by rw[h1];simp)
      simp;omega
    . have:=ih p (by rw[h1];simp[h3]);simp;omega
theorem Tz:∀(l:List UInt8),Lib.splitK [47] 0 (Lib.count l [47]) l=spl l
 | []=>by
  rw[Lib.count_one];simp[spl,Lib.splitK]
 |c::r=>by
  have ih:=Tz r
  by_cases h:c=47
  . subst h;rw[Lib.count_cons_eq,Nat.add_comm];have hix:Lib.index (47::r) [47]=0:=by rw[Lib.index];simp[List.isPrefixOf]
    rw[Lib.splitK,hix];simp[spl,ih]
  . rw[Lib.count_cons_ne _ _ _ h];obtain⟨p,ps,h1,h2⟩:=Hi (r:=r) h;rw[h2]
    have hix:Lib.index (c::r) [47]=if Lib.index r [47]== -1 then-1 else Lib.index r [47]+1:=by
     rw[Lib.index];have hp:([47]:List UInt8).isPrefixOf (c::r)=false:=by simp[List.isPrefixOf,Ne.symm h]
     rw[hp];simp
    rw[h1]at ih
    cases hk:Lib.count r [47]with
    |zero=>
     rw[hk]at ih;simp only[Lib.splitK]at ih ⊢
     injection ih with i1 i2
     rw[i1,<-i2]
    |succ k=>
     rw[hk]at ih;simp only[Lib.splitK]at ih ⊢
     by_cases hm:Lib.index r [47]= -1
     . rw[if_pos (by rw[hix,if_pos (by simp[hm])];rfl)];rw[if_pos (by simp[hm])]at ih
       injection ih with i1 i2
       rw[i1,<-i2]
     . have hge:=Lib.index_ge r [47];obtain⟨j,hj⟩:∃j:Nat,Lib.index r [47]=j:=⟨(Lib.index r [47]).toNat,by omega⟩
       have hix':Lib.index (c::r) [47]=((j+1:Nat):Int):=by rw[hix,if_neg (by simp[hm]),hj];omega
       rw[hj]at ih;rw[hix'];rw[if_neg (by simp)]at ih;rw[if_neg (by simp;omega)]
       injection ih with i1 i2
       simp only[WD,XL,XQ]at i1 ⊢;rw[i1]
       congr 1
theorem CA (s:ByteArray):Lib.splitB ⟨#[47]⟩ 0 (Lib.countB s ⟨#[47]⟩) s=(spl s.data.toList).map B:=by
 have h:=Lib.splitB_data ⟨#[47]⟩ 0 (Lib.countB s ⟨#[47]⟩) s;have h2:Lib.countB s ⟨#[47]⟩=Lib.count s.data.toList [47]:=rfl;have h3:(⟨#[47]⟩:ByteArray).data.toList= [47]:=rfl;rw[h2,h3,Tz]at h;rw[h2,<-h,ZL];have:(B ∘ fun x:ByteArray=>x.data.toList)=id:=by funext x;exact I7 x
 rw[this,List.map_id]
theorem EP (s:ByteArray):Lib.countB s ⟨#[47]⟩+1=(spl s.data.toList).length:=by
 rw[GY];have h2:Lib.countB s ⟨#[47]⟩=Lib.count s.data.toList [47]:=rfl;rw[h2,Lib.count_one]
def okB (c:UInt8):Bool:=(97<=c&&c<=122)||(65<=c&&c<=90)||(48<=c&&c<=57)||c==46||c==95||c==45
def okP (p:List UInt8):Bool:=p != []&&p != [46]&&p != [46,46]&&p.all okB
def Jz (l:List UInt8):Nat:=if 40<l.length then 2 else if (spl l).all okP then 0 else 1
theorem Z28 {l:List UInt8}(h:Jz l=0):l.length<=40/\(spl l).all okP=true:=by
 unfold Jz at h
 split at h
 . omega
 . split at h
   . exact⟨by omega,by assumption⟩
   . omega
theorem LV {l:List UInt8}(h:l.length<=40)(h2:(spl l).all okP=true):Jz l=0:=by
 unfold Jz;rw[if_neg (by omega),if_pos h2]
def Gx:List UInt8:= [97,98,99,100,101,102,103,104,105,106,107,108,109,110,111,112,113,114,115,116,117,118,119,120,121,122,65,66,67,68,69,70,71,72,73,74,75,76,77,78,79,80,81,82,83,84,85,86,87,88,89,90,48,49,50,51,52,53,54,55,56,57,46,95,45]
theorem Z1g:∀c:UInt8,Gx.contains c=okB c:=by
 have h:∀n:Fin 256,Gx.contains (UInt8.ofNat n.val)=okB (UInt8.ofNat n.val):=by decide+kernel
 intro c;have:=h ⟨c.toNat,c.toNat_lt⟩
 simpa using this
theorem MD {f:UInt8->Bool}{l:List UInt8}:l.dropWhile f= []↔∀x∈l,f x=true:=by
 induction l with
 |nil=>simp
 |cons c r ih=>
  rw[List.dropWhile_cons]
  split
  . rename_i h;rw[ih];simp[h]
  . rename_i h;simp[h]
theorem OS {l:List UInt8}:Lib.trimS l Gx= []↔l.all okB=true:=by
 have e:(fun b=>Gx.contains b)=okB:=by funext c;exact Z1g c
 unfold Lib.trimS Lib.trimLeftS Lib.trimRightS;rw[e]
 constructor
 . intro h;rw[MD]at h
   have h2:l.reverse.dropWhile okB= []:=by
    cases hd:l.reverse.dropWhile okB with
    |nil=>rfl
    |cons x xs=>
     have hx:¬okB x=true:=by
      have:=List.head_dropWhile_not okB (l:=l.reverse) (by rw[hd];simp)
      simpa[hd]using this
     exact absurd (h x (by rw[hd];simp)) hx
   rw[MD]at h2;rw[WT];intro x hx;exact h2 x (by simpa using hx)
 . intro h
   have h2:l.reverse.dropWhile okB= []:=by
    rw[MD];intro x hx;exact WT.1 h x (by simpa using hx)
   rw[h2];rfl
structure Fl where
 name:List UInt8
 bytes:List UInt8
 stamp:Int
 node:Int
 gone:Bool
deriving DecidableEq
abbrev Po (a b:List UInt8):Int:=Lib.compareBytes a b
theorem Gy (a b:UInt8)(x y:List UInt8):Po (a::x) (b::y)=if a<b then-1 else if b<a then 1 else Po x y:=rfl
theorem OP (a b:UInt8):(a<b)=(a.toNat<b.toNat):=by rw[UInt8.lt_iff_toNat_lt]
theorem Z33 {a b:UInt8}(h1:¬a<b)(h2:¬b<a):a=b:=by
 rw[OP]at h1 h2;exact UInt8.toNat_inj.1 (by omega)
theorem F0:∀a:List UInt8,Po a a=0
 | []=>rfl
 |a::x=>by
  rw[Gy,if_neg (by rw[OP];omega),if_neg (by rw[OP];omega)];exact F0 x
theorem MU:∀ {a b:List UInt8},Po a b=0->a=b
 | [],[],_=>rfl
 | [],_::_,h=>by cases h
 |_::_,[],h=>by cases h
 |a::x,b::y,h=>by
  rw[Gy]at h
  split at h
  . cases h
  . split at h
    . cases h
    . rename_i h1 h2
      rw[Z33 h1 h2,MU h]
theorem MT {a b:List UInt8}:Po a b=0↔a=b:=⟨MU,fun h=>by rw[h,F0]⟩
theorem Jw:∀a b:List UInt8,Po a b= -1\/Po a b=0\/Po a b=1
 | [],[]=>.inr (.inl rfl)
 | [],_::_=>.inl rfl
 |_::_,[]=>.inr (.inr rfl)
 |a::x,b::y=>by
  rw[Gy]
  split
  . exact .inl rfl
  . split
    . exact .inr (.inr rfl)
    . exact Jw x y
theorem Sg:∀a b:List UInt8,Po b a= -Po a b
 | [],[]=>rfl
 | [],_::_=>rfl
 |_::_,[]=>rfl
 |a::x,b::y=>by
  rw[Gy,Gy]
  by_cases h1:a<b
  . have h2:¬b<a:=by rw[OP]at h1 ⊢;omega
    rw[if_neg h2,if_pos h1,if_pos h1];rfl
  . by_cases h2:b<a
    . rw[if_pos h2,if_neg h1,if_pos h2]
    . rw[if_neg h2,if_neg h1,if_neg h1,if_neg h2];exact Sg x y
theorem Z5:∀a b:List UInt8,Op.bytesLess a b=decide (Po a b<0)
 | [],[]=>rfl
 | [],_::_=>rfl
 |_::_,[]=>rfl
 |a::x,b::y=>by
  show (decide (a<b)||(a==b&&Op.bytesLess x y))=_
  rw[Gy,Z5 x y]
  by_cases h1:a<b
  . simp[h1]
  . rw[if_neg h1]
    by_cases h2:b<a
    . have:(a==b)=false:=by
       rw[beq_eq_false_iff_ne];rintro rfl;exact h1 h2
      rw[if_pos h2,this];simp[h1]
    . have:=Z33 h1 h2
      subst this;rw[if_neg h2];simp[h1]
def Ks (f:Fl):Nat:=
 if Jz f.name≠0 then Jz f.name else if 3000<f.bytes.length then 2 else if f.stamp<0\/1000000<f.stamp\/f.node<0\/3<f.node then 3
 else if f.gone=true/\0<f.bytes.length then 4 else 0
def behind:Option Fl->Fl->Bool
 |none,_=>true
 |some x,f=>decide (Po x.name f.name<0)
def AP:Option Fl->List Fl->Nat
 |_,[]=>0
 |p,f::r=>if Ks f≠0 then Ks f else if behind p f=false then 4 else AP (some f) r
def Nh (l:List Fl):Nat:=if 12<l.length then 2 else AP none l
end Go.Proofs.YtleocpdblhbimaaGreatDoor
