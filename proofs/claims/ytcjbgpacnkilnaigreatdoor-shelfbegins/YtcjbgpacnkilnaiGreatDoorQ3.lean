import Derived.Test.YtcjbgpacnkilnaiGreatDoorQ2
import Derived.Lib.Bytealg
import GoSem.Op.String
import Derived.Test.YtcjbgpacnkilnaiGreatDoorQ0
import Derived.Test.YtcjbgpacnkilnaiGreatDoorQ1
namespace Go.Proofs.YtcjbgpacnkilnaiGreatDoor
open Go
set_option linter.unusedVariables false
structure Fl where
 name:List UInt8
 bytes:List UInt8
 stamp:Int
 node:Int
 gone:Bool
deriving DecidableEq
abbrev He (a b:List UInt8):Int:=Lib.compareBytes a b
theorem Gk (a b:UInt8)(x y:List UInt8):He (a::x) (b::y)=if a<b then-1 else if b<a then 1 else He x y:=rfl
theorem Zbw (a b:UInt8):(a<b)=(a.toNat<b.toNat):=by rw[UInt8.lt_iff_toNat_lt]
theorem Zhy {a b:UInt8}(h1:¬a<b)(h2:¬b<a):a=b:=by
 rw[Zbw]at h1 h2;exact UInt8.toNat_inj.1 (by omega)
theorem Zd:∀a:List UInt8,He a a=0
 | []=>rfl
 |a::x=>by
  rw[Gk,if_neg (by rw[Zbw];omega),if_neg (by rw[Zbw];omega)];exact Zd x
theorem Zaq:∀ {a b:List UInt8},He a b=0->a=b
 | [],[],_=>rfl
 | [],_::_,h=>by cases h
 |_::_,[],h=>by cases h
 |a::x,b::y,h=>by
  rw[Gk]at h
  split at h
  . cases h
  . split at h
    . cases h
    . rename_i h1 h2
      rw[Zhy h1 h2,Zaq h]
theorem Zc {a b:List UInt8}:He a b=0↔a=b:=⟨Zaq,fun h=>by rw[h,Zd]⟩
theorem Ik:∀a b:List UInt8,He a b= -1\/He a b=0\/He a b=1
 | [],[]=>.inr (.inl rfl)
 | [],_::_=>.inl rfl
 |_::_,[]=>.inr (.inr rfl)
 |a::x,b::y=>by
  rw[Gk]
  split
  . exact .inl rfl
  . split
    . exact .inr (.inr rfl)
    . exact Ik x y
theorem Ze:∀a b:List UInt8,He b a= -He a b
 | [],[]=>rfl
 | [],_::_=>rfl
 |_::_,[]=>rfl
 |a::x,b::y=>by
  rw[Gk,Gk]
  by_cases h1:a<b
  . have h2:¬b<a:=by rw[Zbw]at h1 ⊢;omega
    rw[if_neg h2,if_pos h1,if_pos h1];rfl
  . by_cases h2:b<a
    . rw[if_pos h2,if_neg h1,if_pos h2]
    . rw[if_neg h2,if_neg h1,if_neg h1,if_neg h2];exact Ze x y
theorem Ty:∀a b:List UInt8,Op.bytesLess a b=decide (He a b<0)
 | [],[]=>rfl
 | [],_::_=>rfl
 |_::_,[]=>rfl
 |a::x,b::y=>by
  show (decide (a<b)||(a==b&&Op.bytesLess x y))=_
  rw[Gk,Ty x y]
  by_cases h1:a<b
  . simp[h1]
  . rw[if_neg h1]
    by_cases h2:b<a
    . have:(a==b)=false:=by
       rw[beq_eq_false_iff_ne];rintro rfl;exact h1 h2
      rw[if_pos h2,this];simp[h1]
    . have:=Zhy h1 h2
      subst this;rw[if_neg h2];simp[h1]
def Zf2 (a b:Int):Int:=if a<b then-1 else if b<a then 1 else 0
def Zjj (a b:Bool):Int:=if a=b then 0 else if a then 1 else-1
def nz (a b:Int):Int:=if a≠0 then a else b
def nwr (a b:Fl):Int:=nz (Zf2 a.stamp b.stamp) (nz (Zf2 a.node b.node) (nz (Zjj a.gone b.gone) (He a.bytes b.bytes)))
def Kx (f:Fl):Nat:=
 if Md f.name≠0 then Md f.name else if 3000<f.bytes.length then 2 else if f.stamp<0\/1000000<f.stamp\/f.node<0\/3<f.node then 3
 else if f.gone=true/\0<f.bytes.length then 4 else 0
def behind:Option Fl->Fl->Bool
 |none,_=>true
 |some x,f=>decide (He x.name f.name<0)
def Za2:Option Fl->List Fl->Nat
 |_,[]=>0
 |p,f::r=>if Kx f≠0 then Kx f else if behind p f=false then 4 else Za2 (some f) r
def Em (l:List Fl):Nat:=if 12<l.length then 2 else Za2 none l
def Z8a (x y:Fl):Fl:=if 0<nwr y x then y else x
def tog:List Fl->List Fl->List Fl
 | [],b=>b
 |x::a,[]=>x::a
 |x::a,y::b=>if He x.name y.name<0 then x::tog a (y::b)else if 0<He x.name y.name then y::tog (x::a) b else Z8a x y::tog a b
termination_by a b=>a.length+b.length
theorem Nu (b:List Fl):tog [] b=b:=by unfold tog;rfl
theorem Td (a:List Fl):tog a []=a:=by
 cases a with
 |nil=>exact Nu []
 |cons x a=>unfold tog;rfl
theorem Zeg {x y:Fl}{a b:List Fl}(h:He x.name y.name<0):tog (x::a) (y::b)=x::tog a (y::b):=by rw[tog,if_pos h]
theorem Zi0 {x y:Fl}{a b:List Fl}(h:0<He x.name y.name):tog (x::a) (y::b)=y::tog (x::a) b:=by rw[tog,if_neg (by omega),if_pos h]
theorem Zi1 {x y:Fl}{a b:List Fl}(h:He x.name y.name=0):tog (x::a) (y::b)=Z8a x y::tog a b:=by rw[tog,if_neg (by omega),if_neg (by omega)]
end Go.Proofs.YtcjbgpacnkilnaiGreatDoor
namespace Go.Proofs.YtcjbgpacnkilnaiGreatDoor.Stab
open Go.RowKit
set_option linter.unusedVariables false
variable {α:Type}
def swp (d:Nat->α)(i j:Nat):Nat->α:=fun k=>if k=i then d j else if k=j then d i else d k
def swr (d:Nat->α)(a b:Nat):Nat->Nat->α
 |0=>d
 |i+1=>swp (swr d a b i) (a+i) (b+i)
def rot (d:Nat->α)(a m b:Nat):Nat->α:=fun k=>if a<=k/\k<a+(b-m)then d (k+(m-a))else if a+(b-m)<=k/\k<b then d (k-(b-m))else d k
theorem Z2a (d:Nat->α)(a b:Nat):∀n,(a+n<=b\/b+n<=a)->∀k,swr d a b n k=if a<=k/\k<a+n then d (b+(k-a))else if b<=k/\k<b+n then d (a+(k-b))else d k
 |0,_,k=>by
  rw[swr,if_neg (by omega),if_neg (by omega)]
 |n+1,h,k=>by
  have ih:=Z2a d a b n (by omega);rw[swr,swp]
  by_cases h1:k=a+n
  . rw[if_pos h1,if_pos (by omega),ih,if_neg (by omega),if_neg (by omega)]
    congr 1;omega
  . rw[if_neg h1]
    by_cases h2:k=b+n
    . rw[if_pos h2,if_neg (by omega),if_pos (by omega),ih,if_neg (by omega),if_neg (by omega)]
      congr 1;omega
    . rw[if_neg h2,ih]
      by_cases h3:a<=k/\k<a+n
      . rw[if_pos h3,if_pos (by omega)]
      . rw[if_neg h3]
        by_cases h4:b<=k/\k<b+n
        . rw[if_pos h4,if_neg (by omega),if_pos (by omega)]
        . rw[if_neg h4,if_neg (by omega),if_neg (by omega)]
theorem rot_gt (d:Nat->α)(m i j:Nat)(h:j<i)(hm:i<=m):rot (swr d (m-i) m j) (m-(i-j)) m (m+j)=rot d (m-i) m (m+j):=by
 funext k
 have hs:=Z2a d (m-i) m j (by omega);unfold rot
 by_cases h1:m-i<=k/\k<m-i+(m+j-m)
 . rw[if_pos h1,if_neg (by omega),if_neg (by omega),hs,if_pos (by omega)]
   congr 1;omega
 . rw[if_neg h1]
   by_cases h2:m-(i-j)<=k/\k<m-(i-j)+(m+j-m)
   . rw[if_pos h2,hs,if_neg (by omega),if_pos (by omega),if_pos (by omega)]
     congr 1;omega
   . rw[if_neg h2]
     by_cases h3:m-(i-j)+(m+j-m)<=k/\k<m+j
     . rw[if_pos h3,hs,if_neg (by omega),if_neg (by omega),if_pos (by omega)]
     . rw[if_neg h3,hs,if_neg (by omega),if_neg (by omega),if_neg (by omega)]
theorem rot_lt (d:Nat->α)(m i j:Nat)(h:i<j)(hm:i<=m):rot (swr d (m-i) (m+j-i) i) (m-i) m (m+(j-i))=rot d (m-i) m (m+j):=by
 funext k
 have hs:=Z2a d (m-i) (m+j-i) i (by omega);unfold rot
 by_cases h1:m-i<=k/\k<m-i+(m+(j-i)-m)
 . rw[if_pos h1,if_pos (by omega),hs,if_neg (by omega)]
   by_cases h2:m+j-i<=k+(m-(m-i))/\k+(m-(m-i))<m+j-i+i
   . omega
   . rw[if_neg h2]
 . rw[if_neg h1]
   by_cases h3:m-i+(m+(j-i)-m)<=k/\k<m+(j-i)
   . rw[if_pos h3,if_pos (by omega),hs,if_pos (by omega)]
     congr 1;omega
   . rw[if_neg h3,hs]
     by_cases h4:m+j-i<=k/\k<m+j-i+i
     . rw[if_neg (by omega),if_pos h4,if_neg (by omega),if_pos (by omega)]
       congr 1;omega
     . rw[if_neg (by omega),if_neg h4,if_neg (by omega),if_neg (by omega)]
theorem rot_eq (d:Nat->α)(m i:Nat)(hm:i<=m):swr d (m-i) m i=rot d (m-i) m (m+i):=by
 funext k
 rw[Z2a d (m-i) m i (by omega),rot]
 by_cases h1:m-i<=k/\k<m-i+i
 . rw[if_pos h1,if_pos (by omega)];congr 1;omega
 . rw[if_neg h1]
   by_cases h2:m<=k/\k<m+i
   . rw[if_pos h2,if_neg (by omega),if_pos (by omega)];congr 1;omega
   . rw[if_neg h2,if_neg (by omega),if_neg (by omega)]
def seg (d:Nat->α)(a b:Nat):List α:=(List.range (b-a)).map fun i=>d (a+i)
structure Moved (a b:Nat)(d d':Nat->α):Prop where
 out:∀k,¬(a<=k/\k<b)->d' k=d k
 perm:(seg d' a b).Perm (seg d a b)
theorem Moved.refl (a b:Nat)(d:Nat->α):Moved a b d d:=⟨fun _ _=>rfl,List.Perm.refl _⟩
theorem Moved.trans {a b:Nat}{d d' d'':Nat->α}(h:Moved a b d d')(k:Moved a b d' d''):Moved a b d d'':=
 ⟨fun i hi=>(k.out i hi).trans (h.out i hi),k.perm.trans h.perm⟩
theorem Hm (d:Nat->α)(a m b:Nat)(h1:a<=m)(h2:m<=b):seg d a b=seg d a m++seg d m b:=by
 apply List.ext_getElem
 . simp[seg];omega
 . intro i h3 h4;rw[List.getElem_append];simp only[seg,List.getElem_map,List.getElem_range,List.length_map,List.length_range]
   split
   . rfl
   . congr 1;omega
theorem Wk {d d':Nat->α}{a b:Nat}(h:∀k,a<=k->k<b->d' k=d k):seg d' a b=seg d a b:=by
 apply List.ext_getElem (by simp[seg])
 intro i h1 h2;have:i<b-a:=by simpa[seg]using h1
 simp only[seg,List.getElem_map,List.getElem_range];exact h _ (by omega) (by omega)
theorem Z8v {d:Nat->α}{a b:Nat}{x:α}:x∈seg d a b↔∃k,a<=k/\k<b/\d k=x:=by
 simp only[seg,List.mem_map,List.mem_range]
 constructor
 . rintro ⟨i,hi,rfl⟩;exact⟨a+i,by omega,by omega,rfl⟩
 . rintro ⟨k,h1,h2,rfl⟩;exact⟨k-a,by omega,by congr 1;omega⟩
theorem Moved.mem {a b:Nat}{d d':Nat->α}(h:Moved a b d d'){k:Nat}(h1:a<=k)(h2:k<b):∃j,a<=j/\j<b/\d j=d' k:=by
 have:d' k∈seg d' a b:=Z8v.2 ⟨k,h1,h2,rfl⟩
 exact Z8v.1 (h.perm.mem_iff.1 this)
theorem Moved.wider {a b a' b':Nat}{d d':Nat->α}(h:Moved a b d d')(h1:a'<=a)(h2:a<=b)(h3:b<=b'):Moved a' b' d d':=by
 refine⟨fun k hk=>h.out k (by omega), ?_⟩;rw[Hm d' a' a b' h1 (by omega),Hm d a' a b' h1 (by omega),Hm d' a b b' h2 h3,Hm d a b b' h2 h3];rw[Wk (d:=d) (d':=d') (a:=a') (b:=a) (fun k _ hk=>h.out k (by omega)),Wk (d:=d) (d':=d') (a:=b) (b:=b') (fun k hk _=>h.out k (by omega))];exact(h.perm.append_right _).append_left _
theorem Zfr (d:Nat->α)(a m b:Nat)(h1:a<=m)(h2:m<=b):seg (rot d a m b) a b=seg d m b++seg d a m:=by
 apply List.ext_getElem
 . simp[seg];omega
 . intro i h3 h4;have hi:i<b-a:=by simpa[seg]using h3
   rw[List.getElem_append];simp only[seg,List.getElem_map,List.getElem_range,List.length_map,List.length_range,rot]
   by_cases h:i<b-m
   . rw[dif_pos h,if_pos (by omega)];congr 1;omega
   . rw[dif_neg h,if_neg (by omega),if_pos (by omega)];congr 1;omega
theorem moved_rot (d:Nat->α)(a m b:Nat)(h1:a<=m)(h2:m<=b):Moved a b d (rot d a m b):=by
 refine⟨fun k hk=> ?_, ?_⟩
 . rw[rot,if_neg (by omega),if_neg (by omega)]
 . rw[Zfr d a m b h1 h2,Hm d a m b h1 h2];exact List.perm_append_comm
variable (lt:α->α->Prop)
def Srt (d:Nat->α)(a b:Nat):Prop:=∀i j,a<=i->i<j->j<b->lt (d i) (d j)
theorem Srt.sub {lt:α->α->Prop}{d:Nat->α}{a b a' b':Nat}(h:Srt lt d a b)(h1:a<=a')(h2:b'<=b):Srt lt d a' b':=fun i j hi hij hj=>h i j (by omega) hij (by omega)
theorem Srt.congr {lt:α->α->Prop}{d d':Nat->α}{a b:Nat}(h:Srt lt d a b)(he:∀k,a<=k->k<b->d' k=d k):Srt lt d' a b:=fun i j hi hij hj=>by
 rw[he i hi (by omega),he j (by omega) hj];exact h i j hi hij hj
theorem Srt.join {lt:α->α->Prop}{d:Nat->α}{a m b:Nat}(h1:Srt lt d a m)(h2:Srt lt d m b)(h:∀i j,a<=i->i<m->m<=j->j<b->lt (d i) (d j)):Srt lt d a b:=by
 intro i j hi hij hj
 by_cases c1:j<m
 . exact h1 i j hi hij c1
 . by_cases c2:i<m
   . exact h i j hi c2 (by omega) hj
   . exact h2 i j (by omega) hij hj
theorem merge_step {lt:α->α->Prop}(tr:∀x y z,lt x y->lt y z->lt x z){d d1 d2:Nat->α}{a start m stop b mid:Nat}(h1:a<=start)(h2:start<=m)(h3:m<=stop)(h4:stop<=b)(hmid:mid+m=start+stop)
 (sL:Srt lt d a m) (sR:Srt lt d m b) (cL:a<start->stop<b->lt (d (start-1)) (d stop)) (cR:start<m->m<stop->lt (d (stop-1)) (d start))
 (m1:Moved a mid (rot d start m stop) d1) (s1:Srt lt d1 a mid) (m2:Moved mid b d1 d2) (s2:Srt lt d2 mid b):Srt lt d2 a b/\Moved a b d d2:=by
 have hmm:start<=mid/\mid<=stop:=by omega
 constructor
 . refine Srt.join (m:=mid) (s1.congr fun k _ hk=>m2.out k (by omega)) s2 ?_;intro i j hi him hjm hj;rw[m2.out i (by omega)];obtain⟨p,hp1,hp2,hp⟩:=m1.mem hi him;obtain⟨q,hq1,hq2,hq⟩:=m2.mem hjm hj;rw[<-hp,<-hq,m1.out q (by omega)]
   have eP:rot d start m stop p=if p<start then d p else d (p+(m-start)):=by
    unfold rot
    by_cases c:p<start
    . rw[if_neg (by omega),if_neg (by omega),if_pos c]
    . rw[if_pos (by omega),if_neg c]
   have eQ:rot d start m stop q=if q<stop then d (q-(stop-m))else d q:=by
    unfold rot
    by_cases c:q<stop
    . rw[if_neg (by omega),if_pos (by omega),if_pos c]
    . rw[if_neg (by omega),if_neg (by omega),if_neg c]
   rw[eP,eQ]
   by_cases c1:p<start
   . rw[if_pos c1]
     by_cases c2:q<stop
     . rw[if_pos c2];exact sL _ _ hp1 (by omega) (by omega)
     . rw[if_neg c2];have e1:lt (d (start-1)) (d stop):=cL (by omega) (by omega)
       have e2:d p=d (start-1)\/lt (d p) (d (start-1)):=by
        by_cases c:p=start-1
        . left;rw[c]
        . right;exact sL _ _ hp1 (by omega) (by omega)
       have e3:d stop=d q\/lt (d stop) (d q):=by
        by_cases c:stop=q
        . left;rw[c]
        . right;exact sR _ _ (by omega) (by omega) (by omega)
       rcases e2 with e2|e2<;>rcases e3 with e3|e3
       . rw[e2,<-e3];exact e1
       . rw[e2];exact tr _ _ _ e1 e3
       . rw[<-e3];exact tr _ _ _ e2 e1
       . exact tr _ _ _ e2 (tr _ _ _ e1 e3)
   . rw[if_neg c1]
     by_cases c2:q<stop
     . rw[if_pos c2];have e1:lt (d (stop-1)) (d start):=cR (by omega) (by omega)
       have e2:d (p+(m-start))=d (stop-1)\/lt (d (p+(m-start))) (d (stop-1)):=by
        by_cases c:p+(m-start)=stop-1
        . left;rw[c]
        . right;exact sR _ _ (by omega) (by omega) (by omega)
       have e3:d start=d (q-(stop-m))\/lt (d start) (d (q-(stop-m))):=by
        by_cases c:start=q-(stop-m)
        . left;rw[<-c]
        . right;exact sL _ _ h1 (by omega) (by omega)
       rcases e2 with e2|e2<;>rcases e3 with e3|e3
       . rw[e2,<-e3];exact e1
       . rw[e2];exact tr _ _ _ e1 e3
       . rw[<-e3];exact tr _ _ _ e2 e1
       . exact tr _ _ _ e2 (tr _ _ _ e1 e3)
     . rw[if_neg c2];exact sR _ _ (by omega) (by omega) (by omega)
 . exact(((moved_rot d start m stop h2 h3).wider h1 (by omega) h4).trans (m1.wider (Nat.le_refl _) (by omega) (by omega))).trans (m2.wider (by omega) (by omega) (Nat.le_refl _))
end Go.Proofs.YtcjbgpacnkilnaiGreatDoor.Stab
namespace Go.Proofs.YtcjbgpacnkilnaiGreatDoor.Stab
open Go.RowKit
set_option linter.unusedVariables false
def lx (x y:Int×Int):Prop:=x.1<y.1\/ (x.1=y.1/\x.2<y.2)
theorem lx_trans (x y z:Int×Int)(h:lx x y)(k:lx y z):lx x z:=by unfold lx at*;omega
def Cross (d:Nat->Int×Int)(a m b:Nat):Prop:=∀i j,a<=i->i<m->m<=j->j<b->(d i).2<(d j).2
theorem cross_less {x y:Int×Int}(h:x.2<y.2):(decide (y.1<x.1)=true->lx y x)/\(decide (y.1<x.1)=false->lx x y):=by
 unfold lx
 constructor
 . intro e;have:=of_decide_eq_true e;omega
 . intro e;have:=of_decide_eq_false e;omega
theorem rot_left (d:Nat->Int×Int)(m b:Nat):rot d m m b=d:=by
 funext k;unfold rot
 by_cases h:m<=k/\k<m+(b-m)
 . rw[if_pos h];congr 1;omega
 . rw[if_neg h,if_neg (by omega)]
theorem rot_right (d:Nat->Int×Int)(a m:Nat):rot d a m m=d:=by
 funext k;unfold rot
 rw[if_neg (by omega)]
 by_cases h:a+(m-m)<=k/\k<m
 . rw[if_pos h];congr 1;omega
 . rw[if_neg h]
theorem merge_parts {d:Nat->Int×Int}{a start m stop b mid:Nat}(h1:a<=start)(h2:start<=m)(h3:m<=stop)(h4:stop<=b)(hmid:mid+m=start+stop)(sL:Srt lx d a m)(sR:Srt lx d m b)(hc:Cross d a m b):
 (Srt lx (rot d start m stop) a start/\Srt lx (rot d start m stop) start mid/\Cross (rot d start m stop) a start mid)/\(Srt lx (rot d start m stop) mid stop/\Srt lx (rot d start m stop) stop b/\Cross (rot d start m stop) mid stop b):=by
 have e1:∀k,k<start->rot d start m stop k=d k:=fun k hk=>by unfold rot;rw[if_neg (by omega),if_neg (by omega)]
 have e2:∀k,start<=k->k<mid->rot d start m stop k=d (k+(m-start)):=fun k hk hk2=>by unfold rot;rw[if_pos (by omega)]
 have e3:∀k,mid<=k->k<stop->rot d start m stop k=d (k-(stop-m)):=fun k hk hk2=>by unfold rot;rw[if_neg (by omega),if_pos (by omega)]
 have e4:∀k,stop<=k->rot d start m stop k=d k:=fun k hk=>by unfold rot;rw[if_neg (by omega),if_neg (by omega)]
 refine⟨⟨?_, ?_, ?_⟩, ?_, ?_, ?_⟩
 . intro i j hi hij hj;rw[e1 i (by omega),e1 j hj];exact sL i j hi hij (by omega)
 . intro i j hi hij hj;rw[e2 i hi (by omega),e2 j (by omega) hj];exact sR _ _ (by omega) (by omega) (by omega)
 . intro i j hi hi2 hj hj2;rw[e1 i hi2,e2 j hj hj2];exact hc _ _ hi (by omega) (by omega) (by omega)
 . intro i j hi hij hj;rw[e3 i hi (by omega),e3 j (by omega) hj];exact sL _ _ (by omega) (by omega) (by omega)
 . intro i j hi hij hj;rw[e4 i hi,e4 j (by omega)];exact sR i j (by omega) hij hj
 . intro i j hi hi2 hj hj2;rw[e3 i hi hi2,e4 j hj];exact hc _ _ (by omega) (by omega) (by omega) hj2
theorem Cross.congr {d d':Nat->Int×Int}{a m b:Nat}(h:Cross d a m b)(he:∀k,a<=k->k<b->d' k=d k):Cross d' a m b:=fun i j hi hi2 hj hj2=>by
 rw[he i hi (by omega),he j (by omega) hj2];exact h i j hi hi2 hj hj2
theorem ins_first {d:Nat->Int×Int}{a i b:Nat}(h1:a<i)(h2:i<=b)(sR:Srt lx d (a+1) b)(hlo:a+1<i->lx (d (i-1)) (d a))(hhi:i<b->lx (d a) (d i)):Srt lx (rot d a (a+1) i) a b:=by
 have e1:∀k,a<=k->k<i-1->rot d a (a+1) i k=d (k+1):=fun k hk hk2=>by unfold rot;rw[if_pos (by omega)];congr 1;omega
 have e2:rot d a (a+1) i (i-1)=d a:=by unfold rot;rw[if_neg (by omega),if_pos (by omega)];congr 1;omega
 have e3:∀k,i<=k->rot d a (a+1) i k=d k:=fun k hk=>by unfold rot;rw[if_neg (by omega),if_neg (by omega)]
 have below:∀k,a+1<=k->k<i->lx (d k) (d a):=by
  intro k hk hk2
  by_cases c:k=i-1
  . rw[c];exact hlo (by omega)
  . exact lx_trans _ _ _ (sR k (i-1) hk (by omega) (by omega)) (hlo (by omega))
 have above:∀k,i<=k->k<b->lx (d a) (d k):=by
  intro k hk hk2
  by_cases c:k=i
  . rw[c];exact hhi (by omega)
  . exact lx_trans _ _ _ (hhi (by omega)) (sR i k (by omega) (by omega) hk2)
 intro p q hp hpq hq
 by_cases c1:p<i-1
 . rw[e1 p hp c1]
   by_cases c2:q<i-1
   . rw[e1 q (by omega) c2];exact sR _ _ (by omega) (by omega) (by omega)
   . by_cases c3:q=i-1
     . rw[c3,e2];exact below _ (by omega) (by omega)
     . rw[e3 q (by omega)];exact sR _ _ (by omega) (by omega) hq
 . by_cases c2:p=i-1
   . rw[c2,e2,e3 q (by omega)];exact above q (by omega) hq
   . rw[e3 p (by omega),e3 q (by omega)];exact sR _ _ (by omega) hpq hq
theorem ins_last {d:Nat->Int×Int}{a i m:Nat}(h1:a<=i)(h2:i<=m)(sL:Srt lx d a m)(hlo:a<i->lx (d (i-1)) (d m))(hhi:i<m->lx (d m) (d i)):Srt lx (rot d i m (m+1)) a (m+1):=by
 have e1:∀k,k<i->rot d i m (m+1) k=d k:=fun k hk=>by unfold rot;rw[if_neg (by omega),if_neg (by omega)]
 have e2:rot d i m (m+1) i=d m:=by unfold rot;rw[if_pos (by omega)];congr 1;omega
 have e3:∀k,i<k->k<=m->rot d i m (m+1) k=d (k-1):=fun k hk hk2=>by unfold rot;rw[if_neg (by omega),if_pos (by omega)];congr 1;omega
 have below:∀k,a<=k->k<i->lx (d k) (d m):=by
  intro k hk hk2
  by_cases c:k=i-1
  . rw[c];exact hlo (by omega)
  . exact lx_trans _ _ _ (sL k (i-1) hk (by omega) (by omega)) (hlo (by omega))
 have above:∀k,i<=k->k<m->lx (d m) (d k):=by
  intro k hk hk2
  by_cases c:k=i
  . rw[c];exact hhi (by omega)
  . exact lx_trans _ _ _ (hhi (by omega)) (sL i k h1 (by omega) hk2)
 intro p q hp hpq hq
 by_cases c1:p<i
 . rw[e1 p c1]
   by_cases c2:q<i
   . rw[e1 q c2];exact sL _ _ hp hpq (by omega)
   . by_cases c3:q=i
     . rw[c3,e2];exact below p hp c1
     . rw[e3 q (by omega) (by omega)];exact sL _ _ hp (by omega) (by omega)
 . by_cases c2:p=i
   . rw[c2,e2,e3 q (by omega) (by omega)];exact above _ (by omega) (by omega)
   . rw[e3 p (by omega) (by omega),e3 q (by omega) (by omega)];exact sL _ _ (by omega) (by omega) (by omega)
theorem rot_up (d:Nat->Int×Int)(a k:Nat)(h:a<=k):swp (rot d a (a+1) (k+1)) k (k+1)=rot d a (a+1) (k+1+1):=by
 funext q;unfold swp rot
 by_cases c1:q=k
 . rw[if_pos c1,if_neg (by omega),if_neg (by omega),if_pos (by omega)];congr 1;omega
 . rw[if_neg c1]
   by_cases c2:q=k+1
   . rw[if_pos c2,if_neg (by omega),if_pos (by omega),if_neg (by omega),if_pos (by omega)];congr 1;omega
   . rw[if_neg c2]
     by_cases c3:a<=q/\q<k
     . rw[if_pos (by omega),if_pos (by omega)]
     . rw[if_neg (by omega),if_neg (by omega),if_neg (by omega),if_neg (by omega)]
theorem rot_down (d:Nat->Int×Int)(k m:Nat)(h0:0<k)(h:k<=m):swp (rot d k m (m+1)) k (k-1)=rot d (k-1) m (m+1):=by
 funext q;unfold swp rot
 by_cases c1:q=k
 . rw[if_pos c1,if_neg (by omega),if_neg (by omega),if_neg (by omega),if_pos (by omega)];congr 1;omega
 . rw[if_neg c1]
   by_cases c2:q=k-1
   . rw[if_pos c2,if_pos (by omega),if_pos (by omega)];congr 1;omega
   . rw[if_neg c2]
     by_cases c3:k<q/\q<=m
     . rw[if_neg (by omega),if_pos (by omega),if_neg (by omega),if_pos (by omega)]
     . rw[if_neg (by omega),if_neg (by omega),if_neg (by omega),if_neg (by omega)]
end Go.Proofs.YtcjbgpacnkilnaiGreatDoor.Stab
namespace Go.Proofs.YtcjbgpacnkilnaiGreatDoor
open Go.RowKit
set_option linter.unusedVariables false
def hb (c:Nat):Nat->List Bool
 |0=> []
 |n+1=>hb (c/2) n++ [decide (c%2=1)]
theorem Ci:∀n c,(hb c n).length=n
 |0,_=>rfl
 |n+1,c=>by simp[hb,Ci n]
theorem Zgu:∀n,hb 0 n=List.replicate n false
 |0=>rfl
 |n+1=>by rw[hb,Nat.zero_div,Zgu n,List.replicate_succ'];rfl
instance (x y:Int×Int):Decidable (Stab.lx x y):=by unfold Stab.lx;infer_instance
theorem Vz (c:Nat->Nat)(m:Nat)(hm:1<=m)(h15:m<=15):∀j,j<=15->takenN (upd c m (c m+1)) j=takenN c j+(if m<=j then 2^(15-m)else 0)
 |0,_=>by simp[takenN];omega
 |j+1,h=>by
  have ih:=Vz c m hm h15 j (by omega);rw[takenN,takenN,ih]
  by_cases e:j+1=m
  . subst e;have h1:¬(j+1<=j):=by omega
    have h2:15-(j+1)=14-j:=by omega
    simp only[upd,if_pos,h1,if_false,Nat.le_refl,h2,Nat.add_mul,Nat.one_mul];omega
  . simp only[upd,if_neg e]
    by_cases h1:m<=j
    . have h2:m<=j+1:=by omega
      simp[h1,h2];omega
    . have h2:¬m<=j+1:=by omega
      simp[h1,h2]
theorem Rj (c:Nat->Nat)(x:Nat):∀j,takenN (upd c 0 x) j=takenN c j
 |0=>rfl
 |j+1=>by rw[takenN,takenN,Rj c x j];simp[upd]
def Bj (l:List Int)(q:Nat):List Bool:=hb (codeN l q) (l.getD q 0).toNat
end Go.Proofs.YtcjbgpacnkilnaiGreatDoor
namespace Go.Proofs.YtcjbgpacnkilnaiGreatDoor
open Go.RowKit
set_option linter.unusedVariables false
set_option maxRecDepth 100000
def Ak (n:Nat):Nat->List Bool
 |0=> []
 |k+1=>Ak n k++ [n.testBit k]
theorem Af (n:Nat):∀k,(Ak n k).length=k
 |0=>rfl
 |k+1=>by rw[Ak,List.length_append,Af n k];rfl
theorem Zhh (n k:Nat):n/2^k%2=if n.testBit k then 1 else 0:=by
 have h:=Nat.testBit_eq_decide_div_mod_eq (x:=n) (i:=k);rw[h]
 rcases Nat.mod_two_eq_zero_or_one (n/2^k)with e|e<;>simp[e]
theorem Fk (n:Nat):∀s i,(Ak n s).getD i false=(decide (i<s)&&n.testBit i)
 |0,i=>by simp[Ak]
 |s+1,i=>by
  rw[Ak,List.getD_eq_getElem?_getD]
  by_cases h:i<s
  . rw[List.getElem?_append_left (by rw[Af];exact h),<-List.getD_eq_getElem?_getD,Fk n s i];simp[h,Nat.lt_succ_of_lt h]
  . rw[List.getElem?_append_right (by rw[Af];omega),Af]
    by_cases e:i=s
    . subst e;simp
    . have h1:¬i<s+1:=by omega
      have h2: [n.testBit s][i-s]? =none:=List.getElem?_eq_none (by simp;omega);rw[h2];simp[h1]
def Di:List Bool->Nat
 | []=>0
 |b::r=>(if b then 1 else 0)+2*Di r
theorem Jx:∀l,Di l<2^l.length
 | []=>by simp[Di]
 |b::r=>by
  have:=Jx r
  rw[Di,List.length_cons,Nat.pow_succ]
  split<;>omega
def rowB (xs:List Nat):Nat->List Bool
 |0=> []
 |q+1=>rowB xs q++Ak (xs.getD q 0) 8
theorem Ag (xs:List Nat):∀q,(rowB xs q).length=8*q
 |0=>rfl
 |q+1=>by rw[rowB,List.length_append,Ag xs q,Af];omega
theorem Ex (xs:List Nat):∀q i,i<8*q->(rowB xs q).getD i false=Il xs i
 |0,i,h=>by omega
 |q+1,i,h=>by
  rw[rowB,List.getD_eq_getElem?_getD]
  by_cases e:i<8*q
  . rw[List.getElem?_append_left (by rw[Ag];exact e),<-List.getD_eq_getElem?_getD,Ex xs q i e]
  . rw[List.getElem?_append_right (by rw[Ag];omega),Ag,<-List.getD_eq_getElem?_getD,Fk,Il];have e1:i/8=q:=by omega
    have e2:i%8=i-8*q:=by omega
    rw[e1,e2,decide_eq_true (by omega),Bool.true_and]
end Go.Proofs.YtcjbgpacnkilnaiGreatDoor
