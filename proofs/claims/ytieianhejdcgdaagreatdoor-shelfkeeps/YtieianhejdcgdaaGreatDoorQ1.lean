import Derived.Test.YtieianhejdcgdaaGreatDoorQ0
namespace Go.Proofs.YtieianhejdcgdaaGreatDoor
open Go.RowKit
set_option linter.unusedVariables false
theorem Ac {w:World}{b i:Nat}{cs:Array Value}{t:TypeId}(h:w.heap[b]? =some (.cells cs t (0,0))):w.cell? ⟨b,i,none⟩=cs[i]? :=cell_of_row w b i _ _ _ h
def Kp (No:Nat->Prop)(w w':World):Prop:=∀g,g<w.heap.size->No g->w'.heap[g]? =w.heap[g]?
theorem Kp.refl (No:Nat->Prop)(w:World):Kp No w w:=fun _ _ _=>rfl
theorem Kp.trans {No:Nat->Prop}{a b c:World}(h:Kp No a b)(k:Kp No b c)(hs:a.heap.size<=b.heap.size):Kp No a c:=fun g hg hn=>(k g (by omega) hn).trans (h g hg hn)
theorem Kp.grown {No:Nat->Prop}{a w w':World}{r:Option Nat}(h:Kp No a w)(hg:w.grownBy w' r)(hs:a.heap.size<=w.heap.size)(hr:∀j,r=some j->¬No j):Kp No a w':=by
 intro g h1 h2;rw[hg.block g (by omega) (fun e=>hr g e.symm h2)];exact h g h1 h2
theorem Bytes.grown {w w':World}{b o:Nat}{xs:List Nat}{r:Option Nat}(h:Bytes w b o xs)(hg:w.grownBy w' r)(hr:some b≠r):Bytes w' b o xs:=fun j hj=>hg.cell (h j hj) hr
theorem Kp.weaken {No No':Nat->Prop}{w w':World}(h:Kp No' w w')(hn:∀g,No g->No' g):Kp No w w':=fun g h1 h2=>h g h1 (hn g h2)
theorem Ar {w w':World}{B e size n:Nat}{v:Value}{xs:List Value}(h:w.ownsRow B e size v n xs)(hk:∀g,v.ownBlock=some g->w'.heap[g]? =w.heap[g]?):w'.ownsRow B e size v n xs:=by
 refine⟨h.1, ?_⟩
 rcases h.2 with h1|⟨g,cap,cur,h1,h2,h3,h4⟩
 . exact .inl h1
 . exact .inr ⟨g,cap,cur,h1,h2,(hk g (by rw[h1];rfl)).trans h3,h4⟩
theorem Wo {w:World}{B B' e size n:Nat}{v:Value}{xs:List Value}(h:w.ownsRow B e size v n xs)(hB:B'<=B):w.ownsRow B' e size v n xs:=by
 refine⟨h.1, ?_⟩
 rcases h.2 with h1|⟨g,cap,cur,h1,h2,h3⟩
 . exact .inl h1
 . exact .inr ⟨g,cap,cur,h1,VX hB h2,h3⟩
theorem Bt {w:World}{B e size n:Nat}{v:Value}{xs:List Value}(h:w.ownsRow B e size v n xs)(hn:0<n):∃g cap,v=.slice (some ⟨g,0,none⟩) n cap/\B<=g/\g<w.heap.size:=by
 rcases h.2 with ⟨h1,h2⟩|⟨g,cap,cur,h1,h2,h3⟩
 . omega
 . exact⟨g,cap,h1,h2,(h.lt g (by rw[h1];rfl)).2⟩
theorem IY (xs:List Nat)(y:Nat):u8s (xs++ [y])=u8s xs++ [.int .u8 (y:Int)]:=by simp[u8s]
theorem Ca {w:World}{a:Option Addr}{bs:List Nat}(h:BytesIn w a bs)(hp:0<bs.length):∃b o,a=some ⟨b,o,none⟩/\b<w.heap.size/\Bytes w b o bs:=by
 rcases h with rfl|h
 . simp at hp
 . exact h
theorem BytesIn.ofOwn {w:World}{B n:Nat}{v:Value}{xs:List Nat}(h:w.ownsRow B 5 1 v n (u8s xs)):xs.length=n/\∃a c,v=.slice a n c/\BytesIn w a xs:=by
 have hn:xs.length=n:=by have:=h.1;simpa using this
 refine⟨hn, ?_⟩
 rcases h.2 with ⟨h1,h2⟩|⟨g,cap,cur,h1,_⟩
 . subst h2;exact⟨none,0,h1,.inl (WP hn)⟩
 . subst h1;exact⟨_,_,rfl,BytesIn.own h⟩
theorem Ao {w:World}{B e size n:Nat}{v:Value}{xs:List Value}(h:w.ownsRow B e size v n xs):∃a c,v=.slice a n c:=by
 rcases h.2 with ⟨h1,h2⟩|⟨g,cap,cur,h1,_⟩
 . subst h2;exact⟨none,0,h1⟩
 . exact⟨_,_,h1⟩
end Go.Proofs.YtieianhejdcgdaaGreatDoor
namespace Go.Proofs.YtieianhejdcgdaaGreatDoor
open Go.RowKit
set_option linter.unusedVariables false
set_option linter.unusedSimpArgs false
theorem Hd (a:Nat)(ha:a<4611686018427387904):(BitVec.ofInt 64 (a:Int)).toNat=a:=by
 rw[BitVec.ofInt_natCast,BitVec.toNat_ofNat];exact Nat.mod_eq_of_lt (by omega)
theorem Gi (a:Nat)(ha:a<4611686018427387904):IntKind.i64.wrap (a:Int)=(a:Int):=by
 rw[IntKind.wrap_i64];omega
theorem Ri (a b:Nat)(ha:a<4611686018427387904)(hb:b<4611686018427387904):bits .and .i64 (a:Int) (b:Int)=((a&&&b:Nat):Int):=by
 have hx:a&&&b<2^62:=Nat.and_lt_two_pow _ (by omega);show IntKind.i64.wrap ((BitVec.ofInt 64 (a:Int)&&&BitVec.ofInt 64 (b:Int)).toNat:Int)=_
 rw[BitVec.toNat_and,Hd a ha,Hd b hb];exact Gi _ (by omega)
theorem Mz (a b:Nat)(ha:a<4611686018427387904)(hb:b<4611686018427387904):bits .or .i64 (a:Int) (b:Int)=((a|||b:Nat):Int):=by
 have hx:a|||b<2^62:=Nat.or_lt_two_pow (by omega) (by omega)
 show IntKind.i64.wrap ((BitVec.ofInt 64 (a:Int)|||BitVec.ofInt 64 (b:Int)).toNat:Int)=_
 rw[BitVec.toNat_or,Hd a ha,Hd b hb];exact Gi _ (by omega)
theorem Gq (n k:Nat):(n:Int)/2^k=((n/2^k:Nat):Int):=by
 push_cast;rfl
theorem U2 (n k:Nat)(hn:n<4611686018427387904):bits .and .i64 ((n:Int)/2^k) 1=((n/2^k%2:Nat):Int):=by
 rw[Gq];have h:n/2^k<=n:=Nat.div_le_self _ _;have:=Ri (n/2^k) 1 (by omega) (by omega)
 rw[Nat.and_one_is_mod]at this;exact this
theorem AF {k:Nat}(h:k<=7):2^k<=128:=VV (j:=7) (by decide) h
theorem Vg {x p q:Nat}(h:p<=q):x%2*p<=q:=by
 rcases WZ x with e|e<;>rw[e]<;>omega
theorem JB (m n k:Nat)(hm:m<65536)(hn:n<65536):
 bits .or .i64 ((m:Int)*2) (bits .and .i64 ((n:Int)/2^k) 1)=((m*2|||n/2^k%2:Nat):Int):=by
 rw[U2 n k (by omega)];have:=Mz (m*2) (n/2^k%2) (by omega) (by omega)
 rw[<-this];push_cast;rfl
theorem RR (x n k r:Nat)(hx:x<256)(hn:n<65536)(hr:r<8):
 bits .or .u8 (x:Int) (bits .and .i64 ((n:Int)/2^k) 1%256*2^r%256)=((x|||n/2^k%2*2^r:Nat):Int):=by
 rw[U2 n k (by omega)];have h2:=Vg (x:=n/2^k) (AF (k:=r) (by omega))
 have e:(((n/2^k%2:Nat):Int)%256*2^r%256)=((n/2^k%2*2^r:Nat):Int):=by
  have e1:((n/2^k%2:Nat):Int)%256=((n/2^k%2:Nat):Int):=by omega
  have e2:(((n/2^k%2:Nat):Int)*2^r)=((n/2^k%2*2^r:Nat):Int):=by push_cast;rfl
  rw[e1,e2];omega
 rw[e];exact u8_or_nat _ _ hx (by omega)
theorem Qc (n k r i:Nat):(n/2^k%2*2^r).testBit i=(decide (i=r)&&n.testBit k):=by
 rw[Nat.testBit_mul_two_pow]
 have h:∀j,(n/2^k%2).testBit j=(decide (j=0)&&n.testBit k):=by
  intro j;have:=Nat.testBit_mod_two_pow (n/2^k) 1 j
  rw[Nat.pow_one]at this;rw[this,Nat.testBit_div_two_pow]
  by_cases hj:j=0
  . subst hj;simp
  . simp[hj]
 rw[h]
 by_cases hi:i=r
 . subst hi;simp
 . by_cases hl:r<=i
   . have:i-r≠0:=by omega
     simp[hi,this]
   . simp[hi,hl]
def Hz (n:Nat):Nat->Nat
 |0=>0
 |k+1=>Hz n k*2|||n/2^k%2
theorem Qa (n:Nat):∀k i,(Hz n k).testBit i=(decide (i<k)&&n.testBit (k-1-i))
 |0,i=>by simp[Hz]
 |k+1,i=>by
  have h1:=Qc n k 0 i;rw[Nat.pow_zero,Nat.mul_one]at h1;have h2:=Nat.testBit_mul_two_pow (Hz n k) i 1;rw[Nat.pow_one]at h2;rw[Hz,Nat.testBit_or,h1,h2,Qa n k (i-1)]
  by_cases hi:i=0
  . subst hi;simp
  . have e:k+1-1-i=k-1-(i-1):=by omega
    have e2:(i-1<k)=(i<k+1):=by apply propext;omega
    have e3:1<=i:=by omega
    rw[e];simp only[e2,hi,e3,decide_true,ZK,decide_false,Bool.false_and,Bool.or_false]
theorem QU (n k:Nat):Hz n k<2^k:=by
 apply Nat.lt_pow_two_of_testBit
 intro i hi;rw[Qa];have:¬i<k:=by omega
 simp[this]
def Jy (xs:List Nat)(k:Nat):Bool:=(xs.getD (k/8) 0).testBit (k%8)
theorem BS (xs:List Nat)(i j v:Nat):(xs.set i v).getD j 0=if i=j/\i<xs.length then v else xs.getD j 0:=by
 rw[XA,ZH,XA]
 by_cases e:i=j
 . subst e
   by_cases h:i<xs.length
   . simp[h]
   . simp[h]
 . simp[e]
end Go.Proofs.YtieianhejdcgdaaGreatDoor
namespace Go.Proofs.YtieianhejdcgdaaGreatDoor
open Go.RowKit
set_option linter.unusedVariables false
def arr (c:Nat->Nat):Array Value:=((List.range 16).map fun n=>Value.int .i64 ((c n:Nat):Int)).toArray
theorem Fi (c:Nat->Nat):(arr c).size=16:=by simp[arr]
theorem PS (c:Nat->Nat){j:Nat}(h:j<16):(arr c)[j]? =some (.int .i64 ((c j:Nat):Int)):=by simp[arr,h]
theorem Z4g (c:Nat->Nat):(arr c).all (·.oneCell')=true:=by
 rw[Array.all_eq_true];intro i hi;simp[arr,Value.oneCell']
def upd (c:Nat->Nat)(j x:Nat):Nat->Nat:=fun n=>if n=j then x else c n
theorem Z4f (c:Nat->Nat)(j x:Nat):(arr c).setIfInBounds j (.int .i64 ((x:Nat):Int))=arr (upd c j x):=by
 apply Array.ext_getElem?
 intro i;rw[Array.getElem?_setIfInBounds]
 by_cases h:i<16
 . rw[PS _ h,Fi,PS _ h]
   by_cases e:j=i
   . subst e;simp[h,upd]
   . simp[e,upd,Ne.symm e]
 . rw[Fi];have h1:∀f,(arr f)[i]? =none:=fun f=>by simp[Fi];omega
   rw[h1,h1]
   by_cases e:j=i
   . subst e;simp[h]
   . simp[e]
def cnt (l:List Int)(n:Nat):Nat:=l.count (n:Int)
def takenN (c:Nat->Nat):Nat->Nat
 |0=>0
 |k+1=>takenN c k+c (k+1)*2^(14-k)
def Bb (c:Nat->Nat):Nat->Nat
 |0=>0
 |1=>0
 |n+2=>2*(Bb c (n+1)+c (n+1))
theorem Vd (l:List Int)(n:Nat):cnt l n<=l.length:=YE
theorem Zg (c:Nat->Nat){m:Nat}(h:∀n,c n<=m):∀k,takenN c k<=k*(m*32768)
 |0=>by simp[takenN]
 |k+1=>by
  have h1:=Zg c h k
  have h2:c (k+1)*2^(14-k)<=m*32768:=Nat.mul_le_mul (h _) (by
   have:=VV (n:=2) (by decide) (show 14-k<=15 by omega)
   omega)
  rw[takenN,ZB];omega
theorem Rn (c:Nat->Nat):∀k,k<=14->Bb c (k+1)*2^(14-k)=takenN c k
 |0,_=>by simp[Bb,takenN]
 |k+1,h=>by
  have ih:=Rn c k (by omega);have e:14-k=(14-(k+1))+1:=by omega
  rw[takenN,<-ih,Bb,e,XE];generalize 2^(14-(k+1))=p;rw[<-Nat.add_mul,YH p 2,<-YG,YH 2]
theorem DF (c:Nat->Nat){j k:Nat}(h:j<=k):takenN c j<=takenN c k:=by
 induction h with
 |refl=>exact VC _
 |step _ ih=>exact VX ih (Nat.le_add_right _ _)
theorem FI (c:Nat->Nat)(h:takenN c 15<=32768){n:Nat}(h1:1<=n)(h2:n<=15):Bb c n+c n<=2^n:=by
 obtain⟨k,rfl⟩:∃k,n=k+1:=⟨n-1,by omega⟩
 have e:=Rn c k (by omega);have m:=DF c (show k+1<=15 by omega);rw[takenN]at m
 have m2:(Bb c (k+1)+c (k+1))*2^(14-k)<=2^(k+1)*2^(14-k):=by
  rw[Nat.add_mul,e,<-Nat.pow_add];have:k+1+(14-k)=15:=by omega
  rw[this];omega
 exact Nat.le_of_mul_le_mul_right m2 (Nat.pow_pos (by decide))
theorem G0 (c:Nat->Nat)(m:Nat)(h1:1<=m):∀d,1<=d->(Bb c m+c m)*2^d<=Bb c (m+d)
 |0,h=>by omega
 |d+1,_=>by
  obtain⟨k,rfl⟩:∃k,m=k+1:=⟨m-1,by omega⟩
  have e:Bb c (k+1+(d+1))=2*(Bb c (k+1+d)+c (k+1+d)):=by
   have:k+1+(d+1)=(k+d)+2:=by omega
   have h3:k+1+d=(k+d)+1:=by omega
   rw[this,Bb,h3]
  rw[e,XE]
  by_cases hd:d=0
  . subst hd;simp;omega
  . have:=G0 c (k+1) h1 d (by omega)
    rw[<-YG];omega
end Go.Proofs.YtieianhejdcgdaaGreatDoor
namespace Go.Proofs.YtieianhejdcgdaaGreatDoor.Stab
open Go.RowKit
set_option linter.unusedVariables false
variable {α:Type}
def swp (d:Nat->α)(i j:Nat):Nat->α:=fun k=>if k=i then d j else if k=j then d i else d k
def swr (d:Nat->α)(a b:Nat):Nat->Nat->α
 |0=>d
 |i+1=>swp (swr d a b i) (a+i) (b+i)
def rot (d:Nat->α)(a m b:Nat):Nat->α:=fun k=>if a<=k/\k<a+(b-m)then d (k+(m-a))else if a+(b-m)<=k/\k<b then d (k-(b-m))else d k
theorem Z6 (d:Nat->α)(a b:Nat):∀n,(a+n<=b\/b+n<=a)->∀k,swr d a b n k=if a<=k/\k<a+n then d (b+(k-a))else if b<=k/\k<b+n then d (a+(k-b))else d k
 |0,_,k=>by
  rw[swr,if_neg (by omega),if_neg (by omega)]
 |n+1,h,k=>by
  have ih:=Z6 d a b n (by omega);rw[swr,swp]
  by_cases h1:k=a+n
  . rw[if_pos h1,if_pos (by omega),ih,if_neg (by omega),if_neg (by omega)]
    congr 1;omega
  . rw[if_neg h1]
    by_cases h2:k=b+n
    . rw[if_pos h2,if_neg (by omega),if_pos (by omega),ih,if_neg (by omega),if_neg (by omega)]
      congr 1;omega
    . rw[if_neg h2,ih]
      by_cases h3:a<=k/\k<a+n
      . rw[if_pos h3,if_pos (by omega)]
      . rw[if_neg h3]
        by_cases h4:b<=k/\k<b+n
        . rw[if_pos h4,if_neg (by omega),if_pos (by omega)]
        . rw[if_neg h4,if_neg (by omega),if_neg (by omega)]
theorem rot_gt (d:Nat->α)(m i j:Nat)(h:j<i)(hm:i<=m):rot (swr d (m-i) m j) (m-(i-j)) m (m+j)=rot d (m-i) m (m+j):=by
 funext k
 have hs:=Z6 d (m-i) m j (by omega);unfold rot
 by_cases h1:m-i<=k/\k<m-i+(m+j-m)
 . rw[if_pos h1,if_neg (by omega),if_neg (by omega),hs,if_pos (by omega)]
   congr 1;omega
 . rw[if_neg h1]
   by_cases h2:m-(i-j)<=k/\k<m-(i-j)+(m+j-m)
   . rw[if_pos h2,hs,if_neg (by omega),if_pos (by omega),if_pos (by omega)]
     congr 1;omega
   . rw[if_neg h2]
     by_cases h3:m-(i-j)+(m+j-m)<=k/\k<m+j
     . rw[if_pos h3,hs,if_neg (by omega),if_neg (by omega),if_pos (by omega)]
     . rw[if_neg h3,hs,if_neg (by omega),if_neg (by omega),if_neg (by omega)]
theorem rot_lt (d:Nat->α)(m i j:Nat)(h:i<j)(hm:i<=m):rot (swr d (m-i) (m+j-i) i) (m-i) m (m+(j-i))=rot d (m-i) m (m+j):=by
 funext k
 have hs:=Z6 d (m-i) (m+j-i) i (by omega);unfold rot
 by_cases h1:m-i<=k/\k<m-i+(m+(j-i)-m)
 . rw[if_pos h1,if_pos (by omega),hs,if_neg (by omega)]
   by_cases h2:m+j-i<=k+(m-(m-i))/\k+(m-(m-i))<m+j-i+i
   . omega
   . rw[if_neg h2]
 . rw[if_neg h1]
   by_cases h3:m-i+(m+(j-i)-m)<=k/\k<m+(j-i)
   . rw[if_pos h3,if_pos (by omega),hs,if_pos (by omega)]
     congr 1;omega
   . rw[if_neg h3,hs]
     by_cases h4:m+j-i<=k/\k<m+j-i+i
     . rw[if_neg (by omega),if_pos h4,if_neg (by omega),if_pos (by omega)]
       congr 1;omega
     . rw[if_neg (by omega),if_neg h4,if_neg (by omega),if_neg (by omega)]
theorem rot_eq (d:Nat->α)(m i:Nat)(hm:i<=m):swr d (m-i) m i=rot d (m-i) m (m+i):=by
 funext k
 rw[Z6 d (m-i) m i (by omega),rot]
 by_cases h1:m-i<=k/\k<m-i+i
 . rw[if_pos h1,if_pos (by omega)];congr 1;omega
 . rw[if_neg h1]
   by_cases h2:m<=k/\k<m+i
   . rw[if_pos h2,if_neg (by omega),if_pos (by omega)];congr 1;omega
   . rw[if_neg h2,if_neg (by omega),if_neg (by omega)]
def seg (d:Nat->α)(a b:Nat):List α:=(List.range (b-a)).map fun i=>d (a+i)
structure Moved (a b:Nat)(d d':Nat->α):Prop where
 out:∀k,¬(a<=k/\k<b)->d' k=d k
 perm:(seg d' a b).Perm (seg d a b)
theorem Moved.refl (a b:Nat)(d:Nat->α):Moved a b d d:=⟨fun _ _=>rfl,List.Perm.refl _⟩
theorem Moved.trans {a b:Nat}{d d' d'':Nat->α}(h:Moved a b d d')(k:Moved a b d' d''):Moved a b d d'':=
 ⟨fun i hi=>(k.out i hi).trans (h.out i hi),k.perm.trans h.perm⟩
theorem Ij (d:Nat->α)(a m b:Nat)(h1:a<=m)(h2:m<=b):seg d a b=seg d a m++seg d m b:=by
 apply XF
 . simp[seg];omega
 . intro i h3 h4;rw[List.getElem_append];simp only[seg,List.getElem_map,List.getElem_range,WN,List.length_range]
   split
   . rfl
   . congr 1;omega
theorem Zr {d d':Nat->α}{a b:Nat}(h:∀k,a<=k->k<b->d' k=d k):seg d' a b=seg d a b:=by
 apply XF (by simp[seg])
 intro i h1 h2;have:i<b-a:=by simpa[seg]using h1
 simp only[seg,List.getElem_map,List.getElem_range];exact h _ (by omega) (by omega)
theorem LR {d:Nat->α}{a b:Nat}{x:α}:x∈seg d a b↔∃k,a<=k/\k<b/\d k=x:=by
 simp only[seg,WY,List.mem_range]
 constructor
 . rintro ⟨i,hi,rfl⟩;exact⟨a+i,by omega,by omega,rfl⟩
 . rintro ⟨k,h1,h2,rfl⟩;exact⟨k-a,by omega,by congr 1;omega⟩
theorem Moved.mem {a b:Nat}{d d':Nat->α}(h:Moved a b d d'){k:Nat}(h1:a<=k)(h2:k<b):∃j,a<=j/\j<b/\d j=d' k:=by
 have:d' k∈seg d' a b:=LR.2 ⟨k,h1,h2,rfl⟩
 exact LR.1 (h.perm.mem_iff.1 this)
theorem Moved.wider {a b a' b':Nat}{d d':Nat->α}(h:Moved a b d d')(h1:a'<=a)(h2:a<=b)(h3:b<=b'):Moved a' b' d d':=by
 refine⟨fun k hk=>h.out k (by omega), ?_⟩;rw[Ij d' a' a b' h1 (by omega),Ij d a' a b' h1 (by omega),Ij d' a b b' h2 h3,Ij d a b b' h2 h3];rw[Zr (d:=d) (d':=d') (a:=a') (b:=a) (fun k _ hk=>h.out k (by omega)),Zr (d:=d) (d':=d') (a:=b) (b:=b') (fun k hk _=>h.out k (by omega))];exact(h.perm.append_right _).append_left _
theorem Z29 (d:Nat->α)(a m b:Nat)(h1:a<=m)(h2:m<=b):seg (rot d a m b) a b=seg d m b++seg d a m:=by
 apply XF
 . simp[seg];omega
 . intro i h3 h4;have hi:i<b-a:=by simpa[seg]using h3
   rw[List.getElem_append];simp only[seg,List.getElem_map,List.getElem_range,WN,List.length_range,rot]
   by_cases h:i<b-m
   . rw[dif_pos h,if_pos (by omega)];congr 1;omega
   . rw[dif_neg h,if_neg (by omega),if_pos (by omega)];congr 1;omega
theorem moved_rot (d:Nat->α)(a m b:Nat)(h1:a<=m)(h2:m<=b):Moved a b d (rot d a m b):=by
 refine⟨fun k hk=> ?_, ?_⟩
 . rw[rot,if_neg (by omega),if_neg (by omega)]
 . rw[Z29 d a m b h1 h2,Ij d a m b h1 h2];exact List.perm_append_comm
variable (lt:α->α->Prop)
def Srt (d:Nat->α)(a b:Nat):Prop:=∀i j,a<=i->i<j->j<b->lt (d i) (d j)
theorem Srt.sub {lt:α->α->Prop}{d:Nat->α}{a b a' b':Nat}(h:Srt lt d a b)(h1:a<=a')(h2:b'<=b):Srt lt d a' b':=fun i j hi hij hj=>h i j (by omega) hij (by omega)
theorem Srt.congr {lt:α->α->Prop}{d d':Nat->α}{a b:Nat}(h:Srt lt d a b)(he:∀k,a<=k->k<b->d' k=d k):Srt lt d' a b:=fun i j hi hij hj=>by
 rw[he i hi (by omega),he j (by omega) hj];exact h i j hi hij hj
theorem Srt.join {lt:α->α->Prop}{d:Nat->α}{a m b:Nat}(h1:Srt lt d a m)(h2:Srt lt d m b)(h:∀i j,a<=i->i<m->m<=j->j<b->lt (d i) (d j)):Srt lt d a b:=by
 intro i j hi hij hj
 by_cases c1:j<m
 . exact h1 i j hi hij c1
 . by_cases c2:i<m
   . exact h i j hi c2 (by omega) hj
   . exact h2 i j (by omega) hij hj
theorem merge_step {lt:α->α->Prop}(tr:∀x y z,lt x y->lt y z->lt x z){d d1 d2:Nat->α}{a start m stop b mid:Nat}(h1:a<=start)(h2:start<=m)(h3:m<=stop)(h4:stop<=b)(hmid:mid+m=start+stop)
 (sL:Srt lt d a m) (sR:Srt lt d m b) (cL:a<start->stop<b->lt (d (start-1)) (d stop)) (cR:start<m->m<stop->lt (d (stop-1)) (d start))
 (m1:Moved a mid (rot d start m stop) d1) (s1:Srt lt d1 a mid) (m2:Moved mid b d1 d2) (s2:Srt lt d2 mid b):Srt lt d2 a b/\Moved a b d d2:=by
 have hmm:start<=mid/\mid<=stop:=by omega
 constructor
 . refine Srt.join (m:=mid) (s1.congr fun k _ hk=>m2.out k (by omega)) s2 ?_;intro i j hi him hjm hj;rw[m2.out i (by omega)];obtain⟨p,hp1,hp2,hp⟩:=m1.mem hi him;obtain⟨q,hq1,hq2,hq⟩:=m2.mem hjm hj;rw[<-hp,<-hq,m1.out q (by omega)]
   have eP:rot d start m stop p=if p<start then d p else d (p+(m-start)):=by
    unfold rot
    by_cases c:p<start
    . rw[if_neg (by omega),if_neg (by omega),if_pos c]
    . rw[if_pos (by omega),if_neg c]
   have eQ:rot d start m stop q=if q<stop then d (q-(stop-m))else d q:=by
    unfold rot
    by_cases c:q<stop
    . rw[if_neg (by omega),if_pos (by omega),if_pos c]
    . rw[if_neg (by omega),if_neg (by omega),if_neg c]
   rw[eP,eQ]
   by_cases c1:p<start
   . rw[if_pos c1]
     by_cases c2:q<stop
     . rw[if_pos c2];exact sL _ _ hp1 (by omega) (by omega)
     . rw[if_neg c2];have e1:lt (d (start-1)) (d stop):=cL (by omega) (by omega)
       have e2:d p=d (start-1)\/lt (d p) (d (start-1)):=by
        by_cases c:p=start-1
        . left;rw[c]
        . right;exact sL _ _ hp1 (by omega) (by omega)
       have e3:d stop=d q\/lt (d stop) (d q):=by
        by_cases c:stop=q
        . left;rw[c]
        . right;exact sR _ _ (by omega) (by omega) (by omega)
       rcases e2 with e2|e2<;>rcases e3 with e3|e3
       . rw[e2,<-e3];exact e1
       . rw[e2];exact tr _ _ _ e1 e3
       . rw[<-e3];exact tr _ _ _ e2 e1
       . exact tr _ _ _ e2 (tr _ _ _ e1 e3)
   . rw[if_neg c1]
     by_cases c2:q<stop
     . rw[if_pos c2];have e1:lt (d (stop-1)) (d start):=cR (by omega) (by omega)
       have e2:d (p+(m-start))=d (stop-1)\/lt (d (p+(m-start))) (d (stop-1)):=by
        by_cases c:p+(m-start)=stop-1
        . left;rw[c]
        . right;exact sR _ _ (by omega) (by omega) (by omega)
       have e3:d start=d (q-(stop-m))\/lt (d start) (d (q-(stop-m))):=by
        by_cases c:start=q-(stop-m)
        . left;rw[<-c]
        . right;exact sL _ _ h1 (by omega) (by omega)
       rcases e2 with e2|e2<;>rcases e3 with e3|e3
       . rw[e2,<-e3];exact e1
       . rw[e2];exact tr _ _ _ e1 e3
       . rw[<-e3];exact tr _ _ _ e2 e1
       . exact tr _ _ _ e2 (tr _ _ _ e1 e3)
     . rw[if_neg c2];exact sR _ _ (by omega) (by omega) (by omega)
 . exact(((moved_rot d start m stop h2 h3).wider h1 (by omega) h4).trans (m1.wider (VC _) (by omega) (by omega))).trans (m2.wider (by omega) (by omega) (VC _))
end Go.Proofs.YtieianhejdcgdaaGreatDoor.Stab
namespace Go.Proofs.YtieianhejdcgdaaGreatDoor.Stab
open Go.RowKit
set_option linter.unusedVariables false
def lx (x y:Int×Int):Prop:=x.1<y.1\/ (x.1=y.1/\x.2<y.2)
theorem lx_trans (x y z:Int×Int)(h:lx x y)(k:lx y z):lx x z:=by unfold lx at*;omega
def Cross (d:Nat->Int×Int)(a m b:Nat):Prop:=∀i j,a<=i->i<m->m<=j->j<b->(d i).2<(d j).2
theorem cross_less {x y:Int×Int}(h:x.2<y.2):(decide (y.1<x.1)=true->lx y x)/\(decide (y.1<x.1)=false->lx x y):=by
 unfold lx
 constructor
 . intro e;have:=of_decide_eq_true e;omega
 . intro e;have:=of_decide_eq_false e;omega
theorem rot_left (d:Nat->Int×Int)(m b:Nat):rot d m m b=d:=by
 funext k;unfold rot
 by_cases h:m<=k/\k<m+(b-m)
 . rw[if_pos h];congr 1;omega
 . rw[if_neg h,if_neg (by omega)]
theorem rot_right (d:Nat->Int×Int)(a m:Nat):rot d a m m=d:=by
 funext k;unfold rot
 rw[if_neg (by omega)]
 by_cases h:a+(m-m)<=k/\k<m
 . rw[if_pos h];congr 1;omega
 . rw[if_neg h]
theorem merge_parts {d:Nat->Int×Int}{a start m stop b mid:Nat}(h1:a<=start)(h2:start<=m)(h3:m<=stop)(h4:stop<=b)(hmid:mid+m=start+stop)(sL:Srt lx d a m)(sR:Srt lx d m b)(hc:Cross d a m b):
 (Srt lx (rot d start m stop) a start/\Srt lx (rot d start m stop) start mid/\Cross (rot d start m stop) a start mid)/\(Srt lx (rot d start m stop) mid stop/\Srt lx (rot d start m stop) stop b/\Cross (rot d start m stop) mid stop b):=by
 have e1:∀k,k<start->rot d start m stop k=d k:=fun k hk=>by unfold rot;rw[if_neg (by omega),if_neg (by omega)]
 have e2:∀k,start<=k->k<mid->rot d start m stop k=d (k+(m-start)):=fun k hk hk2=>by unfold rot;rw[if_pos (by omega)]
 have e3:∀k,mid<=k->k<stop->rot d start m stop k=d (k-(stop-m)):=fun k hk hk2=>by unfold rot;rw[if_neg (by omega),if_pos (by omega)]
 have e4:∀k,stop<=k->rot d start m stop k=d k:=fun k hk=>by unfold rot;rw[if_neg (by omega),if_neg (by omega)]
 refine⟨⟨?_, ?_, ?_⟩, ?_, ?_, ?_⟩
 . intro i j hi hij hj;rw[e1 i (by omega),e1 j hj];exact sL i j hi hij (by omega)
 . intro i j hi hij hj;rw[e2 i hi (by omega),e2 j (by omega) hj];exact sR _ _ (by omega) (by omega) (by omega)
 . intro i j hi hi2 hj hj2;rw[e1 i hi2,e2 j hj hj2];exact hc _ _ hi (by omega) (by omega) (by omega)
 . intro i j hi hij hj;rw[e3 i hi (by omega),e3 j (by omega) hj];exact sL _ _ (by omega) (by omega) (by omega)
 . intro i j hi hij hj;rw[e4 i hi,e4 j (by omega)];exact sR i j (by omega) hij hj
 . intro i j hi hi2 hj hj2;rw[e3 i hi hi2,e4 j hj];exact hc _ _ (by omega) (by omega) (by omega) hj2
theorem Cross.congr {d d':Nat->Int×Int}{a m b:Nat}(h:Cross d a m b)(he:∀k,a<=k->k<b->d' k=d k):Cross d' a m b:=fun i j hi hi2 hj hj2=>by
 rw[he i hi (by omega),he j (by omega) hj2];exact h i j hi hi2 hj hj2
theorem ins_first {d:Nat->Int×Int}{a i b:Nat}(h1:a<i)(h2:i<=b)(sR:Srt lx d (a+1) b)(hlo:a+1<i->lx (d (i-1)) (d a))(hhi:i<b->lx (d a) (d i)):Srt lx (rot d a (a+1) i) a b:=by
 have e1:∀k,a<=k->k<i-1->rot d a (a+1) i k=d (k+1):=fun k hk hk2=>by unfold rot;rw[if_pos (by omega)];congr 1;omega
 have e2:rot d a (a+1) i (i-1)=d a:=by unfold rot;rw[if_neg (by omega),if_pos (by omega)];congr 1;omega
 have e3:∀k,i<=k->rot d a (a+1) i k=d k:=fun k hk=>by unfold rot;rw[if_neg (by omega),if_neg (by omega)]
 have below:∀k,a+1<=k->k<i->lx (d k) (d a):=by
  intro k hk hk2
  by_cases c:k=i-1
  . rw[c];exact hlo (by omega)
  . exact lx_trans _ _ _ (sR k (i-1) hk (by omega) (by omega)) (hlo (by omega))
 have above:∀k,i<=k->k<b->lx (d a) (d k):=by
  intro k hk hk2
  by_cases c:k=i
  . rw[c];exact hhi (by omega)
  . exact lx_trans _ _ _ (hhi (by omega)) (sR i k (by omega) (by omega) hk2)
 intro p q hp hpq hq
 by_cases c1:p<i-1
 . rw[e1 p hp c1]
   by_cases c2:q<i-1
   . rw[e1 q (by omega) c2];exact sR _ _ (by omega) (by omega) (by omega)
   . by_cases c3:q=i-1
     . rw[c3,e2];exact below _ (by omega) (by omega)
     . rw[e3 q (by omega)];exact sR _ _ (by omega) (by omega) hq
 . by_cases c2:p=i-1
   . rw[c2,e2,e3 q (by omega)];exact above q (by omega) hq
   . rw[e3 p (by omega),e3 q (by omega)];exact sR _ _ (by omega) hpq hq
theorem ins_last {d:Nat->Int×Int}{a i m:Nat}(h1:a<=i)(h2:i<=m)(sL:Srt lx d a m)(hlo:a<i->lx (d (i-1)) (d m))(hhi:i<m->lx (d m) (d i)):Srt lx (rot d i m (m+1)) a (m+1):=by
 have e1:∀k,k<i->rot d i m (m+1) k=d k:=fun k hk=>by unfold rot;rw[if_neg (by omega),if_neg (by omega)]
 have e2:rot d i m (m+1) i=d m:=by unfold rot;rw[if_pos (by omega)];congr 1;omega
 have e3:∀k,i<k->k<=m->rot d i m (m+1) k=d (k-1):=fun k hk hk2=>by unfold rot;rw[if_neg (by omega),if_pos (by omega)];congr 1;omega
 have below:∀k,a<=k->k<i->lx (d k) (d m):=by
  intro k hk hk2
  by_cases c:k=i-1
  . rw[c];exact hlo (by omega)
  . exact lx_trans _ _ _ (sL k (i-1) hk (by omega) (by omega)) (hlo (by omega))
 have above:∀k,i<=k->k<m->lx (d m) (d k):=by
  intro k hk hk2
  by_cases c:k=i
  . rw[c];exact hhi (by omega)
  . exact lx_trans _ _ _ (hhi (by omega)) (sL i k h1 (by omega) hk2)
 intro p q hp hpq hq
 by_cases c1:p<i
 . rw[e1 p c1]
   by_cases c2:q<i
   . rw[e1 q c2];exact sL _ _ hp hpq (by omega)
   . by_cases c3:q=i
     . rw[c3,e2];exact below p hp c1
     . rw[e3 q (by omega) (by omega)];exact sL _ _ hp (by omega) (by omega)
 . by_cases c2:p=i
   . rw[c2,e2,e3 q (by omega) (by omega)];exact above _ (by omega) (by omega)
   . rw[e3 p (by omega) (by omega),e3 q (by omega) (by omega)];exact sL _ _ (by omega) (by omega) (by omega)
theorem rot_up (d:Nat->Int×Int)(a k:Nat)(h:a<=k):swp (rot d a (a+1) (k+1)) k (k+1)=rot d a (a+1) (k+1+1):=by
 funext q;unfold swp rot
 by_cases c1:q=k
 . rw[if_pos c1,if_neg (by omega),if_neg (by omega),if_pos (by omega)];congr 1;omega
 . rw[if_neg c1]
   by_cases c2:q=k+1
   . rw[if_pos c2,if_neg (by omega),if_pos (by omega),if_neg (by omega),if_pos (by omega)];congr 1;omega
   . rw[if_neg c2]
     by_cases c3:a<=q/\q<k
     . rw[if_pos (by omega),if_pos (by omega)]
     . rw[if_neg (by omega),if_neg (by omega),if_neg (by omega),if_neg (by omega)]
theorem rot_down (d:Nat->Int×Int)(k m:Nat)(h0:0<k)(h:k<=m):swp (rot d k m (m+1)) k (k-1)=rot d (k-1) m (m+1):=by
 funext q;unfold swp rot
 by_cases c1:q=k
 . rw[if_pos c1,if_neg (by omega),if_neg (by omega),if_neg (by omega),if_pos (by omega)];congr 1;omega
 . rw[if_neg c1]
   by_cases c2:q=k-1
   . rw[if_pos c2,if_pos (by omega),if_pos (by omega)];congr 1;omega
   . rw[if_neg c2]
     by_cases c3:k<q/\q<=m
     . rw[if_neg (by omega),if_pos (by omega),if_neg (by omega),if_pos (by omega)]
     . rw[if_neg (by omega),if_neg (by omega),if_neg (by omega),if_neg (by omega)]
end Go.Proofs.YtieianhejdcgdaaGreatDoor.Stab
