import Derived.Test.YtleocpdblhbimaaGreatDoorQ0
set_option linter.unusedSimpArgs false
set_option linter.unusedVariables false
namespace Go.Proofs.YtleocpdblhbimaaGreatDoor.Stab
open Go.RowKit
variable {α:Type}
def swp (d:Nat->α)(i j:Nat):Nat->α:=fun k=>if k=i then d j else if k=j then d i else d k
def swr (d:Nat->α)(a b:Nat):Nat->Nat->α
 |0=>d
 |i+1=>swp (swr d a b i) (a+i) (b+i)
def rot (d:Nat->α)(a m b:Nat):Nat->α:=fun k=>if a<=k/\k<a+(b-m)then d (k+(m-a))else if a+(b-m)<=k/\k<b then d (k-(b-m))else d k
theorem BJ (d:Nat->α)(a b:Nat):∀n,(a+n<=b\/b+n<=a)->∀k,swr d a b n k=if a<=k/\k<a+n then d (b+(k-a))else if b<=k/\k<b+n then d (a+(k-b))else d k
 |0,_,k=>by
  rw[swr,if_neg (by omega),if_neg (by omega)]
 |n+1,h,k=>by
  have ih:=BJ d a b n (by omega);rw[swr,swp]
  by_cases E:k=a+n
  . rw[if_pos E,if_pos (by omega),ih,if_neg (by omega),if_neg (by omega)]
    congr 1;omega
  . rw[if_neg E]
    by_cases G:k=b+n
    . rw[if_pos G,if_neg (by omega),if_pos (by omega),ih,if_neg (by omega),if_neg (by omega)]
      congr 1;omega
    . rw[if_neg G,ih]
      by_cases H:a<=k/\k<a+n
      . rw[if_pos H,if_pos (by omega)]
      . rw[if_neg H]
        by_cases F:b<=k/\k<b+n
        . rw[if_pos F,if_neg (by omega),if_pos (by omega)]
        . rw[if_neg F,if_neg (by omega),if_neg (by omega)]
theorem rot_gt (d:Nat->α)(m i j:Nat)(I:j<i)(M:i<=m):rot (swr d (m-i) m j) (m-(i-j)) m (m+j)=rot d (m-i) m (m+j):=by
 funext k
 have E:=BJ d (m-i) m j (by omega);unfold rot
 by_cases G:m-i<=k/\k<m-i+(m+j-m)
 . rw[if_pos G,if_neg (by omega),if_neg (by omega),E,if_pos (by omega)]
   congr 1;omega
 . rw[if_neg G]
   by_cases F:m-(i-j)<=k/\k<m-(i-j)+(m+j-m)
   . rw[if_pos F,E,if_neg (by omega),if_pos (by omega),if_pos (by omega)]
     congr 1;omega
   . rw[if_neg F]
     by_cases H:m-(i-j)+(m+j-m)<=k/\k<m+j
     . rw[if_pos H,E,if_neg (by omega),if_neg (by omega),if_pos (by omega)]
     . rw[if_neg H,E,if_neg (by omega),if_neg (by omega),if_neg (by omega)]
theorem rot_lt (d:Nat->α)(m i j:Nat)(M:i<j)(O:i<=m):rot (swr d (m-i) (m+j-i) i) (m-i) m (m+(j-i))=rot d (m-i) m (m+j):=by
 funext k
 have E:=BJ d (m-i) (m+j-i) i (by omega);unfold rot
 by_cases F:m-i<=k/\k<m-i+(m+(j-i)-m)
 . rw[if_pos F,if_pos (by omega),E,if_neg (by omega)]
   by_cases I:m+j-i<=k+(m-(m-i))/\k+(m-(m-i))<m+j-i+i
   . omega
   . rw[if_neg I]
 . rw[if_neg F]
   by_cases H:m-i+(m+(j-i)-m)<=k/\k<m+(j-i)
   . rw[if_pos H,if_pos (by omega),E,if_pos (by omega)]
     congr 1;omega
   . rw[if_neg H,E]
     by_cases G:m+j-i<=k/\k<m+j-i+i
     . rw[if_neg (by omega),if_pos G,if_neg (by omega),if_pos (by omega)]
       congr 1;omega
     . rw[if_neg (by omega),if_neg G,if_neg (by omega),if_neg (by omega)]
theorem rot_eq (d:Nat->α)(m i:Nat)(G:i<=m):swr d (m-i) m i=rot d (m-i) m (m+i):=by
 funext k
 rw[BJ d (m-i) m i (by omega),rot]
 by_cases E:m-i<=k/\k<m-i+i
 . rw[if_pos E,if_pos (by omega)];congr 1;omega
 . rw[if_neg E]
   by_cases F:m<=k/\k<m+i
   . rw[if_pos F,if_neg (by omega),if_pos (by omega)];congr 1;omega
   . rw[if_neg F,if_neg (by omega),if_neg (by omega)]
def seg (d:Nat->α)(a b:Nat):List α:=(List.range (b-a)).map fun i=>d (a+i)
structure Moved (a b:Nat)(d d':Nat->α):Prop where
 out:∀k,¬(a<=k/\k<b)->d' k=d k
 perm:(seg d' a b).Perm (seg d a b)
theorem Moved.refl (a b:Nat)(d:Nat->α):Moved a b d d:=⟨fun _ _=>rfl,List.Perm.refl _⟩
theorem Moved.trans {a b:Nat}{d d' E:Nat->α}(F:Moved a b d d')(k:Moved a b d' E):Moved a b d E:=
 ⟨fun i hi=>(k.out i hi).trans (F.out i hi),k.perm.trans F.perm⟩
theorem seg_split (d:Nat->α)(a m b:Nat)(E:a<=m)(G:m<=b):seg d a b=seg d a m++seg d m b:=by
 apply XK
 . simp[seg];omega
 . intro i H F;rw[List.getElem_append];simp only[seg,List.getElem_map,List.getElem_range,WL,List.length_range]
   split
   . rfl
   . congr 1;omega
theorem B8 {d d':Nat->α}{a b:Nat}(F:∀k,a<=k->k<b->d' k=d k):seg d' a b=seg d a b:=by
 apply XK (by simp[seg])
 intro i E G;have:i<b-a:=by simpa[seg]using E
 simp only[seg,List.getElem_map,List.getElem_range];exact F _ (by omega) (by omega)
theorem mem_seg {d:Nat->α}{a b:Nat}{x:α}:x∈seg d a b↔∃k,a<=k/\k<b/\d k=x:=by
 simp only[seg,XG,List.mem_range]
 constructor
 . rintro ⟨i,hi,rfl⟩;exact⟨a+i,by omega,by omega,rfl⟩
 . rintro ⟨k,E,F,rfl⟩;exact⟨k-a,by omega,by congr 1;omega⟩
theorem Moved.mem {a b:Nat}{d d':Nat->α}(F:Moved a b d d'){k:Nat}(E:a<=k)(G:k<b):∃j,a<=j/\j<b/\d j=d' k:=by
 have:d' k∈seg d' a b:=mem_seg.2 ⟨k,E,G,rfl⟩
 exact mem_seg.1 (F.perm.mem_iff.1 this)
theorem Moved.wider {a b F E:Nat}{d d':Nat->α}(G:Moved a b d d')(M:F<=a)(H:a<=b)(O:b<=E):Moved F E d d':=by
 refine⟨fun k I=>G.out k (by omega), ?_⟩;rw[seg_split d' F a E M (by omega),seg_split d F a E M (by omega),seg_split d' a b E H O,seg_split d a b E H O];rw[B8 (d:=d) (d':=d') (a:=F) (b:=a) (fun k _ I=>G.out k (by omega)),B8 (d:=d) (d':=d') (a:=b) (b:=E) (fun k I _=>G.out k (by omega))];exact(G.perm.append_right _).append_left _
theorem Z3t (d:Nat->α)(a m b:Nat)(F:a<=m)(H:m<=b):seg (rot d a m b) a b=seg d m b++seg d a m:=by
 apply XK
 . simp[seg];omega
 . intro i E G;have hi:i<b-a:=by simpa[seg]using E
   rw[List.getElem_append];simp only[seg,List.getElem_map,List.getElem_range,WL,List.length_range,rot]
   by_cases h:i<b-m
   . rw[dif_pos h,if_pos (by omega)];congr 1;omega
   . rw[dif_neg h,if_neg (by omega),if_pos (by omega)];congr 1;omega
theorem moved_rot (d:Nat->α)(a m b:Nat)(E:a<=m)(F:m<=b):Moved a b d (rot d a m b):=by
 refine⟨fun k G=> ?_, ?_⟩
 . rw[rot,if_neg (by omega),if_neg (by omega)]
 . rw[Z3t d a m b E F,seg_split d a m b E F];exact List.perm_append_comm
variable (lt:α->α->Prop)
def Srt (d:Nat->α)(a b:Nat):Prop:=∀i j,a<=i->i<j->j<b->lt (d i) (d j)
theorem Srt.sub {E:α->α->Prop}{d:Nat->α}{a b F G:Nat}(H:Srt E d a b)(O:a<=F)(M:G<=b):Srt E d F G:=fun i j hi I T=>H i j (by omega) I (by omega)
theorem Srt.congr {E:α->α->Prop}{d d':Nat->α}{a b:Nat}(H:Srt E d a b)(G:∀k,a<=k->k<b->d' k=d k):Srt E d' a b:=fun i j hi I F=>by
 rw[G i hi (by omega),G j (by omega) F];exact H i j hi I F
theorem Srt.join {E:α->α->Prop}{d:Nat->α}{a m b:Nat}(M:Srt E d a m)(H:Srt E d m b)(I:∀i j,a<=i->i<m->m<=j->j<b->E (d i) (d j)):Srt E d a b:=by
 intro i j hi G F
 by_cases c1:j<m
 . exact M i j hi G c1
 . by_cases c2:i<m
   . exact I i j hi c2 (by omega) F
   . exact H i j (by omega) G F
theorem merge_step {G:α->α->Prop}(M:∀x y z,G x y->G y z->G x z){d U T:Nat->α}{a F m E b I:Nat}(ac:a<=F)(ar:F<=m)(ax:m<=E)(av:E<=b)(az:I+m=F+E)
 (aa:Srt G d a m) (Y:Srt G d m b) (ap:a<F->E<b->G (d (F-1)) (d E)) (au:F<m->m<E->G (d (E-1)) (d F))
 (Z:Moved a I (rot d F m E) U) (aw:Srt G U a I) (O:Moved I b U T) (aj:Srt G T I b):Srt G T a b/\Moved a b d T:=by
 have ay:F<=I/\I<=E:=by omega
 constructor
 . refine Srt.join (m:=I) (aw.congr fun k _ a3=>O.out k (by omega)) aj ?_;intro i j hi ao ai ag;rw[O.out i (by omega)];obtain⟨p,ae,a1,af⟩:=Z.mem hi ao;obtain⟨q,a2,a4,ak⟩:=O.mem ai ag;rw[<-af,<-ak,Z.out q (by omega)]
   have ah:rot d F m E p=if p<F then d p else d (p+(m-F)):=by
    unfold rot
    by_cases c:p<F
    . rw[if_neg (by omega),if_neg (by omega),if_pos c]
    . rw[if_pos (by omega),if_neg c]
   have al:rot d F m E q=if q<E then d (q-(E-m))else d q:=by
    unfold rot
    by_cases c:q<E
    . rw[if_neg (by omega),if_pos (by omega),if_pos c]
    . rw[if_neg (by omega),if_neg (by omega),if_neg c]
   rw[ah,al]
   by_cases c1:p<F
   . rw[if_pos c1]
     by_cases c2:q<E
     . rw[if_pos c2];exact aa _ _ ae (by omega) (by omega)
     . rw[if_neg c2];have H:G (d (F-1)) (d E):=ap (by omega) (by omega)
       have e2:d p=d (F-1)\/G (d p) (d (F-1)):=by
        by_cases c:p=F-1
        . left;rw[c]
        . right;exact aa _ _ ae (by omega) (by omega)
       have e3:d E=d q\/G (d E) (d q):=by
        by_cases c:E=q
        . left;rw[c]
        . right;exact Y _ _ (by omega) (by omega) (by omega)
       rcases e2 with e2|e2<;>rcases e3 with e3|e3
       . rw[e2,<-e3];exact H
       . rw[e2];exact M _ _ _ H e3
       . rw[<-e3];exact M _ _ _ e2 H
       . exact M _ _ _ e2 (M _ _ _ H e3)
   . rw[if_neg c1]
     by_cases c2:q<E
     . rw[if_pos c2];have H:G (d (E-1)) (d F):=au (by omega) (by omega)
       have e2:d (p+(m-F))=d (E-1)\/G (d (p+(m-F))) (d (E-1)):=by
        by_cases c:p+(m-F)=E-1
        . left;rw[c]
        . right;exact Y _ _ (by omega) (by omega) (by omega)
       have e3:d F=d (q-(E-m))\/G (d F) (d (q-(E-m))):=by
        by_cases c:F=q-(E-m)
        . left;rw[<-c]
        . right;exact aa _ _ ac (by omega) (by omega)
       rcases e2 with e2|e2<;>rcases e3 with e3|e3
       . rw[e2,<-e3];exact H
       . rw[e2];exact M _ _ _ H e3
       . rw[<-e3];exact M _ _ _ e2 H
       . exact M _ _ _ e2 (M _ _ _ H e3)
     . rw[if_neg c2];exact Y _ _ (by omega) (by omega) (by omega)
 . exact(((moved_rot d F m E ar ax).wider ac (by omega) av).trans (Z.wider (VB _) (by omega) (by omega))).trans (O.wider (by omega) (by omega) (VB _))
end Go.Proofs.YtleocpdblhbimaaGreatDoor.Stab
namespace Go.Proofs.YtleocpdblhbimaaGreatDoor.Stab
open Go.RowKit
def lx (x y:Int×Int):Prop:=x.1<y.1\/ (x.1=y.1/\x.2<y.2)
theorem lx_trans (x y E:Int×Int)(F:lx x y)(k:lx y E):lx x E:=by unfold lx at*;omega
def Cross (d:Nat->Int×Int)(a m b:Nat):Prop:=∀i j,a<=i->i<m->m<=j->j<b->(d i).2<(d j).2
theorem cross_less {x y:Int×Int}(E:x.2<y.2):(decide (y.1<x.1)=true->lx y x)/\(decide (y.1<x.1)=false->lx x y):=by
 unfold lx
 constructor
 . intro e;have:=of_decide_eq_true e;omega
 . intro e;have:=of_decide_eq_false e;omega
theorem rot_left (d:Nat->Int×Int)(m b:Nat):rot d m m b=d:=by
 funext k;unfold rot
 by_cases h:m<=k/\k<m+(b-m)
 . rw[if_pos h];congr 1;omega
 . rw[if_neg h,if_neg (by omega)]
theorem rot_right (d:Nat->Int×Int)(a m:Nat):rot d a m m=d:=by
 funext k;unfold rot
 rw[if_neg (by omega)]
 by_cases h:a+(m-m)<=k/\k<m
 . rw[if_pos h];congr 1;omega
 . rw[if_neg h]
theorem merge_parts {d:Nat->Int×Int}{a E m F b H:Nat}(ai:a<=E)(ag:E<=m)(aj:m<=F)(ah:F<=b)(af:H+m=E+F)(aa:Srt lx d a m)(Z:Srt lx d m b)(ac:Cross d a m b):
 (Srt lx (rot d E m F) a E/\Srt lx (rot d E m F) E H/\Cross (rot d E m F) a E H)/\(Srt lx (rot d E m F) H F/\Srt lx (rot d E m F) F b/\Cross (rot d E m F) H F b):=by
 have M:∀k,k<E->rot d E m F k=d k:=fun k U=>by unfold rot;rw[if_neg (by omega),if_neg (by omega)]
 have e2:∀k,E<=k->k<H->rot d E m F k=d (k+(m-E)):=fun k U ae=>by unfold rot;rw[if_pos (by omega)]
 have e3:∀k,H<=k->k<F->rot d E m F k=d (k-(F-m)):=fun k U ae=>by unfold rot;rw[if_neg (by omega),if_pos (by omega)]
 have Y:∀k,F<=k->rot d E m F k=d k:=fun k U=>by unfold rot;rw[if_neg (by omega),if_neg (by omega)]
 refine⟨⟨?_, ?_, ?_⟩, ?_, ?_, ?_⟩
 . intro i j hi I G;rw[M i (by omega),M j G];exact aa i j hi I (by omega)
 . intro i j hi I G;rw[e2 i hi (by omega),e2 j (by omega) G];exact Z _ _ (by omega) (by omega) (by omega)
 . intro i j hi O G T;rw[M i O,e2 j G T];exact ac _ _ hi (by omega) (by omega) (by omega)
 . intro i j hi I G;rw[e3 i hi (by omega),e3 j (by omega) G];exact aa _ _ (by omega) (by omega) (by omega)
 . intro i j hi I G;rw[Y i hi,Y j (by omega)];exact Z i j (by omega) I G
 . intro i j hi O G T;rw[e3 i hi O,Y j G];exact ac _ _ (by omega) (by omega) (by omega) T
theorem Cross.congr {d d':Nat->Int×Int}{a m b:Nat}(H:Cross d a m b)(F:∀k,a<=k->k<b->d' k=d k):Cross d' a m b:=fun i j hi G I E=>by
 rw[F i hi (by omega),F j (by omega) E];exact H i j hi G I E
theorem ins_first {d:Nat->Int×Int}{a i b:Nat}(ac:a<i)(aa:i<=b)(E:Srt lx d (a+1) b)(M:a+1<i->lx (d (i-1)) (d a))(I:i<b->lx (d a) (d i)):Srt lx (rot d a (a+1) i) a b:=by
 have O:∀k,a<=k->k<i-1->rot d a (a+1) i k=d (k+1):=fun k F G=>by unfold rot;rw[if_pos (by omega)];congr 1;omega
 have e2:rot d a (a+1) i (i-1)=d a:=by unfold rot;rw[if_neg (by omega),if_pos (by omega)];congr 1;omega
 have e3:∀k,i<=k->rot d a (a+1) i k=d k:=fun k F=>by unfold rot;rw[if_neg (by omega),if_neg (by omega)]
 have below:∀k,a+1<=k->k<i->lx (d k) (d a):=by
  intro k F G
  by_cases c:k=i-1
  . rw[c];exact M (by omega)
  . exact lx_trans _ _ _ (E k (i-1) F (by omega) (by omega)) (M (by omega))
 have U:∀k,i<=k->k<b->lx (d a) (d k):=by
  intro k F G
  by_cases c:k=i
  . rw[c];exact I (by omega)
  . exact lx_trans _ _ _ (I (by omega)) (E i k (by omega) (by omega) G)
 intro p q T Y H
 by_cases c1:p<i-1
 . rw[O p T c1]
   by_cases c2:q<i-1
   . rw[O q (by omega) c2];exact E _ _ (by omega) (by omega) (by omega)
   . by_cases Z:q=i-1
     . rw[Z,e2];exact below _ (by omega) (by omega)
     . rw[e3 q (by omega)];exact E _ _ (by omega) (by omega) H
 . by_cases c2:p=i-1
   . rw[c2,e2,e3 q (by omega)];exact U q (by omega) H
   . rw[e3 p (by omega),e3 q (by omega)];exact E _ _ (by omega) Y H
theorem ins_last {d:Nat->Int×Int}{a i m:Nat}(Y:a<=i)(aa:i<=m)(E:Srt lx d a m)(M:a<i->lx (d (i-1)) (d m))(I:i<m->lx (d m) (d i)):Srt lx (rot d i m (m+1)) a (m+1):=by
 have O:∀k,k<i->rot d i m (m+1) k=d k:=fun k F=>by unfold rot;rw[if_neg (by omega),if_neg (by omega)]
 have e2:rot d i m (m+1) i=d m:=by unfold rot;rw[if_pos (by omega)];congr 1;omega
 have e3:∀k,i<k->k<=m->rot d i m (m+1) k=d (k-1):=fun k F H=>by unfold rot;rw[if_neg (by omega),if_pos (by omega)];congr 1;omega
 have below:∀k,a<=k->k<i->lx (d k) (d m):=by
  intro k F H
  by_cases c:k=i-1
  . rw[c];exact M (by omega)
  . exact lx_trans _ _ _ (E k (i-1) F (by omega) (by omega)) (M (by omega))
 have T:∀k,i<=k->k<m->lx (d m) (d k):=by
  intro k F H
  by_cases c:k=i
  . rw[c];exact I (by omega)
  . exact lx_trans _ _ _ (I (by omega)) (E i k Y (by omega) H)
 intro p q G U ac
 by_cases c1:p<i
 . rw[O p c1]
   by_cases c2:q<i
   . rw[O q c2];exact E _ _ G U (by omega)
   . by_cases Z:q=i
     . rw[Z,e2];exact below p G c1
     . rw[e3 q (by omega) (by omega)];exact E _ _ G (by omega) (by omega)
 . by_cases c2:p=i
   . rw[c2,e2,e3 q (by omega) (by omega)];exact T _ (by omega) (by omega)
   . rw[e3 p (by omega) (by omega),e3 q (by omega) (by omega)];exact E _ _ (by omega) (by omega) (by omega)
theorem rot_up (d:Nat->Int×Int)(a k:Nat)(E:a<=k):swp (rot d a (a+1) (k+1)) k (k+1)=rot d a (a+1) (k+1+1):=by
 funext q;unfold swp rot
 by_cases c1:q=k
 . rw[if_pos c1,if_neg (by omega),if_neg (by omega),if_pos (by omega)];congr 1;omega
 . rw[if_neg c1]
   by_cases c2:q=k+1
   . rw[if_pos c2,if_neg (by omega),if_pos (by omega),if_neg (by omega),if_pos (by omega)];congr 1;omega
   . rw[if_neg c2]
     by_cases F:a<=q/\q<k
     . rw[if_pos (by omega),if_pos (by omega)]
     . rw[if_neg (by omega),if_neg (by omega),if_neg (by omega),if_neg (by omega)]
theorem rot_down (d:Nat->Int×Int)(k m:Nat)(F:0<k)(E:k<=m):swp (rot d k m (m+1)) k (k-1)=rot d (k-1) m (m+1):=by
 funext q;unfold swp rot
 by_cases c1:q=k
 . rw[if_pos c1,if_neg (by omega),if_neg (by omega),if_neg (by omega),if_pos (by omega)];congr 1;omega
 . rw[if_neg c1]
   by_cases c2:q=k-1
   . rw[if_pos c2,if_pos (by omega),if_pos (by omega)];congr 1;omega
   . rw[if_neg c2]
     by_cases G:k<q/\q<=m
     . rw[if_neg (by omega),if_pos (by omega),if_neg (by omega),if_pos (by omega)]
     . rw[if_neg (by omega),if_neg (by omega),if_neg (by omega),if_neg (by omega)]
end Go.Proofs.YtleocpdblhbimaaGreatDoor.Stab
namespace Go.Proofs.YtleocpdblhbimaaGreatDoor
open Go.RowKit
theorem Hh (a:Nat)(E:a<4611686018427387904):(BitVec.ofInt 64 (a:Int)).toNat=a:=by
 rw[BitVec.ofInt_natCast,BitVec.toNat_ofNat];exact ZJ (by omega)
theorem Gj (a:Nat)(E:a<4611686018427387904):IntKind.i64.wrap (a:Int)=(a:Int):=by
 rw[IntKind.wrap_i64];omega
theorem Rv (a b:Nat)(F:a<4611686018427387904)(E:b<4611686018427387904):bits .and .i64 (a:Int) (b:Int)=((a&&&b:Nat):Int):=by
 have G:a&&&b<2^62:=Nat.and_lt_two_pow _ (by omega);show IntKind.i64.wrap ((BitVec.ofInt 64 (a:Int)&&&BitVec.ofInt 64 (b:Int)).toNat:Int)=_
 rw[BitVec.toNat_and,Hh a F,Hh b E];exact Gj _ (by omega)
theorem Nn (a b:Nat)(F:a<4611686018427387904)(E:b<4611686018427387904):bits .or .i64 (a:Int) (b:Int)=((a|||b:Nat):Int):=by
 have G:a|||b<2^62:=Nat.or_lt_two_pow (by omega) (by omega)
 show IntKind.i64.wrap ((BitVec.ofInt 64 (a:Int)|||BitVec.ofInt 64 (b:Int)).toNat:Int)=_
 rw[BitVec.toNat_or,Hh a F,Hh b E];exact Gj _ (by omega)
theorem Fb (n k:Nat):(n:Int)/2^k=((n/2^k:Nat):Int):=by
 push_cast;rfl
theorem Y7 (n k:Nat)(E:n<4611686018427387904):bits .and .i64 ((n:Int)/2^k) 1=((n/2^k%2:Nat):Int):=by
 rw[Fb];have h:n/2^k<=n:=YO _ _;have:=Rv (n/2^k) 1 (by omega) (by omega)
 rw[Nat.and_one_is_mod]at this;exact this
theorem Z62 (n k:Nat)(E:n<256):bits .and .u8 ((n:Int)/2^k) 1=((n/2^k%2:Nat):Int):=by
 rw[Fb];have h:n/2^k<=n:=YO _ _;have:=u8_and_nat (n/2^k) 1 (by omega) (by omega)
 rw[Nat.and_one_is_mod]at this;exact this
theorem MI {k:Nat}(E:k<=16):2^k<=65536:=VO (j:=16) (by decide) E
theorem BP {k:Nat}(E:k<=7):2^k<=128:=VO (j:=7) (by decide) E
theorem Wd {x p q:Nat}(E:p<=q):x%2*p<=q:=by
 rcases WY x with e|e<;>rw[e]<;>omega
theorem KR (m n k:Nat)(E:m<65536)(F:n<65536):
 bits .or .i64 ((m:Int)*2) (bits .and .i64 ((n:Int)/2^k) 1)=((m*2|||n/2^k%2:Nat):Int):=by
 rw[Y7 n k (by omega)];have:=Nn (m*2) (n/2^k%2) (by omega) (by omega)
 rw[<-this];push_cast;rfl
theorem Z08 (x n k r:Nat)(E:x<256)(I:n<65536)(H:r<8):
 bits .or .u8 (x:Int) (bits .and .i64 ((n:Int)/2^k) 1%256*2^r%256)=((x|||n/2^k%2*2^r:Nat):Int):=by
 rw[Y7 n k (by omega)];have G:=Wd (x:=n/2^k) (BP (k:=r) (by omega))
 have e:(((n/2^k%2:Nat):Int)%256*2^r%256)=((n/2^k%2*2^r:Nat):Int):=by
  have F:((n/2^k%2:Nat):Int)%256=((n/2^k%2:Nat):Int):=by omega
  have e2:(((n/2^k%2:Nat):Int)*2^r)=((n/2^k%2*2^r:Nat):Int):=by push_cast;rfl
  rw[F,e2];omega
 rw[e];exact u8_or_nat _ _ E (by omega)
theorem Qf (n k r i:Nat):(n/2^k%2*2^r).testBit i=(decide (i=r)&&n.testBit k):=by
 rw[Nat.testBit_mul_two_pow]
 have h:∀j,(n/2^k%2).testBit j=(decide (j=0)&&n.testBit k):=by
  intro j;have:=Nat.testBit_mod_two_pow (n/2^k) 1 j
  rw[Nat.pow_one]at this;rw[this,Nat.testBit_div_two_pow]
  by_cases E:j=0
  . subst E;simp
  . simp[E]
 rw[h]
 by_cases hi:i=r
 . subst hi;simp
 . by_cases hl:r<=i
   . have:i-r≠0:=by omega
     simp[hi,this]
   . simp[hi,hl]
def Ip (n:Nat):Nat->Nat
 |0=>0
 |k+1=>Ip n k*2|||n/2^k%2
theorem Qc (n:Nat):∀k i,(Ip n k).testBit i=(decide (i<k)&&n.testBit (k-1-i))
 |0,i=>by simp[Ip]
 |k+1,i=>by
  have E:=Qf n k 0 i;rw[Nat.pow_zero,Nat.mul_one]at E;have F:=Nat.testBit_mul_two_pow (Ip n k) i 1;rw[Nat.pow_one]at F;rw[Ip,Nat.testBit_or,E,F,Qc n k (i-1)]
  by_cases hi:i=0
  . subst hi;simp
  . have e:k+1-1-i=k-1-(i-1):=by omega
    have e2:(i-1<k)=(i<k+1):=by apply propext;omega
    have e3:1<=i:=by omega
    rw[e];simp only[e2,hi,e3,decide_true,ZF,decide_false,Bool.false_and,Bool.or_false]
theorem TG (n k:Nat):Ip n k<2^k:=by
 apply Nat.lt_pow_two_of_testBit
 intro i hi;rw[Qc];have:¬i<k:=by omega
 simp[this]
def Iq (xs:List Nat)(k:Nat):Bool:=(xs.getD (k/8) 0).testBit (k%8)
theorem CZ (xs:List Nat)(i j v:Nat):(xs.set i v).getD j 0=if i=j/\i<xs.length then v else xs.getD j 0:=by
 rw[WZ,YM,WZ]
 by_cases e:i=j
 . subst e
   by_cases h:i<xs.length
   . simp[h]
   . simp[h]
 . simp[e]
def arr (c:Nat->Nat):Array Value:=((List.range 16).map fun n=>Value.int .i64 ((c n:Nat):Int)).toArray
theorem Fm (c:Nat->Nat):(arr c).size=16:=by simp[arr]
theorem RT (c:Nat->Nat){j:Nat}(E:j<16):(arr c)[j]? =some (.int .i64 ((c j:Nat):Int)):=by simp[arr,E]
theorem Z5r (c:Nat->Nat):(arr c).all (·.oneCell')=true:=by
 rw[Array.all_eq_true];intro i hi;simp[arr,Value.oneCell']
def upd (c:Nat->Nat)(j x:Nat):Nat->Nat:=fun n=>if n=j then x else c n
theorem Z5q (c:Nat->Nat)(j x:Nat):(arr c).setIfInBounds j (.int .i64 ((x:Nat):Int))=arr (upd c j x):=by
 apply Array.ext_getElem?
 intro i;rw[Array.getElem?_setIfInBounds]
 by_cases h:i<16
 . rw[RT _ h,Fm,RT _ h]
   by_cases e:j=i
   . subst e;simp[h,upd]
   . simp[e,upd,Ne.symm e]
 . rw[Fm];have E:∀f,(arr f)[i]? =none:=fun f=>by simp[Fm];omega
   rw[E,E]
   by_cases e:j=i
   . subst e;simp[h]
   . simp[e]
def cnt (l:List Int)(n:Nat):Nat:=l.count (n:Int)
def takenN (c:Nat->Nat):Nat->Nat
 |0=>0
 |k+1=>takenN c k+c (k+1)*2^(14-k)
def Az (c:Nat->Nat):Nat->Nat
 |0=>0
 |1=>0
 |n+2=>2*(Az c (n+1)+c (n+1))
theorem Vy (l:List Int)(n:Nat):cnt l n<=l.length:=YI
theorem Zx (c:Nat->Nat){m:Nat}(E:∀n,c n<=m):∀k,takenN c k<=k*(m*32768)
 |0=>by simp[takenN]
 |k+1=>by
  have F:=Zx c E k
  have G:c (k+1)*2^(14-k)<=m*32768:=Nat.mul_le_mul (E _) (by
   have:=VO (n:=2) (by decide) (show 14-k<=15 by omega)
   omega)
  rw[takenN,ZD];omega
theorem Kr (c:Nat->Nat):∀k,k<=14->Az c (k+1)*2^(14-k)=takenN c k
 |0,_=>by simp[Az,takenN]
 |k+1,h=>by
  have ih:=Kr c k (by omega);have e:14-k=(14-(k+1))+1:=by omega
  rw[takenN,<-ih,Az,e,XC];generalize 2^(14-(k+1))=p;rw[<-ZW,YF p 2,<-XY,YF 2]
theorem EQ (c:Nat->Nat){j k:Nat}(E:j<=k):takenN c j<=takenN c k:=by
 induction E with
 |refl=>exact VB _
 |step _ ih=>exact VU ih (ZS _ _)
theorem GX (c:Nat->Nat)(F:takenN c 15<=32768){n:Nat}(E:1<=n)(G:n<=15):Az c n+c n<=2^n:=by
 obtain⟨k,rfl⟩:∃k,n=k+1:=⟨n-1,by omega⟩
 have e:=Kr c k (by omega);have m:=EQ c (show k+1<=15 by omega);rw[takenN]at m
 have m2:(Az c (k+1)+c (k+1))*2^(14-k)<=2^(k+1)*2^(14-k):=by
  rw[ZW,e,<-Nat.pow_add];have:k+1+(14-k)=15:=by omega
  rw[this];omega
 exact Nat.le_of_mul_le_mul_right m2 (Nat.pow_pos (by decide))
theorem L5 (c:Nat->Nat)(m:Nat)(E:1<=m):∀d,1<=d->(Az c m+c m)*2^d<=Az c (m+d)
 |0,h=>by omega
 |d+1,_=>by
  obtain⟨k,rfl⟩:∃k,m=k+1:=⟨m-1,by omega⟩
  have e:Az c (k+1+(d+1))=2*(Az c (k+1+d)+c (k+1+d)):=by
   have:k+1+(d+1)=(k+d)+2:=by omega
   have F:k+1+d=(k+d)+1:=by omega
   rw[this,Az,F]
  rw[e,XC]
  by_cases G:d=0
  . subst G;simp;omega
  . have:=L5 c (k+1) E d (by omega)
    rw[<-XY];omega
def Rc (n:Int):Bool:=decide (0<=n/\n<=15)
theorem Dw {n:Int}(E:Rc n=true):0<=n/\n<=15:=of_decide_eq_true E
theorem Hw {n:Int}(E:Rc n=false):¬(0<=n/\n<=15):=of_decide_eq_false E
theorem Ih (l:List Int){k n:Nat}(E:k<l.length)(F:l.getD k 0=(n:Int)):upd (cnt (l.take k)) n (cnt (l.take k) n+1)=cnt (l.take (k+1)):=by
 funext m
 have e:l[k]=(n:Int):=by simpa[List.getD,E]using F
 simp only[upd,cnt];rw[XB E,List.count_append,e]
 by_cases h:m=n
 . subst h;simp
 . have:((n:Int)==(m:Int))=false:=by rw[beq_eq_false_iff_ne];omega
   simp[h,List.count_cons,this]
def errL (l:List Int):Int:=if 288<l.length then 2 else if ∃j,j<l.length/\Rc (l.getD j 0)=false then 3 else if 32768<takenN (cnt l) 15 then 8 else 0
def QP (l:List Int):Nat->Nat:=if errL l=0 then cnt l else fun _=>0
structure Good (l:List Int):Prop where
 len:l.length<=288
 ok:∀j,j<l.length->0<=l.getD j 0/\l.getD j 0<=15
 room:takenN (cnt l) 15<=32768
theorem Ch {l:List Int}(E:errL l=0):Good l:=by
 unfold errL at E
 split at E
 . cases E
 . split at E
   . cases E
   . split at E
     . cases E
     . rename_i H F I
       refine⟨by omega,fun j G=> ?_,by omega⟩
       cases e:Rc (l.getD j 0)with
       |true=>exact Dw e
       |false=>exact absurd ⟨j,G,e⟩ F
theorem J6 {l:List Int}(E:Good l):errL l=0:=by
 unfold errL;rw[if_neg (by have:=E.len;omega),if_neg,if_neg (by have:=E.room;omega)];rintro ⟨j,F,e⟩;exact Hw e (E.ok j F)
def codeN (l:List Int)(i:Nat):Nat:=if (l.getD i 0).toNat=0 then 0 else Az (cnt l) (l.getD i 0).toNat+cnt (l.take i) (l.getD i 0).toNat
def St (l:List Int):Nat->List Nat
 |0=>List.replicate l.length 0
 |k+1=>(St l k).set k (codeN l k)
theorem Du (l:List Int):∀k,(St l k).length=l.length
 |0=>by simp[St]
 |k+1=>by rw[St,XS,Du l k]
theorem Yp (l:List Int){j:Nat}(E:j<l.length):∀k,(St l k).getD j 0=if j<k then codeN l j else 0
 |0=>by simp[St,List.getD,E]
 |k+1=>by
  have ih:=Yp l E k;simp only[St,WZ,YM,Du]at ih ⊢
  by_cases e:k=j
  . subst e;simp[E]
  . rw[if_neg e,ih]
    by_cases h:j<k
    . have:j<k+1:=by omega
      simp[h,this]
    . have:¬j<k+1:=by omega
      simp[h,this]
theorem QN (l:List Int)(k:Nat)(G:codeN l k=0):St l (k+1)=St l k:=by
 rw[St,G]
 by_cases F:k<l.length
 . have e:=Yp l F k;rw[if_neg (by omega)]at e;have E:k<(St l k).length:=by rw[Du];exact F
   have e2:(St l k)[k]=0:=by simpa[List.getD,E]using e
   apply List.ext_getElem?
   intro i;rw[YM]
   by_cases hi:k=i
   . subst hi;simp[E,e2]
   . simp[hi]
 . rw[List.set_eq_of_length_le (by rw[Du];omega)]
def nxt (l:List Int)(k:Nat):Nat->Nat:=fun n=>if n=0 then 0 else Az (cnt l) n+cnt (l.take k) n
theorem Z0o (l:List Int)(n:Nat):nxt l 0 n=Az (cnt l) n:=by
 unfold nxt
 by_cases e:n=0
 . subst e;rfl
 . simp[e,cnt]
theorem Z0p (l:List Int){k n:Nat}(F:k<l.length)(E:l.getD k 0=(n:Int))(G:0<n):upd (nxt l k) n (nxt l k n+1)=nxt l (k+1):=by
 have h:=Ih l F E
 funext m
 have hm:=congrFun h m;simp only[upd,nxt]at hm ⊢
 by_cases e:m=n
 . subst e;have:¬m=0:=by omega
   simp[this]at hm ⊢;omega
 . simp[e]at hm ⊢
   rw[hm]
theorem Z0q (l:List Int){k:Nat}(F:k<l.length)(E:l.getD k 0=((0:Nat):Int)):nxt l k=nxt l (k+1):=by
 have h:=Ih l F E
 funext m
 have hm:=congrFun h m;simp only[upd,nxt]at hm ⊢
 by_cases e:m=0
 . simp[e]
 . simp[e]at hm ⊢
   rw[hm]
theorem Gh (l:List Int){k n:Nat}(E:l.getD k 0=(n:Int)):codeN l k=nxt l k n:=by
 unfold codeN nxt;rw[E,WM]
theorem QO {l:List Int}(E:Good l):QP l=cnt l:=by unfold QP;rw[J6 E];rfl
theorem AA (l:List Int){k n:Nat}(F:k<l.length)(E:l.getD k 0=(n:Int)):cnt (l.take k) n<cnt l n:=by
 have h:=congrFun (Ih l F E) n;simp only[upd,if_pos]at h
 have G:cnt (l.take (k+1)) n<=cnt l n:=by
  unfold cnt;exact List.Sublist.count_le _ (List.take_sublist _ _)
 omega
theorem Ig (l:List Int)(F:Good l){k n:Nat}(E:k<l.length)(H:l.getD k 0=(n:Int))(T:0<n):Az (cnt l) n<=codeN l k/\codeN l k<Az (cnt l) n+cnt l n/\codeN l k<2^n:=by
 have G:=Gh l H;have M:=AA l E H;have I:n<=15:=by have:=(F.ok k E).2;omega
 have O:=GX (cnt l) F.room (n:=n) (by omega) I;unfold nxt at G;rw[if_neg (by omega)]at G;omega
def Qy (l:List Int)(m:Nat):Nat->List Nat
 |0=> []
 |k+1=>Qy l m k++(if l.getD k 0=(m:Int)then [k]else [])
theorem Hu (l:List Int)(m:Nat):∀k,k<=l.length->(Qy l m k).length=cnt (l.take k) m
 |0,_=>by simp[Qy,cnt]
 |k+1,hk=>by
  have ih:=Hu l m k (by omega);have E:k<l.length:=by omega
  rw[Qy,VE,ih,cnt,cnt,XB E,List.count_append];have e:l.getD k 0=l[k]:=by simp[List.getD,E]
  rw[e]
  by_cases h:l[k]=(m:Int)
  . simp[h]
  . simp[h]
theorem BR (l:List Int)(m:Nat):∀k d,∃r,Qy l m (k+d)=Qy l m k++r
 |k,0=>⟨[],by simp⟩
 |k,d+1=>by
  obtain⟨r,hr⟩:=BR l m k d;refine⟨r++(if l.getD (k+d) 0=(m:Int)then [k+d]else []), ?_⟩;rw[<-WT,Qy,hr,VS]
theorem W0 (l:List Int){m p:Nat}(F:p<l.length)(E:l.getD p 0=(m:Int)):(Qy l m l.length)[cnt (l.take p) m]? =some p:=by
 obtain⟨r,hr⟩:=BR l m (p+1) (l.length-(p+1));rw[show p+1+(l.length-(p+1))=l.length by omega]at hr;rw[hr,Qy,if_pos E];have h:=Hu l m p (by omega);rw[VS,VX (by omega),h];simp
def Z7d (bs:List Nat)(p:Nat):Nat:=bs.getD (p/8) 0/2^(p%8)%2
def Ce (bs:List Nat)(p:Nat):Nat->Nat
 |0=>0
 |k+1=>2*Ce bs p k+Z7d bs (p+k)
theorem RL (bs:List Nat)(p:Nat):Z7d bs p<2:=Nat.mod_lt _ (by decide)
theorem Ss (bs:List Nat)(p:Nat):∀k,Ce bs p k<2^k
 |0=>by simp[Ce]
 |k+1=>by
  have E:=Ss bs p k;have F:=RL bs (p+k);rw[Ce,XC];omega
def Hit (l:List Int)(bs:List Nat)(p k:Nat):Prop:=Az (cnt l) k<=Ce bs p k/\Ce bs p k<Az (cnt l) k+cnt l k
def Ta (l:List Int)(bs:List Nat)(p x:Nat)(err:Int)(p':Nat):Prop:=
 (∃k,1<=k/\k<=15/\(∀j,1<=j->j<k->¬Hit l bs p j)/\p+k<=8*bs.length/\Hit l bs p k/\p'=p+k/\err=0/\(Qy l k l.length)[Ce bs p k-Az (cnt l) k]? =some x)\/
 (∃k,k<15/\(∀j,1<=j->j<=k->¬Hit l bs p j)/\p+k=8*bs.length/\p'=p+k/\err=7/\x=0)\/
 ((∀j,1<=j->j<=15->¬Hit l bs p j)/\p+15<=8*bs.length/\p'=p+15/\err=8/\x=0)
theorem Z0b (l:List Int){k i:Nat}(E:i<cnt l k):∃x,(Qy l k l.length)[i]? =some x:=by
 have hl:=Hu l k l.length (VB _);rw[ZK]at hl;exact⟨(Qy l k l.length)[i],by simp⟩
theorem R5 (c i:Nat):(c.testBit i).toNat=c/2^i%2:=by
 rw[Nat.testBit_eq_decide_div_mod_eq];have:=Nat.mod_lt (c/2^i) (show 0<2 by decide)
 by_cases h:c/2^i%2=1
 . simp[h]
 . have E:c/2^i%2=0:=by omega
   simp[E]
theorem Z5m (bs:List Nat)(q:Nat):Z7d bs q=(Iq bs q).toNat:=by unfold Z7d Iq;rw[R5]
theorem V1 (l:List Int)(I:Good l){i k m n:Nat}(M:i<l.length)(G:k<l.length)(E:l.getD i 0=(m:Int))(F:l.getD k 0=(n:Int))(Y:i≠k)(Z:0<m)(aa:m<=n):codeN l k/2^(n-m)≠codeN l i:=by
 obtain⟨af,ah,ac⟩:=Ig l I M E Z;obtain⟨b1,b2,ag⟩:=Ig l I G F (by omega)
 by_cases e:m=n
 . subst e;rw[XW,Nat.pow_zero,Nat.div_one];intro h;have T:=W0 l M E;have e2:=W0 l G F;have H:=Gh l E;have O:=Gh l F;unfold nxt at H O;rw[if_neg (by omega)]at H O;have:cnt (l.take i) m=cnt (l.take k) m:=by omega
   rw[this,e2]at T;exact Y (VM T).symm
 . have U:=L5 (cnt l) m (by omega) (n-m) (by omega);rw[show m+(n-m)=n by omega]at U;have ae:Az (cnt l) m+cnt l m<=codeN l k/2^(n-m):=(Nat.le_div_iff_mul_le (Nat.pow_pos (by decide))).2 (by omega);omega
def hb (c:Nat):Nat->List Bool
 |0=> []
 |n+1=>hb (c/2) n++ [decide (c%2=1)]
theorem Bd:∀n c,(hb c n).length=n
 |0,_=>rfl
 |n+1,c=>by simp[hb,Bd n]
theorem OW:∀n,hb 0 n=List.replicate n false
 |0=>rfl
 |n+1=>by rw[hb,Nat.zero_div,OW n,YY];rfl
theorem Z2u (c n:Nat):∀d,hb (c*2^d) (n+d)=hb c n++List.replicate d false
 |0=>by simp
 |d+1=>by
  have e:c*2^(d+1)=2*(c*2^d):=by rw[XC];rw[<-XY,YF]
  rw[show n+(d+1)=(n+d)+1 by omega,hb,e];have E:2*(c*2^d)/2=c*2^d:=by omega
  have e2:2*(c*2^d)%2=0:=by omega
  rw[E,e2,Z2u c n d,YY,VS];rfl
theorem Z2v:∀n c,c+1<2^n->∃a t,hb c n=a++false::List.replicate t true/\hb (c+1) n=a++true::List.replicate t false
 |0,c,h=>by simp at h
 |n+1,c,h=>by
  rw[XC]at h
  by_cases hc:c%2=0
  . refine⟨hb (c/2) n,0, ?_, ?_⟩
    . rw[hb,hc];rfl
    . rw[hb,show (c+1)/2=c/2 by omega,show (c+1)%2=1 by omega];rfl
  . obtain⟨a,t,E,F⟩:=Z2v n (c/2) (by omega);refine⟨a,t+1, ?_, ?_⟩
    . rw[hb,E,show c%2=1 by omega,YY,VS];rfl
    . rw[hb,show (c+1)/2=c/2+1 by omega,F,show (c+1)%2=0 by omega,YY,VS];rfl
def Bu (l:List Int):Nat->List (Int×Int)
 |0=> []
 |k+1=>Bu l k++(if 0<l.getD k 0 then [(l.getD k 0,(k:Int))]else [])
def wt (x:Int×Int):Nat:=2^(15-x.1.toNat)
instance (x y:Int×Int):Decidable (Stab.lx x y):=by unfold Stab.lx;infer_instance
def Ol (p:Int×Int):List (Int×Int)->Nat
 | []=>0
 |x::r=>(if Stab.lx x p then wt x else 0)+Ol p r
theorem Ep (p:Int×Int):∀xs ys,Ol p (xs++ys)=Ol p xs+Ol p ys
 | [],ys=>by simp[Ol]
 |x::r,ys=>by simp only[XL,Ol,Ep p r ys];omega
theorem RC (p:Int×Int){xs ys:List (Int×Int)}(E:xs.Perm ys):Ol p xs=Ol p ys:=by
 induction E with
 |nil=>rfl
 |cons x _ ih=>simp only[Ol,ih]
 |swap x y l=>simp only[Ol];omega
 |trans _ _ h1 h2=>exact h1.trans h2
theorem Qg (c:Nat->Nat)(m:Nat)(G:1<=m)(H:m<=15):∀j,j<=15->takenN (upd c m (c m+1)) j=takenN c j+(if m<=j then 2^(15-m)else 0)
 |0,_=>by simp[takenN];omega
 |j+1,h=>by
  have ih:=Qg c m G H j (by omega);rw[takenN,takenN,ih]
  by_cases e:j+1=m
  . subst e;have F:¬(j+1<=j):=by omega
    have E:15-(j+1)=14-j:=by omega
    simp only[upd,if_pos,F,if_false,VB,E,ZW,Nat.one_mul];omega
  . simp only[upd,if_neg e]
    by_cases F:m<=j
    . have E:m<=j+1:=by omega
      simp[F,E];omega
    . have E:¬m<=j+1:=by omega
      simp[F,E]
theorem Nd (c:Nat->Nat)(x:Nat):∀j,takenN (upd c 0 x) j=takenN c j
 |0=>rfl
 |j+1=>by rw[takenN,takenN,Nd c x j];simp[upd]
theorem O3 (l:List Int)(M:Good l)(n q:Nat)(ae:1<=n)(U:n<=15):∀k,k<=l.length->Ol ((n:Int),(q:Int)) (Bu l k)=takenN (cnt (l.take k)) (n-1)+cnt (l.take (min k q)) n*2^(15-n)
 |0,_=>by
  have e:∀j,takenN (cnt []) j=0:=fun j=>by
   induction j with
   |zero=>rfl
   |succ j ih=>rw[takenN,ih];simp[cnt]
  simp[Bu,Ol,e,cnt]
 |k+1,hk=>by
  have ih:=O3 l M n q ae U k (by omega);have O:k<l.length:=by omega
  have H:=M.ok k O;obtain⟨m,hm⟩:=WF H.1;have hc:=Ih l O hm
  have ac:cnt (l.take (k+1)) n=cnt (l.take k) n+(if n=m then 1 else 0):=by
   rw[<-hc];simp only[upd]
   by_cases e:n=m
   . subst e;simp
   . simp[e]
  have T:cnt (l.take (min (k+1) q)) n=cnt (l.take (min k q)) n+(if k<q/\n=m then 1 else 0):=by
   by_cases I:k<q
   . rw[YP (by omega),YP (by omega),ac];simp[I]
   . rw[YG (by omega),YG (by omega)];simp[I]
  rw[Bu,Ep,ih,T,<-hc,hm];have Z:m<=15:=by rw[hm]at H;omega
  by_cases aa:m=0
  . subst aa;rw[Nd];have:¬n=0:=by omega
    simp[Ol,this]
  . rw[Qg _ m (by omega) Z (n-1) (by omega)];have Y:(0:Int)<(m:Int):=by omega
    rw[if_pos Y];simp only[Ol,wt,WM,XN];have G:Stab.lx ((m:Int),(k:Int)) ((n:Int),(q:Int))↔(m<=n-1\/ (n=m/\k<q)):=by unfold Stab.lx;constructor<;>intro h<;>omega
    by_cases F:m<=n-1
    . have E:¬(k<q/\n=m):=by omega
      rw[if_pos (G.2 (.inl F)),if_pos F,if_neg E,XN];omega
    . by_cases E:k<q/\n=m
      . rw[if_pos (G.2 (.inr ⟨E.2,E.1⟩)),if_neg F,if_pos E,ZW,Nat.one_mul,E.2];omega
      . rw[if_neg (fun h=>by have:=G.1 h;omega),if_neg F,if_neg E,XN,XN,XN]
theorem RD (l:List Int)(E:Good l){n q:Nat}(F:q<l.length)(H:l.getD q 0=(n:Int))(I:0<n):Ol ((n:Int),(q:Int)) (Bu l l.length)=codeN l q*2^(15-n):=by
 have G:n<=15:=by have:=(E.ok q F).2;omega
 rw[O3 l E n q (by omega) G l.length (VB _),ZK,YG (by omega)];have h:=Kr (cnt l) (n-1) (by omega);have e:=Gh l H;unfold nxt at e;rw[if_neg (by omega)]at e;rw[e,ZW,<-h,show n-1+1=n by omega,show 14-(n-1)=15-n by omega]
def vsum (d:Nat->Int×Int):Nat->Nat
 |0=>0
 |i+1=>vsum d i+wt (d i)
theorem Z20 (d:Nat->Int×Int)(p:Int×Int):∀a b,Ol p (Stab.seg d a (a+b))=(List.range b).foldl (fun s i=>s+if Stab.lx (d (a+i)) p then wt (d (a+i))else 0) 0
 |a,0=>by simp[Stab.seg,Ol]
 |a,b+1=>by
  rw[Stab.seg_split d a (a+b) (a+(b+1)) (by omega) (by omega),Ep,Z20 d p a b,List.range_succ,List.foldl_append]
  have:Stab.seg d (a+b) (a+(b+1))= [d (a+b)]:=by
   unfold Stab.seg;rw[show a+(b+1)-(a+b)=1 by omega];simp
  rw[this];simp[Ol]
theorem Wa (d:Nat->Int×Int)(p:Int×Int):∀i,(∀j,j<i->Stab.lx (d j) p)->Ol p (Stab.seg d 0 i)=vsum d i
 |0,_=>by simp[Stab.seg,Ol,vsum]
 |i+1,h=>by
  rw[Stab.seg_split d 0 i (i+1) (by omega) (by omega),Ep,Wa d p i (fun j E=>h j (by omega)),vsum]
  have:Stab.seg d i (i+1)= [d i]:=by
   unfold Stab.seg;rw[show i+1-i=1 by omega];simp
  rw[this];simp[Ol,h i (by omega)]
theorem Wb (d:Nat->Int×Int)(p:Int×Int)(a:Nat):∀b,(∀j,a<=j->j<a+b->¬Stab.lx (d j) p)->Ol p (Stab.seg d a (a+b))=0
 |0,_=>by simp[Stab.seg,Ol]
 |b+1,h=>by
  rw[Stab.seg_split d a (a+b) (a+(b+1)) (by omega) (by omega),Ep,Wb d p a b (fun j E F=>h j E (by omega))]
  have:Stab.seg d (a+b) (a+(b+1))= [d (a+b)]:=by
   unfold Stab.seg;rw[show a+(b+1)-(a+b)=1 by omega];simp
  rw[this];simp[Ol,h (a+b) (by omega) (by omega)]
theorem Z6o (x:Int×Int):¬Stab.lx x x:=by unfold Stab.lx;omega
theorem Z12 {x y:Int×Int}(E:Stab.lx x y):¬Stab.lx y x:=by unfold Stab.lx at*;omega
theorem AF (d:Nat->Int×Int)(N:Nat)(E:Stab.Srt Stab.lx d 0 N){i:Nat}(G:i<N):Ol (d i) (Stab.seg d 0 N)=vsum d i:=by
 rw[Stab.seg_split d 0 i N (by omega) (by omega),Ep,Wa d (d i) i (fun j F=>E j i (VH _) F G)]
 have:=Wb d (d i) i (N-i) (fun j I H=>by
  by_cases e:j=i
  . subst e;exact Z6o _
  . exact Z12 (E i j (VH _) (by omega) (by omega)))
 rw[show i+(N-i)=N by omega]at this;rw[this,XN]
def codeT (l:List Int)(q:Nat):List Bool:=hb (codeN l q) (l.getD q 0).toNat
end Go.Proofs.YtleocpdblhbimaaGreatDoor
