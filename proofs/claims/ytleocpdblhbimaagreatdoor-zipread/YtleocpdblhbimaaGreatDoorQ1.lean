import Derived.Test.YtleocpdblhbimaaGreatDoorQ0
set_option linter.unusedSimpArgs false
set_option linter.unusedVariables false
namespace Go.Proofs.YtleocpdblhbimaaGreatDoor.Stab
open Go.RowKit
variable {α:Type}
def swp (d:Nat->α)(i j:Nat):Nat->α:=fun k=>if k=i then d j else if k=j then d i else d k
def swr (d:Nat->α)(a b:Nat):Nat->Nat->α
 |0=>d
 |i+1=>swp (swr d a b i) (a+i) (b+i)
def rot (d:Nat->α)(a m b:Nat):Nat->α:=fun k=>if a<=k/\k<a+(b-m)then d (k+(m-a))else if a+(b-m)<=k/\k<b then d (k-(b-m))else d k
theorem BJ (d:Nat->α)(a b:Nat):∀n,(a+n<=b\/b+n<=a)->∀k,swr d a b n k=if a<=k/\k<a+n then d (b+(k-a))else if b<=k/\k<b+n then d (a+(k-b))else d k
 |0,_,k=>by rw[swr,if_neg om,if_neg om]
 |n+1,h,k=>by have ih:=BJ d a b n om;rw[swr,swp];by_cases H:k=a+n;rw[if_pos H,if_pos om,ih,if_neg om,if_neg om];congr 1;omega;rw[if_neg H];by_cases F:k=b+n;rw[if_pos F,if_neg om,if_pos om,ih,if_neg om,if_neg om];congr 1;omega;rw[if_neg F,ih];by_cases E:a<=k/\k<a+n;rw[if_pos E,if_pos om];rw[if_neg E];by_cases G:b<=k/\k<b+n;rw[if_pos G,if_neg om,if_pos om];rw[if_neg G,if_neg om,if_neg om]
theorem rot_gt (d:Nat->α)(m i j:Nat)(M:j<i)(I:i<=m):rot (swr d (m-i) m j) (m-(i-j)) m (m+j)=rot d (m-i) m (m+j):=by funext k;have E:=BJ d (m-i) m j om;unfold rot;by_cases H:m-i<=k/\k<m-i+(m+j-m);rw[if_pos H,if_neg om,if_neg om,E,if_pos om];congr 1;omega;rw[if_neg H];by_cases F:m-(i-j)<=k/\k<m-(i-j)+(m+j-m);rw[if_pos F,E,if_neg om,if_pos om,if_pos om];congr 1;omega;rw[if_neg F];by_cases G:m-(i-j)+(m+j-m)<=k/\k<m+j;rw[if_pos G,E,if_neg om,if_neg om,if_pos om];rw[if_neg G,E,if_neg om,if_neg om,if_neg om]
theorem rot_lt (d:Nat->α)(m i j:Nat)(O:i<j)(M:i<=m):rot (swr d (m-i) (m+j-i) i) (m-i) m (m+(j-i))=rot d (m-i) m (m+j):=by funext k;have E:=BJ d (m-i) (m+j-i) i om;unfold rot;by_cases H:m-i<=k/\k<m-i+(m+(j-i)-m);rw[if_pos H,if_pos om,E,if_neg om];by_cases I:m+j-i<=k+(m-(m-i))/\k+(m-(m-i))<m+j-i+i;omega;rw[if_neg I];rw[if_neg H];by_cases F:m-i+(m+(j-i)-m)<=k/\k<m+(j-i);rw[if_pos F,if_pos om,E,if_pos om];congr 1;omega;rw[if_neg F,E];by_cases G:m+j-i<=k/\k<m+j-i+i;rw[if_neg om,if_pos G,if_neg om,if_pos om];congr 1;omega;rw[if_neg om,if_neg G,if_neg om,if_neg om]
theorem rot_eq (d:Nat->α)(m i:Nat)(G:i<=m):swr d (m-i) m i=rot d (m-i) m (m+i):=by funext k;rw[BJ d (m-i) m i om,rot];by_cases F:m-i<=k/\k<m-i+i;rw[if_pos F,if_pos om];congr 1;omega;rw[if_neg F];by_cases E:m<=k/\k<m+i;rw[if_pos E,if_neg om,if_pos om];congr 1;omega;rw[if_neg E,if_neg om,if_neg om]
def seg (d:Nat->α)(a b:Nat):List α:=(List.range (b-a)).map fun i=>d (a+i)
structure Moved (a b:Nat)(d d':Nat->α):Prop where
 out:∀k,¬(a<=k/\k<b)->d' k=d k
 perm:(seg d' a b).Perm (seg d a b)
theorem Moved.refl (a b:Nat)(d:Nat->α):Moved a b d d:=⟨fun _ _=>rfl,List.Perm.refl _⟩
theorem Moved.trans {a b:Nat}{d d' E:Nat->α}(F:Moved a b d d')(k:Moved a b d' E):Moved a b d E:=
 ⟨fun i hi=>(k.out i hi).trans (F.out i hi),k.perm.trans F.perm⟩
theorem seg_split (d:Nat->α)(a m b:Nat)(H:a<=m)(F:m<=b):seg d a b=seg d a m++seg d m b:=by apply XK;simp[seg];omega;. intro i G E;rw[List.getElem_append];simp only[seg,List.getElem_map,List.getElem_range,WL,List.length_range];split;rfl;congr 1;omega
theorem B8 {d d':Nat->α}{a b:Nat}(F:∀k,a<=k->k<b->d' k=d k):seg d' a b=seg d a b:=by apply XK (by simp[seg]);intro i E G;(have:i<b-a:=by simpa[seg]using E);simp only[seg,List.getElem_map,List.getElem_range];exact F _ om om
theorem mem_seg {d:Nat->α}{a b:Nat}{x:α}:x∈seg d a b↔∃k,a<=k/\k<b/\d k=x:=by simp only[seg,XG,List.mem_range];constructor;rintro ⟨i,hi,rfl⟩;exact⟨a+i,om,om,rfl⟩;rintro ⟨k,F,E,rfl⟩;exact⟨k-a,om,by congr 1;omega⟩
theorem Moved.mem {a b:Nat}{d d':Nat->α}(G:Moved a b d d'){k:Nat}(F:a<=k)(E:k<b):∃j,a<=j/\j<b/\d j=d' k:=by have:d' k∈seg d' a b:=mem_seg.2 ⟨k,F,E,rfl⟩;exact mem_seg.1 (G.perm.mem_iff.1 this)
theorem Moved.wider {a b F E:Nat}{d d':Nat->α}(G:Moved a b d d')(M:F<=a)(H:a<=b)(I:b<=E):Moved F E d d':=by refine⟨fun k O=>G.out k om, ?_⟩;rw[seg_split d' F a E M om,seg_split d F a E M om,seg_split d' a b E H I,seg_split d a b E H I];rw[B8 (d:=d) (d':=d') (a:=F) (b:=a) (fun k _ O=>G.out k om),B8 (d:=d) (d':=d') (a:=b) (b:=E) (fun k O _=>G.out k om)];exact(G.perm.append_right _).append_left _
theorem Z3t (d:Nat->α)(a m b:Nat)(H:a<=m)(G:m<=b):seg (rot d a m b) a b=seg d m b++seg d a m:=by apply XK;simp[seg];omega;intro i E F;(have hi:i<b-a:=by simpa[seg]using E);rw[List.getElem_append];simp only[seg,List.getElem_map,List.getElem_range,WL,List.length_range,rot];by_cases h:i<b-m;rw[dif_pos h,if_pos om];congr 1;omega;rw[dif_neg h,if_neg om,if_pos om];congr 1;omega
theorem moved_rot (d:Nat->α)(a m b:Nat)(F:a<=m)(E:m<=b):Moved a b d (rot d a m b):=by refine⟨fun k G=> ?_, ?_⟩;rw[rot,if_neg om,if_neg om];rw[Z3t d a m b F E,seg_split d a m b F E];exact List.perm_append_comm
variable (lt:α->α->Prop)
def Srt (d:Nat->α)(a b:Nat):Prop:=∀i j,a<=i->i<j->j<b->lt (d i) (d j)
theorem Srt.sub {F:α->α->Prop}{d:Nat->α}{a b E G:Nat}(I:Srt F d a b)(O:a<=E)(M:G<=b):Srt F d E G:=fun i j hi H T=>I i j om H om
theorem Srt.congr {F:α->α->Prop}{d d':Nat->α}{a b:Nat}(I:Srt F d a b)(E:∀k,a<=k->k<b->d' k=d k):Srt F d' a b:=fun i j hi H G=>by
 rw[E i hi om,E j om G];exact I i j hi H G
theorem Srt.join {E:α->α->Prop}{d:Nat->α}{a m b:Nat}(I:Srt E d a m)(H:Srt E d m b)(M:∀i j,a<=i->i<m->m<=j->j<b->E (d i) (d j)):Srt E d a b:=by intro i j hi F G;by_cases c1:j<m;exact I i j hi F c1;by_cases c2:i<m;exact M i j hi c2 om G;exact H i j om F G
theorem merge_step {G:α->α->Prop}(M:∀x y z,G x y->G y z->G x z){d aa T:Nat->α}{a F m E b I:Nat}(ae:a<=F)(ai:F<=m)(aj:m<=E)(af:E<=b)(az:I+m=F+E) (Y:Srt G d a m) (Z:Srt G d m b) (ap:a<F->E<b->G (d (F-1)) (d E)) (au:F<m->m<E->G (d (E-1)) (d F)) (U:Moved a I (rot d F m E) aa) (al:Srt G aa a I) (O:Moved I b aa T) (ao:Srt G T I b):Srt G T a b/\Moved a b d T:=by have a1:F<=I/\I<=E:=om;constructor;(. refine Srt.join (m:=I) (al.congr fun k _ a3=>O.out k om) ao ?_;intro i j hi ax ak av;rw[O.out i om];obtain⟨p,ac,ay,ag⟩:=U.mem hi ax;obtain⟨q,a4,a2,ar⟩:=O.mem ak av;rw[<-ag,<-ar,U.out q om];(have ah:rot d F m E p=if p<F then d p else d (p+(m-F)):=by unfold rot;by_cases c:p<F;rw[if_neg om,if_neg om,if_pos c];rw[if_pos om,if_neg c]);(have aw:rot d F m E q=if q<E then d (q-(E-m))else d q:=by unfold rot;by_cases c:q<E;rw[if_neg om,if_pos om,if_pos c];rw[if_neg om,if_neg om,if_neg c]);rw[ah,aw];by_cases c1:p<F;(. rw[if_pos c1];by_cases c2:q<E;rw[if_pos c2];exact Y _ _ ac om om;. rw[if_neg c2];have H:G (d (F-1)) (d E):=ap om om;(have e2:d p=d (F-1)\/G (d p) (d (F-1)):=by by_cases c:p=F-1;left;rw[c];right;exact Y _ _ ac om om);(have e3:d E=d q\/G (d E) (d q):=by by_cases c:E=q;left;rw[c];right;exact Z _ _ om om om);rcases e2 with e2|e2<;>rcases e3 with e3|e3;rw[e2,<-e3];exact H;rw[e2];exact M _ _ _ H e3;rw[<-e3];exact M _ _ _ e2 H;exact M _ _ _ e2 (M _ _ _ H e3));. rw[if_neg c1];by_cases c2:q<E;(. rw[if_pos c2];have H:G (d (E-1)) (d F):=au om om;(have e2:d (p+(m-F))=d (E-1)\/G (d (p+(m-F))) (d (E-1)):=by by_cases c:p+(m-F)=E-1;left;rw[c];right;exact Z _ _ om om om);(have e3:d F=d (q-(E-m))\/G (d F) (d (q-(E-m))):=by by_cases c:F=q-(E-m);left;rw[<-c];right;exact Y _ _ ae om om);rcases e2 with e2|e2<;>rcases e3 with e3|e3;rw[e2,<-e3];exact H;rw[e2];exact M _ _ _ H e3;rw[<-e3];exact M _ _ _ e2 H;exact M _ _ _ e2 (M _ _ _ H e3));rw[if_neg c2];exact Z _ _ om om om);exact(((moved_rot d F m E ai aj).wider ae om af).trans (U.wider (VB _) om om)).trans (O.wider om om (VB _))
end Go.Proofs.YtleocpdblhbimaaGreatDoor.Stab
namespace Go.Proofs.YtleocpdblhbimaaGreatDoor.Stab
open Go.RowKit
def lx (x y:Int×Int):Prop:=x.1<y.1\/ (x.1=y.1/\x.2<y.2)
theorem lx_trans (x y E:Int×Int)(F:lx x y)(k:lx y E):lx x E:=by unfold lx at*;omega
def Cross (d:Nat->Int×Int)(a m b:Nat):Prop:=∀i j,a<=i->i<m->m<=j->j<b->(d i).2<(d j).2
theorem cross_less {x y:Int×Int}(E:x.2<y.2):(decide (y.1<x.1)=true->lx y x)/\(decide (y.1<x.1)=false->lx x y):=by unfold lx;constructor;intro e;have:=of_decide_eq_true e;omega;intro e;have:=of_decide_eq_false e;omega
theorem rot_left (d:Nat->Int×Int)(m b:Nat):rot d m m b=d:=by funext k;unfold rot;by_cases h:m<=k/\k<m+(b-m);rw[if_pos h];congr 1;omega;rw[if_neg h,if_neg om]
theorem rot_right (d:Nat->Int×Int)(a m:Nat):rot d a m m=d:=by funext k;unfold rot;rw[if_neg om];by_cases h:a+(m-m)<=k/\k<m;rw[if_pos h];congr 1;omega;rw[if_neg h]
theorem merge_parts {d:Nat->Int×Int}{a E m F b H:Nat}(aj:a<=E)(ag:E<=m)(ah:m<=F)(af:F<=b)(ai:H+m=E+F)(Z:Srt lx d a m)(ac:Srt lx d m b)(aa:Cross d a m b):(Srt lx (rot d E m F) a E/\Srt lx (rot d E m F) E H/\Cross (rot d E m F) a E H)/\(Srt lx (rot d E m F) H F/\Srt lx (rot d E m F) F b/\Cross (rot d E m F) H F b):=by(have Y:∀k,k<E->rot d E m F k=d k:=fun k U=>by unfold rot;rw[if_neg om,if_neg om]);(have e2:∀k,E<=k->k<H->rot d E m F k=d (k+(m-E)):=fun k U ae=>by unfold rot;rw[if_pos om]);(have e3:∀k,H<=k->k<F->rot d E m F k=d (k-(F-m)):=fun k U ae=>by unfold rot;rw[if_neg om,if_pos om]);(have M:∀k,F<=k->rot d E m F k=d k:=fun k U=>by unfold rot;rw[if_neg om,if_neg om]);refine⟨⟨?_, ?_, ?_⟩, ?_, ?_, ?_⟩;intro i j hi I G;rw[Y i om,Y j G];exact Z i j hi I om;intro i j hi I G;rw[e2 i hi om,e2 j om G];exact ac _ _ om om om;intro i j hi O G T;rw[Y i O,e2 j G T];exact aa _ _ hi om om om;intro i j hi I G;rw[e3 i hi om,e3 j om G];exact Z _ _ om om om;intro i j hi I G;rw[M i hi,M j om];exact ac i j om I G;intro i j hi O G T;rw[e3 i hi O,M j G];exact aa _ _ om om om T
theorem Cross.congr {d d':Nat->Int×Int}{a m b:Nat}(H:Cross d a m b)(E:∀k,a<=k->k<b->d' k=d k):Cross d' a m b:=fun i j hi I G F=>by
 rw[E i hi om,E j om F];exact H i j hi I G F
theorem ins_first {d:Nat->Int×Int}{a i b:Nat}(aa:a<i)(ac:i<=b)(E:Srt lx d (a+1) b)(I:a+1<i->lx (d (i-1)) (d a))(M:i<b->lx (d a) (d i)):Srt lx (rot d a (a+1) i) a b:=by(have O:∀k,a<=k->k<i-1->rot d a (a+1) i k=d (k+1):=fun k F H=>by unfold rot;rw[if_pos om];congr 1;omega);(have e2:rot d a (a+1) i (i-1)=d a:=by unfold rot;rw[if_neg om,if_pos om];congr 1;omega);(have e3:∀k,i<=k->rot d a (a+1) i k=d k:=fun k F=>by unfold rot;rw[if_neg om,if_neg om]);(have below:∀k,a+1<=k->k<i->lx (d k) (d a):=by intro k F H;by_cases c:k=i-1;rw[c];exact I om;exact lx_trans _ _ _ (E k (i-1) F om om) (I om));(have Z:∀k,i<=k->k<b->lx (d a) (d k):=by intro k F H;by_cases c:k=i;rw[c];exact M om;exact lx_trans _ _ _ (M om) (E i k om om H));intro p q U T G;by_cases c1:p<i-1;rw[O p U c1];by_cases c2:q<i-1;rw[O q om c2];exact E _ _ om om om;by_cases Y:q=i-1;rw[Y,e2];exact below _ om om;rw[e3 q om];exact E _ _ om om G;by_cases c2:p=i-1;rw[c2,e2,e3 q om];exact Z q om G;rw[e3 p om,e3 q om];exact E _ _ om T G
theorem ins_last {d:Nat->Int×Int}{a i m:Nat}(U:a<=i)(aa:i<=m)(E:Srt lx d a m)(I:a<i->lx (d (i-1)) (d m))(M:i<m->lx (d m) (d i)):Srt lx (rot d i m (m+1)) a (m+1):=by(have O:∀k,k<i->rot d i m (m+1) k=d k:=fun k F=>by unfold rot;rw[if_neg om,if_neg om]);(have e2:rot d i m (m+1) i=d m:=by unfold rot;rw[if_pos om];congr 1;omega);(have e3:∀k,i<k->k<=m->rot d i m (m+1) k=d (k-1):=fun k F H=>by unfold rot;rw[if_neg om,if_pos om];congr 1;omega);(have below:∀k,a<=k->k<i->lx (d k) (d m):=by intro k F H;by_cases c:k=i-1;rw[c];exact I om;exact lx_trans _ _ _ (E k (i-1) F om om) (I om));(have Z:∀k,i<=k->k<m->lx (d m) (d k):=by intro k F H;by_cases c:k=i;rw[c];exact M om;exact lx_trans _ _ _ (M om) (E i k U om H));intro p q G T ac;by_cases c1:p<i;rw[O p c1];by_cases c2:q<i;rw[O q c2];exact E _ _ G T om;by_cases Y:q=i;rw[Y,e2];exact below p G c1;rw[e3 q om om];exact E _ _ G om om;by_cases c2:p=i;rw[c2,e2,e3 q om om];exact Z _ om om;rw[e3 p om om,e3 q om om];exact E _ _ om om om
theorem rot_up (d:Nat->Int×Int)(a k:Nat)(F:a<=k):swp (rot d a (a+1) (k+1)) k (k+1)=rot d a (a+1) (k+1+1):=by funext q;unfold swp rot;by_cases c1:q=k;rw[if_pos c1,if_neg om,if_neg om,if_pos om];congr 1;omega;rw[if_neg c1];by_cases c2:q=k+1;rw[if_pos c2,if_neg om,if_pos om,if_neg om,if_pos om];congr 1;omega;rw[if_neg c2];by_cases E:a<=q/\q<k;rw[if_pos om,if_pos om];rw[if_neg om,if_neg om,if_neg om,if_neg om]
theorem rot_down (d:Nat->Int×Int)(k m:Nat)(G:0<k)(F:k<=m):swp (rot d k m (m+1)) k (k-1)=rot d (k-1) m (m+1):=by funext q;unfold swp rot;by_cases c1:q=k;rw[if_pos c1,if_neg om,if_neg om,if_neg om,if_pos om];congr 1;omega;rw[if_neg c1];by_cases c2:q=k-1;rw[if_pos c2,if_pos om,if_pos om];congr 1;omega;rw[if_neg c2];by_cases E:k<q/\q<=m;rw[if_neg om,if_pos om,if_neg om,if_pos om];rw[if_neg om,if_neg om,if_neg om,if_neg om]
end Go.Proofs.YtleocpdblhbimaaGreatDoor.Stab
namespace Go.Proofs.YtleocpdblhbimaaGreatDoor
open Go.RowKit
theorem Hh (a:Nat)(E:a<4611686018427387904):(BitVec.ofInt 64 (a:Int)).toNat=a:=by rw[BitVec.ofInt_natCast,BitVec.toNat_ofNat];exact ZJ om
theorem Gj (a:Nat)(E:a<4611686018427387904):IntKind.i64.wrap (a:Int)=(a:Int):=by rw[IntKind.wrap_i64];omega
theorem Rv (a b:Nat)(E:a<4611686018427387904)(F:b<4611686018427387904):bits .and .i64 (a:Int) (b:Int)=((a&&&b:Nat):Int):=by have G:a&&&b<2^62:=Nat.and_lt_two_pow _ om;show IntKind.i64.wrap ((BitVec.ofInt 64 (a:Int)&&&BitVec.ofInt 64 (b:Int)).toNat:Int)=_;rw[BitVec.toNat_and,Hh a E,Hh b F];exact Gj _ om
theorem Nn (a b:Nat)(E:a<4611686018427387904)(F:b<4611686018427387904):bits .or .i64 (a:Int) (b:Int)=((a|||b:Nat):Int):=by have G:a|||b<2^62:=Nat.or_lt_two_pow om om;show IntKind.i64.wrap ((BitVec.ofInt 64 (a:Int)|||BitVec.ofInt 64 (b:Int)).toNat:Int)=_;rw[BitVec.toNat_or,Hh a E,Hh b F];exact Gj _ om
theorem Fb (n k:Nat):(n:Int)/2^k=((n/2^k:Nat):Int):=by push_cast;rfl
theorem Y7 (n k:Nat)(E:n<4611686018427387904):bits .and .i64 ((n:Int)/2^k) 1=((n/2^k%2:Nat):Int):=by rw[Fb];have h:n/2^k<=n:=YO _ _;have:=Rv (n/2^k) 1 om om;rw[Nat.and_one_is_mod]at this;exact this
theorem Z62 (n k:Nat)(E:n<256):bits .and .u8 ((n:Int)/2^k) 1=((n/2^k%2:Nat):Int):=by rw[Fb];have h:n/2^k<=n:=YO _ _;have:=u8_and_nat (n/2^k) 1 om om;rw[Nat.and_one_is_mod]at this;exact this
theorem MI {k:Nat}(E:k<=16):2^k<=65536:=VO (j:=16) od E
theorem BP {k:Nat}(E:k<=7):2^k<=128:=VO (j:=7) od E
theorem Wd {x p q:Nat}(E:p<=q):x%2*p<=q:=by rcases WY x with e|e<;>rw[e]<;>omega
theorem KR (m n k:Nat)(E:m<65536)(F:n<65536):bits .or .i64 ((m:Int)*2) (bits .and .i64 ((n:Int)/2^k) 1)=((m*2|||n/2^k%2:Nat):Int):=by rw[Y7 n k om];have:=Nn (m*2) (n/2^k%2) om om;rw[<-this];push_cast;rfl
theorem Z08 (x n k r:Nat)(F:x<256)(H:n<65536)(I:r<8):bits .or .u8 (x:Int) (bits .and .i64 ((n:Int)/2^k) 1%256*2^r%256)=((x|||n/2^k%2*2^r:Nat):Int):=by rw[Y7 n k om];have G:=Wd (x:=n/2^k) (BP (k:=r) om);(have e:(((n/2^k%2:Nat):Int)%256*2^r%256)=((n/2^k%2*2^r:Nat):Int):=by have E:((n/2^k%2:Nat):Int)%256=((n/2^k%2:Nat):Int):=om;(have e2:(((n/2^k%2:Nat):Int)*2^r)=((n/2^k%2*2^r:Nat):Int):=by push_cast;rfl);rw[E,e2];omega);rw[e];exact u8_or_nat _ _ F om
theorem Qf (n k r i:Nat):(n/2^k%2*2^r).testBit i=(decide (i=r)&&n.testBit k):=by rw[Nat.testBit_mul_two_pow];(have h:∀j,(n/2^k%2).testBit j=(decide (j=0)&&n.testBit k):=by intro j;have:=Nat.testBit_mod_two_pow (n/2^k) 1 j;rw[Nat.pow_one]at this;rw[this,Nat.testBit_div_two_pow];by_cases E:j=0;subst E;simp;simp[E]);rw[h];by_cases hi:i=r;subst hi;simp;by_cases hl:r<=i;have:i-r≠0:=om;simp[hi,this];simp[hi,hl]
def Ip (n:Nat):Nat->Nat
 |0=>0
 |k+1=>Ip n k*2|||n/2^k%2
theorem Qc (n:Nat):∀k i,(Ip n k).testBit i=(decide (i<k)&&n.testBit (k-1-i))
 |0,i=>by simp[Ip]
 |k+1,i=>by have F:=Qf n k 0 i;rw[Nat.pow_zero,Nat.mul_one]at F;have E:=Nat.testBit_mul_two_pow (Ip n k) i 1;rw[Nat.pow_one]at E;rw[Ip,Nat.testBit_or,F,E,Qc n k (i-1)];by_cases hi:i=0;subst hi;simp;have e:k+1-1-i=k-1-(i-1):=om;(have e2:(i-1<k)=(i<k+1):=by apply propext;omega);have e3:1<=i:=om;rw[e];simp only[e2,hi,e3,decide_true,ZF,decide_false,Bool.false_and,Bool.or_false]
theorem TG (n k:Nat):Ip n k<2^k:=by apply Nat.lt_pow_two_of_testBit;intro i hi;rw[Qc];have:¬i<k:=om;simp[this]
def Iq (xs:List Nat)(k:Nat):Bool:=(xs.getD (k/8) 0).testBit (k%8)
theorem CZ (xs:List Nat)(i j v:Nat):(xs.set i v).getD j 0=if i=j/\i<xs.length then v else xs.getD j 0:=by rw[WZ,YM,WZ];by_cases e:i=j;subst e;by_cases h:i<xs.length;simp[h];simp[h];simp[e]
def arr (c:Nat->Nat):Array Value:=((List.range 16).map fun n=>Value.int .i64 ((c n:Nat):Int)).toArray
theorem Fm (c:Nat->Nat):(arr c).size=16:=by simp[arr]
theorem RT (c:Nat->Nat){j:Nat}(E:j<16):(arr c)[j]? =some (.int .i64 ((c j:Nat):Int)):=by simp[arr,E]
theorem Z5r (c:Nat->Nat):(arr c).all (·.oneCell')=true:=by rw[Array.all_eq_true];intro i hi;simp[arr,Value.oneCell']
def upd (c:Nat->Nat)(j x:Nat):Nat->Nat:=fun n=>if n=j then x else c n
theorem Z5q (c:Nat->Nat)(j x:Nat):(arr c).setIfInBounds j (.int .i64 ((x:Nat):Int))=arr (upd c j x):=by apply Array.ext_getElem?;intro i;rw[Array.getElem?_setIfInBounds];by_cases h:i<16;rw[RT _ h,Fm,RT _ h];by_cases e:j=i;subst e;simp[h,upd];simp[e,upd,Ne.symm e];rw[Fm];(have E:∀f,(arr f)[i]? =none:=fun f=>by simp[Fm];omega);rw[E,E];by_cases e:j=i;subst e;simp[h];simp[e]
def cnt (l:List Int)(n:Nat):Nat:=l.count (n:Int)
def takenN (c:Nat->Nat):Nat->Nat
 |0=>0
 |k+1=>takenN c k+c (k+1)*2^(14-k)
def Az (c:Nat->Nat):Nat->Nat
 |0=>0
 |1=>0
 |n+2=>2*(Az c (n+1)+c (n+1))
theorem Vy (l:List Int)(n:Nat):cnt l n<=l.length:=YI
theorem Zx (c:Nat->Nat){m:Nat}(E:∀n,c n<=m):∀k,takenN c k<=k*(m*32768)
 |0=>by simp[takenN]
 |k+1=>by have G:=Zx c E k;have F:c (k+1)*2^(14-k)<=m*32768:=Nat.mul_le_mul (E _) (by have:=VO (n:=2) od (show 14-k<=15 by omega);omega);rw[takenN,ZD];omega
theorem Kr (c:Nat->Nat):∀k,k<=14->Az c (k+1)*2^(14-k)=takenN c k
 |0,_=>by simp[Az,takenN]
 |k+1,h=>by have ih:=Kr c k om;have e:14-k=(14-(k+1))+1:=om;rw[takenN,<-ih,Az,e,XC];generalize 2^(14-(k+1))=p;rw[<-ZW,YF p 2,<-XY,YF 2]
theorem EQ (c:Nat->Nat){j k:Nat}(E:j<=k):takenN c j<=takenN c k:=by
 induction E with
 |refl=>exact VB _
 |step _ ih=>exact VU ih (ZS _ _)
theorem GX (c:Nat->Nat)(G:takenN c 15<=32768){n:Nat}(F:1<=n)(E:n<=15):Az c n+c n<=2^n:=by obtain⟨k,rfl⟩:∃k,n=k+1:=⟨n-1,om⟩;have e:=Kr c k om;have m:=EQ c (show k+1<=15 by omega);rw[takenN]at m;(have m2:(Az c (k+1)+c (k+1))*2^(14-k)<=2^(k+1)*2^(14-k):=by rw[ZW,e,<-Nat.pow_add];have:k+1+(14-k)=15:=om;rw[this];omega);exact Nat.le_of_mul_le_mul_right m2 (Nat.pow_pos od)
theorem L5 (c:Nat->Nat)(m:Nat)(G:1<=m):∀d,1<=d->(Az c m+c m)*2^d<=Az c (m+d)
 |0,h=>om
 |d+1,_=>by obtain⟨k,rfl⟩:∃k,m=k+1:=⟨m-1,om⟩;(have e:Az c (k+1+(d+1))=2*(Az c (k+1+d)+c (k+1+d)):=by have:k+1+(d+1)=(k+d)+2:=om;have F:k+1+d=(k+d)+1:=om;rw[this,Az,F]);rw[e,XC];by_cases E:d=0;subst E;simp;omega;have:=L5 c (k+1) G d om;rw[<-XY];omega
def Rc (n:Int):Bool:=decide (0<=n/\n<=15)
theorem Dw {n:Int}(E:Rc n=true):0<=n/\n<=15:=of_decide_eq_true E
theorem Hw {n:Int}(E:Rc n=false):¬(0<=n/\n<=15):=of_decide_eq_false E
theorem Ih (l:List Int){k n:Nat}(E:k<l.length)(F:l.getD k 0=(n:Int)):upd (cnt (l.take k)) n (cnt (l.take k) n+1)=cnt (l.take (k+1)):=by funext m;(have e:l[k]=(n:Int):=by simpa[List.getD,E]using F);simp only[upd,cnt];rw[XB E,List.count_append,e];by_cases h:m=n;subst h;simp;(have:((n:Int)==(m:Int))=false:=by rw[beq_eq_false_iff_ne];omega);simp[h,List.count_cons,this]
def errL (l:List Int):Int:=if 288<l.length then 2 else if ∃j,j<l.length/\Rc (l.getD j 0)=false then 3 else if 32768<takenN (cnt l) 15 then 8 else 0
def QP (l:List Int):Nat->Nat:=if errL l=0 then cnt l else fun _=>0
structure Good (l:List Int):Prop where
 len:l.length<=288
 ok:∀j,j<l.length->0<=l.getD j 0/\l.getD j 0<=15
 room:takenN (cnt l) 15<=32768
theorem Ch {l:List Int}(E:errL l=0):Good l:=by
 unfold errL at E;split at E;. cases E
 . split at E;. cases E
   . split at E;. cases E
     . rename_i I F H;refine⟨om,fun j G=> ?_,om⟩
       cases e:Rc (l.getD j 0)with
       |true=>exact Dw e
       |false=>exact absurd ⟨j,G,e⟩ F
theorem J6 {l:List Int}(E:Good l):errL l=0:=by unfold errL;rw[if_neg (oI E.len),if_neg,if_neg (oI E.room)];rintro ⟨j,F,e⟩;exact Hw e (E.ok j F)
def codeN (l:List Int)(i:Nat):Nat:=if (l.getD i 0).toNat=0 then 0 else Az (cnt l) (l.getD i 0).toNat+cnt (l.take i) (l.getD i 0).toNat
def St (l:List Int):Nat->List Nat
 |0=>List.replicate l.length 0
 |k+1=>(St l k).set k (codeN l k)
theorem Du (l:List Int):∀k,(St l k).length=l.length
 |0=>by simp[St]
 |k+1=>by rw[St,XS,Du l k]
theorem Yp (l:List Int){j:Nat}(E:j<l.length):∀k,(St l k).getD j 0=if j<k then codeN l j else 0
 |0=>by simp[St,List.getD,E]
 |k+1=>by have ih:=Yp l E k;simp only[St,WZ,YM,Du]at ih ⊢;by_cases e:k=j;subst e;simp[E];rw[if_neg e,ih];by_cases h:j<k;have:j<k+1:=om;simp[h,this];have:¬j<k+1:=om;simp[h,this]
theorem QN (l:List Int)(k:Nat)(G:codeN l k=0):St l (k+1)=St l k:=by rw[St,G];by_cases E:k<l.length;have e:=Yp l E k;rw[if_neg om]at e;(have F:k<(St l k).length:=by rw[Du];exact E);(have e2:(St l k)[k]=0:=by simpa[List.getD,F]using e);apply List.ext_getElem?;intro i;rw[YM];by_cases hi:k=i;subst hi;simp[F,e2];simp[hi];rw[List.set_eq_of_length_le (by rw[Du];omega)]
def nxt (l:List Int)(k:Nat):Nat->Nat:=fun n=>if n=0 then 0 else Az (cnt l) n+cnt (l.take k) n
theorem Z0o (l:List Int)(n:Nat):nxt l 0 n=Az (cnt l) n:=by unfold nxt;by_cases e:n=0;subst e;rfl;simp[e,cnt]
theorem Z0p (l:List Int){k n:Nat}(F:k<l.length)(E:l.getD k 0=(n:Int))(G:0<n):upd (nxt l k) n (nxt l k n+1)=nxt l (k+1):=by have h:=Ih l F E;funext m;have hm:=congrFun h m;simp only[upd,nxt]at hm ⊢;by_cases e:m=n;subst e;have:¬m=0:=om;simp[this]at hm ⊢;omega;simp[e]at hm ⊢;rw[hm]
theorem Z0q (l:List Int){k:Nat}(F:k<l.length)(E:l.getD k 0=((0:Nat):Int)):nxt l k=nxt l (k+1):=by have h:=Ih l F E;funext m;have hm:=congrFun h m;simp only[upd,nxt]at hm ⊢;by_cases e:m=0;simp[e];simp[e]at hm ⊢;rw[hm]
theorem Gh (l:List Int){k n:Nat}(E:l.getD k 0=(n:Int)):codeN l k=nxt l k n:=by unfold codeN nxt;rw[E,WM]
theorem QO {l:List Int}(E:Good l):QP l=cnt l:=by unfold QP;rw[J6 E];rfl
theorem AA (l:List Int){k n:Nat}(F:k<l.length)(E:l.getD k 0=(n:Int)):cnt (l.take k) n<cnt l n:=by have h:=congrFun (Ih l F E) n;simp only[upd,if_pos]at h;(have G:cnt (l.take (k+1)) n<=cnt l n:=by unfold cnt;exact List.Sublist.count_le _ (List.take_sublist _ _));omega
theorem Ig (l:List Int)(H:Good l){k n:Nat}(F:k<l.length)(G:l.getD k 0=(n:Int))(T:0<n):Az (cnt l) n<=codeN l k/\codeN l k<Az (cnt l) n+cnt l n/\codeN l k<2^n:=by have E:=Gh l G;have M:=AA l F G;(have I:n<=15:=by have:=(H.ok k F).2;omega);have O:=GX (cnt l) H.room (n:=n) om I;unfold nxt at E;rw[if_neg om]at E;omega
def Qy (l:List Int)(m:Nat):Nat->List Nat
 |0=> []
 |k+1=>Qy l m k++(if l.getD k 0=(m:Int)then [k]else [])
theorem Hu (l:List Int)(m:Nat):∀k,k<=l.length->(Qy l m k).length=cnt (l.take k) m
 |0,_=>by simp[Qy,cnt]
 |k+1,hk=>by have ih:=Hu l m k om;have E:k<l.length:=om;rw[Qy,VE,ih,cnt,cnt,XB E,List.count_append];(have e:l.getD k 0=l[k]:=by simp[List.getD,E]);rw[e];by_cases h:l[k]=(m:Int);simp[h];simp[h]
theorem BR (l:List Int)(m:Nat):∀k d,∃r,Qy l m (k+d)=Qy l m k++r
 |k,0=>⟨[],oS⟩
 |k,d+1=>by obtain⟨r,hr⟩:=BR l m k d;refine⟨r++(if l.getD (k+d) 0=(m:Int)then [k+d]else []), ?_⟩;rw[<-WT,Qy,hr,VS]
theorem W0 (l:List Int){m p:Nat}(F:p<l.length)(E:l.getD p 0=(m:Int)):(Qy l m l.length)[cnt (l.take p) m]? =some p:=by obtain⟨r,hr⟩:=BR l m (p+1) (l.length-(p+1));rw[show p+1+(l.length-(p+1))=l.length by omega]at hr;rw[hr,Qy,if_pos E];have h:=Hu l m p om;rw[VS,VX om,h];simp
def Z7d (bs:List Nat)(p:Nat):Nat:=bs.getD (p/8) 0/2^(p%8)%2
def Ce (bs:List Nat)(p:Nat):Nat->Nat
 |0=>0
 |k+1=>2*Ce bs p k+Z7d bs (p+k)
theorem RL (bs:List Nat)(p:Nat):Z7d bs p<2:=Nat.mod_lt _ od
theorem Ss (bs:List Nat)(p:Nat):∀k,Ce bs p k<2^k
 |0=>by simp[Ce]
 |k+1=>by have F:=Ss bs p k;have E:=RL bs (p+k);rw[Ce,XC];omega
def Hit (l:List Int)(bs:List Nat)(p k:Nat):Prop:=Az (cnt l) k<=Ce bs p k/\Ce bs p k<Az (cnt l) k+cnt l k
def Ta (l:List Int)(bs:List Nat)(p x:Nat)(err:Int)(p':Nat):Prop:=
 (∃k,1<=k/\k<=15/\(∀j,1<=j->j<k->¬Hit l bs p j)/\p+k<=8*bs.length/\Hit l bs p k/\p'=p+k/\err=0/\(Qy l k l.length)[Ce bs p k-Az (cnt l) k]? =some x)\/
 (∃k,k<15/\(∀j,1<=j->j<=k->¬Hit l bs p j)/\p+k=8*bs.length/\p'=p+k/\err=7/\x=0)\/
 ((∀j,1<=j->j<=15->¬Hit l bs p j)/\p+15<=8*bs.length/\p'=p+15/\err=8/\x=0)
theorem Z0b (l:List Int){k i:Nat}(E:i<cnt l k):∃x,(Qy l k l.length)[i]? =some x:=by have hl:=Hu l k l.length (VB _);rw[ZK]at hl;exact⟨(Qy l k l.length)[i],oS⟩
theorem R5 (c i:Nat):(c.testBit i).toNat=c/2^i%2:=by rw[Nat.testBit_eq_decide_div_mod_eq];have:=Nat.mod_lt (c/2^i) (show 0<2 by decide);by_cases h:c/2^i%2=1;simp[h];have E:c/2^i%2=0:=om;simp[E]
theorem Z5m (bs:List Nat)(q:Nat):Z7d bs q=(Iq bs q).toNat:=by unfold Z7d Iq;rw[R5]
theorem V1 (l:List Int)(T:Good l){i k m n:Nat}(G:i<l.length)(H:k<l.length)(E:l.getD i 0=(m:Int))(F:l.getD k 0=(n:Int))(U:i≠k)(Z:0<m)(af:m<=n):codeN l k/2^(n-m)≠codeN l i:=by obtain⟨ac,ae,ah⟩:=Ig l T G E Z;obtain⟨b1,b2,ag⟩:=Ig l T H F om;by_cases e:m=n;subst e;rw[XW,Nat.pow_zero,Nat.div_one];intro h;have I:=W0 l G E;have e2:=W0 l H F;have O:=Gh l E;have M:=Gh l F;unfold nxt at O M;rw[if_neg om]at O M;have:cnt (l.take i) m=cnt (l.take k) m:=om;rw[this,e2]at I;exact U (VM I).symm;have Y:=L5 (cnt l) m om (n-m) om;rw[show m+(n-m)=n by omega]at Y;have aa:Az (cnt l) m+cnt l m<=codeN l k/2^(n-m):=(Nat.le_div_iff_mul_le (Nat.pow_pos od)).2 om;omega
def hb (c:Nat):Nat->List Bool
 |0=> []
 |n+1=>hb (c/2) n++ [decide (c%2=1)]
theorem Bd:∀n c,(hb c n).length=n
 |0,_=>rfl
 |n+1,c=>by simp[hb,Bd n]
theorem OW:∀n,hb 0 n=List.replicate n false
 |0=>rfl
 |n+1=>by rw[hb,Nat.zero_div,OW n,YY];rfl
theorem Z2u (c n:Nat):∀d,hb (c*2^d) (n+d)=hb c n++List.replicate d false
 |0=>oS
 |d+1=>by(have e:c*2^(d+1)=2*(c*2^d):=by rw[XC];rw[<-XY,YF]);rw[show n+(d+1)=(n+d)+1 by omega,hb,e];have E:2*(c*2^d)/2=c*2^d:=om;have e2:2*(c*2^d)%2=0:=om;rw[E,e2,Z2u c n d,YY,VS];rfl
theorem Z2v:∀n c,c+1<2^n->∃a t,hb c n=a++false::List.replicate t true/\hb (c+1) n=a++true::List.replicate t false
 |0,c,h=>by simp at h
 |n+1,c,h=>by rw[XC]at h;by_cases hc:c%2=0;refine⟨hb (c/2) n,0, ?_, ?_⟩;rw[hb,hc];rfl;rw[hb,show (c+1)/2=c/2 by omega,show (c+1)%2=1 by omega];rfl;obtain⟨a,t,F,E⟩:=Z2v n (c/2) om;refine⟨a,t+1, ?_, ?_⟩;rw[hb,F,show c%2=1 by omega,YY,VS];rfl;rw[hb,show (c+1)/2=c/2+1 by omega,E,show (c+1)%2=0 by omega,YY,VS];rfl
def Bu (l:List Int):Nat->List (Int×Int)
 |0=> []
 |k+1=>Bu l k++(if 0<l.getD k 0 then [(l.getD k 0,(k:Int))]else [])
def wt (x:Int×Int):Nat:=2^(15-x.1.toNat)
instance (x y:Int×Int):Decidable (Stab.lx x y):=by unfold Stab.lx;infer_instance
def Ol (p:Int×Int):List (Int×Int)->Nat
 | []=>0
 |x::r=>(if Stab.lx x p then wt x else 0)+Ol p r
theorem Ep (p:Int×Int):∀xs ys,Ol p (xs++ys)=Ol p xs+Ol p ys
 | [],ys=>by simp[Ol]
 |x::r,ys=>by simp only[XL,Ol,Ep p r ys];omega
theorem RC (p:Int×Int){xs ys:List (Int×Int)}(E:xs.Perm ys):Ol p xs=Ol p ys:=by
 induction E with
 |nil=>rfl
 |cons x _ ih=>simp only[Ol,ih]
 |swap x y l=>simp only[Ol];omega
 |trans _ _ h1 h2=>exact h1.trans h2
theorem Qg (c:Nat->Nat)(m:Nat)(H:1<=m)(G:m<=15):∀j,j<=15->takenN (upd c m (c m+1)) j=takenN c j+(if m<=j then 2^(15-m)else 0)
 |0,_=>by simp[takenN];omega
 |j+1,h=>by have ih:=Qg c m H G j om;rw[takenN,takenN,ih];by_cases e:j+1=m;subst e;have F:¬(j+1<=j):=om;have E:15-(j+1)=14-j:=om;simp only[upd,if_pos,F,if_false,VB,E,ZW,Nat.one_mul];omega;simp only[upd,if_neg e];by_cases F:m<=j;have E:m<=j+1:=om;simp[F,E];omega;have E:¬m<=j+1:=om;simp[F,E]
theorem Nd (c:Nat->Nat)(x:Nat):∀j,takenN (upd c 0 x) j=takenN c j
 |0=>rfl
 |j+1=>by rw[takenN,takenN,Nd c x j];simp[upd]
theorem O3 (l:List Int)(M:Good l)(n q:Nat)(T:1<=n)(U:n<=15):∀k,k<=l.length->Ol ((n:Int),(q:Int)) (Bu l k)=takenN (cnt (l.take k)) (n-1)+cnt (l.take (min k q)) n*2^(15-n)
 |0,_=>by
  have e:∀j,takenN (cnt []) j=0:=fun j=>by
   induction j with
   |zero=>rfl
   |succ j ih=>rw[takenN,ih];simp[cnt]
  simp[Bu,Ol,e,cnt]
 |k+1,hk=>by have ih:=O3 l M n q T U k om;have I:k<l.length:=om;have O:=M.ok k I;obtain⟨m,hm⟩:=WF O.1;have hc:=Ih l I hm;(have ac:cnt (l.take (k+1)) n=cnt (l.take k) n+(if n=m then 1 else 0):=by rw[<-hc];simp only[upd];by_cases e:n=m;subst e;simp;simp[e]);(have ae:cnt (l.take (min (k+1) q)) n=cnt (l.take (min k q)) n+(if k<q/\n=m then 1 else 0):=by by_cases H:k<q;rw[YP om,YP om,ac];simp[H];rw[YG om,YG om];simp[H]);rw[Bu,Ep,ih,ae,<-hc,hm];(have aa:m<=15:=by rw[hm]at O;omega);by_cases Z:m=0;subst Z;rw[Nd];have:¬n=0:=om;simp[Ol,this];rw[Qg _ m om aa (n-1) om];have Y:(0:Int)<(m:Int):=om;rw[if_pos Y];simp only[Ol,wt,WM,XN];(have G:Stab.lx ((m:Int),(k:Int)) ((n:Int),(q:Int))↔(m<=n-1\/ (n=m/\k<q)):=by unfold Stab.lx;constructor<;>intro h<;>omega);by_cases F:m<=n-1;have E:¬(k<q/\n=m):=om;rw[if_pos (G.2 (.inl F)),if_pos F,if_neg E,XN];omega;by_cases E:k<q/\n=m;rw[if_pos (G.2 (.inr ⟨E.2,E.1⟩)),if_neg F,if_pos E,ZW,Nat.one_mul,E.2];omega;rw[if_neg (fun h=>by have:=G.1 h;omega),if_neg F,if_neg E,XN,XN,XN]
theorem RD (l:List Int)(E:Good l){n q:Nat}(F:q<l.length)(H:l.getD q 0=(n:Int))(I:0<n):Ol ((n:Int),(q:Int)) (Bu l l.length)=codeN l q*2^(15-n):=by(have G:n<=15:=by have:=(E.ok q F).2;omega);rw[O3 l E n q om G l.length (VB _),ZK,YG om];have h:=Kr (cnt l) (n-1) om;have e:=Gh l H;unfold nxt at e;rw[if_neg om]at e;rw[e,ZW,<-h,show n-1+1=n by omega,show 14-(n-1)=15-n by omega]
def vsum (d:Nat->Int×Int):Nat->Nat
 |0=>0
 |i+1=>vsum d i+wt (d i)
theorem Z20 (d:Nat->Int×Int)(p:Int×Int):∀a b,Ol p (Stab.seg d a (a+b))=(List.range b).foldl (fun s i=>s+if Stab.lx (d (a+i)) p then wt (d (a+i))else 0) 0
 |a,0=>by simp[Stab.seg,Ol]
 |a,b+1=>by rw[Stab.seg_split d a (a+b) (a+(b+1)) om om,Ep,Z20 d p a b,List.range_succ,List.foldl_append];(have:Stab.seg d (a+b) (a+(b+1))= [d (a+b)]:=by unfold Stab.seg;rw[show a+(b+1)-(a+b)=1 by omega];simp);rw[this];simp[Ol]
theorem Wa (d:Nat->Int×Int)(p:Int×Int):∀i,(∀j,j<i->Stab.lx (d j) p)->Ol p (Stab.seg d 0 i)=vsum d i
 |0,_=>by simp[Stab.seg,Ol,vsum]
 |i+1,h=>by rw[Stab.seg_split d 0 i (i+1) om om,Ep,Wa d p i (fun j E=>h j om),vsum];(have:Stab.seg d i (i+1)= [d i]:=by unfold Stab.seg;rw[show i+1-i=1 by omega];simp);rw[this];simp[Ol,h i om]
theorem Wb (d:Nat->Int×Int)(p:Int×Int)(a:Nat):∀b,(∀j,a<=j->j<a+b->¬Stab.lx (d j) p)->Ol p (Stab.seg d a (a+b))=0
 |0,_=>by simp[Stab.seg,Ol]
 |b+1,h=>by rw[Stab.seg_split d a (a+b) (a+(b+1)) om om,Ep,Wb d p a b (fun j E F=>h j E om)];(have:Stab.seg d (a+b) (a+(b+1))= [d (a+b)]:=by unfold Stab.seg;rw[show a+(b+1)-(a+b)=1 by omega];simp);rw[this];simp[Ol,h (a+b) om om]
theorem Z6o (x:Int×Int):¬Stab.lx x x:=by unfold Stab.lx;omega
theorem Z12 {x y:Int×Int}(E:Stab.lx x y):¬Stab.lx y x:=by unfold Stab.lx at*;omega
theorem AF (d:Nat->Int×Int)(N:Nat)(E:Stab.Srt Stab.lx d 0 N){i:Nat}(F:i<N):Ol (d i) (Stab.seg d 0 N)=vsum d i:=by
 rw[Stab.seg_split d 0 i N om om,Ep,Wa d (d i) i (fun j G=>E j i (VH _) G F)]
 have:=Wb d (d i) i (N-i) (fun j I H=>by
  by_cases e:j=i
  . subst e;exact Z6o _
  . exact Z12 (E i j (VH _) om om))
 rw[show i+(N-i)=N by omega]at this;rw[this,XN]
def codeT (l:List Int)(q:Nat):List Bool:=hb (codeN l q) (l.getD q 0).toNat
end Go.Proofs.YtleocpdblhbimaaGreatDoor
