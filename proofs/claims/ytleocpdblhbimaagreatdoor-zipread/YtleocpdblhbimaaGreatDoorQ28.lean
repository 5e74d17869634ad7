import Derived.Test.YtleocpdblhbimaaGreatDoorQ27
import Derived.Deep.OwnRows
set_option linter.unusedSimpArgs false
set_option linter.unusedVariables false
set_option maxHeartbeats 4000000
namespace Go.Proofs.YtleocpdblhbimaaGreatDoor
open Go.RowKit
theorem Mg (xs:List Int)(i j:Nat)(v:Int):(xs.set i v).getD j 0=if i=j/\i<xs.length then v else xs.getD j 0:=by
 simp only[List.getD];rw[YM]
 by_cases e:i=j
 . subst e
   by_cases h:i<xs.length
   . simp[h]
   . simp[h]
 . simp[e]
theorem Kw (xs:List Int)(p:Nat):(Tb xs p).length=xs.length:=by simp[Tb]
theorem Ca:∀(E:List Nat) (xs:List Int),(Cq xs E).length=xs.length
 | [],xs=>rfl
 |p::E,xs=>by
  show (Cq (Tb xs p) E).length=_
  rw[Ca E,Kw]
theorem JE (xs:List Int)(E:List Nat)(p:Nat):Cq xs (E++ [p])=Tb (Cq xs E) p:=by simp[Cq]
theorem JF {xs:List Int}{c:Int}(E:∀j,0<=xs.getD j 0/\xs.getD j 0<=c)(p:Nat):∀j,0<=(Tb xs p).getD j 0/\(Tb xs p).getD j 0<=c+1:=by
 intro j;have F:=E j;have G:=E p;unfold Tb;rw[Mg]
 split<;>omega
theorem Kv:∀(E:List Nat) {xs:List Int} {c:Int},(∀j,0<=xs.getD j 0/\xs.getD j 0<=c)->∀j,0<=(Cq xs E).getD j 0/\(Cq xs E).getD j 0<=c+E.length
 | [],xs,c,h=>by simpa[Cq]using h
 |p::E,xs,c,h=>by
  intro j;have:=Kv E (JF h p) j
  simp only[VJ];show 0<=(Cq (Tb xs p) E).getD j 0/\(Cq (Tb xs p) E).getD j 0<=_
  omega
theorem Je (F n c:Nat)(xs:List Int)(a:Option Addr)(m af:Nat)(E:List Nat)(w:World)(ai:xs.length=n)(az:E.length=m)(a4:n<=288)(ay:m<=288)(ac:WRow w F xs)(ae:RowIn .i64 w a (ni E))(ak:∀b o,a=some ⟨b,o,none⟩->b≠F)
 (O:∀p∈E,p<n) (T:∀j,0<=xs.getD j 0/\xs.getD j 0<=100000):
 Calls Tryz.prog 259 #[.slice (some ⟨F,0,none⟩) n c,.slice a m af] w fun e w'=>e=.returned (.tuple #[])/\WRow w' F (Cq xs E)/\w.grownBy w' (some F):=by
 have au:=Ab ac;have av:=Ab ae;have ar:=Ab O;have ap:=Ab T;clear ac ae O T;go_enter Tryz.func259,Tryz.ntmps259
 go_wp2;go_loopw [5,8] (fun _ i wr=>∃k:Nat,k<=m/\i=.int .i64 k/\WRow wr F (Cq xs (E.take k))/\w.grownBy wr (some F)) (fun _ i _=>m-(intOf i).toNat)
 case atStart=>exact⟨0,VH _,rfl,Aa au,Aw _ _⟩
 case round=>
  obtain⟨k,a2,rfl,G,H⟩:=hrel;have Y:=Ab G;have al:=Ab H
  by_cases O:k<m
  . have M:k<E.length:=by omega
    obtain⟨b,o,rfl,T,Z⟩:∃b o,a=some ⟨b,o,none⟩/\b<w.heap.size/\Row .i64 w b o (ni E):=by
     rcases Aa av with h|h
     . simp at h;subst h;simp at M
     . exact h
    have ah:=ak b o rfl;obtain⟨p,I⟩:∃p,p=E[k]:=⟨_,rfl⟩
    have a3:p<n:=by rw[I];exact Aa ar _ (WK _)
    have c1:=H.cell (Z k (by simpa using M)) (by simpa using ah);have U:(ni E).getD k 0=(p:Int):=by simp[List.getD,M,I]
    rw[U]at c1;have a1:(Cq xs (E.take k)).length=n:=by rw[Ca,ai]
    have af:=(G.at_ p (by omega)).1;have f2:=(G.at_ p (by omega)).2;have a5:=Kv (E.take k) (Aa ap) p;have aw:(E.take k).length<=288:=by simp;omega
    have ao:Hid (Cq xs (E.take (k+1))=(Cq xs (E.take k)).set p ((Cq xs (E.take k)).getD p 0+1)):=by
     rw[XB M,JE,<-I];exact rfl
    have aa:=Ab (G.set p (by omega) ((Cq xs (E.take k)).getD p 0+1));have aj:=Ab (Aj H (Ad wr F p (.int .i64 ((Cq xs (E.take k)).getD p 0+1))));have ax:(p:Int)<(n:Int):=by omega
    rw[<-Aa ao]at aa;clear G H Z I U;generalize (Cq xs (E.take k)).getD p 0=x at*;go_wp2;go_roundw
    case rel=>exact⟨k+1,by omega,by go_num,Aa aa,Aa aj⟩
    case measure=>simp[intOf];omega
  . obtain rfl:k=m:=by omega
    have ag:Hid (WRow wr F (Cq xs E)):=by rw[VV (by omega)]at Y;exact Y
    clear G H;go_wp2;go_end0
    exact⟨rfl,Aa ag,Aa al⟩
def part (f:Nat->Int)(m:Nat):Nat->List Int
 |0=>List.replicate m 0
 |k+1=>(part f m k).set k (f k)
theorem Ay (f:Nat->Int)(m:Nat):∀k,(part f m k).length=m
 |0=>by simp[part]
 |k+1=>by rw[part,XS,Ay f m k]
theorem D3 (f:Nat->Int)(m:Nat):∀k j,j<m->(part f m k).getD j 0=if j<k then f j else 0
 |0,j,hj=>by simp[part,List.getD,hj]
 |k+1,j,hj=>by
  rw[part,Mg,Ay,D3 f m k j hj]
  by_cases e:k=j
  . subst e;rw[if_pos ⟨rfl,hj⟩,if_pos (by omega)]
  . rw[if_neg (by omega)]
    by_cases h:j<k
    . rw[if_pos h,if_pos (by omega)]
    . rw[if_neg h,if_neg (by omega)]
theorem Xo (f:Nat->Int)(m:Nat)(xs:List Int)(I:xs.length=m)(H:∀j,j<m->xs.getD j 0=f j):part f m m=xs:=by
 apply XK
 . rw[Ay,I]
 . intro i E G;rw[Ay]at E;have F:=D3 f m m i E;rw[if_pos E,<-H i E]at F;simpa[List.getD,Ay,E,G]using F
theorem Rh (n:Nat):(madeCells #[Value.int .i64 0] n).toList=iv (List.replicate n 0):=by
 rw[toList_madeCells_one];simp
set_option maxRecDepth 100000 in
theorem Wk (a:Option Addr)(E ax:Nat)(l:List Int)(U:Option Addr)(m ai:Nat)(P:List Nat)(w:World)(av:l.length=E)(ae:P.length=m)(bf:m<=288)(ba:E<=288)(al:RowIn .i64 w a l)(ag:RowIn .i64 w U (ni P))(O:∀p∈P,p<E):
 Calls Tryz.prog 261 #[.slice a E ax,.slice U m ai] w fun e w'=>∃g,e=.returned (.slice (some ⟨g,0,none⟩) m m)/\WRow w' g (P.map fun p=>l.getD p 0)/\Below w.heap.size w w'/\w.heap.size<=g:=by
 obtain⟨ar,hi,a2,a5,a4⟩:=info_parts Bv;have a8:=Ab al;have au:=Ab ag;have a6:=Ab O;clear al ag O;go_enter Tryz.func261,Tryz.ntmps261
 go_wp2_with (at_make;refine wpList_make_full _ rfl _ _ 76 rfl w.heap.size 3 ar (.int .i64 0) 1 Tryz.underlying76 hi a2 a5 _ _ _ _ m rfl rfl rfl rfl (by rw[a4];omega) (by unfold maxLen;omega) (by simp) ?_)
 intro a9 T aj;have e0:(madeCells #[Value.int .i64 0] m).toList=iv (part (fun k=>l.getD (P.getD k 0) 0) m 0):=Rh m;rw[e0]at T;have ak:=WRow.own T;have az:=Ab ak;have a7:=Ab ((Below.refl w.heap.size w).grown aj (VB _) (fun j h=>by cases h));clear T aj e0 ak;generalize Y:w.heap.size=g at*;have M:=Ab Y;clear Y;go_wp2;go_loopw [6,7,13] (fun _ _ i wr=>∃k:Nat,k<=m/\i=.int .i64 k/\WRow wr g (part (fun k=>l.getD (P.getD k 0) 0) m k)/\Below g w wr) (fun _ _ i _=>m-(intOf i).toNat)
 case atStart=>exact⟨0,VH _,rfl,Aa az,Aa a7⟩
 case round=>
  obtain⟨k,bh,rfl,F,G⟩:=hrel;have ac:=Ab F;have ay:=Ab G
  by_cases O:k<m
  . have I:k<P.length:=by omega
    obtain⟨b2,o2,rfl,ao,Z⟩:∃b o,U=some ⟨b,o,none⟩/\b<w.heap.size/\Row .i64 w b o (ni P):=by
     rcases Aa au with h|h
     . simp at h;subst h;simp at I
     . exact h
    obtain⟨p,H⟩:∃p,p=P[k]:=⟨_,rfl⟩
    have bi:p<E:=by rw[H];exact Aa a6 _ (WK _)
    obtain⟨b,o,rfl,hb,af⟩:∃b o,a=some ⟨b,o,none⟩/\b<w.heap.size/\Row .i64 w b o l:=by
     rcases Aa a8 with rfl|h
     . simp at av;omega
     . exact h
    rw[Aa M]at hb ao;have c1:=(G.cell (p:=⟨b2,o2+k,none⟩) ao).trans (Z k (by simpa using I));have aa:(ni P).getD k 0=(p:Int):=by simp[List.getD,I,H]
    have e2:P.getD k 0=p:=by simp[List.getD,I,H]
    rw[aa]at c1;have ai:=(G.cell (p:=⟨b,o+p,none⟩) hb).trans (af p (by omega));have bg:=Ay (fun k=>l.getD (P.getD k 0) 0) m k;have bb:=(F.at_ k (by omega)).1;have bd:=(F.at_ k (by omega)).2;have a3:Hid (part (fun k=>l.getD (P.getD k 0) 0) m (k+1)=(part (fun k=>l.getD (P.getD k 0) 0) m k).set k (l.getD p 0)):=by rw[part,e2];exact rfl
    have ah:=Ab (F.set k (by omega) (l.getD p 0));have a1:=Ab (G.setCell (p:=⟨g,k,none⟩) (VB _) (.int .i64 (l.getD p 0)));have bc:(p:Int)<(E:Int):=by omega
    rw[<-Aa a3]at ah;clear F G af Z H aa e2;generalize (part (fun k=>l.getD (P.getD k 0) 0) m k).getD k 0=y at*;generalize l.getD p 0=x at*;go_wp2;go_roundw
    case rel=>exact⟨k+1,by omega,by go_num,Aa ah,Aa a1⟩
    case measure=>simp[intOf];omega
  . obtain rfl:k=m:=by omega
    have ap:Hid (WRow wr g (P.map fun p=>l.getD p 0)):=by
     rw[Xo (fun k=>l.getD (P.getD k 0) 0) k (P.map fun p=>l.getD p 0) (by simp[ae]) (fun j aw=>by simp[List.getD,ae,aw])]at ac;exact ac
    clear F G;go_wp2;go_ret;exact⟨g,rfl,Aa ap,by rw[Aa M];exact Aa ay,by rw[Aa M];exact VB _⟩
theorem Eo:∀xs:List Int,(prs xs).length=xs.length/2
 | []=>rfl
 | [x]=>by simp[prs]
 |x::y::t=>by
  rw[prs,VJ,Eo t];simp only[VJ];omega
theorem Ow:∀(xs:List Int) (j:Nat),j<xs.length/2->(prs xs).getD j 0=xs.getD (2*j) 0+xs.getD (2*j+1) 0
 | [],j,h=>by simp at h
 | [x],j,h=>by simp at h
 |x::y::t,0,h=>by simp[prs]
 |x::y::t,j+1,h=>by
  have:=Ow t j (by simp only[VJ]at h;omega)
  rw[prs];simp only[List.getD_cons_succ];rw[this,show 2*(j+1)=2*j+1+1 by omega];simp only[List.getD_cons_succ]
set_option maxRecDepth 100000 in
theorem MO (a:Option Addr)(n c:Nat)(xs:List Int)(w:World)(H:xs.length=n)(bd:n<=1000)(ae:RowIn .i64 w a xs)(E:∀j,0<=xs.getD j 0/\xs.getD j 0<=1000000000000):
 Calls Tryz.prog 278 #[.slice a n c] w fun e w'=>∃g,e=.returned (.slice (some ⟨g,0,none⟩) (n/2) (n/2))/\WRow w' g (prs xs)/\Below w.heap.size w w'/\w.heap.size<=g:=by
 obtain⟨ai,hi,au,ay,ax⟩:=info_parts Bv;have a2:=Ab ae;have ac:=Ab E;have aw:Hid ((n:Int)/2=((n/2:Nat):Int)):=by unfold Hid;omega
 have a3:Hid (part (fun k=>xs.getD (2*k) 0+xs.getD (2*k+1) 0) (n/2) (n/2)=prs xs):=Xo _ _ _ (by rw[Eo,H]) (fun j aj=>Ow xs j (by rw[H];exact aj));have a9:2*(n/2)<=n:=by omega
 clear ae E;generalize n/2=m at*;go_enter Tryz.func278,Tryz.ntmps278
 go_wp2_with (at_make;rw[Aa aw];refine wpList_make_full _ rfl _ _ 76 rfl w.heap.size 3 ai (.int .i64 0) 1 Tryz.underlying76 hi au ay _ _ _ _ m rfl rfl rfl rfl (by rw[ax];omega) (by unfold maxLen;omega) (by simp) ?_)
 intro a4 M aa;have e0:(madeCells #[Value.int .i64 0] m).toList=iv (part (fun k=>xs.getD (2*k) 0+xs.getD (2*k+1) 0) m 0):=Rh m;rw[e0]at M;have ag:=WRow.own M;have az:=Ab ag;have a1:=Ab ((Below.refl w.heap.size w).grown aa (VB _) (fun j h=>by cases h));clear M aa e0 ag;generalize T:w.heap.size=g at*;have O:=Ab T;clear T;go_wp2;go_loopw [4,11] (fun _ i wr=>∃k:Nat,k<=m/\i=.int .i64 k/\WRow wr g (part (fun k=>xs.getD (2*k) 0+xs.getD (2*k+1) 0) m k)/\Below g w wr) (fun _ i _=>m-(intOf i).toNat)
 case atStart=>exact⟨0,VH _,rfl,Aa az,Aa a1⟩
 case round=>
  obtain⟨k,bc,rfl,F,G⟩:=hrel;have U:=Ab F;have ak:=Ab G
  by_cases a7:k<m
  . obtain⟨b,o,rfl,E,I⟩:∃b o,a=some ⟨b,o,none⟩/\b<w.heap.size/\Row .i64 w b o xs:=by
     rcases Aa a2 with rfl|h
     . simp at H;omega
     . exact h
    rw[Aa O]at E;obtain⟨s,af⟩:∃s,s=2*k:=⟨_,rfl⟩
    obtain⟨t,Y⟩:∃t,t=2*k+1:=⟨_,rfl⟩
    have c1:=(G.cell (p:=⟨b,o+s,none⟩) E).trans (I s (by omega));have c2:=(G.cell (p:=⟨b,o+t,none⟩) E).trans (I t (by omega));have bb:=Ay (fun k=>xs.getD (2*k) 0+xs.getD (2*k+1) 0) m k;have al:=(F.at_ k (by omega)).1;have ap:=(F.at_ k (by omega)).2;have b1:=Aa ac s;have b2:=Aa ac t;have av:Hid (part (fun k=>xs.getD (2*k) 0+xs.getD (2*k+1) 0) m (k+1)=(part (fun k=>xs.getD (2*k) 0+xs.getD (2*k+1) 0) m k).set k (xs.getD s 0+xs.getD t 0)):=by rw[af,Y];exact rfl
    have Z:=Ab (F.set k (by omega) (xs.getD s 0+xs.getD t 0));have ao:=Ab (G.setCell (p:=⟨g,k,none⟩) (VB _) (.int .i64 (xs.getD s 0+xs.getD t 0)));rw[<-Aa av]at Z;have ea:(2*(k:Int)).toNat=s:=by omega
    have pa:(0:Int)<=2*(k:Int):=by omega
    have a5:2*(k:Int)<(n:Int):=by omega
    have ra:IntKind.i64.wrap (2*(k:Int))=2*(k:Int):=by rw[IntKind.wrap_i64];omega
    have ec:(2*(k:Int)+1).toNat=t:=by omega
    have pc:(0:Int)<=2*(k:Int)+1:=by omega
    have ba:2*(k:Int)+1<(n:Int):=by omega
    have a6:IntKind.i64.wrap (2*(k:Int)+1)=2*(k:Int)+1:=by rw[IntKind.wrap_i64];omega
    have a8:(k:Int)<(m:Int):=by omega
    clear F G I af Y;generalize (part (fun k=>xs.getD (2*k) 0+xs.getD (2*k+1) 0) m k).getD k 0=z at*;generalize xs.getD s 0=x at*;generalize xs.getD t 0=y at*;have rs:IntKind.i64.wrap (x+y)=x+y:=by rw[IntKind.wrap_i64];omega
    go_wp2_with fail
    go_big_region
    clear c1 c2 al ap;have ar:=Ab (Ae (Aa ao) 1);go_wp2;go_roundw
    case rel=>exact⟨k+1,by omega,by go_num,(Aa Z).drew,Aa ar⟩
    case measure=>simp[intOf];omega
  . obtain rfl:k=m:=by omega
    have ah:Hid (WRow wr g (prs xs)):=by rw[Aa a3]at U;exact U
    clear F G;go_wp2;go_ret;exact⟨g,rfl,Aa ah,by rw[Aa O];exact Aa ak,by rw[Aa O];exact VB _⟩
theorem OL:(Tryz.prog.info? 4).map (fun i=>(i.zero,i.size,i.bytes))=some (some (.bool false),1,1):=by kernel_rfl
structure BRow (w:World)(g:Nat)(xs:List Bool):Prop where
 lt:g<w.heap.size
 at_:∀j,j<xs.length->w.cell? ⟨g,j,none⟩=some (.bool (xs.getD j false))/\w.frozen? ⟨g,j,none⟩=false
theorem BRow.below {w w':World}{B E:Nat}{xs:List Bool}(F:BRow w E xs)(G:Below B w w')(H:E<B):BRow w' E xs:=
 ⟨VG F.lt G.size,fun j I=>⟨by rw[G.cell (p:=⟨E,j,none⟩) H];exact(F.at_ j I).1,by rw[G.frozen (p:=⟨E,j,none⟩) H];exact(F.at_ j I).2⟩⟩
theorem BRow.set {w:World}{G:Nat}{xs:List Bool}(E:BRow w G xs)(i:Nat)(H:i<xs.length)(v:Bool):BRow (w.setCell ⟨G,i,none⟩ (.bool v)) G (xs.set i v):=by
 refine⟨by simpa using E.lt,fun j F=> ?_⟩;rw[XS]at F;refine⟨?_,by simp[(E.at_ j F).2]⟩
 by_cases e:i=j
 . subst e;rw[World.cell?_setCell_same _ _ _ (E.at_ i F).1];simp[List.getD,H]
 . rw[World.cell?_setCell_other _ _ _ _ (by intro E;injection E;omega),(E.at_ j F).1];simp[List.getD,e]
theorem BRow.other {w:World}{F:Nat}{xs:List Bool}(E:BRow w F xs){a:Addr}(H:a.block≠F)(v:Value):BRow (w.setCell a v) F xs:=by
 refine⟨by simpa using E.lt,fun j G=>⟨?_,by simp[(E.at_ j G).2]⟩⟩;rw[World.cell?_setCell_other _ _ _ _ (by intro E;subst E;exact H rfl)];exact(E.at_ j G).1
theorem BRow.drew {w:World}{F:Nat}{xs:List Bool}(E:BRow w F xs):BRow w.drew F xs:=⟨E.lt,E.at_⟩
theorem BRow.grown {w w':World}{E:Nat}{xs:List Bool}{r:Option Nat}(F:BRow w E xs)(H:w.grownBy w' r)(I:some E≠r):BRow w' E xs:=by
 refine⟨VG F.lt H.size,fun j G=> ?_⟩;have e:=H.block E F.lt I;exact⟨by rw[World.cell?_of_block (w:=w) (a:=⟨E,j,none⟩) e];exact(F.at_ j G).1,by rw[World.frozen?_of_block (w:=w) (a:=⟨E,j,none⟩) e];exact(F.at_ j G).2⟩
theorem WRow.made (w:World)(N:Nat)(t:TypeId)(E:Nat)(H:E=w.heap.size):WRow (w.alloc (.cells (madeCells #[Value.int .i64 0] N) t)) E (List.replicate N 0):=by
 subst H;refine⟨by simp,fun j G=>⟨?_,by simp⟩⟩;rw[World.cell?_alloc_at _ _ _ _ rfl];have F:j<N:=by simpa using G
 simp[madeCells,F,List.getD,Nat.mod_one]
theorem BRow.made (w:World)(N:Nat)(t:TypeId)(E:Nat)(H:E=w.heap.size):BRow (w.alloc (.cells (madeCells #[Value.bool false] N) t)) E (List.replicate N false):=by
 subst H;refine⟨by simp,fun j G=>⟨?_,by simp⟩⟩;rw[World.cell?_alloc_at _ _ _ _ rfl];have F:j<N:=by simpa using G
 simp[madeCells,F,List.getD,Nat.mod_one]
theorem WRow.alloc {w:World}{E:Nat}{xs:List Int}(F:WRow w E xs)(o:Obj):WRow (w.alloc o) E xs:=F.grown (World.grownBy_alloc w o none) (by simp)
theorem BRow.alloc {w:World}{E:Nat}{xs:List Bool}(F:BRow w E xs)(o:Obj):BRow (w.alloc o) E xs:=F.grown (World.grownBy_alloc w o none) (by simp)
def partB (f:Nat->Bool)(m:Nat):Nat->List Bool
 |0=>List.replicate m false
 |k+1=>(partB f m k).set k (f k)
theorem As (f:Nat->Bool)(m:Nat):∀k,(partB f m k).length=m
 |0=>by simp[partB]
 |k+1=>by rw[partB,XS,As f m k]
theorem PE (xs:List Bool)(i j:Nat)(v:Bool):(xs.set i v).getD j false=if i=j/\i<xs.length then v else xs.getD j false:=by
 simp only[List.getD];rw[YM]
 by_cases e:i=j
 . subst e
   by_cases h:i<xs.length
   . simp[h]
   . simp[h]
 . simp[e]
theorem Jw (f:Nat->Bool)(m:Nat):∀k j,j<m->(partB f m k).getD j false=if j<k then f j else false
 |0,j,hj=>by simp[partB,List.getD,hj]
 |k+1,j,hj=>by
  rw[partB,PE,As,Jw f m k j hj]
  by_cases e:k=j
  . subst e;rw[if_pos ⟨rfl,hj⟩,if_pos (by omega)]
  . rw[if_neg (by omega)]
    by_cases h:j<k
    . rw[if_pos h,if_pos (by omega)]
    . rw[if_neg h,if_neg (by omega)]
theorem MN (f:Nat->Bool)(m:Nat)(xs:List Bool)(I:xs.length=m)(H:∀j,j<m->xs.getD j false=f j):partB f m m=xs:=by
 apply XK
 . rw[As,I]
 . intro i E G;rw[As]at E;have F:=Jw f m m i E;rw[if_pos E,<-H i E]at F;simpa[List.getD,As,E,G]using F
theorem FN (f:Nat->Bool)(m k:Nat)(G:f k=false)(I:k<m):partB f m (k+1)=partB f m k:=by
 apply XK
 . rw[As,As]
 . intro i E H;rw[As]at E;have F:=Jw f m (k+1) i E;have e2:=Jw f m k i E;simp only[List.getD,As,E,VP,YH]at F e2;rw[F,e2]
   by_cases e:i=k
   . subst e;rw[if_pos (by omega),if_neg (by omega),G]
   . by_cases h:i<k
     . rw[if_pos h,if_pos (by omega)]
     . rw[if_neg h,if_neg (by omega)]
theorem Bo:∀xs ys:List Int,(mrg xs ys).length=xs.length+ys.length
 | [],ys=>by simp[Kn]
 |x::xs,[]=>by
  rw[Nj,VJ,Bo xs []];simp
 |x::xs,y::ys=>by
  rw[Jc]
  split
  . rw[VJ,Bo xs (y::ys)];simp;omega
  . rw[VJ,Bo (x::xs) ys];simp;omega
termination_by xs ys=>xs.length+ys.length
theorem OG:(Tryz.prog.info? 340).map (·.size)=some 2:=by kernel_rfl
theorem F3 {w:World}{b o:Nat}{x y:Value}(G:w.cell? ⟨b,o,none⟩=some x)(F:w.cell? ⟨b,o+1,none⟩=some y):(loadVar 340 ⟨b,o,none⟩).run Tryz.prog w=.ok (.agg #[x,y]) w:=by
 have hl:(loadCells ⟨b,o,none⟩ [x,y].length).run Tryz.prog w=.ok [x,y].toArray w:=
  run_loadCells_list (P:=Tryz.prog) w ⟨b,o,none⟩ [x,y] (fun j v E=>by
   match j,E with
   |0,E=>simp at E;subst E;simpa[Addr.add]using G
   |1,E=>simp at E;subst E;simpa[Addr.add]using F)
 obtain⟨i,hi,H⟩:=XF.1 OG;simp only[VJ,WE,WG,Nat.reduceAdd]at hl;simp[loadVar,Sem.run_bind,sizeOf,typeInfo,hi,H,hl]
theorem Z06 {F:Func}{p:Tmp}(H:F.results= #[.cell p 340])(E:Array Value)(w:World)(b:Nat)(x y:Value)(G:E.getD p undef=.pointer (some ⟨b,0,none⟩))(O:w.cell? ⟨b,0,none⟩=some x)(I:w.cell? ⟨b,1,none⟩=some y):
 (results F E).run Tryz.prog w=.ok (.agg #[x,y]) w:=by
 have M:E[p]?.getD undef=.pointer (some ⟨b,0,none⟩):=by simpa using G
 simp[results,H,M,asAddr,F3 O I]
def MgAt (xs ys:List Int)(i j:Nat):Prop:=(mrg xs ys).drop (i+j)=mrg (xs.drop i) (ys.drop j)
theorem Vq {E:Type}(l:List E)(n:Nat)(d:E):l.getD n d=(l.drop n).getD 0 d:=by simp[List.getD]
theorem Jl {xs:List Int}{i:Nat}(E:i<xs.length):xs.drop i=xs.getD i 0::xs.drop (i+1):=by
 rw[WS E];simp[List.getD,E]
theorem MgAt.one {xs ys:List Int}{i j:Nat}(E:MgAt xs ys i j)(G:i<xs.length)(H:¬j<ys.length\/xs.getD i 0<=ys.getD j 0):(mrg xs ys).getD (i+j) (0,false)=(xs.getD i 0,true)/\MgAt xs ys (i+1) j:=by
 unfold MgAt at*
 have e:mrg (xs.drop i) (ys.drop j)=(xs.getD i 0,true)::mrg (xs.drop (i+1)) (ys.drop j):=by
  rw[Jl G]
  by_cases F:j<ys.length
  . rw[Jl F,Jc,if_pos (by rcases H with E|E;exact absurd F E;exact E),<-Jl F]
  . rw[show ys.drop j= [] from XQ (by omega),Nj]
 constructor
 . rw[Vq,E,e];rfl
 . rw[show i+1+j=(i+j)+1 by omega,<-YK,E,e];rfl
theorem MgAt.two {xs ys:List Int}{i j:Nat}(E:MgAt xs ys i j)(F:j<ys.length)(G:¬i<xs.length\/¬xs.getD i 0<=ys.getD j 0):(mrg xs ys).getD (i+j) (0,false)=(ys.getD j 0,false)/\MgAt xs ys i (j+1):=by
 unfold MgAt at*
 have e:mrg (xs.drop i) (ys.drop j)=(ys.getD j 0,false)::mrg (xs.drop i) (ys.drop (j+1)):=by
  rw[Jl F]
  by_cases hi:i<xs.length
  . rw[Jl hi,Jc,if_neg (by rcases G with E|E;exact absurd hi E;exact E)]
  . rw[show xs.drop i= [] from XQ (by omega),Kn,Kn];rfl
 constructor
 . rw[Vq,E,e];rfl
 . rw[show i+(j+1)=(i+j)+1 by omega,<-YK,E,e];rfl
def mf (xs ys:List Int)(k:Nat):Int:=((mrg xs ys).getD k (0,false)).1
def ms (xs ys:List Int)(k:Nat):Bool:=((mrg xs ys).getD k (0,false)).2
structure MgSt (w W:World)(N g1 g2 g6:Nat)(xs ys:List Int)(k:Nat):Prop where
 b1:w.heap.size<g1
 b2:w.heap.size<g2
 b6:w.heap.size<g6
 n12:g1≠g2
 n16:g1≠g6
 n26:g2≠g6
 ws:WRow W g1 (part (mf xs ys) N k)
 fs:BRow W g2 (partB (ms xs ys) N k)
 c0:W.cell? ⟨g6,0,none⟩=some (.slice (some ⟨g1,0,none⟩) N N)
 c1:W.cell? ⟨g6,1,none⟩=some (.slice (some ⟨g2,0,none⟩) N N)
 r0:W.cell? ⟨w.heap.size,0,none⟩=some (.slice none 0 0)
 r1:W.cell? ⟨w.heap.size,1,none⟩=some (.slice none 0 0)
 f0:W.frozen? ⟨w.heap.size,0,none⟩=false
 f1:W.frozen? ⟨w.heap.size,1,none⟩=false
 bel:Below w.heap.size w W
theorem MgSt.drew {w W:World}{N g1 g2 F:Nat}{xs ys:List Int}{k:Nat}(E:MgSt w W N g1 g2 F xs ys k):MgSt w W.drew N g1 g2 F xs ys k:=
 ⟨E.b1,E.b2,E.b6,E.n12,E.n16,E.n26,E.ws.drew,E.fs.drew,E.c0,E.c1,E.r0,E.r1,E.f0,E.f1,Ae E.bel 1⟩
theorem MgSt.set1 {w W:World}{N g1 g2 F:Nat}{xs ys:List Int}{k:Nat}(E:MgSt w W N g1 g2 F xs ys k)(G:k<N)(x:Int)(I:mf xs ys k=x)(H:ms xs ys k=false):MgSt w (W.setCell ⟨g1,k,none⟩ (.int .i64 x)).drew N g1 g2 F xs ys (k+1):=by
 have M:=E.b1;have o:∀b o,b≠g1->(W.setCell ⟨g1,k,none⟩ (.int .i64 x)).drew.cell? ⟨b,o,none⟩=W.cell? ⟨b,o,none⟩:=fun b o hb=>World.cell?_setCell_other _ _ _ _ (by intro E;injection E with h1;exact hb h1.symm)
 refine⟨E.b1,E.b2,E.b6,E.n12,E.n16,E.n26, ?_, ?_, ?_, ?_, ?_, ?_, ?_, ?_, ?_⟩
 . rw[part,I];exact(E.ws.set k (by rw[Ay];exact G) x).drew
 . rw[FN _ _ _ H G];exact(E.fs.other (a:=⟨g1,k,none⟩) E.n12 _).drew
 . rw[o _ _ (fun e=>E.n16 e.symm)];exact E.c0
 . rw[o _ _ (fun e=>E.n16 e.symm)];exact E.c1
 . rw[o _ _ (by omega)];exact E.r0
 . rw[o _ _ (by omega)];exact E.r1
 . show (W.setCell ⟨g1,k,none⟩ (.int .i64 x)).frozen? _=_
   rw[World.frozen?_setCell];exact E.f0
 . show (W.setCell ⟨g1,k,none⟩ (.int .i64 x)).frozen? _=_
   rw[World.frozen?_setCell];exact E.f1
 . exact Ae (E.bel.setCell (p:=⟨g1,k,none⟩) (by simp;omega) _) 1
theorem MgSt.set2 {w W:World}{N g1 g2 F:Nat}{xs ys:List Int}{k:Nat}(E:MgSt w W N g1 g2 F xs ys k)(G:k<N)(x:Int)(M:mf xs ys k=x)(I:ms xs ys k=true):
 MgSt w ((W.setCell ⟨g1,k,none⟩ (.int .i64 x)).setCell ⟨g2,k,none⟩ (.bool true)).drew N g1 g2 F xs ys (k+1)/\MgSt w ((W.setCell ⟨g2,k,none⟩ (.bool true)).setCell ⟨g1,k,none⟩ (.int .i64 x)).drew N g1 g2 F xs ys (k+1):=by
 have T:=E.b1;have U:=E.b2;have o1:∀(V:World) b o v,b≠g1->(V.setCell ⟨g1,k,none⟩ v).cell? ⟨b,o,none⟩=V.cell? ⟨b,o,none⟩:=fun V b o v hb=>World.cell?_setCell_other _ _ _ _ (by intro E;injection E with h1;exact hb h1.symm)
 have o2:∀(V:World) b o v,b≠g2->(V.setCell ⟨g2,k,none⟩ v).cell? ⟨b,o,none⟩=V.cell? ⟨b,o,none⟩:=fun V b o v hb=>World.cell?_setCell_other _ _ _ _ (by intro E;injection E with h1;exact hb h1.symm)
 have O:k<(part (mf xs ys) N k).length:=by rw[Ay];exact G
 have H:k<(partB (ms xs ys) N k).length:=by rw[As];exact G
 constructor
 . refine⟨E.b1,E.b2,E.b6,E.n12,E.n16,E.n26, ?_, ?_, ?_, ?_, ?_, ?_, ?_, ?_, ?_⟩
   . rw[part,M];exact((E.ws.set k O x).other (a:=⟨g2,k,none⟩) (fun e=>E.n12 e.symm) _).drew
   . rw[partB,I];exact((E.fs.other (a:=⟨g1,k,none⟩) E.n12 _).set k H true).drew
   . exact(o2 _ _ _ _ (fun e=>E.n26 e.symm)).trans ((o1 _ _ _ _ (fun e=>E.n16 e.symm)).trans E.c0)
   . exact(o2 _ _ _ _ (fun e=>E.n26 e.symm)).trans ((o1 _ _ _ _ (fun e=>E.n16 e.symm)).trans E.c1)
   . exact(o2 _ _ _ _ (by omega)).trans ((o1 _ _ _ _ (by omega)).trans E.r0)
   . exact(o2 _ _ _ _ (by omega)).trans ((o1 _ _ _ _ (by omega)).trans E.r1)
   . show ((W.setCell _ _).setCell _ _).frozen? _=_
     rw[World.frozen?_setCell,World.frozen?_setCell];exact E.f0
   . show ((W.setCell _ _).setCell _ _).frozen? _=_
     rw[World.frozen?_setCell,World.frozen?_setCell];exact E.f1
   . exact Ae ((E.bel.setCell (p:=⟨g1,k,none⟩) (by simp;omega) _).setCell (p:=⟨g2,k,none⟩) (by simp;omega) _) 1
 . refine⟨E.b1,E.b2,E.b6,E.n12,E.n16,E.n26, ?_, ?_, ?_, ?_, ?_, ?_, ?_, ?_, ?_⟩
   . rw[part,M];exact((E.ws.other (a:=⟨g2,k,none⟩) (fun e=>E.n12 e.symm) _).set k O x).drew
   . rw[partB,I];exact((E.fs.set k H true).other (a:=⟨g1,k,none⟩) E.n12 _).drew
   . exact(o1 _ _ _ _ (fun e=>E.n16 e.symm)).trans ((o2 _ _ _ _ (fun e=>E.n26 e.symm)).trans E.c0)
   . exact(o1 _ _ _ _ (fun e=>E.n16 e.symm)).trans ((o2 _ _ _ _ (fun e=>E.n26 e.symm)).trans E.c1)
   . exact(o1 _ _ _ _ (by omega)).trans ((o2 _ _ _ _ (by omega)).trans E.r0)
   . exact(o1 _ _ _ _ (by omega)).trans ((o2 _ _ _ _ (by omega)).trans E.r1)
   . show ((W.setCell _ _).setCell _ _).frozen? _=_
     rw[World.frozen?_setCell,World.frozen?_setCell];exact E.f0
   . show ((W.setCell _ _).setCell _ _).frozen? _=_
     rw[World.frozen?_setCell,World.frozen?_setCell];exact E.f1
   . exact Ae ((E.bel.setCell (p:=⟨g2,k,none⟩) (by simp;omega) _).setCell (p:=⟨g1,k,none⟩) (by simp;omega) _) 1
theorem Z4m (w:World)(N:Nat)(xs ys:List Int):MgSt w ((((w.alloc (.cells #[.slice none 0 0,.slice none 0 0] 340)).alloc (.cells (madeCells #[.int .i64 0] N) 3)).alloc (.cells (madeCells #[.bool false] N) 4)).alloc (.cells #[.slice (some ⟨w.heap.size+1,0,none⟩) N N,.slice (some ⟨w.heap.size+2,0,none⟩) N N] 340)).drew N (w.heap.size+1) (w.heap.size+2) (w.heap.size+3) xs ys 0:=by
 refine⟨by omega,by omega,by omega,by omega,by omega,by omega,(((WRow.made (w.alloc (.cells #[.slice none 0 0,.slice none 0 0] 340)) N 3 (w.heap.size+1) (by simp)).alloc _).alloc _).drew,((BRow.made ((w.alloc (.cells #[.slice none 0 0,.slice none 0 0] 340)).alloc (.cells (madeCells #[.int .i64 0] N) 3)) N 4 (w.heap.size+2) (by simp)).alloc _).drew, ?_, ?_, ?_, ?_, ?_, ?_, ?_⟩
 all_goals first|exact Ae (((((Below.refl w.heap.size w).alloc (VB _) _).alloc (by simp) _).alloc (by simp;omega) _).alloc (by simp;omega) _) 1|skip
 all_goals (simp only[World.alloc,World.cell?,World.frozen?,World.drew,YC,YV];simp[WT])
theorem Z4l (w:World)(N:Nat)(xs ys:List Int):MgSt w ((((w.alloc (.cells #[.slice none 0 0,.slice none 0 0] 340)).alloc (.cells (madeCells #[.int .i64 0] N) 3)).alloc (.cells #[.slice (some ⟨w.heap.size+1,0,none⟩) N N,.slice (some ⟨w.heap.size+3,0,none⟩) N N] 340)).alloc (.cells (madeCells #[.bool false] N) 4)).drew N (w.heap.size+1) (w.heap.size+3) (w.heap.size+2) xs ys 0:=by
 refine⟨by omega,by omega,by omega,by omega,by omega,by omega,(((WRow.made (w.alloc (.cells #[.slice none 0 0,.slice none 0 0] 340)) N 3 (w.heap.size+1) (by simp)).alloc _).alloc _).drew,(BRow.made (((w.alloc (.cells #[.slice none 0 0,.slice none 0 0] 340)).alloc (.cells (madeCells #[.int .i64 0] N) 3)).alloc (.cells #[.slice (some ⟨w.heap.size+1,0,none⟩) N N,.slice (some ⟨w.heap.size+3,0,none⟩) N N] 340)) N 4 (w.heap.size+3) (by simp)).drew, ?_, ?_, ?_, ?_, ?_, ?_, ?_⟩
 all_goals first|exact Ae (((((Below.refl w.heap.size w).alloc (VB _) _).alloc (by simp) _).alloc (by simp;omega) _).alloc (by simp;omega) _) 1|skip
 all_goals (simp only[World.alloc,World.cell?,World.frozen?,World.drew,YC,YV];simp[WT])
theorem Z4k (w:World)(N:Nat)(xs ys:List Int):MgSt w ((((w.alloc (.cells #[.slice none 0 0,.slice none 0 0] 340)).alloc (.cells (madeCells #[.bool false] N) 4)).alloc (.cells (madeCells #[.int .i64 0] N) 3)).alloc (.cells #[.slice (some ⟨w.heap.size+2,0,none⟩) N N,.slice (some ⟨w.heap.size+1,0,none⟩) N N] 340)).drew N (w.heap.size+2) (w.heap.size+1) (w.heap.size+3) xs ys 0:=by
 refine⟨by omega,by omega,by omega,by omega,by omega,by omega,((WRow.made ((w.alloc (.cells #[.slice none 0 0,.slice none 0 0] 340)).alloc (.cells (madeCells #[.bool false] N) 4)) N 3 (w.heap.size+2) (by simp)).alloc _).drew,(((BRow.made (w.alloc (.cells #[.slice none 0 0,.slice none 0 0] 340)) N 4 (w.heap.size+1) (by simp)).alloc _).alloc _).drew, ?_, ?_, ?_, ?_, ?_, ?_, ?_⟩
 all_goals first|exact Ae (((((Below.refl w.heap.size w).alloc (VB _) _).alloc (by simp) _).alloc (by simp;omega) _).alloc (by simp;omega) _) 1|skip
 all_goals (simp only[World.alloc,World.cell?,World.frozen?,World.drew,YC,YV];simp[WT])
theorem Z4j (w:World)(N:Nat)(xs ys:List Int):MgSt w ((((w.alloc (.cells #[.slice none 0 0,.slice none 0 0] 340)).alloc (.cells (madeCells #[.bool false] N) 4)).alloc (.cells #[.slice (some ⟨w.heap.size+3,0,none⟩) N N,.slice (some ⟨w.heap.size+1,0,none⟩) N N] 340)).alloc (.cells (madeCells #[.int .i64 0] N) 3)).drew N (w.heap.size+3) (w.heap.size+1) (w.heap.size+2) xs ys 0:=by
 refine⟨by omega,by omega,by omega,by omega,by omega,by omega,(WRow.made (((w.alloc (.cells #[.slice none 0 0,.slice none 0 0] 340)).alloc (.cells (madeCells #[.bool false] N) 4)).alloc (.cells #[.slice (some ⟨w.heap.size+3,0,none⟩) N N,.slice (some ⟨w.heap.size+1,0,none⟩) N N] 340)) N 3 (w.heap.size+3) (by simp)).drew,(((BRow.made (w.alloc (.cells #[.slice none 0 0,.slice none 0 0] 340)) N 4 (w.heap.size+1) (by simp)).alloc _).alloc _).drew, ?_, ?_, ?_, ?_, ?_, ?_, ?_⟩
 all_goals first|exact Ae (((((Below.refl w.heap.size w).alloc (VB _) _).alloc (by simp) _).alloc (by simp;omega) _).alloc (by simp;omega) _) 1|skip
 all_goals (simp only[World.alloc,World.cell?,World.frozen?,World.drew,YC,YV];simp[WT])
theorem Z4i (w:World)(N:Nat)(xs ys:List Int):MgSt w ((((w.alloc (.cells #[.slice none 0 0,.slice none 0 0] 340)).alloc (.cells #[.slice (some ⟨w.heap.size+2,0,none⟩) N N,.slice (some ⟨w.heap.size+3,0,none⟩) N N] 340)).alloc (.cells (madeCells #[.int .i64 0] N) 3)).alloc (.cells (madeCells #[.bool false] N) 4)).drew N (w.heap.size+2) (w.heap.size+3) (w.heap.size+1) xs ys 0:=by
 refine⟨by omega,by omega,by omega,by omega,by omega,by omega,((WRow.made ((w.alloc (.cells #[.slice none 0 0,.slice none 0 0] 340)).alloc (.cells #[.slice (some ⟨w.heap.size+2,0,none⟩) N N,.slice (some ⟨w.heap.size+3,0,none⟩) N N] 340)) N 3 (w.heap.size+2) (by simp)).alloc _).drew,(BRow.made (((w.alloc (.cells #[.slice none 0 0,.slice none 0 0] 340)).alloc (.cells #[.slice (some ⟨w.heap.size+2,0,none⟩) N N,.slice (some ⟨w.heap.size+3,0,none⟩) N N] 340)).alloc (.cells (madeCells #[.int .i64 0] N) 3)) N 4 (w.heap.size+3) (by simp)).drew, ?_, ?_, ?_, ?_, ?_, ?_, ?_⟩
 all_goals first|exact Ae (((((Below.refl w.heap.size w).alloc (VB _) _).alloc (by simp) _).alloc (by simp;omega) _).alloc (by simp;omega) _) 1|skip
 all_goals (simp only[World.alloc,World.cell?,World.frozen?,World.drew,YC,YV];simp[WT])
theorem Z4h (w:World)(N:Nat)(xs ys:List Int):MgSt w ((((w.alloc (.cells #[.slice none 0 0,.slice none 0 0] 340)).alloc (.cells #[.slice (some ⟨w.heap.size+3,0,none⟩) N N,.slice (some ⟨w.heap.size+2,0,none⟩) N N] 340)).alloc (.cells (madeCells #[.bool false] N) 4)).alloc (.cells (madeCells #[.int .i64 0] N) 3)).drew N (w.heap.size+3) (w.heap.size+2) (w.heap.size+1) xs ys 0:=by
 refine⟨by omega,by omega,by omega,by omega,by omega,by omega,(WRow.made (((w.alloc (.cells #[.slice none 0 0,.slice none 0 0] 340)).alloc (.cells #[.slice (some ⟨w.heap.size+3,0,none⟩) N N,.slice (some ⟨w.heap.size+2,0,none⟩) N N] 340)).alloc (.cells (madeCells #[.bool false] N) 4)) N 3 (w.heap.size+3) (by simp)).drew,((BRow.made ((w.alloc (.cells #[.slice none 0 0,.slice none 0 0] 340)).alloc (.cells #[.slice (some ⟨w.heap.size+3,0,none⟩) N N,.slice (some ⟨w.heap.size+2,0,none⟩) N N] 340)) N 4 (w.heap.size+2) (by simp)).alloc _).drew, ?_, ?_, ?_, ?_, ?_, ?_, ?_⟩
 all_goals first|exact Ae (((((Below.refl w.heap.size w).alloc (VB _) _).alloc (by simp) _).alloc (by simp;omega) _).alloc (by simp;omega) _) 1|skip
 all_goals (simp only[World.alloc,World.cell?,World.frozen?,World.drew,YC,YV];simp[WT])
set_option maxRecDepth 100000 in
theorem NP (H Z I U M av O au:Nat)(xs ys:List Int)(w:World)(bu:xs.length=M)(bj:ys.length=O)(dn:M<=1000)(dl:O<=1000)(c8:M<=av)(co:O<=au)(cp:av<=maxLen)(cy:au<=maxLen)(b7:H<w.heap.size)(b8:I<w.heap.size)(bz:Row .i64 w H Z xs)(b0:Row .i64 w I U ys):
 Calls Tryz.prog 277 #[.slice (some ⟨H,Z,none⟩) M av,.slice (some ⟨I,U,none⟩) O au] w fun e w'=>∃g1 g2,e=.returned (.agg #[.slice (some ⟨g1,0,none⟩) (M+O) (M+O),.slice (some ⟨g2,0,none⟩) (M+O) (M+O)])/\
  WRow w' g1 ((mrg xs ys).map Prod.fst)/\BRow w' g2 ((mrg xs ys).map Prod.snd)/\Below w.heap.size w w'/\w.heap.size<=g1/\w.heap.size<=g2:=by
 unfold maxLen at cp cy;have b5:=Ab bz;have bv:=Ab b0;obtain⟨N,a1⟩:∃N,N=M+O:=⟨_,rfl⟩
 rw[<-a1];have b9:=Ab a1;have cm:Hid ((M:Int)+(O:Int)=(N:Int)):=by unfold Hid;omega
 have c6:=fun W=>run_make_row' (P:=Tryz.prog) 76 3 (.int .i64 0) 8 Tryz.underlying76 Bv rfl .i64 .i64 N (by omega) (by omega) W
 have cd:=fun W=>run_make_row' (P:=Tryz.prog) 338 4 (.bool false) 1 Tryz.underlying338 OL rfl .i64 .i64 N (by omega) (by omega) W
 have ct:Hid (MgAt xs ys 0 0):=by unfold Hid MgAt;simp
 have ck:Hid (part (mf xs ys) N N=(mrg xs ys).map Prod.fst):=Xo _ _ _ (by rw[WL,Bo,bu,bj,a1]) (fun j ce=>by
  have:j<(mrg xs ys).length:=by rw[Bo];omega
  simp[mf,List.getD,this])
 have c7:Hid (partB (ms xs ys) N N=(mrg xs ys).map Prod.snd):=MN _ _ _ (by rw[WL,Bo,bu,bj,a1]) (fun j ce=>by
  have:j<(mrg xs ys).length:=by rw[Bo];omega
  simp[ms,List.getD,this])
 have da:N<=2000:=by omega
 clear bz b0 a1;go_enter Tryz.func277,Tryz.ntmps277
 go_wp2_with fail
 rw[Aa cm];rename_i Q K hK
 have ay:∀(g1 g2 g6:Nat) (W:World),Hid (MgSt w W N g1 g2 g6 xs ys 0)->K ⟨#[.slice (some ⟨H,Z,none⟩) M av,.slice (some ⟨I,U,none⟩) O au,undef,undef,.pointer (some ⟨w.heap.size,0,none⟩),.int .i64 (N:Int),.pointer (some ⟨g6,0,none⟩),undef,.slice (some ⟨H,Z,none⟩) M av,.int .i64 (M:Int),.slice (some ⟨I,U,none⟩) O au,.int .i64 (O:Int),.int .i64 (N:Int),.int .i64 (N:Int),.slice (some ⟨g1,0,none⟩) N N,.int .i64 (N:Int),.slice (some ⟨g2,0,none⟩) N N,.agg #[.slice (some ⟨g1,0,none⟩) N N,.slice (some ⟨g2,0,none⟩) N N],undef,undef,undef,undef,undef,undef,undef,undef,undef,undef,undef,undef,undef,undef,undef,undef,undef,undef,undef,undef,undef,undef,undef,undef,undef,undef,undef,undef,undef,undef,undef,undef,undef,undef,undef,undef,undef,undef,undef,undef,undef,undef,undef,undef,undef],[]⟩ W:=by
  intro g1 g2 g6 W c5;refine hK _ _ ?_;clear hK c6 cd K;go_wp2;go_loopw [0,1,7,19] (fun cz cg _ bi wr=>∃(i j k p q u v ai aj:Nat) (a5 a7:Option Addr),Hid ((k=i+j/\p=Z+i/\q=U+j)/\(0<u->a5=some ⟨H,p,none⟩)/\(0<v->a7=some ⟨I,q,none⟩))/\u+i=M/\v+j=O/\u<=ai/\v<=aj/\ai<=av/\aj<=au/\bi=.int .i64 (k:Int)/\cz=.slice a5 u ai/\cg=.slice a7 v aj/\MgAt xs ys i j/\MgSt w wr N g1 g2 g6 xs ys k) (fun _ _ _ bi _=>N-(intOf bi).toNat)
  case atStart=>exact⟨0,0,0,Z,U,M,O,av,au,some ⟨H,Z,none⟩,some ⟨I,U,none⟩,Ab ⟨⟨rfl,rfl,rfl⟩,fun _=>rfl,fun _=>rfl⟩,rfl,rfl,c8,co,VB _,VB _,rfl,rfl,rfl,Aa ct,Aa c5⟩
  case round=>
   obtain⟨i,j,k,p,q,u,v,ai,aj,a5,a7,a9,dh,df,di,dj,de,db,rfl,rfl,rfl,bw,bo⟩:=hrel;have Y:=Ab (Aa a9).1;have bh:=Ab (Aa a9).2.1;have bf:=Ab (Aa a9).2.2;have a6:=Ab bw;have G:=Ab bo;clear a9;have c9:k+u+v=N:=by have:=(Aa Y).1;have:=Aa b9;omega
   clear bw bo;have d0:=(Aa G).c0;have ae:=(Aa G).c1
   by_cases F:k<N
   . have dd:(k:Int)<(N:Int):=by omega
     have ac:=((Aa G).ws.at_ k (by rw[Ay];exact F)).1;have e2:=((Aa G).ws.at_ k (by rw[Ay];exact F)).2;have e3:=((Aa G).fs.at_ k (by rw[As];exact F)).1;have af:=((Aa G).fs.at_ k (by rw[As];exact F)).2
     by_cases cv:v=0
     . obtain⟨x,T⟩:=exq (xs.getD i 0);have ax:wr.cell? ⟨H,p,none⟩=some (.int .i64 x):=by rw[(Aa Y).2.1,<-T];exact((Aa G).bel.cell (p:=⟨H,Z+i,none⟩) b7).trans (Aa b5 i (by omega))
       obtain⟨m1,m2⟩:=(Aa a6).one (by omega) (.inl (by omega));have a2:=Aa bh (by omega);subst a2;have E:=Ab (Aa G).drew;rw[<-(Aa Y).1]at m1;have ah:mf xs ys k=x:=by unfold mf;rw[m1,<-T]
       have ag:ms xs ys k=true:=by unfold ms;rw[m1]
       have ar:Hid (k+1=i+1+j/\p+1=Z+(i+1)/\q=U+j):=by have:=Aa Y;unfold Hid;omega
       have ak:=Ab m2;have ap:=Ab ah;have ao:=Ab ag;clear m1 m2 ah ag;subst cv;have bm:(0:Int)<(u:Int):=by omega
       have bn:=Ab T;clear T;have az:wr.drew.cell? ⟨H,p,none⟩=some (.int .i64 x):=ax;go_wp2_with fail
       go_big_region
       clear d0 ae ac e2 e3 af;generalize wr.drew=bg at*;have d0:=(Aa E).c0;have ae:=(Aa E).c1;have ac:=((Aa E).ws.at_ k (by rw[Ay];exact F)).1;have e2:=((Aa E).ws.at_ k (by rw[Ay];exact F)).2;have e3:=((Aa E).fs.at_ k (by rw[As];exact F)).1;have af:=((Aa E).fs.at_ k (by rw[As];exact F)).2;generalize (part (mf xs ys) N k).getD k 0=bd at*;generalize (partB (ms xs ys) N k).getD k false=bc at*;have n12:=(Aa E).n12;have aw:=Ab ((Aa E).set2 F x (Aa ap) (Aa ao)).1;have n21:g2≠g1:=fun e=>n12 e.symm
       have n61:g6≠g1:=fun e=>(Aa E).n16 e.symm
       go_wp2_with fail
       go_big_region
       clear d0 ae ac e2 e3 af az ax;go_wp2;go_roundw
       case rel=>
        refine⟨i+1,j,k+1,p+1,q,u-1,0,ai-1,aj,if ai=1 then some ⟨H,p,none⟩else some ⟨H,p+1,none⟩,a7,Ab ⟨Aa ar,fun h=>by rw[if_neg (by omega)],fun h=>by omega⟩,by omega,by omega,by omega,by omega,by omega,by omega,by go_num, ?_,rfl,Aa ak,Aa aw⟩;rfl
       case measure=>simp[intOf];omega
     . by_cases cw:u=0
       . obtain⟨y,aa⟩:=exq (ys.getD j 0);have al:wr.cell? ⟨I,q,none⟩=some (.int .i64 y):=by rw[(Aa Y).2.2,<-aa];exact((Aa G).bel.cell (p:=⟨I,U+j,none⟩) b8).trans (Aa bv j (by omega))
         obtain⟨m1,m2⟩:=(Aa a6).two (by omega) (.inl (by omega));have a4:=Aa bf (by omega);subst a4;have E:=Ab (Aa G).drew;rw[<-(Aa Y).1]at m1;have ah:mf xs ys k=y:=by unfold mf;rw[m1,<-aa]
         have ag:ms xs ys k=false:=by unfold ms;rw[m1]
         have ar:Hid (k+1=i+(j+1)/\p=Z+i/\q+1=U+(j+1)):=by have:=Aa Y;unfold Hid;omega
         have ak:=Ab m2;have ap:=Ab ah;have ao:=Ab ag;clear m1 m2 ah ag;subst cw;have bk:((v:Int)==0)=false:=by rw[beq_eq_false_iff_ne];omega
         have b4:(0:Int)<(v:Int):=by omega
         have b3:=Ab aa;clear aa;have a3:wr.drew.cell? ⟨I,q,none⟩=some (.int .i64 y):=al;go_wp2_with fail
         go_big_region
         clear d0 ae ac e2 e3 af;generalize wr.drew=bg at*;have d0:=(Aa E).c0;have ae:=(Aa E).c1;have ac:=((Aa E).ws.at_ k (by rw[Ay];exact F)).1;have e2:=((Aa E).ws.at_ k (by rw[Ay];exact F)).2;have e3:=((Aa E).fs.at_ k (by rw[As];exact F)).1;have af:=((Aa E).fs.at_ k (by rw[As];exact F)).2;generalize (part (mf xs ys) N k).getD k 0=bd at*;generalize (partB (ms xs ys) N k).getD k false=bc at*;have aw:=Ab ((Aa E).set1 F y (Aa ap) (Aa ao));go_wp2_with fail
         go_big_region
         clear d0 ae ac e2 e3 af a3 al;go_wp2;go_roundw
         case rel=>
          refine⟨i,j+1,k+1,p,q+1,0,v-1,ai,aj-1,a5,if aj=1 then some ⟨I,q,none⟩else some ⟨I,q+1,none⟩,Ab ⟨Aa ar,fun h=>by omega,fun h=>by rw[if_neg (by omega)]⟩,by omega,by omega,by omega,by omega,by omega,by omega,by go_num,rfl, ?_,Aa ak,Aa aw⟩;rfl
         case measure=>simp[intOf];omega
       . obtain⟨x,T⟩:=exq (xs.getD i 0);have ax:wr.cell? ⟨H,p,none⟩=some (.int .i64 x):=by rw[(Aa Y).2.1,<-T];exact((Aa G).bel.cell (p:=⟨H,Z+i,none⟩) b7).trans (Aa b5 i (by omega))
         obtain⟨y,aa⟩:=exq (ys.getD j 0);have al:wr.cell? ⟨I,q,none⟩=some (.int .i64 y):=by rw[(Aa Y).2.2,<-aa];exact((Aa G).bel.cell (p:=⟨I,U+j,none⟩) b8).trans (Aa bv j (by omega))
         by_cases ba:x<=y
         . obtain⟨m1,m2⟩:=(Aa a6).one (by omega) (.inr (by rw[T,aa];exact ba));have a2:=Aa bh (by omega);subst a2;have a4:=Aa bf (by omega);subst a4;have E:=Ab (Aa G).drew;rw[<-(Aa Y).1]at m1;have ah:mf xs ys k=x:=by unfold mf;rw[m1,<-T]
           have ag:ms xs ys k=true:=by unfold ms;rw[m1]
           have ar:Hid (k+1=i+1+j/\p+1=Z+(i+1)/\q=U+j):=by have:=Aa Y;unfold Hid;omega
           have ak:=Ab m2;have ap:=Ab ah;have ao:=Ab ag;clear m1 m2 ah ag;have bk:((v:Int)==0)=false:=by rw[beq_eq_false_iff_ne];omega
           have b4:(0:Int)<(v:Int):=by omega
           have bm:(0:Int)<(u:Int):=by omega
           have cq:0<u:=by omega
           have cj:decide (x<=y)=true:=decide_eq_true ba;have bn:=Ab T;clear T;have b3:=Ab aa;clear aa;have az:wr.drew.cell? ⟨H,p,none⟩=some (.int .i64 x):=ax;have a3:wr.drew.cell? ⟨I,q,none⟩=some (.int .i64 y):=al;go_wp2_with fail
           go_big_region
           clear d0 ae ac e2 e3 af;generalize wr.drew=bg at*;have d0:=(Aa E).c0;have ae:=(Aa E).c1;have ac:=((Aa E).ws.at_ k (by rw[Ay];exact F)).1;have e2:=((Aa E).ws.at_ k (by rw[Ay];exact F)).2;have e3:=((Aa E).fs.at_ k (by rw[As];exact F)).1;have af:=((Aa E).fs.at_ k (by rw[As];exact F)).2;generalize (part (mf xs ys) N k).getD k 0=bd at*;generalize (partB (ms xs ys) N k).getD k false=bc at*;have n12:=(Aa E).n12;have aw:=Ab ((Aa E).set2 F x (Aa ap) (Aa ao)).1;have n21:g2≠g1:=fun e=>n12 e.symm
           have n61:g6≠g1:=fun e=>(Aa E).n16 e.symm
           go_wp2_with fail
           go_big_region
           clear d0 ae ac e2 e3 af az ax a3 al;go_wp2;go_roundw
           case rel=>
            refine⟨i+1,j,k+1,p+1,q,u-1,v,ai-1,aj,if ai=1 then some ⟨H,p,none⟩else some ⟨H,p+1,none⟩,_,Ab ⟨Aa ar,fun h=>by rw[if_neg (by omega)],fun _=>rfl⟩,by omega,by omega,by omega,by omega,by omega,by omega,by go_num, ?_,rfl,Aa ak,Aa aw⟩;rfl
           case measure=>simp[intOf];omega
         . obtain⟨m1,m2⟩:=(Aa a6).two (by omega) (.inr (by rw[T,aa];exact ba));have a2:=Aa bh (by omega);subst a2;have a4:=Aa bf (by omega);subst a4;have E:=Ab (Aa G).drew;rw[<-(Aa Y).1]at m1;have ah:mf xs ys k=y:=by unfold mf;rw[m1,<-aa]
           have ag:ms xs ys k=false:=by unfold ms;rw[m1]
           have ar:Hid (k+1=i+(j+1)/\p=Z+i/\q+1=U+(j+1)):=by have:=Aa Y;unfold Hid;omega
           have ak:=Ab m2;have ap:=Ab ah;have ao:=Ab ag;clear m1 m2 ah ag;have bk:((v:Int)==0)=false:=by rw[beq_eq_false_iff_ne];omega
           have b4:(0:Int)<(v:Int):=by omega
           have bm:(0:Int)<(u:Int):=by omega
           have cq:0<u:=by omega
           have cj:decide (x<=y)=false:=decide_eq_false ba;have bn:=Ab T;clear T;have b3:=Ab aa;clear aa;have az:wr.drew.cell? ⟨H,p,none⟩=some (.int .i64 x):=ax;have a3:wr.drew.cell? ⟨I,q,none⟩=some (.int .i64 y):=al;go_wp2_with fail
           go_big_region
           clear d0 ae ac e2 e3 af;generalize wr.drew=bg at*;have d0:=(Aa E).c0;have ae:=(Aa E).c1;have ac:=((Aa E).ws.at_ k (by rw[Ay];exact F)).1;have e2:=((Aa E).ws.at_ k (by rw[Ay];exact F)).2;have e3:=((Aa E).fs.at_ k (by rw[As];exact F)).1;have af:=((Aa E).fs.at_ k (by rw[As];exact F)).2;generalize (part (mf xs ys) N k).getD k 0=bd at*;generalize (partB (ms xs ys) N k).getD k false=bc at*;have aw:=Ab ((Aa E).set1 F y (Aa ap) (Aa ao));go_wp2_with fail
           go_big_region
           clear d0 ae ac e2 e3 af a3 al az ax;go_wp2;go_roundw
           case rel=>
            refine⟨i,j+1,k+1,p,q+1,u,v-1,ai,aj-1,_,if aj=1 then some ⟨I,q,none⟩else some ⟨I,q+1,none⟩,Ab ⟨Aa ar,fun _=>rfl,fun h=>by rw[if_neg (by omega)]⟩,by omega,by omega,by omega,by omega,by omega,by omega,by go_num,rfl, ?_,Aa ak,Aa aw⟩;rfl
           case measure=>simp[intOf];omega
   . obtain rfl:k=N:=by omega
     have a8:=(Aa G).ws;have bb:=(Aa G).fs;rw[Aa ck]at a8;rw[Aa c7]at bb;have r0:=(Aa G).r0;have r1:=(Aa G).r1;have f0:=(Aa G).f0;have f1:=(Aa G).f1;have cu:=Ab (Aa G).bel;have bq:=Ab (And.intro (Aa G).b1 (Aa G).b2);have a8:=Ab a8;have bb:=Ab bb;go_wp2
     have ci:((wr.setCell ⟨w.heap.size,0,none⟩ (.slice (some ⟨g1,0,none⟩) k k)).setCell ⟨w.heap.size,1,none⟩ (.slice (some ⟨g2,0,none⟩) k k)).cell? ⟨w.heap.size,0,none⟩=some (.slice (some ⟨g1,0,none⟩) k k):=
      (World.cell?_setCell_other _ _ _ _ (by intro h;injection h;omega)).trans (World.cell?_setCell_same _ _ _ r0)
     have cn:((wr.setCell ⟨w.heap.size,0,none⟩ (.slice (some ⟨g1,0,none⟩) k k)).setCell ⟨w.heap.size,1,none⟩ (.slice (some ⟨g2,0,none⟩) k k)).cell? ⟨w.heap.size,1,none⟩=some (.slice (some ⟨g2,0,none⟩) k k):=
      World.cell?_setCell_same _ _ _ ((World.cell?_setCell_other _ _ _ _ (by intro h;injection h;omega)).trans r1)
     refine bodyPost_ret (Z06 rfl _ _ _ _ _ rfl ci cn) rfl ?_;have dc:=(Aa bq).1;have dm:=(Aa bq).2
     exact⟨g1,g2,rfl,((Aa a8).other (a:=⟨w.heap.size,0,none⟩) (by simp;omega) _).other (a:=⟨w.heap.size,1,none⟩) (by simp;omega) _,((Aa bb).other (a:=⟨w.heap.size,0,none⟩) (by simp;omega) _).other (a:=⟨w.heap.size,1,none⟩) (by simp;omega) _,
      ((Aa cu).setCell (p:=⟨w.heap.size,0,none⟩) (VB _) _).setCell (p:=⟨w.heap.size,1,none⟩) (VB _) _,by omega,by omega⟩
 go_big_region
 . exact ay _ _ _ _ (Z4m w N xs ys)
 . exact ay _ _ _ _ (Z4l w N xs ys)
 . exact ay _ _ _ _ (Z4k w N xs ys)
 . exact ay _ _ _ _ (Z4j w N xs ys)
 . exact ay _ _ _ _ (Z4i w N xs ys)
 . exact ay _ _ _ _ (Z4h w N xs ys)
end Go.Proofs.YtleocpdblhbimaaGreatDoor
