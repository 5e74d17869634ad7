import Derived.Test.YtcjbgpacnkilnaiGreatDoorQ47
import Derived.Test.YtcjbgpacnkilnaiGreatDoorQ40
import Derived.Test.YtcjbgpacnkilnaiGreatDoorQ32
namespace Go.Proofs.YtcjbgpacnkilnaiGreatDoor
open Go.RowKit
set_option linter.unusedVariables false
set_option maxRecDepth 100000
theorem Zch {x y:List Nat}(hx:∀j,x.getD j 0<256)(hy:∀j,y.getD j 0<256)(h:rowB x x.length=rowB y y.length):x=y:=by
 have hl:=congrArg List.length h;rw[Ag,Ag]at hl;have hl2:x.length=y.length:=by omega
 apply List.ext_getElem hl2
 intro j h1 h2;have e1:x[j]=x.getD j 0:=by simp[List.getD,h1]
 have e2:y[j]=y.getD j 0:=by simp[List.getD,h2]
 rw[e1,e2];apply Nat.eq_of_testBit_eq
 intro i
 by_cases hi:i<8
 . have p1:=Ex x x.length (8*j+i) (by omega);have p2:=Ex y y.length (8*j+i) (by omega);rw[h,p2]at p1;unfold Il at p1;rw[show (8*j+i)/8=j by omega,show (8*j+i)%8=i by omega]at p1;exact p1.symm
 . have b:∀m,m<256->m.testBit i=false:=fun m hm=>Nat.testBit_lt_two_pow (Nat.lt_of_lt_of_le hm (show 2^8<=2^i from Nat.pow_le_pow_right (by decide) (by omega)))
   rw[b _ (hx j),b _ (hy j)]
noncomputable def oneB (bs:List Nat)(k:Nat):List Bool:=padB (Zbg [] bs k true)
noncomputable def Z4x (bs:List Nat)(k:Nat):Nat:=(oneB bs k).length/8
noncomputable def bestP (bs:List Nat):Nat->Nat
 |0=>0
 |1=>0
 |k+2=>if Z4x bs (k+1)<Z4x bs (bestP bs (k+1))then k+1 else bestP bs (k+1)
structure IsOne (bs:List Nat)(k:Nat)(out:List Nat):Prop where
 row:rowB out out.length=oneB bs k
 val:∀j,out.getD j 0<256
theorem IsOne.len {bs out:List Nat}{k:Nat}(h:IsOne bs k out):out.length=Z4x bs k:=by
 unfold Z4x;rw[<-h.row,Ag];omega
theorem IsOne.one {bs x y:List Nat}{k:Nat}(h:IsOne bs k x)(h2:IsOne bs k y):x=y:=Zch h.val h2.val (by rw[h.row,h2.row])
theorem Zhf (bs:List Nat)(k:Nat)(last:Bool):3<=(Zbg [] bs k last).length:=by
 unfold Zbg
 split
 . unfold Qc;simp only[List.length_append,Af,List.length_cons,List.length_nil,List.length_replicate];omega
 . split<;>simp only[List.length_append,Af,List.length_cons,List.length_nil]<;>omega
theorem IsOne.pos {bs out:List Nat}{k:Nat}(h:IsOne bs k out):0<out.length:=by
 have h1:=congrArg List.length h.row;rw[Ag]at h1;unfold oneB at h1;rw[Db]at h1;have:=Zhf bs k true
 omega
theorem Z8g (bs:List Nat)(k:Nat):Ql (Fa [bs] [(k:Int)]) []=Zbg [] bs k true:=by
 have:Fa [bs] [(k:Int)]= [(bs,k)]:=by simp[Fa]
 rw[this,Ql,Ql];simp
theorem Wy {w:World}{a:Option Addr}{n cap:Nat}{bs:List Nat}(hl:bs.length=n)(hcap:n<=cap)(hnil:a=none->cap=0)(hB:BytesIn w a bs)(hx:∀j,bs.getD j 0<256)(hm:n<=9223372036854775807)(k:Int)(T U:TypeId):
 PartsIn ((w.alloc (.cells #[.slice a n cap] T)).alloc (.cells #[.int .i64 k] U)) w.heap.size 0 (fun _=>a) (fun _=>cap) [bs]/\Row .i64 ((w.alloc (.cells #[.slice a n cap] T)).alloc (.cells #[.int .i64 k] U)) (w.heap.size+1) 0 [k]:=by
 have hj0:∀j,j< [bs].length->j=0:=fun j hj=>by simp at hj;omega
 refine⟨⟨by simp;omega,fun j hj=> ?_,fun j hj=> ?_,fun j hj=> ?_,fun j hj=> ?_,fun j hj=> ?_,fun j i=> ?_⟩,fun j hj=> ?_⟩
 . rw[hj0 j hj];simp[hl]
 . rw[hj0 j hj];exact hB.below (((Below.refl w.heap.size w).alloc (Nat.le_refl _) _).alloc (by simp) _) (Nat.le_refl _)
 . rw[hj0 j hj];simpa[hl]using hcap
 . exact fun e=>hnil e
 . rw[hj0 j hj];simpa[hl]using hm
 . cases j with
   |zero=>simpa using hx i
   |succ j=>simp
 . have:j=0:=by simp at hj;omega
   subst this;simp
theorem Zg8 {n:Nat}(h:3000<n)(bs:List Nat)(hl:bs.length=n)(k:Int):Z6j ([bs].map List.length) [k]=2:=by
 unfold Z6j;rw[if_neg (by simp)];simp only[List.map_cons,List.map_nil,Zw];rw[if_pos (.inl (by omega))]
theorem Zcw {n k:Nat}(h:n<=3000)(bs:List Nat)(hl:bs.length=n)(hk:k<=2):Z6j ([bs].map List.length) [(k:Int)]=0:=by
 unfold Z6j;rw[if_neg (by simp)];simp only[List.map_cons,List.map_nil,Zw];rw[if_neg (by omega)];exact if_pos (show (k:Int)=0\/ (k:Int)=1\/ (k:Int)=2 by omega)
theorem Zcv (a:Option Addr)(n cap:Nat)(k:Int)(bs:List Nat)(w:World)(T U:TypeId)(hl:bs.length=n)(hcap:n<=cap)(hnil:a=none->cap=0)(hB:BytesIn w a bs)(hx:∀j,bs.getD j 0<256)(hm:n<=9223372036854775807)(hn:3000<n):
 Calls Tryz.prog 55 #[.slice (some ⟨w.heap.size,0,none⟩) 1 1,.slice (some ⟨w.heap.size+1,0,none⟩) 1 1] ((w.alloc (.cells #[.slice a n cap] T)).alloc (.cells #[.int .i64 k] U)) fun e w'=>e=.returned (.tuple #[.slice none 0 0,.int .i64 2])/\Below w.heap.size w w':=by
 obtain⟨h1,h2⟩:=Wy hl hcap hnil hB hx hm k T U;refine(Zcr w.heap.size 0 1 (some ⟨w.heap.size+1,0,none⟩) 1 1 1 _ _ [bs] [k] _ rfl rfl (.inr h1) (.inr ⟨_,0,rfl,by simp,h2⟩) (some ⟨w.heap.size,0,none⟩) (fun _=>rfl) 2 (Ab (Zg8 hn bs hl k)) (by decide)).mono ?_;rintro e w' ⟨rfl,rfl⟩;exact⟨rfl,((Below.refl w.heap.size w).alloc (Nat.le_refl _) _).alloc (by simp) _⟩
theorem Zil (a:Option Addr)(n cap k:Nat)(bs:List Nat)(w:World)(T U:TypeId)(hl:bs.length=n)(hcap:n<=cap)(hnil:a=none->cap=0)(hB:BytesIn w a bs)(hx:∀j,bs.getD j 0<256)(hn:n<=3000)(hk:k<=2):
 Calls Tryz.prog 55 #[.slice (some ⟨w.heap.size,0,none⟩) 1 1,.slice (some ⟨w.heap.size+1,0,none⟩) 1 1] ((w.alloc (.cells #[.slice a n cap] T)).alloc (.cells #[.int .i64 (k:Int)] U)) fun e w'=>∃g c out,e=.returned (.tuple #[.slice (some ⟨g,0,none⟩) (Z4x bs k) c,.int .i64 0])/\g<w'.heap.size/\Bytes w' g 0 out/\IsOne bs k out/\Below w.heap.size w w':=by
 obtain⟨h1,h2⟩:=Wy hl hcap hnil hB hx (by omega) (k:Int) T U;refine(Zg3 w.heap.size 0 1 (w.heap.size+1) 0 1 1 _ _ [bs] [(k:Int)] _ rfl rfl h1 (by simp) h2 (Zcw hn bs hl hk)).mono ?_;rintro e w' ⟨v,out,rfl,hO,hr,hv,hb⟩;rw[Z8g]at hr;have hI:IsOne bs k out:=⟨hr,hv⟩
 obtain⟨g,c,rfl,_,hg⟩:=Bm hO hI.pos;refine⟨g,c,out,by rw[hI.len],hg,fun j hj=> ?_,hI,(((Below.refl w.heap.size w).alloc (Nat.le_refl _) _).alloc (by simp) _).trans (hb.mono (by simp;omega))⟩;rw[Nat.zero_add];have:=hO.cellAt j (by omega)
 rw[this];simp[List.getD,hj]
end Go.Proofs.YtcjbgpacnkilnaiGreatDoor
namespace Go.Proofs.YtcjbgpacnkilnaiGreatDoor
set_option linter.unusedVariables false
set_option maxRecDepth 100000
end Go.Proofs.YtcjbgpacnkilnaiGreatDoor
