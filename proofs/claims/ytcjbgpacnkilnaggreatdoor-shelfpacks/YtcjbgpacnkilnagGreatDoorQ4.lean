import Derived.Test.YtcjbgpacnkilnagGreatDoorQ3
import Derived.Test.YtcjbgpacnkilnagGreatDoorQ1
import Derived.Maps.Own
import Derived.Maps.OwnSet
import Derived.WideKeyPair
import Derived.Deep.DeepCutAuto
set_option maxHeartbeats 1000000
namespace Go.Proofs.YtcjbgpacnkilnagGreatDoor
set_option linter.unusedVariables false
structure US where
 p:Nat
 out:List Nat
 ks:List Nat
 e:Int
def uget (row:List Bool)(n:Nat)(u:US):Nat×US:=
 if u.e=0 then (if row.length<u.p+n then (0,{u with e:=7})else (Di ((row.drop u.p).take n),{u with p:=u.p+n}))else (0,u)
def Ay (x:Int)(u:US):US:=if u.e=0 then {u with e:=x}else u
def Jq (c:Nat)(u:US):US:=if u.e=0 then (if u.out.length=3000 then {u with e:=2}else {u with out:=u.out++ [c]})else u
def Re (l:List Int)(s:List Bool):Option Nat:=(List.range l.length).find? (fun q=>decide (An l q=s))
def Ff (l:List Int)(row:List Bool)(p:Nat):Nat->Nat->Nat×Nat×Int
 |0,_=>(0,0,8)
 |f+1,n=>if row.length<p+n then (0,0,7)else match Re l ((row.drop p).take n)with
  |some q=>(q,n,0)
  |none=>Ff l row p f (n+1)
def Qk (l:List Int)(row:List Bool)(p:Nat):Nat×Nat×Int:=Ff l row p 15 1
def uplace (l:List Int)(row:List Bool)(u:US):Nat×US:=
 if u.e=0 then ((Qk l row u.p).1,{u with e:=(Qk l row u.p).2.2,p:=u.p+(Qk l row u.p).2.1})else (0,u)
def ord19:List Nat:= [16,17,18,0,8,7,9,6,10,5,11,4,12,3,13,2,14,1,15]
def usmall (row:List Bool):List Nat->List Int->US->List Int×US
 | [],s,u=>(s,u)
 |k::r,s,u=>usmall row r (s.set k ((uget row 3 u).1:Int)) (uget row 3 u).2
def ukind (row:List Bool)(l:List Int)(k:Nat)(u:US):Int×Nat×US:=
 if k=16 then (if l.length=0 then (16,1,Ay 8 u)else (l.getD (l.length-1) 0,3+(uget row 2 u).1,(uget row 2 u).2))
 else if k=17 then (0,3+(uget row 3 u).1,(uget row 3 u).2)
 else if k=18 then (0,11+(uget row 7 u).1,(uget row 7 u).2)
 else ((k:Int),1,u)
def Sc (tot:Nat)(l:List Int)(r:Int×Nat×US):List Int×US:=
 (l++List.replicate r.2.1 r.1,if r.2.2.e=0/\tot<l.length+r.2.1 then Ay 8 r.2.2 else r.2.2)
def ustep (row:List Bool)(small:List Int)(tot:Nat)(l:List Int)(u:US):List Int×US:=Sc tot l (ukind row l (uplace small row u).1 (uplace small row u).2)
def ulens (row:List Bool)(small:List Int)(tot:Nat):Nat->List Int->US->List Int×US
 |0,l,u=>(l,u)
 |f+1,l,u=>if l.length<tot/\u.e=0 then ulens row small tot f (ustep row small tot l u).1 (ustep row small tot l u).2 else (l,u)
def Gi (row:List Bool)(m n c:Nat)(u:US):List Int×US:=
 usmall row (ord19.take c) (List.replicate 19 0) (if 286<m\/30<n then Ay 8 u else u)
def Sz (s:List Int×US):US:=if s.2.e=0/\errL s.1≠0 then Ay 8 s.2 else s.2
def Id (m:Nat)(r:List Int×US):(List Int×List Int)×US:=
 if r.2.e≠0 then (([],[]),r.2)
 else if r.1.getD 256 0=0\/errL (r.1.take m)≠0\/errL (r.1.drop m)≠0 then (([],[]),Ay 8 r.2)
 else ((r.1.take m,r.1.drop m),r.2)
def Ni (row:List Bool)(m n:Nat)(s:List Int×US):(List Int×List Int)×US:=
 if (Sz s).e≠0 then (([],[]),Sz s)else Id m (ulens row s.1 (m+n) (m+n) [] (Sz s))
def Dd (row:List Bool)(u:US):(List Int×List Int)×US:=
 let r1:=uget row 5 u
 let r2:=uget row 5 r1.2
 let r3:=uget row 4 r2.2
 Ni row (r1.1+257) (r2.1+1) (Gi row (r1.1+257) (r2.1+1) (r3.1+4) r3.2)
def ustore (row:List Bool):Nat->US->US
 |0,u=>u
 |k+1,u=>if u.e=0 then ustore row k (Jq (uget row 8 u).1 (uget row 8 u).2)else u
def ucopy (d:Nat):Nat->US->US
 |0,u=>u
 |j+1,u=>if u.e=0 then ucopy d j (Jq (u.out.getD (u.out.length-d) 0) u)else u
def samesL:List (Nat×Nat):= [(3,0),(4,0),(5,0),(6,0),(7,0),(8,0),(9,0),(10,0),(11,1),(13,1),(15,1),(17,1),(19,2),(23,2),(27,2),(31,2),(35,3),(43,3),(51,3),(59,3),(67,4),(83,4),(99,4),(115,4),(131,5),(163,5),(195,5),(227,5),(258,0)]
def farsL:List (Nat×Nat):= [(1,0),(2,0),(3,0),(4,0),(5,1),(7,1),(9,2),(13,2),(17,3),(25,3),(33,4),(49,4),(65,5),(97,5),(129,6),(193,6),(257,7),(385,7),(513,8),(769,8),(1025,9),(1537,9),(2049,10),(3073,10),(4097,11),(6145,11),(8193,12),(12289,12),(16385,13),(24577,13)]
def Ml:List Int:=List.replicate 144 8++List.replicate 112 9++List.replicate 24 7++List.replicate 8 8
def Ia:List Int:=List.replicate 32 5
def Zmy (row:List Bool)(n f:Nat)(u:US):US:=
 let q:=uget row (farsL.getD f (0,0)).2 u
 let d:=(farsL.getD f (0,0)).1+q.1
 ucopy d n (if q.2.e=0/\q.2.out.length<d then Ay 9 q.2 else q.2)
def Zig (row:List Bool)(b:List Int)(k:Nat)(u:US):Bool×US:=
 let g:=uget row (samesL.getD (k-257) (0,0)).2 u
 let h:=uplace b row g.2
 let u3:=if h.2.e=0/\29<h.1 then Ay 8 h.2 else h.2
 if u3.e≠0 then (false,u3)else (true,Zmy row ((samesL.getD (k-257) (0,0)).1+g.1) h.1 u3)
def Mo (row:List Bool)(a b:List Int)(u:US):Bool×US:=
 let r:=uplace a row u
 if r.2.e≠0\/r.1=256 then (false,r.2)
 else if r.1<256 then (true,Jq r.1 r.2)
 else if 285<r.1 then (false,Ay 8 r.2)
 else Zig row b r.1 r.2
def utok (row:List Bool)(a b:List Int):Nat->US->US
 |0,u=>u
 |f+1,u=>if u.e=0 then (if (Mo row a b u).1 then utok row a b f (Mo row a b u).2 else (Mo row a b u).2)else u
def ukept (k:Nat)(u:US):US:= {u with ks:=u.ks++ [k]}
def uopen (row:List Bool)(kind:Nat)(u:US):(List Int×List Int)×US:=
 if kind=1 then ((Ml,Ia),u)else if kind=2 then Dd row u else (([],[]),Ay 4 u)
def ustored (row:List Bool)(u:US):US:=
 let n:=uget row 16 {u with p:=(u.p+7)/8*8}
 let t:=uget row 16 n.2
 ustore row n.1 (if t.2.e=0/\n.1+t.1≠65535 then Ay 4 t.2 else t.2)
def Fd (row:List Bool)(u:US):Bool×US:=
 let l:=uget row 1 u
 let k:=uget row 2 l.2
 if k.2.e≠0 then (true,k.2)
 else if k.1=0 then (decide (l.1=1),ukept 0 (ustored row k.2))
 else
  let o:=uopen row k.1 k.2
  if o.2.e≠0 then (true,o.2)else (decide (l.1=1),ukept k.1 (utok row o.1.1 o.1.2 row.length o.2))
def Ek (row:List Bool):Nat->US->US
 |0,u=>u
 |f+1,u=>if (Fd row u).1=false/\(Fd row u).2.e=0 then Ek row f (Fd row u).2 else (Fd row u).2
def Zms (row:List Bool):US:=Ek row (row.length+1) ⟨0,[],[],0⟩
end Go.Proofs.YtcjbgpacnkilnagGreatDoor
namespace Go.Proofs.YtcjbgpacnkilnagGreatDoor
set_option linter.unusedVariables false
set_option maxRecDepth 100000
theorem Zcd:∀n c c',c<2^n->c'<2^n->hb c n=hb c' n->c=c'
 |0,c,c',h,h',_=>by simp at h h';omega
 |n+1,c,c',h,h',e=>by
  rw[Nat.pow_succ]at h h';rw[hb,hb]at e;have e1:=List.append_inj e (by rw[Bi,Bi]);have e2:=Zcd n (c/2) (c'/2) (by omega) (by omega) e1.1;have e3:decide (c%2=1)=decide (c'%2=1):=by simpa using e1.2
  have e4:(c%2=1↔c'%2=1):=by simpa using e3
  omega
theorem Z18 (l:List Int)(hG:Good l)(s:List Bool)(hs:s≠ [])(q q':Nat)(hq:q<l.length)(hq':q'<l.length)(e:An l q=s)(e':An l q'=s):q=q':=by
 obtain⟨m,hm⟩:=Int.eq_ofNat_of_zero_le (hG.ok q hq).1;obtain⟨m',hm'⟩:=Int.eq_ofNat_of_zero_le (hG.ok q' hq').1;have hl:=congrArg List.length (e.trans e'.symm)
 have hs0:0<m:=by
  by_cases h:m=0
  . subst h;unfold An at e;rw[hm]at e;exact absurd e.symm hs
  . omega
 have ee:=e.trans e'.symm;unfold An at hl ee;rw[hm,hm',Int.toNat_natCast,Int.toNat_natCast]at hl ee;rw[Bi,Bi]at hl;subst hl
 by_cases h:q=q'
 . exact h
 . have c3:=(Iy l hG hq hm hs0).2.2;have c3':=(Iy l hG hq' hm' hs0).2.2;have:=Qf l hG hq hq' hm hm' h hs0 (Nat.le_refl _)
   rw[Nat.sub_self,Nat.pow_zero,Nat.div_one]at this;exact absurd (Zcd m _ _ c3' c3 ee.symm) this
theorem Z58 (l:List Int)(row:List Bool)(p:Nat):∀k f,(∀j,1<=j->j<=k->¬row.length<p+j/\Re l ((row.drop p).take j)=none)->∀n,n+k=k+1->Ff l row p (k+f) n=Ff l row p f (n+k)
 |0,f,_,n,_=>by simp
 |k+1,f,h,n,hn=>by
  have e:=Z58 l row p k (f+1) (fun j h1 h2=>h j h1 (by omega)) n (by omega);rw[show k+1+f=k+(f+1) by omega,e];obtain rfl:n=1:=by omega
  obtain⟨a1,a2⟩:=h (k+1) (by omega) (Nat.le_refl _);rw[Ff,show 1+k=k+1 by omega,if_neg a1,a2,show 1+(k+1)=k+1+1 by omega]
end Go.Proofs.YtcjbgpacnkilnagGreatDoor
namespace Go.Proofs.YtcjbgpacnkilnagGreatDoor
set_option linter.unusedVariables false
theorem Nl (a b:List Bool):Di (a++b)=Di a+2^a.length*Di b:=by
 induction a with
 |nil=>simp[Di]
 |cons x r ih=>
  rw[List.cons_append,Di,ih,Di,List.length_cons,Nat.pow_succ,Nat.mul_add,<-Nat.mul_assoc,Nat.mul_comm 2 (2^r.length),Nat.add_assoc]
theorem Lh (x:Nat):∀n,Di (Ah x n)=x%2^n
 |0=>by simp[Ah,Di,Nat.mod_one]
 |n+1=>by
  have h:Ah x (n+1)=Ah x n++ [x.testBit n]:=rfl;rw[h,Nl,Lh x n,Ae,Nat.pow_succ,Nat.mod_mul]
  congr 2
  have:=Zdq x n
  rw[this]
  cases x.testBit n<;>simp[Di]
theorem Zim (row:List Bool)(n x:Nat)(u:US)(he:u.e=0)(hle:u.p+n<=row.length)(hx:x<2^n)(h:(row.drop u.p).take n=Ah x n):uget row n u=(x,{u with p:=u.p+n}):=by
 unfold uget;rw[if_pos he,if_neg (by omega),h,Lh,Nat.mod_eq_of_lt hx]
theorem Zk7 (c:Nat):∀n j,j<=n->(hb c n).take j=hb (c/2^(n-j)) j:=by
 intro n
 induction n generalizing c with
 |zero=>
  intro j hj;obtain rfl:j=0:=by omega
  rfl
 |succ n ih=>
  intro j hj
  by_cases e:j=n+1
  . subst e;rw[Nat.sub_self,Nat.pow_zero,Nat.div_one,List.take_of_length_le (by rw[Bi];exact Nat.le_refl _)]
  . rw[hb,List.take_append_of_le_length (by rw[Bi];omega),ih (c/2) j (by omega),Nat.div_div_eq_div_mul,<-Nat.pow_succ',show n+1-j=(n-j)+1 by omega]
theorem Z8i (l:List Int)(hG:Good l)(q q':Nat)(hq:q<l.length)(hq':q'<l.length)(hpos:An l q≠ [])(h:An l q=(An l q').take (An l q).length):q=q':=by
 obtain⟨m,hm⟩:=Int.eq_ofNat_of_zero_le (hG.ok q hq).1;obtain⟨m',hm'⟩:=Int.eq_ofNat_of_zero_le (hG.ok q' hq').1;have hl:(An l q).length=m:=by unfold An;rw[hm,Int.toNat_natCast,Bi]
 have hl':(An l q').length=m':=by unfold An;rw[hm',Int.toNat_natCast,Bi]
 have hm0:0<m:=by
  rw[<-hl];exact List.length_pos_iff.2 hpos
 have hle:m<=m':=by
  have:=congrArg List.length h
  rw[List.length_take,hl,hl']at this;omega
 by_cases e:q=q'
 . exact e
 . exfalso
   have hp:=Qf l hG hq hq' hm hm' e hm0 hle;rw[hl]at h;unfold An at h;rw[hm,hm',Int.toNat_natCast,Int.toNat_natCast,Zk7 _ _ _ hle]at h;have c3:=(Iy l hG hq hm hm0).2.2;have c3':=(Iy l hG hq' hm' (by omega)).2.2
   have hlt:codeN l q'/2^(m'-m)<2^m:=by
    rw[Nat.div_lt_iff_lt_mul (Nat.two_pow_pos _),<-Nat.pow_add,show m+(m'-m)=m' by omega];exact c3'
   exact hp (Zcd m _ _ hlt c3 h.symm)
theorem Z9c (l:List Int)(hG:Good l)(row:List Bool)(q:Nat)(u:US)(he:u.e=0)(hq:q<l.length)(hpos:An l q≠ [])(hle:u.p+(An l q).length<=row.length)(h:(row.drop u.p).take (An l q).length=An l q):uplace l row u=(q,{u with p:=u.p+(An l q).length}):=by
 obtain⟨m,hm⟩:=Int.eq_ofNat_of_zero_le (hG.ok q hq).1;have hm15:=(hG.ok q hq).2;have hl:(An l q).length=m:=by unfold An;rw[hm,Int.toNat_natCast,Bi]
 have hm0:0<m:=by
  rw[<-hl];exact List.length_pos_iff.2 hpos
 obtain⟨k,rfl⟩:∃k,m=k+1:=⟨m-1,by omega⟩
 rw[hm]at hm15;rw[hl]at hle h ⊢
 have hfree:∀j,1<=j->j<=k->Re l ((row.drop u.p).take j)=none:=by
  intro j h1 h2;unfold Re;rw[List.find?_eq_none];intro q2 hq2;simp only[decide_eq_true_eq];intro e
  have hj:(An l q2).length=j:=by
   rw[e,List.length_take,List.length_drop];omega
  have hne:An l q2≠ []:=fun e0=>by rw[e0]at hj;simp at hj;omega
  have:=Z8i l hG q2 q (by simpa using hq2) hq hne (by
   rw[hj,<-h,List.take_take,show min j (k+1)=j by omega];exact e)
  subst this;omega
 have hfound:Re l ((row.drop u.p).take (k+1))=some q:=by
  unfold Re
  cases hf:(List.range l.length).find? (fun q2=>decide (An l q2=(row.drop u.p).take (k+1)))with
  |none=>
   rw[List.find?_eq_none]at hf;exact absurd (by simpa using h.symm) (hf q (by simpa using hq))
  |some y=>
   have hy:=List.find?_some hf;have hy2:=List.mem_of_find?_eq_some hf;simp only[decide_eq_true_eq]at hy;rw[Z18 l hG (An l q) hpos y q (by simpa using hy2) hq (hy.trans h) rfl]
 have hn:Qk l row u.p=(q,k+1,0):=by
  unfold Qk;have:=Z58 l row u.p k (15-k) (fun j h1 h2=>⟨by omega,hfree j h1 h2⟩) 1 (by omega)
  rw[show k+(15-k)=15 by omega]at this;rw[this,show 15-k=(14-k)+1 by omega,Ff,show 1+k=k+1 by omega,if_neg (by omega),hfound]
 unfold uplace;rw[if_pos he,hn];simp[he]
end Go.Proofs.YtcjbgpacnkilnagGreatDoor
namespace Go.Proofs.YtcjbgpacnkilnagGreatDoor
open Go.RowKit Go.Maps Go.WideMaps Go.ChangeShapes
set_option linter.unusedVariables false
set_option maxRecDepth 100000
theorem Znr:ArrKey Tryz.prog 243 3 2:=⟨Tryz.underlying243,by kernel_rfl,by kernel_rfl,by kernel_rfl⟩
theorem Zn4:Keyed Tryz.prog 243:=Keyed.of_law Znr.law
theorem Zha:∃m,Tryz.prog.types.size=m+1:=⟨Tryz.prog.types.size-1,by have:0<Tryz.prog.types.size:=of_decide_eq_true (by kernel_rfl);omega⟩
def kw (c:Nat×Nat):Value:=.agg #[.int .i64 (c.1:Int),.int .i64 (c.2:Int)]
def kwl (c:Nat×Nat):Lit:=.string (keyBytes [.int .i64 (c.1:Int),.int .i64 (c.2:Int)])
def OkW (c:Nat×Nat):Prop:=c.1<65536/\c.2<65536
theorem Uv {x:Nat}(h:x<65536):(Lit.int .i64 (x:Int)).wf=true:=by
 simp[Lit.wf,IntKind.min,IntKind.max,IntKind.signed,IntKind.bits];omega
theorem Ou {c:Nat×Nat}(h:OkW c):keyOf Tryz.prog 243 (kw c)=some (kwl c):=by
 have A:=Znr;have hkt:=A.keyType Zha;obtain⟨m,hm⟩:=Zha;have he:Tryz.prog.underlying 3=some (.int .i64):=Tryz.underlying3;have w1:=Uv h.1;have w2:=Uv h.2;unfold keyOf kw kwl;simp only[A.hu];rw[if_pos (by simp[hkt,Value.formed,A.hu,A.size]),hm];unfold Program.keyLits;simp only[A.hu,Value.cells];rw[if_pos (by rw[A.size];rfl),show List.range 2= [0,1] from rfl,List.mapM_cons,List.mapM_cons,List.mapM_nil];simp[A.one,Program.keyLits,he,w1,w2]
theorem Zjz {c d:Nat×Nat}(hc:OkW c)(hd:OkW d)(h:kwl c=kwl d):c=d:=by
 have:=Zn4.inj (Ou hc) (by rw[h];exact Ou hd)
 obtain⟨c1,c2⟩:=c;obtain⟨d1,d2⟩:=d;simp[kw]at this
 simp only[Prod.mk.injEq];omega
def vH:List Bool->Nat
 | []=>0
 |b::r=>(if b then 2^r.length else 0)+vH r
theorem Z95:∀s,vH s<2^s.length
 | []=>by simp[vH]
 |b::r=>by
  have:=Z95 r
  rw[vH,List.length_cons,Nat.pow_succ]
  split<;>omega
theorem Z1z:∀(s:List Bool) (b:Bool),vH (s++ [b])=2*vH s+(if b then 1 else 0)
 | [],b=>by cases b<;>rfl
 |x::r,b=>by
  rw[List.cons_append,vH,Z1z r b,vH,List.length_append];simp only[List.length_cons,List.length_nil,Nat.zero_add,Nat.pow_succ]
  cases x<;>simp<;>omega
theorem Z96:∀ {s t:List Bool},s.length=t.length->vH s=vH t->s=t
 | [],[],_,_=>rfl
 | [],_::_,h,_=>by simp at h
 |_::_,[],h,_=>by simp at h
 |a::s,b::t,h,e=>by
  have hl:s.length=t.length:=by simpa using h
  have h1:=Z95 s;have h2:=Z95 t;rw[vH,vH,hl]at e;rw[hl]at h1
  cases a<;>cases b<;>simp at e
  . rw[Z96 hl e]
  . omega
  . omega
  . rw[Z96 hl e]
theorem Zlc:∀n c,c<2^n->vH (hb c n)=c
 |0,c,h=>by simp at h;subst h;rfl
 |n+1,c,h=>by
  rw[hb,Z1z,Zlc n (c/2) (by rw[Nat.pow_succ]at h;omega)];have:=Nat.mod_two_eq_zero_or_one c
  rcases this with e|e<;>simp[e]<;>omega
def kb (s:List Bool):Lit:=kwl (s.length,vH s)
theorem okb {s:List Bool}(h:s.length<=15):OkW (s.length,vH s):=by
 have h1:=Z95 s;have h2:2^s.length<=2^15:=Nat.pow_le_pow_right (by decide) h;exact⟨by simp only;omega,by simp only;omega⟩
theorem Zhv {s t:List Bool}(hs:s.length<=15)(ht:t.length<=15)(h:kb s=kb t):s=t:=by
 have:=Zjz (okb hs) (okb ht) h
 exact Z96 (Prod.mk.inj this).1 (Prod.mk.inj this).2
theorem Zhu (s:List Bool):WideAt.IsKeyLit (kb s):=by
 first|trivial|exact⟨⟩|(unfold kb kwl WideAt.IsKeyLit;simp)
def decD (l:List Int):Nat->DataW Unit
 |0=>.map []
 |k+1=>if An l k= []then decD l k else (decD l k).put (kb (An l k)) (.lit (.int .i64 (k:Int)))
theorem Pe (l:List Int):∀k,IsMap (decD l k)
 |0=>isMap_empty
 |k+1=>by
  rw[decD]
  split
  . exact Pe l k
  . exact(Pe l k).put _ _
theorem Zd2 (l:List Int)(hc:∀k,(An l k).length<=15)(s:List Bool)(hs:s≠ [])(hl:s.length<=15):∀k,Maps.has (decD l k) (kb s)=decide (∃q,q<k/\An l q=s)
 |0=>by
  rw[decide_eq_false (by rintro ⟨q,h,_⟩;omega)];rfl
 |k+1=>by
  have ih:=Zd2 l hc s hs hl k
  have e:(∃q,q<k+1/\An l q=s)↔((∃q,q<k/\An l q=s)\/An l k=s):=by
   constructor
   . rintro ⟨q,h1,h2⟩
     by_cases hq:q=k
     . subst hq;exact .inr h2
     . exact .inl ⟨q,by omega,h2⟩
   . rintro (⟨q,h1,h2⟩|h)
     . exact⟨q,by omega,h2⟩
     . exact⟨k,by omega,h⟩
  rw[decD]
  by_cases h0:An l k= []
  . rw[if_pos h0,ih,Bool.eq_iff_iff];simp only[decide_eq_true_eq,e]
    constructor
    . exact .inl
    . rintro (h|h)
      . exact h
      . rw[h0]at h;exact absurd h.symm hs
  . rw[if_neg h0]
    by_cases hk:An l k=s
    . rw[hk,has_put_same (Pe l k) (Zhu s),decide_eq_true (e.2 (.inr hk))]
    . rw[has_put_other (fun h=>hk (Zhv (hc k) hl (by first|exact h|exact h.symm))),ih,Bool.eq_iff_iff];simp only[decide_eq_true_eq,e]
      constructor
      . exact .inl
      . rintro (h|h)
        . exact h
        . exact absurd h hk
theorem Zd3 (l:List Int)(hc:∀k,(An l k).length<=15)(s:List Bool)(hs:s≠ [])(hl:s.length<=15)(hinj:∀q q',q<l.length->q'<l.length->An l q=s->An l q'=s->q=q')(z:DataW Unit):∀k,k<=l.length->∀q,q<k->An l q=s->(decD l k).atKey (kb s) z=.lit (.int .i64 (q:Int))
 |0,_,q,h,_=>by omega
 |k+1,hk,q,h,hq=>by
  rw[decD]
  by_cases h0:An l k= []
  . rw[if_pos h0];have:q≠k:=fun e=>by subst e;rw[h0]at hq;exact hs hq.symm
    exact Zd3 l hc s hs hl hinj z k (by omega) q (by omega) hq
  . rw[if_neg h0]
    by_cases e:An l k=s
    . have:=hinj q k (by omega) (by omega) hq e
      subst this;rw[e,atKey_put_same (Pe l _) (Zhu s)]
    . rw[atKey_put_other (fun h=>e (Zhv (hc k) hl (by first|exact h|exact h.symm)))];have:q≠k:=fun e2=>by subst e2;exact e hq
      exact Zd3 l hc s hs hl hinj z k (by omega) q (by omega) hq
theorem Rs {l:List Int}(hG:Good l)(k:Nat):(An l k).length<=15:=by
 unfold An;rw[Bi]
 by_cases hk:k<l.length
 . have:=(hG.ok k hk).2;omega
 . rw[List.getD,List.getElem?_eq_none (by omega)];exact(by decide:(0:Int).toNat<=15)
theorem Zdb {l:List Int}(hG:Good l){k n:Nat}(hk:k<l.length)(hn:l.getD k 0=(n:Int))(h0:0<n):kb (An l k)=kwl (n,codeN l k)/\An l k≠ []/\OkW (n,codeN l k):=by
 have hlt:=(Iy l hG hk hn h0).2.2;have h15:=(hG.ok k hk).2;rw[hn]at h15;have e:An l k=hb (codeN l k) n:=by unfold An;rw[hn];rfl
 have hp:2^n<=2^15:=Nat.pow_le_pow_right (by decide) (by omega);have hp15:(2:Nat)^15=32768:=by decide
 refine⟨?_, ?_,⟨by simp only;omega,by simp only;omega⟩⟩
 . rw[e];unfold kb;rw[Bi,Zlc n _ hlt]
 . intro h;have:=congrArg List.length h
   rw[e,Bi]at this;simp at this
   omega
end Go.Proofs.YtcjbgpacnkilnagGreatDoor
namespace Go.Proofs.YtcjbgpacnkilnagGreatDoor
open Go.RowKit
set_option linter.unusedVariables false
set_option maxRecDepth 100000
abbrev Flt (x:Int):Ending:=.panicked [{v:=.iface 202 (.agg #[.int .i64 x]),recovered:=false}]
theorem Bw (x:Int)(w:World):Calls Tryz.prog 150 #[.int .i64 x] w fun e w'=>e=Flt x/\w'=w:=by
 go_enter Tryz.func150,Tryz.ntmps150
 go_wp2;exact⟨rfl,rfl,rfl⟩
def icells (R:Value)(f1 f2:Value)(u:US)(ov kv:Value):Array Value:= #[R,.int .i64 (u.p:Int),ov,kv,f1,f2]
structure IIs (No:Nat->Prop)(B:Nat)(w:World)(b:Nat)(R f1 f2:Value)(u:US):Prop where
 base:B<=b
 no:¬No b
 ex:∃ov kv,w.heap[b]? =some (.cells (icells R f1 f2 u ov kv) 183 (0,0))/\w.ownsRow (b+1) 5 1 ov u.out.length (u8s u.out)/\w.ownsRow (b+1) 3 1 kv u.ks.length (i64s u.ks)/\(ov.ownBlock=none\/ov.ownBlock≠kv.ownBlock)/\(∀g,ov.ownBlock=some g->¬No g)/\(∀g,kv.ownBlock=some g->¬No g)
structure IUp (No:Nat->Prop)(B:Nat)(w:World)(b:Nat)(R f1 f2:Value)(u:US)(w':World):Prop where
 is:IIs No B w' b R f1 f2 u
 below:Below B w w'
 kp:Kp No w w'
theorem IIs.lt {No:Nat->Prop}{B b:Nat}{w:World}{R f1 f2:Value}{u:US}(h:IIs No B w b R f1 f2 u):b<w.heap.size:=by
 obtain⟨ov,kv,h1,_⟩:=h.ex;exact(Array.getElem?_eq_some_iff.1 h1).1
theorem IIs.cell {No:Nat->Prop}{B b:Nat}{w:World}{R f1 f2:Value}{u:US}(h:IIs No B w b R f1 f2 u):w.cell? ⟨b,0,none⟩=some R/\w.cell? ⟨b,1,none⟩=some (.int .i64 (u.p:Int))/\∀j,w.frozen? ⟨b,j,none⟩=false:=by
 obtain⟨ov,kv,h1,_⟩:=h.ex;exact⟨Ac h1,Ac h1,fun j=>frozen_of_row w b j _ _ h1⟩
theorem IUp.refl {No:Nat->Prop}{B b:Nat}{w:World}{R f1 f2:Value}{u:US}(h:IIs No B w b R f1 f2 u):IUp No B w b R f1 f2 u w:=⟨h,Below.refl _ _,Kp.refl _ _⟩
theorem IUp.trans {No:Nat->Prop}{B b:Nat}{w w1 w2:World}{R f1 f2 g1 g2:Value}{u v:US}(h:IUp No B w b R f1 f2 u w1)(k:IUp No B w1 b R g1 g2 v w2):IUp No B w b R g1 g2 v w2:=⟨k.is,h.below.trans k.below,h.kp.trans k.kp h.below.size⟩
theorem IIs.grown {No:Nat->Prop}{B b:Nat}{w w':World}{R f1 f2:Value}{u:US}(h:IIs No B w b R f1 f2 u)(hg:w.grownBy w' none):IIs No B w' b R f1 f2 u:=by
 obtain⟨ov,kv,h1,h2,h3,h4⟩:=h.ex;exact⟨h.base,h.no,ov,kv,(hg.block b h.lt (by simp)).trans h1,Le h2 hg,Le h3 hg,h4⟩
theorem IUp.drewN {No:Nat->Prop}{B b:Nat}{w w':World}{R f1 f2:Value}{u:US}(h:IUp No B w b R f1 f2 u w')(q:Nat):IUp No B w b R f1 f2 u (w'.drewN q):=
 ⟨h.is.grown ⟨rfl,rfl,rfl,Nat.le_refl _,fun _ _ _=>rfl⟩,Af h.below q,h.kp⟩
theorem IIs.set {No:Nat->Prop}{B b:Nat}{w:World}{R f1 f2 g1 g2:Value}{u:US}(h:IIs No B w b R f1 f2 u)(i:Nat)(v:Value)(u':US)(ho:u'.out=u.out)(hk:u'.ks=u.ks)(hc:∀ov kv,(icells R f1 f2 u ov kv).setIfInBounds i v=icells R g1 g2 u' ov kv):IUp No B w b R g1 g2 u' (w.setCell ⟨b,i,none⟩ v):=by
 obtain⟨ov,kv,h1,h2,h3,h4,h5,h6⟩:=h.ex;have hg:=Ad w b i v
 have hne:∀ {e size n:Nat} {x:Value} {xs:List Value},w.ownsRow (b+1) e size x n xs->x.ownBlock=none\/x.ownBlock≠some b:=fun {e size n x xs} ho=>by
  cases hx:x.ownBlock with
  |none=>exact .inl rfl
  |some g=>
   refine .inr (fun e=> ?_);have:=(ho.lt g hx).1
   cases e
   omega
 refine⟨⟨h.base,h.no,ov,kv, ?_,by rw[ho];exact h2.kept hg (hne h2),by rw[hk];exact h3.kept hg (hne h3),h4,h5,h6⟩, ?_, ?_⟩
 . rw[heap_setCell_same w b i _ _ _ h1,hc]
 . exact(Below.refl B w).grown hg (Nat.le_trans h.base (Nat.le_of_lt h.lt)) (fun g e=>by cases e;exact h.base)
 . exact(Kp.refl No w).grown hg (Nat.le_refl _) (fun g e=>by cases e;exact h.no)
theorem IIs.setP {No:Nat->Prop}{B b:Nat}{w:World}{R f1 f2:Value}{u:US}(h:IIs No B w b R f1 f2 u)(q:Nat):IUp No B w b R f1 f2 {u with p:=q} (w.setCell ⟨b,1,none⟩ (.int .i64 (q:Int))):=h.set 1 _ _ rfl rfl (fun _ _=>rfl)
structure Bl (No:Nat->Prop)(B:Nat)(w w':World):Prop where
 below:Below B w w'
 kp:Kp No w w'
theorem Bl.refl (No:Nat->Prop)(B:Nat)(w:World):Bl No B w w:=⟨Below.refl _ _,Kp.refl _ _⟩
theorem Bl.trans {No:Nat->Prop}{B:Nat}{w w1 w2:World}(h:Bl No B w w1)(k:Bl No B w1 w2):Bl No B w w2:=⟨h.below.trans k.below,h.kp.trans k.kp h.below.size⟩
theorem Bl.drewN {No:Nat->Prop}{B:Nat}{w w1:World}(h:Bl No B w w1)(q:Nat):Bl No B w (w1.drewN q):=⟨Af h.below q,h.kp⟩
theorem Bl.weaken {No No':Nat->Prop}{B:Nat}{w w1:World}(h:Bl No' B w w1)(hn:∀g,No g->No' g):Bl No B w w1:=⟨h.below,h.kp.weaken hn⟩
theorem IUp.bl {No:Nat->Prop}{B b:Nat}{w w':World}{R f1 f2:Value}{u:US}(h:IUp No B w b R f1 f2 u w'):Bl No B w w':=⟨h.below,h.kp⟩
def Got (No:Nat->Prop)(B:Nat)(w:World)(b:Nat)(R f1 f2:Value)(v:Value)(u:US)(e:Ending)(w':World):Prop:=
 (u.e=0/\e=.returned v/\IUp No B w b R f1 f2 u w')\/ (u.e≠0/\e=Flt u.e/\Bl No B w w')
def Mj (b:Nat)(w w':World):Prop:=∀j,j≠1->w'.cell? ⟨b,j,none⟩=w.cell? ⟨b,j,none⟩
def GotK (No:Nat->Prop)(B:Nat)(w:World)(b:Nat)(R f1 f2:Value)(v:Value)(u:US)(e:Ending)(w':World):Prop:=
 (u.e=0/\e=.returned v/\IUp No B w b R f1 f2 u w'/\Mj b w w')\/ (u.e≠0/\e=Flt u.e/\Bl No B w w')
theorem GotK.got {No:Nat->Prop}{B b:Nat}{w w':World}{R f1 f2 v:Value}{u:US}{e:Ending}(h:GotK No B w b R f1 f2 v u e w'):Got No B w b R f1 f2 v u e w':=by
 rcases h with ⟨h1,h2,h3,_⟩|h
 . exact .inl ⟨h1,h2,h3⟩
 . exact .inr h
theorem Zc8 (x r:Nat)(hx:x<256):bits .and .i64 (wrap64 ((x:Int)/2^r)) 1=((x/2^r%2:Nat):Int):=by
 have e:((x:Int)/2^r)=((x/2^r:Nat):Int):=by push_cast;rfl
 have h:x/2^r<=x:=Nat.div_le_self _ _
 have h1:wrap64 ((x:Int)/2^r)=((x/2^r:Nat):Int):=by
  rw[e];generalize x/2^r=y at*;unfold wrap64;omega
 rw[h1];have h2:=Z37 (x/2^r) 0 (by omega);simpa using h2
theorem Zkv (bs:List Nat)(p:Nat):bs.getD (p/8) 0/2^(p%8)%2=if Jv bs p then 1 else 0:=by
 unfold Jv;exact Zdq _ _
structure Rd (w:World)(No:Nat->Prop)(a:Option Addr)(n:Nat)(bs:List Nat):Prop where
 len:bs.length=n
 few:n<=6000
 byt:BytesIn w a bs
 val:∀j,bs.getD j 0<256
 no:∀b o,a=some ⟨b,o,none⟩->bs≠ []->No b
theorem Rd.keep {w w':World}{No:Nat->Prop}{a:Option Addr}{n:Nat}{bs:List Nat}(h:Rd w No a n bs)(hs:w.heap.size<=w'.heap.size)(hk:Kp No w w'):Rd w' No a n bs:=by
 refine⟨h.len,h.few, ?_,h.val,h.no⟩
 by_cases e:bs= []
 . exact .inl e
 . rcases h.byt with h1|⟨b,o,e1,hb,hB⟩
   . exact absurd h1 e
   . exact .inr ⟨b,o,e1,by omega,fun j hj=>(World.cell?_of_block (w:=w) (a:=⟨b,_,none⟩) (hk b hb (h.no b o e1 e))).trans (hB j hj)⟩
theorem Z4p (No:Nat->Prop)(B b:Nat)(a:Option Addr)(n cap:Nat)(bs:List Nat)(f1 f2:Value)(u:US)(w:World)(h:IIs No B w b (.slice a n cap) f1 f2 u)(hR:Rd w No a n bs)(hp:u.p<=8*n)(he:u.e=0):
 Calls Tryz.prog 145 #[.pointer (some ⟨b,0,none⟩)] w fun e w'=>GotK No B w b (.slice a n cap) f1 f2 (.int .i64 (if Jv bs u.p then 1 else 0)) (if u.p=8*n then {u with e:=7}else {u with p:=u.p+1}) e w':=by
 obtain⟨c0,c1,fr⟩:=h.cell;have fr1:=fr 1;have hfew:=hR.few;have H:=Ab h;have HR:=Ab hR;clear h hR fr;obtain⟨p,hpp⟩:∃p,u.p=p:=⟨_,rfl⟩
 rw[hpp]at c1 hp ⊢;have HPP:=Ab hpp;have HE:=Ab he;clear hpp he;obtain⟨vb,hvb⟩:∃vb:Int,(if Jv bs p then (1:Int)else 0)=vb:=⟨_,rfl⟩
 rw[hvb];have HVB:=Ab hvb;clear hvb
 by_cases h0:p=8*n
 . have hb:((p:Int)==8*(n:Int))=true:=by rw[beq_iff_eq];omega
   rw[if_pos h0];obtain⟨u7,hu7⟩:∃u7:US,({p:=p,out:=u.out,ks:=u.ks,e:=7}:US)=u7:=⟨_,rfl⟩
   rw[hu7];have HU:=Ab hu7;clear h0 hu7;go_enter Tryz.func145,Tryz.ntmps145
   go_wp2;go_quiet (fail)
   go_wp2_with fail
   refine(Bw 7 _).mono ?_;rintro e w2 ⟨rfl,rfl⟩;go_wp2;refine⟨rfl,.inr ⟨by rw[<-Aa HU];exact(by decide:(7:Int)≠0),by rw[<-Aa HU],(Bl.refl _ _ _).drewN _⟩⟩
 . have hb:((p:Int)==8*(n:Int))=false:=by rw[beq_eq_false_iff_ne];omega
   rw[if_neg h0];obtain⟨u7,hu7⟩:∃u7:US,({p:=p+1,out:=u.out,ks:=u.ks,e:=u.e}:US)=u7:=⟨_,rfl⟩
   rw[hu7];have HU:=Ab hu7;clear hu7;obtain⟨b2,o2,rfl,hb2,hBy⟩:=Cm (Aa HR).byt (by rw[(Aa HR).len];omega);have hj:p/8<bs.length:=by rw[(Aa HR).len];omega
   have c3:=hBy _ hj;have hx1:=(Aa HR).val (p/8);have hj2:(p:Int)/8<(n:Int):=by omega
   have HBN:=Ab (Zkv bs p);clear hBy hj;generalize bs.getD (p/8) 0=x at*;go_enter Tryz.func145,Tryz.ntmps145
   go_wp2;go_quiet (fail)
   go_wp2;go_quiet (fail)
   go_wp2;go_ret;refine .inl ⟨by rw[<-Aa HU];exact Aa HE,Fb ?_, ?_, ?_⟩
   . rw[<-Aa HVB];refine(Zc8 x (p%8) hx1).trans ?_;rw[Aa HBN]
     split<;>rfl
   . rw[<-Aa HU]
     have key:∀q:Nat,IUp No B w b (.slice (some ⟨b2,o2,none⟩) n cap) f1 f2 {p:=p+1,out:=u.out,ks:=u.ks,e:=u.e} ((w.drewN q).setCell ⟨b,1,none⟩ (.int .i64 ((p:Int)+1))):=fun q=>by
      have hs:=((Aa H).grown (w':=w.drewN q) ⟨rfl,rfl,rfl,Nat.le_refl _,fun _ _ _=>rfl⟩).setP (p+1);rw[show ((p+1:Nat):Int)=(p:Int)+1 by omega]at hs;exact((IUp.refl (Aa H)).drewN q).trans hs
     exact key _
   . intro j hj;exact World.cell?_setCell_other _ _ _ _ (by intro e;exact hj (by cases e;rfl))
theorem Z74 (row:List Bool)(p i:Nat)(h:p+i<row.length):Di ((row.drop p).take (i+1))=Di ((row.drop p).take i)+2^i*(if row.getD (p+i) false then 1 else 0):=by
 have hl:((row.drop p).take i).length=i:=by rw[List.length_take,List.length_drop];omega
 have e:(row.drop p).take (i+1)=(row.drop p).take i++ [row.getD (p+i) false]:=by
  rw[List.take_add_one,List.getElem?_drop];simp[List.getD,h]
 rw[e,Nl,hl]
 cases row.getD (p+i) false<;>simp[Di]
theorem Zjj (m i x:Nat)(hm:m<2^i)(hi:i<=16)(hx:x<2):bits .or .i64 (m:Int) ((x:Int)*2^i)=((m+2^i*x:Nat):Int):=by
 have hp:2^i<=2^16:=Nat.pow_le_pow_right (by decide) hi;have e:((x:Int)*2^i)=((2^i*x:Nat):Int):=by push_cast;rw[Int.mul_comm]
 have h2:2^i*x<=2^i*1:=Nat.mul_le_mul_left _ (by omega);have h3:(2:Nat)^16=65536:=by decide
 rw[e,Mx _ _ (by omega) (by omega)];have:=Nat.two_pow_add_eq_or_of_lt (i:=i) (b:=m) hm x
 rw[Nat.or_comm,<-this,Nat.add_comm]
theorem Qj (No:Nat->Prop)(B b:Nat)(a:Option Addr)(n cap size:Nat)(bs:List Nat)(f1 f2:Value)(u:US)(w:World)(h:IIs No B w b (.slice a n cap) f1 f2 u)(hR:Rd w No a n bs)(hp:u.p<=8*n)(he:u.e=0)(hs:size<=16)(r:Nat)(v:US)(hr:Hid (uget (rowB bs n) size u=(r,v))):
 Calls Tryz.prog 127 #[.pointer (some ⟨b,0,none⟩),.int .i64 (size:Int)] w fun e w'=>GotK No B w b (.slice a n cap) f1 f2 (.int .i64 (r:Int)) v e w':=by
 have hrl:=Ag bs n;have H:=Ab h;have HR:=Ab hR;have HE:=Ab he;have hfew:=hR.few;clear h hR he;obtain⟨p,hpp⟩:∃p,u.p=p:=⟨_,rfl⟩
 rw[hpp]at hp;have HPP:=Ab hpp
 have hUV:Hid ((8*n<p+size->v= {p:=p,out:=u.out,ks:=u.ks,e:=7})/\(p+size<=8*n->r=Di (((rowB bs n).drop p).take size)/\v= {u with p:=p+size})):=by
  have:=Aa hr
  unfold uget at this;rw[if_pos (Aa HE),hrl,hpp]at this
  constructor
  . intro h1;rw[if_pos h1]at this;exact(Prod.mk.inj this).2.symm
  . intro h1;rw[if_neg (by omega)]at this;exact⟨(Prod.mk.inj this).1.symm,(Prod.mk.inj this).2.symm⟩
 clear hpp hrl;go_enter Tryz.func127,Tryz.ntmps127
 go_wp2;go_loopw [5,8] (fun v5 v8 wr=>∃i m:Nat,i<=size/\p+i<=8*n/\v8=.int .i64 (i:Int)/\v5=.int .i64 (m:Int)/\Hid (m=Di (((rowB bs n).drop p).take i))/\Hid (IUp No B w b (.slice a n cap) f1 f2 {u with p:=p+i} wr/\Mj b w wr)) (fun _ v8 _=>size-(intOf v8).toNat)
 case atStart=>exact⟨0,0,Nat.zero_le _,by omega,rfl,rfl,Ab (by simp[Di]),Ab (by
  have:=IUp.refl (Aa H)
  rw[<-Aa HPP];exact⟨this,fun _ _=>rfl⟩)⟩
 case round=>
  obtain⟨i,m,hi,hpi,rfl,rfl,hm,hI⟩:=hrel
  by_cases hlt:i<size
  . have hiI:(i:Int)<(size:Int):=by omega
    have hIs:=(Aa hI).1.is;have HB:=Ab (Z4p No B b a n cap bs f1 f2 {u with p:=p+i} wr hIs ((Aa HR).keep (Aa hI).1.below.size (Aa hI).1.kp) hpi (Aa HE))
    have hxx:∃x:Nat,(if Jv bs (p+i)then (1:Int)else 0)=(x:Int)/\x<2/\x=(if (rowB bs n).getD (p+i) false then 1 else 0):=by
     by_cases hq:p+i<8*n
     . rw[Fy bs n (p+i) hq]
       cases Jv bs (p+i)
       . exact⟨0,rfl,by decide,rfl⟩
       . exact⟨1,rfl,by decide,rfl⟩
     . have e1:(rowB bs n).getD (p+i) false=false:=by
        simp only[List.getD];rw[List.getElem?_eq_none (by rw[Ag];omega)];rfl
       by_cases hb:Jv bs (p+i)=true
       . exfalso
         unfold Jv at hb
         have:bs.getD ((p+i)/8) 0=0:=by
          simp only[List.getD];rw[List.getElem?_eq_none (by rw[(Aa HR).len];omega)];rfl
         rw[this]at hb;simp at hb
       . rw[if_neg hb,e1];exact⟨0,rfl,by decide,rfl⟩
    obtain⟨x,hx1,hx2,hx3⟩:=hxx;rw[hx1]at HB
    have hml:m<2^i:=by
     rw[Aa hm];refine Nat.lt_of_lt_of_le (Li _) (Nat.pow_le_pow_right (by decide) ?_);rw[List.length_take];exact Nat.min_le_left _ _
    have hor:=Zjj m i x hml (by omega) hx2
    have hw:wrap64 ((x:Int)*2^i)=(x:Int)*2^i:=by
     have hp16:2^i<=2^16:=Nat.pow_le_pow_right (by decide) (by omega);have h16:(2:Nat)^16=65536:=by decide
     have e:((x:Int)*2^i)=((x*2^i:Nat):Int):=by push_cast;rfl
     have h2:x*2^i<=1*2^i:=Nat.mul_le_mul_right _ (by omega);rw[e];generalize x*2^i=y at*;unfold wrap64;omega
    have HOR:Hid (bits .or .i64 (m:Int) (wrap64 ((x:Int)*2^i))=((m+2^i*x:Nat):Int)):=Ab (by rw[hw];exact hor);clear hw hor;have HX3:=Ab hx3;have HML:=Ab hml;clear hIs hx1 hx3 hml;go_wp2_with fail
    refine(Aa HB).mono ?_;rintro e w2 hg
    rcases hg with ⟨e0,rfl,hU,hK⟩|⟨e0,rfl,hBl⟩
    . have hne:¬p+i=8*n:=fun hh=>by
       rw[if_pos hh]at e0;exact absurd e0 (show ¬(7:Int)=0 by decide)
      rw[if_neg hne]at hU;have HU:=Ab (And.intro ((Aa hI).1.trans hU) (fun j hj=>(hK j hj).trans ((Aa hI).2 j hj):Mj b w w2));have HM:Hid (m+2^i*x=Di (((rowB bs n).drop p).take (i+1))):=Ab (by rw[Z74 _ _ _ (by rw[Ag];omega),<-Aa hm,<-Aa HX3]);have hp8:p+i<8*n:=by omega
      clear e0 hU hne hm hK;go_wp2;go_roundw
      case rel=>exact⟨i+1,m+2^i*x,by omega,by omega,by go_num,by rw[Aa HOR],HM,by rw[<-Nat.add_assoc];exact HU⟩
      case measure=>simp[intOf];omega
    . have hne:p+i=8*n:=by
       by_cases hh:p+i=8*n
       . exact hh
       . rw[if_neg hh]at e0;exact absurd (Aa HE) e0
      rw[if_pos hne];have HF:Hid (v= {p:=p,out:=u.out,ks:=u.ks,e:=7}):=Ab ((Aa hUV).1 (by omega));have HBl:=Ab ((Aa hI).1.bl.trans hBl);clear e0 hBl hne hm hI HB;go_wp2;refine⟨rfl,.inr ⟨by rw[Aa HF];exact(by decide:(7:Int)≠0),by rw[Aa HF],Aa HBl⟩⟩
  . obtain rfl:i=size:=by omega
    have HF:Hid (GotK No B w b (.slice a n cap) f1 f2 (.int .i64 (r:Int)) v (.returned (.int .i64 (m:Int))) wr):=by
     obtain⟨_,h2⟩:=Aa hUV;obtain⟨h3,h4⟩:=h2 hpi;refine .inl ⟨by rw[h4];exact Aa HE,by rw[h3,Aa hm],by rw[h4];exact(Aa hI).1,(Aa hI).2⟩
    clear hm hI;go_wp2;go_ret;exact Aa HF
theorem Du (No:Nat->Prop)(B b:Nat)(a:Option Addr)(n cap size:Nat)(bs:List Nat)(f1 f2:Value)(u:US)(w:World)(h:IIs No B w b (.slice a n cap) f1 f2 u)(hR:Rd w No a n bs)(hp:u.p<=8*n)(he:u.e=0)(hs:size<=16)(r:Nat)(v:US)(hr:Hid (uget (rowB bs n) size u=(r,v))):
 Calls Tryz.prog 127 #[.pointer (some ⟨b,0,none⟩),.int .i64 (size:Int)] w fun e w'=>Got No B w b (.slice a n cap) f1 f2 (.int .i64 (r:Int)) v e w':=(Qj No B b a n cap size bs f1 f2 u w h hR hp he hs r v hr).mono (fun _ _ h=>h.got)
end Go.Proofs.YtcjbgpacnkilnagGreatDoor
