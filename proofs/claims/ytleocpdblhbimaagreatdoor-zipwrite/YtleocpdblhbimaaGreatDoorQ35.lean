import Derived.Test.YtleocpdblhbimaaGreatDoorQ26
import Derived.Test.YtleocpdblhbimaaGreatDoorQ18
set_option linter.unusedSimpArgs false
namespace Go.Proofs.YtleocpdblhbimaaGreatDoor
set_option linter.unusedVariables false
set_option maxRecDepth 100000
theorem Ij (l:List Int)(hG:Good l)(row:List Bool)(q:Nat)(u:US)(R:List Bool)(he:u.e=0)(hq:q<l.length)(hpos:0<l.getD q 0)(h:row.drop u.p=codeT l q++R):uplace l row u=(q,{u with p:=u.p+(codeT l q).length}):=by
 have hl:=Ff l hG q;have hne:codeT l q≠ []:=fun e=>by rw[e,WO]at hl;omega
 refine FT l hG row q u he hq hne (RW h (List.length_pos_iff.2 hne)) ?_;rw[h,List.take_append_of_le_length (VC _),YT]
theorem V4 (d:Nat):∀(n:Nat) (u:US),u.e=0->u.out.length+n<=3000->ucopy d n u= {u with out:=Mi u.out d n}
 |0,u,he,h=>by rw[ucopy,Mi]
 |n+1,u,he,h=>by
  rw[ucopy,if_pos he,Mi]
  have e:Hy (u.out.getD (u.out.length-d) 0) u= {u with out:=u.out++ [u.out.getD (u.out.length-d) 0]}:=by
   unfold Hy;rw[if_pos he,if_neg (by omega)]
  rw[e,V4 d n {u with out:=u.out++ [u.out.getD (u.out.length-d) 0]} he (by simp;omega)]
theorem OG (a b:List Int)(hA:Good a)(hB:Good b)(row:List Bool)(t:Tk)(u:US)(R:List Bool)(he:u.e=0)(hu:u.p<=row.length)(ht:Ct t u.out.length=0)(h256:t.1<256)(hlen:u.out.length+wid t<=3000)(hh:Has a b (Nt t))(h:row.drop u.p=putIs a b (Nt t)++R):
 Ih row a b u=(true,{u with p:=u.p+(putIs a b (Nt t)).length,out:=Zg t u.out})/\u.p+(putIs a b (Nt t)).length<=row.length:=by
 have hR:=congrArg List.length h;rw[VN,VB]at hR;refine⟨?_,by omega⟩;obtain⟨b0,n,d⟩:=t
 rcases Dm ht with ⟨h1,h2⟩|⟨h1,h2,h3,h4,h5⟩
 . simp only at h1 h2 h256 hlen
   have ei:Nt (b0,n,d)= [.sym b0]:=by unfold Nt;rw[if_pos h1]
   rw[ei]at hh h ⊢;have hp:putIs a b [.sym b0]=codeT a b0:=by simp[putIs,IM]
   rw[hp]at h ⊢;obtain⟨k1,k2⟩:=hh.1 b0 (by simp);have hw:wid (b0,n,d)=1:=by unfold wid;rw[if_pos h1]
   rw[hw]at hlen;have hpt:Zg (b0,n,d) u.out=u.out++ [b0]:=by unfold Zg;rw[if_pos h1]
   unfold Ih;rw[Ij a hA row b0 u R he k1 k2 h];simp only
   rw[if_neg (by simp[he];omega),if_pos h256,hpt];unfold Hy;simp only
   rw[if_pos he,if_neg (by omega)]
 . simp only at h1 h2 h3 h4 h5 hlen
   obtain⟨n,rfl⟩:=VW (show 0<=n by omega);obtain⟨d,rfl⟩:=VW (show 0<=d by omega);have hn0:¬((n:Nat):Int)=0:=by omega
   have ei:Nt (b0,(n:Int),(d:Int))= [.sym (Cb n).1,.rest (Cb n).2.1 (Cb n).2.2,.far (Ie d).1,.rest (Ie d).2.1 (Ie d).2.2]:=by unfold Nt;rw[if_neg hn0];rfl
   have hw:wid (b0,(n:Int),(d:Int))=n:=by unfold wid;rw[if_neg hn0];rfl
   rw[hw]at hlen;have hpt:Zg (b0,(n:Int),(d:Int)) u.out=Mi u.out d n:=by unfold Zg;rw[if_neg hn0];rfl
   obtain⟨m1,m2,m3,m4,m5,m6,_⟩:=JU (n:=n) (by omega) (by omega);obtain⟨f1,f2,f3,f4,f5⟩:=TW (d:=d) (by omega) (by omega);rw[ei]at hh h hR ⊢;obtain⟨k1,k2⟩:=hh.1 (Cb n).1 (by simp);obtain⟨k3,k4⟩:=hh.2 (Ie d).1 (by simp);generalize hm1:(Cb n).1=M at*;generalize hm2:(Cb n).2.1=MR at*;generalize hm3:(Cb n).2.2=MS at*;generalize hf1:(Ie d).1=F at*;generalize hf2:(Ie d).2.1=FR at*;generalize hf3:(Ie d).2.2=FS at*;have hp:putIs a b [.sym M,.rest MR MS,.far F,.rest FR FS]=codeT a M++(Ah MR MS++(codeT b F++Ah FR FS)):=by simp[putIs,IM]
   rw[hp]at h hR ⊢;simp only[VH]at h;simp only[VB,Ae]at hR;have c1:=Ij a hA row M u _ he k1 k2 h;have d1:=Bg h;have c2:=Ds row MS MR {u with p:=u.p+(codeT a M).length} _ he (by simp only;omega) m5 d1;have d2:=Bg d1;rw[Ae]at d2;have c3:=Ij b hB row F {u with p:=u.p+(codeT a M).length+MS} _ he k3 k4 d2;have d3:=Bg d2;have c4:=Ds row FS FR {u with p:=u.p+(codeT a M).length+MS+(codeT b F).length} _ he (by simp only;omega) f4 d3;unfold Ih;rw[c1];simp only
   rw[if_neg (by rintro (h9|h9);exact h9 he;omega),if_neg (by omega),if_neg (by omega)];unfold OJ;simp only[m3,c2,c3];rw[if_neg (show ¬(u.e=0/\29<F) by omega)];rw[if_neg (show ¬(u.e≠0) from fun h9=>h9 he)];unfold Z4b;simp only[f2,c4,f3,m4];rw[if_neg (show ¬(u.e=0/\u.out.length<d) by omega),V4 d n {u with p:=u.p+(codeT a M).length+MS+(codeT b F).length+FS} he (by simp only;omega),hpt];simp only[VB,Ae]
   congr 2
   omega
theorem FP (a b:List Int)(hA:Good a)(hB:Good b)(row:List Bool):∀(ts:List Tk) (f:Nat) (u:US) (R:List Bool),ts.length<f->u.e=0->u.p<=row.length->Mj ts u.out.length=0->(∀t∈ts,t.1<256)->Has a b (itsOf ts)->row.drop u.p=putIs a b (itsOf ts)++R->
 utok row a b f u= {u with p:=u.p+(putIs a b (itsOf ts)).length,out:=Ta ts u.out}
 | [],f+1,u,R,hf,he,hu,hc,hb,hh,h=>by
  have hp:putIs a b (itsOf [])=codeT a 256:=by simp[putIs,IM,itsOf,Of]
  rw[hp]at h ⊢;obtain⟨k1,k2⟩:=hh.1 256 (by simp[itsOf]);rw[utok,if_pos he];have c1:=Ij a hA row 256 u R he k1 k2 h
  have e:Ih row a b u=(false,{u with p:=u.p+(codeT a 256).length}):=by
   unfold Ih;rw[c1];simp only
   rw[if_pos (by simp)]
  rw[e,if_neg (by simp),Ta]
 |t::ts,f+1,u,R,hf,he,hu,hc,hb,hh,h=>by
  have ei:itsOf (t::ts)=Nt t++itsOf ts:=by simp[itsOf,Of]
  rw[ei]at hh h ⊢;rw[Qn]at h ⊢;rw[VH]at h
  have ht:Ct t u.out.length=0:=by
   rw[Mj]at hc
   by_cases e:Ct t u.out.length=0
   . exact e
   . rw[if_neg e]at hc;exact absurd hc e
  have hc2:Mj ts (u.out.length+wid t)=0:=by rw[Mj,if_pos ht]at hc;exact hc
  have hlen:=F3 hc2;obtain⟨e1,e2⟩:=OG a b hA hB row t u _ he hu ht (hb t (by simp)) hlen hh.app.1 h;rw[utok,if_pos he,e1];simp only[if_true];have d1:=Bg h;rw[FP a b hA hB row ts f {u with p:=u.p+(putIs a b (Nt t)).length,out:=Zg t u.out} R (by simp at hf;omega) he e2 (by simp only;rw[Hl];exact hc2) (fun t' h'=>hb t' (by simp[h'])) hh.app.2 d1,Ta];simp only[VB]
  congr 1
  omega
 |_,0,u,R,hf,_,_,_,_,_,_=>by omega
def Za (l:List Int)(i:Nat×Nat×Nat):Int×Nat:=
 if i.1=16 then (l.getD (l.length-1) 0,3+i.2.1)else if i.1=17 then (0,3+i.2.1)else if i.1=18 then (0,11+i.2.1)else ((i.1:Int),1)
theorem TE (l:List Int)(r s:Nat):Za l (16,r,s)=(l.getD (l.length-1) 0,3+r):=rfl
theorem TD (l:List Int)(r s:Nat):Za l (17,r,s)=(0,3+r):=rfl
theorem TC (l:List Int)(r s:Nat):Za l (18,r,s)=(0,11+r):=rfl
theorem Z0c (row:List Bool)(l:List Int)(u:US):ukind row l 16 u=if l.length=0 then (16,1,Ck 8 u)else (l.getD (l.length-1) 0,3+(uget row 2 u).1,(uget row 2 u).2):=rfl
theorem Z0b (row:List Bool)(l:List Int)(u:US):ukind row l 17 u=(0,3+(uget row 3 u).1,(uget row 3 u).2):=rfl
theorem Z0a (row:List Bool)(l:List Int)(u:US):ukind row l 18 u=(0,11+(uget row 7 u).1,(uget row 7 u).2):=rfl
theorem Z0d (row:List Bool)(l:List Int)(k:Nat)(u:US)(h:k<=15):ukind row l k u=((k:Int),1,u):=by
 unfold ukind;rw[if_neg (by omega),if_neg (by omega),if_neg (by omega)]
theorem Z3b (l:List Int)(k r s:Nat)(h:k<=15):Za l (k,r,s)=((k:Int),1):=by
 unfold Za;simp only
 rw[if_neg (by omega),if_neg (by omega),if_neg (by omega)]
def okI (l:List Int)(i:Nat×Nat×Nat):Prop:=
 (i.1=16/\l.length≠0/\i.2.2=2/\i.2.1<4)\/ (i.1=17/\i.2.2=3/\i.2.1<8)\/ (i.1=18/\i.2.2=7/\i.2.1<128)\/ (i.1<=15/\i.2.1=0/\i.2.2=0)
theorem OI (own:List Int)(hG:Good own)(row:List Bool)(tot:Nat)(l:List Int)(u:US)(i:Nat×Nat×Nat)(R:List Bool)(he:u.e=0)(hi:okI l i)(h1:i.1<own.length)(h2:0<own.getD i.1 0)(hle:l.length+(Za l i).2<=tot)(h:row.drop u.p=CP own i++R):
 ustep row own tot l u=(l++List.replicate (Za l i).2 (Za l i).1,{u with p:=u.p+(CP own i).length}):=by
 have hlen:=Jm own hG i;have hR:=congrArg List.length h;rw[VN,VB,hlen]at hR;have hcl:=Ff own hG i.1;unfold CP at h;rw[VH]at h;have c1:=Ij own hG row i.1 u _ he h1 h2 h;have d1:=Bg h
 have K:ukind row l i.1 {u with p:=u.p+(codeT own i.1).length}=((Za l i).1,(Za l i).2,{u with p:=u.p+(CP own i).length}):=by
  rw[hlen];obtain⟨k,r,s⟩:=i;simp only at h1 h2 hle h hlen hR hcl c1 d1 hi ⊢
  rcases hi with ⟨rfl,h3,rfl,h5⟩|⟨rfl,rfl,h5⟩|⟨rfl,rfl,h5⟩|⟨h3,rfl,rfl⟩
  . have c2:=Ds row 2 r {u with p:=u.p+(codeT own 16).length} R he (by simp only;omega) (by omega) d1;rw[Z0c,if_neg h3,c2,TE];simp only[WH]
  . have c2:=Ds row 3 r {u with p:=u.p+(codeT own 17).length} R he (by simp only;omega) (by omega) d1;rw[Z0b,c2,TD];simp only[WH]
  . have c2:=Ds row 7 r {u with p:=u.p+(codeT own 18).length} R he (by simp only;omega) (by omega) d1;rw[Z0a,c2,TC];simp only[WH]
  . rw[Z0d _ _ _ _ h3,Z3b _ _ _ _ h3];simp
 unfold ustep;rw[c1];simp only
 rw[K];unfold ON;simp only
 rw[if_neg (by simp[he];omega)]
def Went (row:List Bool)(own:List Int)(tot:Nat)(F:Nat)(l:List Int)(u:US)(X:List Bool)(more:List Int):Prop:=
 ∃F',tot<=(l++more).length+F'/\ulens row own tot F l u=ulens row own tot F' (l++more) {u with p:=u.p+X.length}
theorem T7 (own:List Int)(hG:Good own)(row:List Bool)(tot F:Nat)(l:List Int)(u:US)(i:Nat×Nat×Nat)(R:List Bool)(he:u.e=0)(hi:okI l i)(h1:i.1<own.length)(h2:0<own.getD i.1 0)(hle:l.length+(Za l i).2<=tot)(hpos:0<(Za l i).2)(hF:tot<=l.length+F)(h:row.drop u.p=CP own i++R):
 Went row own tot F l u (CP own i) (List.replicate (Za l i).2 (Za l i).1):=by
 obtain⟨F',rfl⟩:∃F',F=F'+1:=⟨F-1,by omega⟩
 refine⟨F',by simp;omega, ?_⟩;rw[ulens,if_pos ⟨by omega,he⟩,OI own hG row tot l u i R he hi h1 h2 hle h]
theorem Went.nil (row:List Bool)(own:List Int)(tot F:Nat)(l:List Int)(u:US)(hF:tot<=l.length+F):Went row own tot F l u [] []:=⟨F,by simpa using hF,by simp⟩
theorem Went.trans {row:List Bool}{own:List Int}{tot F:Nat}{l:List Int}{u:US}{X Y:List Bool}{m1 m2:List Int}(h:Went row own tot F l u X m1)
 (k:∀F',tot<=(l++m1).length+F'->Went row own tot F' (l++m1) {u with p:=u.p+X.length} Y m2):Went row own tot F l u (X++Y) (m1++m2):=by
 obtain⟨F1,h1,h2⟩:=h;obtain⟨F2,k1,k2⟩:=k F1 h1;refine⟨F2,by simpa[WH]using k1, ?_⟩;rw[h2,k2];simp[WH]
theorem X4 (l:List Int)(x:Nat)(h:x<=15):Za l (x,0,0)=((x:Int),1):=by
 unfold Za;simp only;rw[if_neg (by omega),if_neg (by omega),if_neg (by omega)]
theorem II (a b:Nat)(x:Int):List.replicate (a+b) x=List.replicate a x++List.replicate b x:=by rw[XY]
theorem Z7 (l:List Int)(x:Int)(n:Nat)(h:0<n):(l++List.replicate n x).getD ((l++List.replicate n x).length-1) 0=x:=by
 have hl:(l++List.replicate n x).length=l.length+n:=by simp
 rw[hl];have:l.length+n-1<(l++List.replicate n x).length:=by omega
 simp only[List.getD,VR this,XP];rw[YX (by omega)];simp
theorem J6 (own:List Int)(hG:Good own)(row:List Bool)(tot x:Nat)(hx:x<=15):∀(f m:Nat) (F:Nat) (l:List Int) (u:US) (R:List Bool),m<=f->u.e=0->(0<x->l.length≠0/\l.getD (l.length-1) 0=(x:Int))->HasR own (Dy x f m)->l.length+m<=tot->tot<=l.length+F->row.drop u.p=putRs own (Dy x f m)++R->
 Went row own tot F l u (putRs own (Dy x f m)) (List.replicate m (x:Int))
 |0,m,F,l,u,R,hm,he,hl,hh,hle,hF,h=>by
  obtain rfl:m=0:=by omega
  exact Went.nil row own tot F l u hF
 |f+1,m,F,l,u,R,hm,he,hl,hh,hle,hF,h=>by
  by_cases h0:m=0
  . subst h0;have e:Dy x (f+1) 0= []:=by rw[Dy,if_pos rfl]
    rw[e];exact Went.nil row own tot F l u hF
  . 
    have step:∀(i:Nat×Nat×Nat) (c:Nat),Dy x (f+1) m=i::Dy x f (m-c)->0<c->c<=m->okI l i->Za l i=((x:Int),c)->Went row own tot F l u (putRs own (Dy x (f+1) m)) (List.replicate m (x:Int)):=by
     intro i c e hc hcm hok hsay;rw[e]at hh h ⊢;rw[Dz]at h ⊢;rw[VH]at h;obtain⟨k1,k2⟩:=hh i (by simp);have w1:=T7 own hG row tot F l u i _ he hok k1 k2 (by rw[hsay];simp only;omega) (by rw[hsay];exact hc) hF h;rw[hsay]at w1;simp only at w1
     have:=w1.trans (Y:=putRs own (Dy x f (m-c))) (m2:=List.replicate (m-c) (x:Int)) (fun F' hF'=>J6 own hG row tot x hx f (m-c) F' _ _ R (by omega) he (fun h0=>⟨by simp;omega,Z7 l _ c hc⟩) (fun j hj=>hh j (by simp[hj])) (by simp;omega) hF' (Bg h))
     rw[<-II,show c+(m-c)=m by omega]at this;exact this
    by_cases h3:m<3
    . exact step (x,0,0) 1 (by rw[Dy,if_neg h0,if_pos h3]) (by omega) (by omega) (.inr (.inr (.inr ⟨hx,rfl,rfl⟩))) (X4 l x hx)
    . by_cases hx0:0<x
      . exact step (16,min m 6-3,2) (min m 6) (by rw[Dy,if_neg h0,if_neg h3,if_pos hx0]) (by omega) (by omega) (.inl ⟨rfl,(hl hx0).1,rfl,by simp only;omega⟩) (by rw[TE,(hl hx0).2];congr 1;omega)
      . obtain rfl:x=0:=by omega
        by_cases h11:m<11
        . exact step (17,m-3,3) m (by rw[Dy,if_neg h0,if_neg h3,if_neg hx0,if_pos h11,XM]) (by omega) (by omega) (.inr (.inl ⟨rfl,rfl,by simp only;omega⟩)) (by rw[TD];congr 1;omega)
        . exact step (18,min m 138-11,7) (min m 138) (by rw[Dy,if_neg h0,if_neg h3,if_neg hx0,if_neg h11]) (by omega) (by omega) (.inr (.inr (.inl ⟨rfl,rfl,by simp only;omega⟩))) (by rw[TC];congr 1;omega)
theorem Z0x (own:List Int)(hG:Good own)(row:List Bool)(tot x:Nat)(hx:x<=15)(m F:Nat)(l:List Int)(u:US)(R:List Bool)(hm:1<=m)(he:u.e=0)(hh:HasR own (Mq x m))(hle:l.length+m<=tot)(hF:tot<=l.length+F)(h:row.drop u.p=putRs own (Mq x m)++R):
 Went row own tot F l u (putRs own (Mq x m)) (List.replicate m (x:Int)):=by
 unfold Mq at hh h ⊢
 by_cases hx0:0<x
 . rw[if_pos hx0]at hh h ⊢;rw[Dz]at h ⊢;rw[VH]at h;obtain⟨k1,k2⟩:=hh (x,0,0) (by simp);have hs:=X4 l x hx;have w1:=T7 own hG row tot F l u (x,0,0) _ he (.inr (.inr (.inr ⟨hx,rfl,rfl⟩))) k1 k2 (by rw[hs];simp only;omega) (by rw[hs];exact Nat.one_pos) hF h;rw[hs]at w1;simp only at w1
   have:=w1.trans (Y:=putRs own (Dy x m (m-1))) (m2:=List.replicate (m-1) (x:Int)) (fun F' hF'=>J6 own hG row tot x hx m (m-1) F' _ _ R (by omega) he (fun h0=>⟨by simp,Z7 l _ 1 (by omega)⟩) (fun j hj=>hh j (by simp[hj])) (by simp;omega) hF' (Bg h))
   rw[<-II,show 1+(m-1)=m by omega]at this;exact this
 . rw[if_neg hx0]at hh h ⊢;exact J6 own hG row tot x hx m m F l u R (VC _) he (fun h0=>absurd h0 hx0) hh hle hF h
theorem Zz (own:List Int)(hG:Good own)(row:List Bool)(tot:Nat):∀(f:Nat) (l2:List Int) (F:Nat) (l:List Int) (u:US) (R:List Bool),l2.length<=f->u.e=0->(∀x∈l2,0<=x/\x<=15)->HasR own (Oe f l2)->l.length+l2.length<=tot->tot<=l.length+F->row.drop u.p=putRs own (Oe f l2)++R->
 Went row own tot F l u (putRs own (Oe f l2)) l2
 |0,l2,F,l,u,R,hf,he,hx,hh,hle,hF,h=>by
  obtain rfl:l2= []:=WX (by omega);exact Went.nil row own tot F l u hF
 |f+1,[],F,l,u,R,hf,he,hx,hh,hle,hF,h=>Went.nil row own tot F l u hF
 |f+1,x::r,F,l,u,R,hf,he,hx,hh,hle,hF,h=>by
  have e:Oe (f+1) (x::r)=Mq x.toNat (Bm x r+1)++Oe f (r.drop (Bm x r)):=rfl;rw[e]at hh h ⊢;rw[Lg]at h ⊢;rw[VH]at h;have hn:=Pf x r;simp only[VJ]at hf hle;have hx0:=hx x (by simp);have hxx:((x.toNat:Nat):Int)=x:=XX hx0.1;have w1:=Z0x own hG row tot x.toNat (by omega) (Bm x r+1) F l u _ (by omega) he hh.app.1 (by omega) hF h;rw[hxx]at w1;have:=w1.trans (Y:=putRs own (Oe f (r.drop (Bm x r)))) (m2:=r.drop (Bm x r)) (fun F' hF'=>Zz own hG row tot f _ F' _ _ R (by simp;omega) he (fun y hy=>hx y (by simp[VY hy])) hh.app.2 (by simp;omega) hF' (Bg h))
  have e2:List.replicate (Bm x r+1) x++r.drop (Bm x r)=x::r:=by
   rw[List.replicate_succ,XH,<-B7 x r]
  rw[e2]at this;exact this
theorem OO (own:List Int)(hG:Good own)(row:List Bool)(all:List Int)(u:US)(R:List Bool)(he:u.e=0)(hx:∀x∈all,0<=x/\x<=15)(hh:HasR own (lenIs all))(h:row.drop u.p=putRs own (lenIs all)++R):
 ulens row own all.length all.length [] u=(all,{u with p:=u.p+(putRs own (lenIs all)).length}):=by
 obtain⟨F',h1,h2⟩:=Zz own hG row all.length all.length all all.length [] u R (VC _) he hx hh (by simp) (by simp) h;unfold lenIs;rw[h2];simp only[List.nil_append]
 cases F' with
 |zero=>rw[ulens]
 |succ F'=>rw[ulens,if_neg (by simp)]
theorem Xu (own:List Int)(row:List Bool)(hv:∀k,0<=own.getD k 0/\own.getD k 0<=7):∀(ks:List Nat) (s:List Int) (u:US) (R:List Bool),u.e=0->u.p<=row.length->row.drop u.p=ks.flatMap (fun k=>Ah (own.getD k 0).toNat 3)++R->
 ∃s',usmall row ks s u=(s',{u with p:=u.p+3*ks.length})/\s'.length=s.length/\∀k,k<s.length->s'.getD k 0=if k∈ks then own.getD k 0 else s.getD k 0
 | [],s,u,R,he,hp,h=>⟨s,by rw[usmall];rfl,rfl,fun k _=>by simp⟩
 |q::ks,s,u,R,he,hp,h=>by
  rw[XR,VH]at h;have hq:=hv q;have hR:=congrArg List.length h;rw[VN,VB,Ae]at hR;have c1:=Ds row 3 (own.getD q 0).toNat u _ he hp (by omega) h;have d1:=Bg h;rw[Ae]at d1;obtain⟨s',e1,e2,e3⟩:=Xu own row hv ks (s.set q (((own.getD q 0).toNat:Nat):Int)) {u with p:=u.p+3} R he (by simp only;omega) d1;refine⟨s', ?_,by rw[e2];simp, ?_⟩
  . rw[usmall,c1];simp only
    rw[e1];simp only[VJ]
    congr 2
    omega
  . intro k hk;rw[e3 k (by simpa using hk)]
    by_cases hm:k∈ks
    . rw[if_pos hm,if_pos (by simp[hm])]
    . rw[if_neg hm]
      by_cases e:k=q
      . subst e;rw[if_pos (by simp)];simp only[List.getD,List.getElem?_set_self hk,XP];exact XX hq.1
      . rw[if_neg (by simp[e,hm])];simp only[List.getD];rw[List.getElem?_set_ne (Ne.symm e)]
theorem Zn (own:List Int):∀n j,Wg own n<=j->j<n->own.getD (ord19.getD j 0) 0=0
 |0,j,h1,h2=>by omega
 |n+1,j,h1,h2=>by
  rw[Wg]at h1
  by_cases e:4<n+1/\own.getD (ord19.getD n 0) 0=0
  . rw[if_pos e]at h1
    by_cases e2:j=n
    . subst e2;exact e.2
    . exact Zn own n j h1 (by omega)
  . rw[if_neg e]at h1;omega
theorem JD:(List.range 19).all (fun k=>(List.range 19).any (fun j=>ord19.getD j 0==k))=true:=by decide
theorem QD {k:Nat}(h:k<19):∃j,j<19/\ord19.getD j 0=k:=by
 have:=WT.1 JD k (by simpa using h)
 obtain⟨j,h1,h2⟩:=List.any_eq_true.1 this;exact⟨j,by simpa using h1,by simpa using h2⟩
theorem Z20 {xs ys:List Int}(hl:xs.length=ys.length)(h:∀k,k<xs.length->xs.getD k 0=ys.getD k 0):xs=ys:=by
 apply XK hl
 intro i h1 h2;have:=h i h1
 simpa[List.getD,h1,h2]using this
theorem OE (a b own:List Int)(row:List Bool)(u:US)(R:List Bool)(he:u.e=0)(hp:u.p<=row.length)(hA:Good a)(hB:Good b)(hO:Good own)(ha:257<=a.length)(ha2:a.length<=286)(hb:1<=b.length)(hb2:b.length<=30)(ho:own.length=19)(hv:∀k,0<=own.getD k 0/\own.getD k 0<=7)(h256:0<a.getD 256 0)(hh:HasR own (lenIs (a++b)))(h:row.drop u.p=Ix a b own++R):
 Hc row u=((a,b),{u with p:=u.p+(Ix a b own).length}):=by
 have hc1:=We own 19;have hc2:=N3 own 19 (by decide);have hz:=Zn own 19
 have hlen:(Ix a b own).length=14+3*Wg own 19+(putRs own (lenIs (a++b))).length:=by
  unfold Ix
  have:∀ks:List Nat,(ks.flatMap (fun k=>Ah (own.getD k 0).toNat 3)).length=3*ks.length:=by
   intro ks
   induction ks with
   |nil=>rfl
   |cons k ks ih=>rw[XR,VB,Ae,ih,VJ];omega
  simp only[VB,Ae,this];have e19:ord19.length=19:=rfl;rw[VM,e19];omega
 have hR:=congrArg List.length h;rw[VN,VB,hlen]at hR;have hdr:=h;unfold Ix at h;generalize hC:Wg own 19=C at*;simp only[VH]at h;have c1:=Ds row 5 (a.length-257) u _ he hp (by omega) h;have d1:=Bg h;rw[Ae]at d1;have c2:=Ds row 5 (b.length-1) {u with p:=u.p+5} _ he (by simp only;omega) (by omega) d1;have d2:=Bg d1;rw[Ae]at d2;have c3:=Ds row 4 (C-4) {u with p:=u.p+5+5} _ he (by simp only;omega) (by omega) d2;have d3:=Bg d2;rw[Ae]at d3;obtain⟨s',e1,e2,e3⟩:=Xu own row hv (ord19.take C) (List.replicate 19 0) {u with p:=u.p+5+5+4} _ he (by simp only;omega) d3
 have hls:(ord19.take C).length=C:=by
  have e19:ord19.length=19:=rfl;rw[VM,e19];omega
 rw[hls]at e1
 have hs:s'=own:=by
  apply Z20 (by rw[e2,ho];simp)
  intro k hk;rw[e2]at hk;rw[e3 k hk]
  by_cases hm:k∈ord19.take C
  . rw[if_pos hm]
  . rw[if_neg hm];have hk19:k<19:=by simpa using hk
    obtain⟨j,j1,j2⟩:=QD hk19
    have hj:C<=j:=by
     rcases YW j C with e|e
     . exfalso
       apply hm
       rw[<-j2];have e19:ord19.length=19:=rfl;have hjl:j<ord19.length:=by omega
       rw[List.mem_take_iff_getElem];exact⟨j,by omega,by simp[List.getD,hjl]⟩
     . exact e
    have:=hz j hj j1
    rw[j2]at this;rw[this];exact Hb 19 k
 subst hs;have d4:=Bg d3
 have hfl:((ord19.take C).flatMap (fun k=>Ah (s'.getD k 0).toNat 3)).length=3*C:=by
  have:∀ks:List Nat,(ks.flatMap (fun k=>Ah (s'.getD k 0).toNat 3)).length=3*ks.length:=by
   intro ks
   induction ks with
   |nil=>rfl
   |cons k ks ih=>rw[XR,VB,Ae,ih,VJ];omega
  rw[this,hls]
 rw[hfl]at d4
 have hall:∀x∈a++b,0<=x/\x<=15:=by
  intro x hx
  have mem:∀l:List Int,Good l->x∈l->0<=x/\x<=15:=by
   intro l hG hm;obtain⟨j,hj,rfl⟩:=XF hm;have:=hG.ok j hj
   simpa[List.getD,hj]using this
  rcases WJ.1 hx with h|h
  . exact mem a hA h
  . exact mem b hB h
 have c5:=OO s' hO row (a++b) {u with p:=u.p+5+5+4+3*C} R he hall hh d4;rw[VB]at c5;unfold Hc;simp only
 rw[c1];simp only
 rw[c2];simp only
 rw[c3];simp only
 rw[show a.length-257+257=a.length by omega,show b.length-1+1=b.length by omega,show C-4+4=C by omega];unfold Tl;rw[if_neg (by omega),e1];unfold T8 NV;simp only
 rw[Iz hO,if_neg (show ¬(u.e=0/\(0:Int)≠0) from fun h9=>h9.2 rfl),if_neg (show ¬(u.e≠0) from fun h9=>h9 he),c5];unfold FO;simp only
 have g256:(a++b).getD 256 0=a.getD 256 0:=by
  simp only[List.getD];rw[WL (by omega)]
 have n256:¬(a++b).getD 256 0=0:=by rw[g256];omega
 rw[if_neg (show ¬(u.e≠0) from fun h9=>h9 he),List.take_left,List.drop_left,Iz hA,Iz hB,if_neg (by rintro (h9|h9|h9);exact n256 h9;exact h9 rfl;exact h9 rfl),hlen]
 congr 2
 omega
theorem FM (l:List Int):∀k,∀x∈wpl l k,x<k
 |0,x,h=>by cases h
 |k+1,x,h=>by
  rw[wpl]at h
  rcases WJ.1 h with h|h
  . have:=FM l k x h;omega
  . split at h
    . simp at h;omega
    . cases h
theorem Xo (l:List Int):∀k,(wpl l k).Nodup
 |0=>List.nodup_nil
 |k+1=>by
  rw[wpl,List.nodup_append];refine⟨Xo l k,by split<;>simp,fun a ha b hb=> ?_⟩;have:=FM l k a ha
  split at hb
  . simp at hb;omega
  . cases hb
def leW (l:List Int)(a b:Nat):Bool:=decide (l.getD a 0<l.getD b 0\/ (l.getD a 0=l.getD b 0/\a<=b))
theorem Z10 (l:List Int):∃P,RiseOf l P:=by
 have hp:=List.mergeSort_perm (wpl l l.length) (leW l);refine⟨(wpl l l.length).mergeSort (leW l),hp, ?_⟩
 have hs:=List.pairwise_mergeSort (le:=leW l) (fun a b c h1 h2=>by
  unfold leW at*;simp only[decide_eq_true_eq]at*;omega) (fun a b=>by
  unfold leW;simp only[Bool.or_eq_true,decide_eq_true_eq];omega) (wpl l l.length)
 have hn:((wpl l l.length).mergeSort (leW l)).Nodup:=hp.nodup_iff.2 (Xo l l.length);refine(hs.and hn).imp (fun {a b} h=> ?_);obtain⟨h1,h2⟩:=h;unfold leW at h1;simp only[decide_eq_true_eq]at h1;have:a≠b:=h2
 omega
theorem O1 (l:List Int)(m:Nat):IsLens l m (lensD l m):=by
 obtain⟨P,hP⟩:=Z10 l;exact Classical.epsilon_spec (p:=fun s=>IsLens l m s) ⟨_,P,hP,rfl⟩
theorem Z18 {all:List Int}(hl:all.length<=1000)(hx:∀x∈all,0<=x/\x<=15):Own all (I8 all):=TH hl hx (O1 _ _)
theorem AU {bs:List Nat}(hb:∀j,bs.getD j 0<256)(hl:bs.length<=3000):Dyn (Dc bs) (GS (Dc bs)) (LS (Dc bs)):=by
 have h3:=Om bs;exact TZ (Kd hb hl) (by omega) (O1 _ _) (O1 _ _)
theorem MC {ts:List Tk}{a b:List Int}(d:Dyn ts a b):Own (a++b) (I8 (a++b)):=by
 have h1:=d.la2;have h2:=d.lb2;refine Z18 (by rw[VB];omega) (fun x hx=> ?_)
 rcases WJ.1 hx with h|h
 . exact Ph d.ga x h
 . exact Ph d.gb x h
theorem Z29 {bs:List Nat}(hb:∀j,bs.getD j 0<256)(hl:bs.length<=3000):∃ts a b,I9 bs=Ex a b ts/\Dyn ts a b/\Own (a++b) (I8 (a++b))/\(∀t∈ts,VT t)/\ts.length<=bs.length/\(∀n,n+bs.length<=3000->∀out:List Nat,out.length=n->ts=Dc bs\/ts=Dh bs):=by
 unfold I9
 split
 . exact⟨Dh bs,Jx,Oh,rfl,Pk hb,MC (Pk hb),Wt hb,by rw[Jc];exact VC _,fun _ _ _ _=>.inr rfl⟩
 . exact⟨Dc bs,GS (Dc bs),LS (Dc bs),rfl,AU hb hl,MC (AU hb hl),Kd hb hl,Om bs,fun _ _ _ _=>.inl rfl⟩
end Go.Proofs.YtleocpdblhbimaaGreatDoor
