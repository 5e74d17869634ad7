import Derived.Test.YtieianhejdcgdaaGreatDoorQ28
import Derived.Test.YtieianhejdcgdaaGreatDoorQ20
namespace Go.Proofs.YtieianhejdcgdaaGreatDoor
set_option linter.unusedVariables false
set_option maxRecDepth 100000
theorem Ii (l:List Int)(hG:Good l)(row:List Bool)(q:Nat)(u:US)(R:List Bool)(he:u.e=0)(hq:q<l.length)(hpos:0<l.getD q 0)(h:row.drop u.p=An l q++R):uplace l row u=(q,{u with p:=u.p+(An l q).length}):=by
 have hl:=Fh l hG q;have hne:An l q≠ []:=fun e=>by rw[e,VQ]at hl;omega
 refine IM l hG row q u he hq hne (Z06 h (YJ.2 hne)) ?_;rw[h,WC (VC _),List.take_length]
theorem Y9 (d:Nat):∀(n:Nat) (u:US),u.e=0->u.out.length+n<=3000->ucopy d n u= {u with out:=Me u.out d n}
 |0,u,he,h=>by rw[ucopy,Me]
 |n+1,u,he,h=>by
  rw[ucopy,if_pos he,Me]
  have e:Jt (u.out.getD (u.out.length-d) 0) u= {u with out:=u.out++ [u.out.getD (u.out.length-d) 0]}:=by
   unfold Jt;rw[if_pos he,if_neg (by omega)]
  rw[e,Y9 d n {u with out:=u.out++ [u.out.getD (u.out.length-d) 0]} he (by simp;omega)]
theorem QN (a b:List Int)(hA:Good a)(hB:Good b)(row:List Bool)(t:Tk)(u:US)(R:List Bool)(he:u.e=0)(hu:u.p<=row.length)(ht:Cu t u.out.length=0)(h256:t.1<256)(hlen:u.out.length+wid t<=3000)(hh:Has a b (Nu t))(h:row.drop u.p=putIs a b (Nu t)++R):
 Mq row a b u=(true,{u with p:=u.p+(putIs a b (Nu t)).length,out:=A4 t u.out})/\u.p+(putIs a b (Nu t)).length<=row.length:=by
 have hR:=congrArg List.length h;rw[VO,VB]at hR;refine⟨?_,by omega⟩;obtain⟨b0,n,d⟩:=t
 rcases Dv ht with ⟨h1,h2⟩|⟨h1,h2,h3,h4,h5⟩
 . simp only at h1 h2 h256 hlen
   have ei:Nu (b0,n,d)= [.sym b0]:=by unfold Nu;rw[if_pos h1]
   rw[ei]at hh h ⊢;have hp:putIs a b [.sym b0]=An a b0:=by simp[putIs,KP]
   rw[hp]at h ⊢;obtain⟨k1,k2⟩:=hh.1 b0 (by simp);have hw:wid (b0,n,d)=1:=by unfold wid;rw[if_pos h1]
   rw[hw]at hlen;have hpt:A4 (b0,n,d) u.out=u.out++ [b0]:=by unfold A4;rw[if_pos h1]
   unfold Mq;rw[Ii a hA row b0 u R he k1 k2 h];simp only
   rw[if_neg (by simp[he];omega),if_pos h256,hpt];unfold Jt;simp only
   rw[if_pos he,if_neg (by omega)]
 . simp only at h1 h2 h3 h4 h5 hlen
   obtain⟨n,rfl⟩:=WD (show 0<=n by omega);obtain⟨d,rfl⟩:=WD (show 0<=d by omega);have hn0:¬((n:Nat):Int)=0:=by omega
   have ei:Nu (b0,(n:Int),(d:Int))= [.sym (Cd n).1,.rest (Cd n).2.1 (Cd n).2.2,.far (Id d).1,.rest (Id d).2.1 (Id d).2.2]:=by unfold Nu;rw[if_neg hn0];rfl
   have hw:wid (b0,(n:Int),(d:Int))=n:=by unfold wid;rw[if_neg hn0];rfl
   rw[hw]at hlen;have hpt:A4 (b0,(n:Int),(d:Int)) u.out=Me u.out d n:=by unfold A4;rw[if_neg hn0];rfl
   obtain⟨m1,m2,m3,m4,m5,m6,_⟩:=LS (n:=n) (by omega) (by omega);obtain⟨f1,f2,f3,f4,f5⟩:=Z18 (d:=d) (by omega) (by omega);rw[ei]at hh h hR ⊢;obtain⟨k1,k2⟩:=hh.1 (Cd n).1 (by simp);obtain⟨k3,k4⟩:=hh.2 (Id d).1 (by simp);generalize hm1:(Cd n).1=M at*;generalize hm2:(Cd n).2.1=MR at*;generalize hm3:(Cd n).2.2=MS at*;generalize hf1:(Id d).1=F at*;generalize hf2:(Id d).2.1=FR at*;generalize hf3:(Id d).2.2=FZ at*;have hp:putIs a b [.sym M,.rest MR MS,.far F,.rest FR FZ]=An a M++(Ah MR MS++(An b F++Ah FR FZ)):=by simp[putIs,KP]
   rw[hp]at h hR ⊢;simp only[VJ]at h;simp only[VB,Ae]at hR;have c1:=Ii a hA row M u _ he k1 k2 h;have d1:=Bc h;have c2:=Ed row MS MR {u with p:=u.p+(An a M).length} _ he (by simp only;omega) m5 d1;have d2:=Bc d1;rw[Ae]at d2;have c3:=Ii b hB row F {u with p:=u.p+(An a M).length+MS} _ he k3 k4 d2;have d3:=Bc d2;have c4:=Ed row FZ FR {u with p:=u.p+(An a M).length+MS+(An b F).length} _ he (by simp only;omega) f4 d3;unfold Mq;rw[c1];simp only
   rw[if_neg (by rintro (h9|h9);exact h9 he;omega),if_neg (by omega),if_neg (by omega)];unfold Z1n;simp only[m3,c2,c3];rw[if_neg (show ¬(u.e=0/\29<F) by omega)];rw[if_neg (show ¬(u.e≠0) from fun h9=>h9 he)];unfold Z6c;simp only[f2,c4,f3,m4];rw[if_neg (show ¬(u.e=0/\u.out.length<d) by omega),Y9 d n {u with p:=u.p+(An a M).length+MS+(An b F).length+FZ} he (by simp only;omega),hpt];simp only[VB,Ae]
   congr 2
   omega
theorem II (a b:List Int)(hA:Good a)(hB:Good b)(row:List Bool):∀(ts:List Tk) (f:Nat) (u:US) (R:List Bool),ts.length<f->u.e=0->u.p<=row.length->Mh ts u.out.length=0->(∀t∈ts,t.1<256)->Has a b (itsOf ts)->row.drop u.p=putIs a b (itsOf ts)++R->
 utok row a b f u= {u with p:=u.p+(putIs a b (itsOf ts)).length,out:=Tg ts u.out}
 | [],f+1,u,R,hf,he,hu,hc,hb,hh,h=>by
  have hp:putIs a b (itsOf [])=An a 256:=by simp[putIs,KP,itsOf,Oj]
  rw[hp]at h ⊢;obtain⟨k1,k2⟩:=hh.1 256 (by simp[itsOf]);rw[utok,if_pos he];have c1:=Ii a hA row 256 u R he k1 k2 h
  have e:Mq row a b u=(false,{u with p:=u.p+(An a 256).length}):=by
   unfold Mq;rw[c1];simp only
   rw[if_pos (by simp)]
  rw[e,if_neg (by simp),Tg]
 |t::ts,f+1,u,R,hf,he,hu,hc,hb,hh,h=>by
  have ei:itsOf (t::ts)=Nu t++itsOf ts:=by simp[itsOf,Oj]
  rw[ei]at hh h ⊢;rw[Qq]at h ⊢;rw[VJ]at h
  have ht:Cu t u.out.length=0:=by
   rw[Mh]at hc
   by_cases e:Cu t u.out.length=0
   . exact e
   . rw[if_neg e]at hc;exact absurd hc e
  have hc2:Mh ts (u.out.length+wid t)=0:=by rw[Mh,if_pos ht]at hc;exact hc
  have hlen:=L4 hc2;obtain⟨e1,e2⟩:=QN a b hA hB row t u _ he hu ht (hb t (by simp)) hlen hh.app.1 h;rw[utok,if_pos he,e1];simp only[if_true];have d1:=Bc h;rw[II a b hA hB row ts f {u with p:=u.p+(putIs a b (Nu t)).length,out:=A4 t u.out} R (by simp at hf;omega) he e2 (by simp only;rw[Hl];exact hc2) (fun t' h'=>hb t' (by simp[h'])) hh.app.2 d1,Tg];simp only[VB]
  congr 1
  omega
 |_,0,u,R,hf,_,_,_,_,_,_=>by omega
def Zs (l:List Int)(i:Nat×Nat×Nat):Int×Nat:=
 if i.1=16 then (l.getD (l.length-1) 0,3+i.2.1)else if i.1=17 then (0,3+i.2.1)else if i.1=18 then (0,11+i.2.1)else ((i.1:Int),1)
theorem Z0r (l:List Int)(r s:Nat):Zs l (16,r,s)=(l.getD (l.length-1) 0,3+r):=rfl
theorem Z0q (l:List Int)(r s:Nat):Zs l (17,r,s)=(0,3+r):=rfl
theorem Z0p (l:List Int)(r s:Nat):Zs l (18,r,s)=(0,11+r):=rfl
theorem Z1r (row:List Bool)(l:List Int)(u:US):ukind row l 16 u=if l.length=0 then (16,1,Ay 8 u)else (l.getD (l.length-1) 0,3+(uget row 2 u).1,(uget row 2 u).2):=rfl
theorem Z1q (row:List Bool)(l:List Int)(u:US):ukind row l 17 u=(0,3+(uget row 3 u).1,(uget row 3 u).2):=rfl
theorem Z1p (row:List Bool)(l:List Int)(u:US):ukind row l 18 u=(0,11+(uget row 7 u).1,(uget row 7 u).2):=rfl
theorem Z1s (row:List Bool)(l:List Int)(k:Nat)(u:US)(h:k<=15):ukind row l k u=((k:Int),1,u):=by
 unfold ukind;rw[if_neg (by omega),if_neg (by omega),if_neg (by omega)]
theorem Z4y (l:List Int)(k r s:Nat)(h:k<=15):Zs l (k,r,s)=((k:Int),1):=by
 unfold Zs;simp only
 rw[if_neg (by omega),if_neg (by omega),if_neg (by omega)]
def okI (l:List Int)(i:Nat×Nat×Nat):Prop:=
 (i.1=16/\l.length≠0/\i.2.2=2/\i.2.1<4)\/ (i.1=17/\i.2.2=3/\i.2.1<8)\/ (i.1=18/\i.2.2=7/\i.2.1<128)\/ (i.1<=15/\i.2.1=0/\i.2.2=0)
theorem QO (own:List Int)(hG:Good own)(row:List Bool)(tot:Nat)(l:List Int)(u:US)(i:Nat×Nat×Nat)(R:List Bool)(he:u.e=0)(hi:okI l i)(h1:i.1<own.length)(h2:0<own.getD i.1 0)(hle:l.length+(Zs l i).2<=tot)(h:row.drop u.p=DU own i++R):
 ustep row own tot l u=(l++List.replicate (Zs l i).2 (Zs l i).1,{u with p:=u.p+(DU own i).length}):=by
 have hlen:=Jj own hG i;have hR:=congrArg List.length h;rw[VO,VB,hlen]at hR;have hcl:=Fh own hG i.1;unfold DU at h;rw[VJ]at h;have c1:=Ii own hG row i.1 u _ he h1 h2 h;have d1:=Bc h
 have K:ukind row l i.1 {u with p:=u.p+(An own i.1).length}=((Zs l i).1,(Zs l i).2,{u with p:=u.p+(DU own i).length}):=by
  rw[hlen];obtain⟨k,r,s⟩:=i;simp only at h1 h2 hle h hlen hR hcl c1 d1 hi ⊢
  rcases hi with ⟨rfl,h3,rfl,h5⟩|⟨rfl,rfl,h5⟩|⟨rfl,rfl,h5⟩|⟨h3,rfl,rfl⟩
  . have c2:=Ed row 2 r {u with p:=u.p+(An own 16).length} R he (by simp only;omega) (by omega) d1;rw[Z1r,if_neg h3,c2,Z0r];simp only[WJ]
  . have c2:=Ed row 3 r {u with p:=u.p+(An own 17).length} R he (by simp only;omega) (by omega) d1;rw[Z1q,c2,Z0q];simp only[WJ]
  . have c2:=Ed row 7 r {u with p:=u.p+(An own 18).length} R he (by simp only;omega) (by omega) d1;rw[Z1p,c2,Z0p];simp only[WJ]
  . rw[Z1s _ _ _ _ h3,Z4y _ _ _ _ h3];simp
 unfold ustep;rw[c1];simp only
 rw[K];unfold Sr;simp only
 rw[if_neg (by simp[he];omega)]
def Went (row:List Bool)(own:List Int)(tot:Nat)(F:Nat)(l:List Int)(u:US)(X:List Bool)(more:List Int):Prop:=
 ∃F',tot<=(l++more).length+F'/\ulens row own tot F l u=ulens row own tot F' (l++more) {u with p:=u.p+X.length}
theorem Y3 (own:List Int)(hG:Good own)(row:List Bool)(tot F:Nat)(l:List Int)(u:US)(i:Nat×Nat×Nat)(R:List Bool)(he:u.e=0)(hi:okI l i)(h1:i.1<own.length)(h2:0<own.getD i.1 0)(hle:l.length+(Zs l i).2<=tot)(hpos:0<(Zs l i).2)(hF:tot<=l.length+F)(h:row.drop u.p=DU own i++R):
 Went row own tot F l u (DU own i) (List.replicate (Zs l i).2 (Zs l i).1):=by
 obtain⟨F',rfl⟩:∃F',F=F'+1:=⟨F-1,by omega⟩
 refine⟨F',by simp;omega, ?_⟩;rw[ulens,if_pos ⟨by omega,he⟩,QO own hG row tot l u i R he hi h1 h2 hle h]
theorem Went.nil (row:List Bool)(own:List Int)(tot F:Nat)(l:List Int)(u:US)(hF:tot<=l.length+F):Went row own tot F l u [] []:=⟨F,by simpa using hF,by simp⟩
theorem Went.trans {row:List Bool}{own:List Int}{tot F:Nat}{l:List Int}{u:US}{X Y:List Bool}{m1 m2:List Int}(h:Went row own tot F l u X m1)
 (k:∀F',tot<=(l++m1).length+F'->Went row own tot F' (l++m1) {u with p:=u.p+X.length} Y m2):Went row own tot F l u (X++Y) (m1++m2):=by
 obtain⟨F1,h1,h2⟩:=h;obtain⟨F2,k1,k2⟩:=k F1 h1;refine⟨F2,by simpa[WJ]using k1, ?_⟩;rw[h2,k2];simp[WJ]
theorem Z7 (l:List Int)(x:Nat)(h:x<=15):Zs l (x,0,0)=((x:Int),1):=by
 unfold Zs;simp only;rw[if_neg (by omega),if_neg (by omega),if_neg (by omega)]
theorem KN (a b:Nat)(x:Int):List.replicate (a+b) x=List.replicate a x++List.replicate b x:=by rw[List.replicate_append_replicate]
theorem BF (l:List Int)(x:Int)(n:Nat)(h:0<n):(l++List.replicate n x).getD ((l++List.replicate n x).length-1) 0=x:=by
 have hl:(l++List.replicate n x).length=l.length+n:=by simp
 rw[hl];have:l.length+n-1<(l++List.replicate n x).length:=by omega
 simp only[List.getD,VR this,XR];rw[List.getElem_append_right (by omega)];simp
theorem O3 (own:List Int)(hG:Good own)(row:List Bool)(tot x:Nat)(hx:x<=15):∀(f m:Nat) (F:Nat) (l:List Int) (u:US) (R:List Bool),m<=f->u.e=0->(0<x->l.length≠0/\l.getD (l.length-1) 0=(x:Int))->HasR own (Ej x f m)->l.length+m<=tot->tot<=l.length+F->row.drop u.p=putRs own (Ej x f m)++R->
 Went row own tot F l u (putRs own (Ej x f m)) (List.replicate m (x:Int))
 |0,m,F,l,u,R,hm,he,hl,hh,hle,hF,h=>by
  obtain rfl:m=0:=by omega
  exact Went.nil row own tot F l u hF
 |f+1,m,F,l,u,R,hm,he,hl,hh,hle,hF,h=>by
  by_cases h0:m=0
  . subst h0;have e:Ej x (f+1) 0= []:=by rw[Ej,if_pos rfl]
    rw[e];exact Went.nil row own tot F l u hF
  . 
    have step:∀(i:Nat×Nat×Nat) (c:Nat),Ej x (f+1) m=i::Ej x f (m-c)->0<c->c<=m->okI l i->Zs l i=((x:Int),c)->Went row own tot F l u (putRs own (Ej x (f+1) m)) (List.replicate m (x:Int)):=by
     intro i c e hc hcm hok hsay;rw[e]at hh h ⊢;rw[Em]at h ⊢;rw[VJ]at h;obtain⟨k1,k2⟩:=hh i (by simp);have w1:=Y3 own hG row tot F l u i _ he hok k1 k2 (by rw[hsay];simp only;omega) (by rw[hsay];exact hc) hF h;rw[hsay]at w1;simp only at w1
     have:=w1.trans (Y:=putRs own (Ej x f (m-c))) (m2:=List.replicate (m-c) (x:Int)) (fun F' hF'=>O3 own hG row tot x hx f (m-c) F' _ _ R (by omega) he (fun h0=>⟨by simp;omega,BF l _ c hc⟩) (fun j hj=>hh j (by simp[hj])) (by simp;omega) hF' (Bc h))
     rw[<-KN,show c+(m-c)=m by omega]at this;exact this
    by_cases h3:m<3
    . exact step (x,0,0) 1 (by rw[Ej,if_neg h0,if_pos h3]) (by omega) (by omega) (.inr (.inr (.inr ⟨hx,rfl,rfl⟩))) (Z7 l x hx)
    . by_cases hx0:0<x
      . exact step (16,min m 6-3,2) (min m 6) (by rw[Ej,if_neg h0,if_neg h3,if_pos hx0]) (by omega) (by omega) (.inl ⟨rfl,(hl hx0).1,rfl,by simp only;omega⟩) (by rw[Z0r,(hl hx0).2];congr 1;omega)
      . obtain rfl:x=0:=by omega
        by_cases h11:m<11
        . exact step (17,m-3,3) m (by rw[Ej,if_neg h0,if_neg h3,if_neg hx0,if_pos h11,XK]) (by omega) (by omega) (.inr (.inl ⟨rfl,rfl,by simp only;omega⟩)) (by rw[Z0q];congr 1;omega)
        . exact step (18,min m 138-11,7) (min m 138) (by rw[Ej,if_neg h0,if_neg h3,if_neg hx0,if_neg h11]) (by omega) (by omega) (.inr (.inr (.inl ⟨rfl,rfl,by simp only;omega⟩))) (by rw[Z0p];congr 1;omega)
theorem Z2c (own:List Int)(hG:Good own)(row:List Bool)(tot x:Nat)(hx:x<=15)(m F:Nat)(l:List Int)(u:US)(R:List Bool)(hm:1<=m)(he:u.e=0)(hh:HasR own (Mm x m))(hle:l.length+m<=tot)(hF:tot<=l.length+F)(h:row.drop u.p=putRs own (Mm x m)++R):
 Went row own tot F l u (putRs own (Mm x m)) (List.replicate m (x:Int)):=by
 unfold Mm at hh h ⊢
 by_cases hx0:0<x
 . rw[if_pos hx0]at hh h ⊢;rw[Em]at h ⊢;rw[VJ]at h;obtain⟨k1,k2⟩:=hh (x,0,0) (by simp);have hs:=Z7 l x hx;have w1:=Y3 own hG row tot F l u (x,0,0) _ he (.inr (.inr (.inr ⟨hx,rfl,rfl⟩))) k1 k2 (by rw[hs];simp only;omega) (by rw[hs];exact Nat.one_pos) hF h;rw[hs]at w1;simp only at w1
   have:=w1.trans (Y:=putRs own (Ej x m (m-1))) (m2:=List.replicate (m-1) (x:Int)) (fun F' hF'=>O3 own hG row tot x hx m (m-1) F' _ _ R (by omega) he (fun h0=>⟨by simp,BF l _ 1 (by omega)⟩) (fun j hj=>hh j (by simp[hj])) (by simp;omega) hF' (Bc h))
   rw[<-KN,show 1+(m-1)=m by omega]at this;exact this
 . rw[if_neg hx0]at hh h ⊢;exact O3 own hG row tot x hx m m F l u R (VC _) he (fun h0=>absurd h0 hx0) hh hle hF h
theorem D0 (own:List Int)(hG:Good own)(row:List Bool)(tot:Nat):∀(f:Nat) (l2:List Int) (F:Nat) (l:List Int) (u:US) (R:List Bool),l2.length<=f->u.e=0->(∀x∈l2,0<=x/\x<=15)->HasR own (Oi f l2)->l.length+l2.length<=tot->tot<=l.length+F->row.drop u.p=putRs own (Oi f l2)++R->
 Went row own tot F l u (putRs own (Oi f l2)) l2
 |0,l2,F,l,u,R,hf,he,hx,hh,hle,hF,h=>by
  obtain rfl:l2= []:=WP (by omega);exact Went.nil row own tot F l u hF
 |f+1,[],F,l,u,R,hf,he,hx,hh,hle,hF,h=>Went.nil row own tot F l u hF
 |f+1,x::r,F,l,u,R,hf,he,hx,hh,hle,hF,h=>by
  have e:Oi (f+1) (x::r)=Mm x.toNat (Bm x r+1)++Oi f (r.drop (Bm x r)):=rfl;rw[e]at hh h ⊢;rw[Ld]at h ⊢;rw[VJ]at h;have hn:=Pf x r;simp only[VH]at hf hle;have hx0:=hx x (by simp);have hxx:((x.toNat:Nat):Int)=x:=YM hx0.1;have w1:=Z2c own hG row tot x.toNat (by omega) (Bm x r+1) F l u _ (by omega) he hh.app.1 (by omega) hF h;rw[hxx]at w1;have:=w1.trans (Y:=putRs own (Oi f (r.drop (Bm x r)))) (m2:=r.drop (Bm x r)) (fun F' hF'=>D0 own hG row tot f _ F' _ _ R (by simp;omega) he (fun y hy=>hx y (by simp[WB hy])) hh.app.2 (by simp;omega) hF' (Bc h))
  have e2:List.replicate (Bm x r+1) x++r.drop (Bm x r)=x::r:=by
   rw[YV,XJ,<-E8 x r]
  rw[e2]at this;exact this
theorem QQ (own:List Int)(hG:Good own)(row:List Bool)(all:List Int)(u:US)(R:List Bool)(he:u.e=0)(hx:∀x∈all,0<=x/\x<=15)(hh:HasR own (lenIs all))(h:row.drop u.p=putRs own (lenIs all)++R):
 ulens row own all.length all.length [] u=(all,{u with p:=u.p+(putRs own (lenIs all)).length}):=by
 obtain⟨F',h1,h2⟩:=D0 own hG row all.length all.length all all.length [] u R (VC _) he hx hh (by simp) (by simp) h;unfold lenIs;rw[h2];simp only[XG]
 cases F' with
 |zero=>rw[ulens]
 |succ F'=>rw[ulens,if_neg (by simp)]
theorem Yr (own:List Int)(row:List Bool)(hv:∀k,0<=own.getD k 0/\own.getD k 0<=7):∀(ks:List Nat) (s:List Int) (u:US) (R:List Bool),u.e=0->u.p<=row.length->row.drop u.p=ks.flatMap (fun k=>Ah (own.getD k 0).toNat 3)++R->
 ∃s',usmall row ks s u=(s',{u with p:=u.p+3*ks.length})/\s'.length=s.length/\∀k,k<s.length->s'.getD k 0=if k∈ks then own.getD k 0 else s.getD k 0
 | [],s,u,R,he,hp,h=>⟨s,by rw[usmall];rfl,rfl,fun k _=>by simp⟩
 |q::ks,s,u,R,he,hp,h=>by
  rw[XU,VJ]at h;have hq:=hv q;have hR:=congrArg List.length h;rw[VO,VB,Ae]at hR;have c1:=Ed row 3 (own.getD q 0).toNat u _ he hp (by omega) h;have d1:=Bc h;rw[Ae]at d1;obtain⟨s',e1,e2,e3⟩:=Yr own row hv ks (s.set q (((own.getD q 0).toNat:Nat):Int)) {u with p:=u.p+3} R he (by simp only;omega) d1;refine⟨s', ?_,by rw[e2];simp, ?_⟩
  . rw[usmall,c1];simp only
    rw[e1];simp only[VH]
    congr 2
    omega
  . intro k hk;rw[e3 k (by simpa using hk)]
    by_cases hm:k∈ks
    . rw[if_pos hm,if_pos (by simp[hm])]
    . rw[if_neg hm]
      by_cases e:k=q
      . subst e;rw[if_pos (by simp)];simp only[List.getD,List.getElem?_set_self hk,XR];exact YM hq.1
      . rw[if_neg (by simp[e,hm])];simp only[List.getD];rw[List.getElem?_set_ne (Ne.symm e)]
theorem B5 (own:List Int):∀n j,Wq own n<=j->j<n->own.getD (ord19.getD j 0) 0=0
 |0,j,h1,h2=>by omega
 |n+1,j,h1,h2=>by
  rw[Wq]at h1
  by_cases e:4<n+1/\own.getD (ord19.getD n 0) 0=0
  . rw[if_pos e]at h1
    by_cases e2:j=n
    . subst e2;exact e.2
    . exact B5 own n j h1 (by omega)
  . rw[if_neg e]at h1;omega
theorem LB:(List.range 19).all (fun k=>(List.range 19).any (fun j=>ord19.getD j 0==k))=true:=by decide
theorem SD {k:Nat}(h:k<19):∃j,j<19/\ord19.getD j 0=k:=by
 have:=WS.1 LB k (by simpa using h)
 obtain⟨j,h1,h2⟩:=List.any_eq_true.1 this;exact⟨j,by simpa using h1,by simpa using h2⟩
theorem Z3g {xs ys:List Int}(hl:xs.length=ys.length)(h:∀k,k<xs.length->xs.getD k 0=ys.getD k 0):xs=ys:=by
 apply XF hl
 intro i h1 h2;have:=h i h1
 simpa[List.getD,h1,h2]using this
theorem QL (a b own:List Int)(row:List Bool)(u:US)(R:List Bool)(he:u.e=0)(hp:u.p<=row.length)(hA:Good a)(hB:Good b)(hO:Good own)(ha:257<=a.length)(ha2:a.length<=286)(hb:1<=b.length)(hb2:b.length<=30)(ho:own.length=19)(hv:∀k,0<=own.getD k 0/\own.getD k 0<=7)(h256:0<a.getD 256 0)(hh:HasR own (lenIs (a++b)))(h:row.drop u.p=Jv a b own++R):
 Db row u=((a,b),{u with p:=u.p+(Jv a b own).length}):=by
 have hc1:=Wp own 19;have hc2:=R8 own 19 (by decide);have hz:=B5 own 19
 have hlen:(Jv a b own).length=14+3*Wq own 19+(putRs own (lenIs (a++b))).length:=by
  unfold Jv
  have:∀ks:List Nat,(ks.flatMap (fun k=>Ah (own.getD k 0).toNat 3)).length=3*ks.length:=by
   intro ks
   induction ks with
   |nil=>rfl
   |cons k ks ih=>rw[XU,VB,Ae,ih,VH];omega
  simp only[VB,Ae,this];have e19:ord19.length=19:=rfl;rw[VL,e19];omega
 have hR:=congrArg List.length h;rw[VO,VB,hlen]at hR;have hdr:=h;unfold Jv at h;generalize hC:Wq own 19=C at*;simp only[VJ]at h;have c1:=Ed row 5 (a.length-257) u _ he hp (by omega) h;have d1:=Bc h;rw[Ae]at d1;have c2:=Ed row 5 (b.length-1) {u with p:=u.p+5} _ he (by simp only;omega) (by omega) d1;have d2:=Bc d1;rw[Ae]at d2;have c3:=Ed row 4 (C-4) {u with p:=u.p+5+5} _ he (by simp only;omega) (by omega) d2;have d3:=Bc d2;rw[Ae]at d3;obtain⟨s',e1,e2,e3⟩:=Yr own row hv (ord19.take C) (List.replicate 19 0) {u with p:=u.p+5+5+4} _ he (by simp only;omega) d3
 have hls:(ord19.take C).length=C:=by
  have e19:ord19.length=19:=rfl;rw[VL,e19];omega
 rw[hls]at e1
 have hs:s'=own:=by
  apply Z3g (by rw[e2,ho];simp)
  intro k hk;rw[e2]at hk;rw[e3 k hk]
  by_cases hm:k∈ord19.take C
  . rw[if_pos hm]
  . rw[if_neg hm];have hk19:k<19:=by simpa using hk
    obtain⟨j,j1,j2⟩:=SD hk19
    have hj:C<=j:=by
     rcases YO j C with e|e
     . exfalso
       apply hm
       rw[<-j2];have e19:ord19.length=19:=rfl;have hjl:j<ord19.length:=by omega
       rw[List.mem_take_iff_getElem];exact⟨j,by omega,by simp[List.getD,hjl]⟩
     . exact e
    have:=hz j hj j1
    rw[j2]at this;rw[this];exact Hg 19 k
 subst hs;have d4:=Bc d3
 have hfl:((ord19.take C).flatMap (fun k=>Ah (s'.getD k 0).toNat 3)).length=3*C:=by
  have:∀ks:List Nat,(ks.flatMap (fun k=>Ah (s'.getD k 0).toNat 3)).length=3*ks.length:=by
   intro ks
   induction ks with
   |nil=>rfl
   |cons k ks ih=>rw[XU,VB,Ae,ih,VH];omega
  rw[this,hls]
 rw[hfl]at d4
 have hall:∀x∈a++b,0<=x/\x<=15:=by
  intro x hx
  have mem:∀l:List Int,Good l->x∈l->0<=x/\x<=15:=by
   intro l hG hm;obtain⟨j,hj,rfl⟩:=XC hm;have:=hG.ok j hj
   simpa[List.getD,hj]using this
  rcases VZ.1 hx with h|h
  . exact mem a hA h
  . exact mem b hB h
 have c5:=QQ s' hO row (a++b) {u with p:=u.p+5+5+4+3*C} R he hall hh d4;rw[VB]at c5;unfold Db;simp only
 rw[c1];simp only
 rw[c2];simp only
 rw[c3];simp only
 rw[show a.length-257+257=a.length by omega,show b.length-1+1=b.length by omega,show C-4+4=C by omega];unfold Gj;rw[if_neg (by omega),e1];unfold Nn Tq;simp only
 rw[Ix hO,if_neg (show ¬(u.e=0/\(0:Int)≠0) from fun h9=>h9.2 rfl),if_neg (show ¬(u.e≠0) from fun h9=>h9 he),c5];unfold Ig;simp only
 have g256:(a++b).getD 256 0=a.getD 256 0:=by
  simp only[List.getD];rw[WE (by omega)]
 have n256:¬(a++b).getD 256 0=0:=by rw[g256];omega
 rw[if_neg (show ¬(u.e≠0) from fun h9=>h9 he),List.take_left,List.drop_left,Ix hA,Ix hB,if_neg (by rintro (h9|h9|h9);exact n256 h9;exact h9 rfl;exact h9 rfl),hlen]
 congr 2
 omega
theorem ID (l:List Int):∀k,∀x∈wpl l k,x<k
 |0,x,h=>by cases h
 |k+1,x,h=>by
  rw[wpl]at h
  rcases VZ.1 h with h|h
  . have:=ID l k x h;omega
  . split at h
    . simp at h;omega
    . cases h
theorem Yj (l:List Int):∀k,(wpl l k).Nodup
 |0=>List.nodup_nil
 |k+1=>by
  rw[wpl,List.nodup_append];refine⟨Yj l k,by split<;>simp,fun a ha b hb=> ?_⟩;have:=ID l k a ha
  split at hb
  . simp at hb;omega
  . cases hb
def leW (l:List Int)(a b:Nat):Bool:=decide (l.getD a 0<l.getD b 0\/ (l.getD a 0=l.getD b 0/\a<=b))
theorem Z2g (l:List Int):∃P,RiseOf l P:=by
 have hp:=List.mergeSort_perm (wpl l l.length) (leW l);refine⟨(wpl l l.length).mergeSort (leW l),hp, ?_⟩
 have hs:=List.pairwise_mergeSort (le:=leW l) (fun a b c h1 h2=>by
  unfold leW at*;simp only[decide_eq_true_eq]at*;omega) (fun a b=>by
  unfold leW;simp only[Bool.or_eq_true,decide_eq_true_eq];omega) (wpl l l.length)
 have hn:((wpl l l.length).mergeSort (leW l)).Nodup:=hp.nodup_iff.2 (Yj l l.length);refine(hs.and hn).imp (fun {a b} h=> ?_);obtain⟨h1,h2⟩:=h;unfold leW at h1;simp only[decide_eq_true_eq]at h1;have:a≠b:=h2
 omega
theorem T0 (l:List Int)(m:Nat):IsLens l m (lensD l m):=by
 obtain⟨P,hP⟩:=Z2g l;exact Classical.epsilon_spec (p:=fun s=>IsLens l m s) ⟨_,P,hP,rfl⟩
theorem Z2p {all:List Int}(hl:all.length<=1000)(hx:∀x∈all,0<=x/\x<=15):Own all (N4 all):=Z0w hl hx (T0 _ _)
theorem BX {bs:List Nat}(hb:∀j,bs.getD j 0<256)(hl:bs.length<=3000):Dyn (Dm bs) (JP (Dm bs)) (NR (Dm bs)):=by
 have h3:=Ot bs;exact Z1a (Kb hb hl) (by omega) (T0 _ _) (T0 _ _)
theorem OC {ts:List Tk}{a b:List Int}(d:Dyn ts a b):Own (a++b) (N4 (a++b)):=by
 have h1:=d.la2;have h2:=d.lb2;refine Z2p (by rw[VB];omega) (fun x hx=> ?_)
 rcases VZ.1 hx with h|h
 . exact Pg d.ga x h
 . exact Pg d.gb x h
theorem Z3q {bs:List Nat}(hb:∀j,bs.getD j 0<256)(hl:bs.length<=3000):∃ts a b,BZ bs=Gb a b ts/\Dyn ts a b/\Own (a++b) (N4 (a++b))/\(∀t∈ts,VT t)/\ts.length<=bs.length/\(∀n,n+bs.length<=3000->∀out:List Nat,out.length=n->ts=Dm bs\/ts=Dq bs):=by
 unfold BZ
 split
 . exact⟨Dq bs,Jw,Om,rfl,Pk hb,OC (Pk hb),Xk hb,by rw[Ja];exact VC _,fun _ _ _ _=>.inr rfl⟩
 . exact⟨Dm bs,JP (Dm bs),NR (Dm bs),rfl,BX hb hl,OC (BX hb hl),Kb hb hl,Ot bs,fun _ _ _ _=>.inl rfl⟩
end Go.Proofs.YtieianhejdcgdaaGreatDoor
