import Derived.Test.YtleocpdblhbimaaGreatDoorQ32
import Derived.Test.YtleocpdblhbimaaGreatDoorQ10
set_option linter.unusedSimpArgs false
set_option maxHeartbeats 1000000
namespace Go.Proofs.YtleocpdblhbimaaGreatDoor
set_option linter.unusedVariables false
set_option maxRecDepth 100000
def Za (l:List Int)(i:Nat×Nat×Nat):Int×Nat:=
 if i.1=16 then (l.getD (l.length-1) 0,3+i.2.1)else if i.1=17 then (0,3+i.2.1)else if i.1=18 then (0,11+i.2.1)else ((i.1:Int),1)
theorem TE (l:List Int)(r s:Nat):Za l (16,r,s)=(l.getD (l.length-1) 0,3+r):=rfl
theorem TD (l:List Int)(r s:Nat):Za l (17,r,s)=(0,3+r):=rfl
theorem TC (l:List Int)(r s:Nat):Za l (18,r,s)=(0,11+r):=rfl
theorem Z0c (row:List Bool)(l:List Int)(u:US):ukind row l 16 u=if l.length=0 then (16,1,Ck 8 u)else (l.getD (l.length-1) 0,3+(uget row 2 u).1,(uget row 2 u).2):=rfl
theorem Z0b (row:List Bool)(l:List Int)(u:US):ukind row l 17 u=(0,3+(uget row 3 u).1,(uget row 3 u).2):=rfl
theorem Z0a (row:List Bool)(l:List Int)(u:US):ukind row l 18 u=(0,11+(uget row 7 u).1,(uget row 7 u).2):=rfl
theorem Z0d (row:List Bool)(l:List Int)(k:Nat)(u:US)(h:k<=15):ukind row l k u=((k:Int),1,u):=by
 unfold ukind;rw[if_neg (by omega),if_neg (by omega),if_neg (by omega)]
theorem Z3b (l:List Int)(k r s:Nat)(h:k<=15):Za l (k,r,s)=((k:Int),1):=by
 unfold Za;simp only
 rw[if_neg (by omega),if_neg (by omega),if_neg (by omega)]
def okI (l:List Int)(i:Nat×Nat×Nat):Prop:=
 (i.1=16/\l.length≠0/\i.2.2=2/\i.2.1<4)\/ (i.1=17/\i.2.2=3/\i.2.1<8)\/ (i.1=18/\i.2.2=7/\i.2.1<128)\/ (i.1<=15/\i.2.1=0/\i.2.2=0)
theorem OI (own:List Int)(hG:Good own)(row:List Bool)(tot:Nat)(l:List Int)(u:US)(i:Nat×Nat×Nat)(R:List Bool)(he:u.e=0)(hi:okI l i)(h1:i.1<own.length)(h2:0<own.getD i.1 0)(hle:l.length+(Za l i).2<=tot)(h:row.drop u.p=CP own i++R):
 ustep row own tot l u=(l++List.replicate (Za l i).2 (Za l i).1,{u with p:=u.p+(CP own i).length}):=by
 have hlen:=Jm own hG i;have hR:=congrArg List.length h;rw[VN,VB,hlen]at hR;have hcl:=Ff own hG i.1;unfold CP at h;rw[VH]at h;have c1:=Ij own hG row i.1 u _ he h1 h2 h;have d1:=Bg h
 have K:ukind row l i.1 {u with p:=u.p+(codeT own i.1).length}=((Za l i).1,(Za l i).2,{u with p:=u.p+(CP own i).length}):=by
  rw[hlen];obtain⟨k,r,s⟩:=i;simp only at h1 h2 hle h hlen hR hcl c1 d1 hi ⊢
  rcases hi with ⟨rfl,h3,rfl,h5⟩|⟨rfl,rfl,h5⟩|⟨rfl,rfl,h5⟩|⟨h3,rfl,rfl⟩
  . have c2:=Ds row 2 r {u with p:=u.p+(codeT own 16).length} R he (by simp only;omega) (by omega) d1;rw[Z0c,if_neg h3,c2,TE];simp only[WH]
  . have c2:=Ds row 3 r {u with p:=u.p+(codeT own 17).length} R he (by simp only;omega) (by omega) d1;rw[Z0b,c2,TD];simp only[WH]
  . have c2:=Ds row 7 r {u with p:=u.p+(codeT own 18).length} R he (by simp only;omega) (by omega) d1;rw[Z0a,c2,TC];simp only[WH]
  . rw[Z0d _ _ _ _ h3,Z3b _ _ _ _ h3];simp
 unfold ustep;rw[c1];simp only
 rw[K];unfold ON;simp only
 rw[if_neg (by simp[he];omega)]
def Went (row:List Bool)(own:List Int)(tot:Nat)(F:Nat)(l:List Int)(u:US)(X:List Bool)(more:List Int):Prop:=
 ∃F',tot<=(l++more).length+F'/\ulens row own tot F l u=ulens row own tot F' (l++more) {u with p:=u.p+X.length}
theorem T7 (own:List Int)(hG:Good own)(row:List Bool)(tot F:Nat)(l:List Int)(u:US)(i:Nat×Nat×Nat)(R:List Bool)(he:u.e=0)(hi:okI l i)(h1:i.1<own.length)(h2:0<own.getD i.1 0)(hle:l.length+(Za l i).2<=tot)(hpos:0<(Za l i).2)(hF:tot<=l.length+F)(h:row.drop u.p=CP own i++R):
 Went row own tot F l u (CP own i) (List.replicate (Za l i).2 (Za l i).1):=by
 obtain⟨F',rfl⟩:∃F',F=F'+1:=⟨F-1,by omega⟩
 refine⟨F',by simp;omega, ?_⟩;rw[ulens,if_pos ⟨by omega,he⟩,OI own hG row tot l u i R he hi h1 h2 hle h]
theorem Went.nil (row:List Bool)(own:List Int)(tot F:Nat)(l:List Int)(u:US)(hF:tot<=l.length+F):Went row own tot F l u [] []:=⟨F,by simpa using hF,by simp⟩
theorem Went.trans {row:List Bool}{own:List Int}{tot F:Nat}{l:List Int}{u:US}{X Y:List Bool}{m1 m2:List Int}(h:Went row own tot F l u X m1)
 (k:∀F',tot<=(l++m1).length+F'->Went row own tot F' (l++m1) {u with p:=u.p+X.length} Y m2):Went row own tot F l u (X++Y) (m1++m2):=by
 obtain⟨F1,h1,h2⟩:=h;obtain⟨F2,k1,k2⟩:=k F1 h1;refine⟨F2,by simpa[WH]using k1, ?_⟩;rw[h2,k2];simp[WH]
theorem X4 (l:List Int)(x:Nat)(h:x<=15):Za l (x,0,0)=((x:Int),1):=by
 unfold Za;simp only;rw[if_neg (by omega),if_neg (by omega),if_neg (by omega)]
theorem II (a b:Nat)(x:Int):List.replicate (a+b) x=List.replicate a x++List.replicate b x:=by rw[XY]
theorem Z7 (l:List Int)(x:Int)(n:Nat)(h:0<n):(l++List.replicate n x).getD ((l++List.replicate n x).length-1) 0=x:=by
 have hl:(l++List.replicate n x).length=l.length+n:=by simp
 rw[hl];have:l.length+n-1<(l++List.replicate n x).length:=by omega
 simp only[List.getD,VR this,XP];rw[YX (by omega)];simp
theorem J6 (own:List Int)(hG:Good own)(row:List Bool)(tot x:Nat)(hx:x<=15):∀(f m:Nat) (F:Nat) (l:List Int) (u:US) (R:List Bool),m<=f->u.e=0->(0<x->l.length≠0/\l.getD (l.length-1) 0=(x:Int))->HasR own (Dy x f m)->l.length+m<=tot->tot<=l.length+F->row.drop u.p=putRs own (Dy x f m)++R->
 Went row own tot F l u (putRs own (Dy x f m)) (List.replicate m (x:Int))
 |0,m,F,l,u,R,hm,he,hl,hh,hle,hF,h=>by
  obtain rfl:m=0:=by omega
  exact Went.nil row own tot F l u hF
 |f+1,m,F,l,u,R,hm,he,hl,hh,hle,hF,h=>by
  by_cases h0:m=0
  . subst h0;have e:Dy x (f+1) 0= []:=by rw[Dy,if_pos rfl]
    rw[e];exact Went.nil row own tot F l u hF
  . 
    have step:∀(i:Nat×Nat×Nat) (c:Nat),Dy x (f+1) m=i::Dy x f (m-c)->0<c->c<=m->okI l i->Za l i=((x:Int),c)->Went row own tot F l u (putRs own (Dy x (f+1) m)) (List.replicate m (x:Int)):=by
     intro i c e hc hcm hok hsay;rw[e]at hh h ⊢;rw[Dz]at h ⊢;rw[VH]at h;obtain⟨k1,k2⟩:=hh i (by simp);have w1:=T7 own hG row tot F l u i _ he hok k1 k2 (by rw[hsay];simp only;omega) (by rw[hsay];exact hc) hF h;rw[hsay]at w1;simp only at w1
     have:=w1.trans (Y:=putRs own (Dy x f (m-c))) (m2:=List.replicate (m-c) (x:Int)) (fun F' hF'=>J6 own hG row tot x hx f (m-c) F' _ _ R (by omega) he (fun h0=>⟨by simp;omega,Z7 l _ c hc⟩) (fun j hj=>hh j (by simp[hj])) (by simp;omega) hF' (Bg h))
     rw[<-II,show c+(m-c)=m by omega]at this;exact this
    by_cases h3:m<3
    . exact step (x,0,0) 1 (by rw[Dy,if_neg h0,if_pos h3]) (by omega) (by omega) (.inr (.inr (.inr ⟨hx,rfl,rfl⟩))) (X4 l x hx)
    . by_cases hx0:0<x
      . exact step (16,min m 6-3,2) (min m 6) (by rw[Dy,if_neg h0,if_neg h3,if_pos hx0]) (by omega) (by omega) (.inl ⟨rfl,(hl hx0).1,rfl,by simp only;omega⟩) (by rw[TE,(hl hx0).2];congr 1;omega)
      . obtain rfl:x=0:=by omega
        by_cases h11:m<11
        . exact step (17,m-3,3) m (by rw[Dy,if_neg h0,if_neg h3,if_neg hx0,if_pos h11,XM]) (by omega) (by omega) (.inr (.inl ⟨rfl,rfl,by simp only;omega⟩)) (by rw[TD];congr 1;omega)
        . exact step (18,min m 138-11,7) (min m 138) (by rw[Dy,if_neg h0,if_neg h3,if_neg hx0,if_neg h11]) (by omega) (by omega) (.inr (.inr (.inl ⟨rfl,rfl,by simp only;omega⟩))) (by rw[TC];congr 1;omega)
theorem Z0x (own:List Int)(hG:Good own)(row:List Bool)(tot x:Nat)(hx:x<=15)(m F:Nat)(l:List Int)(u:US)(R:List Bool)(hm:1<=m)(he:u.e=0)(hh:HasR own (Mq x m))(hle:l.length+m<=tot)(hF:tot<=l.length+F)(h:row.drop u.p=putRs own (Mq x m)++R):
 Went row own tot F l u (putRs own (Mq x m)) (List.replicate m (x:Int)):=by
 unfold Mq at hh h ⊢
 by_cases hx0:0<x
 . rw[if_pos hx0]at hh h ⊢;rw[Dz]at h ⊢;rw[VH]at h;obtain⟨k1,k2⟩:=hh (x,0,0) (by simp);have hs:=X4 l x hx;have w1:=T7 own hG row tot F l u (x,0,0) _ he (.inr (.inr (.inr ⟨hx,rfl,rfl⟩))) k1 k2 (by rw[hs];simp only;omega) (by rw[hs];exact Nat.one_pos) hF h;rw[hs]at w1;simp only at w1
   have:=w1.trans (Y:=putRs own (Dy x m (m-1))) (m2:=List.replicate (m-1) (x:Int)) (fun F' hF'=>J6 own hG row tot x hx m (m-1) F' _ _ R (by omega) he (fun h0=>⟨by simp,Z7 l _ 1 (by omega)⟩) (fun j hj=>hh j (by simp[hj])) (by simp;omega) hF' (Bg h))
   rw[<-II,show 1+(m-1)=m by omega]at this;exact this
 . rw[if_neg hx0]at hh h ⊢;exact J6 own hG row tot x hx m m F l u R (VC _) he (fun h0=>absurd h0 hx0) hh hle hF h
theorem Zz (own:List Int)(hG:Good own)(row:List Bool)(tot:Nat):∀(f:Nat) (l2:List Int) (F:Nat) (l:List Int) (u:US) (R:List Bool),l2.length<=f->u.e=0->(∀x∈l2,0<=x/\x<=15)->HasR own (Oe f l2)->l.length+l2.length<=tot->tot<=l.length+F->row.drop u.p=putRs own (Oe f l2)++R->
 Went row own tot F l u (putRs own (Oe f l2)) l2
 |0,l2,F,l,u,R,hf,he,hx,hh,hle,hF,h=>by
  obtain rfl:l2= []:=WX (by omega);exact Went.nil row own tot F l u hF
 |f+1,[],F,l,u,R,hf,he,hx,hh,hle,hF,h=>Went.nil row own tot F l u hF
 |f+1,x::r,F,l,u,R,hf,he,hx,hh,hle,hF,h=>by
  have e:Oe (f+1) (x::r)=Mq x.toNat (Bm x r+1)++Oe f (r.drop (Bm x r)):=rfl;rw[e]at hh h ⊢;rw[Lg]at h ⊢;rw[VH]at h;have hn:=Pf x r;simp only[VJ]at hf hle;have hx0:=hx x (by simp);have hxx:((x.toNat:Nat):Int)=x:=XX hx0.1;have w1:=Z0x own hG row tot x.toNat (by omega) (Bm x r+1) F l u _ (by omega) he hh.app.1 (by omega) hF h;rw[hxx]at w1;have:=w1.trans (Y:=putRs own (Oe f (r.drop (Bm x r)))) (m2:=r.drop (Bm x r)) (fun F' hF'=>Zz own hG row tot f _ F' _ _ R (by simp;omega) he (fun y hy=>hx y (by simp[VY hy])) hh.app.2 (by simp;omega) hF' (Bg h))
  have e2:List.replicate (Bm x r+1) x++r.drop (Bm x r)=x::r:=by
   rw[List.replicate_succ,XH,<-B7 x r]
  rw[e2]at this;exact this
theorem OO (own:List Int)(hG:Good own)(row:List Bool)(all:List Int)(u:US)(R:List Bool)(he:u.e=0)(hx:∀x∈all,0<=x/\x<=15)(hh:HasR own (lenIs all))(h:row.drop u.p=putRs own (lenIs all)++R):
 ulens row own all.length all.length [] u=(all,{u with p:=u.p+(putRs own (lenIs all)).length}):=by
 obtain⟨F',h1,h2⟩:=Zz own hG row all.length all.length all all.length [] u R (VC _) he hx hh (by simp) (by simp) h;unfold lenIs;rw[h2];simp only[List.nil_append]
 cases F' with
 |zero=>rw[ulens]
 |succ F'=>rw[ulens,if_neg (by simp)]
theorem Xu (own:List Int)(row:List Bool)(hv:∀k,0<=own.getD k 0/\own.getD k 0<=7):∀(ks:List Nat) (s:List Int) (u:US) (R:List Bool),u.e=0->u.p<=row.length->row.drop u.p=ks.flatMap (fun k=>Ah (own.getD k 0).toNat 3)++R->
 ∃s',usmall row ks s u=(s',{u with p:=u.p+3*ks.length})/\s'.length=s.length/\∀k,k<s.length->s'.getD k 0=if k∈ks then own.getD k 0 else s.getD k 0
 | [],s,u,R,he,hp,h=>⟨s,by rw[usmall];rfl,rfl,fun k _=>by simp⟩
 |q::ks,s,u,R,he,hp,h=>by
  rw[XR,VH]at h;have hq:=hv q;have hR:=congrArg List.length h;rw[VN,VB,Ae]at hR;have c1:=Ds row 3 (own.getD q 0).toNat u _ he hp (by omega) h;have d1:=Bg h;rw[Ae]at d1;obtain⟨s',e1,e2,e3⟩:=Xu own row hv ks (s.set q (((own.getD q 0).toNat:Nat):Int)) {u with p:=u.p+3} R he (by simp only;omega) d1;refine⟨s', ?_,by rw[e2];simp, ?_⟩
  . rw[usmall,c1];simp only
    rw[e1];simp only[VJ]
    congr 2
    omega
  . intro k hk;rw[e3 k (by simpa using hk)]
    by_cases hm:k∈ks
    . rw[if_pos hm,if_pos (by simp[hm])]
    . rw[if_neg hm]
      by_cases e:k=q
      . subst e;rw[if_pos (by simp)];simp only[List.getD,List.getElem?_set_self hk,XP];exact XX hq.1
      . rw[if_neg (by simp[e,hm])];simp only[List.getD];rw[List.getElem?_set_ne (Ne.symm e)]
theorem Zn (own:List Int):∀n j,Wg own n<=j->j<n->own.getD (ord19.getD j 0) 0=0
 |0,j,h1,h2=>by omega
 |n+1,j,h1,h2=>by
  rw[Wg]at h1
  by_cases e:4<n+1/\own.getD (ord19.getD n 0) 0=0
  . rw[if_pos e]at h1
    by_cases e2:j=n
    . subst e2;exact e.2
    . exact Zn own n j h1 (by omega)
  . rw[if_neg e]at h1;omega
theorem JD:(List.range 19).all (fun k=>(List.range 19).any (fun j=>ord19.getD j 0==k))=true:=by decide
theorem QD {k:Nat}(h:k<19):∃j,j<19/\ord19.getD j 0=k:=by
 have:=WT.1 JD k (by simpa using h)
 obtain⟨j,h1,h2⟩:=List.any_eq_true.1 this;exact⟨j,by simpa using h1,by simpa using h2⟩
theorem Z20 {xs ys:List Int}(hl:xs.length=ys.length)(h:∀k,k<xs.length->xs.getD k 0=ys.getD k 0):xs=ys:=by
 apply XK hl
 intro i h1 h2;have:=h i h1
 simpa[List.getD,h1,h2]using this
theorem OE (a b own:List Int)(row:List Bool)(u:US)(R:List Bool)(he:u.e=0)(hp:u.p<=row.length)(hA:Good a)(hB:Good b)(hO:Good own)(ha:257<=a.length)(ha2:a.length<=286)(hb:1<=b.length)(hb2:b.length<=30)(ho:own.length=19)(hv:∀k,0<=own.getD k 0/\own.getD k 0<=7)(h256:0<a.getD 256 0)(hh:HasR own (lenIs (a++b)))(h:row.drop u.p=Ix a b own++R):
 Hc row u=((a,b),{u with p:=u.p+(Ix a b own).length}):=by
 have hc1:=We own 19;have hc2:=N3 own 19 (by decide);have hz:=Zn own 19
 have hlen:(Ix a b own).length=14+3*Wg own 19+(putRs own (lenIs (a++b))).length:=by
  unfold Ix
  have:∀ks:List Nat,(ks.flatMap (fun k=>Ah (own.getD k 0).toNat 3)).length=3*ks.length:=by
   intro ks
   induction ks with
   |nil=>rfl
   |cons k ks ih=>rw[XR,VB,Ae,ih,VJ];omega
  simp only[VB,Ae,this];have e19:ord19.length=19:=rfl;rw[VM,e19];omega
 have hR:=congrArg List.length h;rw[VN,VB,hlen]at hR;have hdr:=h;unfold Ix at h;generalize hC:Wg own 19=C at*;simp only[VH]at h;have c1:=Ds row 5 (a.length-257) u _ he hp (by omega) h;have d1:=Bg h;rw[Ae]at d1;have c2:=Ds row 5 (b.length-1) {u with p:=u.p+5} _ he (by simp only;omega) (by omega) d1;have d2:=Bg d1;rw[Ae]at d2;have c3:=Ds row 4 (C-4) {u with p:=u.p+5+5} _ he (by simp only;omega) (by omega) d2;have d3:=Bg d2;rw[Ae]at d3;obtain⟨s',e1,e2,e3⟩:=Xu own row hv (ord19.take C) (List.replicate 19 0) {u with p:=u.p+5+5+4} _ he (by simp only;omega) d3
 have hls:(ord19.take C).length=C:=by
  have e19:ord19.length=19:=rfl;rw[VM,e19];omega
 rw[hls]at e1
 have hs:s'=own:=by
  apply Z20 (by rw[e2,ho];simp)
  intro k hk;rw[e2]at hk;rw[e3 k hk]
  by_cases hm:k∈ord19.take C
  . rw[if_pos hm]
  . rw[if_neg hm];have hk19:k<19:=by simpa using hk
    obtain⟨j,j1,j2⟩:=QD hk19
    have hj:C<=j:=by
     rcases YW j C with e|e
     . exfalso
       apply hm
       rw[<-j2];have e19:ord19.length=19:=rfl;have hjl:j<ord19.length:=by omega
       rw[List.mem_take_iff_getElem];exact⟨j,by omega,by simp[List.getD,hjl]⟩
     . exact e
    have:=hz j hj j1
    rw[j2]at this;rw[this];exact Hb 19 k
 subst hs;have d4:=Bg d3
 have hfl:((ord19.take C).flatMap (fun k=>Ah (s'.getD k 0).toNat 3)).length=3*C:=by
  have:∀ks:List Nat,(ks.flatMap (fun k=>Ah (s'.getD k 0).toNat 3)).length=3*ks.length:=by
   intro ks
   induction ks with
   |nil=>rfl
   |cons k ks ih=>rw[XR,VB,Ae,ih,VJ];omega
  rw[this,hls]
 rw[hfl]at d4
 have hall:∀x∈a++b,0<=x/\x<=15:=by
  intro x hx
  have mem:∀l:List Int,Good l->x∈l->0<=x/\x<=15:=by
   intro l hG hm;obtain⟨j,hj,rfl⟩:=XF hm;have:=hG.ok j hj
   simpa[List.getD,hj]using this
  rcases WJ.1 hx with h|h
  . exact mem a hA h
  . exact mem b hB h
 have c5:=OO s' hO row (a++b) {u with p:=u.p+5+5+4+3*C} R he hall hh d4;rw[VB]at c5;unfold Hc;simp only
 rw[c1];simp only
 rw[c2];simp only
 rw[c3];simp only
 rw[show a.length-257+257=a.length by omega,show b.length-1+1=b.length by omega,show C-4+4=C by omega];unfold Tl;rw[if_neg (by omega),e1];unfold T8 NV;simp only
 rw[Iz hO,if_neg (show ¬(u.e=0/\(0:Int)≠0) from fun h9=>h9.2 rfl),if_neg (show ¬(u.e≠0) from fun h9=>h9 he),c5];unfold FO;simp only
 have g256:(a++b).getD 256 0=a.getD 256 0:=by
  simp only[List.getD];rw[WL (by omega)]
 have n256:¬(a++b).getD 256 0=0:=by rw[g256];omega
 rw[if_neg (show ¬(u.e≠0) from fun h9=>h9 he),List.take_left,List.drop_left,Iz hA,Iz hB,if_neg (by rintro (h9|h9|h9);exact n256 h9;exact h9 rfl;exact h9 rfl),hlen]
 congr 2
 omega
theorem FM (l:List Int):∀k,∀x∈wpl l k,x<k
 |0,x,h=>by cases h
 |k+1,x,h=>by
  rw[wpl]at h
  rcases WJ.1 h with h|h
  . have:=FM l k x h;omega
  . split at h
    . simp at h;omega
    . cases h
theorem Xo (l:List Int):∀k,(wpl l k).Nodup
 |0=>List.nodup_nil
 |k+1=>by
  rw[wpl,List.nodup_append];refine⟨Xo l k,by split<;>simp,fun a ha b hb=> ?_⟩;have:=FM l k a ha
  split at hb
  . simp at hb;omega
  . cases hb
def leW (l:List Int)(a b:Nat):Bool:=decide (l.getD a 0<l.getD b 0\/ (l.getD a 0=l.getD b 0/\a<=b))
theorem Z10 (l:List Int):∃P,RiseOf l P:=by
 have hp:=List.mergeSort_perm (wpl l l.length) (leW l);refine⟨(wpl l l.length).mergeSort (leW l),hp, ?_⟩
 have hs:=List.pairwise_mergeSort (le:=leW l) (fun a b c h1 h2=>by
  unfold leW at*;simp only[decide_eq_true_eq]at*;omega) (fun a b=>by
  unfold leW;simp only[Bool.or_eq_true,decide_eq_true_eq];omega) (wpl l l.length)
 have hn:((wpl l l.length).mergeSort (leW l)).Nodup:=hp.nodup_iff.2 (Xo l l.length);refine(hs.and hn).imp (fun {a b} h=> ?_);obtain⟨h1,h2⟩:=h;unfold leW at h1;simp only[decide_eq_true_eq]at h1;have:a≠b:=h2
 omega
theorem O1 (l:List Int)(m:Nat):IsLens l m (lensD l m):=by
 obtain⟨P,hP⟩:=Z10 l;exact Classical.epsilon_spec (p:=fun s=>IsLens l m s) ⟨_,P,hP,rfl⟩
theorem Z18 {all:List Int}(hl:all.length<=1000)(hx:∀x∈all,0<=x/\x<=15):Own all (I8 all):=TH hl hx (O1 _ _)
theorem AU {bs:List Nat}(hb:∀j,bs.getD j 0<256)(hl:bs.length<=3000):Dyn (Dc bs) (GS (Dc bs)) (LS (Dc bs)):=by
 have h3:=Om bs;exact TZ (Kd hb hl) (by omega) (O1 _ _) (O1 _ _)
theorem MC {ts:List Tk}{a b:List Int}(d:Dyn ts a b):Own (a++b) (I8 (a++b)):=by
 have h1:=d.la2;have h2:=d.lb2;refine Z18 (by rw[VB];omega) (fun x hx=> ?_)
 rcases WJ.1 hx with h|h
 . exact Ph d.ga x h
 . exact Ph d.gb x h
theorem Z29 {bs:List Nat}(hb:∀j,bs.getD j 0<256)(hl:bs.length<=3000):∃ts a b,I9 bs=Ex a b ts/\Dyn ts a b/\Own (a++b) (I8 (a++b))/\(∀t∈ts,VT t)/\ts.length<=bs.length/\(∀n,n+bs.length<=3000->∀out:List Nat,out.length=n->ts=Dc bs\/ts=Dh bs):=by
 unfold I9
 split
 . exact⟨Dh bs,Jx,Oh,rfl,Pk hb,MC (Pk hb),Wt hb,by rw[Jc];exact VC _,fun _ _ _ _=>.inr rfl⟩
 . exact⟨Dc bs,GS (Dc bs),LS (Dc bs),rfl,AU hb hl,MC (AU hb hl),Kd hb hl,Om bs,fun _ _ _ _=>.inl rfl⟩
theorem Sb (X:List Nat)(d:Nat):∀(n:Nat) (acc:List Nat),1<=d->d<=acc.length->Mi (X++acc) d n=X++Mi acc d n
 |0,acc,_,_=>rfl
 |n+1,acc,h1,h2=>by
  rw[Mi,Mi]
  have e:(X++acc).getD ((X++acc).length-d) 0=acc.getD (acc.length-d) 0:=by
   simp only[List.getD,VB];rw[VS (by omega),show X.length+acc.length-d-X.length=acc.length-d by omega]
  rw[e,VH,Sb X d n _ h1 (by simp;omega)]
theorem CO (X acc:List Nat)(t:Tk)(h:Ct t acc.length=0):Zg t (X++acc)=X++Zg t acc:=by
 unfold Zg
 rcases Dm h with ⟨a,b⟩|⟨a,b,c,d,e⟩
 . rw[if_pos a,if_pos a,VH]
 . rw[if_neg (by omega),if_neg (by omega),Sb X _ _ acc (by omega) (by omega)]
theorem P9 {t:Tk}{n:Nat}(x:Nat)(h:Ct t n=0):Ct t (x+n)=0:=by
 unfold Ct
 rcases Dm h with ⟨a,b⟩|⟨a,b,c,d,e⟩
 . rw[if_pos ⟨a,b⟩]
 . rw[if_neg (by omega),if_neg (by rintro (h1|h1);omega;exact h1 a),if_neg (by omega),if_neg (by omega)]
theorem Ur (X:List Nat):∀(ts:List Tk) (acc:List Nat),Mj ts acc.length=0->Ta ts (X++acc)=X++Ta ts acc
 | [],acc,_=>rfl
 |t::ts,acc,h=>by
  rw[Mj]at h
  by_cases e:Ct t acc.length=0
  . rw[if_pos e]at h;rw[Ta,Ta,CO X acc t e,Ur X ts _ (by rw[Hl];exact h)]
  . rw[if_neg e]at h;exact absurd h e
theorem F4 (x:Nat):∀(ts:List Tk) (acc:List Nat),Mj ts acc.length=0->x+(Ta ts acc).length<=3000->Mj ts (x+acc.length)=0
 | [],acc,_,h=>by
  rw[Ta]at h;rw[Mj,if_neg (by omega)]
 |t::ts,acc,h,h2=>by
  rw[Mj]at h
  by_cases e:Ct t acc.length=0
  . rw[if_pos e]at h;rw[Ta]at h2;have:=F4 x ts (Zg t acc) (by rw[Hl];exact h) h2
    rw[Hl,<-WH]at this;rw[Mj,if_pos (P9 x e)];exact this
  . rw[if_neg e]at h;exact absurd h e
theorem K2 {bs out:List Nat}(h:out.length+bs.length<=3000):Mj (Dc bs) out.length=0/\Ta (Dc bs) out=out++bs:=by
 have c:=W0 bs (by omega);have e:=OU bs;refine⟨?_, ?_⟩
 . have:=F4 out.length (Dc bs) [] c (by rw[e];exact h)
   simpa using this
 . have:=Ur out (Dc bs) [] c
   rw[e,WZ]at this;exact this
theorem Ro:∀(bs out:List Nat),out.length+bs.length<=3000->Mj (Dh bs) out.length=0/\Ta (Dh bs) out=out++bs
 | [],out,h=>by
  simp only[WO]at h;refine⟨?_,by simp[Dh,Ta]⟩;show Mj [] out.length=0
  rw[Mj,if_neg (by omega)]
 |b::bs,out,h=>by
  simp only[VJ]at h;have e1:Dh (b::bs)=(b,0,0)::Dh bs:=rfl;have e2:Ct (b,0,0) out.length=0:=by unfold Ct;rw[if_pos ⟨rfl,rfl⟩]
  have e3:wid (b,0,0)=1:=by unfold wid;rw[if_pos rfl]
  have e4:Zg (b,0,0) out=out++ [b]:=by unfold Zg;rw[if_pos rfl]
  obtain⟨h1,h2⟩:=Ro bs (out++ [b]) (by simp;omega);rw[e1,Mj,if_pos e2,e3,Ta,e4,h2];refine⟨?_,by simp⟩;simpa using h1
theorem X7 (a b:List Int)(hA:Good a):∀ts:List Tk,Has a b (itsOf ts)->ts.length+1<=(putIs a b (itsOf ts)).length
 | [],h=>by
  have hp:putIs a b (itsOf [])=codeT a 256:=by simp[putIs,IM,itsOf,Of]
  obtain⟨k1,k2⟩:=h.1 256 (by simp[itsOf]);rw[hp,Ff a hA,WO];omega
 |t::ts,h=>by
  have ei:itsOf (t::ts)=Nt t++itsOf ts:=by simp[itsOf,Of]
  rw[ei]at h ⊢;have ih:=X7 a b hA ts h.app.2
  have h1:1<=(putIs a b (Nt t)).length:=by
   have hh:=h.app.1;unfold Nt at hh ⊢
   by_cases e:t.2.1=0
   . rw[if_pos e]at hh ⊢;obtain⟨k1,k2⟩:=hh.1 t.1 (by simp);simp only[putIs,IM,XR,List.flatMap_nil,VB,Ff a hA];omega
   . rw[if_neg e]at hh ⊢;obtain⟨k1,k2⟩:=hh.1 (Cb t.2.1.toNat).1 (by simp);simp only[putIs,IM,XR,VB,Ff a hA];omega
  rw[Qn,VB,VJ];omega
theorem RL {ts:List Tk}(hV:∀t∈ts,VT t):Has Mb Ja (itsOf ts):=by
 have hi:=Hr hV;have a1:(List.range 286).all (fun k=>decide (k<Mb.length/\0<Mb.getD k 0))=true:=by decide+kernel
 have a2:(List.range 30).all (fun k=>decide (k<Ja.length/\0<Ja.getD k 0))=true:=by decide+kernel
 refine⟨fun k hk=> ?_,fun k hk=> ?_⟩
 . have h:k<286:=hi _ hk;exact of_decide_eq_true (WT.1 a1 k (by simpa using h))
 . have h:k<30:=hi _ hk;exact of_decide_eq_true (WT.1 a2 k (by simpa using h))
theorem Z2n (S:List Bool)(bs:List Nat)(k:Nat)(l:Bool):∃X,Ka S bs k l=S++X:=by
 unfold Ka Hh
 split
 . exact⟨_,by simp only[VH];rfl⟩
 . split
   . exact⟨_,by simp only[VH];rfl⟩
   . exact⟨_,by simp only[VH];rfl⟩
theorem Y5:∀(its:List (List Nat×Nat)) (S:List Bool),∃X,Fq its S=S++X
 | [],S=>⟨[],by simp[Fq]⟩
 | (bs,k)::r,S=>by
  rw[Fq];obtain⟨X,hX⟩:=Y5 r (Ka S bs k (decide (r= [])));obtain⟨Y,hY⟩:=Z2n S bs k (decide (r= []));exact⟨Y++X,by rw[hX,hY,VH]⟩
theorem N6 (l:Bool):Ah (if l then 1 else 0) 1= [l]:=by cases l<;>rfl
theorem GA (S:List Bool)(bs:List Nat)(k:Nat)(l:Bool)(row R:List Bool)(u:US)(hrow:row=Ka S bs k l++R)(hp:u.p=S.length)(he:u.e=0)(hk:k<=2)(hb:∀j,bs.getD j 0<256)(hl:u.out.length+bs.length<=3000):
 Dx row u=(l,{u with p:=(Ka S bs k l).length,out:=u.out++bs,ks:=u.ks++ [k]}):=by
 obtain⟨S2,hS2⟩:∃S2,S++ [l]++Ah k 2=S2:=⟨_,rfl⟩
 have l2:S2.length=S.length+3:=by rw[<-hS2];simp[Ae]
 have hpre:∃X,Ka S bs k l=S2++X/\(k=0->Ka S bs k l=Hh S2 bs)/\(k=1->X=Ez (Dc bs))/\(k=2->X=I9 bs):=by
  unfold Ka;rw[hS2]
  by_cases h0:k=0
  . rw[if_pos h0];exact⟨_,by unfold Hh;simp only[VH];rfl,fun _=>rfl,fun h=>by omega,fun h=>by omega⟩
  . rw[if_neg h0]
    by_cases h1:k=1
    . rw[if_pos h1];exact⟨_,rfl,fun h=>by omega,fun _=>rfl,fun h=>by omega⟩
    . rw[if_neg h1];exact⟨_,rfl,fun h=>by omega,fun h=>by omega,fun _=>rfl⟩
 obtain⟨X,hX,hX0,hX1,hX2⟩:=hpre;have hlen:row.length=S2.length+X.length+R.length:=by rw[hrow,hX];simp only[VB]
 have d0:row.drop u.p=Ah (if l then 1 else 0) 1++(Ah k 2++(X++R)):=by
  rw[hrow,hX,hp,<-hS2,N6];simp only[VH];rw[List.drop_left]
 have c1:=Ds row 1 (if l then 1 else 0) u _ he (by omega) (by cases l<;>decide) d0;have d1:=Bg d0;rw[Ae]at d1;have c2:=Ds row 2 k {u with p:=u.p+1} _ he (by simp only;omega) (by omega) d1;have d2:=Bg d1;rw[Ae]at d2;have hl1:decide ((if l then 1 else 0)=1)=l:=by cases l<;>rfl
 unfold Dx;simp only[c1,c2];rw[if_neg (show ¬(u.e≠0) from fun h9=>h9 he)]
 by_cases h0:k=0
 . subst h0;rw[if_pos rfl,hl1];have hst:=hX0 rfl;have hfr:=Ju S2.length
   have hal:(u.p+1+2+7)/8*8=(padB S2).length:=by
    rw[Cj,hp,show S.length+1+2=S2.length by omega];have:=Lz S2.length
    first|omega|skip
   have hsl:(Hh S2 bs).length=(padB S2).length+32+8*bs.length:=by
    unfold Hh padB;simp only[VB,Ae,Ai,VV]
   have hrl:row.length=(padB S2).length+32+8*bs.length+R.length:=by rw[hrow,hst,VB,hsl]
   have d3:row.drop (padB S2).length=Ah bs.length 16++(Ah (65535-bs.length) 16++(rowB bs bs.length++R)):=by
    rw[hrow,hst]
    have e:Hh S2 bs=padB S2++(Ah bs.length 16++(Ah (65535-bs.length) 16++rowB bs bs.length)):=by
     unfold Hh padB;simp only[VH]
    rw[e,VH,List.drop_left];simp only[VH]
   have c3:=Ds row 16 bs.length {u with p:=(padB S2).length} _ he (by simp only;omega) (by omega) d3;have d4:=Bg d3;rw[Ae]at d4;have c4:=Ds row 16 (65535-bs.length) {u with p:=(padB S2).length+16} _ he (by simp only;omega) (by omega) d4;have d5:=Bg d4;rw[Ae]at d5;have c5:=Xt row bs {u with p:=(padB S2).length+16+16} R he (by simp only;omega) hb hl d5;unfold ustored;simp only[hal,c3,c4];rw[if_neg (show ¬(u.e=0/\bs.length+(65535-bs.length)≠65535) by omega),c5,hst,hsl];unfold ukept;simp only[WH]
   congr 2
   omega
 . rw[if_neg h0]
   have key:∀ts a b (u2:US) (R2:List Bool),u2.e=0->u2.out=u.out->u2.ks=u.ks->u2.p<=row.length->Good a->Good b->(∀t∈ts,VT t)->Has a b (itsOf ts)->(ts=Dc bs\/ts=Dh bs)->row.drop u2.p=putIs a b (itsOf ts)++R2->utok row a b row.length u2= {u with p:=u2.p+(putIs a b (itsOf ts)).length,out:=u.out++bs}:=by
    intro ts a b u2 R2 e2 o2 k2 p2 ga gb hv hh ht hd
    have hbe:Mj ts u2.out.length=0/\Ta ts u2.out=u2.out++bs:=by
     rw[o2]
     rcases ht with rfl|rfl
     . exact K2 hl
     . exact Ro bs u.out hl
    have hge:=X7 a b ga ts hh;have hr:=congrArg List.length hd;rw[VN,VB]at hr;rw[FP a b ga gb row ts row.length u2 R2 (by omega) e2 p2 hbe.1 (fun t h9=>(hv t h9).1) hh hd,hbe.2,o2,k2,e2,he]
   by_cases h1:k=1
   . subst h1;have hx1:=hX1 rfl;subst hx1;have hV:=Kd hb (by omega:bs.length<=3000);unfold uopen;rw[if_pos rfl];simp only
     rw[if_neg (show ¬(u.e≠0) from fun h9=>h9 he),hl1];have hfl:(Ez (Dc bs)).length=(putIs Mb Ja (itsOf (Dc bs))).length:=rfl;rw[key (Dc bs) Mb Ja {u with p:=u.p+1+2} R he rfl rfl (by simp only;omega) (Cn (by decide+kernel)) (Cn (by decide+kernel)) hV (RL hV) (.inl rfl) d2];unfold ukept;simp only
     rw[hX,VB,hfl]
     congr 2
     omega
   . obtain rfl:k=2:=by omega
     have hx2:=hX2 rfl;subst hx2;obtain⟨ts,a,b,hpl,hd,ho,hv,hlt,hte⟩:=Z29 hb (by omega:bs.length<=3000);rw[hpl]at d2 hX hlen;unfold Ex at d2 hX hlen;rw[VH]at d2;have hR2:=congrArg List.length d2;rw[VN,VB]at hR2;have t1:=OE a b (I8 (a++b)) row {u with p:=u.p+1+2} _ he (by simp only;omega) hd.ga hd.gb ho.go hd.la hd.la2 hd.lb hd.lb2 ho.lo ho.vo hd.end' ho.has d2;have d6:=Bg d2;have hop:uopen row 2 {u with p:=u.p+1+2}=Hc row {u with p:=u.p+1+2}:=rfl;rw[hop,t1];simp only
     rw[if_neg (show ¬(u.e≠0) from fun h9=>h9 he),hl1];rw[key ts a b {u with p:=u.p+1+2+(Ix a b (I8 (a++b))).length} R he rfl rfl (by simp only;omega) hd.ga hd.gb hv hd.has (hte 0 (by omega) [] rfl) d6];unfold ukept;simp only
     rw[hX,VB,VB]
     congr 2
     omega
theorem Si (row R:List Bool):∀(its:List (List Nat×Nat)) (S:List Bool) (u:US) (f:Nat),its≠ []->its.length<=f->row=Fq its S++R->u.p=S.length->u.e=0->(∀i∈its,i.2<=2/\∀j,i.1.getD j 0<256)->u.out.length+(its.flatMap Prod.fst).length<=3000->
 Ci row f u= {u with p:=(Fq its S).length,out:=u.out++its.flatMap Prod.fst,ks:=u.ks++its.map Prod.snd}
 | [],S,u,f,h,_,_,_,_,_,_=>absurd rfl h
 | (bs,k)::r,S,u,f,_,hf,hrow,hp,he,hi,hl=>by
  obtain⟨f',rfl⟩:∃f',f=f'+1:=⟨f-1,by simp at hf;omega⟩
  rw[XR,VB]at hl;simp only at hl
  obtain⟨hk,hb⟩:=hi (bs,k) (by simp);rw[Fq]at hrow ⊢;obtain⟨X,hX⟩:=Y5 r (Ka S bs k (decide (r= [])));have hb1:=GA S bs k (decide (r= [])) row (X++R) u (by rw[hrow,hX,VH]) hp he hk hb (by omega)
  by_cases e:r= []
  . subst e;rw[Ci,hb1];simp[Fq]
  . rw[decide_eq_false e]at hb1 hrow ⊢;rw[Ci,hb1];simp only
    rw[if_pos (by simpa using he),Si row R r (Ka S bs k false) {u with p:=(Ka S bs k false).length,out:=u.out++bs,ks:=u.ks++ [k]} f' e (by simp at hf;omega) hrow rfl he (fun i h9=>hi i (by simp[h9])) (by simp only[VB];omega)];simp[XR]
theorem Y6:∀(its:List (List Nat×Nat)) (S:List Bool),S.length+3*its.length<=(Fq its S).length
 | [],S=>by simp[Fq]
 | (bs,k)::r,S=>by
  rw[Fq,VJ];have h1:=Y6 r (Ka S bs k (decide (r= [])))
  have h2:S.length+3<=(Ka S bs k (decide (r= []))).length:=by
   unfold Ka Hh
   split
   . simp only[VB,Ae,VJ,WO,VV];omega
   . split<;>simp only[VB,Ae,VJ,WO]<;>omega
  omega
theorem FU (its:List (List Nat×Nat))(R:List Bool)(hne:its≠ [])(hi:∀i∈its,i.2<=2/\∀j,i.1.getD j 0<256)(hl:(its.flatMap Prod.fst).length<=3000):
 Mp (Fq its []++R)=⟨(Fq its []).length,its.flatMap Prod.fst,its.map Prod.snd,0⟩:=by
 have h1:=Y6 its [];unfold Mp;rw[Si (Fq its []++R) R its [] ⟨0,[],[],0⟩ _ hne (by rw[VB];simp at h1;omega) rfl rfl rfl hi (by simpa using hl)];simp
end Go.Proofs.YtleocpdblhbimaaGreatDoor
namespace Go.Proofs.YtleocpdblhbimaaGreatDoor
open Go.RowKit
set_option linter.unusedVariables false
set_option maxRecDepth 100000
theorem Z55 (W:World):(Instr.index 135 (.agg #[.int .i64 0,.int .i64 1,.int .i64 2]) (.int .i64 0)).run Tryz.prog W=.ok (.int .i64 0) W:=by kernel_rfl
theorem Z65 (W:World):(Instr.index 135 (.agg #[.int .i64 0,.int .i64 1,.int .i64 2]) (.int .i64 1)).run Tryz.prog W=.ok (.int .i64 1) W:=by kernel_rfl
theorem Z64 (W:World):(Instr.index 135 (.agg #[.int .i64 0,.int .i64 1,.int .i64 2]) (.int .i64 2)).run Tryz.prog W=.ok (.int .i64 2) W:=by kernel_rfl
theorem Z63 (k:Nat)(hk:k<=2)(W:World):(Instr.index 135 (.agg #[.int .i64 0,.int .i64 1,.int .i64 2]) (.int .i64 (k:Int))).run Tryz.prog W=.ok (.int .i64 (k:Int)) W:=by
 rcases(by omega:k=0\/k=1\/k=2)with rfl|rfl|rfl
 . exact Z55 W
 . exact Z65 W
 . exact Z64 W
theorem Nl (bs:List Nat)(k:Nat)(h:0<k):bestP bs (k+1)=if DE bs k<DE bs (bestP bs k)then k else bestP bs k:=by
 obtain⟨q,rfl⟩:∃q,k=q+1:=⟨k-1,by omega⟩
 rfl
theorem Z4a (a:Option Addr)(n cap:Nat)(bs:List Nat)(w:World)(hl:bs.length=n)(hcap:n<=cap)(hnil:a=none->cap=0)(hB:BytesIn w a bs)(hx:∀j,bs.getD j 0<256)(hm:n<=9223372036854775807)(hn:3000<n):
 Calls Tryz.prog 54 #[.slice a n cap] w fun e w'=>e=.returned (.tuple #[.slice none 0 0,.int .i64 0,.int .i64 2])/\Below w.heap.size w w':=by
 have HC:=Ab (fun T U=>QF a n cap 0 bs w T U hl hcap hnil hB hx hm hn);clear hB hx hnil;go_enter Tryz.func54,Tryz.ntmps54
 go_wp2;go_loopw [2,3,10] (fun v2 v3 v10 wr=>v2=.slice none 0 0/\v3=.int .i64 0/\v10=.int .i64 0/\wr=w) (fun _ _ _ _=>0)
 case atStart=>exact⟨rfl,rfl,rfl,rfl⟩
 case round=>
  obtain⟨rfl,rfl,rfl,rfl⟩:=hrel;have hix:=Z55;go_wp2_with fail
  refine(Aa HC _ _).mono ?_;rintro e w1 ⟨rfl,hB1⟩;have HB1:=Ab hB1;clear hB1;go_wp2;go_ret3;exact⟨rfl,Aa HB1⟩
theorem Z2q (a:Option Addr)(n cap:Nat)(bs:List Nat)(w:World)(hl:bs.length=n)(hcap:n<=cap)(hnil:a=none->cap=0)(hB:BytesIn w a bs)(hx:∀j,bs.getD j 0<256)(hn:n<=3000):
 Calls Tryz.prog 54 #[.slice a n cap] w fun e w'=>∃g c out,e=.returned (.tuple #[.slice (some ⟨g,0,none⟩) (DE bs (bestP bs 3)) c,.int .i64 (bestP bs 3:Nat),.int .i64 0])/\g<w'.heap.size/\Bytes w' g 0 out/\IsOne bs (bestP bs 3) out/\Below w.heap.size w w':=by
 have HC:=Ab (fun(W:World) (k:Nat) (hk:k<=2) (hW:Below w.heap.size w W) T U=>Z3i a n cap k bs W T U hl hcap hnil (hB.below hW (VC _)) hx hn hk);clear hB hx hnil;have hI0:(#[Value.int .i64 0,Value.int .i64 1,Value.int .i64 2]:Array Value).size=3:=rfl;go_enter Tryz.func54,Tryz.ntmps54
 go_wp2;go_loopw [2,3,10] (fun v2 v3 v10 wr=>∃k:Nat,k<=3/\v10=.int .i64 (k:Int)/\Below w.heap.size w wr/\((k=0/\v2=.slice none 0 0/\v3=.int .i64 0)\/ (0<k/\∃g c out,v2=.slice (some ⟨g,0,none⟩) (DE bs (bestP bs k)) c/\v3=.int .i64 (bestP bs k:Nat)/\g<wr.heap.size/\Bytes wr g 0 out/\IsOne bs (bestP bs k) out))) (fun _ _ v10 _=>3-(intOf v10).toNat)
 case atStart=>exact⟨0,by decide,rfl,Below.refl _ _,.inl ⟨rfl,rfl,rfl⟩⟩
 case round=>
  obtain⟨k,hk,rfl,hBw,hs⟩:=hrel;have HBw:=Ab hBw;clear hBw
  by_cases h3:k=3
  . subst h3
    rcases hs with ⟨h,_⟩|⟨_,g,c,out,rfl,rfl,hg,hby,hI⟩
    . omega
    . have HF:=Ab (And.intro hg (And.intro hby hI));clear hg hby hI;go_wp2;go_ret3;exact⟨g,c,out,rfl,(Aa HF).1,(Aa HF).2.1,(Aa HF).2.2,Aa HBw⟩
  . have hk2:k<=2:=by omega
    have hz:=(Aa HBw).size;have HCk:=Ab (fun T U=>Aa HC wr k hk2 (Aa HBw) T U);clear HC
    rcases hs with ⟨rfl,rfl,rfl⟩|⟨h0,g,c,out,rfl,rfl,hg,hby,hI⟩
    . have hix:=Z55;go_wp2_with fail
      refine(Aa HCk _ _).mono ?_;rintro e w1 ⟨g1,c1,out1,rfl,hg1,hby1,hI1,hB1⟩;have HF:=Ab (And.intro hg1 (And.intro hby1 (And.intro hI1 ((Aa HBw).trans (hB1.mono hz)))));have e1:bestP bs 1=0:=rfl;clear hg1 hby1 hI1 hB1;go_wp2;rename_i hKK
      refine hKK _ _ ?_;simp only[Act.put,VA,VD,VE,Option.isNone];clear hKK;go_wp2;go_roundw
      case rel=>exact⟨1,by decide,by go_num,(Aa HF).2.2.2,.inr ⟨by decide,g1,c1,out1,by rw[e1],by rw[e1];rfl,(Aa HF).1,(Aa HF).2.1,by rw[e1];exact(Aa HF).2.2.1⟩⟩
      case measure=>simp[intOf]
    . have HS:=Ab (And.intro hg (And.intro hby hI));have hix:=Z63 k hk2;have hbp:=Nl bs k h0;clear hg hby hI;have hqI:(k:Int)<3:=by omega
      obtain⟨B,hBB⟩:∃B,bestP bs k=B:=⟨_,rfl⟩
      rw[hBB]at hbp HS ⊢;obtain⟨l1,hl1⟩:∃l1,DE bs k=l1:=⟨_,rfl⟩
      obtain⟨l2,hl2⟩:∃l2,DE bs B=l2:=⟨_,rfl⟩
      rw[hl1,hl2]at hbp;rw[hl1]at HCk;rw[hl2];have HBP:=Ab hbp;have HL1:=Ab hl1;have HL2:=Ab hl2;clear hbp hl1 hl2 hBB;go_wp2_with fail
      refine(Aa HCk _ _).mono ?_;rintro e w1 ⟨g1,c1,out1,rfl,hg1,hby1,hI1,hB1⟩;have HF:=Ab (And.intro hg1 (And.intro hby1 (And.intro hI1 ((Aa HBw).trans (hB1.mono hz)))));have HK:=Ab (And.intro (VG (Aa HS).1 hB1.size) ((Aa HS).2.1.below hB1 (Aa HS).1));clear hg1 hby1 hI1 hB1
      by_cases hlt:l1<l2
      . have hltI:(l1:Int)<(l2:Int):=by omega
        have hb:Hid (bestP bs (k+1)=k):=Ab (by rw[Aa HBP,if_pos hlt]);clear hlt;go_wp2;rename_i hKK
        refine hKK _ _ ?_;simp only[Act.put,VA,VD,VE];clear hKK;go_wp2;go_roundw
        case rel=>exact⟨k+1,by omega,by go_num,(Aa HF).2.2.2,.inr ⟨by omega,g1,c1,out1,by rw[Aa hb,Aa HL1],by rw[Aa hb],(Aa HF).1,(Aa HF).2.1,by rw[Aa hb];exact(Aa HF).2.2.1⟩⟩
        case measure=>simp[intOf];omega
      . have hltI:¬(l1:Int)<(l2:Int):=by omega
        have hb:Hid (bestP bs (k+1)=B):=Ab (by rw[Aa HBP,if_neg hlt]);clear hlt;go_wp2;rename_i hKK
        refine hKK _ _ ?_;simp only[Act.put,VA,VD,VE];clear hKK;go_wp2;go_roundw
        case rel=>exact⟨k+1,by omega,by go_num,(Aa HF).2.2.2,.inr ⟨by omega,g,c,out,by rw[Aa hb,Aa HL2],by rw[Aa hb],(Aa HK).1,(Aa HK).2,by rw[Aa hb];exact(Aa HS).2.2⟩⟩
        case measure=>simp[intOf];omega
theorem Z2r (bs:List Nat):bestP bs 3<=2:=by
 rw[Nl bs 2 (by decide)]
 split
 . decide
 . rw[Nl bs 1 (by decide)]
   split
   . decide
   . exact(by decide:0<=2)
theorem QE {bs out:List Nat}{k:Nat}(h:IsOne bs k out)(hk:k<=2)(hx:∀j,bs.getD j 0<256)(hn:bs.length<=3000)(T:List Nat)(q:Nat):(Db (rowB (out++T) (out.length+q))).out=bs/\(Db (rowB (out++T) (out.length+q))).e=0/\((Db (rowB (out++T) (out.length+q))).p+7)/8=out.length:=by
 have hit:Eo [bs] [(k:Int)]= [(bs,k)]:=by simp[Eo]
 have hpk:=Zm bs k;rw[hit]at hpk
 have hun:=FU [(bs,k)] (List.replicate (freeN (Ka [] bs k true).length) false++rowB T q) (by simp) (fun i hi=>by
  simp at hi
  subst hi;exact⟨hk,hx⟩) (by simpa using hn)
 rw[hpk]at hun
 have hrow:rowB (out++T) (out.length+q)=Ka [] bs k true++(List.replicate (freeN (Ka [] bs k true).length) false++rowB T q):=by
  rw[Ot,h.row];unfold oneB padB;rw[VH]
 rw[<-hrow]at hun;have hiu:=Nd (rowB (out++T) (out.length+q)) (by rw[hun]);rw[hiu,hun];refine⟨by simp,rfl, ?_⟩;have h2:=congrArg List.length h.row;unfold oneB at h2;rw[Ai,Cj]at h2;have h3:=Ju (Ka [] bs k true).length;have h4:=Lz (Ka [] bs k true).length;show ((Ka [] bs k true).length+7)/8=out.length
 omega
end Go.Proofs.YtleocpdblhbimaaGreatDoor
