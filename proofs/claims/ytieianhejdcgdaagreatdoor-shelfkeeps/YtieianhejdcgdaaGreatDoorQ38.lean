import Derived.Test.YtieianhejdcgdaaGreatDoorQ37
import Derived.Test.YtieianhejdcgdaaGreatDoorQ36
set_option linter.unusedSimpArgs false
set_option maxHeartbeats 1000000
namespace Go.Proofs.YtieianhejdcgdaaGreatDoor
set_option linter.unusedVariables false
set_option maxRecDepth 100000
theorem Sb (X:List Nat)(d:Nat):∀(n:Nat) (acc:List Nat),1<=d->d<=acc.length->Me (X++acc) d n=X++Me acc d n
 |0,acc,_,_=>rfl
 |n+1,acc,h1,h2=>by
  rw[Me,Me]
  have e:(X++acc).getD ((X++acc).length-d) 0=acc.getD (acc.length-d) 0:=by
   simp only[List.getD,VB];rw[VY (by omega),show X.length+acc.length-d-X.length=acc.length-d by omega]
  rw[e,VJ,Sb X d n _ h1 (by simp;omega)]
theorem DT (X acc:List Nat)(t:Tk)(h:Cu t acc.length=0):A4 t (X++acc)=X++A4 t acc:=by
 unfold A4
 rcases Dv h with ⟨a,b⟩|⟨a,b,c,d,e⟩
 . rw[if_pos a,if_pos a,VJ]
 . rw[if_neg (by omega),if_neg (by omega),Sb X _ _ acc (by omega) (by omega)]
theorem U8 {t:Tk}{n:Nat}(x:Nat)(h:Cu t n=0):Cu t (x+n)=0:=by
 unfold Cu
 rcases Dv h with ⟨a,b⟩|⟨a,b,c,d,e⟩
 . rw[if_pos ⟨a,b⟩]
 . rw[if_neg (by omega),if_neg (by rintro (h1|h1);omega;exact h1 a),if_neg (by omega),if_neg (by omega)]
theorem Uy (X:List Nat):∀(ts:List Tk) (acc:List Nat),Mh ts acc.length=0->Tg ts (X++acc)=X++Tg ts acc
 | [],acc,_=>rfl
 |t::ts,acc,h=>by
  rw[Mh]at h
  by_cases e:Cu t acc.length=0
  . rw[if_pos e]at h;rw[Tg,Tg,DT X acc t e,Uy X ts _ (by rw[Hl];exact h)]
  . rw[if_neg e]at h;exact absurd h e
theorem L5 (x:Nat):∀(ts:List Tk) (acc:List Nat),Mh ts acc.length=0->x+(Tg ts acc).length<=3000->Mh ts (x+acc.length)=0
 | [],acc,_,h=>by
  rw[Tg]at h;rw[Mh,if_neg (by omega)]
 |t::ts,acc,h,h2=>by
  rw[Mh]at h
  by_cases e:Cu t acc.length=0
  . rw[if_pos e]at h;rw[Tg]at h2;have:=L5 x ts (A4 t acc) (by rw[Hl];exact h) h2
    rw[Hl,<-WJ]at this;rw[Mh,if_pos (U8 x e)];exact this
  . rw[if_neg e]at h;exact absurd h e
theorem O8 {bs out:List Nat}(h:out.length+bs.length<=3000):Mh (Dm bs) out.length=0/\Tg (Dm bs) out=out++bs:=by
 have c:=Z2 bs (by omega);have e:=QW bs;refine⟨?_, ?_⟩
 . have:=L5 out.length (Dm bs) [] c (by rw[e];exact h)
   simpa using this
 . have:=Uy out (Dm bs) [] c
   rw[e,WO]at this;exact this
theorem Rt:∀(bs out:List Nat),out.length+bs.length<=3000->Mh (Dq bs) out.length=0/\Tg (Dq bs) out=out++bs
 | [],out,h=>by
  simp only[VQ]at h;refine⟨?_,by simp[Dq,Tg]⟩;show Mh [] out.length=0
  rw[Mh,if_neg (by omega)]
 |b::bs,out,h=>by
  simp only[VH]at h;have e1:Dq (b::bs)=(b,0,0)::Dq bs:=rfl;have e2:Cu (b,0,0) out.length=0:=by unfold Cu;rw[if_pos ⟨rfl,rfl⟩]
  have e3:wid (b,0,0)=1:=by unfold wid;rw[if_pos rfl]
  have e4:A4 (b,0,0) out=out++ [b]:=by unfold A4;rw[if_pos rfl]
  obtain⟨h1,h2⟩:=Rt bs (out++ [b]) (by simp;omega);rw[e1,Mh,if_pos e2,e3,Tg,e4,h2];refine⟨?_,by simp⟩;simpa using h1
theorem AD (a b:List Int)(hA:Good a):∀ts:List Tk,Has a b (itsOf ts)->ts.length+1<=(putIs a b (itsOf ts)).length
 | [],h=>by
  have hp:putIs a b (itsOf [])=An a 256:=by simp[putIs,KP,itsOf,Oj]
  obtain⟨k1,k2⟩:=h.1 256 (by simp[itsOf]);rw[hp,Fh a hA,VQ];omega
 |t::ts,h=>by
  have ei:itsOf (t::ts)=Nu t++itsOf ts:=by simp[itsOf,Oj]
  rw[ei]at h ⊢;have ih:=AD a b hA ts h.app.2
  have h1:1<=(putIs a b (Nu t)).length:=by
   have hh:=h.app.1;unfold Nu at hh ⊢
   by_cases e:t.2.1=0
   . rw[if_pos e]at hh ⊢;obtain⟨k1,k2⟩:=hh.1 t.1 (by simp);simp only[putIs,KP,XU,List.flatMap_nil,VB,Fh a hA];omega
   . rw[if_neg e]at hh ⊢;obtain⟨k1,k2⟩:=hh.1 (Cd t.2.1.toNat).1 (by simp);simp only[putIs,KP,XU,VB,Fh a hA];omega
  rw[Qq,VB,VH];omega
theorem TT {ts:List Tk}(hV:∀t∈ts,VT t):Has Mn Ic (itsOf ts):=by
 have hi:=Hr hV;have a1:(List.range 286).all (fun k=>decide (k<Mn.length/\0<Mn.getD k 0))=true:=by decide+kernel
 have a2:(List.range 30).all (fun k=>decide (k<Ic.length/\0<Ic.getD k 0))=true:=by decide+kernel
 refine⟨fun k hk=> ?_,fun k hk=> ?_⟩
 . have h:k<286:=hi _ hk;exact of_decide_eq_true (WS.1 a1 k (by simpa using h))
 . have h:k<30:=hi _ hk;exact of_decide_eq_true (WS.1 a2 k (by simpa using h))
theorem Z45 (S:List Bool)(bs:List Nat)(k:Nat)(l:Bool):∃X,Ko S bs k l=S++X:=by
 unfold Ko Ia
 split
 . exact⟨_,by simp only[VJ];rfl⟩
 . split
   . exact⟨_,by simp only[VJ];rfl⟩
   . exact⟨_,by simp only[VJ];rfl⟩
theorem AN:∀(its:List (List Nat×Nat)) (S:List Bool),∃X,Gc its S=S++X
 | [],S=>⟨[],by simp[Gc]⟩
 | (bs,k)::r,S=>by
  rw[Gc];obtain⟨X,hX⟩:=AN r (Ko S bs k (decide (r= [])));obtain⟨Y,hY⟩:=Z45 S bs k (decide (r= []));exact⟨Y++X,by rw[hX,hY,VJ]⟩
theorem S6 (l:Bool):Ah (if l then 1 else 0) 1= [l]:=by cases l<;>rfl
theorem IW (S:List Bool)(bs:List Nat)(k:Nat)(l:Bool)(row R:List Bool)(u:US)(hrow:row=Ko S bs k l++R)(hp:u.p=S.length)(he:u.e=0)(hk:k<=2)(hb:∀j,bs.getD j 0<256)(hl:u.out.length+bs.length<=3000):
 Fc row u=(l,{u with p:=(Ko S bs k l).length,out:=u.out++bs,ks:=u.ks++ [k]}):=by
 obtain⟨S2,hS2⟩:∃S2,S++ [l]++Ah k 2=S2:=⟨_,rfl⟩
 have l2:S2.length=S.length+3:=by rw[<-hS2];simp[Ae]
 have hpre:∃X,Ko S bs k l=S2++X/\(k=0->Ko S bs k l=Ia S2 bs)/\(k=1->X=Gf (Dm bs))/\(k=2->X=BZ bs):=by
  unfold Ko;rw[hS2]
  by_cases h0:k=0
  . rw[if_pos h0];exact⟨_,by unfold Ia;simp only[VJ];rfl,fun _=>rfl,fun h=>by omega,fun h=>by omega⟩
  . rw[if_neg h0]
    by_cases h1:k=1
    . rw[if_pos h1];exact⟨_,rfl,fun h=>by omega,fun _=>rfl,fun h=>by omega⟩
    . rw[if_neg h1];exact⟨_,rfl,fun h=>by omega,fun h=>by omega,fun _=>rfl⟩
 obtain⟨X,hX,hX0,hX1,hX2⟩:=hpre;have hlen:row.length=S2.length+X.length+R.length:=by rw[hrow,hX];simp only[VB]
 have d0:row.drop u.p=Ah (if l then 1 else 0) 1++(Ah k 2++(X++R)):=by
  rw[hrow,hX,hp,<-hS2,S6];simp only[VJ];rw[List.drop_left]
 have c1:=Ed row 1 (if l then 1 else 0) u _ he (by omega) (by cases l<;>decide) d0;have d1:=Bc d0;rw[Ae]at d1;have c2:=Ed row 2 k {u with p:=u.p+1} _ he (by simp only;omega) (by omega) d1;have d2:=Bc d1;rw[Ae]at d2;have hl1:decide ((if l then 1 else 0)=1)=l:=by cases l<;>rfl
 unfold Fc;simp only[c1,c2];rw[if_neg (show ¬(u.e≠0) from fun h9=>h9 he)]
 by_cases h0:k=0
 . subst h0;rw[if_pos rfl,hl1];have hst:=hX0 rfl;have hfr:=Jq S2.length
   have hal:(u.p+1+2+7)/8*8=(padB S2).length:=by
    rw[Cm,hp,show S.length+1+2=S2.length by omega];have:=Iy S2.length
    first|omega|skip
   have hsl:(Ia S2 bs).length=(padB S2).length+32+8*bs.length:=by
    unfold Ia padB;simp only[VB,Ae,Ag,XT]
   have hrl:row.length=(padB S2).length+32+8*bs.length+R.length:=by rw[hrow,hst,VB,hsl]
   have d3:row.drop (padB S2).length=Ah bs.length 16++(Ah (65535-bs.length) 16++(rowB bs bs.length++R)):=by
    rw[hrow,hst]
    have e:Ia S2 bs=padB S2++(Ah bs.length 16++(Ah (65535-bs.length) 16++rowB bs bs.length)):=by
     unfold Ia padB;simp only[VJ]
    rw[e,VJ,List.drop_left];simp only[VJ]
   have c3:=Ed row 16 bs.length {u with p:=(padB S2).length} _ he (by simp only;omega) (by omega) d3;have d4:=Bc d3;rw[Ae]at d4;have c4:=Ed row 16 (65535-bs.length) {u with p:=(padB S2).length+16} _ he (by simp only;omega) (by omega) d4;have d5:=Bc d4;rw[Ae]at d5;have c5:=Yp row bs {u with p:=(padB S2).length+16+16} R he (by simp only;omega) hb hl d5;unfold ustored;simp only[hal,c3,c4];rw[if_neg (show ¬(u.e=0/\bs.length+(65535-bs.length)≠65535) by omega),c5,hst,hsl];unfold ukept;simp only[WJ]
   congr 2
   omega
 . rw[if_neg h0]
   have key:∀ts a b (u2:US) (R2:List Bool),u2.e=0->u2.out=u.out->u2.ks=u.ks->u2.p<=row.length->Good a->Good b->(∀t∈ts,VT t)->Has a b (itsOf ts)->(ts=Dm bs\/ts=Dq bs)->row.drop u2.p=putIs a b (itsOf ts)++R2->utok row a b row.length u2= {u with p:=u2.p+(putIs a b (itsOf ts)).length,out:=u.out++bs}:=by
    intro ts a b u2 R2 e2 o2 k2 p2 ga gb hv hh ht hd
    have hbe:Mh ts u2.out.length=0/\Tg ts u2.out=u2.out++bs:=by
     rw[o2]
     rcases ht with rfl|rfl
     . exact O8 hl
     . exact Rt bs u.out hl
    have hge:=AD a b ga ts hh;have hr:=congrArg List.length hd;rw[VO,VB]at hr;rw[II a b ga gb row ts row.length u2 R2 (by omega) e2 p2 hbe.1 (fun t h9=>(hv t h9).1) hh hd,hbe.2,o2,k2,e2,he]
   by_cases h1:k=1
   . subst h1;have hx1:=hX1 rfl;subst hx1;have hV:=Kb hb (by omega:bs.length<=3000);unfold uopen;rw[if_pos rfl];simp only
     rw[if_neg (show ¬(u.e≠0) from fun h9=>h9 he),hl1];have hfl:(Gf (Dm bs)).length=(putIs Mn Ic (itsOf (Dm bs))).length:=rfl;rw[key (Dm bs) Mn Ic {u with p:=u.p+1+2} R he rfl rfl (by simp only;omega) (Ci (by decide+kernel)) (Ci (by decide+kernel)) hV (TT hV) (.inl rfl) d2];unfold ukept;simp only
     rw[hX,VB,hfl]
     congr 2
     omega
   . obtain rfl:k=2:=by omega
     have hx2:=hX2 rfl;subst hx2;obtain⟨ts,a,b,hpl,hd,ho,hv,hlt,hte⟩:=Z3q hb (by omega:bs.length<=3000);rw[hpl]at d2 hX hlen;unfold Gb at d2 hX hlen;rw[VJ]at d2;have hR2:=congrArg List.length d2;rw[VO,VB]at hR2;have t1:=QL a b (N4 (a++b)) row {u with p:=u.p+1+2} _ he (by simp only;omega) hd.ga hd.gb ho.go hd.la hd.la2 hd.lb hd.lb2 ho.lo ho.vo hd.end' ho.has d2;have d6:=Bc d2;have hop:uopen row 2 {u with p:=u.p+1+2}=Db row {u with p:=u.p+1+2}:=rfl;rw[hop,t1];simp only
     rw[if_neg (show ¬(u.e≠0) from fun h9=>h9 he),hl1];rw[key ts a b {u with p:=u.p+1+2+(Jv a b (N4 (a++b))).length} R he rfl rfl (by simp only;omega) hd.ga hd.gb hv hd.has (hte 0 (by omega) [] rfl) d6];unfold ukept;simp only
     rw[hX,VB,VB]
     congr 2
     omega
theorem Sg (row R:List Bool):∀(its:List (List Nat×Nat)) (S:List Bool) (u:US) (f:Nat),its≠ []->its.length<=f->row=Gc its S++R->u.p=S.length->u.e=0->(∀i∈its,i.2<=2/\∀j,i.1.getD j 0<256)->u.out.length+(its.flatMap Prod.fst).length<=3000->
 Ei row f u= {u with p:=(Gc its S).length,out:=u.out++its.flatMap Prod.fst,ks:=u.ks++its.map Prod.snd}
 | [],S,u,f,h,_,_,_,_,_,_=>absurd rfl h
 | (bs,k)::r,S,u,f,_,hf,hrow,hp,he,hi,hl=>by
  obtain⟨f',rfl⟩:∃f',f=f'+1:=⟨f-1,by simp at hf;omega⟩
  rw[XU,VB]at hl;simp only at hl
  obtain⟨hk,hb⟩:=hi (bs,k) (by simp);rw[Gc]at hrow ⊢;obtain⟨X,hX⟩:=AN r (Ko S bs k (decide (r= [])));have hb1:=IW S bs k (decide (r= [])) row (X++R) u (by rw[hrow,hX,VJ]) hp he hk hb (by omega)
  by_cases e:r= []
  . subst e;rw[Ei,hb1];simp[Gc]
  . rw[decide_eq_false e]at hb1 hrow ⊢;rw[Ei,hb1];simp only
    rw[if_pos (by simpa using he),Sg row R r (Ko S bs k false) {u with p:=(Ko S bs k false).length,out:=u.out++bs,ks:=u.ks++ [k]} f' e (by simp at hf;omega) hrow rfl he (fun i h9=>hi i (by simp[h9])) (by simp only[VB];omega)];simp[XU]
theorem AO:∀(its:List (List Nat×Nat)) (S:List Bool),S.length+3*its.length<=(Gc its S).length
 | [],S=>by simp[Gc]
 | (bs,k)::r,S=>by
  rw[Gc,VH];have h1:=AO r (Ko S bs k (decide (r= [])))
  have h2:S.length+3<=(Ko S bs k (decide (r= []))).length:=by
   unfold Ko Ia
   split
   . simp only[VB,Ae,VH,VQ,XT];omega
   . split<;>simp only[VB,Ae,VH,VQ]<;>omega
  omega
theorem pdS (its:List (List Nat×Nat))(R:List Bool)(hne:its≠ [])(hi:∀i∈its,i.2<=2/\∀j,i.1.getD j 0<256)(hl:(its.flatMap Prod.fst).length<=3000):
 Z65 (Gc its []++R)=⟨(Gc its []).length,its.flatMap Prod.fst,its.map Prod.snd,0⟩:=by
 have h1:=AO its [];unfold Z65;rw[Sg (Gc its []++R) R its [] ⟨0,[],[],0⟩ _ hne (by rw[VB];simp at h1;omega) rfl rfl rfl hi (by simpa using hl)];simp
end Go.Proofs.YtieianhejdcgdaaGreatDoor
namespace Go.Proofs.YtieianhejdcgdaaGreatDoor
set_option linter.unusedVariables false
theorem Rc (row:List Bool):∀(k:Nat) (x:US),x.out.length<=3000->3000<x.out.length+k->(ustore row k x).e≠0
 |0,x,h1,h2=>by omega
 |k+1,x,h1,h2=>by
  by_cases e:x.e=0
  . unfold ustore;rw[if_pos e];obtain⟨c,y,hg⟩:∃c y,uget row 8 x=(c,y):=⟨_,_,rfl⟩
    have ho:y.out=x.out:=by have:=Cg row 8 x;rw[hg]at this;exact this
    rw[hg];show (ustore row k (Jt c y)).e≠0
    by_cases e2:y.e=0
    . by_cases e3:y.out.length=3000
      . have:Jt c y= {y with e:=2}:=by unfold Jt;rw[if_pos e2,if_pos e3]
        rw[this,Fk _ _ _ (show (2:Int)≠0 by decide)];exact(by decide:(2:Int)≠0)
      . have:Jt c y= {y with out:=y.out++ [c]}:=by unfold Jt;rw[if_pos e2,if_neg e3]
        rw[this];refine Rc row k _ ?_ ?_
        . show (y.out++ [c]).length<=3000
          rw[VB,ho];rw[ho]at e3;simp only[VH,VQ];omega
        . show 3000<(y.out++ [c]).length+k
          rw[VB,ho];simp only[VH,VQ];omega
    . have:Jt c y=y:=by unfold Jt;rw[if_neg e2]
      rw[this,Fk _ _ _ e2];exact e2
  . rw[Fk _ _ _ e];exact e
theorem ER (row:List Bool)(u:US)(ho:u.out.length<=3000)(h:(ustored row u).e=0):Cs row u=ustored row u:=by
 have hx:ustored row u=ustore row (De row u).1 (De row u).2:=rfl
 have h1:(De row u).2.out=u.out:=by
  unfold De;dsimp only
  split
  . unfold Ay
    split
    . show (uget row 16 _).2.out=_
      rw[Cg,Cg]
    . rw[Cg,Cg]
  . rw[Cg,Cg]
 unfold Cs;dsimp only;rw[if_neg,hx];rintro ⟨_,h3⟩;rw[hx]at h;exact Rc row _ _ (by rw[h1];exact ho) h3 h
end Go.Proofs.YtieianhejdcgdaaGreatDoor
namespace Go.Proofs.YtieianhejdcgdaaGreatDoor
set_option linter.unusedVariables false
set_option maxRecDepth 100000
theorem Yy {d:Nat}:∀ {n:Nat} {u:US},(ucopy d n u).e=0->u.out.length<=3000->u.out.length+n<=3000
 |0,u,h,ho=>by omega
 |n+1,u,h,ho=>by
  have he:=Pz h;rw[ucopy,if_pos he]at h;obtain⟨_,h2,h3⟩:=Yt (Pz h);rw[h3]at h;have ih:=Yy h (by simp only[VB,VH,VQ];omega);simp only[VB,VH,VQ]at ih;omega
theorem Jn (row:List Bool)(a b:List Int):∀(F F':Nat) (u:US),(utok row a b F u).e=0->row.length+1<=u.p+F->row.length+1<=u.p+F'->u.p<=row.length->u.out.length<=3000->Ib row a b F' u=utok row a b F u
 |0,F',u,h,h1,h2,hp,ho=>by omega
 |F+1,0,u,h,h1,h2,hp,ho=>by omega
 |F+1,F'+1,u,h,h1,h2,hp,ho=>by
  obtain⟨t,x,hT,e⟩:=Tl h;obtain⟨a1,a2,a3,a4,a5⟩:=hT.ahead;rw[e]at h ⊢;rw[Jo]
  cases hT with
  |stop v g1 g2=>
   simp[g1,g2]
  |byte c x g1 g2 g3 g4=>
   have hx:x.out.length<=3000:=by
    have:=Di g1 g2
    rw[this.2.2.1];exact ho
   have hs:Cv row b c x= {x with out:=x.out++ [c]}:=by
    unfold Cv;rw[if_pos g3,if_neg (by omega)]
   rw[g1];simp only
   rw[if_neg (fun h=>h g2),if_neg (by omega),hs,if_neg (fun h=>h g2),if_pos trivial];rw[if_pos rfl]at h;exact Jn row a b F F' _ h (by omega) (by omega) a2 (a5 ho)
  |same k n0 f d0 x1 x2 x3 x4 _ g1 g2 g3 g4 g5 g6 g7 g8 g9 g10 g11 g12 g13 g14=>
   have p1:=Di g1 g2;have p2:=Br g5 g6;have p3:=Di g7 g8;have p4:=Br g10 g11;have hx4:x4.out.length<=3000:=by rw[p4.2.2.1,p3.2.2.1,p2.2.2.1,p1.2.2.1];exact ho
   have hfit:=Yy (by rw[g13];exact g14:(ucopy ((farsL.getD f (0,0)).1+d0) ((samesL.getD (k-257) (0,0)).1+n0) x4).e=0) hx4
   have hs:Cv row b k x1=x:=by
    unfold Cv;rw[if_neg (by omega),if_neg (by omega),LZ k g3 g4,g5];simp only
    have hh:Ok row b x2=((farsL.getD f (0,0)).1+d0,x4):=by
     unfold Ok;rw[g7];simp only
     rw[if_neg (fun h=>h g8),if_neg (by omega),MD f g9,g10]
    rw[if_neg (fun h=>h g6),hh];simp only
    rw[if_neg (fun h=>h g11)];unfold Ju;rw[if_neg (by omega),if_neg (by omega),g13]
   rw[g1];simp only
   rw[if_neg (fun h=>h g2),if_neg (by omega),hs,if_neg (fun h=>h g14),if_pos trivial];rw[if_pos rfl]at h;exact Jn row a b F F' _ h (by omega) (by omega) a2 (a5 ho)
theorem Y7 (row:List Bool)(u:US):(uget row 1 u).1<2:=by
 have:=PY row 1 u
 simpa using this
theorem MY {row:List Bool}{u x:US}{t:Bool}(h:Blk1R row u t x)(hp:u.p<=row.length)(ho:u.out.length<=3000):∃l,l<2/\t=decide (l=1)/\Bv row u=(l,x):=by
 cases h with
 |stored l x1 x2 h1 h2 h3 h4=>
  obtain⟨q2,q2l,q2o,q2k,q2e⟩:=Br h2 h3;obtain⟨q1,q1l,q1o,q1k,_⟩:=Br h1 q2e;have hl:=Y7 row u;rw[h1]at hl;refine⟨l,hl,rfl, ?_⟩;unfold Bv;rw[h1];simp only
  rw[if_neg (fun h=>h q2e),h2];simp only
  rw[if_neg (fun h=>h h3)];unfold Dw Lr;rw[if_pos rfl,ER row x2 (by rw[q2o,q1o];exact ho) h4,if_pos h4]
 |coded l k x1 x2 x3 a b h1 h2 h3 h4 h5 h6 h7=>
  obtain⟨q2,q2l,q2o,q2k,q2e⟩:=Br h2 h3;obtain⟨q1,q1l,q1o,q1k,_⟩:=Br h1 q2e;have hl:=Y7 row u;rw[h1]at hl;have hx2:x2.out.length<=3000:=by rw[q2o,q1o];exact ho
  refine⟨l,hl,rfl, ?_⟩;unfold Bv;rw[h1];simp only
  rw[if_neg (fun h=>h q2e),h2];simp only
  rw[if_neg (fun h=>h h3)]
  rcases h4 with h4|h4
  . subst h4;unfold uopen at h5;rw[if_pos rfl]at h5;have e1:=(VU h5).2;have e2:=VU (VU h5).1;subst e1;rw[<-e2.1,<-e2.2]at h7 ⊢;unfold Dw Lr;rw[if_neg (by decide),if_pos rfl,Jn row Mn Ic row.length (row.length+1) x2 h7 (by omega) (by omega) q2l hx2,if_pos h7]
  . subst h4;unfold uopen at h5;rw[if_neg (by decide),if_pos rfl]at h5;obtain⟨m0,n0,c0,v1,v2,v3,us,S0,L0,hTD⟩:=Je h5 h6;obtain⟨t1,t2,t3,t4⟩:=Vq hTD q2l;unfold Dw Lr;rw[if_neg (by decide),if_neg (by decide),if_pos rfl,h5];simp only
    rw[if_neg (fun h=>h h6),Jn row a b row.length (row.length+1) x3 h7 (by omega) (by omega) t2 (by rw[t3];exact hx2),if_pos h7]
theorem Us (row:List Bool):∀(F:Nat) (u:US),(Ei row F u).e=0->u.p<=row.length->u.out.length<=3000->Ce row F u=Ei row F u
 |0,u,h,hp,ho=>rfl
 |F+1,u,h,hp,ho=>by
  obtain⟨t,x,hB,e⟩:=Vv h;obtain⟨a1,a2,a3,a4,a5⟩:=hB.ahead;obtain⟨l,hl,ht,hi⟩:=MY hB hp ho;rw[e]at h ⊢;rw[Ce,hi];simp only
  by_cases hl0:l=0
  . have htf:t=false:=by rw[ht,hl0];rfl
    rw[if_pos ⟨hl0,a3⟩,if_pos htf];rw[if_pos htf]at h;exact Us row F x h a2 (a5 ho)
  . have htt:¬t=false:=by rw[ht,show l=1 by omega];decide
    rw[if_neg (fun h=>hl0 h.1),if_neg htt]
theorem EO (row:List Bool)(h:(Z65 row).e=0):Dd row=Z65 row:=Us row _ _ h (VM _) (by simp[US0])
end Go.Proofs.YtieianhejdcgdaaGreatDoor
namespace Go.Proofs.YtieianhejdcgdaaGreatDoor
open Go.RowKit
set_option linter.unusedVariables false
set_option maxRecDepth 100000
theorem Z6x (W:World):(Instr.index 140 (.agg #[.int .i64 0,.int .i64 1,.int .i64 2]) (.int .i64 0)).run Tryz.prog W=.ok (.int .i64 0) W:=by kernel_rfl
theorem Z7k (W:World):(Instr.index 140 (.agg #[.int .i64 0,.int .i64 1,.int .i64 2]) (.int .i64 1)).run Tryz.prog W=.ok (.int .i64 1) W:=by kernel_rfl
theorem Z7j (W:World):(Instr.index 140 (.agg #[.int .i64 0,.int .i64 1,.int .i64 2]) (.int .i64 2)).run Tryz.prog W=.ok (.int .i64 2) W:=by kernel_rfl
theorem Z7i (k:Nat)(hk:k<=2)(W:World):(Instr.index 140 (.agg #[.int .i64 0,.int .i64 1,.int .i64 2]) (.int .i64 (k:Int))).run Tryz.prog W=.ok (.int .i64 (k:Int)) W:=by
 rcases(by omega:k=0\/k=1\/k=2)with rfl|rfl|rfl
 . exact Z6x W
 . exact Z7k W
 . exact Z7j W
theorem Nk (bs:List Nat)(k:Nat)(h:0<k):bestP bs (k+1)=if EI bs k<EI bs (bestP bs k)then k else bestP bs k:=by
 obtain⟨q,rfl⟩:∃q,k=q+1:=⟨k-1,by omega⟩
 rfl
theorem Z62 (a:Option Addr)(n cap:Nat)(bs:List Nat)(w:World)(hl:bs.length=n)(hcap:n<=cap)(hnil:a=none->cap=0)(hB:BytesIn w a bs)(hx:∀j,bs.getD j 0<256)(hm:n<=9223372036854775807)(hn:3000<n):
 Calls Tryz.prog 62 #[.slice a n cap] w fun e w'=>e=.returned (.tuple #[.slice none 0 0,.int .i64 0,.int .i64 2])/\Below w.heap.size w w':=by
 have HC:=Ab (fun T U=>SF a n cap 0 bs w T U hl hcap hnil hB hx hm hn);clear hB hx hnil;go_enter Tryz.func62,Tryz.ntmps62
 go_wp2;go_loopw [2,3,10] (fun v2 v3 v10 wr=>v2=.slice none 0 0/\v3=.int .i64 0/\v10=.int .i64 0/\wr=w) (fun _ _ _ _=>0)
 case atStart=>exact⟨rfl,rfl,rfl,rfl⟩
 case round=>
  obtain⟨rfl,rfl,rfl,rfl⟩:=hrel;have hix:=Z6x;go_wp2_with fail
  refine(Aa HC _ _).mono ?_;rintro e w1 ⟨rfl,hB1⟩;have HB1:=Ab hB1;clear hB1;go_wp2;go_ret3;exact⟨rfl,Aa HB1⟩
theorem Z48 (a:Option Addr)(n cap:Nat)(bs:List Nat)(w:World)(hl:bs.length=n)(hcap:n<=cap)(hnil:a=none->cap=0)(hB:BytesIn w a bs)(hx:∀j,bs.getD j 0<256)(hn:n<=3000):
 Calls Tryz.prog 62 #[.slice a n cap] w fun e w'=>∃g c out,e=.returned (.tuple #[.slice (some ⟨g,0,none⟩) (EI bs (bestP bs 3)) c,.int .i64 (bestP bs 3:Nat),.int .i64 0])/\g<w'.heap.size/\Bytes w' g 0 out/\IsOne bs (bestP bs 3) out/\Below w.heap.size w w':=by
 have HC:=Ab (fun(W:World) (k:Nat) (hk:k<=2) (hW:Below w.heap.size w W) T U=>Z5b a n cap k bs W T U hl hcap hnil (hB.below hW (VC _)) hx hn hk);clear hB hx hnil;have hI0:(#[Value.int .i64 0,Value.int .i64 1,Value.int .i64 2]:Array Value).size=3:=rfl;go_enter Tryz.func62,Tryz.ntmps62
 go_wp2;go_loopw [2,3,10] (fun v2 v3 v10 wr=>∃k:Nat,k<=3/\v10=.int .i64 (k:Int)/\Below w.heap.size w wr/\((k=0/\v2=.slice none 0 0/\v3=.int .i64 0)\/ (0<k/\∃g c out,v2=.slice (some ⟨g,0,none⟩) (EI bs (bestP bs k)) c/\v3=.int .i64 (bestP bs k:Nat)/\g<wr.heap.size/\Bytes wr g 0 out/\IsOne bs (bestP bs k) out))) (fun _ _ v10 _=>3-(intOf v10).toNat)
 case atStart=>exact⟨0,by decide,rfl,Below.refl _ _,.inl ⟨rfl,rfl,rfl⟩⟩
 case round=>
  obtain⟨k,hk,rfl,hBw,hs⟩:=hrel;have HBw:=Ab hBw;clear hBw
  by_cases h3:k=3
  . subst h3
    rcases hs with ⟨h,_⟩|⟨_,g,c,out,rfl,rfl,hg,hby,hI⟩
    . omega
    . have HF:=Ab (And.intro hg (And.intro hby hI));clear hg hby hI;go_wp2;go_ret3;exact⟨g,c,out,rfl,(Aa HF).1,(Aa HF).2.1,(Aa HF).2.2,Aa HBw⟩
  . have hk2:k<=2:=by omega
    have hz:=(Aa HBw).size;have HCk:=Ab (fun T U=>Aa HC wr k hk2 (Aa HBw) T U);clear HC
    rcases hs with ⟨rfl,rfl,rfl⟩|⟨h0,g,c,out,rfl,rfl,hg,hby,hI⟩
    . have hix:=Z6x;go_wp2_with fail
      refine(Aa HCk _ _).mono ?_;rintro e w1 ⟨g1,c1,out1,rfl,hg1,hby1,hI1,hB1⟩;have HF:=Ab (And.intro hg1 (And.intro hby1 (And.intro hI1 ((Aa HBw).trans (hB1.mono hz)))));have e1:bestP bs 1=0:=rfl;clear hg1 hby1 hI1 hB1;go_wp2;rename_i hKK
      refine hKK _ _ ?_;simp only[Act.put,VA,VD,VE,Option.isNone];clear hKK;go_wp2;go_roundw
      case rel=>exact⟨1,by decide,by go_num,(Aa HF).2.2.2,.inr ⟨by decide,g1,c1,out1,by rw[e1],by rw[e1];rfl,(Aa HF).1,(Aa HF).2.1,by rw[e1];exact(Aa HF).2.2.1⟩⟩
      case measure=>simp[intOf]
    . have HS:=Ab (And.intro hg (And.intro hby hI));have hix:=Z7i k hk2;have hbp:=Nk bs k h0;clear hg hby hI;have hqI:(k:Int)<3:=by omega
      obtain⟨B,hBB⟩:∃B,bestP bs k=B:=⟨_,rfl⟩
      rw[hBB]at hbp HS ⊢;obtain⟨l1,hl1⟩:∃l1,EI bs k=l1:=⟨_,rfl⟩
      obtain⟨l2,hl2⟩:∃l2,EI bs B=l2:=⟨_,rfl⟩
      rw[hl1,hl2]at hbp;rw[hl1]at HCk;rw[hl2];have HBP:=Ab hbp;have HL1:=Ab hl1;have HL2:=Ab hl2;clear hbp hl1 hl2 hBB;go_wp2_with fail
      refine(Aa HCk _ _).mono ?_;rintro e w1 ⟨g1,c1,out1,rfl,hg1,hby1,hI1,hB1⟩;have HF:=Ab (And.intro hg1 (And.intro hby1 (And.intro hI1 ((Aa HBw).trans (hB1.mono hz)))));have HK:=Ab (And.intro (VK (Aa HS).1 hB1.size) ((Aa HS).2.1.below hB1 (Aa HS).1));clear hg1 hby1 hI1 hB1
      by_cases hlt:l1<l2
      . have hltI:(l1:Int)<(l2:Int):=by omega
        have hb:Hid (bestP bs (k+1)=k):=Ab (by rw[Aa HBP,if_pos hlt]);clear hlt;go_wp2;rename_i hKK
        refine hKK _ _ ?_;simp only[Act.put,VA,VD,VE];clear hKK;go_wp2;go_roundw
        case rel=>exact⟨k+1,by omega,by go_num,(Aa HF).2.2.2,.inr ⟨by omega,g1,c1,out1,by rw[Aa hb,Aa HL1],by rw[Aa hb],(Aa HF).1,(Aa HF).2.1,by rw[Aa hb];exact(Aa HF).2.2.1⟩⟩
        case measure=>simp[intOf];omega
      . have hltI:¬(l1:Int)<(l2:Int):=by omega
        have hb:Hid (bestP bs (k+1)=B):=Ab (by rw[Aa HBP,if_neg hlt]);clear hlt;go_wp2;rename_i hKK
        refine hKK _ _ ?_;simp only[Act.put,VA,VD,VE];clear hKK;go_wp2;go_roundw
        case rel=>exact⟨k+1,by omega,by go_num,(Aa HF).2.2.2,.inr ⟨by omega,g,c,out,by rw[Aa hb,Aa HL2],by rw[Aa hb],(Aa HK).1,(Aa HK).2,by rw[Aa hb];exact(Aa HS).2.2⟩⟩
        case measure=>simp[intOf];omega
theorem Z49 (bs:List Nat):bestP bs 3<=2:=by
 rw[Nk bs 2 (by decide)]
 split
 . decide
 . rw[Nk bs 1 (by decide)]
   split
   . decide
   . exact(by decide:0<=2)
theorem SE {bs out:List Nat}{k:Nat}(h:IsOne bs k out)(hk:k<=2)(hx:∀j,bs.getD j 0<256)(hn:bs.length<=3000)(T:List Nat)(q:Nat):(Dd (rowB (out++T) (out.length+q))).out=bs/\(Dd (rowB (out++T) (out.length+q))).e=0/\((Dd (rowB (out++T) (out.length+q))).p+7)/8=out.length:=by
 have hit:Fa [bs] [(k:Int)]= [(bs,k)]:=by simp[Fa]
 have hpk:=B2 bs k;rw[hit]at hpk
 have hun:=pdS [(bs,k)] (List.replicate (freeN (Ko [] bs k true).length) false++rowB T q) (by simp) (fun i hi=>by
  simp at hi
  subst hi;exact⟨hk,hx⟩) (by simpa using hn)
 rw[hpk]at hun
 have hrow:rowB (out++T) (out.length+q)=Ko [] bs k true++(List.replicate (freeN (Ko [] bs k true).length) false++rowB T q):=by
  rw[La,h.row];unfold oneB padB;rw[VJ]
 rw[<-hrow]at hun;have hiu:=EO (rowB (out++T) (out.length+q)) (by rw[hun]);rw[hiu,hun];refine⟨by simp,rfl, ?_⟩;have h2:=congrArg List.length h.row;unfold oneB at h2;rw[Ag,Cm]at h2;have h3:=Jq (Ko [] bs k true).length;have h4:=Iy (Ko [] bs k true).length;show ((Ko [] bs k true).length+7)/8=out.length
 omega
end Go.Proofs.YtieianhejdcgdaaGreatDoor
