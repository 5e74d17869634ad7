import Derived.ProofKit
import Derived.OpenShut
import Derived.ShutString
import Derived.BigQuiet
import Derived.WalkSpells
import Derived.WalkLawsBesides
import Derived.Deep.RegionHeld3
import Derived.Deep.Cut
import Derived.Test.YtleocpdblhbimaaGreatDoorQA
set_option linter.unusedVariables false
set_option linter.unusedSimpArgs false
set_option maxRecDepth 100000
namespace Go.Proofs.YtleocpdblhbimaaGreatDoor
open Go.RowKit
variable {p:Prop}
theorem qA(h:p:=by
 have s7:=Ab (Yv M ak);(have ko:b8.length<=100:=by have:=k6.2;omega);have lz:=Ab dm;have sr:=Ab de;have tg:=g0;have js:=nI;rw[js]at c1;have lv:=Ab (KQ b8 z);(have e4:(nms b8).length=b8.length:=by simp[nms]);have nv:=Ab (λ(W:wd) (a5:MapIs W w.heap.size b8)=>EE a5 z.f.name vr);have og:=Ab (λ(W:wd) (a5:MapIs W w.heap.size b8)=>Z0a a5 z);rw[Db]at og;have p8:vz (∀(y:Fv) (W:wd),FvIn W z->FvIn W y->vu v8 50 #[vf #[vb (B z.f.name),va z.a z.f.bytes.length z.c,so vh z.f.stamp,so vh z.f.node,ve z.f.gone],vf #[vb (B y.f.name),va y.a y.f.bytes.length y.c,so vh y.f.stamp,so vh y.f.node,ve y.f.gone]] W λe w'=>e=vm (so vh (RB z.f y.f))/\vx W.heap.size W w'):=λy W=>Aa sy z y W;clear dm de g0 ak i9 js bm;subst c9;obtain⟨c7,k7⟩:=exq (B z.f.name);rw[k7]at c0 nv og p8;have s3:=Ab k7;clear k7;generalize z.f.bytes.length=di at*;generalize z.f.stamp=d7 at*;generalize z.f.node=d6 at*;generalize z.f.gone=ek at*;have hh:=gJ
 cases kq:fm z.f.name b8 0 with
 |none=>
  obtain⟨a1,a2,mm⟩:=Ov kq;obtain⟨l7,mx,t7⟩:=Bq a1 a2 mm;have f3:=gF;rw[kq]at f3;simp only[RZ,Option.isSome_none,QH]at f3;clear a1 a2 mm kq nv;have jv:=Ab (Ar (Ar hh (vl #[vb ⟨#[]⟩,va vn 0 0,so vh 0,so vh 0,ve vq] 30)) (vl #[vb c7] 9));have jc:=Ab (lz.below jv);(have qw:(((wr.alloc (vl #[vb c7,va z.a di z.c,so vh d7,so vh d6,ve ek] 30)).alloc (vl #[vb ⟨#[]⟩,va vn 0 0,so vh 0,so vh 0,ve vq] 30)).alloc (vl #[vb c7] 9)).cell? ⟨wr.heap.size+1+1,0,vn⟩=vp (vb (B z.f.name)):=by rw[N0 _ _ _ _ (by rw[CL,CL]),Aa s3];rfl);have oo:=Ab qw;clear qw;go_wp2_with (at_builtin;refine Hr _ rfl _ _ rfl w.heap.size _ (nms b8) rfl jc.row (wr.heap.size+1+1) z.f.name rfl oo om oO ?_);intro v' fw az fh;have ei:=Aa fh;have bk:=Ez jc.row jc.map;have lj:=jc.map.grown ei bk;have qt:=Ez az lj;obtain⟨w6,s4,mo,s0⟩:=Aa og fw lj;have fq:∀g,u4.ownBlock=vp g->w.heap.size<=g/\g<wr.heap.size:=λg e=>World.ownsRow.lt lz.row g e;(have dw:fw.heap[wr.heap.size]? =vp (vl #[vb c7,va z.a di z.c,so vh d7,so vh d6,ve ek] 30 (0,0)):=by rw[ei.block _ uD (λe=>by have:=(fq _ e.symm).2;omega),EN _ _ _ uD,EN _ _ _ uD,B2]);have e0:=rU;have Z:=pS;have e2:=rM;have e3:=rO;have sc:=rY
  have m8:vz (I6 w w.heap.size v' (Ji b8 z) w6):=by
   refine⟨by rw[Aa l7,<-Aa mx];exact mo,?_,?_,?_,VA _⟩
   . rw[Aa t7]
     exact az.grown s0 (by
      cases c5:v'.ownBlock with
      |none=>exact .inl rfl
      |some q=>right;rw[<-c5];exact qt.symm)
   exact jT;have py:=ei.size;simp only[CL]at py;exact(jc.bel.grown ei oO (λg e=>(fq g e).1)).grown s0 om (λg e=>by cases e;exact VA _)
  clear ei bk lj qt mo s0 fq dw az fh f3;go_wp2;go_roundw;exact xX;simp[vy];omega
 |some p=>
  obtain⟨a1,a2,mm⟩:=Ou kq;obtain⟨l7,mx,t7⟩:=Bq a1 a2 mm;(have qs:p.2∈b8:=by obtain⟨j,x⟩:=p;obtain⟨_,_,cq,_⟩:=AH kq;exact YR cq);have qq:=Ab (lz.all p.2 qs);have f3:=gF;rw[kq]at f3;simp only[RZ,Option.isSome_some]at f3;obtain⟨q,iw⟩:=exq (p.2);rw[iw]at f3 l7 mx qq;rw[Db]at f3;have qp:=Ab (p8 q);obtain⟨qg,re⟩:=exq (RB z.f q.f);rw[re]at qp l7 mx;clear a1 a2 mm kq nv qs iw re p8;generalize B q.f.name=sd at*;generalize q.f.bytes.length=on at*;generalize q.f.stamp=os at*;generalize q.f.node=od at*;generalize q.f.gone=r9 at*;have jv:=Ab (Ar hh (vl #[vb sd,va q.a on q.c,so vh os,so vh od,ve r9] 30));have jc:=Ab (lz.below jv);go_wp2_with fail;refine(qp _ (lm.below jc.bel (VA _)) (qq.below jc.bel (VA _))).mono ?_;rintro e fw ⟨rfl,nt⟩;have jr:=Ab (jc.below nt);have py:=nt.size;simp only[CL]at py;(have dw:fw.heap[wr.heap.size]? =vp (vl #[vb c7,va z.a di z.c,so vh d7,so vh d6,ve ek] 30 (0,0)):=by rw[nt.block _ oO,EN _ _ _ oS,B2]);have e0:=rU;have Z:=pS;have e2:=rM;have e3:=rO;have sc:=rY;clear nt f3;by_cases qk:0<qg
  . obtain⟨w6,s4,mo,s0⟩:=Aa og fw jr.map;have bk:=Ez jr.row jr.map
    have m8:vz (I6 w w.heap.size u4 (Ji b8 z) w6):=by
     refine⟨by rw[Aa l7 qk];exact mo,?_,?_,jr.bel.grown s0 om (λg e=>by cases e;exact VA _),VA _⟩
     . rw[Aa t7]
       exact jr.row.grown s0 (by
        cases c5:u4.ownBlock with
        |none=>exact .inl rfl
        |some q=>right;rw[<-c5];exact bk.symm)
     exact jT
    clear mo s0 bk dw;go_wp2;go_roundw;exact xX;simp[vy];omega
  . have tc:decide ((0:Int)<qg)=false:=H2 qk;(have m8:vz (I6 w w.heap.size u4 (Ji b8 z) fw):=by rw[Aa mx om];exact Aa jr);clear dw;go_wp2;go_roundw;exact xX;simp[vy];omega):p:=h
theorem qB(h:p:=by go_wp2_with fail;refine(k5 _).mono ?_;rintro e au ⟨o7,rfl,_,bu,_⟩;have dj:=dE;have q6:=bO;have b7:=fW;have bh:=dC;have cq:=dD;have i3:=fX;clear bu;go_wp2;go_ret;exact⟨Bm (by rw[Aa eo];rfl),dj⟩):p:=h
theorem qC(h:p:=by
 have oa:=aa.is;have s8:=aa.below.size;obtain⟨sq,tf,f6,i0,q5,qa,ql,q3,qv,rm⟩:=oa.rows;obtain rfl:sq=va jw L j4:=VK (f6.symm.trans qy);(have qn:gw.ownsRow (b+1) 5 1 (va jw L j4) L (u8s db.out):=by have:=qa;rw[Aa pg]at this;exact this);refine Va 9 λK hK=> ?_;refine step_append_lies _ rfl (.tmp 33) (.tmp 37) 23 rfl (b+1) 5 rv (so vi 0) 1 1 underlying23 r3 s2 se i1 rfl od (va jw L j4) L (u8s db.out) rfl (qn.alloc _) ⟨gw.heap.size,0,vn⟩ 1 1 [so vi gi] rfl rfl (RR _ _ _) (Df rfl) od ou om oO _ rfl ?_;intro rx sk fw e6 q9 ia rz
 obtain⟨bh,ti,q0⟩:=IIs.said (c:=gi) (v':=va (vp ⟨rx,0,vn⟩) (L+1) sk) oa.base oa.no q5 qa ql q3 qv rm (λg af=>Aa mj g om) (by rw[Aa pg];exact e6) q9 (by
  rcases ia with h|h
  . exact .inl h.symm
  . exact .inr (by rw[h];rfl))
 have s5:=Ab (aa.trans q0);refine hK _ _ ?_;clear hK K q0 e6 q9 ia rz qn qa ql q3 qv rm q5 f6 i0 oa;refine E3 10 ?_;refine E3 11 ?_;refine HA 12 ?_;refine wpAny_done oR ?_ _;go_wp2;go_roundw;exact⟨i+1,{db with out:=db.out++ [gi]},om,by go_num,Ab ⟨sg,by show (db.out++ [gi]).length+_<=_;rw[VB,Aa pg];simp only[VG,WE];omega,dw⟩,s5,sb⟩;simp[vy];omega):p:=h
theorem qD(h:p:=by have ri:=Ab (Aq.YL Aq.HD (oh aj) (oh aj) (oh aj) (oh aj) qd qe pq qu c6 ff f9 nc o0);go_wp2;all_goals (go_end0;exact⟨rfl,f6,gz.ps,ri.2,ri.1,gz.grown⟩)):p:=h
theorem qE(h:p:=by refine C1 9 λK hK=> ?_;rw[A1 (by rfl)];refine wp_store_row 37 (.tmp 14) (.tmp 100) rfl X #[vb ⟨#[]⟩,va vn 0 0,so vh 0,so vh 0,ve vq,so vh M,va vn 0 0,so vj c6] rfl rfl 37 _ bb oR rfl (by simp[Value.oneCell']) ?_;have lq:(w3.setRow X #[vb ⟨#[]⟩,va vn 0 0,so vh 0,so vh 0,ve vq,so vh M,va vn 0 0,so vj c6]).heap[X]? =vp (vl #[vb ⟨#[]⟩,va vn 0 0,so vh 0,so vh 0,ve vq,so vh M,va vn 0 0,so vj c6] 37 (0,0)):=ND _ _ _ _ _ _ bb;have lw:=J8 G km (#[vb ⟨#[]⟩,va vn 0 0,so vh 0,so vh 0,ve vq,so vh M,va vn 0 0,so vj c6]:Array vt);refine hK.out _ _ lw (λ_=> ?_);clear hK K;refine wpAnyH_done oR ?_ _;go_wp2_with fail;go_meet;exact⟨X,rfl,Ab ⟨lq,km,lw⟩⟩):p:=h
theorem qF(h:p:=by clear jm js lg i9 ak ai av cg b0 bm;subst c9;have s9:=Ab rc;generalize B z.f.name=c7 at*;generalize z.f.bytes.length=di at*;generalize z.f.stamp=d7 at*;generalize z.f.node=d6 at*;generalize z.f.gone=ek at*;go_wp2_with fail;refine i5.mono ?_;rintro e w6 ⟨dc,ew,rfl,oy,iu,nr⟩;obtain⟨c5,nw⟩:=Aa fg dc ew;rw[c5];have qj:=iu.size;simp only[CL]at qj;obtain⟨l6,jb,im⟩:=bS;(have mi:vz (∀b o,dc=vp ⟨b,o,vn⟩->vp b≠u5.ownBlock/\b<(w6.alloc (vl #[vb c7,va dc di ew,so vh d7,so vh d6,ve ek] 30)).heap.size):=by exact jB);(have l8:vz (∀j u,(Fv.cells ⟨z.f,dc,ew⟩)[j]? =vp u->(w6.alloc (vl #[vb c7,va dc di ew,so vh d7,so vh d6,ve ek] 30)).cell? ⟨w6.heap.size,j,vn⟩=vp u):=by exact wR);clear c5 nw oy iu nr;go_wp2_with (at_builtin;refine Ei _ rfl _ _ rfl w.heap.size _ o2 rfl l6 w6.heap.size ⟨z.f,dc,ew⟩ rfl l8 jb mi om oO ?_);intro v' rp mn m6;have m4:=Ab (im.trans m6);clear l6 jb im mi l8 m6 i5 j7 kh;go_wp2;go_roundw;exact⟨k+1,_,om,by go_num,mn,m4,by rw[Nx];exact Aa k4,by rw[VB];simp;omega⟩;simp[vy];omega):p:=h
theorem qG(h:p:=by refine B0 8 G ?_;refine B0 9 G ?_;refine wpAnyH_take (i:=10) (v:=undef) rfl oR oR oR (λ_ _ _ h=>h) (Or.inr ⟨oR,rfl⟩) G ?_;simp only[Act.put,VE,VH,VJ];refine wpAnyH_take (i:=11) (v:=undef) rfl oR oR oR (λ_ _ _ h=>h) (Or.inr ⟨oR,rfl⟩) G ?_;simp only[Act.put,VE,VH,VJ];refine wpAnyH_take (i:=12) (v:=undef) rfl oR oR oR (λ_ _ _ h=>h) (Or.inr ⟨oR,rfl⟩) G ?_;simp only[Act.put,VE,VH,VJ];refine wpAnyH_take (i:=13) (v:=undef) rfl oR oR oR (λ_ _ _ h=>h) (Or.inr ⟨oR,rfl⟩) G ?_;simp only[Act.put,VE,VH,VJ];refine wpAnyH_take (i:=14) (v:=undef) rfl oR oR oR (λ_ _ _ h=>h) (Or.inr ⟨oR,rfl⟩) G ?_;simp only[Act.put,VE,VH,VJ];refine wpAnyH_take (i:=15) (v:=undef) rfl oR oR oR (λ_ _ _ h=>h) (Or.inr ⟨oR,rfl⟩) G ?_;simp only[Act.put,VE,VH,VJ];refine wpAnyH_take (i:=16) (v:=undef) rfl oR oR oR (λ_ _ _ h=>h) (Or.inr ⟨oR,rfl⟩) G ?_;simp only[Act.put,VE,VH,VJ];refine wpAnyH_take (i:=17) (v:=undef) rfl oR oR oR (λ_ _ _ h=>h) (Or.inr ⟨oR,rfl⟩) G ?_;simp only[Act.put,VE,VH,VJ];refine wpAnyH_take (i:=18) (v:=undef) rfl oR oR oR (λ_ _ _ h=>h) (Or.inr ⟨oR,rfl⟩) G ?_;simp only[Act.put,VE,VH,VJ];refine wpAnyH_take (i:=19) (v:=undef) rfl oR oR oR (λ_ _ _ h=>h) (Or.inr ⟨oR,rfl⟩) G ?_;simp only[Act.put,VE,VH,VJ];refine C1 20 λK hK=> ?_;rw[A1 oR];go_simp;refine hK.out _ _ G (λ_=> ?_);clear hK K;refine wpAnyH_done oR ?_ _;go_wp2_with fail;go_meet;exact⟨rfl,G⟩):p:=h
theorem qH(h:p:=by have bf:=Ab (O.trans (Mk gn));clear gn O;go_wp2;exact⟨rfl,.inl ⟨bf,rfl,_,b5⟩⟩):p:=h
theorem qI(h:p:=by have gz:=a4;obtain⟨f6,ju⟩:∃f6,f6=d1:=⟨_,rfl⟩;rw[<-ju]at gz;have nc:=pW;(have o0:vz (Aq.Srt Aq.lx f6 ao b):=by rw[ju];exact eu.2.1.sub (oh aj) (VA _));clear ju;exact qD):p:=h
theorem qJ(h:p:=by have gz:=a4;obtain⟨f6,ju⟩:∃f6,f6=d1:=⟨_,rfl⟩;rw[<-ju]at gz;have nc:=pW;(have o0:vz (Aq.Srt Aq.lx f6 ao b):=by rw[ju];exact eu.1.sub (VA _) (oh aj));clear ju;exact qD):p:=h
theorem qK(h:p:=by exact b4 _ _ _ _ _ _ _ _ _ _ _ _ _ _ _ _ _ _ _ _ _ _ _ _ _ _ _ _ _ _ _ _ _ _ _ _ _ _ _ _ _ _ _ _ _ _ _ _ _ _ _ _ _ _ _ _ _ _ _ _ _ _ _ _ _ _ _ _ _ _ _ _ _ _ _ _ _ _ _ _ _ _ _ _ _ _ _ _ _ _ _ _ _ _ _ _ _ _ _ _ _ _ _ _ _ _ _ _ _ _ _ _ _ _ _ _ _ _ _ _ _ _ _ z (Ab (by rw[Aa ow];exact Aa sn)) (Ab (by rw[Aa ow];exact Aa r7)) (Ab (by rw[Aa ow];exact sj)) kt):p:=h
theorem qL(h:p:=by (rcases h.own.2 with ⟨ai,av⟩|⟨g,ah,cur,ai,av,cg,b0,mr,o6,l4⟩);have U:xs= []:=WK av;subst U;exact⟨vn,0,ai,FsIn.nil w⟩;refine⟨_,_,ai,⟨.inr ⟨g,0,rfl,(h.lt (g:=g) qAC).2,?_⟩,b0,by unfold maxLen at mr;omega,hl,h.all⟩⟩;intro j x hj;(have aw:j<xs.length:=by rcases YN j xs.length with qc|qc;exact qc;. rw[VZ qc]at hj;cases hj);(have hc:∀i u,i<5->x.cells[i]? =vp u->w.cell? ⟨g,0+j*5+i,vn⟩=vp u:=by intro i u hi ey;have e:=Kk xs j x i hj hi;exact yL);exact zR):p:=h
theorem qM(h:p:=by
 obtain⟨ov,kv,ai,av,cg,b0,mr,o6⟩:=h.ex;have af:=Ad w b i v
 have bk:∀ {e size n:Nat} {x:vt} {xs:List vt},w.ownsRow (b+1) e size x n xs->x.ownBlock=vn\/x.ownBlock≠vp b:=λ{e size n x xs} iy=>by
  cases U:x.ownBlock with
  |none=>exact .inl rfl
  |some g=>refine .inr (λe=> ?_);have:=(iy.lt g U).1;cases e;omega
 refine⟨⟨h.base,h.no,ov,kv,?_,by rw[iy];exact av.kept af (bk av),by rw[ba];exact cg.kept af (bk cg),b0,mr,o6⟩,?_,?_⟩;rw[CR w b i _ _ _ ai,hc];exact(A2 B w).grown af (WJ h.base (UG h.lt)) (λg e=>by cases e;exact h.base);exact(Kp.refl No w).grown af (VA _) (λg e=>by cases e;exact h.no)):p:=h
theorem qN(h:p:=by have eu:=gR;go_wp2_with fail;refine(jq d1 ao al b _ (oh aj) (oh aj) (oh aj) (oh aj) (VC cn a4.grown.size) (VC cm a4.grown.size) a4.box a4.ps eu.1 eu.2.1 eu.2.2).mono ?_;rintro e w3 ⟨rfl,f6,fy,m2,fe,g3⟩;obtain⟨gz,nc,o0⟩:=Bq (a4.next cm bk fy g3) m2 fe;clear fy g3 m2 fe;exact qD):p:=h
theorem qO(h:p:=by go_wp2_with fail;refine i7.mono ?_;rintro e fk ⟨rfl,rf⟩;have O:vz (TdA No B w b (rowB bs n2) R (vm (vd #[va vn 0 0,va vn 0 0])) fk):=Ab (by rw[Aa md];exact⟨Aa o3 _ _ (eb.trans rf),.inl ⟨Bi od,rfl⟩⟩);clear rf;go_wp2;go_ret2;exact O):p:=h
theorem qP(h:p:=by have eu:=gK;go_wp2_with fail;refine(jq d1 ao al b _ (oh aj) (oh aj) (oh aj) (oh aj) a4.cx a4.ps eu.1 eu.2.1 eu.2.2).mono ?_;rintro e w3 ⟨rfl,f6,fy,m2,fe,g3⟩;obtain⟨gz,nc,o0⟩:=Bq (a4.next fy g3) m2 fe;clear fy g3 m2 fe;exact qD):p:=h
theorem qQ(h:p:=by intro j u hj;have e2:=dX;rw[e2];exact hc j u hj):p:=h
theorem qBC(h:p:=by have t8:=Ab (tz rfl);clear tz;go_wp2_with fail;refine(LQ _ (tn.below (Wk _ _)) (dr.ll.below (Wk _ _)) ue t8 (LL _ _ _ _).1 (LL _ _ _ _).2 oS).mono ?_;rintro e rp ⟨uf,rfl,tk,m6⟩;obtain⟨ga,gc,rfl⟩:=tk.shape;rw[Aa ed]at tk ⊢;have tq:=(Wk w6 _).trans (m6.mono oS);obtain⟨e1,tr,t2⟩:=qBU;obtain⟨⟨tu,dm⟩,⟨de,g0⟩,-⟩:=e1.cells;clear tk m6 tq dr tn t3):p:=h
theorem qR(h:p:=by have t5:=Ab (hk.trans (h8.wider (VF _) om aw));(have rr:vz (Part i0 dy N (2*B) (t+1)):=by have bo:=Aa et;rw[bo]at h8 jp aw;exact ft.step aw h8 jp);(have r8:vz (ac+2*B=(t+1)*(2*B)):=by have:=Aa et;unfold vz;rw[ZO t (2*B),<-this]);clear fy h8 jp g3 en;go_wp2;go_roundw;exact⟨t+1,ac+2*B,i0,r8,aw,rfl,by go_num,gd,t5,rr⟩;simp[vy];omega):p:=h
theorem qS(h:p:=by refine a3.mono ?_;rintro e au ⟨rfl,g9,hf⟩;have b4:=dY;clear g9 hf;go_wp2;go_roundw;exact⟨q-q,_,by go_num,om,Ab ⟨b4.1,b4.2,a4⟩⟩;simp[vy];omega):p:=h
theorem qU(h:p:=by obtain rfl:k=i:=om;have tb:¬(k:Int)<k:=om;have pj:=(Aq.Pl d k m (m+1) dv om).wider hi om (VA _);have px:=Aq.ins_last hi dv a9 fp gx;rw[<-Aa bu]at pj px;have pr:=Ab pj;have pd:=Ab px;rw[<-Aa bu]at bw;clear pj px;go_wp2;refine E1 (results_none rfl _ _ _) rfl ?_;exact⟨rfl,_,bw,pr,pd,g5⟩):p:=h
theorem qV(h:p:=by have hs:=Ab (ik.trans (m2.wider (VF _) om aw));(have rq:vz (Part d' d N 20 (t+1)):=by have bo:=Aa et;rw[bo]at m2 fe aw;exact ft.step aw m2 fe);(have r4:vz (ac+20=(t+1)*20):=by have:=Aa et;unfold vz;omega);clear e5 m2 fe g2;go_wp2;go_roundw;exact⟨t+1,ac+20,d',r4,aw,rfl,by go_num,bm,hs,rq⟩;simp[vy];omega):p:=h
theorem qW(h:p:=by have q4:¬(ac:Int)+B<(N:Int):=om;(have hz:vz (Kt dk N (2*B)/\Cuts dk N (2*B)):=by have bo:=Aa et;rw[bo]at aw hm h1;exact ft.last h1 om (Aq.EA.refl _ _ _) (TU mg ft.rest om));clear ft et;go_wp2;go_roundw;exact⟨2*B,dk,om,om,congrArg (Value.int vh) om,eg,hk,hz.1,hz.2⟩;simp[vy];omega):p:=h
theorem qX(h:p:=by obtain rfl:k=L:=om;have gu:vz (Ln s=0):=(Aa gv) (by rw[XA];intro p ce;obtain⟨j,hj,rfl⟩:=List.mem_iff_getElem.1 ce;exact bf j hj (by rw[Aa ay]at hj;exact hj));go_wp2;go_ret2;rw[SX (Aa gu),Aa gu];refine⟨_,rfl,?_,(Oq w _).trans (ap.mono (UI _)),λh=>absurd rfl h⟩;exact ck.below (by simpa using Aa ap)):p:=h
theorem qY(h:p:=by
 cases U:v'.ownBlock with
 |none=>exact .inl rfl
 |some g=>refine .inr (λe=> ?_);have:=(h0.lt g U).1;cases e;omega):p:=h
theorem qBD(h:p:=by go_wp2_with fail;refine(Dp e1.dx (DIn.nil _) (by rw[Aa tw];exact λx U=>by cases U) (by rw[Aa tx];exact λx U=>by cases U) tw tx).mono ?_):p:=h
theorem qZ(h:p:=by have t5:=Ab (hk.trans (h8.wider (VF _) h1 (VA _)));(have hz:vz (Kt i0 N (2*B)/\Cuts i0 N (2*B)):=by have bo:=Aa et;rw[bo]at h8 jp;exact ft.last om om h8 jp);clear fy h8 jp g3 en ft et;go_wp2;go_roundw;exact⟨2*B,i0,om,om,congrArg (Value.int vh) om,gd,t5,hz.1,hz.2⟩;simp[vy];omega):p:=h
theorem xA(h:p:=by have ai:(l.take k).length=k:=oO;rw[List.set_append_right _ _ om,ai,XT];obtain⟨q,iw⟩:∃q,l.length-k=q+1:=⟨l.length-k-1,om⟩;(have e:l.take (k+1)=l.take k++ [l.getD k 0]:=by rw[XD];simp[List.getD,ba]);rw[iw,List.replicate_succ,VH,e,show l.length-(k+1)=q by omega];simp):p:=h
theorem xB(h:p:=by (have O:vz (Aq.EA a b d ax/\Aq.Srt Aq.lx ax a b):=by rcases m7 with ai|⟨ai,av⟩;have e:i=b:=om;rw[<-e];exact⟨jk,a8⟩;rw[av];exact⟨Aq.EA.refl _ _ _,λi j ai av cg=>om⟩);clear m7 c8 jk a8 bi;go_wp2;go_end0;exact⟨rfl,ax,a9.ps,O.1,O.2,a9.grown⟩):p:=h
theorem xC(h:p:=by clear n3;obtain⟨dm,de,g0⟩:=Aa jr jz;have pn:vz (V=NL (rowB bs n) bj lb f g7 dq):=Ab (by rw[Aa jb,A0 (λh=>h jz)]);go_wp2;go_roundw;exact⟨g7,f,dq,rfl,Ab ⟨dm,de,jz⟩,Ab om,po,pn⟩;rw[Nr (Aa po).is,Nr (Aa ci).is];omega):p:=h
theorem xD(h:p:=by go_enter func130,ntmps130;go_wp2_with (go_at_call 168;refine(Ug _ _).mono ?_;rintro e w' ⟨rfl,rfl⟩);go_ret;exact⟨rfl,rfl⟩):p:=h
theorem xE(h:p:=by obtain⟨ov,kv,ai,av,cg,b0,mr,o6⟩:=h.ex;refine⟨h.base,hb,ov,kv,ai,av,cg,b0,?_,?_⟩;intro g af f4;rcases hn g f4 with e|e;exact mr g af e;have:=(av.lt g af).2;omega;intro g af f4;rcases hn g f4 with e|e;exact o6 g af e;have:=(cg.lt g af).2;omega):p:=h
theorem xF(h:p:=by simp[IntKind.wrap,IntKind.bits,IntKind.signed];omega):p:=h
theorem xG(h:p:=by have pr:=Ab ((Aq.Pl d a (a+1) i om om).wider (VA _) om hj);have pu:=Aa a9;rw[Aa hm]at pu fp;have pd:=Ab (Aq.ins_first om hj pu fp gx);clear nq pu bw;go_wp2;refine E1 (results_none rfl _ _ _) rfl ?_;exact⟨rfl,_,O,pr,pd,g5⟩):p:=h
theorem xH(h:p:=by have dl:=m3 wr ap rfl;clear nk m3;go_wp2;go_ret2;obtain⟨x1,x2,x3⟩:=Aa dl;rw[x2];exact⟨_,rfl,x1,x3,λ_=>rfl⟩):p:=h
theorem xI(h:p:=by refine⟨by simpa using h.lt,λj hj=> ?_⟩;rw[YA]at hj;refine⟨?_,by simp[(h.at_ j hj).2]⟩;by_cases e:i=j;subst e;rw[P1 _ _ _ (h.at_ i hj).1];simp[List.getD,hi];rw[K4 _ _ _ _ uC,(h.at_ j hj).1];simp[List.getD,e]):p:=h
theorem xJ(h:p:=by obtain⟨a3,a4⟩:=f8 _ _ a8;clear f8 a8;go_wp2_with fail;refine a3.mono ?_;rintro e au ⟨rfl,g9,hf⟩;have b4:=dY;clear g9 hf;go_wp2;go_roundw;exact⟨0,_,by go_num,om,Ab ⟨b4.1,b4.2,a4⟩⟩;simp[vy]):p:=h
theorem xK(h:p:=by have su:r<=135:=om;clear ba dv jf gu ee jl e2;go_wp2_with fail;refine nj.mono ?_;rintro e jt ⟨rfl,fo⟩;obtain⟨gg,ig,h3⟩:=Bq (i6.trans fo) (fo.own k0) (fo.book mc m5);clear fo;go_wp2;go_meet;exact⟨rfl,oS,gg,ig,h3⟩):p:=h
theorem xL(h:p:=by go_roundw;exact⟨k+1,om,by go_num,O⟩;simp[vy];omega):p:=h
theorem xM(h:p:=by
 cases U:ov.ownBlock with
 |none=>exact .inl rfl
 |some g=>refine .inr (λe=> ?_);have:=(gj.lt g U).1;cases e;omega):p:=h
theorem xN(h:p:=by have hn:=bk z ak;rcases b0 with b0|b0;rw[b0];exact hn;rw[b0];exact hl.mono (λg af e=>by have:=VK e;omega)):p:=h
theorem xO(h:p:=by rw[bg.block b oO (λe=>by rcases qf with h|h;rw[h]at e;cases e;exact h e.symm)];exact(EN w _ b pf).trans ly):p:=h
theorem xP(h:p:=by rcases Aa ck with rfl|h;simp at cw;exact h):p:=h
theorem xQ(h:p:=by clear cp ho d5 l5 c9 b7 bh hr;go_wp2;refine E1 (v:=vd #[vf #[va vn 0 0,va vn 0 0],so vh 0,so vh 3]) ?_ rfl uK;exact Fa rfl _ _ (N+1) _ _ _ rfl (Dv O.1) rfl rfl):p:=h
theorem xR(h:p:=by refine C1 5 λK hK=> ?_;go_simp;refine(ku _ G).mono ?_;rintro e h7 ⟨rfl,ic⟩;obtain rfl:w3=h7:=ic.symm;dsimp only;refine hK.out _ _ G (λ_=> ?_);clear hK K;refine B0 6 G ?_;refine B0 7 G ?_;exact qE):p:=h
theorem xS(h:p:=by refine⟨VC h.lt af.size,λj hj=> ?_⟩;have e:=af.block g h.lt bk;exact⟨by rw[FA (w:=w) (a:=⟨g,j,vn⟩) e];exact(h.at_ j hj).1,by rw[ka7 (w:=w) (a:=⟨g,j,vn⟩) e];exact(h.at_ j hj).2⟩):p:=h
theorem xT(h:p:=by rcases h with h|⟨b,o,ai,av,cg⟩;exact .inl h;exact .inr ⟨b,o,ai,VC av I.size,cg.below I om⟩):p:=h
theorem xU(h:p:=by exact⟨gy,hi,0,VA _,bh,VA _,congrArg (Value.int vh) (by have:=Aa p5;have:=Aa h2;omega),congrArg (Value.int vh) (by have:=Aa qb;have:=Aa h2;omega),λh=>om,λh=>om,rfl⟩):p:=h
theorem xV(h:p:=by by_cases e:u.e=0;exact e;rw[A0 e]at h;exact h):p:=h
theorem xW(h:p:=by go_wp2_with (refine Gj rfl (.tmp 2) (.tmp 23) rfl _ _ (λ_=>0) rfl rfl bn ?_);have ry:=Ab (bn.setRow (λ_=>0));exact E1 (Gl rfl _ _ rfl ry) rfl ⟨rfl,Az ap (VA _) _⟩):p:=h
theorem xX(h:p:=by exact⟨k+1,_,om,by go_num,m8,by rw[Aa s7,<-Aa sr],by have:=Aa lv;omega⟩):p:=h
theorem xY(h:p:=by rcases h.at_ with ai|⟨b,o,e,hb,j1⟩;exact .inl ai;exact .inr ⟨b,o,e,VC hb I.size,λj x hj i hi=>(FA (w:=w) (a:=⟨b,_,vn⟩) (I.block b hb)).trans (j1 j x hj i hi)⟩):p:=h
theorem xZ(h:p:=by constructor;rintro ⟨q,ai,av⟩;by_cases iw:q=k;subst iw;exact .inr av;exact .inl ⟨q,om,av⟩;rintro (⟨q,ai,av⟩|h);exact⟨q,om,av⟩;exact⟨k,om,h⟩):p:=h
theorem zA(h:p:=by have ie:vz (X=V):=Ab (by rw[<-Aa dl,A0 e0]);have pz:=Ab (jj _ il);clear il;go_wp2;exact⟨rfl,.inr ⟨by rw[Aa ie];exact e0,by rw[Aa ie],pz⟩⟩):p:=h
theorem zB(h:p:=by rcases e2 with e2|e2<;>rcases e3 with e3|e3;rw[e2,<-e3];exact Z;rw[e2];exact nu _ _ _ Z e3;rw[<-e3];exact nu _ _ _ e2 Z;exact nu _ _ _ e2 (nu _ _ _ Z e3)):p:=h
theorem zC(h:p:=by exact absurd (show (2:Int)=0 from h) od):p:=h
theorem zD(h:p:=by clear il;go_wp2;exact⟨rfl,.inr ⟨by rw[Aa O];exact e0,by rw[Aa O],ap⟩⟩):p:=h
theorem zE(h:p:=by go_wp2_with fail;refine ng.mono ?_;rintro e gw ⟨rfl,rfl⟩;go_wp2;exact⟨rfl,.inl ⟨by rw[Aa O];exact(by decide:(8:Int)≠0),by rw[Aa O],k3.bl⟩⟩):p:=h
theorem zF(h:p:=by by_cases e:i=j;subst e;by_cases h:i<xs.length;simp[h];simp[h];simp[e]):p:=h
theorem zG(h:p:=by exact⟨0,VF _,rfl,rfl⟩):p:=h
theorem zH(h:p:=by intro z ak;rcases WG.1 ak with ak|ak;exact fq.apart z ak;rw[WR.1 ak];exact pv):p:=h
theorem zI(h:p:=by have O:vz (V=x):=Ab (by rw[Aa ji,XT];rfl);clear ji;go_wp2;go_end0;exact .inl ⟨by rw[Aa O];exact s1,rfl,by rw[Aa O];exact Aa ci⟩):p:=h
theorem zJ(h:p:=by (have O:vz (Aq.Srt Aq.lx dy 0 N):=by have:=Aa mg 0;rw[YU,YO om]at this;exact this);clear mh;go_wp2;go_end0;exact⟨rfl,dy,a9.ps,ik,O,a9.grown⟩):p:=h
theorem zK(h:p:=by have e:=(bz.high c5).drew 1;rw[<-Aa bn]at e;exact e):p:=h
theorem zL(h:p:=by rw[bg.block g oO (λe=>bk e.symm)];exact EN w _ g af):p:=h
theorem zM(h:p:=by have e:=(bz.low c5).drew 1;rw[<-Aa cv]at e;exact e):p:=h
theorem zN(h:p:=by have av:(l.take k).length<=12:=tY;omega):p:=h
theorem zO(h:p:=by intro z ak;rcases WG.1 ak with ak|ak;exact fq.all z ak;rw[WR.1 ak];exact gq):p:=h
theorem zP(h:p:=by exact Fb rfl _ _ (N+1) _ _ rfl (Dv O.1) rfl):p:=h
theorem zQ(h:p:=by rw[A1 dt]at h;exact absurd h dt):p:=h
theorem zR(h:p:=by exact⟨hc 0 _ od rfl,hc 1 _ od rfl,hc 2 _ od rfl,hc 3 _ od rfl,hc 4 _ od rfl⟩):p:=h
theorem zS(h:p:=by exact⟨k+1,om,by go_num,by rw[Aa aa];go_num⟩):p:=h
theorem zT(h:p:=by rcases VV.1 h with rfl|h;(. constructor<;>simp only<;>omega);exact ih _ i h):p:=h
theorem zU(h:p:=by generalize l.getD k 0=x at*;have ta:¬x<0:=om;have tj:¬15<x:=om;go_wp2;go_round;exact⟨k+1,om,by go_num⟩;simp[vy];omega):p:=h
theorem zV(h:p:=by go_enter func256,ntmps256;go_wp2_with (go_at_call 274;refine(Pq _ _).mono ?_;rintro e w' ⟨rfl,rfl⟩);go_ret;exact⟨rfl,rfl⟩):p:=h
theorem zW(h:p:=by refine⟨by simpa using h.lt,λj hj=>⟨?_,by simp[(h.at_ j hj).2]⟩⟩;rw[K4 _ _ _ _ (by intro h;subst h;exact bo rfl)];exact(h.at_ j hj).1):p:=h
theorem zX(h:p:=by go_roundw;exact⟨k+1,om,by go_num,bn.other oS _,by rw[<-Jd cw (Aa dl)];exact cv.set _ _,ap.setCell oS _⟩;simp[vy];omega):p:=h
theorem zY(h:p:=by exact⟨k+1,om,by go_num,by rw[Aa aa];rfl⟩):p:=h
theorem zZ(h:p:=by obtain rfl:n=k:=om;go_wp2;go_ret;have:=Aa ck;rw[XE uG]at this;exact⟨Bm (by rw[<-this];rfl),ap⟩):p:=h
theorem kC(h:p:=by have h9:=bZ;have te:=bY;clear d5;go_wp2;go_ret2;exact O):p:=h
theorem kE(h:p:=by refine⟨oS,λj hj=>⟨?_,oS⟩⟩;rw[N0 _ _ _ _ rfl];have ss:j<N:=tH;simp[madeCells,ss,List.getD,Nat.mod_one]):p:=h
theorem kF(h:p:=by rw[TX _ _ _ _ om];have e:au.heap.size+1=(au.alloc (vl (iv (List.replicate 288 0)).toArray 247)).heap.size:=oS;rw[e];exact B2 _ _):p:=h
theorem kG(h:p:=by obtain⟨ov,kv,ai,av,cg,b0⟩:=h.ex;exact⟨h.base,h.no,ov,kv,(af.block b h.lt oS).trans ai,Lb av af,Lb cg af,b0⟩):p:=h
theorem kH(h:p:=by exact⟨b7,bh,(cq.other (a:=⟨g,k*2,vn⟩) (λe=>bh e.symm) _).other (a:=⟨g,k*2+1,vn⟩) (λe=>bh e.symm) _⟩):p:=h
theorem kI(h:p:=by go_enter func145,ntmps145;go_wp2;go_ret;exact⟨rfl,A2 _ _⟩):p:=h
theorem qBE(h:p:=by simp[Instr.entryStore,MapKept.run_getObj_map ua,asInt,asIntOf,goInt,ub,uc,MapKept.run_setObj_map _ ua,Result.andThen,setBlock]):p:=h
theorem kJ(h:p:=by have pn:vz (V=dq):=Ab (by rw[Aa jb,A1 jz]);clear nl;go_wp2;exact⟨rfl,Aa kz dq w6 (Aa pn) jz (Aa im)⟩):p:=h
theorem kK(h:p:=by exact Hp _ _ uH rfl (by show _<4294967296;omega)):p:=h
theorem kL(h:p:=by by_cases e:k=j;subst e;rw[A1 ⟨rfl,hj⟩,A1 om];rw[A0 om];by_cases h:j<k;rw[A1 h,A1 om];rw[A0 h,A0 om]):p:=h
theorem qBF(h:p:=by rintro e ui ⟨rfl,ud⟩;have O:=Ab (tp.bel.trans (ud.mono tp.bel.size));clear ud tp t4 t9;go_wp2;go_ret;exact⟨rfl,O⟩):p:=h
theorem kM(h:p:=by exact .inl ⟨e0,rfl,No',f1,f2,hn,λg af=>d8 g (WJ ep.below.size af),ep.is,hF.keep ep.below.size ep.kp,I.outer ep.bl hn⟩):p:=h
theorem kN(h:p:=by have bu:=(A2 B w').grown (Ad w' w.heap.size 0 (so vh 0)) om (λg e=>by cases e;exact I);exact bu.alloc oO _):p:=h
theorem kP(h:p:=by rw[A1 ar,ih,XU];simp only[P2,e];constructor;exact .inl;rintro (h|h);exact h;rw[ar]at h;exact absurd h.symm a8):p:=h
theorem kQ(h:p:=by have a8:=Tryz.sizeOf5;have sf:=underlying23;have av:(m:Int)<=ah:=om;cases a<;>simp[go_sem,sf,a8,av]):p:=h
theorem kR(h:p:=by rintro ⟨j,hj,e⟩;have:=d9 j om;simp only[e]at this;cases this):p:=h
theorem kU(h:p:=by have h:=Aa gx (by have:=Aa qb;have:=Aa j8;omega);rw[show ao+m-1-st=al-1 by omega]at h;exact h):p:=h
theorem kV(h:p:=by
 cases U:kv.ownBlock with
 |none=>exact .inl rfl
 |some g=>refine .inr (λe=> ?_);have:=(lu.lt g U).1;cases e;omega):p:=h
theorem kW(h:p:=by rcases e with e|e;exact d8 g om e;omega):p:=h
theorem qBG(h:p:=by exact E1 (Zf7 rfl _ _ _ _ rfl rfl ck) rfl ⟨rfl,Aa ri gh ug _ _ _ dv (Aa rq) (Aa pz) (Aa mz) om⟩):p:=h
theorem kX(h:p:=by rcases e with e|e;exact d8 g af e;have:=eh.bl g e;omega):p:=h
theorem kY(h:p:=by clear dm de g0;go_wp2;go_roundw;exact⟨b8,rl,by simp;first|exact ka|(rw[<-XW];exact ka)⟩;simp[vy]):p:=h
theorem kZ(h:p:=by have h:=Aa fp (by have:=Aa p5;have:=Aa j8;omega);rw[show ao+m-st=al by omega]at h;exact h):p:=h
theorem qBH(h:p:=by clear hp I;go_wp2;go_ret;exact⟨g,rfl,O,by rw[Aa mw];exact Aa rk,by rw[Aa mw];exact VA _⟩):p:=h
theorem vC(h:p:=by unfold Bt at b0 ⊢;(have:(y.f.name==n)=false:=by simpa using e);simpa[fls,List.find?_cons,this]using b0):p:=h
theorem vD(h:p:=by go_roundw;exact⟨ap,oS⟩;simp[vy]):p:=h
theorem vE(h:p:=by have dj:=dE;clear bu;go_wp2;go_ret;exact⟨Bm (by rw[Aa eo]),dj⟩):p:=h
theorem vF(h:p:=by intro j hj W a5;rw[a5.cell (p:=⟨w.heap.size,j,vn⟩) (Nat.lt_succ_self _),N0 _ _ _ _ rfl];simp[Wc,hj]):p:=h
theorem vG(h:p:=by (have a7:vz (r=3):=by rw[Aa hr,A1 om];exact rfl);go_wp2;go_ret;exact⟨by rw[Aa a7];rfl,rfl⟩):p:=h
theorem vI(h:p:=by exact⟨0,VF _,rfl,λj _ hj=>absurd hj om,A2 _ _⟩):p:=h
theorem vJ(h:p:=by exact⟨i+1,D,om,.inl om,by go_num,gd,O.1,O.2⟩):p:=h
theorem vK(h:p:=by unfold Kg at U ⊢;by_cases c:x.e=0;exact⟨c,by rw[A1 c]⟩;rw[A0 c]at U;exact absurd U c):p:=h
theorem vL(h:p:=by exact absurd (show (8:Int)=0 from h) od):p:=h
theorem vM(h:p:=by exact MS rfl _ _ _ _ _ _ _ rfl na underlying71 rfl oR):p:=h
theorem vN(h:p:=by exact Fb rfl _ _ (N+1) _ _ rfl (Dv bc) rfl):p:=h
theorem vO(h:p:=by subst jy;go_wp2_with fail;go_quiet (fail);go_wp2_with fail;go_meet;exact⟨rfl,Ae (A2 _ _) _⟩):p:=h
theorem vQ(h:p:=by exact⟨a+1,d,om,.inr ⟨rfl,rfl⟩,by go_num,bi,Aq.EA.refl _ _ _,λi j ai av cg=>om⟩):p:=h
theorem vR(h:p:=by rintro e W' ⟨rfl,az⟩;exact⟨rfl,step b9 eh az⟩):p:=h
theorem vS(h:p:=by have bo:=Aa et;rw[bo];rw[bo]at aw hm;exact Qy mg pi ft.rest hm om (VA _) (.inl rfl)):p:=h
theorem vT(h:p:=by exact⟨c+1,j,_,om,om,hj,by go_num,rfl,λ_=>Aa ml,gx,by rw[Aa em,aD]⟩):p:=h
theorem vU(h:p:=by have bo:=Aa et;rw[bo];rw[bo]at aw;exact Qy mg pi ft.rest om (VA _) aw (.inr rfl)):p:=h
theorem vV(h:p:=by exact⟨by dsimp only;omega,by dsimp only;omega⟩):p:=h
theorem vW(h:p:=by rcases az with rfl|h;simp at hl;omega;exact h):p:=h
theorem vX(h:p:=by rintro e fw ⟨rfl,aa⟩;go_wp2;go_end0;refine⟨rfl,?_⟩;rw[sx];simp only[<-VO];exact aa):p:=h
theorem vY(h:p:=by obtain⟨ov,kv,ai,_⟩:=h.ex;exact⟨Ac ai,Ac ai,λj=>B1 w b j _ _ ai⟩):p:=h
theorem vZ(h:p:=by rw[U.1,H6 U.2]at this;cases this):p:=h
theorem jA(h:p:=by unfold Builtin.zeroCells;apply ZL;intro i;by_cases h:i<n;simp[h,Nat.mod_one];simp[h]):p:=h
theorem jB(h:p:=by intro b o e;have ai:=nr b o e;refine⟨λe2=> ?_,oO⟩;have:=(j7.lt e2.symm).2;omega):p:=h
theorem jC(h:p:=by clear cp;go_wp2;exact⟨rfl,.inl ⟨by rw[Aa O];exact Z,by rw[Aa O],ap⟩⟩):p:=h
theorem jD(h:p:=by clear g8;go_wp2;exact⟨rfl,.inl ⟨by rw[Aa O];exact e2,by rw[Aa O],ap⟩⟩):p:=h
theorem jE(h:p:=by
 intro A B
 induction A with
 |nil=>simp[Hn]
 |cons x A ih=>rw[XV,Hn,Hn,ih];omega):p:=h
theorem jF(h:p:=by simp only[P2,e];constructor;exact .inl;rintro (h|h);exact h;exact absurd h ba):p:=h
theorem jG(h:p:=by obtain⟨sa,Z,e2,e3⟩:=jk.mem ai av;rw[jk.out i om,<-e3];exact ck sa i Z e2 aw):p:=h
theorem jH(h:p:=by exact⟨i,c,_,hi,om,om,rfl,rfl,fp,λ_=>Aa ml,by rw[Aa em,aD]⟩):p:=h
theorem jI(h:p:=by exact⟨rfl,.inr ⟨by rw[(Aa O).2.2];exact e0,by rw[(Aa O).2.2],I⟩⟩):p:=h
theorem jJ(h:p:=by exact absurd h (Bi od)):p:=h
theorem jK(h:p:=by obtain⟨ov,kv,ai,av⟩:=h.ex;exact⟨ov,kv,Ac ai,Ac ai,ai,av⟩):p:=h
theorem jL(h:p:=by rcases e with e|e;exact mj g om e;omega):p:=h
theorem jM(h:p:=by have ci:=Aa k6;refine⟨?_,by have:=ci.2;omega⟩;rw[de,ci.1];try rw[XW]):p:=h
theorem jN(h:p:=by rw[e,VX uL,hl,show (j+1)*8+i-8=j*8+i by omega,ih]):p:=h
theorem jO(h:p:=by cases Jh bs (p+i);exact⟨0,rfl,od,rfl⟩;exact⟨1,rfl,od,rfl⟩):p:=h
theorem jP(h:p:=by repeat first|apply Et|apply Dg):p:=h
theorem jQ(h:p:=by exact⟨c+1,j,_,om,om,hj,by go_num,rfl,λ_=>Aa dl,gx,rfl⟩):p:=h
theorem jR(h:p:=by exact⟨i,om,VA _,rfl,by rw[Aq.rot_left];exact Aa a9,λh=>om⟩):p:=h
theorem jS(h:p:=by rw[Aa et]at ai;rw[ha.rest i ai,ha.rest j om];exact ck i j (VF _) av om):p:=h
theorem jT(h:p:=by intro x U;rcases Rn U with U|rfl;exact lz.all x U;exact lm):p:=h
theorem jU(h:p:=by exact absurd (show (4:Int)=0 from h) od):p:=h
theorem jV(h:p:=by refine wpAnyH_done oR ?_ _;go_wp2_with fail;go_meet;exact Ab ⟨ir,e9⟩):p:=h
theorem jW(h:p:=by exact⟨a,m,0,VA _,om,VA _,rfl,rfl,λh=>om,λh=>om,rfl⟩):p:=h
theorem jX(h:p:=by exact⟨m,b,0,VA _,om,VA _,rfl,rfl,λh=>om,λh=>om,rfl⟩):p:=h
theorem jY(h:p:=by exact⟨rfl,rfl,rfl⟩):p:=h
theorem jZ(h:p:=by rw[Nat.and_one_is_mod]at this;exact this):p:=h
theorem qBI(h:p:=by simp[Lit.wf,IntKind.min,IntKind.max,IntKind.signed,IntKind.bits];omega):p:=h
theorem yA(h:p:=by intro h j hj td;by_cases e:j=k;subst e;exact h;exact bf j hj om):p:=h
theorem yB(h:p:=by show ((W.setCell _ _).setCell _ _).frozen? _=_;rw[aE,aE];exact h.f0):p:=h
theorem yC(h:p:=by show ((W.setCell _ _).setCell _ _).frozen? _=_;rw[aE,aE];exact h.f1):p:=h
theorem yD(h:p:=by exact⟨0,0,dy,Ab (YU _).symm,VF _,rfl,by go_num,a9,ik,mh⟩):p:=h
theorem yE(h:p:=by exact⟨0,0,d,rfl,VF _,rfl,rfl,bi,Aq.EA.refl _ _ _,oe⟩):p:=h
theorem yF(h:p:=by first|rfl|kernel_rfl):p:=h
theorem yG(h:p:=by rw[<-je];intro x U;obtain⟨y,gq,rfl⟩:=WU.1 U;exact j1 y gq):p:=h
theorem yH(h:p:=by clear I iy ba b7 bh cq i3 qo l9 ib np iw e0;go_wp2;go_ret2;exact O):p:=h
theorem yI(h:p:=by exact⟨i,c,_,hi,om,om,rfl,rfl,fp,λ_=>Aa dl,rfl⟩):p:=h
theorem yJ(h:p:=by go_enter func111,ntmps111;go_wp2;go_ret;exact⟨rfl,rfl⟩):p:=h
theorem yK(h:p:=by go_enter func168,ntmps168;go_wp2;go_ret;exact⟨rfl,rfl⟩):p:=h
theorem yL(h:p:=by have fq:=h.own;rw[ai]at fq;rw[VY,fq.cellAt _ om];rw[e,ey]):p:=h
theorem yM(h:p:=by go_enter func274,ntmps274;go_wp2;go_ret;exact⟨oS,rfl⟩):p:=h
theorem yN(h:p:=by simp only[VB,VG,WE]at hn ⊢;omega):p:=h
theorem yO(h:p:=by exact .inl ⟨rfl,Uo az.len rfl ce h,Ab (a7.z.trans lh)⟩):p:=h
theorem yP(h:p:=by exact Hp _ _ uH rfl (by show _<65536;omega)):p:=h
theorem qBJ(h:p:=by exact Fb rfl _ _ (N+1) _ _ rfl (Dv (Aa O).1) rfl):p:=h
theorem yQ(h:p:=by refine(EN _ _ _ (by simp[f4])).trans ?_;rw[<-f4];exact B2 _ _):p:=h
theorem yR(h:p:=by clear mp fg;go_wp2;exact xL):p:=h
theorem yS(h:p:=by exact Ek _ _ _ h):p:=h
theorem yT(h:p:=by intro j hj;rw[I.cell (p:=⟨b,o+j,vn⟩) hb];exact h j hj):p:=h
theorem yU(h:p:=by rcases ey with rfl|rfl|rfl|rfl|rfl|rfl|rfl|rfl<;>rfl):p:=h
theorem yV(h:p:=by exact⟨k+1,om,by go_num,by rw[Aa jg];simp,ku,q7⟩):p:=h
theorem yW(h:p:=by rw[ai]at e;have:r=g:=VK e;subst this;rw[hb]at af;cases af):p:=h
theorem yX(h:p:=by rw[Nx,ak,<-bo];simp[fls]):p:=h
theorem yY(h:p:=by clear li p6 iy b7 bh cq i3 ki qx pp;go_wp2;go_ret2;exact O):p:=h
theorem yZ(h:p:=by have bo:=Aa et;rw[bo]at m2 fe;exact ft.last om om m2 fe):p:=h
theorem wH(h:p:=by rw[A0 ar]at aa;go_wp2;go_round;exact zY;simp[vy];omega):p:=h
theorem wI(h:p:=by rw[A1 ar]at aa;go_wp2;go_round;exact zS;simp[vy];omega):p:=h
theorem wL(h:p:=by unfold symC farC W9 W8 Da;simp[List.filterMap_append,XW]):p:=h
theorem wM(h:p:=by exact⟨k+1,om,by go_num,(Aa eo) (Aa lr),dj⟩):p:=h
theorem wO(h:p:=by obtain rfl:i=n:=om;go_wp2;go_end0;exact⟨rfl,ij,g5⟩):p:=h
theorem wR(h:p:=by intro j u hj;rw[nw]at hj;rw[N0 _ _ _ _ rfl];simpa using hj):p:=h
theorem wU(h:p:=by exact(by decide:(0:Int)<=2)):p:=h
theorem wV(h:p:=by exact⟨rfl,rfl,rfl,oS,λk ba _=>EN w.drew _ k ba⟩):p:=h
theorem wW(h:p:=by rw[ar]at this;rw[<-this];show _=decide _;rw[kbk];omega):p:=h
theorem wX(h:p:=by exact Fa rfl _ _ N _ _ _ rfl (Dv t6.1) rfl rfl):p:=h
theorem wY(h:p:=by rcases Aa ck with rfl|h;simp at hl;omega;exact h):p:=h
theorem wZ(h:p:=by exact wpAnyH_take hi a8 d9 hr qm gq c8 (by rw[bo];exact h)):p:=h
theorem bA(h:p:=by rw[A1 c1]at h;exact absurd h c1):p:=h
theorem qBK(h:p:=by simp at h;subst h;rw[this,YU,VY,WT (show i<8 from hi)]):p:=h
theorem bC(h:p:=by exact⟨k+1,om,by go_num,by rw[Aa bf];go_num⟩):p:=h
theorem bD(h:p:=by exact⟨λh=>h,rfl,rfl⟩):p:=h
theorem bE(h:p:=by exact⟨vn,0,by rw[ai,av],.inl (WK av),h.all⟩):p:=h
theorem bF(h:p:=by have:=Aa jg;rw[Aa ay]at this;exact Ab this):p:=h
theorem bH(h:p:=by rw[A1 c]at h;exact absurd h c):p:=h
theorem bI(h:p:=by simp only[VG,WE];omega):p:=h
theorem bJ(h:p:=by simpa[List.getD,hj]using this):p:=h
theorem bK(h:p:=by show vz (Aq.EA a ao (Aq.E0 d st m al) d1);rw[cd];exact Aq.EA.refl _ _ _):p:=h
theorem bL(h:p:=by show ∀(rn:Fn) (first ah:Array vt) (w:wd),(Instr.makeFunc rn first ah).run v8 w=.ok (.func rn first ah) w;exact λ_ _ _ _=>rfl):p:=h
theorem bM(h:p:=by show Bx (w.alloc (vl #[vb nm,va fa bl fc,so vh st,so vh nd,ve gn,so vj mt,va pa pl pc,so vj cr] 71)) w.heap.size nm fa bl fc st nd gn mt pa pl pc cr;exact B2 w _):p:=h
theorem bO(h:p:=by show au.cell? ⟨wr.heap.size,0,vn⟩=vp (vb t);exact(bu.cell (p:=⟨wr.heap.size,0,vn⟩) oS).trans oS):p:=h
theorem bP(h:p:=by show (st<m/\m<al/\a<st/\al<b/\st<ao/\ao<al)\/ (st<m/\m<al/\a<st/\al=b/\st<ao/\ao<al)\/ (st<m/\m<al/\st=a/\al<b/\st<ao/\ao<al)\/ (st<m/\m<al/\st=a/\al=b/\st<ao/\ao<al)\/ (st=m/\al=ao/\a<st/\st<ao)\/ (st=m/\al=ao/\a<st/\st=ao)\/ (st<m/\al=m/\st=ao/\a<st/\ao<al/\al<b);exact om):p:=h
theorem bQ(h:p:=by show vx wr.heap.size wr (gh.alloc (vl #[vb ⟨#[]⟩,va vn 0 0,so vh 0,so vh 0,ve vq,so vh 0,va vn 0 0,so vj 0] 37));exact G.alloc G.size _):p:=h
theorem bR(h:p:=by exact Ab (O.trans (Mj gs))):p:=h
theorem bS(h:p:=by exact Bq ((j7.below iu).below ((A2 w6.heap.size w6).alloc (VA _) (vl #[vb c7,va dc di ew,so vh d7,so vh d6,ve ek] 30))) (oy.alloc (vl #[vb c7,va dc di ew,so vh d7,so vh d6,ve ek] 30)) (Ar (kh.trans (iu.mono kh.size)) (vl #[vb c7,va dc di ew,so vh d7,so vh d6,ve ek] 30))):p:=h
theorem bY(h:p:=by show ((E:Int)!=0)=vr;rw[bne,h9];rfl):p:=h
theorem bT(h:p:=by exact G.trans (I.mono G.size)):p:=h
theorem bU(h:p:=by show ∃x,es[k]? =vp x/\x∈es;exact⟨es[k]'(by rw[Aa ay];exact aw),VP _,WO _⟩):p:=h
theorem bZ(h:p:=by show ((E:Int)==0)=vq;rw[HH];omega):p:=h
theorem bV(h:p:=by show vz (∀a c,Fv.val ⟨z.f,a,c⟩=vf #[vb (B z.f.name),va a z.f.bytes.length c,so vh z.f.stamp,so vh z.f.node,ve z.f.gone]/\Fv.cells ⟨z.f,a,c⟩= [vb (B z.f.name),va a z.f.bytes.length c,so vh z.f.stamp,so vh z.f.node,ve z.f.gone]);exact λa c=>⟨rfl,rfl⟩):p:=h
theorem bW(h:p:=by show vz ((m:Int)-i=((m-i:Nat):Int));unfold vz;omega):p:=h
theorem bX(h:p:=by show ∃d1,d1=Aq.E0 d st m al;exact⟨_,rfl⟩):p:=h
theorem cD(h:p:=by show (ao:Int)<al;exact om):p:=h
theorem cF(h:p:=by exact HF ((E2.new w (λ_=>0) rfl).alloc (vl (arr (λ_=>0)) 328)) (E2.new (w.alloc (vl (arr (λ_=>0)) 328)) (λ_=>0) (b:=w.heap.size+1) oS) (((A2 w.heap.size w).alloc (VA _) (vl (arr (λ_=>0)) 328)).alloc oS (vl (arr (λ_=>0)) 328)) az hl):p:=h
theorem cG(h:p:=by show z.cells.toArray= #[vb (B z.f.name),va z.a z.f.bytes.length z.c,so vh z.f.stamp,so vh z.f.node,ve z.f.gone];exact rfl):p:=h
theorem cI(h:p:=by exact B2 gh (vl #[vb ⟨#[]⟩,va vn 0 0,so vh 0,so vh 0,ve vq,so vh 0,va vn 0 0,so vj 0] 37)):p:=h
theorem cK(h:p:=by show (st:Int)<m;exact om):p:=h
theorem cQ(h:p:=by show (a:Int)<st;exact om):p:=h
theorem cS(h:p:=by show (w.alloc (vl #[vg,vg] 282)).heap[w.heap.size]? =vp (vl #[vg,vg] 282 (0,0));exact B2 _ _):p:=h
theorem cU(h:p:=by show vz (Aq.Srt Aq.lx d1 a ao);rw[cd];exact cz.1.2.1.sub (oh aj) (VA _)):p:=h
theorem cV(h:p:=by show vj.wrap (nm.size:Int)=(fx:Int);rw[kc];exact Bf om):p:=h
theorem cW(h:p:=by show vz (Aq.Srt Aq.lx d1 a ao);rw[cd];exact cz.1.1.sub (VA _) (oh aj)):p:=h
theorem cY(h:p:=by show ((au.alloc (vl (iv (List.replicate 288 0)).toArray 247)).alloc (vl (iv (List.replicate 32 0)).toArray 248)).heap[au.heap.size]? =vp (vl (iv (List.replicate 288 0)).toArray 247 (0,0));exact(EN _ _ _ oS).trans (B2 _ _)):p:=h
theorem cZ(h:p:=by show vx w.heap.size w (w.alloc (vl #[va a1 n1 c1,va a2 n2 c2] 50));exact(A2 w.heap.size w).alloc (VA _) _):p:=h
theorem dA(h:p:=by show vz ((ac:Int)+B=((ac+B:Nat):Int));unfold vz;omega):p:=h
theorem dC(h:p:=by show au.cell? ⟨wr.heap.size,2,vn⟩=vp (so vh st);exact(bu.cell (p:=⟨wr.heap.size,2,vn⟩) oS).trans oS):p:=h
theorem dD(h:p:=by show au.cell? ⟨wr.heap.size,3,vn⟩=vp (so vh nd);exact(bu.cell (p:=⟨wr.heap.size,3,vn⟩) oS).trans oS):p:=h
theorem dE(h:p:=by exact Ab ((jj _).trans (bu.mono oO))):p:=h
theorem dF(h:p:=by show vz (((i:Int)+j)/2=(c:Int));unfold vz;omega):p:=h
theorem dG(h:p:=by show (m:Int)<al;exact om):p:=h
theorem dH(h:p:=by show xs.length=n;have:=h.1;simpa using this):p:=h
theorem dK(h:p:=by show vz (M9 N H ae bl cu co cj l w wr (Aq.E0 d st m al));rw[show Aq.E0 d st m al=d from by rw[show st=m by have:=Aa aj;omega];exact Aq.rot_left d m al];exact Aa bi):p:=h
theorem dI(h:p:=by show ∃st:Nat,lf=(st:Int);exact⟨lf.toNat,om⟩):p:=h
theorem dJ(h:p:=by show ∃nd:Nat,l0=(nd:Int);exact⟨l0.toNat,om⟩):p:=h
theorem dL(h:p:=by show (Tryz.prog.info? 247).map (·.size)=vp (iv bv).toArray.size;rw[F4];simp[g4]):p:=h
theorem dM(h:p:=by show vz (PL h N H ae ah w q8 (Aq.E0 d st m al));rw[show Aq.E0 d st m al=d from by rw[show st=m by have:=Aa aj;omega];exact Aq.rot_left d m al];exact Aa bi):p:=h
theorem dN(h:p:=by exact h6.trans (I.mono h6.size)):p:=h
theorem dO(h:p:=by show E6 (f+1) (x::r)=Th x.toNat (Cv x r+1)++E6 f (r.drop (Cv x r));exact rfl):p:=h
theorem dS(h:p:=by show ((m:Int)-a==1)=vq;rw[HH];omega):p:=h
theorem dP(h:p:=by show (⟨b,o,vn⟩:vw).add j=⟨b,o+j,vn⟩;unfold Addr.add;split<;>simp_all):p:=h
theorem dQ(h:p:=by show nm.size=fx;rw[<-e8,Jp,e4]):p:=h
theorem dT(h:p:=by show (rowB bs n2).length<=200000;exact om):p:=h
theorem dV(h:p:=by show vz (PL h N H ae ah w (w.alloc (vl #[LF ae,SF h N H ah] 277)) d);exact⟨ja.alloc cn _,Br (Bo _ _) _,oS,oS,by rw[I5 _ _ _ cm];exact o4,cn⟩):p:=h
theorem dX(h:p:=by show (⟨g,0,vn⟩:vw).add j=⟨g,j,vn⟩;unfold Addr.add;split<;>simp_all):p:=h
theorem dY(h:p:=by exact Ab (And.intro g9 (bc.trans mz hf))):p:=h
theorem dZ(h:p:=by show ((i:Int)!=j)=vr;rw[HV];omega):p:=h
theorem qBL(h:p:=by show Region.wanted o (yielded h5 a.tmps)=vr;unfold Region.wanted;rw[lk]):p:=h
theorem qBM(h:p:=by show (w.alloc (vl #[va a1 n1 c1,va a2 n2 c2] 50)).heap[N]? =vp (vl #[va a1 n1 c1,va a2 n2 c2] 50 (0,0));rw[<-f4];exact B2 _ _):p:=h
theorem fC(h:p:=by show (st:Int)<ao;exact om):p:=h
theorem fD(h:p:=by show au.cell? ⟨b,o+j*5,vn⟩=vp (vb r5);exact(bu.cell (p:=⟨b,o+j*5,vn⟩) oO).trans ((I5 _ _ _ (by show b<wr.heap.size;omega)).trans d0)):p:=h
theorem fF(h:p:=by exact(cy.fs.at_ k uX).1):p:=h
theorem fG(h:p:=by exact(cy.fs.at_ k uX).2):p:=h
theorem fE(h:p:=by exact Bq (si z _ (lg.alloc (vl z.cells.toArray 30))) (ai.below (Ar (A2 _ _) (vl z.cells.toArray 30))) (Ar av (vl z.cells.toArray 30))):p:=h
theorem fI(h:p:=by exact(cy.ws.at_ k uZ).1):p:=h
theorem fJ(h:p:=by exact(cy.ws.at_ k uZ).2):p:=h
theorem fH(h:p:=by show (fk.alloc (vl (iv (List.replicate 19 0)).toArray 321)).heap[fk.heap.size]? =vp (vl (iv (List.replicate 19 0)).toArray 321 (0,0));exact B2 _ _):p:=h
theorem fK(h:p:=by show vz (Vh (p^^^4294967295) (bs.take (k+1))=W7 (Vh (p^^^4294967295) (bs.take k)) (bs.getD k 0));exact Ab (by rw[P5 k8,BH])):p:=h
theorem fL(h:p:=by show vz (Aq.E0 d (m-(m-a)) m (m+(b-m))=Aq.E0 d a m b);rw[show m-(m-a)=a by omega,show m+(b-m)=b by omega];exact rfl):p:=h
theorem fM(h:p:=by show (al:Int)<b;exact om):p:=h
theorem fO(h:p:=by show wr.cell? ⟨b1,p,vn⟩=vp (so vh x);rw[(Aa a7).2.1,<-hx];exact(G6.bel.cell (p:=⟨b1,i4+i,vn⟩) bu).trans (ky i om)):p:=h
theorem fP(h:p:=by show wr.cell? ⟨b2,q,vn⟩=vp (so vh y);rw[(Aa a7).2.2,<-hu];exact(G6.bel.cell (p:=⟨b2,o2+j,vn⟩) sh).trans (rs j om)):p:=h
theorem pX(h:p:=by show ht[p]?.getD undef=vc (vp ⟨g,0,vn⟩);simpa using ce):p:=h
theorem fQ(h:p:=by show Ca (rowAt W k) (2*W.length-2)<=W.length;have:=Hi (rowAt W k) (2*W.length-2);rw[Dt]at this;exact this):p:=h
theorem fR(h:p:=by show RB x.f y.f=nz (Kq x.f.stamp y.f.stamp) (nz (Kq x.f.node y.f.node) (nz (Zau x.f.gone y.f.gone) (Dy x.f.bytes y.f.bytes)));exact rfl):p:=h
theorem fS(h:p:=by show vh.wrap ((40000:Int)-n1)=(40000:Int)-n1;simp[IntKind.wrap,IntKind.signed,IntKind.bits];omega):p:=h
theorem fU(h:p:=by show Dy y.name x.name<0;have:=Ew x.name y.name;omega):p:=h
theorem fT(h:p:=by exact Ve ag nm nml ru):p:=h
theorem fV(h:p:=by show vz (w.grownBy ((w.alloc (vl #[LF ae,SF h N H ah] 277)).drewN q) (vp H));exact Fi (Br (Bo _ _) _) q):p:=h
theorem fW(h:p:=by exact(bu.cell (p:=⟨wr.heap.size,1,vn⟩) oS).trans (by simp;rfl)):p:=h
theorem fX(h:p:=by exact(bu.cell (p:=⟨wr.heap.size,4,vn⟩) oS).trans (by simp;rfl)):p:=h
theorem fY(h:p:=by show Cx H ae bl cu co cj l wr;rw[Aa em];exact dl.drewN q):p:=h
theorem fZ(h:p:=by show vz ((wpl l (k+1)).length=(wpl l k).length+(if 0<l.getD k 0 then 1 else 0));rw[wpl,VB];unfold vz;split<;>simp):p:=h
theorem gC(h:p:=by show u.p<=(rowB bs n2).length;exact om):p:=h
theorem gD(h:p:=by show a<=gy/\gy<=hi/\hi<=m/\hi<=ao/\a<ao/\ao<b/\ao+m<=gy+b;have:=Aa p7;have:=Aa j8;omega):p:=h
theorem gE(h:p:=by show vz (Vh (p^^^4294967295) (bs.take k)^^^4294967295=crcN p bs);exact Ab (by rw[VQ uG];rfl)):p:=h
theorem gF(h:p:=by exact Aa nv (wr.alloc (vl #[vb c7,va z.a di z.c,so vh d7,so vh d6,ve ek] 30)) (lz.map.below hh)):p:=h
theorem gG(h:p:=by exact Ab (λys W ai av=>FY dh b ⟨⟨⟨nml,bys,(st:Int),(nd:Int),gn⟩,mt,pk,cr⟩,fa,fc,pa,pc⟩ ys W ai p9 av)):p:=h
theorem gH(h:p:=by exact Ab (λys W ai av=>FZ dh b ⟨⟨⟨nml,bys,(st:Int),(nd:Int),gn⟩,mt,pk,cr⟩,fa,fc,pa,pc⟩ ys W ai p9 av)):p:=h
theorem gI(h:p:=by exact @run_makeMap v8):p:=h
theorem qBN(h:p:=by show (if (n:Int)-k<258 then (n:Int)-(k:Int)else 258)=(m:Int);rw[hm];unfold mst;split<;>omega):p:=h
theorem gJ(h:p:=by exact Ab (Ar (A2 wr.heap.size wr) (vl #[vb c7,va z.a di z.c,so vh d7,so vh d6,ve ek] 30))):p:=h
theorem gK(h:p:=by exact Ab (Ir cz ff pw)):p:=h
theorem qBO(h:p:=by exact Lm (xs:=xs) (k:=k) (by rw[Aa bf];exact aw)):p:=h
theorem gM(h:p:=by exact Ab (λW (a5:vx w.heap.size w W)=>(Oe (dz.below a5) fi e7 hv ii).mono (λe w' h=>EY h))):p:=h
theorem gN(h:p:=by exact Ab (And.intro oz (bc.trans a9.2.1 (bc.trans (by rw[Aa em];exact bc.kd q1 q) (bc.trans (bc.kd wr _) ot))))):p:=h
theorem gO(h:p:=by show hb (Cg bs p n) n≠ [];exact λe=>by have:=congrArg List.length e;rw[Bc]at this;simp at this;omega):p:=h
theorem gQ(h:p:=by show ((w.alloc (vl #[LF ae,SF h N H ah] 277)).drewN q).cell? ⟨w.heap.size,1,vn⟩=vp (SF h N H ah);exact oS):p:=h
theorem gR(h:p:=by exact Ab (Ly cz ff pw)):p:=h
theorem gS(h:p:=by exact(bq.cell (p:=⟨wr.heap.size,0,vn⟩) ct).trans x0):p:=h
theorem gT(h:p:=by exact(bq.cell (p:=⟨wr.heap.size,1,vn⟩) ct).trans x1):p:=h
theorem gU(h:p:=by exact(bq.cell (p:=⟨wr.heap.size,2,vn⟩) ct).trans x2):p:=h
theorem gV(h:p:=by exact(bq.cell (p:=⟨wr.heap.size,3,vn⟩) ct).trans x3):p:=h
theorem gW(h:p:=by exact(bq.cell (p:=⟨wr.heap.size,4,vn⟩) ct).trans x4):p:=h
theorem gX(h:p:=by exact(bq.cell (p:=⟨wr.heap.size,5,vn⟩) ct).trans kk):p:=h
theorem gY(h:p:=by exact(bq.cell (p:=⟨wr.heap.size,6,vn⟩) ct).trans j3):p:=h
theorem gZ(h:p:=by exact(bq.cell (p:=⟨wr.heap.size,7,vn⟩) ct).trans kj):p:=h
theorem mC(h:p:=by show vh.wrap (8+(N:Int))=8+(N:Int);simp[IntKind.wrap,IntKind.signed,IntKind.bits];omega):p:=h
theorem mD(h:p:=by show wr.drew.cell? ⟨b1,p,vn⟩=vp (so vh x);exact U):p:=h
theorem mE(h:p:=by show wr.drew.cell? ⟨b2,q,vn⟩=vp (so vh y);exact gq):p:=h
theorem mF(h:p:=by show PC N H l d wr;rw[Aa em];exact f5.drewN q):p:=h
theorem mG(h:p:=by exact Ab (gn.grown bg oO (λg e=>(gv.lt g e).1))):p:=h
theorem mI(h:p:=by show vz (k+1=i+(j+1)/\p=i4+i/\q+1=o2+(j+1));have:=Aa a7;unfold vz;omega):p:=h
theorem mJ(h:p:=by show (⟨W.heap.size,0,vn⟩:vw).add j=⟨W.heap.size,j,vn⟩;unfold Addr.add;split<;>simp_all):p:=h
theorem mH(h:p:=by show 256^k*y<=256^3*255;exact Nat.mul_le_mul ce om):p:=h
theorem mK(h:p:=by exact Bq (SRow.new w (CM s) ou) (λp ce hb=>JW (s:=s) (p:=p) om ce hb) (Z1p (l:=s) om)):p:=h
theorem mL(h:p:=by show vz (k+1=i+1+j/\p+1=i4+(i+1)/\q=o2+j);have:=Aa a7;unfold vz;omega):p:=h
theorem mM(h:p:=by show vh.wrap (n:Int)=n;simp[IntKind.wrap,IntKind.signed,IntKind.bits];omega):p:=h
theorem mN(h:p:=by show IntKind.u64.wrap (n:Int)=n;simp[IntKind.wrap,IntKind.signed,IntKind.bits];omega):p:=h
theorem mP(h:p:=by show ∃c,c=(i+j)/2;exact⟨_,rfl⟩):p:=h
theorem mQ(h:p:=by show ¬(ao:Int)<al;exact om):p:=h
theorem mR(h:p:=by show ¬(st:Int)<ao;exact om):p:=h
theorem mO(h:p:=by show ∃a c,ov=va a bs.length c;exact Am av):p:=h
theorem mS(h:p:=by show vz (PS N H d ((w.alloc (vl #[LF ae,SF h N H ah] 277)).drewN q));exact(f5.alloc cn _).drewN q):p:=h
theorem mT(h:p:=by show vz (Part d d N 20 0);exact⟨λs h=>om,λ_ _=>rfl,λs i j hi hj hn=>hr i j (VF _) om hn⟩):p:=h
theorem mU(h:p:=by exact Do e8 e4 dn du):p:=h
theorem mV(h:p:=by exact Ab (And.intro ep bb)):p:=h
theorem mW(h:p:=by show ∀(k:Nat) (x:Ev),es[k]? =vp x->l[k]? =vp x.e;exact λk x ba=>by rw[<-je];simp[ba]):p:=h
theorem mX(h:p:=by exact Ab (Aq.Vz (show a<=st by omega) (show st<=m by omega) qi qz qd qe pq cv)):p:=h
theorem mY(h:p:=by show ¬(al:Int)<b;exact om):p:=h
theorem mZ(h:p:=by show ¬(a:Int)<st;exact om):p:=h
theorem nC(h:p:=by show ¬(st:Int)<m;exact om):p:=h
theorem nD(h:p:=by show ((v:Int)==0)=vq;rw[HH];omega):p:=h
theorem nE(h:p:=by show vz (vx au.heap.size au gw);exact hz.grown nx hz.size (λj h=>by cases h;exact UB ma)):p:=h
theorem qBP(h:p:=by show ((F:Int)==0)=vq;rw[HH];omega):p:=h
theorem nF(h:p:=by show (Tryz.prog.info? 321).map (·.size)=vp (iv hg).toArray.size;rw[Z0z];simp[oq]):p:=h
theorem nG(h:p:=by show k<bs.length;rw[Aa ay];exact aw):p:=h
theorem nK(h:p:=by show (Tryz.prog.info? 248).map (·.size)=vp (iv ix).toArray.size;rw[JH];simp[j6]):p:=h
theorem nI(h:p:=by show z.sl=va z.a z.f.bytes.length z.c;exact rfl):p:=h
theorem nJ(h:p:=by show (Tryz.prog.info? 124).map (·.size)=vp (u8s ej).toArray.size;rw[Z9q];simp[mq]):p:=h
theorem nL(h:p:=by show ¬(i:Int)<i;exact om):p:=h
theorem nM(h:p:=by show ∃q,k=q+1;exact⟨k-1,om⟩):p:=h
theorem nN(h:p:=by exact Ab (bi.next cm bk p1 g1)):p:=h
theorem nQ(h:p:=by show lenIs (x::r)=Th x.toNat (Cv x r+1)++E6 r.length (r.drop (Cv x r));exact rfl):p:=h
theorem nP(h:p:=by (show errL l=if 32768<takenN (cnt l) 15 then 8 else 0);unfold errL;rw[A0 om,A0 hn]):p:=h
theorem nO(h:p:=by exact Aa a9 (k+1) om):p:=h
theorem nR(h:p:=by exact Ab (λo=>Aa hh _ (Ar ap o))):p:=h
theorem nS(h:p:=by show (u.e==0)=vq;rw[HH];exact ar):p:=h
theorem nT(h:p:=by show vz (w.grownBy wr (vp H));rw[Aa em];exact Gr (Av _ _) q):p:=h
theorem dW(h:p:=by exact Ab (λW (a5:vx w.heap.size w W)=>Qa (dz.below a5) fi e7 hv ii)):p:=h
theorem nU(h:p:=by show w.heap.size<((w.alloc (vl #[LF ae,SF h N H ah] 277)).drewN q).heap.size;exact oS):p:=h
theorem nV(h:p:=by exact Ab (fu.trans iq)):p:=h
theorem nW(h:p:=by show (k:Int)<N;exact om):p:=h
theorem nX(h:p:=by show (rowAt W k).length=W.length+(Dx W k).length;rw[Ff,Bn]):p:=h
theorem nY(h:p:=by show vx w.heap.size w a6;rw[<-h4];exact((A2 _ _).alloc (VA _) _).alloc oS _):p:=h
theorem nZ(h:p:=by show vz ((ac:Int)+2*(B:Int)=((ac+2*B:Nat):Int));unfold vz;omega):p:=h
theorem pC(h:p:=by show ∀k,(codeT own k).length<=7;exact λk=>by rw[Sc fh];have:=l4 k;omega):p:=h
theorem qBQ(h:p:=by show vx w.heap.size w au;exact((A2 w.heap.size w).alloc (VA _) _).trans (cp.mono oS)):p:=h
theorem pE(h:p:=by show vz (Aq.X1 d a b (i+1)=Aq.swp (Aq.X1 d a b i) (a+i) (b+i));exact rfl):p:=h
theorem pF(h:p:=by show wc.cell? ⟨g6,1,vn⟩=vp (va (vp ⟨b1,0,vn⟩) n1 286);exact Ac f7):p:=h
theorem pD(h:p:=by show w'.cell? ⟨w.heap.size,0,vn⟩=vp (so vh 0);simp[World.cell?,hb]):p:=h
theorem pG(h:p:=by show wc.cell? ⟨g6,2,vn⟩=vp (va (vp ⟨b2,0,vn⟩) n2 30);exact Ac f7):p:=h
theorem pH(h:p:=by exact Ab (And.intro ei (And.intro nb (And.intro oc (gn.trans (cp.mono ak)))))):p:=h
theorem pI(h:p:=by exact Iz sv r6 (vl #[so vh n,so vh q] 230)):p:=h
theorem pK(h:p:=by show ((b:Int)-m==1)=vr;rw[Lq];have:=Aa bu;omega):p:=h
theorem pL(h:p:=by exact exq (gz++(ord19.take k).flatMap (λj=>Al (own.getD j 0).toNat 3))):p:=h
theorem pJ(h:p:=by show (bs.drop q).getD j 0=bs.getD (q+j) 0;simp only[List.getD];rw[XL]):p:=h
theorem pM(h:p:=by show ((m:Int)-a==1)=vr;rw[Lq];have:=Aa hm;omega):p:=h
theorem pN(h:p:=by show W.length-1<=2*W.length-2-Ca (rowAt W k) (2*W.length-2);exact om):p:=h
theorem pP(h:p:=by exact Ab (Cw (Aj g5 (Nu wr H (dk k).2 (dk t).2 k t)))):p:=h
theorem pQ(h:p:=by show vz (Part dy dy N (2*B) 0);exact⟨λs h=>om,λ_ _=>rfl,l3.double⟩):p:=h
theorem pO(h:p:=by show Region.wanted o (yielded h5 a.tmps)=vr;simp[Region.wanted,lk]):p:=h
theorem pR(h:p:=by show ((a:Int)+b)/2=(ao:Int);have:=Aa p7;omega):p:=h
theorem pS(h:p:=by show fw.cell? ⟨wr.heap.size,1,vn⟩=vp (va z.a di z.c);exact Ac dw):p:=h
theorem pT(h:p:=by exact Ii (r:=r) h):p:=h
theorem pU(h:p:=by show w'.frozen? ⟨w.heap.size,0,vn⟩=vq;simp[World.frozen?,hb]):p:=h
theorem pV(h:p:=by exact Mg s6 (vl #[so vh n,so vh q] 230)):p:=h
theorem pW(h:p:=by show vz (Aq.EA ao b d1 f6);rw[ju];exact Aq.EA.refl _ _ _):p:=h
theorem rG(h:p:=by show vz (((st:Int)+r)/2=(c:Int));unfold vz;omega):p:=h
theorem rH(h:p:=by exact Ab ((A2 w.heap.size w).grown bg (VA _) (λj h=>by cases h))):p:=h
theorem pY(h:p:=by exact Bf (n:=st) om):p:=h
theorem pZ(h:p:=by exact Bf (n:=nd) om):p:=h
theorem rC(h:p:=by exact Bf (n:=bl) om):p:=h
theorem rD(h:p:=by exact Bf (n:=pl) om):p:=h
theorem rE(h:p:=by show ARow 248 W2 (au.heap.size+1) ix;rw[<-hw];exact(b5 _ _).2.1):p:=h
theorem rI(h:p:=by exact Bq (a3.next cm bk e5 g2) m1 tt):p:=h
theorem rK(h:p:=by show vz ((ac:Int)+20=((ac+20:Nat):Int));unfold vz;omega):p:=h
theorem rL(h:p:=by show ∃da:Nat->Prop,da=λg=>No g\/g=w.heap.size;exact⟨_,rfl⟩):p:=h
theorem rJ(h:p:=by exact Ab (λW=>by have:=X4 W;rw[j5]at this;exact this)):p:=h
theorem rM(h:p:=by show fw.cell? ⟨wr.heap.size,2,vn⟩=vp (so vh d7);exact Ac dw):p:=h
theorem rO(h:p:=by show fw.cell? ⟨wr.heap.size,3,vn⟩=vp (so vh d6);exact Ac dw):p:=h
theorem rR(h:p:=by show vz (Aq.E0 d a (a+1) (a+1)=d);exact Aq.rot_right d a (a+1)):p:=h
theorem rS(h:p:=by show (ord19.take k).length<=19;rw[VL];exact Nat.min_le_right _ _):p:=h
theorem rP(h:p:=by show ∀z,z∈xs++ [y]->z∈xs\/z=y;intro z ak;simpa using ak):p:=h
theorem rQ(h:p:=by show gw.cell? ⟨b,2,vn⟩=vp (va jw L j4);exact(nh 2 od).trans c2):p:=h
theorem rT(h:p:=by exact Z70 g (o+q) 8 (8+N) 8 (8+(N:Int)) N rfl om om om o9 om):p:=h
theorem rU(h:p:=by show fw.cell? ⟨wr.heap.size,0,vn⟩=vp (vb c7);exact Ac dw):p:=h
theorem qBR(h:p:=by exact Zfj bs k (mst bs.length k) k):p:=h
theorem rV(h:p:=by exact ny.trans (g8.mono ny.size)):p:=h
theorem rX(h:p:=by show vz (M9 N H ae bl cu co cj l w w d);exact⟨ja,Av _ _,bb⟩):p:=h
theorem rW(h:p:=by show errM (fls xs)=K7 vn (fls xs);unfold errM;rw[A0 om]):p:=h
theorem rY(h:p:=by show fw.cell? ⟨wr.heap.size,4,vn⟩=vp (ve ek);exact Ac dw):p:=h
theorem rZ(h:p:=by exact exq (Wt ⟨⟨nml,bys,(st:Int),(nd:Int),gn⟩,mt,pk,cr⟩)):p:=h
theorem qBS(h:p:=by exact exq (Kl ⟨⟨nml,bys,(st:Int),(nd:Int),gn⟩,mt,pk,cr⟩)):p:=h
theorem sC(h:p:=by show wc.cell? ⟨g6,0,vn⟩=vp (va ip iz jh);exact Ac f7):p:=h
theorem qBT(h:p:=by exact Q0 (l:=es.map Ev.e) (k:=k) (x:=x.e) (by simp[U])):p:=h
theorem sE(h:p:=by exact Ab (((A2 w.heap.size w).alloc (VA _) _).trans (hb.mono oS))):p:=h
theorem sF(h:p:=by show (S++T).length=df;rw[VB,Aa hk,Aa hs,j0]):p:=h
theorem sD(h:p:=by show ((oi:Int)!=bd)=vq;simp only[kbq];omega):p:=h
theorem sH(h:p:=by show l.length=n;have:=h.1;rw[Xq]at this;omega):p:=h
theorem sG(h:p:=by show ARow 247 W2 au.heap.size bv;rw[<-hw];exact(b5 _ _).1):p:=h
theorem sJ(h:p:=by show vz (Aq.E0 d m m (m+1)=d);exact Aq.rot_left d m (m+1)):p:=h
theorem sI(h:p:=by show errL l=3;unfold errL;rw[A0 om,A1 ⟨k9,om,m9⟩]):p:=h
theorem sK(h:p:=by exact Ab (And.intro (aa.1.trans cq) (cq.kp _ _ _ _ od od aa.2))):p:=h
theorem sM(h:p:=by show vz (PC N H l d wr);rw[Aa em];exact f5.drewN q):p:=h
theorem sN(h:p:=by show vx w.heap.size w W2;rw[<-hw];exact(b5 _ _).2.2):p:=h
theorem sP(h:p:=by show ((b:Int)-m==1)=vq;rw[HH];omega):p:=h
theorem sO(h:p:=by show Lib.countB s ⟨#[47]⟩=Lib.count s.data.toList [47];exact rfl):p:=h
theorem sQ(h:p:=by show ox<=200000;rw[<-ib,Aa q2];exact Aa qh):p:=h
theorem qBU(h:p:=by exact Bq (dr.below tq) (tn.below tq) (t3.below tq)):p:=h
theorem sS(h:p:=by exact(I.cell (p:=⟨b,o+k,vn⟩) hb).trans (az k cw)):p:=h
theorem sT(h:p:=by show ∃A C v,Dm row u=((A,C),v);exact⟨_,_,_,rfl⟩):p:=h
theorem sU(h:p:=by simp[IntKind.wrap,IntKind.signed,IntKind.bits];omega):p:=h
theorem sV(h:p:=by rw[HH];omega):p:=h
theorem sW(h:p:=by push_cast;rfl):p:=h
theorem sX(h:p:=by rw[show Aq.E0 d st m al=d from by rw[show al=m by have:=Aa aj;omega];exact Aq.rot_right d st m];exact Aa bi):p:=h
theorem sY(h:p:=by rw[HH];exact ar):p:=h
theorem sZ(h:p:=by rw[ka3];omega):p:=h
theorem tC(h:p:=by rw[Aa ay];exact aw):p:=h
theorem tD(h:p:=by decide+kernel):p:=h
theorem tE(h:p:=by simp[List.getD,hj]):p:=h
theorem tG(h:p:=by rw[j9];omega):p:=h
theorem tH(h:p:=by simpa using hj):p:=h
theorem tI(h:p:=by unfold vz;omega):p:=h
theorem tJ(h:p:=by unfold Kq;rw[A0 om,A0 om]):p:=h
theorem tL(h:p:=by unfold Kq;rw[A0 om,A1 hc]):p:=h
theorem tM(h:p:=by unfold IntKind.wrap;simp[IntKind.bits,IntKind.signed];omega):p:=h
theorem tN(h:p:=by simp only[HV,ne_eq];omega):p:=h
theorem tP(h:p:=by rw[VR];omega):p:=h
theorem tQ(h:p:=by unfold ms;rw[m1]):p:=h
theorem tR(h:p:=by rw[<-Aa jf];unfold ukind;simp only[e2];rfl):p:=h
theorem tT(h:p:=by have:=Aa h2;omega):p:=h
theorem tU(h:p:=by simp[List.getD,kx,ce]):p:=h
theorem tV(h:p:=by rw[<-h4];exact(EN _ _ _ oS).trans (B2 w _)):p:=h
theorem tW(h:p:=by unfold Kq;rw[A1 hc]):p:=h
theorem tX(h:p:=by have:=congrArg Prod.snd e;simp at this;omega):p:=h
theorem tY(h:p:=by rw[VL];omega):p:=h
theorem tZ(h:p:=by simp only[VB,Ag];omega):p:=h
theorem uA(h:p:=by repeat (first|with_reducible exact Av _ _|with_reducible refine Cw ?_|with_reducible refine ga ?_ _)):p:=h
theorem uB(h:p:=by unfold Di;constructor<;>simp<;>omega):p:=h
theorem uC(h:p:=by intro h;injection h;omega):p:=h
theorem uD(h:p:=by simp only[CL];omega):p:=h
theorem uE(h:p:=by intro u ey;simp at ey;rcases ey with rfl|rfl<;>rfl):p:=h
theorem uF(h:p:=by rw[Aa ay];omega):p:=h
theorem uG(h:p:=by rw[Aa ay];exact VA _):p:=h
theorem uH(h:p:=by simp[Ag]):p:=h
theorem uJ(h:p:=by simpa using h):p:=h
theorem uI(h:p:=by have:=fj.lt;have:=fj.base;omega):p:=h
theorem uK(h:p:=by rw[Aa bn];exact O.2):p:=h
theorem uL(h:p:=by rw[hl];omega):p:=h
theorem uM(h:p:=by simp[Act.eval]):p:=h
theorem uN(h:p:=by rw[Ag];decide):p:=h
theorem uO(h:p:=by rw[Aa ed];exact e6):p:=h
theorem uP(h:p:=by dsimp only;omega):p:=h
theorem qAI(h:p:=by rw[<-h];exact af):p:=h
theorem uQ(h:p:=by rw[VR];omega):p:=h
theorem uR(h:p:=by rw[i1];omega):p:=h
theorem uS(h:p:=by intro h;injection h with ai;exact hb ai.symm):p:=h
theorem uT(h:p:=by simpa using U):p:=h
theorem uU(h:p:=by rw[<-b9];simp):p:=h
theorem uV(h:p:=by rw[Gb];exact Rv):p:=h
theorem uW(h:p:=by rw[VB];omega):p:=h
theorem uX(h:p:=by rw[As];exact aw):p:=h
theorem uY(h:p:=by simp[MapKept.IsKey]):p:=h
theorem uZ(h:p:=by rw[Aw];exact aw):p:=h
theorem qAA(h:p:=by rw[kbo,I5 _ _ _ cm];exact Aa hh):p:=h
theorem qAB(h:p:=by intro j u hj;match j,hj with|0,hj=>simp at hj;subst hj;simp[Addr.add]):p:=h
theorem qAT(h:p:=by rw[Aa a7];exact d5):p:=h
theorem qAC(h:p:=by rw[ai];rfl):p:=h
theorem qAD(h:p:=by first|rfl|simp[Value.oneCell']):p:=h
theorem qBV(h:p:=by simpa using e):p:=h
theorem qAE(h:p:=by rw[Aa ka];omega):p:=h
theorem qAF(h:p:=by rw[Aa ky];omega):p:=h
theorem qAG(h:p:=by rw[Aa lv,Aa bf];omega):p:=h
theorem qAH(h:p:=by first|rfl|kernel_rfl|simp):p:=h
theorem qAJ(h:p:=by rw[Aa ee,Dk,Aa o5,Dk,Aa bc];rfl):p:=h
theorem qBW(h:p:=by intro u ey;simp at ey;rcases ey with rfl|rfl|rfl<;>rfl):p:=h
theorem qAK(h:p:=by simpa using ba):p:=h
theorem qAL(h:p:=by rw[Hb];exact F3):p:=h
theorem qAM(h:p:=by rw[VL];omega):p:=h
theorem qAN(h:p:=by simp only[VB,Ag,ko,Cf,Aa oj];omega):p:=h
theorem qAO(h:p:=by intro v c5;simp at c5;rcases c5 with rfl|rfl<;>rfl):p:=h
theorem qAP(h:p:=by rw[Aa ed];exact VA _):p:=h
theorem qAQ(h:p:=by rw[Aa ob,Aa mz,Dk,Dk,Dk]):p:=h
theorem qAR(h:p:=by rw[Aa f5,Aa rj]):p:=h
theorem qBX(h:p:=by rw[Aa ds];exact d5):p:=h
theorem qAS(h:p:=by rw[<-Ff];omega):p:=h
theorem qAU(h:p:=by intro u ey;obtain⟨x,_,rfl⟩:=WU.1 ey;rfl):p:=h
theorem qAV(h:p:=by rw[Aa ay];exact dw):p:=h
theorem qAW(h:p:=by rw[Af];omega):p:=h
theorem qBY(h:p:=by rw[Aa t1];exact λx U=>by cases U):p:=h
theorem qAX(h:p:=by show w.heap.size<_;omega):p:=h
theorem qAY(h:p:=by intro u ey;simp at ey;subst ey;rfl):p:=h
theorem qAZ(h:p:=by simpa using ia):p:=h
theorem qBA(h:p:=by rw[Aa lv,Aa bf]):p:=h
theorem qBB(h:p:=by simp only[VB,Ag,ko,Aa oj];omega):p:=h
end Go.Proofs.YtleocpdblhbimaaGreatDoor
