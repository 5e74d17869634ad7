import Derived.Test.YtieianhejdcgdaaGreatDoorQ15
import Derived.Laws.EntriesVeiled
set_option maxHeartbeats 8000000
namespace Go.Proofs.YtieianhejdcgdaaGreatDoor
open Go.RowKit
set_option linter.unusedVariables false
set_option linter.unusedSimpArgs false
set_option maxRecDepth 100000
theorem Fm:(Tryz.prog.info? 286).map (·.size)=some 2:=by kernel_rfl
theorem Ss {ops:Array Oper}{o:Oper}{a:Act}{W:World}{K:Act->World->Prop}{Q:Exit->Act->World->Prop}{E:Prop}(hgd:o.guard=none)(T:TypeId)(x y:Operand)(ho:o.op=.store T x y)
 (g:Nat) (vs old:Array Value) (hx:a.eval x=.pointer (some ⟨g,0,none⟩)) (hy:a.eval y=.agg vs) (hA:W.heap[g]? =some (.cells old T (0,0))) (hi:(Tryz.prog.info? T).map (·.size)=some vs.size) (hsz:old.size=vs.size) (h1:vs.all (·.oneCell')=true) (h:K (a.put o.dst undef) (W.setRow g vs)):if Region.wanted o (yielded ops a.tmps)=true then Oper.wp Tryz.prog o a W K Q else E:=by
 have e:Region.wanted o (yielded ops a.tmps)=true:=by unfold Region.wanted;rw[hgd]
 rw[if_pos e];exact wp_store_row T x y ho g vs hx hy T old hA hi hsz h1 h
theorem Iw (w:World)(g:Nat)(cs:Array Value):w.grownBy (w.setRow g cs) (some g):=by
 have hb:=Av (Below.refl 0 w) (VM g) cs;exact⟨hb.os,hb.tape,hb.output,hb.size,fun g' _ hne=>Go.setRow_other _ _ _ _ (fun e=>hne (by rw[e]))⟩
theorem CW (row:List Bool)(u u1 u2 u3:US)(m0 n0 c0:Nat)(g1:uget row 5 u=(m0,u1))(g2:uget row 5 u1=(n0,u2))(g3:uget row 4 u2=(c0,u3))(h3:u3.e≠0):(Db row u).2=u3:=Mp row u u1 u2 u3 m0 n0 c0 g1 g2 g3 u3 h3 (by
 split
 . rw[Tj 8 u3 h3];exact Jf _ _ _ _ h3
 . exact Jf _ _ _ _ h3)
theorem IH (row:List Bool)(u u1 u2 u3 us:US)(m0 n0 c0:Nat)(S:List Int)(g1:uget row 5 u=(m0,u1))(g2:uget row 5 u1=(n0,u2))(g3:uget row 4 u2=(c0,u3))(hm:m0+257<=286)(hn:n0+1<=30)(sm:usmall row (ord19.take (c0+4)) (List.replicate 19 0) u3=(S,us))(es:us.e=0)(cs:errL S≠0):(Db row u).2= {us with e:=8}:=by
 have hs:Gj row (m0+257) (n0+1) (c0+4) u3=(S,us):=by
  unfold Gj;rw[if_neg (by omega)];exact sm
 have hu:Tq (S,us)= {us with e:=8}:=by
  unfold Tq Ay;rw[if_pos ⟨es,cs⟩,if_pos es]
 unfold Db;simp only[g1,g2,g3];rw[hs];unfold Nn;rw[hu,if_pos (by exact(by decide:(8:Int)≠0))]
theorem CX (row:List Bool)(u u1 u2 u3:US)(m0 n0 c0:Nat)(g1:uget row 5 u=(m0,u1))(g2:uget row 5 u1=(n0,u2))(g3:uget row 4 u2=(c0,u3))(e3:u3.e=0)(hm:286<m0+257\/30<n0+1):(Db row u).2= {u3 with e:=8}:=Mp row u u1 u2 u3 m0 n0 c0 g1 g2 g3 _ (by exact(by decide:(8:Int)≠0)) (by
 rw[if_pos hm];have e8:Ay 8 u3= {u3 with e:=8}:=by unfold Ay;rw[if_pos e3]
 rw[e8];exact Jf _ _ _ _ (by exact(by decide:(8:Int)≠0)))
def Z7c (No:Nat->Prop)(B:Nat)(w:World)(b:Nat)(R f1 f2:Value)(A C:List Int)(v:US)(e:Ending)(w':World):Prop:=
 (v.e≠0/\e=Flt v.e/\Bl No B w w')\/ (v.e=0/\Rk No B w b R f1 f2 v w'/\Good A/\Good C/\∃g1 m1 b1 n1 g2 m2 b2 n2,e=.returned (.agg #[DV g1 m1,DV g2 m2])/\DIs w' g1 m1 b1 n1 b A/\DIs w' g2 m2 b2 n2 b C/\(w.heap.size<=g1/\w.heap.size<=m1/\w.heap.size<=b1)/\(w.heap.size<=g2/\w.heap.size<=m2/\w.heap.size<=b2))
theorem B6 (No:Nat->Prop)(B b:Nat)(a:Option Addr)(n cap:Nat)(bs:List Nat)(f1 f2:Value)(u:US)(w:World)(h:IIs No B w b (.slice a n cap) f1 f2 u)(hR:Rd w No a n bs)(hp:u.p<=8*n)(he:u.e=0)(hNo:∀g,w.heap.size<=g->¬No g)(A C:List Int)(v:US)(hr:Hid (Db (rowB bs n) u=((A,C),v))):
 Calls Tryz.prog 260 #[.pointer (some ⟨b,0,none⟩)] w fun e w'=>Z7c No B w b (.slice a n cap) f1 f2 A C v e w':=by
 have hrl:=Ag bs n;have hbl:=h.lt;have HK0:=Ab (Rk.refl h)
 have HNK:Hid (∀wr:World,w.heap.size<=wr.heap.size->∀g,wr.heap.size<=g->¬NK No w.heap.size wr.heap.size g):=Ab (fun wr hs g hg e=>by
  rcases e with e|e
  . exact hNo g (by omega) e
  . omega)
 have HNo:=Ab hNo;have HRW:Hid (∀wr:World,Bl No B w wr->Rd wr (NJ No w.heap.size) a n bs/\Rd wr (NK No w.heap.size wr.heap.size) a n bs):=Ab (fun wr hb=>⟨(hR.keep hb.below.size hb.kp).wide (fun _ h=>.inl h),(hR.keep hb.below.size hb.kp).wide (fun _ h=>.inl h)⟩);obtain⟨m0,u1,h1⟩:∃r y,uget (rowB bs n) 5 u=(r,y):=⟨_,_,rfl⟩
 obtain⟨n0,u2,h2⟩:∃r y,uget (rowB bs n) 5 u1=(r,y):=⟨_,_,rfl⟩
 obtain⟨c0,u3,h3⟩:∃r y,uget (rowB bs n) 4 u2=(r,y):=⟨_,_,rfl⟩
 have p1:u1.p<=8*n:=by have:=Gp (rowB bs n) 5 u (by omega);rw[h1,hrl]at this;exact this
 have p2:u2.p<=8*n:=by have:=Gp (rowB bs n) 5 u1 (by omega);rw[h2,hrl]at this;exact this
 have p3:u3.p<=8*n:=by have:=Gp (rowB bs n) 4 u2 (by omega);rw[h3,hrl]at this;exact this
 have l1:m0<32:=by have:=PY (rowB bs n) 5 u;rw[h1]at this;exact this
 have l2:n0<32:=by have:=PY (rowB bs n) 5 u1;rw[h2]at this;exact this
 have l3:c0<16:=by have:=PY (rowB bs n) 4 u2;rw[h3]at this;exact this
 have HV:Hid (v=(Db (rowB bs n) u).2):=Ab (by rw[Aa hr]);have HST:Hid (u3.e≠0->v=u3):=Ab (fun e=>by rw[Aa HV];exact CW (rowB bs n) u u1 u2 u3 m0 n0 c0 h1 h2 h3 e)
 have HB1:Hid (u1.e≠0->u3=u1):=Ab (fun e=>by
  have q2:u2=u1:=by have:=Ff (rowB bs n) 5 u1 e;rw[h2]at this;exact this
  have q3:u3=u2:=by have:=Ff (rowB bs n) 4 u2 (by rw[q2];exact e);rw[h3]at this;exact this
  rw[q3,q2])
 have HB2:Hid (u2.e≠0->u3=u2):=Ab (fun e=>by have:=Ff (rowB bs n) 4 u2 e;rw[h3]at this;exact this);have HMANY:Hid (u3.e=0->(286<m0+257\/30<n0+1)->v= {u3 with e:=8}):=Ab (fun e h4=>by rw[Aa HV];exact CX (rowB bs n) u u1 u2 u3 m0 n0 c0 h1 h2 h3 e h4);have HN1:Hid (∀W,Rk No B w b (.slice a n cap) f1 f2 u W->Calls Tryz.prog 238 #[.pointer (some ⟨b,0,none⟩),.int .i64 5] W fun e w'=>Got (NJ No w.heap.size) B W b (.slice a n cap) f1 f2 (.int .i64 (m0:Int)) u1 e w'):=Ab (fun W hk=>Dt (NJ No w.heap.size) B b a n cap 5 bs f1 f2 u W hk.is (Aa HRW W hk.bl).1 hp he (by decide) m0 u1 (Ab h1));have HN2:Hid (∀W,u1.e=0->Rk No B w b (.slice a n cap) f1 f2 u1 W->Calls Tryz.prog 238 #[.pointer (some ⟨b,0,none⟩),.int .i64 5] W fun e w'=>Got (NJ No w.heap.size) B W b (.slice a n cap) f1 f2 (.int .i64 (n0:Int)) u2 e w'):=Ab (fun W he hk=>Dt (NJ No w.heap.size) B b a n cap 5 bs f1 f2 u1 W hk.is (Aa HRW W hk.bl).1 p1 he (by decide) n0 u2 (Ab h2));have HN3:Hid (∀W,u2.e=0->Rk No B w b (.slice a n cap) f1 f2 u2 W->Calls Tryz.prog 238 #[.pointer (some ⟨b,0,none⟩),.int .i64 4] W fun e w'=>Got (NJ No w.heap.size) B W b (.slice a n cap) f1 f2 (.int .i64 (c0:Int)) u3 e w'):=Ab (fun W he hk=>Dt (NJ No w.heap.size) B b a n cap 4 bs f1 f2 u2 W hk.is (Aa HRW W hk.bl).1 p2 he (by decide) c0 u3 (Ab h3));obtain⟨S,us,hS⟩:∃S us,usmall (rowB bs n) (ord19.take (c0+4)) (List.replicate 19 0) u3=(S,us):=⟨_,_,rfl⟩
 have HCL:Hid (∀W,u3.e=0->Rk No B w b (.slice a n cap) f1 f2 u3 W->Calls Tryz.prog 280 #[.pointer (some ⟨b,0,none⟩),.int .i64 (4+(c0:Int))] W fun e w'=>Z6a (NK No w.heap.size W.heap.size) B W b (.slice a n cap) f1 f2 S us e w'):=Ab (fun W he hk=>by
  have:=Ng (NK No w.heap.size W.heap.size) B b a n cap bs f1 f2 u3 W hk.inner (Aa HRW W hk.bl).2 p3 he (Aa HNK W hk.bl.below.size) (c0+4) (by omega) S us (Ab hS)
  rw[show ((c0+4:Nat):Int)=4+(c0:Int) by omega]at this;exact this)
 have hSl:S.length=19:=by have:=Tm (row:=rowB bs n) (ks:=ord19.take (c0+4)) (s:=List.replicate 19 0) (u:=u3);rw[hS]at this;simpa using this
 have hSv:∀x∈S,0<=x/\x<=7:=by have:=Px (row:=rowB bs n) (ord19.take (c0+4)) (List.replicate 19 0) u3 (by intro x hx;rw[List.eq_of_mem_replicate hx];decide);rw[hS]at this;exact this
 have HSE:Hid (errL S≠0->errL S=8):=Ab (fun e=>by
  rcases U9 S (by omega) (fun x hx=>by have:=hSv x hx;omega)with h|h
  . exact absurd h e
  . exact h)
 have HVS:Hid (286<m0+257\/30<n0+1\/ (us.e≠0->v=us)/\(us.e=0->errL S≠0->v= {us with e:=8})):=Ab (by
  by_cases q1:286<m0+257
  . exact .inl q1
  . by_cases q2:30<n0+1
    . exact .inr (.inl q2)
    . refine .inr (.inr ⟨fun e=> ?_,fun e1 e2=> ?_⟩)
      . rw[Aa HV];exact Mp (rowB bs n) u u1 u2 u3 m0 n0 c0 h1 h2 h3 us e (by rw[if_neg (by omega),hS])
      . rw[Aa HV];exact IH (rowB bs n) u u1 u2 u3 us m0 n0 c0 S h1 h2 h3 (by omega) (by omega) hS e1 e2)
 obtain⟨L,v',hL⟩:∃L v',ulens (rowB bs n) S (m0+257+(n0+1)) (m0+257+(n0+1)) [] us=(L,v'):=⟨_,_,rfl⟩
 obtain⟨tot,htot⟩:∃tot,m0+257+(n0+1)=tot:=⟨_,rfl⟩
 have HLN:Hid (∀W gr gm mb nn,us.e=0->errL S=0->Rk No B w b (.slice a n cap) f1 f2 us W->DIs W gr gm mb nn b S->w.heap.size<=gr->w.heap.size<=gm->w.heap.size<=mb->Calls Tryz.prog 279 #[.pointer (some ⟨b,0,none⟩),DV gr gm,.int .i64 (257+(m0:Int)+(1+(n0:Int)))] W fun e w'=>(v'.e≠0/\e=Flt v'.e/\Bl (NK No w.heap.size W.heap.size) B W w')\/ (v'.e=0/\Rk (NK No w.heap.size W.heap.size) B W b (.slice a n cap) f1 f2 v' w'/\∃sv,e=.returned sv/\w'.ownsRow W.heap.size 3 1 sv L.length (iv L)/\L.length=tot)):=Ab (fun W gr gm mb nn he hes hk hd q1 q2 q3=>by
  have r1:=hd.lt;have r2:=hd.is.lt;have pus:us.p<=8*n:=by have:=(Vs (ks:=ord19.take (c0+4)) (s:=List.replicate 19 0) (row:=rowB bs n) (u:=u3) (by rw[hS];exact he) (by omega)).2.1;rw[hS,hrl]at this;exact this
  have:=T3 (NK No w.heap.size W.heap.size) B b a n cap bs f1 f2 us W hk.inner (Aa HRW W hk.bl).2 pus he (Aa HNK W hk.bl.below.size) gr gm mb nn S hd (Ci hes) ⟨.inr ⟨q1,r1.1⟩,.inr ⟨q2,r1.2⟩,.inr ⟨q3,r2⟩⟩ hSl tot (by omega) L v' (Ab (by rw[<-htot];exact hL))
  rw[show ((tot:Nat):Int)=257+(m0:Int)+(1+(n0:Int)) by omega]at this;exact this)
 have HE:Hid (m0+257<=286->n0+1<=30->us.e=0->errL S=0->Ig (m0+257) (L,v')=((A,C),v)):=Ab (fun q1 q2 q3 q4=>by
  rw[<-Aa hr,QM (rowB bs n) u u1 u2 u3 us m0 n0 c0 S h1 h2 h3 q1 q2 hS q3 q4,hL])
 have HLV:Hid (v'.e=0->∀x∈L,0<=x/\x<=15):=Ab (fun e=>by
  have:=To (row:=rowB bs n) (tot:=m0+257+(n0+1)) hSl (m0+257+(n0+1)) [] us (by simp) (by rw[hL];exact e)
  rw[hL]at this;exact this)
 clear h hR hp he hNo h1 h2 h3 hS hL hSv hr;go_enter Tryz.func260,Tryz.ntmps260
 go_wp2_with fail
 refine(Aa HN1 _ ((Aa HK0).past ((Below.refl _ _).alloc (VC _) _))).mono ?_;have K1:=Ab ((Aa HK0).past ((Below.refl _ _).alloc (VC _) (.cells #[.nilFunc,.nilFunc] 286)));have hcw:(w.alloc (.cells #[.nilFunc,.nilFunc] 286)).heap[w.heap.size]? =some (.cells #[.nilFunc,.nilFunc] 286 (0,0)):=heap_alloc_new _ _;have HCW:=Ab hcw;have hzA:w.heap.size<(w.alloc (.cells #[.nilFunc,.nilFunc] 286)).heap.size:=by simp
 clear hcw;generalize w.alloc (.cells #[.nilFunc,.nilFunc] 286)=wA at*;rintro e w1 hg
 rcases hg with ⟨e1,rfl,hU1⟩|⟨e1,rfl,hB1⟩
 rotate_left
 . have HF:Hid (v=u1):=Ab (by rw[Aa HST (by rw[Aa HB1 e1];exact e1),Aa HB1 e1]);have HB:=Ab ((Aa K1).bl.trans (hB1.weaken (fun _ h=>.inl h)));clear hB1;go_wp2;exact⟨rfl,.inl ⟨by rw[Aa HF];exact e1,by rw[Aa HF],Aa HB⟩⟩
 have K2:=Ab ((Aa K1).num hU1);have HC1:Hid (w1.heap[w.heap.size]? =some (.cells #[.nilFunc,.nilFunc] 286 (0,0))):=Ab ((hU1.kp _ hzA (.inr (VC _))).trans (Aa HCW));have hz1:w.heap.size<w1.heap.size:=by have:=hU1.below.size;omega
 clear hU1;go_wp2_with fail
 refine(Aa HN2 w1 e1 (Aa K2)).mono ?_;rintro e w2 hg
 rcases hg with ⟨e2,rfl,hU2⟩|⟨e2,rfl,hB2⟩
 rotate_left
 . have HF:Hid (v=u2):=Ab (by rw[Aa HST (by rw[Aa HB2 e2];exact e2),Aa HB2 e2]);have HB:=Ab ((Aa K2).bl.trans (hB2.weaken (fun _ h=>.inl h)));clear hB2;go_wp2;exact⟨rfl,.inl ⟨by rw[Aa HF];exact e2,by rw[Aa HF],Aa HB⟩⟩
 have K3:=Ab ((Aa K2).num hU2);have HC2:Hid (w2.heap[w.heap.size]? =some (.cells #[.nilFunc,.nilFunc] 286 (0,0))):=Ab ((hU2.kp _ hz1 (.inr (VC _))).trans (Aa HC1));have hz2:w.heap.size<w2.heap.size:=by have:=hU2.below.size;omega
 clear hU2;go_wp2_with fail
 refine(Aa HN3 w2 e2 (Aa K3)).mono ?_;rintro e w3 hg
 rcases hg with ⟨e3,rfl,hU3⟩|⟨e3,rfl,hB3⟩
 rotate_left
 . have HF:Hid (v=u3):=Ab (Aa HST e3);have HB:=Ab ((Aa K3).bl.trans (hB3.weaken (fun _ h=>.inl h)));clear hB3;go_wp2;exact⟨rfl,.inl ⟨by rw[Aa HF];exact e3,by rw[Aa HF],Aa HB⟩⟩
 have K4:=Ab ((Aa K3).num hU3);have HC3:Hid (w3.heap[w.heap.size]? =some (.cells #[.nilFunc,.nilFunc] 286 (0,0))):=Ab ((hU3.kp _ hz2 (.inr (VC _))).trans (Aa HC2));have hz3:w.heap.size<w3.heap.size:=by have:=hU3.below.size;omega
 clear hU3;have HGU:=Ab (Bw 8 w3)
 by_cases q1:286<m0+257
 . have HF:Hid (v= {u3 with e:=8}):=Ab (Aa HMANY e3 (.inl q1));have q1I:(286:Int)<257+(m0:Int):=by omega
   go_wp2_with fail
   refine(Aa HGU).mono ?_;rintro e w4 ⟨rfl,rfl⟩;go_wp2;exact⟨rfl,.inl ⟨by rw[Aa HF];exact(by decide:(8:Int)≠0),by rw[Aa HF],(Aa K4).bl⟩⟩
 have q1I:¬(286:Int)<257+(m0:Int):=by omega
 by_cases q2:30<n0+1
 . have HF:Hid (v= {u3 with e:=8}):=Ab (Aa HMANY e3 (.inr q2));have q2I:(30:Int)<1+(n0:Int):=by omega
   go_wp2_with fail
   refine(Aa HGU).mono ?_;rintro e w4 ⟨rfl,rfl⟩;go_wp2;exact⟨rfl,.inl ⟨by rw[Aa HF];exact(by decide:(8:Int)≠0),by rw[Aa HF],(Aa K4).bl⟩⟩
 have q2I:¬(30:Int)<1+(n0:Int):=by omega
 have HVS2:Hid ((us.e≠0->v=us)/\(us.e=0->errL S≠0->v= {us with e:=8})):=Ab (by
  rcases Aa HVS with h|h|h
  . exact absurd h q1
  . exact absurd h q2
  . exact h)
 clear HGU HVS HMANY HST HB1 HB2 HN1 HN2 HN3;go_wp2_with fail
 refine(Aa HCL w3 e3 (Aa K4)).mono ?_;rintro e w4 hg
 rcases hg with ⟨e4,rfl,hB4⟩|⟨e4,es4,rfl,hB4⟩|⟨e4,es4,hK4,gr,gm,mb,nn,rfl,d1,d2,d3,d4,d5⟩
 . have HF:Hid (v=us):=Ab ((Aa HVS2).1 e4);have HB:=Ab ((Aa K4).bl.trans (hB4.weaken (fun _ h=>.inl h)));clear hB4;go_wp2;exact⟨rfl,.inl ⟨by rw[Aa HF];exact e4,by rw[Aa HF],Aa HB⟩⟩
 . have HF:Hid (v= {us with e:=8}):=Ab ((Aa HVS2).2 e4 es4);have HB:=Ab ((Aa K4).bl.trans (hB4.weaken (fun _ h=>.inl h)));have HE8:=Ab (Aa HSE es4);clear hB4;go_wp2;exact⟨rfl,.inl ⟨by rw[Aa HF];exact(by decide:(8:Int)≠0),by rw[Aa HF,Aa HE8],Aa HB⟩⟩
 have K5:=Ab ((Aa K4).step hK4);have HC4:Hid (w4.heap[w.heap.size]? =some (.cells #[.nilFunc,.nilFunc] 286 (0,0))):=Ab ((hK4.bl.kp _ hz3 (.inr ⟨VC _,hz3⟩)).trans (Aa HC3));have hz4:w.heap.size<w4.heap.size:=by have:=hK4.bl.below.size;omega
 have HLC:=Ab (Aa HLN w4 gr gm mb nn e4 es4 (Aa K5) d5 (by omega) (by omega) (by omega));clear hK4 d1 d2 d3 d4 d5 HLN HCL HVS2 HSE;go_wp2_with fail
 refine(Aa HLC).mono ?_;rintro e w5 hg
 rcases hg with ⟨e5,rfl,hB5⟩|⟨e5,hK5,sv,rfl,hO5,hlen⟩
 . have HF:Hid (v=v'):=Ab (by
    have:=Aa HE (by omega) (by omega) e4 es4
    unfold Ig at this;rw[if_pos e5]at this;exact(VU this).2.symm)
   have HB:=Ab ((Aa K5).bl.trans (hB5.weaken (fun _ h=>.inl h)));clear hB5;go_wp2;exact⟨rfl,.inl ⟨by rw[Aa HF];exact e5,by rw[Aa HF],Aa HB⟩⟩
 have K6:=Ab ((Aa K5).step hK5);have HC5:Hid (w5.heap[w.heap.size]? =some (.cells #[.nilFunc,.nilFunc] 286 (0,0))):=Ab ((hK5.bl.kp _ hz4 (.inr ⟨VC _,hz4⟩)).trans (Aa HC4));have hz5:w.heap.size<w5.heap.size:=by have:=hK5.bl.below.size;omega
 rw[hlen]at hO5;obtain⟨gL,cL,rfl,hgL1,hgL2⟩:=Bt hO5 (by omega);have hcap:=RZ hO5
 have hRL:Row .i64 w5 gL 0 L:=by
  obtain⟨a',c',eL,hl2,hRI,_⟩:=Wd hO5
  cases eL
  rcases hRI with h0|⟨g',o',e',_,h3⟩
  . rw[h0]at hl2;simp at hl2;omega
  . cases e';exact h3
 have HRL:=Ab hRL;have HLEN:=Ab hlen;have c256:w5.cell? ⟨gL,256,none⟩=some (.int .i64 (L.getD 256 0)):=by have:=hRL 256 (by omega);rw[WI]at this;exact this
 have HEE:Hid (Ig (m0+257) (L,v')=((A,C),v)):=Ab (Aa HE (by omega) (by omega) e4 es4);have HLV2:=Ab (Aa HLV e5);obtain⟨z,hz⟩:∃z,L.getD 256 0=z:=⟨_,rfl⟩
 rw[hz]at c256;have HZ:=Ab hz;clear hK5 hO5 hRL hz HE HLV HLC K1 K2 K3 K4 K5 HC1 HC2 HC3 HC4 HCW HK0;have h256I:(256:Int)<(tot:Int):=by omega
 by_cases z0:z=0
 . have HF:Hid (v= {v' with e:=8}):=Ab (by
    have:=Aa HEE
    unfold Ig at this;rw[if_neg (fun c=>c e5),if_pos (.inl ((Aa HZ).trans z0))]at this;rw[<-(VU this).2];unfold Ay;rw[if_pos e5])
   have HGU:=Ab (Bw 8 w5);subst z0;go_wp2_with fail
   refine(Aa HGU).mono ?_;rintro e w6 ⟨rfl,rfl⟩;go_wp2;exact⟨rfl,.inl ⟨by rw[Aa HF];exact(by decide:(8:Int)≠0),by rw[Aa HF],(Aa K6).bl⟩⟩
 have z0b:(z==0)=false:=by rw[beq_eq_false_iff_ne];exact z0
 obtain⟨m,hm⟩:∃m,m0+257=m:=⟨_,rfl⟩
 have hmI:257+(m0:Int)=(m:Int):=by omega
 have hmt:m<=tot:=by omega
 have hA1:(L.take m).length=m:=by rw[VL];have:=Aa HLEN;omega
 have hA2:(L.drop m).length=tot-m:=by rw[VO,Aa HLEN]
 have HD1:=Ab (fun q=>Kk b (some ⟨gL,0,none⟩) m cL (L.take m) (w5.drewN q) hA1 (by omega) (.inr ⟨gL,0,rfl,hgL2,fun j hj=>by
  have:=Aa HRL j (by have:=Aa HLEN;omega)
  have e:(L.take m).getD j 0=L.getD j 0:=by simp only[List.getD];rw[XM (by omega)]
  rw[e];exact this⟩))
 have HD2:Hid (∀W,Below w5.heap.size w5 W->Calls Tryz.prog 278 #[.pointer (some ⟨b,0,none⟩),.slice (some ⟨gL,m,none⟩) (tot-m) (cL-m)] W fun e w'=>Z7d b (L.drop m) W e w'):=Ab (fun W hB=>Kk b (some ⟨gL,m,none⟩) (tot-m) (cL-m) (L.drop m) W hA2 (by omega) (.inr ⟨gL,m,rfl,by have:=hB.size;omega,fun j hj=>by
  have hj2:m+j<L.length:=by rw[VO]at hj;omega
  have:=Aa HRL (m+j) hj2
  rw[WI]at this;have e:(L.drop m).getD j 0=L.getD (m+j) 0:=by simp only[List.getD];rw[XP]
  rw[e];exact(hB.cell (p:=⟨gL,m+j,none⟩) hgL2).trans this⟩))
 have HBAD:Hid (errL (L.take m)≠0\/errL (L.drop m)≠0->v= {v' with e:=8}):=Ab (fun hbad=>by
  have:=Aa HEE
  unfold Ig at this;rw[if_neg (fun c=>c e5),hm,if_pos (.inr hbad)]at this;rw[<-(VU this).2];unfold Ay;rw[if_pos e5])
 have HOK:Hid (errL (L.take m)=0->errL (L.drop m)=0->A=L.take m/\C=L.drop m/\v=v'):=Ab (fun ha hc=>by
  have:=Aa HEE
  unfold Ig at this
  rw[if_neg (fun c=>c e5),hm,if_neg (by
   rintro (c|c|c)
   . exact z0 ((Aa HZ).symm.trans c)
   . exact c ha
   . exact c hc)]at this
  exact⟨(VU (VU this).1).1.symm,(VU (VU this).1).2.symm,(VU this).2.symm⟩)
 have H8:Hid ((errL (L.take m)≠0->errL (L.take m)=8)/\(errL (L.drop m)≠0->errL (L.drop m)=8)):=Ab (by
  constructor
  . intro e
    rcases U9 (L.take m) (by omega) (fun x hx=>Aa HLV2 x (VS hx))with h|h
    . exact absurd h e
    . exact h
  . intro e
    rcases U9 (L.drop m) (by omega) (fun x hx=>Aa HLV2 x (WB hx))with h|h
    . exact absurd h e
    . exact h)
 have hm0:(m:Int)<=(tot:Int):=by omega
 have hm1:(m:Int)<=(cL:Int):=by omega
 have hm2:(tot:Int)<=(cL:Int):=by omega
 have hcm:¬cL=m:=by omega
 rw[hmI];clear hmI;clear hA1 hA2;go_wp2;refine wp_region_any (by kernel_rfl) ?_
 try (change wpAny _ _ _ _ _ _ _ (World.drew _))
 refine wpAny_take (i:=0) (v:=.pointer (some ⟨b,0,none⟩)) rfl (by kernel_rfl) (by kernel_rfl) (by kernel_rfl) (fun _ _ _ h=>h) (Or.inl ⟨by rfl,fun W=>by go_simp⟩) ?_;simp only[Act.put,VA,VD,VE];refine wpAny_take (i:=1) (v:=.slice (some ⟨gL,0,none⟩) tot cL) rfl (by kernel_rfl) (by kernel_rfl) (by kernel_rfl) (fun _ _ _ h=>h) (Or.inl ⟨by rfl,fun W=>by go_simp⟩) ?_;simp only[Act.put,VA,VD,VE];refine wpAny_take (i:=2) (v:=.int .i64 (m:Int)) rfl (by kernel_rfl) (by kernel_rfl) (by kernel_rfl) (fun _ _ _ h=>h) (Or.inl ⟨by rfl,fun W=>by go_simp⟩) ?_;simp only[Act.put,VA,VD,VE];refine wpAny_take (i:=3) (v:=.slice (some ⟨gL,0,none⟩) m cL) rfl (by kernel_rfl) (by kernel_rfl) (by kernel_rfl) (fun _ _ _ h=>h) (Or.inl ⟨by rfl,fun W=>by go_simp⟩) ?_;simp only[Act.put,VA,VD,VE];refine wpAny_take (i:=5) (v:=.pointer (some ⟨b,0,none⟩)) rfl (by kernel_rfl) (by kernel_rfl) (by kernel_rfl) (fun _ _ _ h=>h) (Or.inl ⟨by rfl,fun W=>by go_simp⟩) ?_;simp only[Act.put,VA,VD,VE];refine wpAny_take (i:=6) (v:=.slice (some ⟨gL,0,none⟩) tot cL) rfl (by kernel_rfl) (by kernel_rfl) (by kernel_rfl) (fun _ _ _ h=>h) (Or.inl ⟨by rfl,fun W=>by go_simp⟩) ?_;simp only[Act.put,VA,VD,VE];refine wpAny_take (i:=7) (v:=.int .i64 (m:Int)) rfl (by kernel_rfl) (by kernel_rfl) (by kernel_rfl) (fun _ _ _ h=>h) (Or.inl ⟨by rfl,fun W=>by go_simp⟩) ?_;simp only[Act.put,VA,VD,VE];refine wpAny_take (i:=8) (v:=.slice (some ⟨gL,m,none⟩) (tot-m) (cL-m)) rfl (by kernel_rfl) (by kernel_rfl) (by kernel_rfl) (fun _ _ _ h=>h) (Or.inl ⟨by rfl,fun W=>by go_simp⟩) ?_;simp only[Act.put,VA,VD,VE];refine wpAny_ready (rs:= [4]) (by kernel_rfl) (by simp) (AllReady.cons rfl (fun K hK=> ?_) AllReady.nil);go_simp
 refine(Aa HD1 _).mono ?_;rintro e w6 ⟨hB6,hd6⟩;have HB6:Hid (Below w5.heap.size w5 w6):=Ab ((Af (Below.refl _ _) _).trans hB6);clear hB6
 rcases hd6 with ⟨d0,g1,m1,b1,n1,rfl,d1,d2,d3,d4,d5⟩|⟨d0,rfl⟩
 rotate_left
 . have HF:Hid (v= {v' with e:=8}):=Ab (Aa HBAD (.inl d0));rw[(Aa H8).1 d0];exact And.intro rfl (Or.inl ⟨by rw[Aa HF];exact(by decide:(8:Int)≠0),by rw[Aa HF],((Aa K6).past (Aa HB6)).bl⟩)
 dsimp only;refine hK _ _ ?_;clear hK K;refine wpAny_ready (rs:= [9]) (by kernel_rfl) (by simp) (AllReady.cons rfl (fun K hK=> ?_) AllReady.nil);go_simp
 refine(Aa HD2 _ (Aa HB6)).mono ?_;rintro e w7 ⟨hB7,hd7⟩;have HB7:=Ab hB7;have HB57:Hid (Below w5.heap.size w5 w7):=Ab ((Aa HB6).trans (hB7.mono (Aa HB6).size));clear hB7
 rcases hd7 with ⟨x0,g2,m2,b2,n2,rfl,x1,x2,x3,x4,x5⟩|⟨x0,rfl⟩
 rotate_left
 . have HF:Hid (v= {v' with e:=8}):=Ab (Aa HBAD (.inr x0));rw[(Aa H8).2 x0];exact And.intro rfl (Or.inl ⟨by rw[Aa HF];exact(by decide:(8:Int)≠0),by rw[Aa HF],((Aa K6).past (Aa HB57)).bl⟩)
 dsimp only;refine hK _ _ ?_;clear hK K;refine wpAny_ready (rs:= [10]) (by kernel_rfl) (by simp) (AllReady.cons rfl (fun K hK=> ?_) AllReady.nil);go_simp
 refine hK _ _ ?_;clear hK K;refine wpAny_ready (rs:= [11]) (by kernel_rfl) (by simp) (AllReady.cons rfl (fun K hK=> ?_) AllReady.nil);have c70:w7.heap[w.heap.size]? =some (.cells #[.nilFunc,.nilFunc] 286 (0,0)):=((Aa HB57).block _ hz5).trans (Aa HC5);refine Ss rfl 286 (.tmp 2) (.tmp 46) rfl w.heap.size #[DV g1 m1,DV g2 m2] _ rfl rfl c70 Fm rfl (by first|rfl|simp[Value.oneCell']) ?_;refine hK _ _ ?_;clear hK K;refine wpAny_done (by kernel_rfl) ?_ _;simp only[Act.put,VA,VD,VE];obtain⟨w8,hw8⟩:∃w8,w7.setRow w.heap.size #[DV g1 m1,DV g2 m2]=w8:=⟨_,rfl⟩
 have c80:w8.heap[w.heap.size]? =some (.cells #[DV g1 m1,DV g2 m2] 286 (0,0)):=by rw[<-hw8];exact setRow_heap _ _ _ _ _ _ c70
 have hgr:w7.grownBy w8 (some w.heap.size):=by rw[<-hw8];exact Iw _ _ _
 have HK8:Hid (Rk No B w b (.slice a n cap) f1 f2 v' w8):=Ab (((Aa K6).past (Aa HB57)).aside hgr (fun g e=>by cases e;exact VC _) (Aa HNo) hbl)
 have D1:Hid (DIs w8 g1 m1 b1 n1 b (L.take m)):=Ab (by
  have t1:=d5.lt;have t2:=d5.is.lt;have hs7:=(Aa HB7).size;refine(d5.keep hs7 ((Aa HB7).block g1 t1.1) ((Aa HB7).block m1 t1.2) ((Aa HB7).block b1 t2)).keep hgr.size (hgr.block g1 (by omega) ?_) (hgr.block m1 (by omega) ?_) (hgr.block b1 (by omega) ?_)<;>(intro e;have:=VN e;have hs5:=hz5;have d1':w5.heap.size<=g1:=d1;have d2':w5.heap.size<=m1:=d2;have d3':w5.heap.size<=b1:=d3;omega))
 have D2:Hid (DIs w8 g2 m2 b2 n2 b (L.drop m)):=Ab (by
  have t1:=x5.lt;have t2:=x5.is.lt;have hs6:=(Aa HB6).size;refine x5.keep hgr.size (hgr.block g2 t1.1 ?_) (hgr.block m2 t1.2 ?_) (hgr.block b2 t2 ?_)<;>(intro e;have:=VN e;omega))
 have HF:Hid (Z7c No B w b (.slice a n cap) f1 f2 A C v (.returned (.agg #[DV g1 m1,DV g2 m2])) w8):=Ab (by
  obtain⟨r1,r2,r3⟩:=Aa HOK d0 x0;have hs6:=(Aa HB6).size;have e1:w.heap.size<=g1:=by have d':w5.heap.size<=g1:=d1;omega
  have e2:w.heap.size<=m1:=by have d':w5.heap.size<=m1:=d2;omega
  have e3:w.heap.size<=b1:=by have d':w5.heap.size<=b1:=d3;omega
  refine .inr ⟨by rw[r3];exact e5,by rw[r3];exact Aa HK8,by rw[r1];exact Ci d0,by rw[r2];exact Ci x0,g1,m1,b1,n1,g2,m2,b2,n2,rfl,by rw[r1];exact Aa D1,by rw[r2];exact Aa D2,⟨e1,e2,e3⟩,⟨by omega,by omega,by omega⟩⟩)
 rw[hw8];clear hw8 hgr d0 d1 d2 d3 d4 d5 x0 x1 x2 x3 x4 x5 D1 D2 HK8 c70;go_wp2;refine bodyPost_ret (v:=.agg #[DV g1 m1,DV g2 m2]) ?_ rfl (Aa HF);exact results_cell_row rfl _ _ w.heap.size _ _ _ _ (by first|rfl|kernel_rfl|simp) c80 Tryz.underlying286 rfl Fm
def Fx (No:Nat->Prop)(w:World)(b:Nat)(f1 f2:Value):Prop:=
 (f1=.nilFunc/\f2=.nilFunc)\/∃g1 m1 b1 n1 g2 m2 b2 n2,f1=DV g1 m1/\f2=DV g2 m2/\DIs w g1 m1 b1 n1 b Mn/\DIs w g2 m2 b2 n2 b Ic/\(No g1/\No m1/\No b1)/\(No g2/\No m2/\No b2)
theorem Fx.keep {No:Nat->Prop}{w w':World}{b:Nat}{f1 f2:Value}(h:Fx No w b f1 f2)(hs:w.heap.size<=w'.heap.size)(hk:Kp No w w'):Fx No w' b f1 f2:=by
 rcases h with h|⟨g1,m1,b1,n1,g2,m2,b2,n2,e1,e2,d1,d2,⟨a1,a2,a3⟩,⟨c1,c2,c3⟩⟩
 . exact .inl h
 . have t1:=d1.lt;have t2:=d1.is.lt;have t3:=d2.lt;have t4:=d2.is.lt;exact .inr ⟨g1,m1,b1,n1,g2,m2,b2,n2,e1,e2,d1.keep hs (hk g1 t1.1 a1) (hk m1 t1.2 a2) (hk b1 t2 a3),d2.keep hs (hk g2 t3.1 c1) (hk m2 t3.2 c2) (hk b2 t4 c3),⟨a1,a2,a3⟩,⟨c1,c2,c3⟩⟩
def Z64 (No:Nat->Prop)(B:Nat)(w:World)(b:Nat)(R:Value)(u:US)(e:Ending)(w':World):Prop:=
 ∃No' g1 m1 b1 n1 g2 m2 b2 n2,(∀g,No g->No' g)/\(∀g,w'.heap.size<=g->¬No' g)/\e=.returned (.agg #[DV g1 m1,DV g2 m2])/\IIs No' B w' b R (DV g1 m1) (DV g2 m2) u/\DIs w' g1 m1 b1 n1 b Mn/\DIs w' g2 m2 b2 n2 b Ic/\(No' g1/\No' m1/\No' b1)/\(No' g2/\No' m2/\No' b2)/\Bl No B w w'
theorem IIs.cells45 {No:Nat->Prop}{B b:Nat}{w:World}{R f1 f2:Value}{u:US}(h:IIs No B w b R f1 f2 u):w.cell? ⟨b,4,none⟩=some f1/\w.cell? ⟨b,5,none⟩=some f2/\∀j,w.frozen? ⟨b,j,none⟩=false:=by
 obtain⟨ov,kv,h1,_⟩:=h.ex;exact⟨Ac h1,Ac h1,fun j=>frozen_of_row w b j _ _ h1⟩
theorem Xi (No:Nat->Prop)(B b:Nat)(R:Value)(u:US)(w:World)(g1 m1 b1 n1 g2 m2 b2 n2:Nat)(h:IIs No B w b R (DV g1 m1) (DV g2 m2) u)(d1:DIs w g1 m1 b1 n1 b Mn)(d2:DIs w g2 m2 b2 n2 b Ic)(a1:No g1/\No m1/\No b1)(a2:No g2/\No m2/\No b2)(hNo:∀g,w.heap.size<=g->¬No g):
 Calls Tryz.prog 259 #[.pointer (some ⟨b,0,none⟩)] w fun e w'=>Z64 No B w b R u e w':=by
 have hbl:=h.lt;have hbB:=h.base;obtain⟨c4,c5,_⟩:=h.cells45
 have HF:Hid (∀w',Below w.heap.size w w'->Z64 No B w b R u (.returned (.agg #[DV g1 m1,DV g2 m2])) w'):=Ab (fun w' hB=>by
  have hs:=hB.size;have t1:=d1.lt;have t2:=d1.is.lt;have t3:=d2.lt;have t4:=d2.is.lt;exact⟨No,g1,m1,b1,n1,g2,m2,b2,n2,fun _ h=>h,fun g hg=>hNo g (by omega),rfl,h.past hB,d1.keep hs (hB.block g1 t1.1) (hB.block m1 t1.2) (hB.block b1 t2),d2.keep hs (hB.block g2 t3.1) (hB.block m2 t3.2) (hB.block b2 t4),a1,a2,Z61 hB (by omega)⟩)
 clear h d1 d2 a1 a2 hNo;have heq:∀W:World,(binOp .eql 263 (DV g1 m1) .nilFunc).run Tryz.prog W=.ok (.bool false) W:=fun W=>by first|rfl|kernel_rfl
 go_enter Tryz.func259,Tryz.ntmps259
 have hA0:(w.alloc (.cells #[.nilFunc,.nilFunc] 286)).heap[w.heap.size]? =some (.cells #[.nilFunc,.nilFunc] 286 (0,0)):=heap_alloc_new _ _;have HA0:=Ab hA0;have HB0:Hid (Below w.heap.size w ((w.alloc (.cells #[.nilFunc,.nilFunc] 286)).setRow w.heap.size #[DV g1 m1,DV g2 m2])):=Ab (Av ((Below.refl w.heap.size w).alloc (VC _) _) (VC _) _);clear hA0;go_wp2_with (refine wpList_store_row rfl 286 (.tmp 2) (.tmp 28) rfl w.heap.size #[DV g1 m1,DV g2 m2] rfl rfl 286 #[.nilFunc,.nilFunc] (Aa HA0) Fm rfl (by first|rfl|simp[Value.oneCell']) ?_)
 refine bodyPost_ret (v:=.agg #[DV g1 m1,DV g2 m2]) ?_ rfl (Aa HF _ (Aa HB0));exact results_cell_row rfl _ _ w.heap.size _ _ _ _ (by first|rfl|kernel_rfl|simp) (setRow_heap _ _ _ _ _ _ (Aa HA0)) Tryz.underlying286 rfl Fm
theorem F9 (No:Nat->Prop)(B b:Nat)(R:Value)(u:US)(w:World)(h:IIs No B w b R .nilFunc .nilFunc u)(hNo:∀g,w.heap.size<=g->¬No g):
 Calls Tryz.prog 259 #[.pointer (some ⟨b,0,none⟩)] w fun e w'=>Z64 No B w b R u e w':=by
 have hbl:=h.lt;have hbB:=h.base;obtain⟨c4,c5,frz⟩:=h.cells45;have heq:∀W:World,(binOp .eql 263 .nilFunc .nilFunc).run Tryz.prog W=.ok (.bool true) W:=fun W=>by first|rfl|kernel_rfl
 have HK0:=Ab (Rk.refl h);have HNo:=Ab hNo;obtain⟨FA,hFA⟩:∃FA,Mn=FA:=⟨_,rfl⟩
 obtain⟨FB,hFB⟩:∃FB,Ic=FB:=⟨_,rfl⟩
 have hlA:=Lx;have hlB:=Fg;have hgA:=Ly;have hgB:=Lw;have HFL:=Ab (fun W=>F8 W);simp only[hFA,hFB]at HFL hlA hlB hgA hgB;have HGA:=Ab hgA;have HGB:=Ab hgB;have HFA:=Ab hFA;have HFB:=Ab hFB;have hA0:(w.alloc (.cells #[.nilFunc,.nilFunc] 286)).heap[w.heap.size]? =some (.cells #[.nilFunc,.nilFunc] 286 (0,0)):=heap_alloc_new _ _;have HA0:=Ab hA0;have HB0:Hid (Below w.heap.size w (w.alloc (.cells #[.nilFunc,.nilFunc] 286))):=Ab ((Below.refl w.heap.size w).alloc (VC _) _);clear h hNo hFA hFB hgA hgB hA0;have hi1:(Tryz.prog.info? 251).map (·.size)=some (iv FA).toArray.size:=by rw[Xf];simp[hlA]
 have hi2:(Tryz.prog.info? 252).map (·.size)=some (iv FB).toArray.size:=by rw[BL];simp[hlB]
 go_enter Tryz.func259,Tryz.ntmps259
 go_wp2_with fail
 refine(Aa HFL _).mono ?_;rintro e w1 ⟨rfl,hB1⟩;have hz1:=hB1.size;simp only[World.size_alloc]at hz1;have HB1:Hid (Below w.heap.size w w1):=Ab ((Aa HB0).trans (hB1.mono (by simp)));have HC1:Hid (w1.heap[w.heap.size]? =some (.cells #[.nilFunc,.nilFunc] 286 (0,0))):=Ab ((hB1.block _ (by simp)).trans (Aa HA0));clear hB1;have A1:((w1.alloc (.cells (iv (List.replicate 288 0)).toArray 251)).alloc (.cells (iv (List.replicate 32 0)).toArray 252)).heap[w1.heap.size]? =some (.cells (iv (List.replicate 288 0)).toArray 251 (0,0)):=(Below.heap_alloc _ _ _ (by simp)).trans (heap_alloc_new _ _)
 have A2:(((w1.alloc (.cells (iv (List.replicate 288 0)).toArray 251)).alloc (.cells (iv (List.replicate 32 0)).toArray 252)).setRow w1.heap.size (iv FA).toArray).heap[w1.heap.size+1]? =some (.cells (iv (List.replicate 32 0)).toArray 252 (0,0)):=by
  rw[Go.setRow_other _ _ _ _ (by omega)];have e:w1.heap.size+1=(w1.alloc (.cells (iv (List.replicate 288 0)).toArray 251)).heap.size:=by simp
  rw[e];exact heap_alloc_new _ _
 have HA1:=Ab A1;have HA2:=Ab A2;have HT:=Ab (fun x y=>Jh w1 w1 x y 251 252 FA FB (Below.refl _ _) (by simp));clear A1 A2;go_upto_region 3 with (first|refine wpList_store_row rfl 251 (.tmp 3) (.tmp 13) rfl w1.heap.size _ rfl rfl 251 (iv (List.replicate 288 0)).toArray (Aa HA1) hi1 (by simp[hlA]) (Cr FA) ?_|refine wpList_store_row rfl 252 (.tmp 4) (.tmp 14) rfl (w1.heap.size+1) _ rfl rfl 252 (iv (List.replicate 32 0)).toArray (Aa HA2) hi2 (by simp[hlB]) (Cr FB) ?_)
 simp only[Act.put];generalize hW2:World.setRow (World.setRow (World.alloc (World.alloc _ _) _) _ _) _ _=W2;have t1:ARow 251 W2 w1.heap.size FA:=by rw[<-hW2];exact(Aa HT _ _).1
 have t2:ARow 252 W2 (w1.heap.size+1) FB:=by rw[<-hW2];exact(Aa HT _ _).2.1
 have t3:Below w1.heap.size w1 W2:=by rw[<-hW2];exact(Aa HT _ _).2.2
 clear hW2 HT HA1 HA2;have hzW:=t3.size;have K2:Hid (Rk No B w b R .nilFunc .nilFunc u W2):=Ab ((Aa HK0).past ((Aa HB1).trans (t3.mono (by omega))));have HC2:Hid (W2.heap[w.heap.size]? =some (.cells #[.nilFunc,.nilFunc] 286 (0,0))):=Ab ((t3.block _ (by omega)).trans (Aa HC1));have HD1:=Ab (fun k=>Nd b (some ⟨w1.heap.size,0,none⟩) 288 288 FA (W2.drewN k) hlA (.inr ⟨_,0,rfl,t1.lt,t1.row⟩) (Aa HGA));have HD2:Hid (∀W,Below W2.heap.size W2 W->Calls Tryz.prog 278 #[.pointer (some ⟨b,0,none⟩),.slice (some ⟨w1.heap.size+1,0,none⟩) 32 32] W fun e w'=>∃gr gm mb nn,e=.returned (DV gr gm)/\W.heap.size<=gr/\W.heap.size<=gm/\W.heap.size<=mb/\mb<w'.heap.size/\DIs w' gr gm mb nn b FB/\Below W.heap.size W w'):=Ab (fun W hB=>Nd b (some ⟨w1.heap.size+1,0,none⟩) 32 32 FB W hlB (.inr ⟨_,0,rfl,(t2.keep (hB.block _ t2.lt)).lt,(t2.keep (hB.block _ t2.lt)).row⟩) (Aa HGB));clear t1 t2 t3;refine wp_region_any (by kernel_rfl) ?_
 try (change wpAny _ _ _ _ _ _ _ (World.drew _))
 refine wpAny_take (i:=0) (v:=.pointer (some ⟨b,0,none⟩)) rfl (by kernel_rfl) (by kernel_rfl) (by kernel_rfl) (fun _ _ _ h=>h) (Or.inl ⟨by rfl,fun W=>by go_simp⟩) ?_;simp only[Act.put,VA,VD,VE];refine wpAny_take (i:=1) (v:=.pointer (some ⟨b,0,none⟩)) rfl (by kernel_rfl) (by kernel_rfl) (by kernel_rfl) (fun _ _ _ h=>h) (Or.inl ⟨by rfl,fun W=>by go_simp⟩) ?_;simp only[Act.put,VA,VD,VE];refine wpAny_take (i:=2) (v:=.slice (some ⟨w1.heap.size,0,none⟩) 288 288) rfl (by kernel_rfl) (by kernel_rfl) (by kernel_rfl) (fun _ _ _ h=>h) (Or.inl ⟨by rfl,fun W=>by go_simp⟩) ?_;simp only[Act.put,VA,VD,VE];refine wpAny_take (i:=4) (v:=.pointer (some ⟨b,0,none⟩)) rfl (by kernel_rfl) (by kernel_rfl) (by kernel_rfl) (fun _ _ _ h=>h) (Or.inl ⟨by rfl,fun W=>by go_simp⟩) ?_;simp only[Act.put,VA,VD,VE];refine wpAny_take (i:=5) (v:=.slice (some ⟨w1.heap.size+1,0,none⟩) 32 32) rfl (by kernel_rfl) (by kernel_rfl) (by kernel_rfl) (fun _ _ _ h=>h) (Or.inl ⟨by rfl,fun W=>by go_simp⟩) ?_;simp only[Act.put,VA,VD,VE];refine wpAny_ready (rs:= [3]) (by kernel_rfl) (by simp) (AllReady.cons rfl (fun K hK=> ?_) AllReady.nil);go_simp
 refine(Aa HD1 _).mono ?_;rintro e w6 ⟨g1,m1,b1,n1,rfl,d1,d2,d3,d4,d5,hB6⟩;have HB6:Hid (Below W2.heap.size W2 w6):=Ab ((Af (Below.refl _ _) _).trans hB6);clear hB6;dsimp only;refine hK _ _ ?_;clear hK K;refine wpAny_ready (rs:= [6]) (by kernel_rfl) (by simp) (AllReady.cons rfl (fun K hK=> ?_) AllReady.nil);go_simp
 refine(Aa HD2 _ (Aa HB6)).mono ?_;rintro e w7 ⟨g2,m2,b2,n2,rfl,x1,x2,x3,x4,x5,hB7⟩;have HB7:=Ab hB7;have HB27:Hid (Below W2.heap.size W2 w7):=Ab ((Aa HB6).trans (hB7.mono (Aa HB6).size));clear hB7;dsimp only;refine hK _ _ ?_;clear hK K;refine wpAny_ready (rs:= [7]) (by kernel_rfl) (by simp) (AllReady.cons rfl (fun K hK=> ?_) AllReady.nil);go_simp
 refine hK _ _ ?_;clear hK K;refine wpAny_ready (rs:= [8]) (by kernel_rfl) (by simp) (AllReady.cons rfl (fun K hK=> ?_) AllReady.nil);go_simp
 refine hK _ _ ?_;clear hK K;refine wpAny_ready (rs:= [9]) (by kernel_rfl) (by simp) (AllReady.cons rfl (fun K hK=> ?_) AllReady.nil);go_simp
 refine hK _ _ ?_;clear hK K;have hK7:=(Aa K2).past (Aa HB27);have HK7:=Ab hK7;obtain⟨z4,z5,zf⟩:=hK7.is.cells45;have zf4:=zf 4;have zf5:=zf 5;clear hK7;refine wpAny_ready (rs:= [10]) (by kernel_rfl) (by simp) (AllReady.cons rfl (fun K hK=> ?_) AllReady.nil);go_simp
 refine hK _ _ ?_;clear hK K;refine wpAny_done (by kernel_rfl) ?_ _;obtain⟨w8,hw8⟩:∃w8,(w7.setCell ⟨b,4,none⟩ (DV g1 m1)).setCell ⟨b,5,none⟩ (DV g2 m2)=w8:=⟨_,rfl⟩
 have I4:=(Aa HK7).is.set (g1:=DV g1 m1) (g2:=.nilFunc) 4 (DV g1 m1) u rfl rfl (fun _ _=>rfl);have I5:=I4.is.set (g1:=DV g1 m1) (g2:=DV g2 m2) 5 (DV g2 m2) u rfl rfl (fun _ _=>rfl);have hs7:=(Aa HB27).size
 have K8:Rk No B w b R (DV g1 m1) (DV g2 m2) u w8:=by
  rw[<-hw8];exact⟨I5.is,(Aa HK7).bl.trans ((I4.bl.trans I5.bl).weaken (fun _ h=>.inl h))⟩
 have hother:∀g,g≠b->w8.heap[g]? =w7.heap[g]? :=fun g hg=>by
  rw[<-hw8]
  by_cases hlt:g<w7.heap.size
  . have q1:=(Ad w7 b 4 (DV g1 m1)).block g hlt (fun e=>hg (VN e));have q2:=(Ad (w7.setCell ⟨b,4,none⟩ (DV g1 m1)) b 5 (DV g2 m2)).block g (VK hlt I4.below.size) (fun e=>hg (VN e));exact q2.trans q1
  . have z1:((w7.setCell ⟨b,4,none⟩ (DV g1 m1)).setCell ⟨b,5,none⟩ (DV g2 m2)).heap.size=w7.heap.size:=by simp
    rw[XX (by omega),XX (by omega)]
 have hs8:w7.heap.size<=w8.heap.size:=by rw[<-hw8];exact VX I4.below.size I5.below.size
 obtain⟨y4,y5,_⟩:=K8.is.cells45;have HC8:Hid (w8.heap[w.heap.size]? =some (.cells #[.nilFunc,.nilFunc] 286 (0,0))):=Ab ((hother _ (by omega)).trans (((Aa HB27).block _ (by omega)).trans (Aa HC2)));obtain⟨w9,hw9⟩:∃w9,w8.setRow w.heap.size #[DV g1 m1,DV g2 m2]=w9:=⟨_,rfl⟩
 have hgr:w8.grownBy w9 (some w.heap.size):=by rw[<-hw9];exact Iw _ _ _
 have HC9:Hid (w9.heap[w.heap.size]? =some (.cells #[DV g1 m1,DV g2 m2] 286 (0,0))):=Ab (by rw[<-hw9];exact setRow_heap _ _ _ _ _ _ (Aa HC8));have K9:Rk No B w b R (DV g1 m1) (DV g2 m2) u w9:=K8.aside hgr (fun g e=>by cases e;exact VC _) (Aa HNo) hbl;have hs9:=hgr.size;have hs6:=(Aa HB6).size;have d1':W2.heap.size<=g1:=d1;have d2':W2.heap.size<=m1:=d2;have d3':W2.heap.size<=b1:=d3;have hk9:∀g,W2.heap.size<=g->g<w7.heap.size->w9.heap[g]? =w7.heap[g]? :=fun g h1 h2=>(hgr.block g (by omega) (fun e=>by have:=VN e;omega)).trans (hother g (by omega))
 have D1:DIs w9 g1 m1 b1 n1 b FA:=by
  have t1:=d5.lt;have t2:=d5.is.lt;have hs67:=(Aa HB7).size;exact(d5.keep hs67 ((Aa HB7).block g1 t1.1) ((Aa HB7).block m1 t1.2) ((Aa HB7).block b1 t2)).keep (by omega) (hk9 g1 d1' (by omega)) (hk9 m1 d2' (by omega)) (hk9 b1 d3' (by omega))
 have D2:DIs w9 g2 m2 b2 n2 b FB:=by
  have t1:=x5.lt;have t2:=x5.is.lt;exact x5.keep (by omega) (hk9 g2 (by omega) t1.1) (hk9 m2 (by omega) t1.2) (hk9 b2 (by omega) t2)
 have HF:Hid (Z64 No B w b R u (.returned (.agg #[DV g1 m1,DV g2 m2])) w9):=Ab (by
  have t1:=D1.lt;have t2:=D1.is.lt;have t3:=D2.lt;have t4:=D2.is.lt;refine⟨NK No w.heap.size w9.heap.size,g1,m1,b1,n1,g2,m2,b2,n2,fun _ h=>.inl h,fun g hg e=> ?_,rfl,K9.inner,by rw[Aa HFA];exact D1,by rw[Aa HFB];exact D2,⟨.inr ⟨by omega,t1.1⟩,.inr ⟨by omega,t1.2⟩,.inr ⟨by omega,t2⟩⟩,⟨.inr ⟨by omega,t3.1⟩,.inr ⟨by omega,t3.2⟩,.inr ⟨by omega,t4⟩⟩,K9.bl⟩
  rcases e with e|e
  . exact Aa HNo g (by have:=K9.bl.below.size;omega) e
  . omega)
 clear D1 D2 hk9 d1' d2' d3' K9 hgr hother K8 I4 I5 d1 d2 d3 d4 d5 x1 x2 x3 x4 x5 z4 z5 zf zf4 zf5;have HW9:=Ab hw9;clear hw9;change Exit.then _ _ Exit.normal _ ((w7.setCell ⟨b,4,none⟩ (DV g1 m1)).setCell ⟨b,5,none⟩ (DV g2 m2))
 rw[hw8];clear hw8;go_wp2_with (refine wpList_store_row rfl 286 (.tmp 2) (.tmp 28) rfl w.heap.size #[DV g1 m1,DV g2 m2] rfl rfl 286 #[.nilFunc,.nilFunc] (Aa HC8) Fm rfl (by first|rfl|simp[Value.oneCell']) ?_)
 rw[Aa HW9];refine bodyPost_ret (v:=.agg #[DV g1 m1,DV g2 m2]) ?_ rfl (Aa HF);exact results_cell_row rfl _ _ w.heap.size _ _ _ _ (by first|rfl|kernel_rfl|simp) (Aa HC9) Tryz.underlying286 rfl Fm
theorem Te (No:Nat->Prop)(B b:Nat)(R f1 f2:Value)(u:US)(w:World)(h:IIs No B w b R f1 f2 u)(hF:Fx No w b f1 f2)(hNo:∀g,w.heap.size<=g->¬No g):
 Calls Tryz.prog 259 #[.pointer (some ⟨b,0,none⟩)] w fun e w'=>Z64 No B w b R u e w':=by
 rcases hF with ⟨rfl,rfl⟩|⟨g1,m1,b1,n1,g2,m2,b2,n2,rfl,rfl,d1,d2,a1,a2⟩
 . exact F9 No B b R u w h hNo
 . exact Xi No B b R u w g1 m1 b1 n1 g2 m2 b2 n2 h d1 d2 a1 a2 hNo
def Bk (No:Nat->Prop)(B:Nat)(w0:World)(b:Nat)(R:Value)(u:US)(w:World):Prop:=
 ∃No' f1 f2,(∀g,No g->No' g)/\(∀g,w.heap.size<=g->¬No' g)/\IIs No' B w b R f1 f2 u/\Fx No' w b f1 f2/\Bl No B w0 w
def PX (No:Nat->Prop)(B:Nat)(w0:World)(b:Nat)(R:Value)(V:US)(e:Ending)(w':World):Prop:=
 (V.e=0/\e=.returned (.tuple #[])/\Bk No B w0 b R V w')\/ (V.e≠0/\e=Flt V.e/\Bl No B w0 w')
theorem Bl.outer {No No':Nat->Prop}{B:Nat}{w0 w w':World}(h:Bl No B w0 w)(k:Bl No' B w w')(hn:∀g,No g->No' g):Bl No B w0 w':=h.trans (k.weaken hn)
theorem GT (No:Nat->Prop)(B b:Nat)(a:Option Addr)(n cap:Nat)(bs:List Nat)(u:US)(w0 w:World)(h:Bk No B w0 b (.slice a n cap) u w)(hR:Rd w No a n bs)(hp:u.p<=8*n)(he:u.e=0)(ho:u.out.length<=3000)(hk:u.ks.length<=48000):
 Calls Tryz.prog 239 #[.pointer (some ⟨b,0,none⟩),.int .i64 0] w fun e w'=>PX No B w0 b (.slice a n cap) (Dw (rowB bs n) 0 u) e w':=by
 obtain⟨No',f1,f2,hn,hNo,hI,hF,hB⟩:=h;have hV:Dw (rowB bs n) 0 u=(if (Cs (rowB bs n) u).e=0 then ukept 0 (Cs (rowB bs n) u)else Cs (rowB bs n) u):=rfl;rw[hV];refine(Sh No' B b a n cap bs f1 f2 u w hI (hR.wide hn) hp he ho hk hNo hI.base _ (Ab rfl)).mono ?_;rintro e w' (⟨e0,rfl,hU⟩|⟨e0,rfl,hBl⟩)
 . exact .inl ⟨e0,rfl,No',f1,f2,hn,fun g hg=>hNo g (VX hU.below.size hg),hU.is,hF.keep hU.below.size hU.kp,hB.outer hU.bl hn⟩
 . exact .inr ⟨e0,rfl,hB.outer hBl hn⟩
theorem GP (No:Nat->Prop)(B b k:Nat)(R:Value)(u:US)(row:List Bool)(w0 w:World)(h:Bk No B w0 b R u w)(hk:3<=k)(hk4:k<4):
 Calls Tryz.prog 239 #[.pointer (some ⟨b,0,none⟩),.int .i64 (k:Int)] w fun e w'=>PX No B w0 b R (Dw row k u) e w':=by
 obtain rfl:k=3:=by omega
 obtain⟨No',f1,f2,hn,hNo,hI,hF,hB⟩:=h;have HB:=Ab hB;have HV:Hid (Dw row 3 u= {u with e:=4}):=Ab rfl;obtain⟨V,hV⟩:∃V,Dw row 3 u=V:=⟨_,rfl⟩
 rw[hV]at HV ⊢;clear hI hF hB hV;go_enter Tryz.func239,Tryz.ntmps239
 go_wp2_with fail
 refine(Bw 4 w).mono ?_;rintro e w1 ⟨rfl,rfl⟩;go_wp2;exact⟨rfl,.inr ⟨by rw[Aa HV];exact(by decide:(4:Int)≠0),by rw[Aa HV],Aa HB⟩⟩
theorem GS (No:Nat->Prop)(B b:Nat)(a:Option Addr)(n cap:Nat)(bs:List Nat)(u:US)(w0 w:World)(h:Bk No B w0 b (.slice a n cap) u w)(hR:Rd w No a n bs)(hp:u.p<=8*n)(he:u.e=0)(ho:u.out.length<=3000)(hk:u.ks.length<=48000):
 Calls Tryz.prog 239 #[.pointer (some ⟨b,0,none⟩),.int .i64 1] w fun e w'=>PX No B w0 b (.slice a n cap) (Dw (rowB bs n) 1 u) e w':=by
 have hrl:=Ag bs n;obtain⟨No',f1,f2,hn,hNo,hI,hF,hB⟩:=h;obtain⟨i0,hi0,hz0,hz1,hz2⟩:=info_parts Cn;obtain⟨V,hV⟩:∃V,Ib (rowB bs n) Mn Ic (8*n+1) u=V:=⟨_,rfl⟩
 obtain⟨X,hX⟩:∃X,Dw (rowB bs n) 1 u=X:=⟨_,rfl⟩
 have HX:Hid ((if V.e=0 then ukept 1 V else V)=X):=Ab (by rw[<-hX,<-hV,<-hrl];rfl);rw[hX]
 have HVK:Hid (V.e=0->V.ks.length<=48000):=Ab (fun e=>by
  have:=(Iv (rowB bs n) Mn Ic (8*n+1) u (by omega) ho (by rw[hV];exact e)).ks
  rw[hV]at this;rw[this];exact hk)
 have HFC:=Ab (Te No' B b (.slice a n cap) f1 f2 u w hI hF hNo);have HRD:=Ab (hR.wide hn);have HBB:=Ab hB;have HN:=Ab hn;have HPE:=Ab (And.intro hp (And.intro he ho));have HV:=Ab hV;clear hI hF hB hR hp he ho hk hNo hV hX hn;go_enter Tryz.func239,Tryz.ntmps239
 go_wp2_with fail
 refine(Aa HFC).mono ?_;rintro e w1 ⟨NX,g1,m1,b1,n1,g2,m2,b2,n2,hnx,hNX,rfl,hI1,hD1,hD2,hA1,hA2,hB1⟩;obtain⟨F1,hF1⟩:∃F1,DV g1 m1=F1:=⟨_,rfl⟩
 obtain⟨F2,hF2⟩:∃F2,DV g2 m2=F2:=⟨_,rfl⟩
 have HTK:=Ab (Tw NX B b a n cap bs F1 F2 u w1 (by rw[<-hF1,<-hF2];exact hI1) (((Aa HRD).keep hB1.below.size hB1.kp).wide hnx) (Aa HPE).1 (Aa HPE).2.1 (Aa HPE).2.2 g1 m1 b1 n1 g2 m2 b2 n2 Mn Ic hD1 Z3k hA1 hD2 Z3i hA2 hNX V HV)
 have HEND:Hid (∀Y w',IUp NX B w1 b (.slice a n cap) F1 F2 Y w'->Bk No B w0 b (.slice a n cap) Y w'):=Ab (fun Y w' hu=>⟨NX,F1,F2,fun g hg=>hnx g (Aa HN g hg),fun g hg=>hNX g (VX hu.below.size hg),hu.is,by
  have:Fx NX w1 b F1 F2:=.inr ⟨g1,m1,b1,n1,g2,m2,b2,n2,hF1.symm,hF2.symm,hD1,hD2,hA1,hA2⟩
  exact this.keep hu.below.size hu.kp,((Aa HBB).outer hB1 (Aa HN)).outer hu.bl (fun g hg=>hnx g (Aa HN g hg))⟩)
 have HBL:Hid (∀w',Bl NX B w1 w'->Bl No B w0 w'):=Ab (fun w' hb=>((Aa HBB).outer hB1 (Aa HN)).outer hb (fun g hg=>hnx g (Aa HN g hg)));have HNX:=Ab hNX;clear hnx hNX hI1 hD1 hD2 hA1 hA2 hB1 hF1 hF2;go_wp2_with fail
 refine(Aa HTK).mono ?_;rintro e w4 hg
 rcases hg with ⟨e0,rfl,hU⟩|⟨e0,rfl,hBl⟩
 rotate_left
 . have HF2:Hid (X=V):=Ab (by rw[<-Aa HX,if_neg e0]);have HB2:=Ab (Aa HBL _ hBl);clear hBl;go_wp2;exact⟨rfl,.inr ⟨by rw[Aa HF2];exact e0,by rw[Aa HF2],Aa HB2⟩⟩
 have HF2:Hid (X= {V with ks:=V.ks++ [1]}):=Ab (by rw[<-Aa HX,if_pos e0];rfl);have hbel4:=hU.below.size;have hIs4:=hU.is;have hbl4:=hIs4.lt;obtain⟨ov4,kv4,d2,d3,hh4,hov4,hkv4,hap4,hn14,hn24⟩:=hIs4.rows;obtain⟨L,hL⟩:∃L,V.ks.length=L:=⟨_,rfl⟩
 have hkvL:=hkv4;have hVk2:=Aa HVK e0;rw[hL]at hkvL hVk2;obtain⟨oa,oc,rfl⟩:=Ao hkvL;have HKL:=Ab hkvL;have HIS:=Ab hIs4;have HH4:=Ab hh4;have HO4:=Ab hov4;have HK4:=Ab hkv4;have HA4:=Ab hap4;have HN1:=Ab hn14;have HN2:=Ab hn24;have HLL:=Ab hL;have HU:=Ab hU;clear hU hIs4 hh4 hov4 hkv4 hap4 hn14 hn24 hkvL hL d2;go_wp2_with (at_builtin;refine wpList_append_own_at _ rfl _ _ 81 rfl (b+1) 3 i0 (.int .i64 0) 1 8 Tryz.underlying81 hi0 hz0 hz1 hz2 rfl (by decide) _ L (i64s V.ks) rfl ((Aa HKL).alloc _) ⟨w4.heap.size,0,none⟩ 1 1 [.int .i64 ((1:Nat):Int)] rfl rfl (cell_one_new _ _ _) (Bf rfl) (by unfold maxLen;omega) (by omega) (by simp;omega) ?_)
 intro v' w5 hO5 hgrow5 _ hspot5;obtain⟨g9,c9,hv9,_,_⟩:=Bt hO5 (by omega);obtain⟨q3,f35,hI5⟩:=IIs.kept (c:=1) (v':=v') (Aa HIS).base (Aa HIS).no (Aa HH4) (Aa HO4) (Aa HK4) (Aa HA4) (Aa HN1) (Aa HN2) (fun g hg=>Aa HNX g (VX hbel4 hg)) (by rw[Aa HLL];exact hO5) hgrow5 (by simpa using hspot5);have HI5:=Ab ((Aa HU).trans hI5);have HFIN:Hid (∀w',IUp NX B w1 b (.slice a n cap) F1 F2 {V with ks:=V.ks++ [1]} w'->PX No B w0 b (.slice a n cap) X (.returned (.tuple #[])) w'):=Ab (fun w' hu=>.inl ⟨by rw[Aa HF2];exact e0,rfl,by rw[Aa HF2];exact Aa HEND _ w' hu⟩);subst hv9;clear hI5 hO5 hgrow5 hspot5;go_wp2;go_end0
 exact Aa HFIN _ (Aa HI5)
theorem GQ (No:Nat->Prop)(B b:Nat)(a:Option Addr)(n cap:Nat)(bs:List Nat)(u:US)(w0 w:World)(h:Bk No B w0 b (.slice a n cap) u w)(hR:Rd w No a n bs)(hp:u.p<=8*n)(he:u.e=0)(ho:u.out.length<=3000)(hk:u.ks.length<=48000):
 Calls Tryz.prog 239 #[.pointer (some ⟨b,0,none⟩),.int .i64 2] w fun e w'=>PX No B w0 b (.slice a n cap) (Dw (rowB bs n) 2 u) e w':=by
 have hrl:=Ag bs n;obtain⟨No',F1,F2,hn,hNo,hI,hF,hB⟩:=h;obtain⟨i0,hi0,hz0,hz1,hz2⟩:=info_parts Cn;obtain⟨A,C,x,hx⟩:∃A C x,Db (rowB bs n) u=((A,C),x):=⟨_,_,_,rfl⟩
 obtain⟨V,hV⟩:∃V,Ib (rowB bs n) A C (8*n+1) x=V:=⟨_,rfl⟩
 obtain⟨X,hX⟩:∃X,Dw (rowB bs n) 2 u=X:=⟨_,rfl⟩
 have hXX:X=if x.e≠0 then x else (if V.e=0 then ukept 2 V else V):=by
  rw[<-hX,<-hV,<-hrl];show (if (Db (rowB bs n) u).2.e≠0 then (Db (rowB bs n) u).2 else Lr 2 (Ib (rowB bs n) (Db (rowB bs n) u).1.1 (Db (rowB bs n) u).1.2 ((rowB bs n).length+1) (Db (rowB bs n) u).2))=_
  rw[hx];rfl
 rw[hX];have HXX:=Ab hXX
 have HXA:Hid (x.e=0->Ahd (rowB bs n) u x):=Ab (fun e=>by
  have:=Ym (rowB bs n) u (by omega) ho (by rw[hx];exact e)
  rw[hx]at this;exact this)
 have HVK:Hid (V.e=0->x.e=0->V.ks.length<=48000):=Ab (fun e e2=>by
  have q:=Aa HXA e2;have:=(Iv (rowB bs n) A C (8*n+1) x q.le q.out (by rw[hV];exact e)).ks
  rw[hV]at this;rw[this,q.ks];exact hk)
 have HOC:=Ab (B6 No' B b a n cap bs F1 F2 u w hI (hR.wide hn) hp he hNo A C x (Ab hx));have HRD:=Ab (hR.wide hn);have HBB:=Ab hB;have HN:=Ab hn;have HNo:=Ab hNo;have HFX:=Ab hF;have HV:=Ab hV;clear hI hF hB hR hp he ho hk hNo hV hX hn hx hXX;go_enter Tryz.func239,Tryz.ntmps239
 go_wp2_with fail
 refine(Aa HOC).mono ?_;rintro e w1 hg
 rcases hg with ⟨ex,rfl,hBx⟩|⟨ex,hK1,hGA,hGC,g1,m1,b1,n1,g2,m2,b2,n2,rfl,hD1,hD2,hA1,hA2⟩
 . have HF2:Hid (X=x):=Ab (by rw[Aa HXX,if_pos ex]);have HB2:=Ab ((Aa HBB).outer hBx (Aa HN));clear hBx;go_wp2;exact⟨rfl,.inr ⟨by rw[Aa HF2];exact ex,by rw[Aa HF2],Aa HB2⟩⟩
 have HX:Hid ((if V.e=0 then ukept 2 V else V)=X):=Ab (by
  have:=Aa HXX
  rw[if_neg (show ¬x.e≠0 from fun c=>c ex)]at this;exact this.symm)
 have hq:=Aa HXA ex;have hqp:=hq.le;rw[hrl]at hqp;have HVK2:=Ab (fun e=>Aa HVK e ex);clear HVK;have HVK:=HVK2;clear HVK2;obtain⟨NX,hNXe⟩:∃NX,NK No' w.heap.size w1.heap.size=NX:=⟨_,rfl⟩
 have hnx:∀g,No' g->NX g:=fun g hg=>by rw[<-hNXe];exact .inl hg
 have hNX:∀g,w1.heap.size<=g->¬NX g:=fun g hg e=>by
  rw[<-hNXe]at e;have:=hK1.bl.below.size
  rcases e with e|e
  . exact Aa HNo g (by omega) e
  . omega
 have hin:∀g,w.heap.size<=g->g<w1.heap.size->NX g:=fun g h1 h2=>by rw[<-hNXe];exact .inr ⟨h1,h2⟩
 have hI1:IIs NX B w1 b (.slice a n cap) F1 F2 x:=by rw[<-hNXe];exact hK1.inner
 have t1:=hD1.lt;have t2:=hD1.is.lt;have t3:=hD2.lt;have t4:=hD2.is.lt;have HTK:=Ab (Tw NX B b a n cap bs F1 F2 x w1 hI1 (((Aa HRD).keep hK1.bl.below.size hK1.bl.kp).wide hnx) hqp ex hq.out g1 m1 b1 n1 g2 m2 b2 n2 A C hD1 hGA ⟨hin _ hA1.1 t1.1,hin _ hA1.2.1 t1.2,hin _ hA1.2.2 t2⟩ hD2 hGC ⟨hin _ hA2.1 t3.1,hin _ hA2.2.1 t3.2,hin _ hA2.2.2 t4⟩ hNX V HV)
 have HEND:Hid (∀Y w',IUp NX B w1 b (.slice a n cap) F1 F2 Y w'->Bk No B w0 b (.slice a n cap) Y w'):=Ab (fun Y w' hu=>⟨NX,F1,F2,fun g hg=>hnx g (Aa HN g hg),fun g hg=>hNX g (VX hu.below.size hg),hu.is,by
  have f1:=(Aa HFX).keep hK1.bl.below.size hK1.bl.kp;have f2:=f1.keep hu.below.size (hu.kp.weaken hnx)
  rcases f2 with f2|⟨g1,m1,b1,n1,g2,m2,b2,n2,q1,q2,q3,q4,q5,q6⟩
  . exact .inl f2
  . exact .inr ⟨g1,m1,b1,n1,g2,m2,b2,n2,q1,q2,q3,q4,⟨hnx _ q5.1,hnx _ q5.2.1,hnx _ q5.2.2⟩,⟨hnx _ q6.1,hnx _ q6.2.1,hnx _ q6.2.2⟩⟩,((Aa HBB).outer hK1.bl (Aa HN)).outer hu.bl (fun g hg=>hnx g (Aa HN g hg))⟩)
 have HBL:Hid (∀w',Bl NX B w1 w'->Bl No B w0 w'):=Ab (fun w' hb=>((Aa HBB).outer hK1.bl (Aa HN)).outer hb (fun g hg=>hnx g (Aa HN g hg)));have HNX:=Ab hNX;clear hnx hNX hI1 hD1 hD2 hA1 hA2 hK1 hNXe hin t1 t2 t3 t4 hq hqp hGA hGC;go_wp2_with fail
 refine(Aa HTK).mono ?_;rintro e w4 hg
 rcases hg with ⟨e0,rfl,hU⟩|⟨e0,rfl,hBl⟩
 rotate_left
 . have HF2:Hid (X=V):=Ab (by rw[<-Aa HX,if_neg e0]);have HB2:=Ab (Aa HBL _ hBl);clear hBl;go_wp2;exact⟨rfl,.inr ⟨by rw[Aa HF2];exact e0,by rw[Aa HF2],Aa HB2⟩⟩
 have HF2:Hid (X= {V with ks:=V.ks++ [2]}):=Ab (by rw[<-Aa HX,if_pos e0];rfl);have hbel4:=hU.below.size;have hIs4:=hU.is;have hbl4:=hIs4.lt;obtain⟨ov4,kv4,d2,d3,hh4,hov4,hkv4,hap4,hn14,hn24⟩:=hIs4.rows;obtain⟨L,hL⟩:∃L,V.ks.length=L:=⟨_,rfl⟩
 have hkvL:=hkv4;have hVk2:=Aa HVK e0;rw[hL]at hkvL hVk2;obtain⟨oa,oc,rfl⟩:=Ao hkvL;have HKL:=Ab hkvL;have HIS:=Ab hIs4;have HH4:=Ab hh4;have HO4:=Ab hov4;have HK4:=Ab hkv4;have HA4:=Ab hap4;have HN1:=Ab hn14;have HN2:=Ab hn24;have HLL:=Ab hL;have HU:=Ab hU;clear hU hIs4 hh4 hov4 hkv4 hap4 hn14 hn24 hkvL hL d2;go_wp2_with (at_builtin;refine wpList_append_own_at _ rfl _ _ 81 rfl (b+1) 3 i0 (.int .i64 0) 1 8 Tryz.underlying81 hi0 hz0 hz1 hz2 rfl (by decide) _ L (i64s V.ks) rfl ((Aa HKL).alloc _) ⟨w4.heap.size,0,none⟩ 1 1 [.int .i64 ((2:Nat):Int)] rfl rfl (cell_one_new _ _ _) (Bf rfl) (by unfold maxLen;omega) (by omega) (by simp;omega) ?_)
 intro v' w5 hO5 hgrow5 _ hspot5;obtain⟨g9,c9,hv9,_,_⟩:=Bt hO5 (by omega);obtain⟨q3,f35,hI5⟩:=IIs.kept (c:=2) (v':=v') (Aa HIS).base (Aa HIS).no (Aa HH4) (Aa HO4) (Aa HK4) (Aa HA4) (Aa HN1) (Aa HN2) (fun g hg=>Aa HNX g (VX hbel4 hg)) (by rw[Aa HLL];exact hO5) hgrow5 (by simpa using hspot5);have HI5:=Ab ((Aa HU).trans hI5);have HFIN:Hid (∀w',IUp NX B w1 b (.slice a n cap) F1 F2 {V with ks:=V.ks++ [2]} w'->PX No B w0 b (.slice a n cap) X (.returned (.tuple #[])) w'):=Ab (fun w' hu=>.inl ⟨by rw[Aa HF2];exact e0,rfl,by rw[Aa HF2];exact Aa HEND _ w' hu⟩);subst hv9;clear hI5 hO5 hgrow5 hspot5;go_wp2;go_end0
 exact Aa HFIN _ (Aa HI5)
end Go.Proofs.YtieianhejdcgdaaGreatDoor
