import Derived.Test.YtleocpdblhbimaaGreatDoorQ22
import Derived.Laws.EntriesVeiled
set_option linter.unusedSimpArgs false
set_option maxHeartbeats 8000000
namespace Go.Proofs.YtleocpdblhbimaaGreatDoor
open Go.RowKit
set_option linter.unusedVariables false
set_option maxRecDepth 100000
theorem Fq:(Tryz.prog.info? 282).map (·.size)=some 2:=by kernel_rfl
theorem Te {I:Array Oper}{o:Oper}{a:Act}{W:World}{K:Act->World->Prop}{Q:Exit->Act->World->Prop}{E:Prop}(Y:o.guard=none)(T:TypeId)(x y:Operand)(ae:o.op=.store T x y)
 (G:Nat) (F H:Array Value) (U:a.eval x=.pointer (some ⟨G,0,none⟩)) (aa:a.eval y=.agg F) (Z:W.heap[G]? =some (.cells H T (0,0))) (ac:(Tryz.prog.info? T).map (·.size)=some F.size) (M:H.size=F.size) (O:F.all (·.oneCell')=true) (h:K (a.put o.dst undef) (W.setRow G F)):if Region.wanted o (yielded I a.tmps)=true then Oper.wp Tryz.prog o a W K Q else E:=by
 have e:Region.wanted o (yielded I a.tmps)=true:=by unfold Region.wanted;rw[Y]
 rw[if_pos e];exact wp_store_row T x y ae G F U aa T H Z ac M O h
theorem Nz (w:World)(E:Nat)(F:Array Value):w.grownBy (w.setRow E F) (some E):=by
 have hb:=Bg (Below.refl 0 w) (VH E) F;exact⟨hb.os,hb.tape,hb.output,hb.size,fun H _ G=>Go.setRow_other _ _ _ _ (fun e=>G (by rw[e]))⟩
theorem EE (row:List Bool)(u u1 u2 u3:US)(G H F:Nat)(g1:uget row 5 u=(G,u1))(g2:uget row 5 u1=(H,u2))(I:uget row 4 u2=(F,u3))(E:u3.e≠0):(Db row u).2=u3:=My row u u1 u2 u3 G H F g1 g2 I u3 E (by
 split
 . rw[Ua 8 u3 E];exact Jr _ _ _ _ E
 . exact Jr _ _ _ _ E)
theorem KB (row:List Bool)(u u1 u2 u3 E:US)(G H F:Nat)(S:List Int)(g1:uget row 5 u=(G,u1))(g2:uget row 5 u1=(H,u2))(Y:uget row 4 u2=(F,u3))(aa:G+257<=286)(Z:H+1<=30)(T:usmall row (ord19.take (F+4)) (List.replicate 19 0) u3=(S,E))(I:E.e=0)(M:errL S≠0):(Db row u).2= {E with e:=8}:=by
 have O:Gk row (G+257) (H+1) (F+4) u3=(S,E):=by
  unfold Gk;rw[if_neg (by omega)];exact T
 have U:Qa (S,E)= {E with e:=8}:=by
  unfold Qa Am;rw[if_pos ⟨I,M⟩,if_pos I]
 unfold Db;simp only[g1,g2,Y];rw[O];unfold Ke;rw[U,if_pos (by exact(by decide:(8:Int)≠0))]
theorem EF (row:List Bool)(u u1 u2 u3:US)(E F G:Nat)(g1:uget row 5 u=(E,u1))(g2:uget row 5 u1=(F,u2))(M:uget row 4 u2=(G,u3))(H:u3.e=0)(O:286<E+257\/30<F+1):(Db row u).2= {u3 with e:=8}:=My row u u1 u2 u3 E F G g1 g2 M _ (by exact(by decide:(8:Int)≠0)) (by
 rw[if_pos O];have I:Am 8 u3= {u3 with e:=8}:=by unfold Am;rw[if_pos H]
 rw[I];exact Jr _ _ _ _ (by exact(by decide:(8:Int)≠0)))
def Z8r (No:Nat->Prop)(B:Nat)(w:World)(b:Nat)(R f1 f2:Value)(A C:List Int)(v:US)(e:Ending)(w':World):Prop:=
 (v.e≠0/\e=Flt v.e/\Bl No B w w')\/ (v.e=0/\Rk No B w b R f1 f2 v w'/\Good A/\Good C/\∃g1 m1 b1 n1 g2 m2 b2 n2,e=.returned (.agg #[DV g1 m1,DV g2 m2])/\DIs w' g1 m1 b1 n1 b A/\DIs w' g2 m2 b2 n2 b C/\(w.heap.size<=g1/\w.heap.size<=m1/\w.heap.size<=b1)/\(w.heap.size<=g2/\w.heap.size<=m2/\w.heap.size<=b2))
theorem D4 (No:Nat->Prop)(B b:Nat)(a:Option Addr)(n G:Nat)(bs:List Nat)(H I:Value)(u:US)(w:World)(E:IIs No B w b (.slice a n G) H I u)(ce:Rd w No a n bs)(c8:u.p<=8*n)(aa:u.e=0)(cw:∀g,w.heap.size<=g->¬No g)(A C:List Int)(v:US)(cv:Hid (Db (rowB bs n) u=((A,C),v))):
 Calls Tryz.prog 252 #[.pointer (some ⟨b,0,none⟩)] w fun e w'=>Z8r No B w b (.slice a n G) H I A C v e w':=by
 have bn:=Af bs n;have fj:=E.lt;have co:=Ab (Rk.refl E)
 have d6:Hid (∀wr:World,w.heap.size<=wr.heap.size->∀g,wr.heap.size<=g->¬NK No w.heap.size wr.heap.size g):=Ab (fun wr f8 g ag e=>by
  rcases e with e|e
  . exact cw g (by omega) e
  . omega)
 have fi:=Ab cw;have a9:Hid (∀wr:World,Bl No B w wr->Rd wr (NJ No w.heap.size) a n bs/\Rd wr (NK No w.heap.size wr.heap.size) a n bs):=Ab (fun wr hb=>⟨(ce.keep hb.below.size hb.kp).wide (fun _ E=>.inl E),(ce.keep hb.below.size hb.kp).wide (fun _ E=>.inl E)⟩);obtain⟨m0,u1,aj⟩:∃r y,uget (rowB bs n) 5 u=(r,y):=⟨_,_,rfl⟩
 obtain⟨n0,u2,ac⟩:∃r y,uget (rowB bs n) 5 u1=(r,y):=⟨_,_,rfl⟩
 obtain⟨c0,u3,T⟩:∃r y,uget (rowB bs n) 4 u2=(r,y):=⟨_,_,rfl⟩
 have fe:u1.p<=8*n:=by have:=Gr (rowB bs n) 5 u (by omega);rw[aj,bn]at this;exact this
 have e4:u2.p<=8*n:=by have:=Gr (rowB bs n) 5 u1 (by omega);rw[ac,bn]at this;exact this
 have e8:u3.p<=8*n:=by have:=Gr (rowB bs n) 4 u2 (by omega);rw[T,bn]at this;exact this
 have l1:m0<32:=by have:=SD (rowB bs n) 5 u;rw[aj]at this;exact this
 have l2:n0<32:=by have:=SD (rowB bs n) 5 u1;rw[ac]at this;exact this
 have gy:c0<16:=by have:=SD (rowB bs n) 4 u2;rw[T]at this;exact this
 have bj:Hid (v=(Db (rowB bs n) u).2):=Ab (by rw[Aa cv]);have bz:Hid (u3.e≠0->v=u3):=Ab (fun e=>by rw[Aa bj];exact EE (rowB bs n) u u1 u2 u3 m0 n0 c0 aj ac T e)
 have ct:Hid (u1.e≠0->u3=u1):=Ab (fun e=>by
  have Y:u2=u1:=by have:=Fj (rowB bs n) 5 u1 e;rw[ac]at this;exact this
  have a6:u3=u2:=by have:=Fj (rowB bs n) 4 u2 (by rw[Y];exact e);rw[T]at this;exact this
  rw[a6,Y])
 have b8:Hid (u2.e≠0->u3=u2):=Ab (fun e=>by have:=Fj (rowB bs n) 4 u2 e;rw[T]at this;exact this);have cp:Hid (u3.e=0->(286<m0+257\/30<n0+1)->v= {u3 with e:=8}):=Ab (fun e fx=>by rw[Aa bj];exact EF (rowB bs n) u u1 u2 u3 m0 n0 c0 aj ac T e fx);have eb:Hid (∀W,Rk No B w b (.slice a n G) H I u W->Calls Tryz.prog 230 #[.pointer (some ⟨b,0,none⟩),.int .i64 5] W fun e w'=>Got (NJ No w.heap.size) B W b (.slice a n G) H I (.int .i64 (m0:Int)) u1 e w'):=Ab (fun W O=>Dx (NJ No w.heap.size) B b a n G 5 bs H I u W O.is (Aa a9 W O.bl).1 c8 aa (by decide) m0 u1 (Ab aj));have ee:Hid (∀W,u1.e=0->Rk No B w b (.slice a n G) H I u1 W->Calls Tryz.prog 230 #[.pointer (some ⟨b,0,none⟩),.int .i64 5] W fun e w'=>Got (NJ No w.heap.size) B W b (.slice a n G) H I (.int .i64 (n0:Int)) u2 e w'):=Ab (fun W aa O=>Dx (NJ No w.heap.size) B b a n G 5 bs H I u1 W O.is (Aa a9 W O.bl).1 fe aa (by decide) n0 u2 (Ab ac));have em:Hid (∀W,u2.e=0->Rk No B w b (.slice a n G) H I u2 W->Calls Tryz.prog 230 #[.pointer (some ⟨b,0,none⟩),.int .i64 4] W fun e w'=>Got (NJ No w.heap.size) B W b (.slice a n G) H I (.int .i64 (c0:Int)) u3 e w'):=Ab (fun W aa O=>Dx (NJ No w.heap.size) B b a n G 4 bs H I u2 W O.is (Aa a9 W O.bl).1 e4 aa (by decide) c0 u3 (Ab T));obtain⟨S,us,ak⟩:∃S us,usmall (rowB bs n) (ord19.take (c0+4)) (List.replicate 19 0) u3=(S,us):=⟨_,_,rfl⟩
 have dt:Hid (∀W,u3.e=0->Rk No B w b (.slice a n G) H I u3 W->Calls Tryz.prog 272 #[.pointer (some ⟨b,0,none⟩),.int .i64 (4+(c0:Int))] W fun e w'=>Z7j (NK No w.heap.size W.heap.size) B W b (.slice a n G) H I S us e w'):=Ab (fun W aa O=>by
  have:=Ns (NK No w.heap.size W.heap.size) B b a n G bs H I u3 W O.inner (Aa a9 W O.bl).2 e8 aa (Aa d6 W O.bl.below.size) (c0+4) (by omega) S us (Ab ak)
  rw[show ((c0+4:Nat):Int)=4+(c0:Int) by omega]at this;exact this)
 have c5:S.length=19:=by have:=Uc (row:=rowB bs n) (ks:=ord19.take (c0+4)) (s:=List.replicate 19 0) (u:=u3);rw[ak]at this;simpa using this
 have df:∀x∈S,0<=x/\x<=7:=by have:=Px (row:=rowB bs n) (ord19.take (c0+4)) (List.replicate 19 0) u3 (by intro x ar;rw[List.eq_of_mem_replicate ar];decide);rw[ak]at this;exact this
 have c7:Hid (errL S≠0->errL S=8):=Ab (fun e=>by
  rcases Z2 S (by omega) (fun x ar=>by have:=df x ar;omega)with E|E
  . exact absurd E e
  . exact E)
 have ed:Hid (286<m0+257\/30<n0+1\/ (us.e≠0->v=us)/\(us.e=0->errL S≠0->v= {us with e:=8})):=Ab (by
  by_cases al:286<m0+257
  . exact .inl al
  . by_cases Y:30<n0+1
    . exact .inr (.inl Y)
    . refine .inr (.inr ⟨fun e=> ?_,fun af e2=> ?_⟩)
      . rw[Aa bj];exact My (rowB bs n) u u1 u2 u3 m0 n0 c0 aj ac T us e (by rw[if_neg (by omega),ak])
      . rw[Aa bj];exact KB (rowB bs n) u u1 u2 u3 us m0 n0 c0 S aj ac T (by omega) (by omega) ak af e2)
 obtain⟨L,v',a8⟩:∃L v',ulens (rowB bs n) S (m0+257+(n0+1)) (m0+257+(n0+1)) [] us=(L,v'):=⟨_,_,rfl⟩
 obtain⟨tot,ff⟩:=exq (m0+257+(n0+1))
 have dc:Hid (∀W gr gm mb nn,us.e=0->errL S=0->Rk No B w b (.slice a n G) H I us W->DIs W gr gm mb nn b S->w.heap.size<=gr->w.heap.size<=gm->w.heap.size<=mb->Calls Tryz.prog 271 #[.pointer (some ⟨b,0,none⟩),DV gr gm,.int .i64 (257+(m0:Int)+(1+(n0:Int)))] W fun e w'=>(v'.e≠0/\e=Flt v'.e/\Bl (NK No w.heap.size W.heap.size) B W w')\/ (v'.e=0/\Rk (NK No w.heap.size W.heap.size) B W b (.slice a n G) H I v' w'/\∃ck,e=.returned ck/\w'.ownsRow W.heap.size 3 1 ck L.length (iv L)/\L.length=tot)):=Ab (fun W gr gm mb nn aa e6 O b5 al Y a6=>by
  have r1:=b5.lt;have r2:=b5.is.lt;have eu:us.p<=8*n:=by have:=(Wn (ks:=ord19.take (c0+4)) (s:=List.replicate 19 0) (row:=rowB bs n) (u:=u3) (by rw[ak];exact aa) (by omega)).2.1;rw[ak,bn]at this;exact this
  have:=X9 (NK No w.heap.size W.heap.size) B b a n G bs H I us W O.inner (Aa a9 W O.bl).2 eu aa (Aa d6 W O.bl.below.size) gr gm mb nn S b5 (Ch e6) ⟨.inr ⟨al,r1.1⟩,.inr ⟨Y,r1.2⟩,.inr ⟨a6,r2⟩⟩ c5 tot (by omega) L v' (Ab (by rw[<-ff];exact a8))
  rw[show ((tot:Nat):Int)=257+(m0:Int)+(1+(n0:Int)) by omega]at this;exact this)
 have cu:Hid (m0+257<=286->n0+1<=30->us.e=0->errL S=0->Gl (m0+257) (L,v')=((A,C),v)):=Ab (fun al Y a6 fm=>by
  rw[<-Aa cv,SQ (rowB bs n) u u1 u2 u3 us m0 n0 c0 S aj ac T al Y ak a6 fm,a8])
 have dl:Hid (v'.e=0->∀x∈L,0<=x/\x<=15):=Ab (fun e=>by
  have:=Uf (row:=rowB bs n) (tot:=m0+257+(n0+1)) c5 (m0+257+(n0+1)) [] us (by simp) (by rw[a8];exact e)
  rw[a8]at this;exact this)
 clear E ce c8 aa cw aj ac T ak a8 df cv;go_enter Tryz.func252,Tryz.ntmps252
 go_wp2_with fail
 refine(Aa eb _ ((Aa co).past ((Below.refl _ _).alloc (VB _) _))).mono ?_;have cy:=Ab ((Aa co).past ((Below.refl _ _).alloc (VB _) (.cells #[.nilFunc,.nilFunc] 282)));have dd:(w.alloc (.cells #[.nilFunc,.nilFunc] 282)).heap[w.heap.size]? =some (.cells #[.nilFunc,.nilFunc] 282 (0,0)):=heap_alloc_new _ _;have dx:=Ab dd;have fy:w.heap.size<(w.alloc (.cells #[.nilFunc,.nilFunc] 282)).heap.size:=by simp
 clear dd;generalize w.alloc (.cells #[.nilFunc,.nilFunc] 282)=gv at*;rintro e cg ag
 rcases ag with ⟨af,rfl,bd⟩|⟨af,rfl,eg⟩
 rotate_left
 . have F:Hid (v=u1):=Ab (by rw[Aa bz (by rw[Aa ct af];exact af),Aa ct af]);have Z:=Ab ((Aa cy).bl.trans (eg.weaken (fun _ E=>.inl E)));clear eg;go_wp2;exact⟨rfl,.inl ⟨by rw[Aa F];exact af,by rw[Aa F],Aa Z⟩⟩
 have bi:=Ab ((Aa cy).num bd);have cz:Hid (cg.heap[w.heap.size]? =some (.cells #[.nilFunc,.nilFunc] 282 (0,0))):=Ab ((bd.kp _ fy (.inr (VB _))).trans (Aa dx));have f5:w.heap.size<cg.heap.size:=by have:=bd.below.size;omega
 clear bd;go_wp2_with fail
 refine(Aa ee cg af (Aa bi)).mono ?_;rintro e cq ag
 rcases ag with ⟨e2,rfl,bq⟩|⟨e2,rfl,dn⟩
 rotate_left
 . have F:Hid (v=u2):=Ab (by rw[Aa bz (by rw[Aa b8 e2];exact e2),Aa b8 e2]);have Z:=Ab ((Aa bi).bl.trans (dn.weaken (fun _ E=>.inl E)));clear dn;go_wp2;exact⟨rfl,.inl ⟨by rw[Aa F];exact e2,by rw[Aa F],Aa Z⟩⟩
 have bc:=Ab ((Aa bi).num bq);have dr:Hid (cq.heap[w.heap.size]? =some (.cells #[.nilFunc,.nilFunc] 282 (0,0))):=Ab ((bq.kp _ f5 (.inr (VB _))).trans (Aa cz));have fg:w.heap.size<cq.heap.size:=by have:=bq.below.size;omega
 clear bq;go_wp2_with fail
 refine(Aa em cq e2 (Aa bc)).mono ?_;rintro e w3 ag
 rcases ag with ⟨e3,rfl,bv⟩|⟨e3,rfl,ei⟩
 rotate_left
 . have F:Hid (v=u3):=Ab (Aa bz e3);have Z:=Ab ((Aa bc).bl.trans (ei.weaken (fun _ E=>.inl E)));clear ei;go_wp2;exact⟨rfl,.inl ⟨by rw[Aa F];exact e3,by rw[Aa F],Aa Z⟩⟩
 have ap:=Ab ((Aa bc).num bv);have d7:Hid (w3.heap[w.heap.size]? =some (.cells #[.nilFunc,.nilFunc] 282 (0,0))):=Ab ((bv.kp _ fg (.inr (VB _))).trans (Aa dr));have db:w.heap.size<w3.heap.size:=by have:=bv.below.size;omega
 clear bv;have a2:=Ab (Cf 8 w3)
 by_cases al:286<m0+257
 . have F:Hid (v= {u3 with e:=8}):=Ab (Aa cp e3 (.inl al));have ep:(286:Int)<257+(m0:Int):=by omega
   go_wp2_with fail
   refine(Aa a2).mono ?_;rintro e az ⟨rfl,rfl⟩;go_wp2;exact⟨rfl,.inl ⟨by rw[Aa F];exact(by decide:(8:Int)≠0),by rw[Aa F],(Aa ap).bl⟩⟩
 have ep:¬(286:Int)<257+(m0:Int):=by omega
 by_cases Y:30<n0+1
 . have F:Hid (v= {u3 with e:=8}):=Ab (Aa cp e3 (.inr Y));have f6:(30:Int)<1+(n0:Int):=by omega
   go_wp2_with fail
   refine(Aa a2).mono ?_;rintro e az ⟨rfl,rfl⟩;go_wp2;exact⟨rfl,.inl ⟨by rw[Aa F];exact(by decide:(8:Int)≠0),by rw[Aa F],(Aa ap).bl⟩⟩
 have f6:¬(30:Int)<1+(n0:Int):=by omega
 have b0:Hid ((us.e≠0->v=us)/\(us.e=0->errL S≠0->v= {us with e:=8})):=Ab (by
  rcases Aa ed with E|E|E
  . exact absurd E al
  . exact absurd E Y
  . exact E)
 clear a2 ed cp bz ct b8 eb ee em;go_wp2_with fail
 refine(Aa dt w3 e3 (Aa ap)).mono ?_;rintro e az ag
 rcases ag with ⟨ao,rfl,a3⟩|⟨ao,aw,rfl,a3⟩|⟨ao,aw,bb,gr,gm,mb,nn,rfl,a5,a1,a7,cd,au⟩
 . have F:Hid (v=us):=Ab ((Aa b0).1 ao);have Z:=Ab ((Aa ap).bl.trans (a3.weaken (fun _ E=>.inl E)));clear a3;go_wp2;exact⟨rfl,.inl ⟨by rw[Aa F];exact ao,by rw[Aa F],Aa Z⟩⟩
 . have F:Hid (v= {us with e:=8}):=Ab ((Aa b0).2 ao aw);have Z:=Ab ((Aa ap).bl.trans (a3.weaken (fun _ E=>.inl E)));have e1:=Ab (Aa c7 aw);clear a3;go_wp2;exact⟨rfl,.inl ⟨by rw[Aa F];exact(by decide:(8:Int)≠0),by rw[Aa F,Aa e1],Aa Z⟩⟩
 have bk:=Ab ((Aa ap).step bb);have di:Hid (az.heap[w.heap.size]? =some (.cells #[.nilFunc,.nilFunc] 282 (0,0))):=Ab ((bb.bl.kp _ db (.inr ⟨VB _,db⟩)).trans (Aa d7));have dq:w.heap.size<az.heap.size:=by have:=bb.bl.below.size;omega
 have d8:=Ab (Aa dc az gr gm mb nn ao aw (Aa bk) au (by omega) (by omega) (by omega));clear bb a5 a1 a7 cd au dc dt b0 c7;go_wp2_with fail
 refine(Aa d8).mono ?_;rintro e M ag
 rcases ag with ⟨ai,rfl,eh⟩|⟨ai,bw,ck,rfl,ba,dw⟩
 . have F:Hid (v=v'):=Ab (by
    have:=Aa cu (by omega) (by omega) ao aw
    unfold Gl at this;rw[if_pos ai]at this;exact(VN this).2.symm)
   have Z:=Ab ((Aa bk).bl.trans (eh.weaken (fun _ E=>.inl E)));clear eh;go_wp2;exact⟨rfl,.inl ⟨by rw[Aa F];exact ai,by rw[Aa F],Aa Z⟩⟩
 have bu:=Ab ((Aa bk).step bw);have fp:Hid (M.heap[w.heap.size]? =some (.cells #[.nilFunc,.nilFunc] 282 (0,0))):=Ab ((bw.bl.kp _ dq (.inr ⟨VB _,dq⟩)).trans (Aa di));have ek:w.heap.size<M.heap.size:=by have:=bw.bl.below.size;omega
 rw[dw]at ba;obtain⟨U,ae,rfl,gu,dm⟩:=Ba ba (by omega);have gq:=Z0g ba
 have cj:Row .i64 M U 0 L:=by
  obtain⟨gj,gx,fh,ds,e0,_⟩:=Xh ba
  cases fh
  rcases e0 with fw|⟨g5,gz,fq,_,T⟩
  . rw[fw]at ds;simp at ds;omega
  . cases fq;exact T
 have dh:=Ab cj;have cm:=Ab dw;have fu:M.cell? ⟨U,256,none⟩=some (.int .i64 (L.getD 256 0)):=by have:=cj 256 (by omega);rw[WG]at this;exact this
 have b3:Hid (Gl (m0+257) (L,v')=((A,C),v)):=Ab (Aa cu (by omega) (by omega) ao aw);have c6:=Ab (Aa dl ai);obtain⟨z,b4⟩:=exq (L.getD 256 0);rw[b4]at fu;have d5:=Ab b4;clear bw ba cj b4 cu dl d8 cy bi bc ap bk cz dr d7 di dx co;have g4:(256:Int)<(tot:Int):=by omega
 by_cases bg:z=0
 . have F:Hid (v= {v' with e:=8}):=Ab (by
    have:=Aa b3
    unfold Gl at this;rw[if_neg (fun c=>c ai),if_pos (.inl ((Aa d5).trans bg))]at this;rw[<-(VN this).2];unfold Am;rw[if_pos ai])
   have a2:=Ab (Cf 8 M);subst bg;go_wp2_with fail
   refine(Aa a2).mono ?_;rintro e w6 ⟨rfl,rfl⟩;go_wp2;exact⟨rfl,.inl ⟨by rw[Aa F];exact(by decide:(8:Int)≠0),by rw[Aa F],(Aa bu).bl⟩⟩
 have f9:(z==0)=false:=by rw[beq_eq_false_iff_ne];exact bg
 obtain⟨m,hm⟩:=exq (m0+257);have dj:257+(m0:Int)=(m:Int):=by omega
 have f7:m<=tot:=by omega
 have du:(L.take m).length=m:=by rw[VL];have:=Aa cm;omega
 have dy:(L.drop m).length=tot-m:=by rw[VQ,Aa cm]
 have fk:=Ab (fun q=>Kt b (some ⟨U,0,none⟩) m ae (L.take m) (M.drewN q) du (by omega) (.inr ⟨U,0,rfl,dm,fun j da=>by
  have:=Aa dh j (by have:=Aa cm;omega)
  have e:(L.take m).getD j 0=L.getD j 0:=by simp only[List.getD];rw[XX (by omega)]
  rw[e];exact this⟩))
 have ey:Hid (∀W,Below M.heap.size M W->Calls Tryz.prog 270 #[.pointer (some ⟨b,0,none⟩),.slice (some ⟨U,m,none⟩) (tot-m) (ae-m)] W fun e w'=>Z8s b (L.drop m) W e w'):=Ab (fun W d9=>Kt b (some ⟨U,m,none⟩) (tot-m) (ae-m) (L.drop m) W dy (by omega) (.inr ⟨U,m,rfl,by have:=d9.size;omega,fun j da=>by
  have et:m+j<L.length:=by rw[VQ]at da;omega
  have:=Aa dh (m+j) et
  rw[WG]at this;have e:(L.drop m).getD j 0=L.getD (m+j) 0:=by simp only[List.getD];rw[XJ]
  rw[e];exact(d9.cell (p:=⟨U,m+j,none⟩) dm).trans this⟩))
 have dz:Hid (errL (L.take m)≠0\/errL (L.drop m)≠0->v= {v' with e:=8}):=Ab (fun fo=>by
  have:=Aa b3
  unfold Gl at this;rw[if_neg (fun c=>c ai),hm,if_pos (.inr fo)]at this;rw[<-(VN this).2];unfold Am;rw[if_pos ai])
 have eo:Hid (errL (L.take m)=0->errL (L.drop m)=0->A=L.take m/\C=L.drop m/\v=v'):=Ab (fun ft hc=>by
  have:=Aa b3
  unfold Gl at this
  rw[if_neg (fun c=>c ai),hm,if_neg (by
   rintro (c|c|c)
   . exact bg ((Aa d5).symm.trans c)
   . exact c ft
   . exact c hc)]at this
  exact⟨(VN (VN this).1).1.symm,(VN (VN this).1).2.symm,(VN this).2.symm⟩)
 have dv:Hid ((errL (L.take m)≠0->errL (L.take m)=8)/\(errL (L.drop m)≠0->errL (L.drop m)=8)):=Ab (by
  constructor
  . intro e
    rcases Z2 (L.take m) (by omega) (fun x ar=>Aa c6 x (VR ar))with E|E
    . exact absurd E e
    . exact E
  . intro e
    rcases Z2 (L.drop m) (by omega) (fun x ar=>Aa c6 x (VW ar))with E|E
    . exact absurd E e
    . exact E)
 have g0:(m:Int)<=(tot:Int):=by omega
 have gn:(m:Int)<=(ae:Int):=by omega
 have gi:(tot:Int)<=(ae:Int):=by omega
 have gd:¬ae=m:=by omega
 rw[dj];clear dj;clear du dy;go_wp2;refine wp_region_any (by kernel_rfl) ?_
 try (change wpAny _ _ _ _ _ _ _ (World.drew _))
 refine tkA (i:=0) (v:=.pointer (some ⟨b,0,none⟩)) ?_;simp only[Act.put,VA,VC,VD];refine tkA (i:=1) (v:=.slice (some ⟨U,0,none⟩) tot ae) ?_;simp only[Act.put,VA,VC,VD];refine tkA (i:=2) (v:=.int .i64 (m:Int)) ?_;simp only[Act.put,VA,VC,VD];refine tkA (i:=3) (v:=.slice (some ⟨U,0,none⟩) m ae) ?_;simp only[Act.put,VA,VC,VD];refine tkA (i:=5) (v:=.pointer (some ⟨b,0,none⟩)) ?_;simp only[Act.put,VA,VC,VD];refine tkA (i:=6) (v:=.slice (some ⟨U,0,none⟩) tot ae) ?_;simp only[Act.put,VA,VC,VD];refine tkA (i:=7) (v:=.int .i64 (m:Int)) ?_;simp only[Act.put,VA,VC,VD];refine tkA (i:=8) (v:=.slice (some ⟨U,m,none⟩) (tot-m) (ae-m)) ?_;simp only[Act.put,VA,VC,VD];refine rdA (i:=4) fun K hK=> ?_
 go_simp
 refine(Aa fk _).mono ?_;rintro e w6 ⟨c9,e9⟩;have ay:Hid (Below M.heap.size M w6):=Ab ((Ae (Below.refl _ _) _).trans c9);clear c9
 rcases e9 with ⟨d0,g1,m1,b1,n1,rfl,a5,a1,a7,cd,au⟩|⟨d0,rfl⟩
 rotate_left
 . have F:Hid (v= {v' with e:=8}):=Ab (Aa dz (.inl d0));rw[(Aa dv).1 d0];exact And.intro rfl (e7.inl ⟨by rw[Aa F];exact(by decide:(8:Int)≠0),by rw[Aa F],((Aa bu).past (Aa ay)).bl⟩)
 dsimp only;refine hK _ _ ?_;clear hK K;refine rdA (i:=9) fun K hK=> ?_
 go_simp
 refine(Aa ey _ (Aa ay)).mono ?_;rintro e bf ⟨cn,f3⟩;have bo:=Ab cn;have b9:Hid (Below M.heap.size M bf):=Ab ((Aa ay).trans (cn.mono (Aa ay).size));clear cn
 rcases f3 with ⟨av,g2,m2,b2,n2,rfl,x1,x2,x3,x4,bh⟩|⟨av,rfl⟩
 rotate_left
 . have F:Hid (v= {v' with e:=8}):=Ab (Aa dz (.inr av));rw[(Aa dv).2 av];exact And.intro rfl (e7.inl ⟨by rw[Aa F];exact(by decide:(8:Int)≠0),by rw[Aa F],((Aa bu).past (Aa b9)).bl⟩)
 dsimp only;refine hK _ _ ?_;clear hK K;refine rdA (i:=10) fun K hK=> ?_
 go_simp
 refine hK _ _ ?_;clear hK K;refine rdA (i:=11) fun K hK=> ?_
 have b7:bf.heap[w.heap.size]? =some (.cells #[.nilFunc,.nilFunc] 282 (0,0)):=((Aa b9).block _ ek).trans (Aa fp);refine Te rfl 282 (.tmp 2) (.tmp 46) rfl w.heap.size #[DV g1 m1,DV g2 m2] _ rfl rfl b7 Fq rfl (by first|rfl|simp[Value.oneCell']) ?_;refine hK _ _ ?_;clear hK K;refine wpAny_done (by kernel_rfl) ?_ _;simp only[Act.put,VA,VC,VD];obtain⟨ax,bm⟩:=exq (bf.setRow w.heap.size #[DV g1 m1,DV g2 m2]);have f4:ax.heap[w.heap.size]? =some (.cells #[DV g1 m1,DV g2 m2] 282 (0,0)):=by rw[<-bm];exact setRow_heap _ _ _ _ _ _ b7
 have ah:bf.grownBy ax (some w.heap.size):=by rw[<-bm];exact Nz _ _ _
 have en:Hid (Rk No B w b (.slice a n G) H I v' ax):=Ab (((Aa bu).past (Aa b9)).aside ah (fun g e=>by cases e;exact VB _) (Aa fi) fj)
 have ej:Hid (DIs ax g1 m1 b1 n1 b (L.take m)):=Ab (by
  have a4:=au.lt;have ci:=au.is.lt;have ew:=(Aa bo).size;refine(au.keep ew ((Aa bo).block g1 a4.1) ((Aa bo).block m1 a4.2) ((Aa bo).block b1 ci)).keep ah.size (ah.block g1 (by omega) ?_) (ah.block m1 (by omega) ?_) (ah.block b1 (by omega) ?_)<;>(intro e;have:=VM e;have hs5:=ek;have gg:M.heap.size<=g1:=a5;have gw:M.heap.size<=m1:=a1;have gh:M.heap.size<=b1:=a7;omega))
 have dp:Hid (DIs ax g2 m2 b2 n2 b (L.drop m)):=Ab (by
  have a4:=bh.lt;have ci:=bh.is.lt;have e5:=(Aa ay).size;refine bh.keep ah.size (ah.block g2 a4.1 ?_) (ah.block m2 a4.2 ?_) (ah.block b2 ci ?_)<;>(intro e;have:=VM e;omega))
 have F:Hid (Z8r No B w b (.slice a n G) H I A C v (.returned (.agg #[DV g1 m1,DV g2 m2])) ax):=Ab (by
  obtain⟨r1,r2,de⟩:=Aa eo d0 av;have e5:=(Aa ay).size;have af:w.heap.size<=g1:=by have d':M.heap.size<=g1:=a5;omega
  have e2:w.heap.size<=m1:=by have d':M.heap.size<=m1:=a1;omega
  have e3:w.heap.size<=b1:=by have d':M.heap.size<=b1:=a7;omega
  refine .inr ⟨by rw[de];exact ai,by rw[de];exact Aa en,by rw[r1];exact Ch d0,by rw[r2];exact Ch av,g1,m1,b1,n1,g2,m2,b2,n2,rfl,by rw[r1];exact Aa ej,by rw[r2];exact Aa dp,⟨af,e2,e3⟩,⟨by omega,by omega,by omega⟩⟩)
 rw[bm];clear bm ah d0 a5 a1 a7 cd au av x1 x2 x3 x4 bh ej dp en b7;go_wp2;refine bodyPost_ret (v:=.agg #[DV g1 m1,DV g2 m2]) ?_ rfl (Aa F);exact results_cell_row rfl _ _ w.heap.size _ _ _ _ (by first|rfl|kernel_rfl|simp) f4 Tryz.underlying282 rfl Fq
def Fx (No:Nat->Prop)(w:World)(b:Nat)(f1 f2:Value):Prop:=
 (f1=.nilFunc/\f2=.nilFunc)\/∃g1 m1 b1 n1 g2 m2 b2 n2,f1=DV g1 m1/\f2=DV g2 m2/\DIs w g1 m1 b1 n1 b Ky/\DIs w g2 m2 b2 n2 b Ir/\(No g1/\No m1/\No b1)/\(No g2/\No m2/\No b2)
theorem Fx.keep {No:Nat->Prop}{w w':World}{b:Nat}{M O:Value}(G:Fx No w b M O)(T:w.heap.size<=w'.heap.size)(E:Kp No w w'):Fx No w' b M O:=by
 rcases G with G|⟨g1,m1,b1,n1,g2,m2,b2,n2,af,e2,H,F,⟨aa,I,Z⟩,⟨c1,c2,U⟩⟩
 . exact .inl G
 . have ac:=H.lt;have ag:=H.is.lt;have Y:=F.lt;have ae:=F.is.lt;exact .inr ⟨g1,m1,b1,n1,g2,m2,b2,n2,af,e2,H.keep T (E g1 ac.1 aa) (E m1 ac.2 I) (E b1 ag Z),F.keep T (E g2 Y.1 c1) (E m2 Y.2 c2) (E b2 ae U),⟨aa,I,Z⟩,⟨c1,c2,U⟩⟩
def Z7f (No:Nat->Prop)(B:Nat)(w:World)(b:Nat)(R:Value)(u:US)(e:Ending)(w':World):Prop:=
 ∃No' g1 m1 b1 n1 g2 m2 b2 n2,(∀g,No g->No' g)/\(∀g,w'.heap.size<=g->¬No' g)/\e=.returned (.agg #[DV g1 m1,DV g2 m2])/\IIs No' B w' b R (DV g1 m1) (DV g2 m2) u/\DIs w' g1 m1 b1 n1 b Ky/\DIs w' g2 m2 b2 n2 b Ir/\(No' g1/\No' m1/\No' b1)/\(No' g2/\No' m2/\No' b2)/\Bl No B w w'
theorem IIs.cells45 {No:Nat->Prop}{B b:Nat}{w:World}{R G F:Value}{u:US}(H:IIs No B w b R G F u):w.cell? ⟨b,4,none⟩=some G/\w.cell? ⟨b,5,none⟩=some F/\∀j,w.frozen? ⟨b,j,none⟩=false:=by
 obtain⟨ov,kv,E,_⟩:=H.ex;exact⟨Ac E,Ac E,fun j=>frozen_of_row w b j _ _ E⟩
theorem Yg (No:Nat->Prop)(B b:Nat)(R:Value)(u:US)(w:World)(g1 E I aa g2 F M ag:Nat)(H:IIs No B w b R (DV g1 E) (DV g2 F) u)(O:DIs w g1 E I aa b Ky)(T:DIs w g2 F M ag b Ir)(ae:No g1/\No E/\No I)(Z:No g2/\No F/\No M)(af:∀g,w.heap.size<=g->¬No g):
 Calls Tryz.prog 251 #[.pointer (some ⟨b,0,none⟩)] w fun e w'=>Z7f No B w b R u e w':=by
 have ax:=H.lt;have ar:=H.base;obtain⟨ap,aw,_⟩:=H.cells45
 have aj:Hid (∀w',Below w.heap.size w w'->Z7f No B w b R u (.returned (.agg #[DV g1 E,DV g2 F])) w'):=Ab (fun w' G=>by
  have ac:=G.size;have Y:=O.lt;have ak:=O.is.lt;have ai:=T.lt;have al:=T.is.lt;exact⟨No,g1,E,I,aa,g2,F,M,ag,fun _ H=>H,fun g av=>af g (by omega),rfl,H.past G,O.keep ac (G.block g1 Y.1) (G.block E Y.2) (G.block I ak),T.keep ac (G.block g2 ai.1) (G.block F ai.2) (G.block M al),ae,Z,Z7c G (by omega)⟩)
 clear H O T ae Z af;have au:∀W:World,(binOp .eql 259 (DV g1 E) .nilFunc).run Tryz.prog W=.ok (.bool false) W:=fun W=>by first|rfl|kernel_rfl
 go_enter Tryz.func251,Tryz.ntmps251
 have U:(w.alloc (.cells #[.nilFunc,.nilFunc] 282)).heap[w.heap.size]? =some (.cells #[.nilFunc,.nilFunc] 282 (0,0)):=heap_alloc_new _ _;have ah:=Ab U;have ao:Hid (Below w.heap.size w ((w.alloc (.cells #[.nilFunc,.nilFunc] 282)).setRow w.heap.size #[DV g1 E,DV g2 F])):=Ab (Bg ((Below.refl w.heap.size w).alloc (VB _) _) (VB _) _);clear U;go_wp2_with (refine wpList_store_row rfl 282 (.tmp 2) (.tmp 28) rfl w.heap.size #[DV g1 E,DV g2 F] rfl rfl 282 #[.nilFunc,.nilFunc] (Aa ah) Fq rfl (by first|rfl|simp[Value.oneCell']) ?_)
 refine bodyPost_ret (v:=.agg #[DV g1 E,DV g2 F]) ?_ rfl (Aa aj _ (Aa ao));exact results_cell_row rfl _ _ w.heap.size _ _ _ _ (by first|rfl|kernel_rfl|simp) (setRow_heap _ _ _ _ _ _ (Aa ah)) Tryz.underlying282 rfl Fq
theorem L4 (No:Nat->Prop)(B b:Nat)(R:Value)(u:US)(w:World)(I:IIs No B w b R .nilFunc .nilFunc u)(bw:∀g,w.heap.size<=g->¬No g):
 Calls Tryz.prog 251 #[.pointer (some ⟨b,0,none⟩)] w fun e w'=>Z7f No B w b R u e w':=by
 have cm:=I.lt;have dq:=I.base;obtain⟨db,dl,dc⟩:=I.cells45;have dr:∀W:World,(binOp .eql 259 .nilFunc .nilFunc).run Tryz.prog W=.ok (.bool true) W:=fun W=>by first|rfl|kernel_rfl
 have ct:=Ab (Rk.refl I);have bj:=Ab bw;obtain⟨U,a8⟩:=exq (Ky);obtain⟨O,ay⟩:=exq (Ir);have ah:=Mj;have ai:=Fk;have a5:=Mk;have a3:=Mi;have bi:=Ab (fun W=>K7 W);simp only[a8,ay]at bi ah ai a5 a3;have cq:=Ab a5;have c8:=Ab a3;have c7:=Ab a8;have co:=Ab ay;have ba:(w.alloc (.cells #[.nilFunc,.nilFunc] 282)).heap[w.heap.size]? =some (.cells #[.nilFunc,.nilFunc] 282 (0,0)):=heap_alloc_new _ _;have cw:=Ab ba;have b8:Hid (Below w.heap.size w (w.alloc (.cells #[.nilFunc,.nilFunc] 282))):=Ab ((Below.refl w.heap.size w).alloc (VB _) _);clear I bw a8 ay a5 a3 ba;have c5:(Tryz.prog.info? 247).map (·.size)=some (iv U).toArray.size:=by rw[Ya];simp[ah]
 have cz:(Tryz.prog.info? 248).map (·.size)=some (iv O).toArray.size:=by rw[CP];simp[ai]
 go_enter Tryz.func251,Tryz.ntmps251
 go_wp2_with fail
 refine(Aa bi _).mono ?_;rintro e E ⟨rfl,au⟩;have c9:=au.size;simp only[World.size_alloc]at c9;have cy:Hid (Below w.heap.size w E):=Ab ((Aa b8).trans (au.mono (by simp)));have b4:Hid (E.heap[w.heap.size]? =some (.cells #[.nilFunc,.nilFunc] 282 (0,0))):=Ab ((au.block _ (by simp)).trans (Aa cw));clear au;have bu:((E.alloc (.cells (iv (List.replicate 288 0)).toArray 247)).alloc (.cells (iv (List.replicate 32 0)).toArray 248)).heap[E.heap.size]? =some (.cells (iv (List.replicate 288 0)).toArray 247 (0,0)):=(Below.heap_alloc _ _ _ (by simp)).trans (heap_alloc_new _ _)
 have bb:(((E.alloc (.cells (iv (List.replicate 288 0)).toArray 247)).alloc (.cells (iv (List.replicate 32 0)).toArray 248)).setRow E.heap.size (iv U).toArray).heap[E.heap.size+1]? =some (.cells (iv (List.replicate 32 0)).toArray 248 (0,0)):=by
  rw[Go.setRow_other _ _ _ _ (by omega)];have e:E.heap.size+1=(E.alloc (.cells (iv (List.replicate 288 0)).toArray 247)).heap.size:=by simp
  rw[e];exact heap_alloc_new _ _
 have bm:=Ab bu;have b0:=Ab bb;have aj:=Ab (fun x y=>Jt E E x y 247 248 U O (Below.refl _ _) (by simp));clear bu bb;go_upto_region 3 with (first|refine wpList_store_row rfl 247 (.tmp 3) (.tmp 13) rfl E.heap.size _ rfl rfl 247 (iv (List.replicate 288 0)).toArray (Aa bm) c5 (by simp[ah]) (Cy U) ?_|refine wpList_store_row rfl 248 (.tmp 4) (.tmp 14) rfl (E.heap.size+1) _ rfl rfl 248 (iv (List.replicate 32 0)).toArray (Aa b0) cz (by simp[ai]) (Cy O) ?_)
 simp only[Act.put];generalize av:World.setRow (World.setRow (World.alloc (World.alloc _ _) _) _ _) _ _=W2;have G:ARow 247 W2 E.heap.size U:=by rw[<-av];exact(Aa aj _ _).1
 have H:ARow 248 W2 (E.heap.size+1) O:=by rw[<-av];exact(Aa aj _ _).2.1
 have T:Below E.heap.size E W2:=by rw[<-av];exact(Aa aj _ _).2.2
 clear av aj bm b0;have dj:=T.size;have ce:Hid (Rk No B w b R .nilFunc .nilFunc u W2):=Ab ((Aa ct).past ((Aa cy).trans (T.mono (by omega))));have cg:Hid (W2.heap[w.heap.size]? =some (.cells #[.nilFunc,.nilFunc] 282 (0,0))):=Ab ((T.block _ (by omega)).trans (Aa b4));have cn:=Ab (fun k=>Nr b (some ⟨E.heap.size,0,none⟩) 288 288 U (W2.drewN k) ah (.inr ⟨_,0,rfl,G.lt,G.row⟩) (Aa cq));have b7:Hid (∀W,Below W2.heap.size W2 W->Calls Tryz.prog 270 #[.pointer (some ⟨b,0,none⟩),.slice (some ⟨E.heap.size+1,0,none⟩) 32 32] W fun e w'=>∃gr gm mb nn,e=.returned (DV gr gm)/\W.heap.size<=gr/\W.heap.size<=gm/\W.heap.size<=mb/\mb<w'.heap.size/\DIs w' gr gm mb nn b O/\Below W.heap.size W w'):=Ab (fun W bo=>Nr b (some ⟨E.heap.size+1,0,none⟩) 32 32 O W ai (.inr ⟨_,0,rfl,(H.keep (bo.block _ H.lt)).lt,(H.keep (bo.block _ H.lt)).row⟩) (Aa c8));clear G H T;refine wp_region_any (by kernel_rfl) ?_
 try (change wpAny _ _ _ _ _ _ _ (World.drew _))
 refine tkA (i:=0) (v:=.pointer (some ⟨b,0,none⟩)) ?_;simp only[Act.put,VA,VC,VD];refine tkA (i:=1) (v:=.pointer (some ⟨b,0,none⟩)) ?_;simp only[Act.put,VA,VC,VD];refine tkA (i:=2) (v:=.slice (some ⟨E.heap.size,0,none⟩) 288 288) ?_;simp only[Act.put,VA,VC,VD];refine tkA (i:=4) (v:=.pointer (some ⟨b,0,none⟩)) ?_;simp only[Act.put,VA,VC,VD];refine tkA (i:=5) (v:=.slice (some ⟨E.heap.size+1,0,none⟩) 32 32) ?_;simp only[Act.put,VA,VC,VD];refine rdA (i:=3) fun K hK=> ?_
 go_simp
 refine(Aa cn _).mono ?_;rintro e w6 ⟨g1,m1,b1,n1,rfl,bh,bc,bq,cj,ar,bd⟩;have ax:Hid (Below W2.heap.size W2 w6):=Ab ((Ae (Below.refl _ _) _).trans bd);clear bd;dsimp only;refine hK _ _ ?_;clear hK K;refine rdA (i:=6) fun K hK=> ?_
 go_simp
 refine(Aa b7 _ (Aa ax)).mono ?_;rintro e F ⟨g2,m2,b2,n2,rfl,x1,x2,x3,x4,ak,a6⟩;have ap:=Ab a6;have az:Hid (Below W2.heap.size W2 F):=Ab ((Aa ax).trans (a6.mono (Aa ax).size));clear a6;dsimp only;refine hK _ _ ?_;clear hK K;refine rdA (i:=7) fun K hK=> ?_
 go_simp
 refine hK _ _ ?_;clear hK K;refine rdA (i:=8) fun K hK=> ?_
 go_simp
 refine hK _ _ ?_;clear hK K;refine rdA (i:=9) fun K hK=> ?_
 go_simp
 refine hK _ _ ?_;clear hK K;have a9:=(Aa ce).past (Aa az);have bz:=Ab a9;obtain⟨ci,c6,a4⟩:=a9.is.cells45;have b9:=a4 4;have da:=a4 5;clear a9;refine rdA (i:=10) fun K hK=> ?_
 go_simp
 refine hK _ _ ?_;clear hK K;refine wpAny_done (by kernel_rfl) ?_ _;obtain⟨Z,aa⟩:=exq ((F.setCell ⟨b,4,none⟩ (DV g1 m1)).setCell ⟨b,5,none⟩ (DV g2 m2));have ac:=(Aa bz).is.set (g1:=DV g1 m1) (g2:=.nilFunc) 4 (DV g1 m1) u rfl rfl (fun _ _=>rfl);have af:=ac.is.set (g1:=DV g1 m1) (g2:=DV g2 m2) 5 (DV g2 m2) u rfl rfl (fun _ _=>rfl);have dd:=(Aa az).size
 have a1:Rk No B w b R (DV g1 m1) (DV g2 m2) u Z:=by
  rw[<-aa];exact⟨af.is,(Aa bz).bl.trans ((ac.bl.trans af.bl).weaken (fun _ I=>.inl I))⟩
 have a7:∀g,g≠b->Z.heap[g]? =F.heap[g]? :=fun g a2=>by
  rw[<-aa]
  by_cases bf:g<F.heap.size
  . have b5:=(Ad F b 4 (DV g1 m1)).block g bf (fun e=>a2 (VM e));have cp:=(Ad (F.setCell ⟨b,4,none⟩ (DV g1 m1)) b 5 (DV g2 m2)).block g (VG bf ac.below.size) (fun e=>a2 (VM e));exact cp.trans b5
  . have dm:((F.setCell ⟨b,4,none⟩ (DV g1 m1)).setCell ⟨b,5,none⟩ (DV g2 m2)).heap.size=F.heap.size:=by simp
    rw[ZN (by omega),ZN (by omega)]
 have ds:F.heap.size<=Z.heap.size:=by rw[<-aa];exact VU ac.below.size af.below.size
 obtain⟨df,dn,_⟩:=a1.is.cells45;have bg:Hid (Z.heap[w.heap.size]? =some (.cells #[.nilFunc,.nilFunc] 282 (0,0))):=Ab ((a7 _ (by omega)).trans (((Aa az).block _ (by omega)).trans (Aa cg)));obtain⟨M,ae⟩:=exq (Z.setRow w.heap.size #[DV g1 m1,DV g2 m2]);have ao:Z.grownBy M (some w.heap.size):=by rw[<-ae];exact Nz _ _ _
 have b3:Hid (M.heap[w.heap.size]? =some (.cells #[DV g1 m1,DV g2 m2] 282 (0,0))):=Ab (by rw[<-ae];exact setRow_heap _ _ _ _ _ _ (Aa bg));have ag:Rk No B w b R (DV g1 m1) (DV g2 m2) u M:=a1.aside ao (fun g e=>by cases e;exact VB _) (Aa bj) cm;have di:=ao.size;have de:=(Aa ax).size;have bk:W2.heap.size<=g1:=bh;have bv:W2.heap.size<=m1:=bc;have bn:W2.heap.size<=b1:=bq;have Y:∀g,W2.heap.size<=g->g<F.heap.size->M.heap[g]? =F.heap[g]? :=fun g dp dh=>(ao.block g (by omega) (fun e=>by have:=VM e;omega)).trans (a7 g (by omega))
 have aw:DIs M g1 m1 b1 n1 b U:=by
  have G:=ar.lt;have H:=ar.is.lt;have cv:=(Aa ap).size;exact(ar.keep cv ((Aa ap).block g1 G.1) ((Aa ap).block m1 G.2) ((Aa ap).block b1 H)).keep (by omega) (Y g1 bk (by omega)) (Y m1 bv (by omega)) (Y b1 bn (by omega))
 have al:DIs M g2 m2 b2 n2 b O:=by
  have G:=ak.lt;have H:=ak.is.lt;exact ak.keep (by omega) (Y g2 (by omega) G.1) (Y m2 (by omega) G.2) (Y b2 (by omega) H)
 have cd:Hid (Z7f No B w b R u (.returned (.agg #[DV g1 m1,DV g2 m2])) M):=Ab (by
  have G:=aw.lt;have H:=aw.is.lt;have T:=al.lt;have ck:=al.is.lt;refine⟨NK No w.heap.size M.heap.size,g1,m1,b1,n1,g2,m2,b2,n2,fun _ I=>.inl I,fun g a2 e=> ?_,rfl,ag.inner,by rw[Aa c7];exact aw,by rw[Aa co];exact al,⟨.inr ⟨by omega,G.1⟩,.inr ⟨by omega,G.2⟩,.inr ⟨by omega,H⟩⟩,⟨.inr ⟨by omega,T.1⟩,.inr ⟨by omega,T.2⟩,.inr ⟨by omega,ck⟩⟩,ag.bl⟩
  rcases e with e|e
  . exact Aa bj g (by have:=ag.bl.below.size;omega) e
  . omega)
 clear aw al Y bk bv bn ag ao a7 a1 ac af bh bc bq cj ar x1 x2 x3 x4 ak ci c6 a4 b9 da;have cu:=Ab ae;clear ae;change Exit.then _ _ Exit.normal _ ((F.setCell ⟨b,4,none⟩ (DV g1 m1)).setCell ⟨b,5,none⟩ (DV g2 m2))
 rw[aa];clear aa;go_wp2_with (refine wpList_store_row rfl 282 (.tmp 2) (.tmp 28) rfl w.heap.size #[DV g1 m1,DV g2 m2] rfl rfl 282 #[.nilFunc,.nilFunc] (Aa bg) Fq rfl (by first|rfl|simp[Value.oneCell']) ?_)
 rw[Aa cu];refine bodyPost_ret (v:=.agg #[DV g1 m1,DV g2 m2]) ?_ rfl (Aa cd);exact results_cell_row rfl _ _ w.heap.size _ _ _ _ (by first|rfl|kernel_rfl|simp) (Aa b3) Tryz.underlying282 rfl Fq
theorem Tr (No:Nat->Prop)(B b:Nat)(R F G:Value)(u:US)(w:World)(H:IIs No B w b R F G u)(O:Fx No w b F G)(E:∀g,w.heap.size<=g->¬No g):
 Calls Tryz.prog 251 #[.pointer (some ⟨b,0,none⟩)] w fun e w'=>Z7f No B w b R u e w':=by
 rcases O with ⟨rfl,rfl⟩|⟨g1,m1,b1,n1,g2,m2,b2,n2,rfl,rfl,T,M,U,I⟩
 . exact L4 No B b R u w H E
 . exact Yg No B b R u w g1 m1 b1 n1 g2 m2 b2 n2 H T M U I E
end Go.Proofs.YtleocpdblhbimaaGreatDoor
