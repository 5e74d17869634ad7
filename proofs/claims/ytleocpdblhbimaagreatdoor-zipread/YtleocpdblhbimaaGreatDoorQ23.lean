import Derived.Test.YtleocpdblhbimaaGreatDoorQ22
import Derived.Laws.EntriesVeiled
set_option linter.unusedSimpArgs false
set_option linter.unusedVariables false
set_option maxRecDepth 100000
set_option maxHeartbeats 8000000
namespace Go.Proofs.YtleocpdblhbimaaGreatDoor
open Go.RowKit
theorem Fq:(Tryz.prog.info? 282).map (·.size)=some 2:=by kernel_rfl
theorem Te {I:Array Oper}{o:Oper}{a:Act}{W:World}{K:Act->World->Prop}{Q:Exit->Act->World->Prop}{E:Prop}(af:o.guard=none)(T:TypeId)(x y:Operand)(M:o.op=.store T x y)
 (G:Nat) (F H:Array Value) (ac:a.eval x=.pointer (some ⟨G,0,none⟩)) (Y:a.eval y=.agg F) (aa:W.heap[G]? =some (.cells H T (0,0))) (ae:(Tryz.prog.info? T).map (·.size)=some F.size) (O:H.size=F.size) (Z:F.all (·.oneCell')=true) (U:K (a.put o.dst undef) (W.setRow G F)):if Region.wanted o (yielded I a.tmps)=true then Oper.wp Tryz.prog o a W K Q else E:=by
 have e:Region.wanted o (yielded I a.tmps)=true:=by unfold Region.wanted;rw[af]
 rw[if_pos e];exact wp_store_row T x y M G F ac Y T H aa ae O Z U
theorem Nz (w:World)(E:Nat)(F:Array Value):w.grownBy (w.setRow E F) (some E):=by
 have hb:=Bg (Below.refl 0 w) (VH E) F;exact⟨hb.os,hb.tape,hb.output,hb.size,fun H _ G=>Go.setRow_other _ _ _ _ (fun e=>G (by rw[e]))⟩
theorem EE (row:List Bool)(u u1 u2 u3:US)(G F H:Nat)(g1:uget row 5 u=(G,u1))(g2:uget row 5 u1=(F,u2))(I:uget row 4 u2=(H,u3))(E:u3.e≠0):(Db row u).2=u3:=My row u u1 u2 u3 G F H g1 g2 I u3 E (by
 split
 . rw[Ua 8 u3 E];exact Jr _ _ _ _ E
 . exact Jr _ _ _ _ E)
theorem KB (row:List Bool)(u u1 u2 u3 E:US)(G F H:Nat)(S:List Int)(g1:uget row 5 u=(G,u1))(g2:uget row 5 u1=(F,u2))(U:uget row 4 u2=(H,u3))(Z:G+257<=286)(aa:F+1<=30)(O:usmall row (ord19.take (H+4)) (List.replicate 19 0) u3=(S,E))(I:E.e=0)(M:errL S≠0):(Db row u).2= {E with e:=8}:=by
 have T:Gk row (G+257) (F+1) (H+4) u3=(S,E):=by
  unfold Gk;rw[if_neg (by omega)];exact O
 have Y:Qa (S,E)= {E with e:=8}:=by
  unfold Qa Am;rw[if_pos ⟨I,M⟩,if_pos I]
 unfold Db;simp only[g1,g2,U];rw[T];unfold Ke;rw[Y,if_pos (by exact(by decide:(8:Int)≠0))]
theorem EF (row:List Bool)(u u1 u2 u3:US)(F E G:Nat)(g1:uget row 5 u=(F,u1))(g2:uget row 5 u1=(E,u2))(M:uget row 4 u2=(G,u3))(H:u3.e=0)(I:286<F+257\/30<E+1):(Db row u).2= {u3 with e:=8}:=My row u u1 u2 u3 F E G g1 g2 M _ (by exact(by decide:(8:Int)≠0)) (by
 rw[if_pos I];have O:Am 8 u3= {u3 with e:=8}:=by unfold Am;rw[if_pos H]
 rw[O];exact Jr _ _ _ _ (by exact(by decide:(8:Int)≠0)))
def Z8r (No:Nat->Prop)(B:Nat)(w:World)(b:Nat)(R f1 f2:Value)(A C:List Int)(v:US)(e:Ending)(w':World):Prop:=
 (v.e≠0/\e=Flt v.e/\Bl No B w w')\/ (v.e=0/\Rk No B w b R f1 f2 v w'/\Good A/\Good C/\∃g1 m1 b1 n1 g2 m2 b2 n2,e=.returned (.agg #[DV g1 m1,DV g2 m2])/\DIs w' g1 m1 b1 n1 b A/\DIs w' g2 m2 b2 n2 b C/\(w.heap.size<=g1/\w.heap.size<=m1/\w.heap.size<=b1)/\(w.heap.size<=g2/\w.heap.size<=m2/\w.heap.size<=b2))
theorem D4 (No:Nat->Prop)(B b:Nat)(a:Option Addr)(n G:Nat)(bs:List Nat)(I H:Value)(u:US)(w:World)(E:IIs No B w b (.slice a n G) I H u)(cq:Rd w No a n bs)(dj:u.p<=8*n)(aa:u.e=0)(cv:∀g,w.heap.size<=g->¬No g)(A C:List Int)(v:US)(b5:Hid (Db (rowB bs n) u=((A,C),v))):
 Calls Tryz.prog 252 #[.pointer (some ⟨b,0,none⟩)] w fun e w'=>Z8r No B w b (.slice a n G) I H A C v e w':=by
 have bi:=Af bs n;have f5:=E.lt;have b0:=Ab (Rk.refl E)
 have ej:Hid (∀wr:World,w.heap.size<=wr.heap.size->∀g,wr.heap.size<=g->¬NK No w.heap.size wr.heap.size g):=Ab (fun wr gz g ai e=>by
  rcases e with e|e
  . exact cv g (by omega) e
  . omega)
 have fq:=Ab cv;have a5:Hid (∀wr:World,Bl No B w wr->Rd wr (NJ No w.heap.size) a n bs/\Rd wr (NK No w.heap.size wr.heap.size) a n bs):=Ab (fun wr hb=>⟨(cq.keep hb.below.size hb.kp).wide (fun _ E=>.inl E),(cq.keep hb.below.size hb.kp).wide (fun _ E=>.inl E)⟩);obtain⟨m0,u1,ak⟩:∃r y,uget (rowB bs n) 5 u=(r,y):=⟨_,_,rfl⟩
 obtain⟨n0,u2,ae⟩:∃r y,uget (rowB bs n) 5 u1=(r,y):=⟨_,_,rfl⟩
 obtain⟨c0,u3,T⟩:∃r y,uget (rowB bs n) 4 u2=(r,y):=⟨_,_,rfl⟩
 have fe:u1.p<=8*n:=by have:=Gr (rowB bs n) 5 u (by omega);rw[ak,bi]at this;exact this
 have fj:u2.p<=8*n:=by have:=Gr (rowB bs n) 5 u1 (by omega);rw[ae,bi]at this;exact this
 have e6:u3.p<=8*n:=by have:=Gr (rowB bs n) 4 u2 (by omega);rw[T,bi]at this;exact this
 have l1:m0<32:=by have:=SD (rowB bs n) 5 u;rw[ak]at this;exact this
 have l2:n0<32:=by have:=SD (rowB bs n) 5 u1;rw[ae]at this;exact this
 have f9:c0<16:=by have:=SD (rowB bs n) 4 u2;rw[T]at this;exact this
 have bc:Hid (v=(Db (rowB bs n) u).2):=Ab (by rw[Aa b5]);have bn:Hid (u3.e≠0->v=u3):=Ab (fun e=>by rw[Aa bc];exact EE (rowB bs n) u u1 u2 u3 m0 n0 c0 ak ae T e)
 have ci:Hid (u1.e≠0->u3=u1):=Ab (fun e=>by
  have Y:u2=u1:=by have:=Fj (rowB bs n) 5 u1 e;rw[ae]at this;exact this
  have a8:u3=u2:=by have:=Fj (rowB bs n) 4 u2 (by rw[Y];exact e);rw[T]at this;exact this
  rw[a8,Y])
 have b7:Hid (u2.e≠0->u3=u2):=Ab (fun e=>by have:=Fj (rowB bs n) 4 u2 e;rw[T]at this;exact this);have b9:Hid (u3.e=0->(286<m0+257\/30<n0+1)->v= {u3 with e:=8}):=Ab (fun e fw=>by rw[Aa bc];exact EF (rowB bs n) u u1 u2 u3 m0 n0 c0 ak ae T e fw);have dz:Hid (∀W,Rk No B w b (.slice a n G) I H u W->Calls Tryz.prog 230 #[.pointer (some ⟨b,0,none⟩),.int .i64 5] W fun e w'=>Got (NJ No w.heap.size) B W b (.slice a n G) I H (.int .i64 (m0:Int)) u1 e w'):=Ab (fun W O=>Dx (NJ No w.heap.size) B b a n G 5 bs I H u W O.is (Aa a5 W O.bl).1 dj aa (by decide) m0 u1 (Ab ak));have df:Hid (∀W,u1.e=0->Rk No B w b (.slice a n G) I H u1 W->Calls Tryz.prog 230 #[.pointer (some ⟨b,0,none⟩),.int .i64 5] W fun e w'=>Got (NJ No w.heap.size) B W b (.slice a n G) I H (.int .i64 (n0:Int)) u2 e w'):=Ab (fun W aa O=>Dx (NJ No w.heap.size) B b a n G 5 bs I H u1 W O.is (Aa a5 W O.bl).1 fe aa (by decide) n0 u2 (Ab ae));have d8:Hid (∀W,u2.e=0->Rk No B w b (.slice a n G) I H u2 W->Calls Tryz.prog 230 #[.pointer (some ⟨b,0,none⟩),.int .i64 4] W fun e w'=>Got (NJ No w.heap.size) B W b (.slice a n G) I H (.int .i64 (c0:Int)) u3 e w'):=Ab (fun W aa O=>Dx (NJ No w.heap.size) B b a n G 4 bs I H u2 W O.is (Aa a5 W O.bl).1 fj aa (by decide) c0 u3 (Ab T));obtain⟨S,us,aj⟩:∃S us,usmall (rowB bs n) (ord19.take (c0+4)) (List.replicate 19 0) u3=(S,us):=⟨_,_,rfl⟩
 have dt:Hid (∀W,u3.e=0->Rk No B w b (.slice a n G) I H u3 W->Calls Tryz.prog 272 #[.pointer (some ⟨b,0,none⟩),.int .i64 (4+(c0:Int))] W fun e w'=>Z7j (NK No w.heap.size W.heap.size) B W b (.slice a n G) I H S us e w'):=Ab (fun W aa O=>by
  have:=Ns (NK No w.heap.size W.heap.size) B b a n G bs I H u3 W O.inner (Aa a5 W O.bl).2 e6 aa (Aa ej W O.bl.below.size) (c0+4) (by omega) S us (Ab aj)
  rw[show ((c0+4:Nat):Int)=4+(c0:Int) by omega]at this;exact this)
 have dy:S.length=19:=by have:=Uc (row:=rowB bs n) (ks:=ord19.take (c0+4)) (s:=List.replicate 19 0) (u:=u3);rw[aj]at this;simpa using this
 have dn:∀x∈S,0<=x/\x<=7:=by have:=Px (row:=rowB bs n) (ord19.take (c0+4)) (List.replicate 19 0) u3 (by intro x au;rw[List.eq_of_mem_replicate au];decide);rw[aj]at this;exact this
 have eh:Hid (errL S≠0->errL S=8):=Ab (fun e=>by
  rcases Z2 S (by omega) (fun x au=>by have:=dn x au;omega)with E|E
  . exact absurd E e
  . exact E)
 have eb:Hid (286<m0+257\/30<n0+1\/ (us.e≠0->v=us)/\(us.e=0->errL S≠0->v= {us with e:=8})):=Ab (by
  by_cases al:286<m0+257
  . exact .inl al
  . by_cases Y:30<n0+1
    . exact .inr (.inl Y)
    . refine .inr (.inr ⟨fun e=> ?_,fun ah e2=> ?_⟩)
      . rw[Aa bc];exact My (rowB bs n) u u1 u2 u3 m0 n0 c0 ak ae T us e (by rw[if_neg (by omega),aj])
      . rw[Aa bc];exact KB (rowB bs n) u u1 u2 u3 us m0 n0 c0 S ak ae T (by omega) (by omega) aj ah e2)
 obtain⟨L,v',a6⟩:∃L v',ulens (rowB bs n) S (m0+257+(n0+1)) (m0+257+(n0+1)) [] us=(L,v'):=⟨_,_,rfl⟩
 obtain⟨tot,eu⟩:=exq (m0+257+(n0+1))
 have em:Hid (∀W gr gm mb nn,us.e=0->errL S=0->Rk No B w b (.slice a n G) I H us W->DIs W gr gm mb nn b S->w.heap.size<=gr->w.heap.size<=gm->w.heap.size<=mb->Calls Tryz.prog 271 #[.pointer (some ⟨b,0,none⟩),DV gr gm,.int .i64 (257+(m0:Int)+(1+(n0:Int)))] W fun e w'=>(v'.e≠0/\e=Flt v'.e/\Bl (NK No w.heap.size W.heap.size) B W w')\/ (v'.e=0/\Rk (NK No w.heap.size W.heap.size) B W b (.slice a n G) I H v' w'/\∃cy,e=.returned cy/\w'.ownsRow W.heap.size 3 1 cy L.length (iv L)/\L.length=tot)):=Ab (fun W gr gm mb nn aa e7 O cu al Y a8=>by
  have r1:=cu.lt;have r2:=cu.is.lt;have et:us.p<=8*n:=by have:=(Wn (ks:=ord19.take (c0+4)) (s:=List.replicate 19 0) (row:=rowB bs n) (u:=u3) (by rw[aj];exact aa) (by omega)).2.1;rw[aj,bi]at this;exact this
  have:=X9 (NK No w.heap.size W.heap.size) B b a n G bs I H us W O.inner (Aa a5 W O.bl).2 et aa (Aa ej W O.bl.below.size) gr gm mb nn S cu (Ch e7) ⟨.inr ⟨al,r1.1⟩,.inr ⟨Y,r1.2⟩,.inr ⟨a8,r2⟩⟩ dy tot (by omega) L v' (Ab (by rw[<-eu];exact a6))
  rw[show ((tot:Nat):Int)=257+(m0:Int)+(1+(n0:Int)) by omega]at this;exact this)
 have cd:Hid (m0+257<=286->n0+1<=30->us.e=0->errL S=0->Gl (m0+257) (L,v')=((A,C),v)):=Ab (fun al Y a8 eo=>by
  rw[<-Aa b5,SQ (rowB bs n) u u1 u2 u3 us m0 n0 c0 S ak ae T al Y aj a8 eo,a6])
 have dp:Hid (v'.e=0->∀x∈L,0<=x/\x<=15):=Ab (fun e=>by
  have:=Uf (row:=rowB bs n) (tot:=m0+257+(n0+1)) dy (m0+257+(n0+1)) [] us (by simp) (by rw[a6];exact e)
  rw[a6]at this;exact this)
 clear E cq dj aa cv ak ae T aj a6 dn b5;go_enter Tryz.func252,Tryz.ntmps252
 go_wp2_with fail
 refine(Aa dz _ ((Aa b0).past ((Below.refl _ _).alloc (VB _) _))).mono ?_;have cg:=Ab ((Aa b0).past ((Below.refl _ _).alloc (VB _) (.cells #[.nilFunc,.nilFunc] 282)));have ek:(w.alloc (.cells #[.nilFunc,.nilFunc] 282)).heap[w.heap.size]? =some (.cells #[.nilFunc,.nilFunc] 282 (0,0)):=heap_alloc_new _ _;have dc:=Ab ek;have ft:w.heap.size<(w.alloc (.cells #[.nilFunc,.nilFunc] 282)).heap.size:=by simp
 clear ek;generalize w.alloc (.cells #[.nilFunc,.nilFunc] 282)=gx at*;rintro e cj ai
 rcases ai with ⟨ah,rfl,bu⟩|⟨ah,rfl,d6⟩
 rotate_left
 . have F:Hid (v=u1):=Ab (by rw[Aa bn (by rw[Aa ci ah];exact ah),Aa ci ah]);have Z:=Ab ((Aa cg).bl.trans (d6.weaken (fun _ E=>.inl E)));clear d6;go_wp2;exact⟨rfl,.inl ⟨by rw[Aa F];exact ah,by rw[Aa F],Aa Z⟩⟩
 have bw:=Ab ((Aa cg).num bu);have d5:Hid (cj.heap[w.heap.size]? =some (.cells #[.nilFunc,.nilFunc] 282 (0,0))):=Ab ((bu.kp _ ft (.inr (VB _))).trans (Aa dc));have fy:w.heap.size<cj.heap.size:=by have:=bu.below.size;omega
 clear bu;go_wp2_with fail
 refine(Aa df cj ah (Aa bw)).mono ?_;rintro e ck ai
 rcases ai with ⟨e2,rfl,bd⟩|⟨e2,rfl,db⟩
 rotate_left
 . have F:Hid (v=u2):=Ab (by rw[Aa bn (by rw[Aa b7 e2];exact e2),Aa b7 e2]);have Z:=Ab ((Aa bw).bl.trans (db.weaken (fun _ E=>.inl E)));clear db;go_wp2;exact⟨rfl,.inl ⟨by rw[Aa F];exact e2,by rw[Aa F],Aa Z⟩⟩
 have bj:=Ab ((Aa bw).num bd);have dw:Hid (ck.heap[w.heap.size]? =some (.cells #[.nilFunc,.nilFunc] 282 (0,0))):=Ab ((bd.kp _ fy (.inr (VB _))).trans (Aa d5));have e4:w.heap.size<ck.heap.size:=by have:=bd.below.size;omega
 clear bd;go_wp2_with fail
 refine(Aa d8 ck e2 (Aa bj)).mono ?_;rintro e w3 ai
 rcases ai with ⟨e3,rfl,bq⟩|⟨e3,rfl,d9⟩
 rotate_left
 . have F:Hid (v=u3):=Ab (Aa bn e3);have Z:=Ab ((Aa bj).bl.trans (d9.weaken (fun _ E=>.inl E)));clear d9;go_wp2;exact⟨rfl,.inl ⟨by rw[Aa F];exact e3,by rw[Aa F],Aa Z⟩⟩
 have ar:=Ab ((Aa bj).num bq);have dv:Hid (w3.heap[w.heap.size]? =some (.cells #[.nilFunc,.nilFunc] 282 (0,0))):=Ab ((bq.kp _ e4 (.inr (VB _))).trans (Aa dw));have da:w.heap.size<w3.heap.size:=by have:=bq.below.size;omega
 clear bq;have ba:=Ab (Cf 8 w3)
 by_cases al:286<m0+257
 . have F:Hid (v= {u3 with e:=8}):=Ab (Aa b9 e3 (.inl al));have fp:(286:Int)<257+(m0:Int):=by omega
   go_wp2_with fail
   refine(Aa ba).mono ?_;rintro e a4 ⟨rfl,rfl⟩;go_wp2;exact⟨rfl,.inl ⟨by rw[Aa F];exact(by decide:(8:Int)≠0),by rw[Aa F],(Aa ar).bl⟩⟩
 have fp:¬(286:Int)<257+(m0:Int):=by omega
 by_cases Y:30<n0+1
 . have F:Hid (v= {u3 with e:=8}):=Ab (Aa b9 e3 (.inr Y));have e0:(30:Int)<1+(n0:Int):=by omega
   go_wp2_with fail
   refine(Aa ba).mono ?_;rintro e a4 ⟨rfl,rfl⟩;go_wp2;exact⟨rfl,.inl ⟨by rw[Aa F];exact(by decide:(8:Int)≠0),by rw[Aa F],(Aa ar).bl⟩⟩
 have e0:¬(30:Int)<1+(n0:Int):=by omega
 have ct:Hid ((us.e≠0->v=us)/\(us.e=0->errL S≠0->v= {us with e:=8})):=Ab (by
  rcases Aa eb with E|E|E
  . exact absurd E al
  . exact absurd E Y
  . exact E)
 clear ba eb b9 bn ci b7 dz df d8;go_wp2_with fail
 refine(Aa dt w3 e3 (Aa ar)).mono ?_;rintro e a4 ai
 rcases ai with ⟨ao,rfl,a2⟩|⟨ao,aw,rfl,a2⟩|⟨ao,aw,bv,gr,gm,mb,nn,rfl,a7,a9,az,cn,ap⟩
 . have F:Hid (v=us):=Ab ((Aa ct).1 ao);have Z:=Ab ((Aa ar).bl.trans (a2.weaken (fun _ E=>.inl E)));clear a2;go_wp2;exact⟨rfl,.inl ⟨by rw[Aa F];exact ao,by rw[Aa F],Aa Z⟩⟩
 . have F:Hid (v= {us with e:=8}):=Ab ((Aa ct).2 ao aw);have Z:=Ab ((Aa ar).bl.trans (a2.weaken (fun _ E=>.inl E)));have fm:=Ab (Aa eh aw);clear a2;go_wp2;exact⟨rfl,.inl ⟨by rw[Aa F];exact(by decide:(8:Int)≠0),by rw[Aa F,Aa fm],Aa Z⟩⟩
 have bk:=Ab ((Aa ar).step bv);have dh:Hid (a4.heap[w.heap.size]? =some (.cells #[.nilFunc,.nilFunc] 282 (0,0))):=Ab ((bv.bl.kp _ da (.inr ⟨VB _,da⟩)).trans (Aa dv));have dx:w.heap.size<a4.heap.size:=by have:=bv.bl.below.size;omega
 have en:=Ab (Aa em a4 gr gm mb nn ao aw (Aa bk) ap (by omega) (by omega) (by omega));clear bv a7 a9 az cn ap em dt ct eh;go_wp2_with fail
 refine(Aa en).mono ?_;rintro e M ai
 rcases ai with ⟨af,rfl,c7⟩|⟨af,bh,cy,rfl,a3,de⟩
 . have F:Hid (v=v'):=Ab (by
    have:=Aa cd (by omega) (by omega) ao aw
    unfold Gl at this;rw[if_pos af]at this;exact(VN this).2.symm)
   have Z:=Ab ((Aa bk).bl.trans (c7.weaken (fun _ E=>.inl E)));clear c7;go_wp2;exact⟨rfl,.inl ⟨by rw[Aa F];exact af,by rw[Aa F],Aa Z⟩⟩
 have bz:=Ab ((Aa bk).step bh);have f4:Hid (M.heap[w.heap.size]? =some (.cells #[.nilFunc,.nilFunc] 282 (0,0))):=Ab ((bh.bl.kp _ dx (.inr ⟨VB _,dx⟩)).trans (Aa dh));have c6:w.heap.size<M.heap.size:=by have:=bh.bl.below.size;omega
 rw[de]at a3;obtain⟨U,ac,rfl,f7,dr⟩:=Ba a3 (by omega);have gn:=Z0g a3
 have b4:Row .i64 M U 0 L:=by
  obtain⟨gu,gi,fh,c9,f3,_⟩:=Xh a3
  cases fh
  rcases f3 with fx|⟨gv,f8,e9,_,T⟩
  . rw[fx]at c9;simp at c9;omega
  . cases e9;exact T
 have dm:=Ab b4;have cp:=Ab de;have fo:M.cell? ⟨U,256,none⟩=some (.int .i64 (L.getD 256 0)):=by have:=b4 256 (by omega);rw[WG]at this;exact this
 have co:Hid (Gl (m0+257) (L,v')=((A,C),v)):=Ab (Aa cd (by omega) (by omega) ao aw);have ei:=Ab (Aa dp af);obtain⟨z,cw⟩:=exq (L.getD 256 0);rw[cw]at fo;have ds:=Ab cw;clear bh a3 b4 cw cd dp en cg bw bj ar bk d5 dw dv dh dc b0;have gd:(256:Int)<(tot:Int):=by omega
 by_cases bb:z=0
 . have F:Hid (v= {v' with e:=8}):=Ab (by
    have:=Aa co
    unfold Gl at this;rw[if_neg (fun c=>c af),if_pos (.inl ((Aa ds).trans bb))]at this;rw[<-(VN this).2];unfold Am;rw[if_pos af])
   have ba:=Ab (Cf 8 M);subst bb;go_wp2_with fail
   refine(Aa ba).mono ?_;rintro e w6 ⟨rfl,rfl⟩;go_wp2;exact⟨rfl,.inl ⟨by rw[Aa F];exact(by decide:(8:Int)≠0),by rw[Aa F],(Aa bz).bl⟩⟩
 have g4:(z==0)=false:=by rw[beq_eq_false_iff_ne];exact bb
 obtain⟨m,hm⟩:=exq (m0+257);have cz:257+(m0:Int)=(m:Int):=by omega
 have g5:m<=tot:=by omega
 have eg:(L.take m).length=m:=by rw[VL];have:=Aa cp;omega
 have c8:(L.drop m).length=tot-m:=by rw[VQ,Aa cp]
 have fk:=Ab (fun q=>Kt b (some ⟨U,0,none⟩) m ac (L.take m) (M.drewN q) eg (by omega) (.inr ⟨U,0,rfl,dr,fun j c5=>by
  have:=Aa dm j (by have:=Aa cp;omega)
  have e:(L.take m).getD j 0=L.getD j 0:=by simp only[List.getD];rw[XX (by omega)]
  rw[e];exact this⟩))
 have ey:Hid (∀W,Below M.heap.size M W->Calls Tryz.prog 270 #[.pointer (some ⟨b,0,none⟩),.slice (some ⟨U,m,none⟩) (tot-m) (ac-m)] W fun e w'=>Z8s b (L.drop m) W e w'):=Ab (fun W d7=>Kt b (some ⟨U,m,none⟩) (tot-m) (ac-m) (L.drop m) W c8 (by omega) (.inr ⟨U,m,rfl,by have:=d7.size;omega,fun j c5=>by
  have e1:m+j<L.length:=by rw[VQ]at c5;omega
  have:=Aa dm (m+j) e1
  rw[WG]at this;have e:(L.drop m).getD j 0=L.getD (m+j) 0:=by simp only[List.getD];rw[XJ]
  rw[e];exact(d7.cell (p:=⟨U,m+j,none⟩) dr).trans this⟩))
 have du:Hid (errL (L.take m)≠0\/errL (L.drop m)≠0->v= {v' with e:=8}):=Ab (fun fg=>by
  have:=Aa co
  unfold Gl at this;rw[if_neg (fun c=>c af),hm,if_pos (.inr fg)]at this;rw[<-(VN this).2];unfold Am;rw[if_pos af])
 have e5:Hid (errL (L.take m)=0->errL (L.drop m)=0->A=L.take m/\C=L.drop m/\v=v'):=Ab (fun fu hc=>by
  have:=Aa co
  unfold Gl at this
  rw[if_neg (fun c=>c af),hm,if_neg (by
   rintro (c|c|c)
   . exact bb ((Aa ds).symm.trans c)
   . exact c fu
   . exact c hc)]at this
  exact⟨(VN (VN this).1).1.symm,(VN (VN this).1).2.symm,(VN this).2.symm⟩)
 have dl:Hid ((errL (L.take m)≠0->errL (L.take m)=8)/\(errL (L.drop m)≠0->errL (L.drop m)=8)):=Ab (by
  constructor
  . intro e
    rcases Z2 (L.take m) (by omega) (fun x au=>Aa ei x (VR au))with E|E
    . exact absurd E e
    . exact E
  . intro e
    rcases Z2 (L.drop m) (by omega) (fun x au=>Aa ei x (VW au))with E|E
    . exact absurd E e
    . exact E)
 have gq:(m:Int)<=(tot:Int):=by omega
 have gg:(m:Int)<=(ac:Int):=by omega
 have gj:(tot:Int)<=(ac:Int):=by omega
 have gw:¬ac=m:=by omega
 rw[cz];clear cz;clear eg c8;go_wp2;refine wp_region_any (by kernel_rfl) ?_
 try (change wpAny _ _ _ _ _ _ _ (World.drew _))
 refine tkA (i:=0) (v:=.pointer (some ⟨b,0,none⟩)) ?_;simp only[Act.put,VA,VC,VD];refine tkA (i:=1) (v:=.slice (some ⟨U,0,none⟩) tot ac) ?_;simp only[Act.put,VA,VC,VD];refine tkA (i:=2) (v:=.int .i64 (m:Int)) ?_;simp only[Act.put,VA,VC,VD];refine tkA (i:=3) (v:=.slice (some ⟨U,0,none⟩) m ac) ?_;simp only[Act.put,VA,VC,VD];refine tkA (i:=5) (v:=.pointer (some ⟨b,0,none⟩)) ?_;simp only[Act.put,VA,VC,VD];refine tkA (i:=6) (v:=.slice (some ⟨U,0,none⟩) tot ac) ?_;simp only[Act.put,VA,VC,VD];refine tkA (i:=7) (v:=.int .i64 (m:Int)) ?_;simp only[Act.put,VA,VC,VD];refine tkA (i:=8) (v:=.slice (some ⟨U,m,none⟩) (tot-m) (ac-m)) ?_;simp only[Act.put,VA,VC,VD];refine rdA (i:=4) fun K hK=> ?_
 go_simp
 refine(Aa fk _).mono ?_;rintro e w6 ⟨dq,ff⟩;have ay:Hid (Below M.heap.size M w6):=Ab ((Ae (Below.refl _ _) _).trans dq);clear dq
 rcases ff with ⟨d0,g1,m1,b1,n1,rfl,a7,a9,az,cn,ap⟩|⟨d0,rfl⟩
 rotate_left
 . have F:Hid (v= {v' with e:=8}):=Ab (Aa du (.inl d0));rw[(Aa dl).1 d0];exact And.intro rfl (f6.inl ⟨by rw[Aa F];exact(by decide:(8:Int)≠0),by rw[Aa F],((Aa bz).past (Aa ay)).bl⟩)
 dsimp only;refine hK _ _ ?_;clear hK K;refine rdA (i:=9) fun K hK=> ?_
 go_simp
 refine(Aa ey _ (Aa ay)).mono ?_;rintro e bo ⟨cm,e8⟩;have bg:=Ab cm;have b8:Hid (Below M.heap.size M bo):=Ab ((Aa ay).trans (cm.mono (Aa ay).size));clear cm
 rcases e8 with ⟨av,g2,m2,b2,n2,rfl,x1,x2,x3,x4,bm⟩|⟨av,rfl⟩
 rotate_left
 . have F:Hid (v= {v' with e:=8}):=Ab (Aa du (.inr av));rw[(Aa dl).2 av];exact And.intro rfl (f6.inl ⟨by rw[Aa F];exact(by decide:(8:Int)≠0),by rw[Aa F],((Aa bz).past (Aa b8)).bl⟩)
 dsimp only;refine hK _ _ ?_;clear hK K;refine rdA (i:=10) fun K hK=> ?_
 go_simp
 refine hK _ _ ?_;clear hK K;refine rdA (i:=11) fun K hK=> ?_
 have ce:bo.heap[w.heap.size]? =some (.cells #[.nilFunc,.nilFunc] 282 (0,0)):=((Aa b8).block _ c6).trans (Aa f4);refine Te rfl 282 (.tmp 2) (.tmp 46) rfl w.heap.size #[DV g1 m1,DV g2 m2] _ rfl rfl ce Fq rfl (by first|rfl|simp[Value.oneCell']) ?_;refine hK _ _ ?_;clear hK K;refine wpAny_done (by kernel_rfl) ?_ _;simp only[Act.put,VA,VC,VD];obtain⟨ax,bf⟩:=exq (bo.setRow w.heap.size #[DV g1 m1,DV g2 m2]);have ep:ax.heap[w.heap.size]? =some (.cells #[DV g1 m1,DV g2 m2] 282 (0,0)):=by rw[<-bf];exact setRow_heap _ _ _ _ _ _ ce
 have ag:bo.grownBy ax (some w.heap.size):=by rw[<-bf];exact Nz _ _ _
 have ee:Hid (Rk No B w b (.slice a n G) I H v' ax):=Ab (((Aa bz).past (Aa b8)).aside ag (fun g e=>by cases e;exact VB _) (Aa fq) f5)
 have dd:Hid (DIs ax g1 m1 b1 n1 b (L.take m)):=Ab (by
  have a1:=ap.lt;have b3:=ap.is.lt;have ew:=(Aa bg).size;refine(ap.keep ew ((Aa bg).block g1 a1.1) ((Aa bg).block m1 a1.2) ((Aa bg).block b1 b3)).keep ag.size (ag.block g1 (by omega) ?_) (ag.block m1 (by omega) ?_) (ag.block b1 (by omega) ?_)<;>(intro e;have:=VM e;have hs5:=c6;have gy:M.heap.size<=g1:=a7;have gh:M.heap.size<=m1:=a9;have g0:M.heap.size<=b1:=az;omega))
 have ed:Hid (DIs ax g2 m2 b2 n2 b (L.drop m)):=Ab (by
  have a1:=bm.lt;have b3:=bm.is.lt;have fi:=(Aa ay).size;refine bm.keep ag.size (ag.block g2 a1.1 ?_) (ag.block m2 a1.2 ?_) (ag.block b2 b3 ?_)<;>(intro e;have:=VM e;omega))
 have F:Hid (Z8r No B w b (.slice a n G) I H A C v (.returned (.agg #[DV g1 m1,DV g2 m2])) ax):=Ab (by
  obtain⟨r1,r2,di⟩:=Aa e5 d0 av;have fi:=(Aa ay).size;have ah:w.heap.size<=g1:=by have d':M.heap.size<=g1:=a7;omega
  have e2:w.heap.size<=m1:=by have d':M.heap.size<=m1:=a9;omega
  have e3:w.heap.size<=b1:=by have d':M.heap.size<=b1:=az;omega
  refine .inr ⟨by rw[di];exact af,by rw[di];exact Aa ee,by rw[r1];exact Ch d0,by rw[r2];exact Ch av,g1,m1,b1,n1,g2,m2,b2,n2,rfl,by rw[r1];exact Aa dd,by rw[r2];exact Aa ed,⟨ah,e2,e3⟩,⟨by omega,by omega,by omega⟩⟩)
 rw[bf];clear bf ag d0 a7 a9 az cn ap av x1 x2 x3 x4 bm dd ed ee ce;go_wp2;refine bodyPost_ret (v:=.agg #[DV g1 m1,DV g2 m2]) ?_ rfl (Aa F);exact results_cell_row rfl _ _ w.heap.size _ _ _ _ (by first|rfl|kernel_rfl|simp) ep Tryz.underlying282 rfl Fq
def Fx (No:Nat->Prop)(w:World)(b:Nat)(f1 f2:Value):Prop:=
 (f1=.nilFunc/\f2=.nilFunc)\/∃g1 m1 b1 n1 g2 m2 b2 n2,f1=DV g1 m1/\f2=DV g2 m2/\DIs w g1 m1 b1 n1 b Ky/\DIs w g2 m2 b2 n2 b Ir/\(No g1/\No m1/\No b1)/\(No g2/\No m2/\No b2)
theorem Fx.keep {No:Nat->Prop}{w w':World}{b:Nat}{M U:Value}(F:Fx No w b M U)(O:w.heap.size<=w'.heap.size)(E:Kp No w w'):Fx No w' b M U:=by
 rcases F with F|⟨g1,m1,b1,n1,g2,m2,b2,n2,ag,e2,G,H,⟨Y,aa,T⟩,⟨c1,c2,ac⟩⟩
 . exact .inl F
 . have Z:=G.lt;have ae:=G.is.lt;have I:=H.lt;have af:=H.is.lt;exact .inr ⟨g1,m1,b1,n1,g2,m2,b2,n2,ag,e2,G.keep O (E g1 Z.1 Y) (E m1 Z.2 aa) (E b1 ae T),H.keep O (E g2 I.1 c1) (E m2 I.2 c2) (E b2 af ac),⟨Y,aa,T⟩,⟨c1,c2,ac⟩⟩
def Z7f (No:Nat->Prop)(B:Nat)(w:World)(b:Nat)(R:Value)(u:US)(e:Ending)(w':World):Prop:=
 ∃No' g1 m1 b1 n1 g2 m2 b2 n2,(∀g,No g->No' g)/\(∀g,w'.heap.size<=g->¬No' g)/\e=.returned (.agg #[DV g1 m1,DV g2 m2])/\IIs No' B w' b R (DV g1 m1) (DV g2 m2) u/\DIs w' g1 m1 b1 n1 b Ky/\DIs w' g2 m2 b2 n2 b Ir/\(No' g1/\No' m1/\No' b1)/\(No' g2/\No' m2/\No' b2)/\Bl No B w w'
theorem IIs.cells45 {No:Nat->Prop}{B b:Nat}{w:World}{R G F:Value}{u:US}(H:IIs No B w b R G F u):w.cell? ⟨b,4,none⟩=some G/\w.cell? ⟨b,5,none⟩=some F/\∀j,w.frozen? ⟨b,j,none⟩=false:=by
 obtain⟨ov,kv,E,_⟩:=H.ex;exact⟨Ac E,Ac E,fun j=>frozen_of_row w b j _ _ E⟩
theorem Yg (No:Nat->Prop)(B b:Nat)(R:Value)(u:US)(w:World)(g1 E I U g2 F O ae:Nat)(H:IIs No B w b R (DV g1 E) (DV g2 F) u)(M:DIs w g1 E I U b Ky)(T:DIs w g2 F O ae b Ir)(af:No g1/\No E/\No I)(ai:No g2/\No F/\No O)(ag:∀g,w.heap.size<=g->¬No g):
 Calls Tryz.prog 251 #[.pointer (some ⟨b,0,none⟩)] w fun e w'=>Z7f No B w b R u e w':=by
 have ar:=H.lt;have av:=H.base;obtain⟨aw,au,_⟩:=H.cells45
 have aj:Hid (∀w',Below w.heap.size w w'->Z7f No B w b R u (.returned (.agg #[DV g1 E,DV g2 F])) w'):=Ab (fun w' G=>by
  have ah:=G.size;have Y:=M.lt;have ao:=M.is.lt;have ac:=T.lt;have al:=T.is.lt;exact⟨No,g1,E,I,U,g2,F,O,ae,fun _ H=>H,fun g ap=>ag g (by omega),rfl,H.past G,M.keep ah (G.block g1 Y.1) (G.block E Y.2) (G.block I ao),T.keep ah (G.block g2 ac.1) (G.block F ac.2) (G.block O al),af,ai,Z7c G (by omega)⟩)
 clear H M T af ai ag;have ax:∀W:World,(binOp .eql 259 (DV g1 E) .nilFunc).run Tryz.prog W=.ok (.bool false) W:=fun W=>by first|rfl|kernel_rfl
 go_enter Tryz.func251,Tryz.ntmps251
 have aa:(w.alloc (.cells #[.nilFunc,.nilFunc] 282)).heap[w.heap.size]? =some (.cells #[.nilFunc,.nilFunc] 282 (0,0)):=heap_alloc_new _ _;have Z:=Ab aa;have ak:Hid (Below w.heap.size w ((w.alloc (.cells #[.nilFunc,.nilFunc] 282)).setRow w.heap.size #[DV g1 E,DV g2 F])):=Ab (Bg ((Below.refl w.heap.size w).alloc (VB _) _) (VB _) _);clear aa;go_wp2_with (refine wpList_store_row rfl 282 (.tmp 2) (.tmp 28) rfl w.heap.size #[DV g1 E,DV g2 F] rfl rfl 282 #[.nilFunc,.nilFunc] (Aa Z) Fq rfl (by first|rfl|simp[Value.oneCell']) ?_)
 refine bodyPost_ret (v:=.agg #[DV g1 E,DV g2 F]) ?_ rfl (Aa aj _ (Aa ak));exact results_cell_row rfl _ _ w.heap.size _ _ _ _ (by first|rfl|kernel_rfl|simp) (setRow_heap _ _ _ _ _ _ (Aa Z)) Tryz.underlying282 rfl Fq
theorem L4 (No:Nat->Prop)(B b:Nat)(R:Value)(u:US)(w:World)(I:IIs No B w b R .nilFunc .nilFunc u)(bq:∀g,w.heap.size<=g->¬No g):
 Calls Tryz.prog 251 #[.pointer (some ⟨b,0,none⟩)] w fun e w'=>Z7f No B w b R u e w':=by
 have c9:=I.lt;have dj:=I.base;obtain⟨dp,ds,dq⟩:=I.cells45;have de:∀W:World,(binOp .eql 259 .nilFunc .nilFunc).run Tryz.prog W=.ok (.bool true) W:=fun W=>by first|rfl|kernel_rfl
 have b5:=Ab (Rk.refl I);have bj:=Ab bq;obtain⟨U,a3⟩:=exq (Ky);obtain⟨O,a4⟩:=exq (Ir);have ah:=Mj;have ax:=Fk;have ay:=Mk;have a9:=Mi;have bi:=Ab (fun W=>K7 W);simp only[a3,a4]at bi ah ax ay a9;have c7:=Ab ay;have cd:=Ab a9;have cv:=Ab a3;have b4:=Ab a4;have bd:(w.alloc (.cells #[.nilFunc,.nilFunc] 282)).heap[w.heap.size]? =some (.cells #[.nilFunc,.nilFunc] 282 (0,0)):=heap_alloc_new _ _;have b8:=Ab bd;have b3:Hid (Below w.heap.size w (w.alloc (.cells #[.nilFunc,.nilFunc] 282))):=Ab ((Below.refl w.heap.size w).alloc (VB _) _);clear I bq a3 a4 ay a9 bd;have ct:(Tryz.prog.info? 247).map (·.size)=some (iv U).toArray.size:=by rw[Ya];simp[ah]
 have cj:(Tryz.prog.info? 248).map (·.size)=some (iv O).toArray.size:=by rw[CP];simp[ax]
 go_enter Tryz.func251,Tryz.ntmps251
 go_wp2_with fail
 refine(Aa bi _).mono ?_;rintro e E ⟨rfl,ao⟩;have c5:=ao.size;simp only[World.size_alloc]at c5;have cn:Hid (Below w.heap.size w E):=Ab ((Aa b3).trans (ao.mono (by simp)));have cz:Hid (E.heap[w.heap.size]? =some (.cells #[.nilFunc,.nilFunc] 282 (0,0))):=Ab ((ao.block _ (by simp)).trans (Aa b8));clear ao;have bk:((E.alloc (.cells (iv (List.replicate 288 0)).toArray 247)).alloc (.cells (iv (List.replicate 32 0)).toArray 248)).heap[E.heap.size]? =some (.cells (iv (List.replicate 288 0)).toArray 247 (0,0)):=(Below.heap_alloc _ _ _ (by simp)).trans (heap_alloc_new _ _)
 have bo:(((E.alloc (.cells (iv (List.replicate 288 0)).toArray 247)).alloc (.cells (iv (List.replicate 32 0)).toArray 248)).setRow E.heap.size (iv U).toArray).heap[E.heap.size+1]? =some (.cells (iv (List.replicate 32 0)).toArray 248 (0,0)):=by
  rw[Go.setRow_other _ _ _ _ (by omega)];have e:E.heap.size+1=(E.alloc (.cells (iv (List.replicate 288 0)).toArray 247)).heap.size:=by simp
  rw[e];exact heap_alloc_new _ _
 have bw:=Ab bk;have bz:=Ab bo;have au:=Ab (fun x y=>Jt E E x y 247 248 U O (Below.refl _ _) (by simp));clear bk bo;go_upto_region 3 with (first|refine wpList_store_row rfl 247 (.tmp 3) (.tmp 13) rfl E.heap.size _ rfl rfl 247 (iv (List.replicate 288 0)).toArray (Aa bw) ct (by simp[ah]) (Cy U) ?_|refine wpList_store_row rfl 248 (.tmp 4) (.tmp 14) rfl (E.heap.size+1) _ rfl rfl 248 (iv (List.replicate 32 0)).toArray (Aa bz) cj (by simp[ax]) (Cy O) ?_)
 simp only[Act.put];generalize ar:World.setRow (World.setRow (World.alloc (World.alloc _ _) _) _ _) _ _=W2;have F:ARow 247 W2 E.heap.size U:=by rw[<-ar];exact(Aa au _ _).1
 have H:ARow 248 W2 (E.heap.size+1) O:=by rw[<-ar];exact(Aa au _ _).2.1
 have T:Below E.heap.size E W2:=by rw[<-ar];exact(Aa au _ _).2.2
 clear ar au bw bz;have dr:=T.size;have da:Hid (Rk No B w b R .nilFunc .nilFunc u W2):=Ab ((Aa b5).past ((Aa cn).trans (T.mono (by omega))));have co:Hid (W2.heap[w.heap.size]? =some (.cells #[.nilFunc,.nilFunc] 282 (0,0))):=Ab ((T.block _ (by omega)).trans (Aa cz));have cp:=Ab (fun k=>Nr b (some ⟨E.heap.size,0,none⟩) 288 288 U (W2.drewN k) ah (.inr ⟨_,0,rfl,F.lt,F.row⟩) (Aa c7));have b7:Hid (∀W,Below W2.heap.size W2 W->Calls Tryz.prog 270 #[.pointer (some ⟨b,0,none⟩),.slice (some ⟨E.heap.size+1,0,none⟩) 32 32] W fun e w'=>∃gr gm mb nn,e=.returned (DV gr gm)/\W.heap.size<=gr/\W.heap.size<=gm/\W.heap.size<=mb/\mb<w'.heap.size/\DIs w' gr gm mb nn b O/\Below W.heap.size W w'):=Ab (fun W bm=>Nr b (some ⟨E.heap.size+1,0,none⟩) 32 32 O W ax (.inr ⟨_,0,rfl,(H.keep (bm.block _ H.lt)).lt,(H.keep (bm.block _ H.lt)).row⟩) (Aa cd));clear F H T;refine wp_region_any (by kernel_rfl) ?_
 try (change wpAny _ _ _ _ _ _ _ (World.drew _))
 refine tkA (i:=0) (v:=.pointer (some ⟨b,0,none⟩)) ?_;simp only[Act.put,VA,VC,VD];refine tkA (i:=1) (v:=.pointer (some ⟨b,0,none⟩)) ?_;simp only[Act.put,VA,VC,VD];refine tkA (i:=2) (v:=.slice (some ⟨E.heap.size,0,none⟩) 288 288) ?_;simp only[Act.put,VA,VC,VD];refine tkA (i:=4) (v:=.pointer (some ⟨b,0,none⟩)) ?_;simp only[Act.put,VA,VC,VD];refine tkA (i:=5) (v:=.slice (some ⟨E.heap.size+1,0,none⟩) 32 32) ?_;simp only[Act.put,VA,VC,VD];refine rdA (i:=3) fun K hK=> ?_
 go_simp
 refine(Aa cp _).mono ?_;rintro e w6 ⟨g1,m1,b1,n1,rfl,bn,bu,ba,cu,aj,bg⟩;have av:Hid (Below W2.heap.size W2 w6):=Ab ((Ae (Below.refl _ _) _).trans bg);clear bg;dsimp only;refine hK _ _ ?_;clear hK K;refine rdA (i:=6) fun K hK=> ?_
 go_simp
 refine(Aa b7 _ (Aa av)).mono ?_;rintro e G ⟨g2,m2,b2,n2,rfl,x1,x2,x3,x4,al,a2⟩;have ag:=Ab a2;have a7:Hid (Below W2.heap.size W2 G):=Ab ((Aa av).trans (a2.mono (Aa av).size));clear a2;dsimp only;refine hK _ _ ?_;clear hK K;refine rdA (i:=7) fun K hK=> ?_
 go_simp
 refine hK _ _ ?_;clear hK K;refine rdA (i:=8) fun K hK=> ?_
 go_simp
 refine hK _ _ ?_;clear hK K;refine rdA (i:=9) fun K hK=> ?_
 go_simp
 refine hK _ _ ?_;clear hK K;have a5:=(Aa da).past (Aa a7);have bf:=Ab a5;obtain⟨cy,c8,a6⟩:=a5.is.cells45;have cm:=a6 4;have b9:=a6 5;clear a5;refine rdA (i:=10) fun K hK=> ?_
 go_simp
 refine hK _ _ ?_;clear hK K;refine wpAny_done (by kernel_rfl) ?_ _;obtain⟨Z,aa⟩:=exq ((G.setCell ⟨b,4,none⟩ (DV g1 m1)).setCell ⟨b,5,none⟩ (DV g2 m2));have ac:=(Aa bf).is.set (g1:=DV g1 m1) (g2:=.nilFunc) 4 (DV g1 m1) u rfl rfl (fun _ _=>rfl);have ak:=ac.is.set (g1:=DV g1 m1) (g2:=DV g2 m2) 5 (DV g2 m2) u rfl rfl (fun _ _=>rfl);have dc:=(Aa a7).size
 have az:Rk No B w b R (DV g1 m1) (DV g2 m2) u Z:=by
  rw[<-aa];exact⟨ak.is,(Aa bf).bl.trans ((ac.bl.trans ak.bl).weaken (fun _ I=>.inl I))⟩
 have a8:∀g,g≠b->Z.heap[g]? =G.heap[g]? :=fun g a1=>by
  rw[<-aa]
  by_cases bc:g<G.heap.size
  . have ce:=(Ad G b 4 (DV g1 m1)).block g bc (fun e=>a1 (VM e));have cg:=(Ad (G.setCell ⟨b,4,none⟩ (DV g1 m1)) b 5 (DV g2 m2)).block g (VG bc ac.below.size) (fun e=>a1 (VM e));exact cg.trans ce
  . have db:((G.setCell ⟨b,4,none⟩ (DV g1 m1)).setCell ⟨b,5,none⟩ (DV g2 m2)).heap.size=G.heap.size:=by simp
    rw[ZN (by omega),ZN (by omega)]
 have dh:G.heap.size<=Z.heap.size:=by rw[<-aa];exact VU ac.below.size ak.below.size
 obtain⟨di,df,_⟩:=az.is.cells45;have bb:Hid (Z.heap[w.heap.size]? =some (.cells #[.nilFunc,.nilFunc] 282 (0,0))):=Ab ((a8 _ (by omega)).trans (((Aa a7).block _ (by omega)).trans (Aa co)));obtain⟨M,aw⟩:=exq (Z.setRow w.heap.size #[DV g1 m1,DV g2 m2]);have af:Z.grownBy M (some w.heap.size):=by rw[<-aw];exact Nz _ _ _
 have ci:Hid (M.heap[w.heap.size]? =some (.cells #[DV g1 m1,DV g2 m2] 282 (0,0))):=Ab (by rw[<-aw];exact setRow_heap _ _ _ _ _ _ (Aa bb));have ai:Rk No B w b R (DV g1 m1) (DV g2 m2) u M:=az.aside af (fun g e=>by cases e;exact VB _) (Aa bj) c9;have dn:=af.size;have dm:=(Aa av).size;have bv:W2.heap.size<=g1:=bn;have bh:W2.heap.size<=m1:=bu;have b0:W2.heap.size<=b1:=ba;have Y:∀g,W2.heap.size<=g->g<G.heap.size->M.heap[g]? =G.heap[g]? :=fun g dl dd=>(af.block g (by omega) (fun e=>by have:=VM e;omega)).trans (a8 g (by omega))
 have ae:DIs M g1 m1 b1 n1 b U:=by
  have F:=aj.lt;have H:=aj.is.lt;have c6:=(Aa ag).size;exact(aj.keep c6 ((Aa ag).block g1 F.1) ((Aa ag).block m1 F.2) ((Aa ag).block b1 H)).keep (by omega) (Y g1 bv (by omega)) (Y m1 bh (by omega)) (Y b1 b0 (by omega))
 have ap:DIs M g2 m2 b2 n2 b O:=by
  have F:=al.lt;have H:=al.is.lt;exact al.keep (by omega) (Y g2 (by omega) F.1) (Y m2 (by omega) F.2) (Y b2 (by omega) H)
 have ck:Hid (Z7f No B w b R u (.returned (.agg #[DV g1 m1,DV g2 m2])) M):=Ab (by
  have F:=ae.lt;have H:=ae.is.lt;have T:=ap.lt;have cw:=ap.is.lt;refine⟨NK No w.heap.size M.heap.size,g1,m1,b1,n1,g2,m2,b2,n2,fun _ I=>.inl I,fun g a1 e=> ?_,rfl,ai.inner,by rw[Aa cv];exact ae,by rw[Aa b4];exact ap,⟨.inr ⟨by omega,F.1⟩,.inr ⟨by omega,F.2⟩,.inr ⟨by omega,H⟩⟩,⟨.inr ⟨by omega,T.1⟩,.inr ⟨by omega,T.2⟩,.inr ⟨by omega,cw⟩⟩,ai.bl⟩
  rcases e with e|e
  . exact Aa bj g (by have:=ai.bl.below.size;omega) e
  . omega)
 clear ae ap Y bv bh b0 ai af a8 az ac ak bn bu ba cu aj x1 x2 x3 x4 al cy c8 a6 cm b9;have cq:=Ab aw;clear aw;change Exit.then _ _ Exit.normal _ ((G.setCell ⟨b,4,none⟩ (DV g1 m1)).setCell ⟨b,5,none⟩ (DV g2 m2))
 rw[aa];clear aa;go_wp2_with (refine wpList_store_row rfl 282 (.tmp 2) (.tmp 28) rfl w.heap.size #[DV g1 m1,DV g2 m2] rfl rfl 282 #[.nilFunc,.nilFunc] (Aa bb) Fq rfl (by first|rfl|simp[Value.oneCell']) ?_)
 rw[Aa cq];refine bodyPost_ret (v:=.agg #[DV g1 m1,DV g2 m2]) ?_ rfl (Aa ck);exact results_cell_row rfl _ _ w.heap.size _ _ _ _ (by first|rfl|kernel_rfl|simp) (Aa ci) Tryz.underlying282 rfl Fq
theorem Tr (No:Nat->Prop)(B b:Nat)(R G H:Value)(u:US)(w:World)(F:IIs No B w b R G H u)(U:Fx No w b G H)(E:∀g,w.heap.size<=g->¬No g):
 Calls Tryz.prog 251 #[.pointer (some ⟨b,0,none⟩)] w fun e w'=>Z7f No B w b R u e w':=by
 rcases U with ⟨rfl,rfl⟩|⟨g1,m1,b1,n1,g2,m2,b2,n2,rfl,rfl,I,O,M,T⟩
 . exact L4 No B b R u w F E
 . exact Yg No B b R u w g1 m1 b1 n1 g2 m2 b2 n2 F I O M T E
end Go.Proofs.YtleocpdblhbimaaGreatDoor
