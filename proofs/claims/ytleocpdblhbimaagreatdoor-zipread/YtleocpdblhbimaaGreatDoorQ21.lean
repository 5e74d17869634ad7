import Derived.Test.YtleocpdblhbimaaGreatDoorQ20
import Derived.Deep.RegionHeld3
import Derived.Deep.AppendLies
import Derived.Maps.AppendAt
set_option linter.unusedSimpArgs false
set_option maxHeartbeats 4000000
namespace Go.Proofs.YtleocpdblhbimaaGreatDoor
open Go.RowKit
set_option linter.unusedVariables false
set_option maxRecDepth 100000
theorem NZ:∀k,k<=29->(Dg k).1<=40000/\(Dg k).2<=16:=by decide
theorem Got.from {No:Nat->Prop}{B b:Nat}{w H w':World}{R O M v:Value}{u:US}{e:Ending}(T:Got No B H b R O M v u e w')(F:Below B w H)(hK:Kp No w H):Got No B w b R O M v u e w':=by
 rcases T with ⟨I,G,E⟩|⟨I,G,E⟩
 . exact .inl ⟨I,G,E.is,F.trans E.below,hK.trans E.kp F.size⟩
 . exact .inr ⟨I,G,F.trans E.below,hK.trans E.kp F.size⟩
theorem Y5 (No:Nat->Prop)(B b:Nat)(a:Option Addr)(n ac:Nat)(bs:List Nat)(ab aa:Value)(u:US)(w:World)(h:IIs No B w b (.slice a n ac) ab aa u)(a5:Rd w No a n bs)(ax:u.p<=8*n)(a2:u.e=0)(g1 g2 H G U an:Nat)(l:List Int)(ag:DIs w H G U an b l)(az:Good l)(av:No H/\No G/\No U)(ay:∀g,w.heap.size<=g->¬No g)(k:Nat)(v:US)(a6:Hid (Me (rowB bs n) l u=(k,v))):
 Calls Tryz.prog 269 #[.pointer (some ⟨b,0,none⟩),.agg #[DV g1 g2,DV H G]] w fun e w'=>Got No B w b (.slice a n ac) ab aa (.int .i64 (k:Int)) v e w':=by
 have bg:=Af bs n;obtain⟨k1,E,ae⟩:∃k1 E,uplace l (rowB bs n) u=(k1,E):=⟨_,_,rfl⟩
 have bj:E.p<=8*n:=by
  have:=Ix l (rowB bs n) u (by omega)
  rw[ae,bg]at this;exact this
 have Z:Hid ((E.e≠0->v=E)/\(E.e=0->29<k1->v= {E with e:=8})/\(E.e=0->k1<=29->k=(Dg k1).1+(uget (rowB bs n) (Dg k1).2 E).1/\v=(uget (rowB bs n) (Dg k1).2 E).2)):=Ab (by
  have:=Aa a6
  unfold Me at this;rw[ae]at this;refine⟨fun e=> ?_,fun e e2=> ?_,fun e e2=> ?_⟩
  . rw[if_pos e]at this;exact(VN this).2.symm
  . rw[if_neg (by simpa using e),if_pos e2]at this;exact(VN this).2.symm
  . rw[if_neg (by simpa using e),if_neg (by omega)]at this;exact⟨(VN this).1.symm,(VN this).2.symm⟩)
 obtain⟨W1,ah⟩:=exq (w.alloc (.cells #[DV g1 g2,DV H G] 282));have bm:=h.lt;have a8:B<=w.heap.size:=by have:=h.base;omega
 have M:Below w.heap.size w W1:=by rw[<-ah];exact(Below.refl _ _).alloc (VB _) _
 have aj:Kp No w W1:=fun g F _=>M.block g F
 have a0:W1.heap.size=w.heap.size+1:=by rw[<-ah];simp
 have aw:W1.heap[w.heap.size]? =some (.cells #[DV g1 g2,DV H G] 282 (0,0)):=by rw[<-ah];exact heap_alloc_new _ _
 have bn:W1.cell? ⟨w.heap.size,1,none⟩=some (DV H G):=Ac aw;have au:=h.grown (w':=W1) (by rw[<-ah];exact World.grownBy_alloc w _ none);have am:=a5.keep (by omega) aj;have bi:=ag.lt;have a9:=ag.is.lt;have a3:DIs W1 H G U an b l:=ag.keep (by omega) (M.block H (by omega)) (M.block G (by omega)) (M.block U (by omega));have bf:=Ab (LK No B b a n ac bs ab aa u W1 au am ax a2 H G U an l a3 az av (fun g F=>ay g (by omega)) k1 E (Ab ae));have O:=Ab (M.mono a8);have al:=Ab aj;have bc:=Ab am;have bt:=Ab a0;clear h a5 ax a2 ag az av ay a6 ae M aj au am a3 a0 bi a9 aw;go_enter Tryz.func269,Tryz.ntmps269
 go_wp2_with fail
 refine(Aa bf).mono ?_;rintro e aq F
 rcases F with ⟨e0,rfl,ar⟩|⟨e0,rfl,a4⟩
 . have I:=Ab ar;clear ar
   by_cases a7:29<k1
   . have bk:(30:Int)<=(k1:Int):=by omega
     have T:=(Aa Z).2.1 e0 a7;have Y:=Ab T;clear T Z;go_wp2_with fail
     refine(Cf 8 _).mono ?_;rintro e w3 ⟨rfl,rfl⟩;go_wp2;exact⟨rfl,.inr ⟨by rw[Aa Y];exact(by decide:(8:Int)≠0),by rw[Aa Y],(Aa O).trans (Aa I).below,(Aa al).trans (Aa I).kp (Aa O).size⟩⟩
   . have bk:¬(30:Int)<=(k1:Int):=by omega
     obtain⟨ak,T⟩:=(Aa Z).2.2 e0 (by omega);obtain⟨ao,as⟩:=NZ k1 (by omega);obtain⟨r,ai,F⟩:∃r ai,uget (rowB bs n) (Dg k1).2 E=(r,ai):=⟨_,_,rfl⟩
     rw[F]at ak T;have be:=Ab (Iw No B b a n ac (Dg k1).2 (Dg k1).1 bs ab aa E aq (Aa I).is ((Aa bc).keep (Aa I).below.size (Aa I).kp) bj e0 as ao r ai (Ab F));have bh:=Ab (F8 k1 aq (by omega));have af:Hid (k=(Dg k1).1+r/\v=ai):=Ab ⟨ak,T⟩;clear ak T F Z ao as;generalize Dg k1=LF at*;obtain⟨bu,bo⟩:=LF;go_wp2_with fail
     refine(Aa bh).mono ?_;rintro e w3 ⟨rfl,rfl⟩;go_wp2_with fail
     refine(Aa be).mono ?_;rintro e bq F;have ap:=Ab (Got.from F ((Aa O).trans (Aa I).below) ((Aa al).trans (Aa I).kp (Aa O).size))
     rcases F with ⟨ba,rfl,bd⟩|⟨ba,rfl,bb⟩
     . clear bd;go_wp2;go_ret;rw[(Aa af).1,(Aa af).2];exact Aa ap
     . clear bb;go_wp2;refine⟨rfl, ?_⟩;rw[(Aa af).1,(Aa af).2];exact Aa ap
 . have a1:=Ab a4;have Y:=Ab ((Aa Z).1 e0);clear a4;go_wp2;exact⟨rfl,.inr ⟨by rw[Aa Y];exact e0,by rw[Aa Y],(Aa O).trans (Aa a1).below,(Aa al).trans (Aa a1).kp (Aa O).size⟩⟩
theorem IIs.said {No:Nat->Prop}{B b c:Nat}{w F:World}{R Y U E G v':Value}{u:US}{o:Obj}(aq:B<=b)(ac:¬No b)(ah:w.heap[b]? =some (.cells (icells R Y U u E G) 284 (0,0)))
 (af:w.ownsRow (b+1) 5 1 E u.out.length (u8s u.out)) (T:w.ownsRow (b+1) 3 1 G u.ks.length (i64s u.ks)) (aj:E.ownBlock=none\/E.ownBlock≠G.ownBlock) (ai:∀g,E.ownBlock=some g->¬No g) (ap:∀g,G.ownBlock=some g->¬No g) (ar:∀g,w.heap.size<=g->¬No g)
 (ag:F.ownsRow (b+1) 5 1 v' (u.out.length+1) (u8s u.out++ [.int .u8 (c:Int)])) (M:(w.alloc o).grownBy F E.ownBlock) (aa:v'.ownBlock=E.ownBlock\/v'.ownBlock=some (w.alloc o).heap.size):
 F.cell? ⟨b,2,none⟩=some E/\F.frozen? ⟨b,2,none⟩=false/\IUp No B w b R Y U {u with out:=u.out++ [c]} (F.setCell ⟨b,2,none⟩ v'):=by
 have ak:b<w.heap.size:=(VK.1 ah).1
 have am:E.ownBlock=none\/E.ownBlock≠some b:=by
  cases O:E.ownBlock with
  |none=>exact .inl rfl
  |some g=>
   refine .inr (fun e=> ?_);have:=(af.lt g O).1
   cases e
   omega
 have ab:F.heap[b]? =some (.cells (icells R Y U u E G) 284 (0,0)):=by
  rw[M.block b (by simp;omega) (fun e=>by rcases am with h|h;rw[h]at e;cases e;exact h e.symm)];exact(Below.heap_alloc w _ b ak).trans ah
 have Z:∀g,g<w.heap.size->E.ownBlock≠some g->F.heap[g]? =w.heap[g]? :=fun g H as=>by
  rw[M.block g (by simp;omega) (fun e=>as e.symm)];exact Below.heap_alloc w _ g H
 have al:=M.size;simp only[World.size_alloc]at al aa;have I:=Ad F b 2 v'
 have av:v'.ownBlock=none\/v'.ownBlock≠some b:=by
  cases O:v'.ownBlock with
  |none=>exact .inl rfl
  |some g=>
   refine .inr (fun e=> ?_);have:=(ag.lt g O).1
   cases e
   omega
 have ao:F.ownsRow (b+1) 3 1 G u.ks.length (i64s u.ks):=Au T (fun g H=>Z g (T.lt g H).2 (fun e=>by
  rcases aj with h|h
  . rw[h]at e;cases e
  . exact h (by rw[H];exact e)))
 have au:G.ownBlock=none\/G.ownBlock≠some b:=by
  cases O:G.ownBlock with
  |none=>exact .inl rfl
  |some g=>
   refine .inr (fun e=> ?_);have:=(T.lt g O).1
   cases e
   omega
 refine⟨Ac ab,frozen_of_row F b 2 _ _ ab,⟨aq,ac,v',G, ?_, ?_,ao.kept I au, ?_, ?_,ap⟩, ?_, ?_⟩
 . rw[heap_setCell_same F b 2 _ _ _ ab];rfl
 . have:=ag.kept I av
   show (F.setCell ⟨b,2,none⟩ v').ownsRow (b+1) 5 1 v' (u.out++ [c]).length (u8s (u.out++ [c]))
   rw[Wx,VE];exact this
 . rcases aa with h|h
   . rw[h];exact aj
   . refine .inr (fun e=> ?_);rw[h]at e;have:=(T.lt _ e.symm).2
     omega
 . intro g H
   rcases aa with h|h
   . exact ai g (by rw[<-h];exact H)
   . rw[h]at H;have:=VM H
     exact ar g (by omega)
 . refine⟨I.os.trans (M.os.trans rfl),I.tape.trans (M.tape.trans rfl),I.output.trans (M.output.trans rfl),by have:=I.size;omega, ?_⟩;intro g H;rw[I.block g (by omega) (fun e=>by simp at e;omega),Z g (by omega) (fun e=>by have:=(af.lt g e).1;omega)]
 . intro g an ae;rw[I.block g (by omega) (fun e=>by simp at e;subst e;exact ac ae),Z g an (fun e=>ai g e ae)]
end Go.Proofs.YtleocpdblhbimaaGreatDoor
namespace Go.Proofs.YtleocpdblhbimaaGreatDoor
open Go.RowKit
set_option linter.unusedVariables false
set_option maxRecDepth 100000
theorem Y6 (a b:Nat)(F:a<4611686018427387904)(E:b<4611686018427387904):bits .xor .i64 (a:Int) (b:Int)=((a^^^b:Nat):Int):=by
 have G:a^^^b<2^62:=ZO (by omega) (by omega);show IntKind.i64.wrap ((BitVec.ofInt 64 (a:Int)^^^BitVec.ofInt 64 (b:Int)).toNat:Int)=_
 rw[BitVec.toNat_xor,Hh a F,Hh b E];exact Gj _ (by omega)
theorem JW (a:Nat)(F:a<65536):a^^^65535=65535-a:=by
 have E:((BitVec.ofNat 16 a)^^^(BitVec.allOnes 16)).toNat=(~~~ (BitVec.ofNat 16 a)).toNat:=by rw[BitVec.xor_allOnes]
 rw[BitVec.toNat_xor,BitVec.toNat_not,BitVec.toNat_ofNat,BitVec.toNat_allOnes,ZJ (by simpa using F)]at E;exact E
theorem Z35 (a b:Nat)(E:a<65536)(F:b<65536):a^^^b=65535↔a+b=65535:=by
 constructor
 . intro h;have e:b=a^^^(a^^^b):=by rw[<-ZG,Nat.xor_self,Nat.zero_xor]
   rw[h,JW a E]at e;omega
 . intro h;have e:b=a^^^65535:=by rw[JW a E];omega
   rw[e,<-ZG,Nat.xor_self,Nat.zero_xor]
theorem EU (No:Nat->Prop)(B b:Nat)(a:Option Addr)(n aw:Nat)(bs:List Nat)(ao an:Value)(u:US)(w:World)(E:IIs No B w b (.slice a n aw) ao an u)(ci:Rd w No a n bs)(dv:u.p<=8*n)(dd:u.e=0)(b4:u.out.length<=3000)(c9:∀g,w.heap.size<=g->¬No g)(ej:B<=b)(V:US)(c7:Hid (Cj (rowB bs n) u=V)):
 Calls Tryz.prog 249 #[.pointer (some ⟨b,0,none⟩)] w fun e w'=>Got No B w b (.slice a n aw) ao an (.tuple #[]) V e w':=by
 obtain⟨c0,c1,cp⟩:=E.cell;have eh:=cp 1;have ed:=ci.few;have H:=Ab E;have cj:=Ab ci;have bz:=Ab c9;have d1:=Ab dd;clear E ci cp c9 dd;obtain⟨p,cm⟩:=exq (u.p);rw[cm]at c1 dv;have dy:wrap64 ((((p:Int)+7)/8)*8)=(((p+7)/8*8:Nat):Int):=by unfold wrap64;omega
 obtain⟨ab,dc⟩:∃ab,(p+7)/8*8=ab:=⟨_,rfl⟩
 have cu:ab<=8*n:=by omega
 have ax:=Ab ((Aa H).setP ab);have a5:=Af bs n;obtain⟨r1,aa,bc⟩:∃r v,Hid (uget (rowB bs n) 16 {u with p:=ab}=(r,v)):=⟨_,_,Ab rfl⟩
 obtain⟨r2,I,ay⟩:∃r v,Hid (uget (rowB bs n) 16 aa=(r,v)):=⟨_,_,Ab rfl⟩
 have dm:r1<65536:=by have:=Nm (rowB bs n) 16 {u with p:=ab};rw[Aa bc]at this;exact this
 have ds:r2<65536:=by have:=Nm (rowB bs n) 16 aa;rw[Aa ay]at this;exact this
 have c4:aa.p<=8*n:=by have:=Gr (rowB bs n) 16 {u with p:=ab} (by rw[a5];exact cu);rw[Aa bc,a5]at this;exact this
 have du:I.p<=8*n:=by have:=Gr (rowB bs n) 16 aa (by rw[a5];exact c4);rw[Aa ay,a5]at this;exact this
 have co:aa.out=u.out:=by have:=Cm (rowB bs n) 16 {u with p:=ab};rw[Aa bc]at this;exact this
 have db:I.out=u.out:=by have:=Cm (rowB bs n) 16 aa;rw[Aa ay]at this;exact this.trans co
 have cq:V=if I.e≠0 then I else if r1+r2≠65535 then {I with e:=4}else if 3000<I.out.length+r1 then {I with e:=2}else ustore (rowB bs n) r1 I:=by
  rw[<-Aa c7];exact Vj _ u aa I ab r1 r2 (by rw[cm];exact dc) (Aa bc) (Aa ay)
 have a0:=Ab cq;have dp:((p:Int)+7)/8*8=(ab:Int):=by omega
 have dq:=fun w=>Ab (Cf 4 w)
 rw[<-db]at b4;have dj:=Ab b4;clear c7 a5 cq dy dc cm co db b4;go_enter Tryz.func249,Tryz.ntmps249
 go_wp2_with fail
 clear dp;obtain⟨dx,c8⟩:=exq (w.setCell ⟨b,1,none⟩ (.int .i64 (ab:Int)));rw[c8]at ax ⊢;clear c8;have d4:=Ab ((Aa cj).keep (Aa ax).below.size (Aa ax).kp);refine(Dx No B b a n aw 16 bs ao an _ dx (Aa ax).is (Aa d4) cu (Aa d1) (by decide) r1 aa bc).mono ?_;rintro e dr Z
 rcases Z with ⟨e0,rfl,Y⟩|⟨e0,rfl,a9⟩
 rotate_left
 . have M:Hid (V=aa):=Ab (by
    have e2:I=aa:=by have:=Fj (rowB bs n) 16 aa e0;rw[Aa ay]at this;exact this
    rw[Aa a0,if_pos (by rw[e2];exact e0),e2])
   have bw:=Ab ((Aa ax).bl.trans a9);clear a9;go_wp2;exact⟨rfl,.inr ⟨by rw[Aa M];exact e0,by rw[Aa M],Aa bw⟩⟩
 have a4:=Ab ((Aa ax).trans Y);have d6:=Ab ((Aa cj).keep (Aa a4).below.size (Aa a4).kp);have dz:=Ab e0;clear Y e0;go_wp2_with fail
 refine(Dx No B b a n aw 16 bs ao an _ dr (Aa a4).is (Aa d6) c4 (Aa dz) (by decide) r2 I ay).mono ?_;rintro e d3 Z
 rcases Z with ⟨e0,rfl,Y⟩|⟨e0,rfl,a9⟩
 rotate_left
 . have M:Hid (V=I):=Ab (by rw[Aa a0,if_pos e0]);have bw:=Ab ((Aa a4).bl.trans a9);clear a9;go_wp2;exact⟨rfl,.inr ⟨by rw[Aa M];exact e0,by rw[Aa M],Aa bw⟩⟩
 have bi:=Ab ((Aa a4).trans Y);have ck:=Ab e0;clear Y e0;have bk:=Z35 r1 r2 dm ds;have bt:=Y6 r1 r2 (by omega) (by omega)
 by_cases bh:r1+r2=65535
 rotate_left
 . have cy:(bits .xor .i64 (r1:Int) (r2:Int)==65535)=false:=by
    rw[bt,beq_eq_false_iff_ne];intro E;exact bh (bk.1 (by omega))
   have M:Hid (V= {I with e:=4}):=Ab (by rw[Aa a0,if_neg (fun E=>E (Aa ck)),if_pos bh]);clear bk bt;go_wp2_with fail
   refine(Aa (dq _)).mono ?_;rintro e w3 ⟨rfl,rfl⟩;go_wp2;exact⟨rfl,.inr ⟨by rw[Aa M];exact(by decide:(4:Int)≠0),by rw[Aa M],(Aa bi).bl⟩⟩
 have cy:(bits .xor .i64 (r1:Int) (r2:Int)==65535)=true:=by
  rw[bt,beq_iff_eq,bk.2 bh];rfl
 have bo:Hid (V=if 3000<I.out.length+r1 then {I with e:=2}else ustore (rowB bs n) r1 I):=Ab (by rw[Aa a0,if_neg (fun E=>E (Aa ck)),if_neg (fun E=>E bh)]);clear bk bt;go_wp2_with fail
 refine(Rq No B b r1 _ ao an I d3 (Aa bi).is (Aa dj) (by omega)).mono ?_;rintro e w3 ⟨rfl,Z⟩
 rcases Z with ⟨hl,rfl⟩|⟨hl,rfl⟩
 rotate_left
 . have M:Hid (V= {I with e:=2}):=Ab (by rw[Aa bo,if_pos hl]);clear hl;go_wp2;exact⟨rfl,.inr ⟨by rw[Aa M];exact(by decide:(2:Int)≠0),by rw[Aa M],(Aa bi).bl⟩⟩
 have b3:Hid (V=ustore (rowB bs n) r1 I):=Ab (by rw[Aa bo,if_neg (by omega)]);have d7:=Ab hl;clear hl cy;go_wp2;go_loopw [27] (fun bv wr=>∃(i:Nat) (x:US),i<=r1/\bv=.int .i64 (i:Int)/\Hid (x.p<=8*n/\x.out.length+(r1-i)<=3000/\x.e=0)/\Hid (IUp No B w b (.slice a n aw) ao an x wr)/\Hid (V=ustore (rowB bs n) (r1-i) x)) (fun bv _=>r1-(intOf bv).toNat)
 case atStart=>exact⟨0,I,VH _,rfl,Ab ⟨du,by have:=Aa d7;omega,Aa ck⟩,bi,b3⟩
 case round=>
  obtain⟨i,x,hi,rfl,dt,a3,a1⟩:=hrel;obtain⟨c6,de,b8⟩:=Aa dt
  by_cases ee:i<r1
  . have eg:(i:Int)<(r1:Int):=by omega
    obtain⟨G,F,bd⟩:∃r v,Hid (uget (rowB bs n) 8 x=(r,v)):=⟨_,_,Ab rfl⟩
    have bq:=(Aa a3).is;have dl:=Ab ((Aa cj).keep (Aa a3).below.size (Aa a3).kp);have bm:=Ab (fun q=>Re No B b a n aw 8 bs ao an x (wr.drewN q) (bq.grown ⟨rfl,rfl,rfl,VB _,fun _ _ _=>rfl⟩) ((Aa dl).keep (VB _) (Kp.refl _ _)) c6 b8 (by decide) G F bd)
    have bg:ustore (rowB bs n) (r1-i) x=ustore (rowB bs n) (r1-(i+1)) (Fd G F):=by
     obtain⟨k,d2⟩:∃k,r1-i=k+1:=⟨r1-i-1,by omega⟩
     rw[d2,show r1-(i+1)=k by omega];show (if x.e=0 then ustore (rowB bs n) k (Fd (uget (rowB bs n) 8 x).1 (uget (rowB bs n) 8 x).2)else x)=_
     rw[if_pos b8,Aa bd]
    obtain⟨ov,kv,c2,ei,dh,bj,di,c3,ct,cw⟩:=bq.rows
    by_cases ah:F.e=0
    . have cn:Hid (∀q,Calls Tryz.prog 230 #[.pointer (some ⟨b,0,none⟩),.int .i64 8] (wr.drewN q) fun e w'=>e=.returned (.int .i64 (G:Int))/\IUp No B w b (.slice a n aw) ao an F w'/\Mx b wr w'):=Ab (fun q=>((Aa bm) q).mono (fun e w' Z=>by
       rcases Z with ⟨_,bu,e2,e3⟩|⟨e0,_⟩
       . exact⟨bu,((Aa a3).drewN q).trans e2,fun j d5=>e3 j d5⟩
       . exact absurd ah e0))
      have ek:G<256:=by have:=Nm (rowB bs n) 8 x;rw[Aa bd]at this;exact this
      have b7:F.out=x.out:=by have:=Cm (rowB bs n) 8 x;rw[Aa bd]at this;exact this
      have ch:F.p<=8*n:=by have:=Gr (rowB bs n) 8 x (by rw[Af];exact c6);rw[Aa bd,Af]at this;exact this
      have df:Fd G F= {F with out:=F.out++ [G]}:=by
       unfold Fd;rw[if_pos ah,if_neg (by rw[b7];omega)]
      have cl:Hid (V=ustore (rowB bs n) (r1-(i+1)) {F with out:=F.out++ [G]}):=Ab (by rw[Aa a1,bg,df]);obtain⟨T,O,rfl⟩:=An bj;obtain⟨b9,b0,cg,cd,b5⟩:=info_parts Gz;obtain⟨L,ce⟩:=exq (x.out.length);rw[ce]at c2 de;have ag:Hid (F.out.length=L):=Ab (by rw[b7,ce]);have eb:IntKind.u8.wrap (G:Int)=(G:Int):=by unfold IntKind.wrap;simp[IntKind.bits,IntKind.signed];omega
      clear bg bm bq bj di c3 ct cw dh a1 b3 bo a0 df b7 ce;go_wp2;refine wp_region_any (by kernel_rfl) ?_
      try (change wpAny _ _ _ _ _ _ _ (World.drew _))
      refine tkA (i:=0) (v:=.pointer (some ⟨b,0,none⟩)) ?_;simp only[Act.put,VA,VC,VD];refine tkA (i:=1) (v:=.pointer (some ⟨b,0,none⟩)) ?_;simp only[Act.put,VA,VC,VD];refine tkA (i:=2) (v:=.pointer (some ⟨b,0,none⟩)) ?_;simp only[Act.put,VA,VC,VD];refine tkA (i:=3) (v:=.pointer (some ⟨b,2,none⟩)) ?_;simp only[Act.put,VA,VC,VD];refine tkA (i:=5) (v:=.pointer (some ⟨b,0,none⟩)) ?_;simp only[Act.put,VA,VC,VD];refine wpAny_ready (rs:= [4,6]) (by kernel_rfl) (by simp) (AllReady.cons rfl (fun K hK=> ?_) (AllReady.cons rfl (fun K hK=> ?_) AllReady.nil))
      . go_simp
        refine hK _ _ ?_;clear hK K;refine rdA (i:=6) fun K hK=> ?_
        go_simp
        refine(Aa cn _).mono ?_;rintro e af ⟨rfl,Y,bf⟩;dsimp only;have bn:af.cell? ⟨b,2,none⟩=some (.slice T L O):=(bf 2 (by decide)).trans c2;have d8:=Y.is.lt;have ae:=Ab Y;clear Y bf;refine hK _ _ ?_;clear hK K;refine tkA (i:=7) (v:=.int .u8 (G:Int)) ?_;simp only[Act.put,VA,VC,VD];refine rdA (i:=8) fun K hK=> ?_
        go_simp
        refine hK _ _ ?_;clear hK K;have U:=(Aa ae).is;have cv:=(Aa ae).below.size;obtain⟨ba,da,ai,a7,ak,ac,ar,al,as,aj⟩:=U.rows;obtain rfl:ba=.slice T L O:=VM (ai.symm.trans bn)
        have ap:af.ownsRow (b+1) 5 1 (.slice T L O) L (u8s F.out):=by
         have:=ac
         rw[Aa ag]at this;exact this
        refine rdA (i:=9) fun K hK=> ?_
        refine step_append_lies _ rfl (.tmp 33) (.tmp 37) 23 rfl (b+1) 5 b9 (.int .u8 0) 1 1 Tryz.underlying23 b0 cg cd b5 rfl (by decide) (.slice T L O) L (u8s F.out) rfl (ap.alloc _) ⟨af.heap.size,0,none⟩ 1 1 [.int .u8 (G:Int)] rfl rfl (cell_one_new _ _ _) (Bc rfl) (by decide) (by unfold maxLen;omega) (by omega) (by simp;omega) _ rfl ?_;intro a8 bb cz aq au av a6
        obtain⟨c5,dg,am⟩:=IIs.said (c:=G) (v':=.slice (some ⟨a8,0,none⟩) (L+1) bb) U.base U.no ak ac ar al as aj (fun g Z=>Aa bz g (by omega)) (by rw[Aa ag];exact aq) au (by
         rcases av with E|E
         . exact .inl E.symm
         . exact .inr (by rw[E];rfl))
        have be:=Ab ((Aa ae).trans am);refine hK _ _ ?_;clear hK K am aq au av a6 ap ac ar al as aj ak ai a7 U;simp only[Act.put,VA,VC,VD];refine tkA (i:=10) (v:=.pointer (some ⟨b,0,none⟩)) ?_;simp only[Act.put,VA,VC,VD];refine tkA (i:=11) (v:=.pointer (some ⟨b,2,none⟩)) ?_;simp only[Act.put,VA,VC,VD];refine rdA (i:=12) fun K hK=> ?_
        go_simp
        refine hK _ _ ?_;clear hK K;refine wpAny_done (by kernel_rfl) ?_ _;go_wp2;go_roundw
        case rel=>exact⟨i+1,{F with out:=F.out++ [G]},by omega,by go_num,Ab ⟨ch,by show (F.out++ [G]).length+_<=_;rw[VE,Aa ag];simp only[VJ,WE];omega,ah⟩,be,cl⟩
        case measure=>simp[intOf];omega
      . go_simp
        refine(Aa cn _).mono ?_;rintro e af ⟨rfl,Y,bf⟩;dsimp only;have bn:af.cell? ⟨b,2,none⟩=some (.slice T L O):=(bf 2 (by decide)).trans c2;have d8:=Y.is.lt;have ae:=Ab Y;clear Y bf;refine hK _ _ ?_;clear hK K;refine tkA (i:=7) (v:=.int .u8 (G:Int)) ?_;simp only[Act.put,VA,VC,VD];refine wpAny_ready (rs:= [4,8]) (by kernel_rfl) (by simp) (AllReady.cons rfl (fun K hK=> ?_) (AllReady.cons rfl (fun K hK=> ?_) AllReady.nil))
        . go_simp
          refine hK _ _ ?_;clear hK K;refine rdA (i:=8) fun K hK=> ?_
          go_simp
          refine hK _ _ ?_;clear hK K;have U:=(Aa ae).is;have cv:=(Aa ae).below.size;obtain⟨ba,da,ai,a7,ak,ac,ar,al,as,aj⟩:=U.rows;obtain rfl:ba=.slice T L O:=VM (ai.symm.trans bn)
          have ap:af.ownsRow (b+1) 5 1 (.slice T L O) L (u8s F.out):=by
           have:=ac
           rw[Aa ag]at this;exact this
          refine rdA (i:=9) fun K hK=> ?_
          refine step_append_lies _ rfl (.tmp 33) (.tmp 37) 23 rfl (b+1) 5 b9 (.int .u8 0) 1 1 Tryz.underlying23 b0 cg cd b5 rfl (by decide) (.slice T L O) L (u8s F.out) rfl (ap.alloc _) ⟨af.heap.size,0,none⟩ 1 1 [.int .u8 (G:Int)] rfl rfl (cell_one_new _ _ _) (Bc rfl) (by decide) (by unfold maxLen;omega) (by omega) (by simp;omega) _ rfl ?_;intro a8 bb cz aq au av a6
          obtain⟨c5,dg,am⟩:=IIs.said (c:=G) (v':=.slice (some ⟨a8,0,none⟩) (L+1) bb) U.base U.no ak ac ar al as aj (fun g Z=>Aa bz g (by omega)) (by rw[Aa ag];exact aq) au (by
           rcases av with E|E
           . exact .inl E.symm
           . exact .inr (by rw[E];rfl))
          have be:=Ab ((Aa ae).trans am);refine hK _ _ ?_;clear hK K am aq au av a6 ap ac ar al as aj ak ai a7 U;simp only[Act.put,VA,VC,VD];refine tkA (i:=10) (v:=.pointer (some ⟨b,0,none⟩)) ?_;simp only[Act.put,VA,VC,VD];refine tkA (i:=11) (v:=.pointer (some ⟨b,2,none⟩)) ?_;simp only[Act.put,VA,VC,VD];refine rdA (i:=12) fun K hK=> ?_
          go_simp
          refine hK _ _ ?_;clear hK K;refine wpAny_done (by kernel_rfl) ?_ _;go_wp2;go_roundw
          case rel=>exact⟨i+1,{F with out:=F.out++ [G]},by omega,by go_num,Ab ⟨ch,by show (F.out++ [G]).length+_<=_;rw[VE,Aa ag];simp only[VJ,WE];omega,ah⟩,be,cl⟩
          case measure=>simp[intOf];omega
        . go_simp
          refine hK _ _ ?_;clear hK K;refine rdA (i:=4) fun K hK=> ?_
          go_simp
          refine hK _ _ ?_;clear hK K;have U:=(Aa ae).is;have cv:=(Aa ae).below.size;obtain⟨ba,da,ai,a7,ak,ac,ar,al,as,aj⟩:=U.rows;obtain rfl:ba=.slice T L O:=VM (ai.symm.trans bn)
          have ap:af.ownsRow (b+1) 5 1 (.slice T L O) L (u8s F.out):=by
           have:=ac
           rw[Aa ag]at this;exact this
          refine rdA (i:=9) fun K hK=> ?_
          refine step_append_lies _ rfl (.tmp 33) (.tmp 37) 23 rfl (b+1) 5 b9 (.int .u8 0) 1 1 Tryz.underlying23 b0 cg cd b5 rfl (by decide) (.slice T L O) L (u8s F.out) rfl (ap.alloc _) ⟨af.heap.size,0,none⟩ 1 1 [.int .u8 (G:Int)] rfl rfl (cell_one_new _ _ _) (Bc rfl) (by decide) (by unfold maxLen;omega) (by omega) (by simp;omega) _ rfl ?_;intro a8 bb cz aq au av a6
          obtain⟨c5,dg,am⟩:=IIs.said (c:=G) (v':=.slice (some ⟨a8,0,none⟩) (L+1) bb) U.base U.no ak ac ar al as aj (fun g Z=>Aa bz g (by omega)) (by rw[Aa ag];exact aq) au (by
           rcases av with E|E
           . exact .inl E.symm
           . exact .inr (by rw[E];rfl))
          have be:=Ab ((Aa ae).trans am);refine hK _ _ ?_;clear hK K am aq au av a6 ap ac ar al as aj ak ai a7 U;simp only[Act.put,VA,VC,VD];refine tkA (i:=10) (v:=.pointer (some ⟨b,0,none⟩)) ?_;simp only[Act.put,VA,VC,VD];refine tkA (i:=11) (v:=.pointer (some ⟨b,2,none⟩)) ?_;simp only[Act.put,VA,VC,VD];refine rdA (i:=12) fun K hK=> ?_
          go_simp
          refine hK _ _ ?_;clear hK K;refine wpAny_done (by kernel_rfl) ?_ _;go_wp2;go_roundw
          case rel=>exact⟨i+1,{F with out:=F.out++ [G]},by omega,by go_num,Ab ⟨ch,by show (F.out++ [G]).length+_<=_;rw[VE,Aa ag];simp only[VJ,WE];omega,ah⟩,be,cl⟩
          case measure=>simp[intOf];omega
    . have M:Hid (V=F):=Ab (by
       have:Fd G F=F:=by unfold Fd;rw[if_neg ah]
       rw[Aa a1,bg,this,Fo _ _ _ ah])
      have d9:Hid (∀q,Calls Tryz.prog 230 #[.pointer (some ⟨b,0,none⟩),.int .i64 8] (wr.drewN q) fun e w'=>e=Flt F.e/\Bl No B w w'):=Ab (fun q=>((Aa bm) q).mono (fun e w' Z=>by
       rcases Z with ⟨e0,_⟩|⟨_,bu,e2⟩
       . exact absurd e0 ah
       . exact⟨bu,((Aa a3).bl.drewN q).trans e2⟩))
      obtain⟨T,O,rfl⟩:=An bj;clear bg bm bq bj di c3 ct cw dh a1 b3 bo a0 de;go_wp2;refine wp_region_held_drew (S:=fun w'=>w'.cell? ⟨b,2,none⟩=some (.slice T x.out.length O)) (by kernel_rfl) (by go_simp) (fun az=> ?_);refine wpAnyH_take (i:=0) (v:=.pointer (some ⟨b,0,none⟩)) rfl (by kernel_rfl) (by kernel_rfl) (by kernel_rfl) (fun _ _ _ E=>E) (a2.inl ⟨by rfl,fun W _=>by go_simp⟩) az ?_;simp only[Act.put,VA,VC,VD];refine wpAnyH_take (i:=1) (v:=.pointer (some ⟨b,0,none⟩)) rfl (by kernel_rfl) (by kernel_rfl) (by kernel_rfl) (fun _ _ _ E=>E) (a2.inl ⟨by rfl,fun W _=>by go_simp⟩) az ?_;simp only[Act.put,VA,VC,VD];refine wpAnyH_take (i:=2) (v:=.pointer (some ⟨b,0,none⟩)) rfl (by kernel_rfl) (by kernel_rfl) (by kernel_rfl) (fun _ _ _ E=>E) (a2.inl ⟨by rfl,fun W _=>by go_simp⟩) az ?_;simp only[Act.put,VA,VC,VD];refine wpAnyH_take (i:=3) (v:=.pointer (some ⟨b,2,none⟩)) rfl (by kernel_rfl) (by kernel_rfl) (by kernel_rfl) (fun _ _ _ E=>E) (a2.inl ⟨by rfl,fun W _=>by go_simp⟩) az ?_;simp only[Act.put,VA,VC,VD];refine wpAnyH_take (i:=4) (v:=.slice T x.out.length O) rfl (by kernel_rfl) (by kernel_rfl) (by kernel_rfl) (fun _ _ _ E=>E) (a2.inl ⟨by rfl,fun W dn=>by have el:W.cell? ⟨b,2,none⟩=some (.slice T x.out.length O):=dn;go_simp⟩) az ?_;simp only[Act.put,VA,VC,VD];refine wpAnyH_take (i:=5) (v:=.pointer (some ⟨b,0,none⟩)) rfl (by kernel_rfl) (by kernel_rfl) (by kernel_rfl) (fun _ _ _ E=>E) (a2.inl ⟨by rfl,fun W _=>by go_simp⟩) az ?_;simp only[Act.put,VA,VC,VD];refine rdH (i:=6) fun K hK=> ?_
      go_simp
      refine(Aa d9 _).mono ?_;rintro e af ⟨rfl,dw⟩;exact And.intro rfl (a2.inr ⟨by rw[Aa M];exact ah,by rw[Aa M],dw⟩)
  . obtain rfl:i=r1:=by omega
    have M:Hid (V=x):=Ab (by rw[Aa a1,XW];rfl);clear a1;go_wp2;go_end0
    exact .inl ⟨by rw[Aa M];exact b8,rfl,by rw[Aa M];exact Aa a3⟩
end Go.Proofs.YtleocpdblhbimaaGreatDoor
namespace Go.Proofs.YtleocpdblhbimaaGreatDoor
open Go.RowKit
set_option linter.unusedVariables false
set_option maxRecDepth 100000
theorem Z4z (xs:List Nat)(y:Nat):i64s (xs++ [y])=i64s xs++ [.int .i64 (y:Int)]:=by simp[i64s]
theorem IIs.kept {No:Nat->Prop}{B b c:Nat}{w F:World}{R Y U G E v':Value}{u:US}{o:Obj}(ap:B<=b)(ac:¬No b)(ah:w.heap[b]? =some (.cells (icells R Y U u G E) 284 (0,0)))
 (T:w.ownsRow (b+1) 5 1 G u.out.length (u8s u.out)) (aj:w.ownsRow (b+1) 3 1 E u.ks.length (i64s u.ks)) (ai:G.ownBlock=none\/G.ownBlock≠E.ownBlock) (au:∀g,G.ownBlock=some g->¬No g) (ae:∀g,E.ownBlock=some g->¬No g) (aq:∀g,w.heap.size<=g->¬No g)
 (ag:F.ownsRow (b+1) 3 1 v' (u.ks.length+1) (i64s u.ks++ [.int .i64 (c:Int)])) (O:(w.alloc o).grownBy F E.ownBlock) (aa:v'.ownBlock=E.ownBlock\/v'.ownBlock=some (w.alloc o).heap.size):
 F.cell? ⟨b,3,none⟩=some E/\F.frozen? ⟨b,3,none⟩=false/\IUp No B w b R Y U {u with ks:=u.ks++ [c]} (F.setCell ⟨b,3,none⟩ v'):=by
 have ak:b<w.heap.size:=(VK.1 ah).1
 have am:E.ownBlock=none\/E.ownBlock≠some b:=by
  cases M:E.ownBlock with
  |none=>exact .inl rfl
  |some g=>
   refine .inr (fun e=> ?_);have:=(aj.lt g M).1
   cases e
   omega
 have ab:F.heap[b]? =some (.cells (icells R Y U u G E) 284 (0,0)):=by
  rw[O.block b (by simp;omega) (fun e=>by rcases am with h|h;rw[h]at e;cases e;exact h e.symm)];exact(Below.heap_alloc w _ b ak).trans ah
 have Z:∀g,g<w.heap.size->E.ownBlock≠some g->F.heap[g]? =w.heap[g]? :=fun g H ar=>by
  rw[O.block g (by simp;omega) (fun e=>ar e.symm)];exact Below.heap_alloc w _ g H
 have al:=O.size;simp only[World.size_alloc]at al aa;have I:=Ad F b 3 v'
 have av:v'.ownBlock=none\/v'.ownBlock≠some b:=by
  cases M:v'.ownBlock with
  |none=>exact .inl rfl
  |some g=>
   refine .inr (fun e=> ?_);have:=(ag.lt g M).1
   cases e
   omega
 have ao:F.ownsRow (b+1) 5 1 G u.out.length (u8s u.out):=Au T (fun g H=>Z g (T.lt g H).2 (fun e=>by
  rcases ai with h|h
  . rw[h]at H;cases H
  . exact h (by rw[H];exact e.symm)))
 have as:G.ownBlock=none\/G.ownBlock≠some b:=by
  cases M:G.ownBlock with
  |none=>exact .inl rfl
  |some g=>
   refine .inr (fun e=> ?_);have:=(T.lt g M).1
   cases e
   omega
 refine⟨Ac ab,frozen_of_row F b 3 _ _ ab,⟨ap,ac,G,v', ?_,ao.kept I as, ?_, ?_,au, ?_⟩, ?_, ?_⟩
 . rw[heap_setCell_same F b 3 _ _ _ ab];rfl
 . have:=ag.kept I av
   show (F.setCell ⟨b,3,none⟩ v').ownsRow (b+1) 3 1 v' (u.ks++ [c]).length (i64s (u.ks++ [c]))
   rw[Z4z,VE];exact this
 . rcases aa with h|h
   . rw[h];exact ai
   . cases M:G.ownBlock with
     |none=>exact .inl rfl
     |some g=>
      refine .inr (fun e=> ?_);rw[h]at e;have:=(T.lt g M).2
      have:=VM e
      omega
 . intro g H
   rcases aa with h|h
   . exact ae g (by rw[<-h];exact H)
   . rw[h]at H;have:=VM H
     exact aq g (by omega)
 . refine⟨I.os.trans (O.os.trans rfl),I.tape.trans (O.tape.trans rfl),I.output.trans (O.output.trans rfl),by have:=I.size;omega, ?_⟩;intro g H;rw[I.block g (by omega) (fun e=>by simp at e;omega),Z g (by omega) (fun e=>by have:=(aj.lt g e).1;omega)]
 . intro g an af;rw[I.block g (by omega) (fun e=>by simp at e;subst e;exact ac af),Z g an (fun e=>ae g e af)]
theorem H7 (x:Int)(u:US):(Am x u).ks=u.ks:=by unfold Am;split<;>rfl
theorem Z4w (c:Nat)(u:US):(Fd c u).ks=u.ks:=by
 unfold Fd
 split
 . split<;>rfl
 . rfl
theorem I0 (row:List Bool):∀(k:Nat) (u:US),(ustore row k u).ks=u.ks
 |0,u=>rfl
 |k+1,u=>by
  unfold ustore
  split
  . rw[I0 row k,Z4w,Ic]
  . rfl
theorem GJ (row:List Bool)(u:US):(Cj row u).ks=u.ks:=by
 have E:(Cl row u).2.ks=u.ks:=by
  unfold Cl;dsimp only
  split
  . rw[H7,Ic,Ic]
  . rw[Ic,Ic]
 unfold Cj;dsimp only
 split
 . rw[H7,E]
 . rw[I0,E]
theorem Sx (No:Nat->Prop)(B b:Nat)(a:Option Addr)(n O:Nat)(bs:List Nat)(M I:Value)(u:US)(w:World)(h:IIs No B w b (.slice a n O) M I u)(ai:Rd w No a n bs)(ac:u.p<=8*n)(af:u.e=0)(as:u.out.length<=3000)(am:u.ks.length<=48000)(Y:∀g,w.heap.size<=g->¬No g)(a6:B<=b)(V:US)(T:Hid (Cj (rowB bs n) u=V)):
 Calls Tryz.prog 231 #[.pointer (some ⟨b,0,none⟩),.int .i64 0] w fun e w'=>Got No B w b (.slice a n O) M I (.tuple #[]) (if V.e=0 then ukept 0 V else V) e w':=by
 have bf:=Ab (EU No B b a n O bs M I u w h ai ac af as Y a6 V T);have ay:V.ks.length<=48000:=by rw[<-Aa T,GJ];exact am
 have az:=Ab Y;obtain⟨a1,a7,a5,a2,bb⟩:=info_parts Bv;obtain⟨an,ab⟩:=exq ((if V.e=0 then ukept 0 V else V));rw[ab];have aq:=Ab ab;clear h ai ac af as am Y T ab;go_enter Tryz.func231,Tryz.ntmps231
 go_wp2_with fail
 refine(Aa bf).mono ?_;rintro e be ap
 rcases ap with ⟨e0,rfl,G⟩|⟨e0,rfl,ag⟩
 rotate_left
 . have E:Hid (an=V):=Ab (by rw[<-Aa aq,if_neg e0]);have aw:=Ab ag;clear ag;go_wp2;exact⟨rfl,.inr ⟨by rw[Aa E];exact e0,by rw[Aa E],Aa aw⟩⟩
 have E:Hid (an= {V with ks:=V.ks++ [0]}):=Ab (by rw[<-Aa aq,if_pos e0];rfl);have a8:=Ab G;have F:=G.is;have bt:=G.below.size;have bv:=F.lt;obtain⟨bq,bm,a3,bu,ak,aj,Z,ao,ae,ah⟩:=F.rows;obtain⟨L,aa⟩:=exq (V.ks.length);have H:=Z;rw[aa]at H ay;obtain⟨bj,bw,rfl⟩:=An H;have ax:=Ab H;have al:=Ab F;have bd:=Ab ak;have bg:=Ab aj;have bi:=Ab Z;have ba:=Ab ao;have a4:=Ab ae;have a0:=Ab ah;have bh:=Ab aa;clear G F ak aj Z ao ae ah H aa a3;go_wp2_with (at_builtin;refine wpList_append_own_at _ rfl _ _ 76 rfl (b+1) 3 a1 (.int .i64 0) 1 8 Tryz.underlying76 a7 a5 a2 bb rfl (by decide) _ L (i64s V.ks) rfl ((Aa ax).alloc _) ⟨be.heap.size,0,none⟩ 1 1 [.int .i64 ((0:Nat):Int)] rfl rfl (cell_one_new _ _ _) (Bc rfl) (by unfold maxLen;omega) (by omega) (by simp;omega) ?_)
 intro v' bz U au _ av;obtain⟨bk,b0,a9,_,_⟩:=Ba U (by omega);obtain⟨bo,bn,ar⟩:=IIs.kept (c:=0) (v':=v') (Aa al).base (Aa al).no (Aa bd) (Aa bg) (Aa bi) (Aa ba) (Aa a4) (Aa a0) (fun g ap=>Aa az g (by omega)) (by rw[Aa bh];exact U) au (by simpa using av);have bc:=Ab ((Aa a8).trans ar);subst a9;clear ar U au av;go_wp2;go_end0
 exact .inl ⟨by rw[Aa E];exact e0,rfl,by rw[Aa E];exact Aa bc⟩
end Go.Proofs.YtleocpdblhbimaaGreatDoor
