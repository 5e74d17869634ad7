import Derived.Test.YtleocpdblhbimaaGreatDoorQ24
import Derived.Maps.AppendAt
set_option linter.unusedSimpArgs false
set_option maxHeartbeats 8000000
namespace Go.Proofs.YtleocpdblhbimaaGreatDoor
open Go.RowKit
set_option linter.unusedVariables false
set_option maxRecDepth 100000
theorem Rk.aside {No:Nat->Prop}{B b:Nat}{w F I:World}{R O M:Value}{u:US}{r:Option Nat}(E:Rk No B w b R O M u F)(G:F.grownBy I r)(H:∀g,r=some g->w.heap.size<=g)(af:∀g,w.heap.size<=g->¬No g)(ah:b<w.heap.size):Rk No B w b R O M u I:=by
 have ai:=E.bl.below.size;obtain⟨ov,kv,ae,Z,Y,ag,aa,T⟩:=E.is.ex
 have U:∀ {e size n:Nat} {z:Value} {xs:List Value},F.ownsRow (b+1) e size z n xs->(∀g,z.ownBlock=some g->¬NJ No w.heap.size g)->∀g,z.ownBlock=some g->I.heap[g]? =F.heap[g]? :=fun {e size n z xs} ho hz g hg2=>
  G.block g (ho.lt g hg2).2 (fun e=>hz g hg2 (.inr (H g e.symm)))
 refine⟨⟨E.is.base,E.is.no,ov,kv,(G.block b E.is.lt (fun e=> ?_)).trans ae,Au Z (U Z aa),Au Y (U Y T),ag,aa,T⟩,E.bl.trans ⟨(Below.refl B F).grown G (VU E.is.base (YX E.is.lt)) (fun g e=>by have:=H g e;have:=E.is.base;omega),fun g ab ac=>G.block g ab (fun e=>af g (H g e.symm) ac)⟩⟩;have:=H b e.symm
 omega
theorem Rk.step {No:Nat->Prop}{B b:Nat}{w F G:World}{R I H g1 g2:Value}{u v:US}(E:Rk No B w b R I H u F)(k:Rk (NK No w.heap.size F.heap.size) B F b R g1 g2 v G):Rk No B w b R g1 g2 v G:=by
 have O:=E.bl.below.size;refine⟨k.is.weak (fun g M=> ?_),E.bl.trans (k.bl.weaken (fun _ E=>.inl E))⟩
 rcases M with e|e
 . exact .inl (.inl e)
 . by_cases c:g<F.heap.size
   . exact .inl (.inr ⟨e,c⟩)
   . exact .inr (by omega)
theorem Rk.inner {No:Nat->Prop}{B b:Nat}{w E:World}{R G F:Value}{u:US}(I:Rk No B w b R G F u E):IIs (NK No w.heap.size E.heap.size) B E b R G F u:=I.is.weak (fun g H=>by
 rcases H with e|e
 . exact .inl e
 . exact .inr e.1)
theorem Rk.sym {No:Nat->Prop}{B b:Nat}{w F I:World}{R H G:Value}{u v:US}(E:Rk No B w b R H G u F)(k:IUp (NK No w.heap.size F.heap.size) B F b R H G v I)(hK:Mx b F I):Rk No B w b R H G v I:=⟨E.is.back k.is hK,E.bl.trans (k.bl.weaken (fun _ E=>.inl E))⟩
def Z9d:Value->Nat
 | .slice _ n _=>n
 |_=>0
theorem Z0g {w:World}{B e H n I c:Nat}{xs:List Value}(G:w.ownsRow B e H (.slice (some ⟨I,0,none⟩) n c) n xs):n<=c:=by
 rcases G.2 with ⟨E,_⟩|⟨M,cap,cur,E,T,O,F⟩
 . cases E
 . cases E
   exact F.1
theorem Xh {w:World}{B n:Nat}{v:Value}{xs:List Int}(E:w.ownsRow B 3 1 v n (iv xs)):∃a c,v=.slice a n c/\xs.length=n/\RowIn .i64 w a xs/\∀g o,a=some ⟨g,o,none⟩->xs≠ []->B<=g:=by
 have hn:xs.length=n:=by have:=E.1;simpa using this
 rcases E.2 with ⟨G,F⟩|⟨g,cap,cur,G,F,M⟩
 . subst F;exact⟨none,0,G,hn,.inl (WV hn),fun g o e=>by cases e⟩
 . subst G;refine⟨_,_,rfl,hn,.inr ⟨g,0,rfl,(E.lt g rfl).2,fun j H=> ?_⟩,fun I o e _=>by cases e;exact F⟩;rw[WG,E.cellAt j (by omega)];simp[iv,List.getD,H]
theorem X9 (No:Nat->Prop)(B b:Nat)(a:Option Addr)(n T:Nat)(bs:List Nat)(O I:Value)(u:US)(w:World)(U:IIs No B w b (.slice a n T) O I u)(a9:Rd w No a n bs)(bj:u.p<=8*n)(bo:u.e=0)(a5:∀g,w.heap.size<=g->¬No g)(al ak ar bt:Nat)(S:List Int)(aw:DIs w al ak ar bt b S)(bm:Good S)(ah:No al/\No ak/\No ar)(d1:S.length=19)(tot:Nat)(dz:tot<=400)(L:List Int)(v:US)(c5:Hid (ulens (rowB bs n) S tot tot [] u=(L,v))):
 Calls Tryz.prog 271 #[.pointer (some ⟨b,0,none⟩),DV al ak,.int .i64 (tot:Int)] w fun e w'=>(v.e≠0/\e=Flt v.e/\Bl No B w w')\/ (v.e=0/\Rk No B w b (.slice a n T) O I v w'/\∃b4,e=.returned b4/\w'.ownsRow w.heap.size 3 1 b4 L.length (iv L)/\L.length=tot):=by
 have bn:=Af bs n;have c7:=U.lt;obtain⟨cu,de,cz,cv,di⟩:=info_parts Bv;have db:=Ab (Rk.refl U);have dd:=Ab (And.intro bo bj);have cq:=Ab a5;have cg:Hid (∀wr,Bl No B w wr->Rd wr (NJ No w.heap.size) a n bs/\Rd wr (NK No w.heap.size wr.heap.size) a n bs):=Ab (fun wr hb=>⟨(a9.keep hb.below.size hb.kp).wide (fun _ U=>.inl U),(a9.keep hb.below.size hb.kp).wide (fun _ U=>.inl U)⟩)
 have ck:Hid (∀wr x k y,Rk No B w b (.slice a n T) O I x wr->x.p<=8*n->x.e=0->uplace S (rowB bs n) x=(k,y)->Calls Tryz.prog 281 #[.pointer (some ⟨al,0,none⟩),.pointer (some ⟨ak,0,none⟩)] wr fun e w'=>GotK (NK No w.heap.size wr.heap.size) B wr b (.slice a n T) O I (.int .i64 (k:Int)) y e w'):=Ab (fun wr x k y ac ab ag a7=>by
  have l1:=aw.lt;have l2:=aw.is.lt;have cm:=ac.bl.below.size
  exact BI (NK No w.heap.size wr.heap.size) B b a n T bs O I x wr ac.inner (Aa cg wr ac.bl).2 ab ag al ak ar bt S (aw.keep cm (ac.bl.kp al l1.1 ah.1) (ac.bl.kp ak l1.2 ah.2.1) (ac.bl.kp ar l2 ah.2.2)) bm ⟨.inl ah.1,.inl ah.2.1,.inl ah.2.2⟩ (fun g aa e=>by
   rcases e with e|e
   . exact a5 g (by omega) e
   . omega) k y (Ab a7))
 have dl:Hid (∀wr x (ao:Option Addr) (M az:Nat) (l:List Int) k E t y,Rk No B w b (.slice a n T) O I x wr->x.p<=8*n->x.e=0->l.length=M->M<=1000->RowIn .i64 wr ao l->(∀g o,ao=some ⟨g,o,none⟩->l≠ []->w.heap.size<=g)->k<19->ukind (rowB bs n) l k x=(E,t,y)->Calls Tryz.prog 282 #[.pointer (some ⟨b,0,none⟩),.int .i64 (k:Int),.slice ao M az] wr fun e w'=>Got (NJ No w.heap.size) B wr b (.slice a n T) O I (.tuple #[.int .i64 E,.int .i64 (t:Int)]) y e w'):=Ab (fun wr x ao M az l k E t y ac ab ag a7 dq co dr da ax=>
  Z3v (NJ No w.heap.size) B b a n T bs O I x wr ac.is (Aa cg wr ac.bl).1 ab ag ao M az l a7 dq co (fun g o Y e2=>.inr (dr g o Y e2)) k da E t y (Ab ax))
 clear U a9 bj bo a5 aw bm ah;go_enter Tryz.func271,Tryz.ntmps271
 go_wp2;go_loopw [7] (fun an wr=>∃(l:List Int) (F:Nat) (x:US),Hid (ulens (rowB bs n) S tot F l x=(L,v))/\Hid (tot<=l.length+F)/\Hid (l.length<=tot)/\Hid (x.e=0/\x.p<=8*n)/\Hid (Rk No B w b (.slice a n T) O I x wr)/\Hid (wr.ownsRow w.heap.size 3 1 an l.length (iv l))) (fun an _=>1000-Z9d an)
 case atStart=>exact⟨[],tot,u,c5,Ab (by simp),Ab (by simp),dd,db,Ab (World.ownsRow_nil _ _ _ _)⟩
 case round=>
  obtain⟨l,F,x,au,bb,be,cp,hK,ae⟩:=hrel;obtain⟨bw,cj,rfl,bc,ds,c6⟩:=Xh (Aa ae);obtain⟨M,ai⟩:=exq (l.length);have ap:=Ab ai;rw[ai]at bb be ae ⊢;have cy:=Aa bb;have dv:=Aa be;obtain⟨a0,cl⟩:=Aa cp;clear bb be bc
  by_cases b3:M<tot
  . cases F with
    |zero=>exact absurd cy (by omega)
    |succ F=>
     have af:=Aa au;rw[ulens,if_pos ⟨by rw[ai];exact b3,a0⟩]at af;obtain⟨k,Z,ab⟩:∃k Z,uplace S (rowB bs n) x=(k,Z):=⟨_,_,rfl⟩
     unfold ustep at af;rw[ab]at af;obtain⟨E,t,G,ag⟩:∃E t G,ukind (rowB bs n) l k Z=(E,t,G):=⟨_,_,_,rfl⟩
     simp only at af
     rw[ag]at af;have aj:=Ab af;have bz:=Ab (Aa ck wr x k Z (Aa hK) cl a0 ab)
     have dn:Z.p<=8*n:=by
      have:=Ix S (rowB bs n) x (by omega)
      rw[ab,bn]at this;exact this
     have c9:=Ab ab;have aq:=Ab ag;have dc:(M:Int)<(tot:Int):=by omega
     clear af ab ag au ai;go_wp2_with fail
     refine(Aa bz).mono ?_;rintro e ce aa
     rcases aa with ⟨Y,rfl,a2,b5⟩|⟨Y,rfl,cd⟩
     rotate_left
     . have H:Hid (v=Z):=Ab (by
        have e2:G=Z:=by have:=KI (rowB bs n) l k Z Y;rw[Aa aq]at this;exact this
        have e3:=Zl tot l (E,t,G) (by rw[show (E,t,G).2.2=G from rfl,e2];exact Y);have:=Aa aj
        rw[Js (by rw[e3,show (E,t,G).2.2=G from rfl,e2];exact Y)]at this;rw[<-(VN this).2,e3];exact e2)
       have a1:=Ab ((Aa hK).bl.trans (cd.weaken (fun _ U=>.inl U)));clear cd;go_wp2;exact⟨rfl,.inl ⟨by rw[Aa H];exact Y,by rw[Aa H],Aa a1⟩⟩
     have dm:k<19:=by
      have:=(Cn (Aa c9) Y).2.2.2.2.2
      omega
     have ay:=Ab ((Aa hK).sym a2 b5);have am:Hid (ce.ownsRow w.heap.size 3 1 (.slice bw M cj) M (iv l)):=Ab (Au (Aa ae) (fun g aa=>a2.kp g ((Aa ae).lt g aa).2 (.inr ⟨((Aa ae).lt g aa).1,((Aa ae).lt g aa).2⟩)));obtain⟨bf,bd,ci,bc,bq,bu⟩:=Xh (Aa am);obtain⟨rfl,rfl⟩:bf=bw/\bd=cj:=by cases ci;exact⟨rfl,rfl⟩
     have bk:=Ab (Aa dl ce Z bf M bd l k E t G (Aa ay) dn Y bc (by omega) bq bu dm (Aa aq));have av:=Zn (rowB bs n) l k Z;rw[Aa aq]at av;have dw:1<=t:=av.1;have d4:t<=138:=av.2
     have bi:G.e=0->G.p<=8*n:=fun e=>by
      have:=(KH (row:=rowB bs n) (l:=l) (k:=k) (u:=Z) (by rw[Aa aq];exact e) (by omega)).2.1
      rw[Aa aq,bn]at this;exact this
     have dp:=Ab bi;clear a2 b5 ds c6 bq bu av bi ci ae hK bz;go_wp2_with fail
     refine(Aa bk).mono ?_;rintro e bv aa
     rcases aa with ⟨e2,rfl,ba⟩|⟨e2,rfl,bg⟩
     rotate_left
     . have H:Hid (v=G):=Ab (by
        have e3:=Zl tot l (E,t,G) e2;have:=Aa aj
        rw[Js (by rw[e3];exact e2)]at this;rw[<-(VN this).2,e3])
       have a1:=Ab ((Aa ay).bl.trans (bg.weaken (fun _ U=>.inl U)));clear bg;go_wp2;exact⟨rfl,.inl ⟨by rw[Aa H];exact e2,by rw[Aa H],Aa a1⟩⟩
     have b9:=Ab ((Aa ay).num ba);have c3:Hid (bv.ownsRow w.heap.size 3 1 (.slice bf M bd) M (iv l)):=Ab (Au (Aa am) (fun g aa=>ba.kp g ((Aa am).lt g aa).2 (.inr ((Aa am).lt g aa).1)));clear ba am ay bk
     by_cases b8:tot<M+t
     . have H:Hid (v.e=8):=Ab (by
        have:=Aa aj
        unfold Td at this;rw[if_pos ⟨e2,by rw[Aa ap];exact b8⟩]at this;have ax:(Am 8 G).e=8:=by unfold Am;rw[if_pos e2]
        rw[Js (by show (Am 8 G).e≠0;rw[ax];decide)]at this;rw[<-(VN this).2];exact ax)
       have cn:(tot:Int)<(M:Int)+(t:Int):=by omega
       have ct:=Ab (Cf 8 bv);clear aj;go_wp2_with fail
       refine(Aa ct).mono ?_;rintro e w3 ⟨rfl,rfl⟩;go_wp2;exact⟨rfl,.inl ⟨by rw[Aa H];decide,by rw[Aa H],(Aa b9).bl⟩⟩
     . have cn:¬(tot:Int)<(M:Int)+(t:Int):=by omega
       have df:Hid (ulens (rowB bs n) S tot F (l++List.replicate t E) G=(L,v)):=Ab (by
        have:=Aa aj
        unfold Td at this;rw[if_neg (fun c=>b8 (by rw[<-Aa ap];exact c.2))]at this;exact this)
       clear aj;generalize wr=d2 at*;go_wp2;go_loopw [7,30] (fun an a3 wr=>∃j:Nat,j<=t/\a3=.int .i64 (j:Int)/\Hid (Rk No B w b (.slice a n T) O I G wr)/\Hid (wr.ownsRow w.heap.size 3 1 an (M+j) (iv (l++List.replicate j E)))) (fun _ a3 _=>t-(intOf a3).toNat)
       case atStart=>exact⟨0,VH _,rfl,b9,Ab (by rw[ZI,XA];exact Aa c3)⟩
       case round=>
        obtain⟨j,d3,rfl,a6,as⟩:=hrel;obtain⟨cw,dt,rfl⟩:=An (Aa as)
        by_cases dx:j<t
        . have du:(j:Int)<(t:Int):=by omega
          have d6:=(Aa a6).bl.below.size;go_wp2_with (at_builtin;refine wpList_append_own_at _ rfl _ _ 76 rfl w.heap.size 3 cu (.int .i64 0) 1 8 Tryz.underlying76 de cz cv di rfl (by decide) _ (M+j) (iv (l++List.replicate j E)) rfl ((Aa as).alloc _) ⟨wr.heap.size,0,none⟩ 1 1 [.int .i64 E] rfl rfl (cell_one_new _ _ _) (Bc rfl) (by unfold maxLen;omega) (by omega) (by simp;omega) ?_)
          intro v' ch a4 b7 _ dj;have c4:Hid (Rk No B w b (.slice a n T) O I G ch):=Ab (((Aa a6).past ((Below.refl _ _).alloc (VB _) _)).aside b7 (fun g e=>((Aa as).lt g e).1) (Aa cq) c7)
          have dh:Hid (ch.ownsRow w.heap.size 3 1 v' (M+(j+1)) (iv (l++List.replicate (j+1) E))):=Ab (by
           have Y:iv (l++List.replicate (j+1) E)=List.map (Value.int .i64) l++(List.replicate j (.int .i64 E)++ [.int .i64 E]):=by
            rw[YY];simp[iv]
           rw[Y];exact a4)
          obtain⟨dy,d5,rfl⟩:=An a4;clear a4 b7 dj;go_wp2;go_roundw
          case rel=>exact⟨j+1,by omega,by go_num,c4,dh⟩
          case measure=>simp[intOf];omega
        . obtain rfl:j=t:=by omega
          have a8:(l++List.replicate j E).length=M+j:=by rw[VE,XD,Aa ap]
          have dg:Hid (wr.ownsRow w.heap.size 3 1 (.slice cw (M+j) dt) (l++List.replicate j E).length (iv (l++List.replicate j E))):=Ab (by rw[a8];exact Aa as);have b0:=Ab a8;clear a8;go_wp2;go_roundw
          case rel=>exact⟨l++List.replicate j E,F,G,df,Ab (by rw[Aa b0];omega),Ab (by rw[Aa b0];omega),Ab ⟨e2,Aa dp e2⟩,a6,dg⟩
          case measure=>show 1000-(M+j)<1000-M;omega
  . have H:Hid (L=l/\v=x):=Ab (by
     have:=Aa au
     cases F with
     |zero=>exact⟨(VN this).1.symm,(VN this).2.symm⟩
     |succ F=>
      rw[ulens,if_neg (fun c=>b3 (by rw[<-ai];exact c.1))]at this;exact⟨(VN this).1.symm,(VN this).2.symm⟩)
    have dc:¬(M:Int)<(tot:Int):=by omega
    have bh:M=tot:=by omega
    have c8:=Ab bh;clear au ai bh;go_wp2;go_ret;refine .inr ⟨by rw[(Aa H).2];exact a0,by rw[(Aa H).2];exact Aa hK,_,rfl, ?_, ?_⟩
    . rw[(Aa H).1,Aa ap];exact Aa ae
    . rw[(Aa H).1,Aa ap];exact Aa c8
theorem Fq:(Tryz.prog.info? 282).map (·.size)=some 2:=by kernel_rfl
theorem Te {I:Array Oper}{o:Oper}{a:Act}{W:World}{K:Act->World->Prop}{Q:Exit->Act->World->Prop}{E:Prop}(aa:o.guard=none)(T:TypeId)(x y:Operand)(ab:o.op=.store T x y)
 (G:Nat) (F H:Array Value) (O:a.eval x=.pointer (some ⟨G,0,none⟩)) (ac:a.eval y=.agg F) (M:W.heap[G]? =some (.cells H T (0,0))) (U:(Tryz.prog.info? T).map (·.size)=some F.size) (Y:H.size=F.size) (ae:F.all (·.oneCell')=true) (Z:K (a.put o.dst undef) (W.setRow G F)):if Region.wanted o (yielded I a.tmps)=true then Oper.wp Tryz.prog o a W K Q else E:=by
 have e:Region.wanted o (yielded I a.tmps)=true:=by unfold Region.wanted;rw[aa]
 rw[if_pos e];exact wp_store_row T x y ab G F O ac T H M U Y ae Z
theorem Nz (w:World)(E:Nat)(F:Array Value):w.grownBy (w.setRow E F) (some E):=by
 have hb:=Bg (Below.refl 0 w) (VH E) F;exact⟨hb.os,hb.tape,hb.output,hb.size,fun H _ G=>Go.setRow_other _ _ _ _ (fun e=>G (by rw[e]))⟩
theorem EE (row:List Bool)(u u1 u2 u3:US)(F H G:Nat)(g1:uget row 5 u=(F,u1))(g2:uget row 5 u1=(H,u2))(I:uget row 4 u2=(G,u3))(E:u3.e≠0):(Db row u).2=u3:=My row u u1 u2 u3 F H G g1 g2 I u3 E (by
 split
 . rw[Ua 8 u3 E];exact Jr _ _ _ _ E
 . exact Jr _ _ _ _ E)
theorem KB (row:List Bool)(u u1 u2 u3 E:US)(F H G:Nat)(S:List Int)(g1:uget row 5 u=(F,u1))(g2:uget row 5 u1=(H,u2))(T:uget row 4 u2=(G,u3))(Z:F+257<=286)(aa:H+1<=30)(Y:usmall row (ord19.take (G+4)) (List.replicate 19 0) u3=(S,E))(I:E.e=0)(M:errL S≠0):(Db row u).2= {E with e:=8}:=by
 have O:Gk row (F+257) (H+1) (G+4) u3=(S,E):=by
  unfold Gk;rw[if_neg (by omega)];exact Y
 have U:Qa (S,E)= {E with e:=8}:=by
  unfold Qa Am;rw[if_pos ⟨I,M⟩,if_pos I]
 unfold Db;simp only[g1,g2,T];rw[O];unfold Ke;rw[U,if_pos (by exact(by decide:(8:Int)≠0))]
theorem EF (row:List Bool)(u u1 u2 u3:US)(E F G:Nat)(g1:uget row 5 u=(E,u1))(g2:uget row 5 u1=(F,u2))(O:uget row 4 u2=(G,u3))(I:u3.e=0)(H:286<E+257\/30<F+1):(Db row u).2= {u3 with e:=8}:=My row u u1 u2 u3 E F G g1 g2 O _ (by exact(by decide:(8:Int)≠0)) (by
 rw[if_pos H];have M:Am 8 u3= {u3 with e:=8}:=by unfold Am;rw[if_pos I]
 rw[M];exact Jr _ _ _ _ (by exact(by decide:(8:Int)≠0)))
def Z8r (No:Nat->Prop)(B:Nat)(w:World)(b:Nat)(R f1 f2:Value)(A C:List Int)(v:US)(e:Ending)(w':World):Prop:=
 (v.e≠0/\e=Flt v.e/\Bl No B w w')\/ (v.e=0/\Rk No B w b R f1 f2 v w'/\Good A/\Good C/\∃g1 m1 b1 n1 g2 m2 b2 n2,e=.returned (.agg #[DV g1 m1,DV g2 m2])/\DIs w' g1 m1 b1 n1 b A/\DIs w' g2 m2 b2 n2 b C/\(w.heap.size<=g1/\w.heap.size<=m1/\w.heap.size<=b1)/\(w.heap.size<=g2/\w.heap.size<=m2/\w.heap.size<=b2))
theorem D4 (No:Nat->Prop)(B b:Nat)(a:Option Addr)(n G:Nat)(bs:List Nat)(I H:Value)(u:US)(w:World)(E:IIs No B w b (.slice a n G) I H u)(b8:Rd w No a n bs)(de:u.p<=8*n)(aa:u.e=0)(b7:∀g,w.heap.size<=g->¬No g)(A C:List Int)(v:US)(b9:Hid (Db (rowB bs n) u=((A,C),v))):
 Calls Tryz.prog 252 #[.pointer (some ⟨b,0,none⟩)] w fun e w'=>Z8r No B w b (.slice a n G) I H A C v e w':=by
 have a6:=Af bs n;have ee:=E.lt;have ce:=Ab (Rk.refl E)
 have cn:Hid (∀wr:World,w.heap.size<=wr.heap.size->∀g,wr.heap.size<=g->¬NK No w.heap.size wr.heap.size g):=Ab (fun wr ff g ae e=>by
  rcases e with e|e
  . exact b7 g (by omega) e
  . omega)
 have d8:=Ab b7;have a0:Hid (∀wr:World,Bl No B w wr->Rd wr (NJ No w.heap.size) a n bs/\Rd wr (NK No w.heap.size wr.heap.size) a n bs):=Ab (fun wr hb=>⟨(b8.keep hb.below.size hb.kp).wide (fun _ E=>.inl E),(b8.keep hb.below.size hb.kp).wide (fun _ E=>.inl E)⟩);obtain⟨m0,u1,ai⟩:∃r y,uget (rowB bs n) 5 u=(r,y):=⟨_,_,rfl⟩
 obtain⟨n0,u2,ag⟩:∃r y,uget (rowB bs n) 5 u1=(r,y):=⟨_,_,rfl⟩
 obtain⟨c0,u3,T⟩:∃r y,uget (rowB bs n) 4 u2=(r,y):=⟨_,_,rfl⟩
 have eu:u1.p<=8*n:=by have:=Gr (rowB bs n) 5 u (by omega);rw[ai,a6]at this;exact this
 have ek:u2.p<=8*n:=by have:=Gr (rowB bs n) 5 u1 (by omega);rw[ag,a6]at this;exact this
 have d6:u3.p<=8*n:=by have:=Gr (rowB bs n) 4 u2 (by omega);rw[T,a6]at this;exact this
 have l1:m0<32:=by have:=SD (rowB bs n) 5 u;rw[ai]at this;exact this
 have l2:n0<32:=by have:=SD (rowB bs n) 5 u1;rw[ag]at this;exact this
 have fp:c0<16:=by have:=SD (rowB bs n) 4 u2;rw[T]at this;exact this
 have a5:Hid (v=(Db (rowB bs n) u).2):=Ab (by rw[Aa b9]);have bh:Hid (u3.e≠0->v=u3):=Ab (fun e=>by rw[Aa a5];exact EE (rowB bs n) u u1 u2 u3 m0 n0 c0 ai ag T e)
 have bu:Hid (u1.e≠0->u3=u1):=Ab (fun e=>by
  have Z:u2=u1:=by have:=Fj (rowB bs n) 5 u1 e;rw[ag]at this;exact this
  have a4:u3=u2:=by have:=Fj (rowB bs n) 4 u2 (by rw[Z];exact e);rw[T]at this;exact this
  rw[a4,Z])
 have bz:Hid (u2.e≠0->u3=u2):=Ab (fun e=>by have:=Fj (rowB bs n) 4 u2 e;rw[T]at this;exact this);have bt:Hid (u3.e=0->(286<m0+257\/30<n0+1)->v= {u3 with e:=8}):=Ab (fun e e8=>by rw[Aa a5];exact EF (rowB bs n) u u1 u2 u3 m0 n0 c0 ai ag T e e8);have di:Hid (∀W,Rk No B w b (.slice a n G) I H u W->Calls Tryz.prog 230 #[.pointer (some ⟨b,0,none⟩),.int .i64 5] W fun e w'=>Got (NJ No w.heap.size) B W b (.slice a n G) I H (.int .i64 (m0:Int)) u1 e w'):=Ab (fun W O=>Dx (NJ No w.heap.size) B b a n G 5 bs I H u W O.is (Aa a0 W O.bl).1 de aa (by decide) m0 u1 (Ab ai));have df:Hid (∀W,u1.e=0->Rk No B w b (.slice a n G) I H u1 W->Calls Tryz.prog 230 #[.pointer (some ⟨b,0,none⟩),.int .i64 5] W fun e w'=>Got (NJ No w.heap.size) B W b (.slice a n G) I H (.int .i64 (n0:Int)) u2 e w'):=Ab (fun W aa O=>Dx (NJ No w.heap.size) B b a n G 5 bs I H u1 W O.is (Aa a0 W O.bl).1 eu aa (by decide) n0 u2 (Ab ag));have dr:Hid (∀W,u2.e=0->Rk No B w b (.slice a n G) I H u2 W->Calls Tryz.prog 230 #[.pointer (some ⟨b,0,none⟩),.int .i64 4] W fun e w'=>Got (NJ No w.heap.size) B W b (.slice a n G) I H (.int .i64 (c0:Int)) u3 e w'):=Ab (fun W aa O=>Dx (NJ No w.heap.size) B b a n G 4 bs I H u2 W O.is (Aa a0 W O.bl).1 ek aa (by decide) c0 u3 (Ab T));obtain⟨S,us,aj⟩:∃S us,usmall (rowB bs n) (ord19.take (c0+4)) (List.replicate 19 0) u3=(S,us):=⟨_,_,rfl⟩
 have dz:Hid (∀W,u3.e=0->Rk No B w b (.slice a n G) I H u3 W->Calls Tryz.prog 272 #[.pointer (some ⟨b,0,none⟩),.int .i64 (4+(c0:Int))] W fun e w'=>Z7j (NK No w.heap.size W.heap.size) B W b (.slice a n G) I H S us e w'):=Ab (fun W aa O=>by
  have:=Ns (NK No w.heap.size W.heap.size) B b a n G bs I H u3 W O.inner (Aa a0 W O.bl).2 d6 aa (Aa cn W O.bl.below.size) (c0+4) (by omega) S us (Ab aj)
  rw[show ((c0+4:Nat):Int)=4+(c0:Int) by omega]at this;exact this)
 have dd:S.length=19:=by have:=Uc (row:=rowB bs n) (ks:=ord19.take (c0+4)) (s:=List.replicate 19 0) (u:=u3);rw[aj]at this;simpa using this
 have cz:∀x∈S,0<=x/\x<=7:=by have:=Px (row:=rowB bs n) (ord19.take (c0+4)) (List.replicate 19 0) u3 (by intro x am;rw[List.eq_of_mem_replicate am];decide);rw[aj]at this;exact this
 have cw:Hid (errL S≠0->errL S=8):=Ab (fun e=>by
  rcases Z2 S (by omega) (fun x am=>by have:=cz x am;omega)with E|E
  . exact absurd E e
  . exact E)
 have dg:Hid (286<m0+257\/30<n0+1\/ (us.e≠0->v=us)/\(us.e=0->errL S≠0->v= {us with e:=8})):=Ab (by
  by_cases ak:286<m0+257
  . exact .inl ak
  . by_cases Z:30<n0+1
    . exact .inr (.inl Z)
    . refine .inr (.inr ⟨fun e=> ?_,fun ab e2=> ?_⟩)
      . rw[Aa a5];exact My (rowB bs n) u u1 u2 u3 m0 n0 c0 ai ag T us e (by rw[if_neg (by omega),aj])
      . rw[Aa a5];exact KB (rowB bs n) u u1 u2 u3 us m0 n0 c0 S ai ag T (by omega) (by omega) aj ab e2)
 obtain⟨L,v',a3⟩:∃L v',ulens (rowB bs n) S (m0+257+(n0+1)) (m0+257+(n0+1)) [] us=(L,v'):=⟨_,_,rfl⟩
 obtain⟨tot,eb⟩:=exq (m0+257+(n0+1))
 have dp:Hid (∀W gr gm mb nn,us.e=0->errL S=0->Rk No B w b (.slice a n G) I H us W->DIs W gr gm mb nn b S->w.heap.size<=gr->w.heap.size<=gm->w.heap.size<=mb->Calls Tryz.prog 271 #[.pointer (some ⟨b,0,none⟩),DV gr gm,.int .i64 (257+(m0:Int)+(1+(n0:Int)))] W fun e w'=>(v'.e≠0/\e=Flt v'.e/\Bl (NK No w.heap.size W.heap.size) B W w')\/ (v'.e=0/\Rk (NK No w.heap.size W.heap.size) B W b (.slice a n G) I H v' w'/\∃cj,e=.returned cj/\w'.ownsRow W.heap.size 3 1 cj L.length (iv L)/\L.length=tot)):=Ab (fun W gr gm mb nn aa d7 O bo ak Z a4=>by
  have r1:=bo.lt;have r2:=bo.is.lt;have eq:us.p<=8*n:=by have:=(Wn (ks:=ord19.take (c0+4)) (s:=List.replicate 19 0) (row:=rowB bs n) (u:=u3) (by rw[aj];exact aa) (by omega)).2.1;rw[aj,a6]at this;exact this
  have:=X9 (NK No w.heap.size W.heap.size) B b a n G bs I H us W O.inner (Aa a0 W O.bl).2 eq aa (Aa cn W O.bl.below.size) gr gm mb nn S bo (Ch d7) ⟨.inr ⟨ak,r1.1⟩,.inr ⟨Z,r1.2⟩,.inr ⟨a4,r2⟩⟩ dd tot (by omega) L v' (Ab (by rw[<-eb];exact a3))
  rw[show ((tot:Nat):Int)=257+(m0:Int)+(1+(n0:Int)) by omega]at this;exact this)
 have cd:Hid (m0+257<=286->n0+1<=30->us.e=0->errL S=0->Gl (m0+257) (L,v')=((A,C),v)):=Ab (fun ak Z a4 em=>by
  rw[<-Aa b9,SQ (rowB bs n) u u1 u2 u3 us m0 n0 c0 S ai ag T ak Z aj a4 em,a3])
 have dw:Hid (v'.e=0->∀x∈L,0<=x/\x<=15):=Ab (fun e=>by
  have:=Uf (row:=rowB bs n) (tot:=m0+257+(n0+1)) dd (m0+257+(n0+1)) [] us (by simp) (by rw[a3];exact e)
  rw[a3]at this;exact this)
 clear E b8 de aa b7 ai ag T aj a3 cz b9;go_enter Tryz.func252,Tryz.ntmps252
 go_wp2_with fail
 refine(Aa di _ ((Aa ce).past ((Below.refl _ _).alloc (VB _) _))).mono ?_;have b0:=Ab ((Aa ce).past ((Below.refl _ _).alloc (VB _) (.cells #[.nilFunc,.nilFunc] 282)));have c3:(w.alloc (.cells #[.nilFunc,.nilFunc] 282)).heap[w.heap.size]? =some (.cells #[.nilFunc,.nilFunc] 282 (0,0)):=heap_alloc_new _ _;have d2:=Ab c3;have eo:w.heap.size<(w.alloc (.cells #[.nilFunc,.nilFunc] 282)).heap.size:=by simp
 clear c3;generalize w.alloc (.cells #[.nilFunc,.nilFunc] 282)=fe at*;rintro e b3 ae
 rcases ae with ⟨ab,rfl,ba⟩|⟨ab,rfl,c6⟩
 rotate_left
 . have F:Hid (v=u1):=Ab (by rw[Aa bh (by rw[Aa bu ab];exact ab),Aa bu ab]);have Y:=Ab ((Aa b0).bl.trans (c6.weaken (fun _ E=>.inl E)));clear c6;go_wp2;exact⟨rfl,.inl ⟨by rw[Aa F];exact ab,by rw[Aa F],Aa Y⟩⟩
 have a8:=Ab ((Aa b0).num ba);have c5:Hid (b3.heap[w.heap.size]? =some (.cells #[.nilFunc,.nilFunc] 282 (0,0))):=Ab ((ba.kp _ eo (.inr (VB _))).trans (Aa d2));have et:w.heap.size<b3.heap.size:=by have:=ba.below.size;omega
 clear ba;go_wp2_with fail
 refine(Aa df b3 ab (Aa a8)).mono ?_;rintro e cg ae
 rcases ae with ⟨e2,rfl,bf⟩|⟨e2,rfl,da⟩
 rotate_left
 . have F:Hid (v=u2):=Ab (by rw[Aa bh (by rw[Aa bz e2];exact e2),Aa bz e2]);have Y:=Ab ((Aa a8).bl.trans (da.weaken (fun _ E=>.inl E)));clear da;go_wp2;exact⟨rfl,.inl ⟨by rw[Aa F];exact e2,by rw[Aa F],Aa Y⟩⟩
 have bi:=Ab ((Aa a8).num bf);have d1:Hid (cg.heap[w.heap.size]? =some (.cells #[.nilFunc,.nilFunc] 282 (0,0))):=Ab ((bf.kp _ et (.inr (VB _))).trans (Aa c5));have ei:w.heap.size<cg.heap.size:=by have:=bf.below.size;omega
 clear bf;go_wp2_with fail
 refine(Aa dr cg e2 (Aa bi)).mono ?_;rintro e w3 ae
 rcases ae with ⟨e3,rfl,a9⟩|⟨e3,rfl,du⟩
 rotate_left
 . have F:Hid (v=u3):=Ab (Aa bh e3);have Y:=Ab ((Aa bi).bl.trans (du.weaken (fun _ E=>.inl E)));clear du;go_wp2;exact⟨rfl,.inl ⟨by rw[Aa F];exact e3,by rw[Aa F],Aa Y⟩⟩
 have an:=Ab ((Aa bi).num a9);have c8:Hid (w3.heap[w.heap.size]? =some (.cells #[.nilFunc,.nilFunc] 282 (0,0))):=Ab ((a9.kp _ ei (.inr (VB _))).trans (Aa d1));have ds:w.heap.size<w3.heap.size:=by have:=a9.below.size;omega
 clear a9;have a1:=Ab (Cf 8 w3)
 by_cases ak:286<m0+257
 . have F:Hid (v= {u3 with e:=8}):=Ab (Aa bt e3 (.inl ak));have d4:(286:Int)<257+(m0:Int):=by omega
   go_wp2_with fail
   refine(Aa a1).mono ?_;rintro e az ⟨rfl,rfl⟩;go_wp2;exact⟨rfl,.inl ⟨by rw[Aa F];exact(by decide:(8:Int)≠0),by rw[Aa F],(Aa an).bl⟩⟩
 have d4:¬(286:Int)<257+(m0:Int):=by omega
 by_cases Z:30<n0+1
 . have F:Hid (v= {u3 with e:=8}):=Ab (Aa bt e3 (.inr Z));have ej:(30:Int)<1+(n0:Int):=by omega
   go_wp2_with fail
   refine(Aa a1).mono ?_;rintro e az ⟨rfl,rfl⟩;go_wp2;exact⟨rfl,.inl ⟨by rw[Aa F];exact(by decide:(8:Int)≠0),by rw[Aa F],(Aa an).bl⟩⟩
 have ej:¬(30:Int)<1+(n0:Int):=by omega
 have bq:Hid ((us.e≠0->v=us)/\(us.e=0->errL S≠0->v= {us with e:=8})):=Ab (by
  rcases Aa dg with E|E|E
  . exact absurd E ak
  . exact absurd E Z
  . exact E)
 clear a1 dg bt bh bu bz di df dr;go_wp2_with fail
 refine(Aa dz w3 e3 (Aa an)).mono ?_;rintro e az ae
 rcases ae with ⟨al,rfl,au⟩|⟨al,as,rfl,au⟩|⟨al,as,be,gr,gm,mb,nn,rfl,ax,av,ay,bw,ao⟩
 . have F:Hid (v=us):=Ab ((Aa bq).1 al);have Y:=Ab ((Aa an).bl.trans (au.weaken (fun _ E=>.inl E)));clear au;go_wp2;exact⟨rfl,.inl ⟨by rw[Aa F];exact al,by rw[Aa F],Aa Y⟩⟩
 . have F:Hid (v= {us with e:=8}):=Ab ((Aa bq).2 al as);have Y:=Ab ((Aa an).bl.trans (au.weaken (fun _ E=>.inl E)));have e4:=Ab (Aa cw as);clear au;go_wp2;exact⟨rfl,.inl ⟨by rw[Aa F];exact(by decide:(8:Int)≠0),by rw[Aa F,Aa e4],Aa Y⟩⟩
 have bg:=Ab ((Aa an).step be);have dy:Hid (az.heap[w.heap.size]? =some (.cells #[.nilFunc,.nilFunc] 282 (0,0))):=Ab ((be.bl.kp _ ds (.inr ⟨VB _,ds⟩)).trans (Aa c8));have cp:w.heap.size<az.heap.size:=by have:=be.bl.below.size;omega
 have dj:=Ab (Aa dp az gr gm mb nn al as (Aa bg) ao (by omega) (by omega) (by omega));clear be ax av ay bw ao dp dz bq cw;go_wp2_with fail
 refine(Aa dj).mono ?_;rintro e M ae
 rcases ae with ⟨ac,rfl,cq⟩|⟨ac,bm,cj,rfl,a2,c9⟩
 . have F:Hid (v=v'):=Ab (by
    have:=Aa cd (by omega) (by omega) al as
    unfold Gl at this;rw[if_pos ac]at this;exact(VN this).2.symm)
   have Y:=Ab ((Aa bg).bl.trans (cq.weaken (fun _ E=>.inl E)));clear cq;go_wp2;exact⟨rfl,.inl ⟨by rw[Aa F];exact ac,by rw[Aa F],Aa Y⟩⟩
 have bb:=Ab ((Aa bg).step bm);have e1:Hid (M.heap[w.heap.size]? =some (.cells #[.nilFunc,.nilFunc] 282 (0,0))):=Ab ((bm.bl.kp _ cp (.inr ⟨VB _,cp⟩)).trans (Aa dy));have dn:w.heap.size<M.heap.size:=by have:=bm.bl.below.size;omega
 rw[c9]at a2;obtain⟨U,ah,rfl,fn,ct⟩:=Ba a2 (by omega);have fo:=Z0g a2
 have b5:Row .i64 M U 0 L:=by
  obtain⟨fq,fh,el,co,fd,_⟩:=Xh a2
  cases el
  rcases fd with d3|⟨fj,fi,ed,_,T⟩
  . rw[d3]at co;simp at co;omega
  . cases ed;exact T
 have db:=Ab b5;have bn:=Ab c9;have en:M.cell? ⟨U,256,none⟩=some (.int .i64 (L.getD 256 0)):=by have:=b5 256 (by omega);rw[WG]at this;exact this
 have ci:Hid (Gl (m0+257) (L,v')=((A,C),v)):=Ab (Aa cd (by omega) (by omega) al as);have dq:=Ab (Aa dw ac);obtain⟨z,cl⟩:=exq (L.getD 256 0);rw[cl]at en;have dx:=Ab cl;clear bm a2 b5 cl cd dw dj b0 a8 bi an bg c5 d1 c8 dy d2 ce;have fx:(256:Int)<(tot:Int):=by omega
 by_cases bj:z=0
 . have F:Hid (v= {v' with e:=8}):=Ab (by
    have:=Aa ci
    unfold Gl at this;rw[if_neg (fun c=>c ac),if_pos (.inl ((Aa dx).trans bj))]at this;rw[<-(VN this).2];unfold Am;rw[if_pos ac])
   have a1:=Ab (Cf 8 M);subst bj;go_wp2_with fail
   refine(Aa a1).mono ?_;rintro e w6 ⟨rfl,rfl⟩;go_wp2;exact⟨rfl,.inl ⟨by rw[Aa F];exact(by decide:(8:Int)≠0),by rw[Aa F],(Aa bb).bl⟩⟩
 have fr:(z==0)=false:=by rw[beq_eq_false_iff_ne];exact bj
 obtain⟨m,hm⟩:=exq (m0+257);have c4:257+(m0:Int)=(m:Int):=by omega
 have fw:m<=tot:=by omega
 have dc:(L.take m).length=m:=by rw[VL];have:=Aa bn;omega
 have cm:(L.drop m).length=tot-m:=by rw[VQ,Aa bn]
 have e6:=Ab (fun q=>Kt b (some ⟨U,0,none⟩) m ah (L.take m) (M.drewN q) dc (by omega) (.inr ⟨U,0,rfl,ct,fun j dv=>by
  have:=Aa db j (by have:=Aa bn;omega)
  have e:(L.take m).getD j 0=L.getD j 0:=by simp only[List.getD];rw[XX (by omega)]
  rw[e];exact this⟩))
 have eg:Hid (∀W,Below M.heap.size M W->Calls Tryz.prog 270 #[.pointer (some ⟨b,0,none⟩),.slice (some ⟨U,m,none⟩) (tot-m) (ah-m)] W fun e w'=>Z8s b (L.drop m) W e w'):=Ab (fun W dh=>Kt b (some ⟨U,m,none⟩) (tot-m) (ah-m) (L.drop m) W cm (by omega) (.inr ⟨U,m,rfl,by have:=dh.size;omega,fun j dv=>by
  have e9:m+j<L.length:=by rw[VQ]at dv;omega
  have:=Aa db (m+j) e9
  rw[WG]at this;have e:(L.drop m).getD j 0=L.getD (m+j) 0:=by simp only[List.getD];rw[XJ]
  rw[e];exact(dh.cell (p:=⟨U,m+j,none⟩) ct).trans this⟩))
 have dl:Hid (errL (L.take m)≠0\/errL (L.drop m)≠0->v= {v' with e:=8}):=Ab (fun ew=>by
  have:=Aa ci
  unfold Gl at this;rw[if_neg (fun c=>c ac),hm,if_pos (.inr ew)]at this;rw[<-(VN this).2];unfold Am;rw[if_pos ac])
 have d5:Hid (errL (L.take m)=0->errL (L.drop m)=0->A=L.take m/\C=L.drop m/\v=v'):=Ab (fun e0 hc=>by
  have:=Aa ci
  unfold Gl at this
  rw[if_neg (fun c=>c ac),hm,if_neg (by
   rintro (c|c|c)
   . exact bj ((Aa dx).symm.trans c)
   . exact c e0
   . exact c hc)]at this
  exact⟨(VN (VN this).1).1.symm,(VN (VN this).1).2.symm,(VN this).2.symm⟩)
 have cy:Hid ((errL (L.take m)≠0->errL (L.take m)=8)/\(errL (L.drop m)≠0->errL (L.drop m)=8)):=Ab (by
  constructor
  . intro e
    rcases Z2 (L.take m) (by omega) (fun x am=>Aa dq x (VR am))with E|E
    . exact absurd E e
    . exact E
  . intro e
    rcases Z2 (L.drop m) (by omega) (fun x am=>Aa dq x (VW am))with E|E
    . exact absurd E e
    . exact E)
 have fm:(m:Int)<=(tot:Int):=by omega
 have f3:(m:Int)<=(ah:Int):=by omega
 have fu:(tot:Int)<=(ah:Int):=by omega
 have fg:¬ah=m:=by omega
 rw[c4];clear c4;clear dc cm;go_wp2;refine wp_region_any (by kernel_rfl) ?_
 try (change wpAny _ _ _ _ _ _ _ (World.drew _))
 refine tkA (i:=0) (v:=.pointer (some ⟨b,0,none⟩)) ?_;simp only[Act.put,VA,VC,VD];refine tkA (i:=1) (v:=.slice (some ⟨U,0,none⟩) tot ah) ?_;simp only[Act.put,VA,VC,VD];refine tkA (i:=2) (v:=.int .i64 (m:Int)) ?_;simp only[Act.put,VA,VC,VD];refine tkA (i:=3) (v:=.slice (some ⟨U,0,none⟩) m ah) ?_;simp only[Act.put,VA,VC,VD];refine tkA (i:=5) (v:=.pointer (some ⟨b,0,none⟩)) ?_;simp only[Act.put,VA,VC,VD];refine tkA (i:=6) (v:=.slice (some ⟨U,0,none⟩) tot ah) ?_;simp only[Act.put,VA,VC,VD];refine tkA (i:=7) (v:=.int .i64 (m:Int)) ?_;simp only[Act.put,VA,VC,VD];refine tkA (i:=8) (v:=.slice (some ⟨U,m,none⟩) (tot-m) (ah-m)) ?_;simp only[Act.put,VA,VC,VD];refine rdA (i:=4) fun K hK=> ?_
 go_simp
 refine(Aa e6 _).mono ?_;rintro e w6 ⟨dm,eh⟩;have aq:Hid (Below M.heap.size M w6):=Ab ((Ae (Below.refl _ _) _).trans dm);clear dm
 rcases eh with ⟨d0,g1,m1,b1,n1,rfl,ax,av,ay,bw,ao⟩|⟨d0,rfl⟩
 rotate_left
 . have F:Hid (v= {v' with e:=8}):=Ab (Aa dl (.inl d0));rw[(Aa cy).1 d0];exact And.intro rfl (e5.inl ⟨by rw[Aa F];exact(by decide:(8:Int)≠0),by rw[Aa F],((Aa bb).past (Aa aq)).bl⟩)
 dsimp only;refine hK _ _ ?_;clear hK K;refine rdA (i:=9) fun K hK=> ?_
 go_simp
 refine(Aa eg _ (Aa aq)).mono ?_;rintro e bc ⟨bv,d9⟩;have a7:=Ab bv;have ck:Hid (Below M.heap.size M bc):=Ab ((Aa aq).trans (bv.mono (Aa aq).size));clear bv
 rcases d9 with ⟨ap,g2,m2,b2,n2,rfl,x1,x2,x3,x4,bk⟩|⟨ap,rfl⟩
 rotate_left
 . have F:Hid (v= {v' with e:=8}):=Ab (Aa dl (.inr ap));rw[(Aa cy).2 ap];exact And.intro rfl (e5.inl ⟨by rw[Aa F];exact(by decide:(8:Int)≠0),by rw[Aa F],((Aa bb).past (Aa ck)).bl⟩)
 dsimp only;refine hK _ _ ?_;clear hK K;refine rdA (i:=10) fun K hK=> ?_
 go_simp
 refine hK _ _ ?_;clear hK K;refine rdA (i:=11) fun K hK=> ?_
 have b4:bc.heap[w.heap.size]? =some (.cells #[.nilFunc,.nilFunc] 282 (0,0)):=((Aa ck).block _ dn).trans (Aa e1);refine Te rfl 282 (.tmp 2) (.tmp 46) rfl w.heap.size #[DV g1 m1,DV g2 m2] _ rfl rfl b4 Fq rfl (by first|rfl|simp[Value.oneCell']) ?_;refine hK _ _ ?_;clear hK K;refine wpAny_done (by kernel_rfl) ?_ _;simp only[Act.put,VA,VC,VD];obtain⟨ar,bd⟩:=exq (bc.setRow w.heap.size #[DV g1 m1,DV g2 m2]);have ey:ar.heap[w.heap.size]? =some (.cells #[DV g1 m1,DV g2 m2] 282 (0,0)):=by rw[<-bd];exact setRow_heap _ _ _ _ _ _ b4
 have af:bc.grownBy ar (some w.heap.size):=by rw[<-bd];exact Nz _ _ _
 have cv:Hid (Rk No B w b (.slice a n G) I H v' ar):=Ab (((Aa bb).past (Aa ck)).aside af (fun g e=>by cases e;exact VB _) (Aa d8) ee)
 have c7:Hid (DIs ar g1 m1 b1 n1 b (L.take m)):=Ab (by
  have aw:=ao.lt;have ch:=ao.is.lt;have ep:=(Aa a7).size;refine(ao.keep ep ((Aa a7).block g1 aw.1) ((Aa a7).block m1 aw.2) ((Aa a7).block b1 ch)).keep af.size (af.block g1 (by omega) ?_) (af.block m1 (by omega) ?_) (af.block b1 (by omega) ?_)<;>(intro e;have:=VM e;have hs5:=dn;have ft:M.heap.size<=g1:=ax;have fk:M.heap.size<=m1:=av;have fy:M.heap.size<=b1:=ay;omega))
 have cu:Hid (DIs ar g2 m2 b2 n2 b (L.drop m)):=Ab (by
  have aw:=bk.lt;have ch:=bk.is.lt;have e7:=(Aa aq).size;refine bk.keep af.size (af.block g2 aw.1 ?_) (af.block m2 aw.2 ?_) (af.block b2 ch ?_)<;>(intro e;have:=VM e;omega))
 have F:Hid (Z8r No B w b (.slice a n G) I H A C v (.returned (.agg #[DV g1 m1,DV g2 m2])) ar):=Ab (by
  obtain⟨r1,r2,dt⟩:=Aa d5 d0 ap;have e7:=(Aa aq).size;have ab:w.heap.size<=g1:=by have d':M.heap.size<=g1:=ax;omega
  have e2:w.heap.size<=m1:=by have d':M.heap.size<=m1:=av;omega
  have e3:w.heap.size<=b1:=by have d':M.heap.size<=b1:=ay;omega
  refine .inr ⟨by rw[dt];exact ac,by rw[dt];exact Aa cv,by rw[r1];exact Ch d0,by rw[r2];exact Ch ap,g1,m1,b1,n1,g2,m2,b2,n2,rfl,by rw[r1];exact Aa c7,by rw[r2];exact Aa cu,⟨ab,e2,e3⟩,⟨by omega,by omega,by omega⟩⟩)
 rw[bd];clear bd af d0 ax av ay bw ao ap x1 x2 x3 x4 bk c7 cu cv b4;go_wp2;refine bodyPost_ret (v:=.agg #[DV g1 m1,DV g2 m2]) ?_ rfl (Aa F);exact results_cell_row rfl _ _ w.heap.size _ _ _ _ (by first|rfl|kernel_rfl|simp) ey Tryz.underlying282 rfl Fq
end Go.Proofs.YtleocpdblhbimaaGreatDoor
