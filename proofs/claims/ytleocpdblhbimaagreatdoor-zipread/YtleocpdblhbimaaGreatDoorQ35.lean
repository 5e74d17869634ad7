import Derived.Test.YtleocpdblhbimaaGreatDoorQ34
import Derived.Deep.OwnRows
import Derived.Deep.CutBlock
set_option linter.unusedSimpArgs false
set_option linter.unusedVariables false
set_option maxRecDepth 100000
set_option maxHeartbeats 2000000
namespace Go.Proofs.YtleocpdblhbimaaGreatDoor
open Go.RowKit
theorem Pas.weaken {No No':Nat->Prop}{w:World}{p I G b o n H F:Nat}{bs:List Nat}(E:Pas No' w p I G b o n H bs F)(U:∀g,No g->No' g):Pas No w p I G b o n H bs F:=
 ⟨E.pst,E.grp,fun es clock hb x O g M T=>E.shun es clock hb x O g M (U g T),E.row,E.size⟩
theorem Pas.more {No No':Nat->Prop}{w:World}{p I G b o n H F:Nat}{bs:List Nat}(E:Pas No w p I G b o n H bs F)(O:∀g,No' g->No g\/w.heap.size<=g):Pas No' w p I G b o n H bs F:=by
 obtain⟨D,M,_⟩:=E.grp;exact⟨E.pst,E.grp,E.shun.reno M O,E.row,E.size⟩
theorem Geo.more {No No':Nat->Prop}{B p F G b:Nat}{bs:List Nat}(E:Geo No B p F G b bs)(I:¬No' p)(H:¬No' F):Geo No' B p F G b bs:=⟨E.bB,E.pB,E.mB,E.pm,E.pb,I,H,E.len,E.byte⟩
theorem OE:(Tryz.prog.info? 244).map (·.size)=some 3:=by kernel_rfl
theorem T4 {H:Func}{p:Tmp}(M:H.results= #[.cell p 244])(G:Array Value)(w:World)(E:Nat)(F:Array Value)(U:F.size=3)(I:G.getD p undef=.pointer (some ⟨E,0,none⟩))(O:w.heap[E]? =some (.cells F 244 (0,0))):
 (results H G).run Tryz.prog w=.ok (.agg F) w:=by
 have hl:(loadVar 244 ⟨E,0,none⟩).run Tryz.prog w=.ok (.agg F) w:=run_loadVar_row w E _ _ _ _ _ O Tryz.underlying244 rfl (by rw[U];exact OE);have T:G[p]?.getD undef=.pointer (some ⟨E,0,none⟩):=by simpa using I
 simp only[results,M];simp[T,asAddr,hl]
theorem S7 {w:World}{E:Nat}{x y G a b c:Value}(F:w.heap[E]? =some (.cells #[x,y,G] 244 (0,0))):(((w.setCell ⟨E,0,none⟩ a).setCell ⟨E,1,none⟩ b).setCell ⟨E,2,none⟩ c).heap[E]? =some (.cells #[a,b,c] 244 (0,0)):=by
 rw[heap_setCell_same _ E 2 _ _ _ (heap_setCell_same _ E 1 _ _ _ (heap_setCell_same w E 0 _ _ _ F))];rfl
theorem LT (w:World)(E:Nat)(a b c:Value):w.grownBy (((w.setCell ⟨E,0,none⟩ a).setCell ⟨E,1,none⟩ b).setCell ⟨E,2,none⟩ c) (some E):=
 Aj (Aj (Ad w E 0 a) (Ad _ E 1 b)) (Ad _ E 2 c)
theorem KT (No:Nat->Prop)(B p M H b o n O al k:Nat)(bs:List Nat)(w:World)(I:Geo No B p M H b bs)(ar:bs.length=n)(a8:n<=O)(Y:Pas No w p M H b o n O bs al)(b7:al<=k)(bv:k<n)(aw:∀g,w.heap.size<=g->¬No g)(T:Nat)(ts af:Int)(bc:Hid (Qd bs k=(T,ts,af))):
 Calls Tryz.prog 178 #[.pointer (some ⟨p,0,none⟩),.int .i64 (k:Int)] w fun e w'=>e=.returned (.agg #[.int .u8 (T:Int),.int .i64 ts,.int .i64 af])/\(∃ac,ac<=k+1/\Pas No w' p M H b o n O bs ac)/\Below B w w'/\Kp No w w':=by
 have b4:=Ab I;have a5:=Ab Y;have bo:=Ab aw;have ck:=Ab ar;have hn:=I.len;have ap:B<=w.heap.size:=VU I.pB (YX Y.pst.lt);have ak:Hid (Geo (fun g=>No g\/g=w.heap.size) B p M H b bs):=I.more (by rintro (h|h);exact I.nop h;have:=Y.pst.lt;omega) (by rintro (h|h);exact I.nom h;have:=Y.grp.lt.2;omega);have a6:Hid (Pas (fun g=>No g\/g=w.heap.size) (w.alloc (.cells #[.int .u8 0,.int .i64 0,.int .i64 0] 244)) p M H b o n O bs al):=(Y.more (No':=fun g=>No g\/g=w.heap.size) (by rintro g (h|h);exact .inl h;exact .inr (by omega))).grown (Aa ak) (World.grownBy_alloc w _ none) (fun j e=>by cases e)
 have bn:Hid (∀g,(w.alloc (.cells #[.int .u8 0,.int .i64 0,.int .i64 0] 244)).heap.size<=g->¬(No g\/g=w.heap.size)):=by
  intro g U;simp at U
  rintro (h|h)
  . exact aw g (by omega) h
  . omega
 have bi:=Ab ((Below.refl B w).alloc ap (.cells #[.int .u8 0,.int .i64 0,.int .i64 0] 244));have a3:(w.alloc (.cells #[.int .u8 0,.int .i64 0,.int .i64 0] 244)).heap[w.heap.size]? =some (.cells #[.int .u8 0,.int .i64 0,.int .i64 0] 244 (0,0)):=heap_alloc_new w _;have bf:=Ab a3;clear I Y aw a3;obtain⟨n1,f1,ag⟩:∃n1 f1,lng bs k=(n1,f1):=⟨_,_,rfl⟩
 obtain⟨n2,f2,ae⟩:∃n2 f2,lng bs (k+1)=(n2,f2):=⟨_,_,rfl⟩
 have b0:=Ab ag;have b3:=Ab ae
 have E:Qd bs k=if n1=0 then (bs.getD k 0,0,0)else if n1<n2 then (bs.getD k 0,0,0)else (0,(n1:Int),(f1:Int)):=by
  unfold Qd;rw[ag,ae]
 rw[Aa bc]at E;clear ag ae bc;go_enter Tryz.func178,Tryz.ntmps178
 go_wp2_with fail
 refine(Rj _ B p M H b o n O al k bs _ (Aa ak) ar a8 (Aa a6) b7 (by omega) (Aa bn) n1 f1 b0).mono ?_;rintro e F ⟨rfl,⟨bj,ce,ao⟩,ay,av⟩;have b8:=ay.size;simp only[World.size_alloc]at b8;have aa:F.heap[w.heap.size]? =some (.cells #[.int .u8 0,.int .i64 0,.int .i64 0] 244 (0,0)):=(av w.heap.size (by simp) (.inr rfl)).trans (Aa bf);have a7:=Ab ao;have a2:=Ab ((Aa bi).trans ay);have bh:Hid (Kp No w F):=((Kp.refl No w).grown (World.grownBy_alloc w (.cells #[.int .u8 0,.int .i64 0,.int .i64 0] 244) none) (VB _) (fun j e=>by cases e)).trans (av.weaken (fun g h=>.inl h)) (by simp);have c0:=ao.pst.cell0;have bd:=ao.row k (by omega);clear ao ay av a6 bn bi bf;have r0:F.cell? ⟨w.heap.size,0,none⟩=some (.int .u8 0):=Ac aa;have r1:F.cell? ⟨w.heap.size,1,none⟩=some (.int .i64 0):=Ac aa;have r2:F.cell? ⟨w.heap.size,2,none⟩=some (.int .i64 0):=Ac aa;have bk:∀j,F.frozen? ⟨w.heap.size,j,none⟩=false:=fun j=>frozen_of_row F _ j _ _ aa
 have au:Hid (∀(W:World) (ai:Nat) (x y z:Value),ai<=k+1->Pas (fun g=>No g\/g=w.heap.size) W p M H b o n O bs ai->Below B w W->Kp No w W->w.heap.size<=W.heap.size->
  (∃ac,ac<=k+1/\Pas No (((W.setCell ⟨w.heap.size,0,none⟩ x).setCell ⟨w.heap.size,1,none⟩ y).setCell ⟨w.heap.size,2,none⟩ z) p M H b o n O bs ac)/\Below B w (((W.setCell ⟨w.heap.size,0,none⟩ x).setCell ⟨w.heap.size,1,none⟩ y).setCell ⟨w.heap.size,2,none⟩ z)/\Kp No w (((W.setCell ⟨w.heap.size,0,none⟩ x).setCell ⟨w.heap.size,1,none⟩ y).setCell ⟨w.heap.size,2,none⟩ z)):=by
  intro W ai x y z bu b9 bq cd bz;have U:=LT W w.heap.size x y z;have I:=Aa b4;have cm:=(Aa a5).pst.lt;have cg:=(Aa a5).grp.lt.2;refine⟨⟨ai,bu,(b9.grown (Aa ak) U (fun j e=> ?_)).weaken (fun g h=>.inl h)⟩,bq.grown U (VU ap bz) (fun j e=>by cases e;exact ap), ?_⟩
  . cases e
    have:=I.bB
    exact⟨by omega,by omega,by omega,.inl (.inr rfl)⟩
  . intro g ag ae;rw[U.block g (by omega) (fun e=>by simp at e;omega)];exact cd g ag ae
 by_cases az:n1=0
 . rw[if_pos az]at E;generalize bs.getD k 0=x at*;obtain⟨rfl,rfl,rfl⟩:T=x/\ts=0/\af=0:=by simpa using E
   subst az;have ah:=Ab (S7 (a:=.int .u8 (T:Int)) (b:=.int .i64 0) (c:=.int .i64 0) aa);go_wp2;exact bodyPost_ret (T4 rfl _ _ _ _ rfl rfl (Aa ah)) rfl ⟨rfl,Aa au F bj _ _ _ (by omega) (Aa a7) (Aa a2) (Aa bh) (by omega)⟩
 . rw[if_neg az]at E;have ci:((n1:Int)==0)=false:=by rw[beq_eq_false_iff_ne];omega
   have bw:k+1<=n:=bv;clear c0 bd r0 r1 r2 bk;go_wp2_with fail
   have b5:Hid (∀g,F.heap.size<=g->¬(No g\/g=w.heap.size)):=by
    intro g U;rintro (h|h)
    . exact Aa bo g (by omega) h
    . omega
   refine(Rj _ B p M H b o n O bj (k+1) bs F (Aa ak) ar a8 (Aa a7) (by omega) bw (Aa b5) n2 f2 b3).mono ?_;rintro e G ⟨rfl,⟨bg,bb,aj⟩,ax,a1⟩;have cj:=ax.size;have Z:G.heap[w.heap.size]? =some (.cells #[.int .u8 0,.int .i64 0,.int .i64 0] 244 (0,0)):=(a1 w.heap.size (by omega) (.inr rfl)).trans aa;have ba:=Ab aj;have bm:=Ab ((Aa a2).trans ax);have a4:Hid (Kp No w G):=(Aa bh).trans (a1.weaken (fun g h=>.inl h)) (by omega);have c0:=aj.pst.cell0;have bd:=aj.row k (by omega);clear aj ax a1;have r0:G.cell? ⟨w.heap.size,0,none⟩=some (.int .u8 0):=Ac Z;have r1:G.cell? ⟨w.heap.size,1,none⟩=some (.int .i64 0):=Ac Z;have r2:G.cell? ⟨w.heap.size,2,none⟩=some (.int .i64 0):=Ac Z;have bk:∀j,G.frozen? ⟨w.heap.size,j,none⟩=false:=fun j=>frozen_of_row G _ j _ _ Z
   by_cases a9:n1<n2
   . rw[if_pos a9]at E;generalize bs.getD k 0=x at*;obtain⟨rfl,rfl,rfl⟩:T=x/\ts=0/\af=0:=by simpa using E
     have ah:=Ab (S7 (a:=.int .u8 (T:Int)) (b:=.int .i64 0) (c:=.int .i64 0) Z);go_wp2;exact bodyPost_ret (T4 rfl _ _ _ _ rfl rfl (Aa ah)) rfl ⟨rfl,Aa au G bg _ _ _ bb (Aa ba) (Aa bm) (Aa a4) (by omega)⟩
   . rw[if_neg a9]at E
     obtain⟨rfl,rfl,rfl⟩:0=T/\(n1:Int)=ts/\(f1:Int)=af:=by
      simp only[YD]at E;exact⟨E.1.symm,E.2.1.symm,E.2.2.symm⟩
     have ah:=Ab (S7 (a:=.int .u8 0) (b:=.int .i64 (n1:Int)) (c:=.int .i64 (f1:Int)) Z);go_wp2;exact bodyPost_ret (T4 rfl _ _ _ _ rfl rfl (Aa ah)) rfl ⟨rfl,Aa au G bg _ _ _ bb (Aa ba) (Aa bm) (Aa a4) (by omega)⟩
theorem Pas.turn {No No':Nat->Prop}{W I:World}{p E H b o n M G:Nat}{bs:List Nat}{r:Option Nat}(O:Pas No W p E H b o n M bs G)(F:Pas No I p E H b o n M bs G)(T:W.grownBy I r)(U:some E≠r)(Y:∀g,No' g->No g\/W.heap.size<=g):Pas No' I p E H b o n M bs G:=
 ⟨F.pst,F.grp,(O.more Y).shun.kept T O.grp.lt.2 U,F.row,F.size⟩
theorem Zs (W:World)(x y F:Value)(t:TypeId):∀j u,[x,y,F][j]? =some u->(W.alloc (.cells #[x,y,F] t)).cell? ((⟨W.heap.size,0,none⟩:Addr).add j)=some u:=by
 intro j u E;have e:(⟨W.heap.size,0,none⟩:Addr).add j=⟨W.heap.size,j,none⟩:=by unfold Addr.add;split<;>simp_all
 rw[e,World.cell?_alloc_at _ _ _ _ rfl]
 match j,E with
 |0,E=>simpa using E
 |1,E=>simpa using E
 |2,E=>simpa using E
theorem R4 (a:Option Addr)(E:Nat)(w:World):Calls Tryz.prog 149 #[.slice a 0 E] w fun e w'=>e=.returned (.tuple #[.slice none 0 0,.int .i64 0])/\Below w.heap.size w w':=by
 have H:=Ab (((Below.refl w.heap.size w).alloc (VB _) (.map #[] 0)).alloc (by simp) (.cells #[.slice a 0 E,.map (some w.heap.size),.int .i64 0] 292));go_enter Tryz.func149,Tryz.ntmps149
 go_wp2_with fail
 refine(Rf a 0 E w).mono ?_;rintro e I ⟨rfl,rfl⟩;go_wp2;go_loop [4,6] (fun G F=>G=.slice none 0 0/\F=.int .i64 0) (fun _ _=>0)
 case atStart=>exact⟨rfl,rfl⟩
 case round=>
  obtain⟨rfl,rfl⟩:=hrel;go_wp2;go_ret2;exact⟨rfl,Aa H⟩
theorem R3 (b o n G:Nat)(bs:List Nat)(w:World)(cg:bs.length=n)(dj:n<=3000)(cp:n<=G)(cq:b<w.heap.size)(bn:Bytes w b o bs)(ay:∀j,bs.getD j 0<256):
 Calls Tryz.prog 149 #[.slice (some ⟨b,o,none⟩) n G] w fun e w'=>∃v,e=.returned (.tuple #[v,.int .i64 0])/\w'.ownsRow w.heap.size 244 3 v (Gi bs).length (tvs (Gi bs))/\Below w.heap.size w w':=by
 obtain⟨cn,hi,b7,cu,b9⟩:=info_parts CO;have a4:=Ab cg;have c6:=Ab ay;have bi:Hid (∀No:Nat->Prop,¬No (w.heap.size+1)->¬No w.heap.size->Geo No w.heap.size (w.heap.size+1) w.heap.size (w.heap.size+2) b bs):=fun No cm b4=>⟨cq,by omega,VB _,by omega,by omega,cm,b4,by omega,ay⟩
 have bc:Hid (Pas (fun g=>(Value.slice none 0 0).ownBlock=some g) ((w.alloc (.map #[] 0)).alloc (.cells #[.slice (some ⟨b,o,none⟩) n G,.map (some w.heap.size),.int .i64 0] 292)) (w.heap.size+1) w.heap.size (w.heap.size+2) b o n G bs 0):=by
  have H:=World.grownBy_alloc (w.alloc (.map #[] 0)) (.cells #[.slice (some ⟨b,o,none⟩) n G,.map (some w.heap.size),.int .i64 0] 292) none;refine⟨?_,(Grp.made w (w.heap.size+2) bs (by omega)).kept H (fun j e=>by cases e),(World.Shuns_made w _).kept H (by simp) (by simp), ?_,by simp⟩
  . have:=heap_alloc_new (w.alloc (.map #[] 0)) (.cells #[.slice (some ⟨b,o,none⟩) n G,.map (some w.heap.size),.int .i64 0] 292)
    rw[World.size_alloc]at this;exact this
  . exact(bn.grown (World.grownBy_alloc w _ none) (by simp)).grown H (by simp)
 have az:=Ab (((Below.refl w.heap.size w).alloc (VB _) (.map #[] 0)).alloc (by simp) (.cells #[.slice (some ⟨b,o,none⟩) n G,.map (some w.heap.size),.int .i64 0] 292));clear bn ay;go_enter Tryz.func149,Tryz.ntmps149
 go_wp2_with fail
 refine(Rf (some ⟨b,o,none⟩) n G w).mono ?_;rintro e bf ⟨rfl,ap⟩;have a8:Hid (Pas (fun g=>(Value.slice none 0 0).ownBlock=some g) bf (w.heap.size+1) w.heap.size (w.heap.size+2) b o n G bs 0):=by rw[ap];exact Aa bc
 have bd:Hid (Below w.heap.size w bf):=by rw[ap];exact Aa az
 clear ap bc az;have cz:Hid (∀l,l=Gi bs->l=Gi bs):=fun l h=>h
 generalize O:Gi bs=T at*;have a5:=Ab O;clear O cz;go_wp2;go_loopw [4,6] (fun a9 aj wr=>∃(k fuel kn:Nat) (acc:List Tk),k<=n/\aj=.int .i64 (k:Int)/\acc++tks bs fuel k=T/\n<=k+fuel/\acc.length<=k/\kn<=k/\wr.ownsRow (w.heap.size+2) 244 3 a9 acc.length (tvs acc)/\Pas (fun g=>a9.ownBlock=some g) wr (w.heap.size+1) w.heap.size (w.heap.size+2) b o n G bs kn/\Below w.heap.size w wr) (fun _ aj _=>n-(intOf aj).toNat)
 case atStart=>exact⟨0,n,0,[],VH _,rfl,by rw[<-Aa a5];simp[Gi,Aa a4],by omega,VB _,VB _,World.ownsRow_nil _ _ _ _,Aa a8,Aa bd⟩
 case round=>
  obtain⟨k,fuel,kn,acc,da,rfl,O,dd,di,cy,U,Y,ac⟩:=hrel;have bq:=Ab O;have ae:=Ab U;have bo:=Ab Y;have ao:=Ab ac;have dh:=ac.size;have c8:=Y.size;clear O
  by_cases ci:k<n
  . obtain⟨bz,a2,de⟩:=TN bs fuel k (by omega) (by omega);have c9:=Oq bs k (by omega);have al:=Uo bs k (by omega);have au:=Z36 al;have df:=Z5y al;obtain⟨E,ts,F,ah⟩:∃E ts F,Qd bs k=(E,ts,F):=⟨_,_,_,rfl⟩
    have cj:=Ab ah;have cv:max ts 1=((wid (Qd bs k):Nat):Int):=by rw[ah]at au ⊢;exact au
    have b5:Hid ((acc++ [(E,ts,F)])++tks bs bz (k+wid (Qd bs k))=T):=by
     rw[<-Aa bq,a2,ah,VS];rfl
    generalize wid (Qd bs k)=bj at*
    have ct:Hid (∀g,wr.heap.size<=g->¬(u4.ownBlock=some g)):=fun g H e=>by
     have:=(U.lt g e).2
     omega
    have ag:∀g,u4.ownBlock=some g->w.heap.size+2<=g:=fun g e=>(U.lt g e).1
    have av:=Ab ag;have aa:Hid (Geo (fun g=>u4.ownBlock=some g) w.heap.size (w.heap.size+1) w.heap.size (w.heap.size+2) b bs):=Aa bi _ (fun e=>by have:=ag _ e;omega) (fun e=>by have:=ag _ e;omega);clear U Y ac au al a2 ah ag;go_wp2_with fail
    refine(KT _ w.heap.size (w.heap.size+1) w.heap.size (w.heap.size+2) b o n G kn k bs wr (Aa aa) (Aa a4) cp (Aa bo) cy ci (Aa ct) E ts F cj).mono ?_;rintro e I ⟨rfl,⟨bm,c7,a1⟩,ak,b0⟩;have dc:=ak.size;have a3:=Ab a1;have a6:=Ab ((Aa ao).trans ak);have aw:Hid (I.ownsRow (w.heap.size+2) 244 3 u4 acc.length (tvs acc)):=Au (Aa ae) (fun g H=>b0 g ((Aa ae).lt g H).2 H);clear a1 ak b0 bo ae ao a8 bd;have bk:=Ab (((Aa aw).alloc (.cells #[.int .u8 (E:Int),.int .i64 ts,.int .i64 F] 244)).alloc (.cells #[.int .u8 (E:Int),.int .i64 ts,.int .i64 F] 244));have ax:=Ab (((Aa a3).grown (Aa aa) (World.grownBy_alloc I (.cells #[.int .u8 (E:Int),.int .i64 ts,.int .i64 F] 244) none) (fun j e=>by cases e)).grown (Aa aa) (World.grownBy_alloc _ (.cells #[.int .u8 (E:Int),.int .i64 ts,.int .i64 F] 244) none) (fun j e=>by cases e));have bg:=Ab (((Aa a6).alloc (by omega) (.cells #[.int .u8 (E:Int),.int .i64 ts,.int .i64 F] 244)).alloc (by simp;omega) (.cells #[.int .u8 (E:Int),.int .i64 ts,.int .i64 F] 244));have bv:=Ab (Zs (I.alloc (.cells #[.int .u8 (E:Int),.int .i64 ts,.int .i64 F] 244)) (.int .u8 (E:Int)) (.int .i64 ts) (.int .i64 F) 244);go_wp2_with (at_builtin;refine wpList_append_own_at _ rfl _ _ 215 rfl (w.heap.size+2) 244 cn _ 3 24 Tryz.underlying215 hi b7 cu b9 rfl (by decide) u4 acc.length (tvs acc) rfl (Aa bk) ⟨I.heap.size+1,0,none⟩ 1 1 [.int .u8 (E:Int),.int .i64 ts,.int .i64 F] rfl rfl (by have:=Aa bv;simp only[World.size_alloc]at this;exact this) (by intro u bh;simp at bh;rcases bh with rfl|rfl|rfl<;>rfl) (by unfold maxLen;omega) (by omega) (by simp;omega) ?_)
    intro v' w3 bb M _ bw;have Z:some I.heap.size≠u4.ownBlock:=fun e=>by have:=((Aa aw).lt _ e.symm).2;omega
    have b8:w3.cell? ⟨I.heap.size,0,none⟩=some (.int .u8 (E:Int)):=M.cell (by simp) Z;have cd:w3.cell? ⟨I.heap.size,1,none⟩=some (.int .i64 ts):=M.cell (by simp) Z;have ck:w3.cell? ⟨I.heap.size,2,none⟩=some (.int .i64 F):=M.cell (by simp) Z
    have ar:Hid (w3.ownsRow (w.heap.size+2) 244 3 v' (acc++ [(E,ts,F)]).length (tvs (acc++ [(E,ts,F)]))):=by
     rw[Uj,VE];exact bb
    have ba:=Ab ((Aa bg).grown M (by simp;omega) (fun g e=>by have:=Aa av g e;omega));have a7:=Ab ((Aa ax).grown (Aa aa) M (fun g e=>by have:=Aa av g e;exact⟨by omega,by omega,by omega,.inl e⟩))
    have cw:Hid (Pas (fun g=>v'.ownBlock=some g) w3 (w.heap.size+1) w.heap.size (w.heap.size+2) b o n G bs bm):=(Aa ax).turn (Aa a7) M (fun e=>by have:=Aa av _ e.symm;omega) (fun g H=>by
     rcases bw with h|h
     . exact .inl (by rw[<-h];exact H)
     . refine .inr ?_;have bu:v'.ownBlock=some g:=H;rw[h]at bu;have:=VM bu
       simp only[World.size_alloc]at this ⊢;omega)
    clear bb M bw Z a7 ax bg bk bv a3 a6 aw;go_wp2_with fail
    refine(AE E ts F w3 bj cv).mono ?_;rintro e db ⟨rfl,af⟩;have c5:=Ab (Hv (Aa ar) af);have co:=Ab (Hq (Aa ba) af (Aa ba).size);have ce:=Ab ((Aa cw).grown (Aa bi _ (fun e=>by have:=((Aa ar).lt _ e).1;omega) (fun e=>by have:=((Aa ar).lt _ e).1;omega)) af (fun j e=>by cases e));clear af b8 cd ck;go_wp2;go_roundw
    case rel=>exact⟨k+bj,bz,bm,acc++ [(E,ts,F)],by omega,by go_num,Aa b5,by omega,by simp;omega,by omega,Aa c5,Aa ce,Aa co⟩
    case measure=>simp[intOf];omega
  . obtain rfl:n=k:=by omega
    have e:acc=T:=by
     have:=Aa bq
     rw[TP bs fuel n (by omega),XA]at this;exact this
    have ai:=Pa (Aa ae) (show w.heap.size<=w.heap.size+2 by omega);rw[e,<-Aa a5]at ai;have b3:=Ab ai;clear U Y ac ai;go_wp2;go_ret2;exact⟨u4,rfl,Aa b3,Aa ao⟩
theorem TokIn.ofOwn {w:World}{B n:Nat}{v:Value}{l:List Tk}(F:w.ownsRow B 244 3 v n (tvs l)):l.length=n/\∃a c,v=.slice a n c/\TokIn w a l:=by
 have hn:l.length=n:=by have:=F.1;rw[Ui]at this;omega
 refine⟨hn, ?_⟩
 rcases F.2 with ⟨E,G⟩|⟨g,cap,cur,E,_⟩
 . subst G;exact⟨none,0,E,.inl (WV hn)⟩
 . subst E;exact⟨_,_,rfl,TokIn.own F⟩
theorem Ec (w:World)(R G F E:Obj):((((w.alloc R).alloc G).alloc F).alloc E).drew.heap[w.heap.size]? =some R/\((((w.alloc R).alloc G).alloc F).alloc E).drew.heap[w.heap.size+1]? =some G/\((((w.alloc R).alloc G).alloc F).alloc E).drew.heap[w.heap.size+1+1]? =some F/\((((w.alloc R).alloc G).alloc F).alloc E).drew.heap[w.heap.size+1+1+1]? =some E/\Below w.heap.size w ((((w.alloc R).alloc G).alloc F).alloc E).drew:=by
 refine⟨?_, ?_, ?_, ?_,Ae (((((Below.refl w.heap.size w).alloc (VB _) _).alloc (by simp) _).alloc (by simp;omega) _).alloc (by simp;omega) _) 1⟩
 all_goals (simp only[World.alloc,World.drew,YC,YV];simp[WT])
structure EvSt (w:World)(N:Nat)(W:World)(g3 ga gb:Nat):Prop where
 lo:w.heap.size<g3/\w.heap.size<ga/\w.heap.size<gb
 ne:g3≠ga/\g3≠gb/\ga≠gb
 blk:W.heap[g3]? =some (.cells #[.slice none 0 0,.slice (some ⟨ga,0,none⟩) 257 257,.slice (some ⟨gb,0,none⟩) 1 1] 256 (0,0))
 ra:W.heap[ga]? =some (.cells (madeCells #[Value.int .i64 0] N) 3 (0,0))
 rb:W.heap[gb]? =some (.cells (madeCells #[Value.int .i64 0] 1) 3 (0,0))
 res:W.heap[w.heap.size]? =some (.cells #[.slice none 0 0,.slice none 0 0,.slice none 0 0] 256 (0,0))
 bel:Below w.heap.size w W
theorem Z1p (a:Option Addr)(M b9:Nat)(bs:List Nat)(w:World)(bi:bs.length=M)(cm:M<=3000)(b0:BytesIn w a bs)(ah:∀j,bs.getD j 0<256):
 Calls Tryz.prog 184 #[.slice a M b9] w fun e w'=>∃F c1 b1 b2,e=.returned (.agg #[.slice F M c1,.slice (some ⟨b1,0,none⟩) 257 257,.slice (some ⟨b2,0,none⟩) 1 1])/\PlanIs w' F M b1 257 b2 1 (Gf bs) Ks Sc/\w.heap.size<=b1/\w.heap.size<=b2/\(∀b o,F=some ⟨b,o,none⟩->Gf bs≠ []->w.heap.size<=b)/\Below w.heap.size w w':=by
 obtain⟨cv,hi,cj,c8,ck⟩:=info_parts CO;obtain⟨N,a6⟩:∃N:Nat,N=257:=⟨_,rfl⟩
 have da:∀W:World,(Instr.makeSlice 76 (.int .i64 257) (.int .i64 257)).run Tryz.prog W=.ok (.slice (some ⟨W.heap.size,0,none⟩) 257 257) (W.alloc (.cells (madeCells #[.int .i64 0] N) 3)):=fun W=>by rw[a6];exact run_make_row' (P:=Tryz.prog) 76 3 (.int .i64 0) 8 Tryz.underlying76 Bv rfl .i64 .i64 257 (by decide) (by decide) W
 have b8:∀W:World,(Instr.makeSlice 76 (.int .i64 1) (.int .i64 1)).run Tryz.prog W=.ok (.slice (some ⟨W.heap.size,0,none⟩) 1 1) (W.alloc (.cells (madeCells #[.int .i64 0] 1) 3)):=fun W=>run_make_row' (P:=Tryz.prog) 76 3 (.int .i64 0) 8 Tryz.underlying76 Bv rfl .i64 .i64 1 (by decide) (by decide) W
 have b7:=Ab a6;have aj:=Ab bi;have ct:=Ab b0;have a2:=Ab ah;clear bi b0 ah a6;go_enter Tryz.func184,Tryz.ntmps184
 go_upto_region 1 with (fail)
 go_cut [3] (fun v wc=>∃g3 ga gb,v=.pointer (some ⟨g3,0,none⟩)/\Hid (EvSt w N wc g3 ga gb))
 case first=>
  go_big_region
  all_goals go_wp2_with fail
  all_goals go_meet
  all_goals first
   |exact⟨w.heap.size+1,w.heap.size+1+1,w.heap.size+1+1+1,rfl,Ab ⟨⟨by omega,by omega,by omega⟩,⟨by omega,by omega,by omega⟩,(Ec w _ _ _ _).2.1,(Ec w _ _ _ _).2.2.1,(Ec w _ _ _ _).2.2.2.1,(Ec w _ _ _ _).1,(Ec w _ _ _ _).2.2.2.2⟩⟩
   |exact⟨w.heap.size+1,w.heap.size+1+1+1,w.heap.size+1+1,rfl,Ab ⟨⟨by omega,by omega,by omega⟩,⟨by omega,by omega,by omega⟩,(Ec w _ _ _ _).2.1,(Ec w _ _ _ _).2.2.2.1,(Ec w _ _ _ _).2.2.1,(Ec w _ _ _ _).1,(Ec w _ _ _ _).2.2.2.2⟩⟩
   |exact⟨w.heap.size+1+1,w.heap.size+1,w.heap.size+1+1+1,rfl,Ab ⟨⟨by omega,by omega,by omega⟩,⟨by omega,by omega,by omega⟩,(Ec w _ _ _ _).2.2.1,(Ec w _ _ _ _).2.1,(Ec w _ _ _ _).2.2.2.1,(Ec w _ _ _ _).1,(Ec w _ _ _ _).2.2.2.2⟩⟩
   |exact⟨w.heap.size+1+1,w.heap.size+1+1+1,w.heap.size+1,rfl,Ab ⟨⟨by omega,by omega,by omega⟩,⟨by omega,by omega,by omega⟩,(Ec w _ _ _ _).2.2.1,(Ec w _ _ _ _).2.2.2.1,(Ec w _ _ _ _).2.1,(Ec w _ _ _ _).1,(Ec w _ _ _ _).2.2.2.2⟩⟩
   |exact⟨w.heap.size+1+1+1,w.heap.size+1,w.heap.size+1+1,rfl,Ab ⟨⟨by omega,by omega,by omega⟩,⟨by omega,by omega,by omega⟩,(Ec w _ _ _ _).2.2.2.1,(Ec w _ _ _ _).2.1,(Ec w _ _ _ _).2.2.1,(Ec w _ _ _ _).1,(Ec w _ _ _ _).2.2.2.2⟩⟩
   |exact⟨w.heap.size+1+1+1,w.heap.size+1+1,w.heap.size+1,rfl,Ab ⟨⟨by omega,by omega,by omega⟩,⟨by omega,by omega,by omega⟩,(Ec w _ _ _ _).2.2.2.1,(Ec w _ _ _ _).2.2.1,(Ec w _ _ _ _).2.1,(Ec w _ _ _ _).1,(Ec w _ _ _ _).2.2.2.2⟩⟩
 case rest=>
  obtain⟨g3,ga,gb,rfl,af⟩:=hcut;have Z:=Aa af;have d8:=Z.lo;have Y:=Z.ne;have d6:=Z.bel.size;have c7:=(VK.1 Z.res).1;have di:=(VK.1 Z.blk).1;have la:=(VK.1 Z.ra).1;have lb:=(VK.1 Z.rb).1;clear da b8 Z;generalize wc=I at*;go_wp2;go_loopw [12] (fun v wr=>∃k:Nat,k<=M/\v=.int .i64 (k:Int)/\Hid (∃ov,wr.heap[g3]? =some (.cells #[ov,.slice (some ⟨ga,0,none⟩) 257 257,.slice (some ⟨gb,0,none⟩) 1 1] 256 (0,0))/\wr.ownsRow I.heap.size 244 3 ov k (tvs (Gf (bs.take k)))/\(∀j,j<I.heap.size->j≠g3->wr.heap[j]? =I.heap[j]?)/\Below w.heap.size w wr/\I.heap.size<=wr.heap.size)) (fun v _=>M-(intOf v).toNat)
  case atStart=>exact⟨0,VH _,rfl,Ab ⟨.slice none 0 0,(Aa af).blk,World.ownsRow_nil _ _ _ _,fun j _ _=>rfl,(Aa af).bel,VB _⟩⟩
  case round=>
   obtain⟨k,du,rfl,hr⟩:=hrel;obtain⟨ov,ac,T,ae,al,de⟩:=Aa hr
   by_cases bm:k<M
   . obtain⟨b,o,rfl,hb,bg⟩:=Dz (Aa ct) (by rw[Aa aj];omega);have cb:=(al.cell (p:=⟨b,o+k,none⟩) hb).trans (bg k (by rw[Aa aj];exact bm));have ah:=Aa a2 k
     have a5:Gf (bs.take (k+1))=Gf (bs.take k)++ [(bs.getD k 0,0,0)]:=by
      have cg:k<bs.length:=by rw[Aa aj];exact bm
      have e:bs.take (k+1)=bs.take k++ [bs.getD k 0]:=by
       rw[XM];simp[List.getD,cg]
      rw[e];simp[Gf]
     obtain⟨x,bk⟩:=exq (bs.getD k 0);rw[bk]at cb ah a5;have bw:=Ab a5;have c0:wr.cell? ⟨g3,0,none⟩=some ov:=Ac ac;have f0:=frozen_of_row wr g3 0 _ _ ac;have dh:(k:Int)<(M:Int):=by omega
     have bo:=Ab (T.alloc (.cells #[.int .u8 (x:Int),.int .i64 0,.int .i64 0] 244));have b5:=Ab (Zs wr (.int .u8 (x:Int)) (.int .i64 0) (.int .i64 0) 244);have bc:∀g,ov.ownBlock=some g->I.heap.size<=g/\g<wr.heap.size:=fun g e=>T.lt g e
     have av:=Ab bc;have ap:=Ab ac;have bn:=Ab ae;have ar:=Ab al;clear hr ac T ae al a5 bg bk bc;go_wp2_with (at_builtin;refine wpList_append_own_at _ rfl _ _ 215 rfl I.heap.size 244 cv _ 3 24 Tryz.underlying215 hi cj c8 ck rfl (by decide) ov k (tvs (Gf (bs.take k))) rfl (Aa bo) ⟨wr.heap.size,0,none⟩ 1 1 [.int .u8 (x:Int),.int .i64 0,.int .i64 0] rfl rfl (Aa b5) (by intro u bu;simp at bu;rcases bu with rfl|rfl|rfl<;>rfl) (by unfold maxLen;omega) (by omega) (by simp;omega) ?_)
     intro v' w3 aw ao _ dc;have bq:=ao.size;simp only[World.size_alloc]at bq;have O:w3.heap[g3]? =some (.cells #[ov,.slice (some ⟨ga,0,none⟩) 257 257,.slice (some ⟨gb,0,none⟩) 1 1] 256 (0,0)):=(ao.block g3 (by simp;omega) (fun e=>by have:=Aa av g3 e.symm;omega)).trans ((Below.heap_alloc wr _ g3 (by omega)).trans (Aa ap));have dm:w3.cell? ⟨g3,0,none⟩=some ov:=Ac O;have dl:=frozen_of_row w3 g3 0 _ _ O
     have az:Hid (∃ov,(w3.setCell ⟨g3,0,none⟩ v').heap[g3]? =some (.cells #[ov,.slice (some ⟨ga,0,none⟩) 257 257,.slice (some ⟨gb,0,none⟩) 1 1] 256 (0,0))/\(w3.setCell ⟨g3,0,none⟩ v').ownsRow I.heap.size 244 3 ov (k+1) (tvs (Gf (bs.take (k+1))))/\(∀j,j<I.heap.size->j≠g3->(w3.setCell ⟨g3,0,none⟩ v').heap[j]? =I.heap[j]?)/\Below w.heap.size w (w3.setCell ⟨g3,0,none⟩ v')/\I.heap.size<=(w3.setCell ⟨g3,0,none⟩ v').heap.size):=by
      have a1:=Ad w3 g3 0 v';have bh:=a1.size;refine⟨v', ?_, ?_, ?_, ?_,by omega⟩
      . rw[heap_setCell_same _ g3 0 _ _ _ O];rfl
      . rw[Aa bw,Uj];refine aw.kept a1 ?_
        cases ah:v'.ownBlock with
        |none=>exact .inl rfl
        |some g=>
         refine .inr (fun e=> ?_);have:=(aw.lt g ah).1
         cases e
         omega
      . intro j aa Y;rw[a1.block j (by omega) (fun e=>Y (VM e)),ao.block j (by simp;omega) (fun e=>by have:=Aa av j e.symm;omega),Below.heap_alloc wr _ j (by omega)];exact Aa bn j aa Y
      . have b1:=(Aa ar).alloc (by omega) (.cells #[.int .u8 (x:Int),.int .i64 0,.int .i64 0] 244);have b2:=b1.grown ao (by simp;omega) (fun g e=>by have:=Aa av g e;omega);exact b2.grown a1 (by omega) (fun g e=>by have:=VM e;omega)
     obtain⟨ed,dw,cz,_,_⟩:=Ba aw (by omega);subst cz;clear aw ao dc O c0 f0 cb bo b5 av ap bn ar bw bq;go_wp2;go_roundw
     case rel=>exact⟨k+1,by omega,by go_num,az⟩
     case measure=>simp[intOf];omega
   . obtain rfl:k=M:=by omega
     have e:bs.take k=bs:=VV (by rw[Aa aj];exact VB _);rw[e]at T;obtain⟨F,c1,rfl⟩:=An T;have a9:wr.heap[ga]? =some (.cells (madeCells #[Value.int .i64 0] N) 3 (0,0)):=(ae ga la (fun e=>Y.1 e.symm)).trans (Aa af).ra;have b3:wr.heap[gb]? =some (.cells (madeCells #[Value.int .i64 0] 1) 3 (0,0)):=(ae gb lb (fun e=>Y.2.1 e.symm)).trans (Aa af).rb;have bv:wr.heap[w.heap.size]? =some (.cells #[.slice none 0 0,.slice none 0 0,.slice none 0 0] 256 (0,0)):=(ae _ c7 (by omega)).trans (Aa af).res;obtain⟨E,ay⟩:∃E:List Int,E=List.replicate 257 8:=⟨_,rfl⟩
     have bf:E.length=257:=by rw[ay];simp
     have bd:∀j,j<257->E.getD j 0=8:=fun j aa=>by rw[ay];simp only[List.getD];rw[List.getElem?_replicate,if_pos aa];rfl
     have cq:=Ab ay;have a7:=Ab bd;have dz:wr.cell? ⟨g3,1,none⟩=some (.slice (some ⟨ga,0,none⟩) 257 257):=Ac ac
     have ce:Hid (ARow 3 wr ga (E.take 0++List.replicate (E.length-0) 0)):=Ab (by
      rw[List.take_zero,List.nil_append,bf];unfold ARow;rw[a9,Aa b7]
      congr 2
      exact Array.toList_inj.1 (Rh 257))
     have a3:Hid (TokIn wr F (Gf bs)/\∀b o,F=some ⟨b,o,none⟩->Gf bs≠ []->I.heap.size<=b/\b<wr.heap.size):=by
      obtain⟨dv,dn,c2,e2,cy⟩:=TokIn.ofOwn T
      cases e2
      refine⟨cy,fun b o e _=> ?_⟩;subst e;exact T.lt b rfl
     have ap:=Ab ac;have cp:=Ab b3;have cw:=Ab bv;have ar:=Ab al;clear hr ac T ae al e a9 b3 bv ay bd;generalize wr=H at*;go_wp2;go_loopw [27] (fun v wr=>∃q:Nat,q<=257/\v=.int .i64 (q:Int)/\Hid (ARow 3 wr ga (E.take q++List.replicate (E.length-q) 0)/\(∀j,j<H.heap.size->j≠ga->wr.heap[j]? =H.heap[j]?)/\Below w.heap.size w wr/\H.heap.size<=wr.heap.size)) (fun v _=>257-(intOf v).toNat)
     case atStart=>exact⟨0,by decide,rfl,Ab ⟨Aa ce,fun j _ _=>rfl,Aa ar,VB _⟩⟩
     case round=>
      obtain⟨q,df,rfl,hr⟩:=hrel;obtain⟨G,ag,ak,dx⟩:=Aa hr;have O:wr.heap[g3]? =some (.cells #[.slice F k c1,.slice (some ⟨ga,0,none⟩) 257 257,.slice (some ⟨gb,0,none⟩) 1 1] 256 (0,0)):=(ag g3 (by omega) Y.1).trans (Aa ap);have x1:wr.cell? ⟨g3,1,none⟩=some (.slice (some ⟨ga,0,none⟩) 257 257):=Ac O
      by_cases c9:q<257
      . have cd:(E.take q++List.replicate (E.length-q) 0).length=257:=by simp;omega
        have c:=G.cell q (by omega);have f:=G.frozen q
        have cu:Hid (ARow 3 (wr.setCell ⟨ga,q,none⟩ (.int .i64 8)) ga (E.take (q+1)++List.replicate (E.length-(q+1)) 0)/\(∀j,j<H.heap.size->j≠ga->(wr.setCell ⟨ga,q,none⟩ (.int .i64 8)).heap[j]? =H.heap[j]?)/\Below w.heap.size w (wr.setCell ⟨ga,q,none⟩ (.int .i64 8))/\H.heap.size<=(wr.setCell ⟨ga,q,none⟩ (.int .i64 8)).heap.size):=by
         have a4:=Ad wr ga q (.int .i64 8);have bh:=a4.size;refine⟨?_,fun j aa hn=>(a4.block j (by omega) (fun e=>hn (VM e))).trans (ag j aa hn),ak.grown a4 (by omega) (fun j e=>by have:=VM e;omega),by omega⟩;have:=G.set q 8
         have bb:(8:Int)=E.getD q 0:=(Aa a7 q c9).symm;rw[bb,Xn E q (by omega)]at this;rw[bb];exact this
        have d7:(q:Int)<257:=by omega
        clear hr G ag ak cd O;generalize (E.take q++List.replicate (E.length-q) 0).getD q 0=old at c;go_wp2;go_roundw
        case rel=>exact⟨q+1,by omega,by go_num,cu⟩
        case measure=>simp[intOf];omega
      . obtain rfl:q=257:=by omega
        rw[VV (by omega),bf,XW]at G;simp only[ZI,XA]at G;have dd:=G.cell 255 (by omega);have ci:=G.cell 256 (by omega);have dp:=G.frozen 255;have dr:=G.frozen 256;rw[Aa a7 255 (by decide)]at dd;rw[Aa a7 256 (by decide)]at ci;have d5:=Ab G;have d9:=Ab ag;have dq:=Ab ak;have dt:=Ab O;have ds:(⟨ga,256,none⟩:Addr)≠⟨ga,255,none⟩:=by intro h;injection h;omega
        have c6:Hid (ARow 3 ((wr.setCell ⟨ga,255,none⟩ (.int .i64 9)).setCell ⟨ga,256,none⟩ (.int .i64 9)).drew ga Ks/\(∀j,j<H.heap.size->j≠ga->((wr.setCell ⟨ga,255,none⟩ (.int .i64 9)).setCell ⟨ga,256,none⟩ (.int .i64 9)).drew.heap[j]? =H.heap[j]?)/\Below w.heap.size w ((wr.setCell ⟨ga,255,none⟩ (.int .i64 9)).setCell ⟨ga,256,none⟩ (.int .i64 9)).drew/\H.heap.size<=((wr.setCell ⟨ga,255,none⟩ (.int .i64 9)).setCell ⟨ga,256,none⟩ (.int .i64 9)).drew.heap.size):=by
         have g1:=Ad wr ga 255 (.int .i64 9);have g2:=Ad (wr.setCell ⟨ga,255,none⟩ (.int .i64 9)) ga 256 (.int .i64 9);have a8:=Aj g1 g2;have bh:=a8.size;refine⟨?_,fun j aa hn=>(a8.block j (by omega) (fun e=>hn (VM e))).trans (ag j aa hn),Ae (ak.grown a8 (by omega) (fun j e=>by have:=VM e;omega)) 1,by show H.heap.size<=(World.setCell _ _ _).heap.size;omega⟩;have:=(G.set 255 9).set 256 9
         have c5:(E.set 255 9).set 256 9=Ks:=by rw[Aa cq];decide+kernel
         rw[c5]at this;exact this
        clear hr G ag ak O;generalize wr=w6 at*;go_upto_region 12 with (fail)
        go_cut [] (fun wc=>ARow 3 wc ga Ks/\(∀j,j<H.heap.size->j≠ga->wc.heap[j]? =H.heap[j]?)/\Below w.heap.size w wc/\H.heap.size<=wc.heap.size)
        case first=>
         go_big_region
         all_goals go_wp2_with fail
         all_goals go_meet
         all_goals exact Aa c6
        case rest=>
         obtain⟨ba,ai,b4,dy⟩:=hcut;have ax:wc.heap[g3]? =some (.cells #[.slice F k c1,.slice (some ⟨ga,0,none⟩) 257 257,.slice (some ⟨gb,0,none⟩) 1 1] 256 (0,0)):=(ai g3 (by omega) Y.1).trans (Aa ap);have U:wc.heap[w.heap.size]? =some (.cells #[.slice none 0 0,.slice none 0 0,.slice none 0 0] 256 (0,0)):=(ai _ (by omega) (by omega)).trans (Aa cw);have eb:wc.cell? ⟨g3,0,none⟩=some (.slice F k c1):=Ac ax;have y1:wc.cell? ⟨g3,1,none⟩=some (.slice (some ⟨ga,0,none⟩) 257 257):=Ac ax;have y2:wc.cell? ⟨g3,2,none⟩=some (.slice (some ⟨gb,0,none⟩) 1 1):=Ac ax;have r0:wc.cell? ⟨w.heap.size,0,none⟩=some (.slice none 0 0):=Ac U;have r1:wc.cell? ⟨w.heap.size,1,none⟩=some (.slice none 0 0):=Ac U;have r2:wc.cell? ⟨w.heap.size,2,none⟩=some (.slice none 0 0):=Ac U;have f0:=frozen_of_row wc w.heap.size 0 _ _ U;have f1:=frozen_of_row wc w.heap.size 1 _ _ U;have f2:=frozen_of_row wc w.heap.size 2 _ _ U;obtain⟨bj,au,dj,bz⟩:=Qe U (.slice F k c1) (.slice (some ⟨ga,0,none⟩) 257 257) (.slice (some ⟨gb,0,none⟩) 1 1)
         have az:Hid (PlanIs (((wc.setCell ⟨w.heap.size,0,none⟩ (.slice F k c1)).setCell ⟨w.heap.size,1,none⟩ (.slice (some ⟨ga,0,none⟩) 257 257)).setCell ⟨w.heap.size,2,none⟩ (.slice (some ⟨gb,0,none⟩) 1 1)) F k ga 257 gb 1 (Gf bs) Ks Sc/\Below w.heap.size w (((wc.setCell ⟨w.heap.size,0,none⟩ (.slice F k c1)).setCell ⟨w.heap.size,1,none⟩ (.slice (some ⟨ga,0,none⟩) 257 257)).setCell ⟨w.heap.size,2,none⟩ (.slice (some ⟨gb,0,none⟩) 1 1))):=by
          refine⟨⟨by rw[Oc,Aa aj],cm,DF (Aa a2), ?_,DE (Aa a2),Mp,Sb,by omega,by omega, ?_, ?_⟩,bz b4 (VB _)⟩
          . refine Z2b (Aa a3).1 (by omega) (fun b o ea co hb=> ?_);have:=(Aa a3).2 b o ea co
            rw[au b (by omega) (by omega)];exact ai b (by omega) (by omega)
          . exact BM ba.row (au ga (by omega) (by omega))
          . have db:ARow 3 wc gb Sc:=by
             unfold ARow;rw[ai gb (by omega) (fun e=>Y.2.2 e.symm),Aa cp]
             congr 2
             exact Array.toList_inj.1 (Rh 1)
            exact BM db.row (au gb (by omega) (by omega))
         have cn:=Ab bj;clear ba ai b4 ax U bj au bz;go_wp2;refine bodyPost_ret (v:=.agg #[.slice F k c1,.slice (some ⟨ga,0,none⟩) 257 257,.slice (some ⟨gb,0,none⟩) 1 1]) ?_ rfl ⟨F,c1,ga,gb,rfl,(Aa az).1,by omega,by omega,fun b o e hn=>by have:=(Aa a3).2 b o e hn;omega,(Aa az).2⟩;exact results_cell_row rfl _ _ _ _ _ _ _ rfl (Aa cn) Tryz.underlying256 rfl (by kernel_rfl)
theorem EP (a:Option Addr)(n F:Nat)(bs:List Nat)(w:World)(M:bs.length=n)(ac:n<=3000)(Y:n<=F)(U:BytesIn w a bs)(Z:∀j,bs.getD j 0<256)(H:Nat)(I:Hid ((Gi bs).length=H)):
 Calls Tryz.prog 149 #[.slice a n F] w fun e w'=>∃E c1,e=.returned (.tuple #[.slice E H c1,.int .i64 0])/\TokIn w' E (Gi bs)/\(∀b o,E=some ⟨b,o,none⟩->Gi bs≠ []->w.heap.size<=b/\b<w'.heap.size)/\Below w.heap.size w w':=by
 by_cases aa:n=0
 . subst aa;obtain rfl:bs= []:=WV M;obtain rfl:0=H:=Aa I;refine(R4 a F w).mono ?_;rintro e w' ⟨rfl,h⟩;exact⟨none,0,rfl,.inl rfl,(fun b o e=>by cases e),h⟩
 . obtain⟨b,o,rfl,hb,T⟩:=Dz U (by omega);refine(R3 b o n F bs w M ac Y hb T Z).mono ?_;rintro e w' ⟨v,rfl,G,h⟩;obtain⟨ae,E,c1,rfl,O⟩:=TokIn.ofOwn G;rw[Aa I]at G ⊢;refine⟨E,c1,rfl,O,fun b o e _=> ?_,h⟩;subst e;exact G.lt b rfl
theorem W4 (No:Nat->Prop)(B I:Nat)(S:List Bool)(w:World)(Z:RIs No B w I S)(ar:∀g,w.heap.size<=g->¬No g)(a:Option Addr)(F af H U ag O Y ai:Nat)(ts:List Tk)(M G:List Int)(W:World)(E:PlanIs W a F H U O Y ts M G)(T:Below w.heap.size w W)(aw:w.heap.size<=H)(al:w.heap.size<=O)(ao:∀b o,a=some ⟨b,o,none⟩->ts≠ []->No b\/w.heap.size<=b)(aj:S.length+60*F<=277000):
 Calls Tryz.prog 186 #[.agg #[.slice a F af,.slice (some ⟨H,0,none⟩) U ag,.slice (some ⟨O,0,none⟩) Y ai],.pointer (some ⟨I,0,none⟩)] W fun e w'=>e=.returned (.tuple #[])/\(Ga M G ts).length<=2300+60*F/\Rp No B w I (S++Ga M G ts) w':=by
 have a1:=T.size;have a2:=Z.base;have az:=Z.lt;have m1:=E.m1;have m2:=E.m2;refine(Qz (fun g=>No g\/ (w.heap.size<=g/\g<W.heap.size)) B I a F af H U ag O Y ai ts M G S W (Z.grow T (fun g e=>by rcases e with e|e;exact .inl e;exact .inr e.1)) E (fun b o e ah=> ?_) (.inr ⟨aw,m1⟩) (.inr ⟨al,m2⟩) (fun g ae e=> ?_) aj).mono ?_
 . rcases ao b o e ah with ac|ac
   . exact .inl ac
   . rcases E.tok with ap|⟨ay,ax,au,av,_⟩
     . exact absurd ap ah
     . rw[au]at e
       cases e
       exact .inr ⟨ac,av⟩
 . rcases e with e|e
   . exact ar g (by omega) e
   . omega
 . rintro e w' ⟨rfl,ak,aa⟩;refine⟨rfl, ?_,aa.is.grow (Below.refl _ _) (fun g e=>.inl (.inl e)),(T.mono (by omega)).trans aa.below,fun g ae hn=>(aa.kp g (by omega) (.inl hn)).trans (T.block g ae)⟩;have:=C9 E.d E.tv ak
   rw[E.tl]at this;exact this
theorem Tj (No:Nat->Prop)(B a6:Nat)(a H:Option Addr)(n b3 G T:Nat)(bs:List Nat)(S:List Bool)(w:World)(h:RIs No B w a6 S)(bq:bs.length=n)(dm:n<=3000)(cm:BytesIn w a bs)(ag:∀j,bs.getD j 0<256)(bf:TokIn w H (Gi bs))(bz:(Gi bs).length=G)(ek:G<=n)(ci:∀b o,H=some ⟨b,o,none⟩->Gi bs≠ []->No b)(c6:∀g,w.heap.size<=g->¬No g)(eb:S.length+60*n<=277000):
 Calls Tryz.prog 151 #[.pointer (some ⟨a6,0,none⟩),.slice a n b3,.slice H G T] w fun e w'=>e=.returned (.tuple #[])/\(IK bs).length<=2300+60*n/\Rp No B w a6 (S++IK bs) w':=by
 have eo:=h.lt;have em:=h.base;have ay:=Ab (B7 H G T (Gi bs) w bz (by omega) (Wz ag (by omega)) bf);have a1:=Ab (fun W (ac:Below w.heap.size w W)=>Z1p a n b3 bs W bq dm (cm.below ac (VB _)) ag);have eg:=Ab h;have cg:=Ab ci;have dq:=Ab c6;have dz:=Ab bf;have dw:=Ab bq;have d5:=Ab bz;have co:IK bs=if (Ga Ks Sc (Gf bs)).length<(Ga (TS (Gi bs)) (Z1n (Gi bs)) (Gi bs)).length then Ga Ks Sc (Gf bs)else Ga (TS (Gi bs)) (Z1n (Gi bs)) (Gi bs):=by unfold IK;congr
 have aa:=Ab co;have bi:=Ab (DE ag);have dv:=Ab (DF ag);have dr:=Ab (Wz ag (by omega:bs.length<=3000));clear h ci c6 bf cm ag bq bz co;obtain⟨ts,b0⟩:=exq (Gi bs);obtain⟨es,bv⟩:=exq (Gf bs);obtain⟨ak,cy⟩:=exq (TS ts);obtain⟨ax,cd⟩:=exq (Z1n ts);rw[b0]at ay cg dz aa d5 dr;rw[bv]at a1 aa bi dv;rw[cy]at ay aa;rw[cd]at ay aa;have eh:es.length=n:=by rw[<-bv,Oc];exact Aa dw
 obtain⟨au,dc⟩:=exq (Ks);obtain⟨ar,b9⟩:=exq (Sc);rw[dc]at a1 aa bi;rw[b9]at a1 aa bi;clear b0 bv cy cd dc b9;go_enter Tryz.func151,Tryz.ntmps151
 go_wp2_with fail
 refine(Aa ay).mono ?_;rintro e a3 ⟨b1,n1,b2,n2,rfl,c5,d8,a9,bk⟩;have ct:=Ab c5;have bb:=Ab bk;have cn:=bk.size;clear c5 bk ay;go_wp2_with fail
 refine(Aa a1 _ ((Aa bb).alloc cn _)).mono ?_;rintro e I ⟨U,Z,O,M,rfl,b7,ee,d9,bd,ai⟩;have dt:=ai.size;simp only[World.size_alloc]at dt ee d9 bd;have ce:Hid (PlanIs I H G b1 n1 b2 n2 ts ak ax):=Ab (((Aa ct).below ((Below.refl a3.heap.size a3).alloc (VB _) _)).below ai);have cu:I.heap[a3.heap.size]? =some (.cells #[.slice H G T,.slice (some ⟨b1,0,none⟩) n1 286,.slice (some ⟨b2,0,none⟩) n2 30] 256 (0,0)):=(ai.block _ (by simp)).trans (heap_alloc_new _ _);have cv:Hid (Below w.heap.size w I):=Ab (((Aa bb).alloc cn _).trans (ai.mono (by simp;omega)));have cw:=Ab b7;have c7:=Ab bd;have cq:=Ab cu;clear b7 ai ct bb a1 bd cu;have cj:=Ab (fun ds l1 c1 x1 y1 di x2 y2 de bu dx ed (W:World) hP ac k1 k2 ka kS=>W4 No B a6 S w (Aa eg) (Aa dq) ds l1 c1 x1 y1 di x2 y2 de bu dx ed W hP ac k1 k2 ka kS);obtain⟨db,bm⟩:=exq ((Ga au ar es).length);obtain⟨cz,bn⟩:=exq ((Ga ak ax ts).length);go_upto_region 2 with (fail)
 generalize a4:I.alloc _=E;have du:I.heap.size<E.heap.size:=by rw[<-a4];simp
 have aj:E.heap[I.heap.size]? =some (.cells #[.slice U n Z,.slice (some ⟨O,0,none⟩) 257 257,.slice (some ⟨M,0,none⟩) 1 1] 256 (0,0)):=by rw[<-a4];exact heap_alloc_new _ _
 have ao:Below I.heap.size I E:=by rw[<-a4];exact(Below.refl I.heap.size I).alloc (VB _) _
 have av:=(ao.block _ (by omega)).trans (Aa cq);have b5:=Ab ((Aa ce).below ao);have dd:=Ab ((Aa cw).below ao);have c8:=Ab ((Aa cv).trans (ao.mono (by omega)));clear a4 ao ce cw cv cq;generalize dy:I.heap.size=Y at*;generalize dn:a3.heap.size=g6 at*;have lt7:Y<E.heap.size:=du;have dh:g6<E.heap.size:=by omega
 have ej:g6≠Y:=by omega
 clear dy dn;have bw:Hid (∀W,Below E.heap.size E W->W.heap[g6]? =some (.cells #[.slice H G T,.slice (some ⟨b1,0,none⟩) n1 286,.slice (some ⟨b2,0,none⟩) n2 30] 256 (0,0))/\W.heap[Y]? =some (.cells #[.slice U n Z,.slice (some ⟨O,0,none⟩) 257 257,.slice (some ⟨M,0,none⟩) 1 1] 256 (0,0))):=fun W ac=>⟨(ac.block _ dh).trans av,(ac.block _ lt7).trans aj⟩
 have bc:E.cell? ⟨g6,0,none⟩=some (.slice H G T):=Ac av;have x1:E.cell? ⟨g6,1,none⟩=some (.slice (some ⟨b1,0,none⟩) n1 286):=Ac av;have x2:E.cell? ⟨g6,2,none⟩=some (.slice (some ⟨b2,0,none⟩) n2 30):=Ac av;have da:E.cell? ⟨Y,0,none⟩=some (.slice U n Z):=Ac aj;have y1:E.cell? ⟨Y,1,none⟩=some (.slice (some ⟨O,0,none⟩) 257 257):=Ac aj;have y2:E.cell? ⟨Y,2,none⟩=some (.slice (some ⟨M,0,none⟩) 1 1):=Ac aj;clear av aj;have bo:=Ab (fun k=>Nx U n Z O 257 257 M 1 1 es au ar (E.drewN k) ((Aa dd).below (Ae (Below.refl _ _) k)));have bg:=Ab (fun(W:World) (ac:Below E.heap.size E W)=>Nx H G T b1 n1 286 b2 n2 30 ts ak ax W ((Aa b5).below ac));rw[bm]at bo;rw[bn]at bg;have c9:=Ab bm;have b8:=Ab bn;clear bm bn;go_cut [16] (fun v wc=>v=.bool (decide (db<cz))/\Hid (Below E.heap.size E wc))
 case first=>
  go_region_with (first|(go_at_call 185;refine(Aa bg _ (Aa a7)).mono ?_;rintro e ei ⟨rfl,df,a9⟩;have dj:=Ab ((Aa a7).trans (a9.mono (Aa a7).size));clear df a9)|(go_at_call 185;refine(Aa bo _).mono ?_;rintro e ba ⟨rfl,d6,cp⟩;have a7:=Ab ((Ae (Below.refl E.heap.size E) _).trans cp);obtain⟨F,ae⟩:=Aa bw ba (Aa a7);have u0:ba.cell? ⟨g6,0,none⟩=some (.slice H G T):=Ac F;have u1:ba.cell? ⟨g6,1,none⟩=some (.slice (some ⟨b1,0,none⟩) n1 286):=Ac F;have u2:ba.cell? ⟨g6,2,none⟩=some (.slice (some ⟨b2,0,none⟩) n2 30):=Ac F;clear d6 cp F ae))
  all_goals go_wp2_with fail
  all_goals go_meet
  all_goals exact⟨rfl,dj⟩
 case rest=>
  obtain⟨rfl,ah⟩:=hcut;obtain⟨F,ae⟩:=Aa bw wc (Aa ah);have dl:=(Aa c8).size;have en:=(Aa ah).size;have b4:=Ab ((Aa c8).trans ((Aa ah).mono dl));clear bc x1 x2 da y1 y2 bo bg bw
  by_cases af:db<cz
  . have az:=decide_eq_true af;rw[az];have bj:Hid (IK bs=Ga au ar es):=Ab (by rw[Aa aa,Aa c9,Aa b8,if_pos af]);obtain⟨bu,a5,dp,ck⟩:=Qe F (.slice U n Z) (.slice (some ⟨O,0,none⟩) 257 257) (.slice (some ⟨M,0,none⟩) 1 1)
    have a8:Hid (PlanIs (((wc.setCell ⟨g6,0,none⟩ (.slice U n Z)).setCell ⟨g6,1,none⟩ (.slice (some ⟨O,0,none⟩) 257 257)).setCell ⟨g6,2,none⟩ (.slice (some ⟨M,0,none⟩) 1 1)) U n O 257 M 1 es au ar/\Below w.heap.size w (((wc.setCell ⟨g6,0,none⟩ (.slice U n Z)).setCell ⟨g6,1,none⟩ (.slice (some ⟨O,0,none⟩) 257 257)).setCell ⟨g6,2,none⟩ (.slice (some ⟨M,0,none⟩) 1 1))):=by
     have bh:=(Aa dd).below (Aa ah);refine⟨bh.keep (by omega) (fun b o ea aw hb=> ?_) (a5 O bh.m1 (by omega)) (a5 M bh.m2 (by omega)),ck (Aa b4) (by omega)⟩;have:=Aa c7 b o ea aw
     exact a5 b hb (by omega)
    have bc:wc.cell? ⟨g6,0,none⟩=some (.slice H G T):=Ac F;have x1:wc.cell? ⟨g6,1,none⟩=some (.slice (some ⟨b1,0,none⟩) n1 286):=Ac F;have x2:wc.cell? ⟨g6,2,none⟩=some (.slice (some ⟨b2,0,none⟩) n2 30):=Ac F;have f0:=frozen_of_row wc g6 0 _ _ F;have f1:=frozen_of_row wc g6 1 _ _ F;have f2:=frozen_of_row wc g6 2 _ _ F;have da:wc.cell? ⟨Y,0,none⟩=some (.slice U n Z):=Ac ae;have y1:wc.cell? ⟨Y,1,none⟩=some (.slice (some ⟨O,0,none⟩) 257 257):=Ac ae;have y2:wc.cell? ⟨Y,2,none⟩=some (.slice (some ⟨M,0,none⟩) 1 1):=Ac ae;clear bu a5 dp ck F ae az af;go_wp2_with fail
    refine(Aa cj U n Z O 257 257 M 1 1 es au ar _ (Aa a8).1 (Aa a8).2 (by omega) (by omega) (fun b o e aw=>.inr (by have:=Aa c7 b o e aw;omega)) eb).mono ?_;rintro e d7 ⟨rfl,ap,al⟩;have a2:=Ab (And.intro ap al);clear ap al;go_wp2;go_end0
    rw[Aa bj];exact⟨rfl,Aa a2⟩
  . have az:=decide_eq_false af;rw[az];have bj:Hid (IK bs=Ga ak ax ts):=Ab (by rw[Aa aa,Aa c9,Aa b8,if_neg af]);have a8:=Ab ((Aa b5).below (Aa ah));have bc:wc.cell? ⟨g6,0,none⟩=some (.slice H G T):=Ac F;have x1:wc.cell? ⟨g6,1,none⟩=some (.slice (some ⟨b1,0,none⟩) n1 286):=Ac F;have x2:wc.cell? ⟨g6,2,none⟩=some (.slice (some ⟨b2,0,none⟩) n2 30):=Ac F;clear F ae az af;go_wp2_with fail
    refine(Aa cj H G T b1 n1 286 b2 n2 30 ts ak ax _ (Aa a8) (Aa b4) d8 a9 (fun b o e aw=>.inl (Aa cg b o e aw)) (by omega)).mono ?_;rintro e d7 ⟨rfl,ap,al⟩;have a2:=Ab (And.intro ap al);clear ap al;go_wp2;go_end0
    rw[Aa bj];exact⟨rfl,by have:=(Aa a2).1;omega,(Aa a2).2⟩
end Go.Proofs.YtleocpdblhbimaaGreatDoor
