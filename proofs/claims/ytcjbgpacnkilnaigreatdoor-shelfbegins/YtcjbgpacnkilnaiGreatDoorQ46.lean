import Derived.Test.YtcjbgpacnkilnaiGreatDoorQ45
import Derived.Deep.OwnRows
set_option maxHeartbeats 2000000
namespace Go.Proofs.YtcjbgpacnkilnaiGreatDoor
open Go.RowKit
set_option linter.unusedVariables false
set_option maxRecDepth 100000
theorem Pas.turn {No No':Nat->Prop}{W w3:World}{p mb base b o n cap kn:Nat}{bs:List Nat}{r:Option Nat}(h:Pas No W p mb base b o n cap bs kn)(h3:Pas No w3 p mb base b o n cap bs kn)(hg:W.grownBy w3 r)(hr:some mb≠r)(hn:∀g,No' g->No g\/W.heap.size<=g):Pas No' w3 p mb base b o n cap bs kn:=
 ⟨h3.pst,h3.grp,(h.more hn).shun.kept hg h.grp.lt.2 hr,h3.row,h3.size⟩
theorem Vv (W:World)(x y z:Value)(t:TypeId):∀j u,[x,y,z][j]? =some u->(W.alloc (.cells #[x,y,z] t)).cell? ((⟨W.heap.size,0,none⟩:Addr).add j)=some u:=by
 intro j u hj;have e:(⟨W.heap.size,0,none⟩:Addr).add j=⟨W.heap.size,j,none⟩:=by unfold Addr.add;split<;>simp_all
 rw[e,World.cell?_alloc_at _ _ _ _ rfl]
 match j,hj with
 |0,hj=>simpa using hj
 |1,hj=>simpa using hj
 |2,hj=>simpa using hj
theorem Z05 (a:Option Addr)(cap:Nat)(w:World):Calls Tryz.prog 77 #[.slice a 0 cap] w fun e w'=>e=.returned (.tuple #[.slice none 0 0,.int .i64 0])/\Below w.heap.size w w':=by
 have HB:=Ab (((Below.refl w.heap.size w).alloc (Nat.le_refl _) (.map #[] 0)).alloc (by simp) (.cells #[.slice a 0 cap,.map (some w.heap.size),.int .i64 0] 179));go_enter Tryz.func77,Tryz.ntmps77
 go_wp2_with fail
 refine(Oq a 0 cap w).mono ?_;rintro e w1 ⟨rfl,rfl⟩;go_wp2;go_loop [4,6] (fun v4 v6=>v4=.slice none 0 0/\v6=.int .i64 0) (fun _ _=>0)
 case atStart=>exact⟨rfl,rfl⟩
 case round=>
  obtain⟨rfl,rfl⟩:=hrel;go_wp2;go_ret2;exact⟨rfl,Aa HB⟩
theorem Z04 (b o n cap:Nat)(bs:List Nat)(w:World)(hl:bs.length=n)(hn:n<=3000)(hcap:n<=cap)(hb:b<w.heap.size)(hB:Bytes w b o bs)(hx:∀j,bs.getD j 0<256):
 Calls Tryz.prog 77 #[.slice (some ⟨b,o,none⟩) n cap] w fun e w'=>∃v,e=.returned (.tuple #[v,.int .i64 0])/\w'.ownsRow w.heap.size 153 3 v (Ff bs).length (tvs (Ff bs))/\Below w.heap.size w w':=by
 obtain⟨i0,hi,hz0,hz1,hz2⟩:=info_parts Z35;have HL:=Ab hl;have HX:=Ab hx;have HGg:Hid (∀No:Nat->Prop,¬No (w.heap.size+1)->¬No w.heap.size->Geo No w.heap.size (w.heap.size+1) w.heap.size (w.heap.size+2) b bs):=fun No h1 h2=>⟨hb,by omega,Nat.le_refl _,by omega,by omega,h1,h2,by omega,hx⟩
 have HP0:Hid (Pas (fun g=>(Value.slice none 0 0).ownBlock=some g) ((w.alloc (.map #[] 0)).alloc (.cells #[.slice (some ⟨b,o,none⟩) n cap,.map (some w.heap.size),.int .i64 0] 179)) (w.heap.size+1) w.heap.size (w.heap.size+2) b o n cap bs 0):=by
  have hg:=World.grownBy_alloc (w.alloc (.map #[] 0)) (.cells #[.slice (some ⟨b,o,none⟩) n cap,.map (some w.heap.size),.int .i64 0] 179) none;refine⟨?_,(Grp.made w (w.heap.size+2) bs (by omega)).kept hg (fun j e=>by cases e),(World.Shuns_made w _).kept hg (by simp) (by simp), ?_,by simp⟩
  . have:=heap_alloc_new (w.alloc (.map #[] 0)) (.cells #[.slice (some ⟨b,o,none⟩) n cap,.map (some w.heap.size),.int .i64 0] 179)
    rw[World.size_alloc]at this;exact this
  . exact(hB.grown (World.grownBy_alloc w _ none) (by simp)).grown hg (by simp)
 have HB0:=Ab (((Below.refl w.heap.size w).alloc (Nat.le_refl _) (.map #[] 0)).alloc (by simp) (.cells #[.slice (some ⟨b,o,none⟩) n cap,.map (some w.heap.size),.int .i64 0] 179));clear hB hx;go_enter Tryz.func77,Tryz.ntmps77
 go_wp2_with fail
 refine(Oq (some ⟨b,o,none⟩) n cap w).mono ?_;rintro e w1 ⟨rfl,hw1⟩;have HP1:Hid (Pas (fun g=>(Value.slice none 0 0).ownBlock=some g) w1 (w.heap.size+1) w.heap.size (w.heap.size+2) b o n cap bs 0):=by rw[hw1];exact Aa HP0
 have HB1:Hid (Below w.heap.size w w1):=by rw[hw1];exact Aa HB0
 clear hw1 HP0 HB0;have HT:Hid (∀l,l=Ff bs->l=Ff bs):=fun l h=>h
 generalize hT:Ff bs=T at*;have HTT:=Ab hT;clear hT HT;go_wp2;go_loopw [4,6] (fun v4 v6 wr=>∃(k fuel kn:Nat) (acc:List Tk),k<=n/\v6=.int .i64 (k:Int)/\acc++tks bs fuel k=T/\n<=k+fuel/\acc.length<=k/\kn<=k/\wr.ownsRow (w.heap.size+2) 153 3 v4 acc.length (tvs acc)/\Pas (fun g=>v4.ownBlock=some g) wr (w.heap.size+1) w.heap.size (w.heap.size+2) b o n cap bs kn/\Below w.heap.size w wr) (fun _ v6 _=>n-(intOf v6).toNat)
 case atStart=>exact⟨0,n,0,[],Nat.zero_le _,rfl,by rw[<-Aa HTT];simp[Ff,Aa HL],by omega,Nat.le_refl _,Nat.le_refl _,World.ownsRow_nil _ _ _ _,Aa HP1,Aa HB1⟩
 case round=>
  obtain⟨k,fuel,kn,acc,hk,rfl,hT,hf,hak,hkn,hO,hP,hBr⟩:=hrel;have hT2:=Ab hT;have HO:=Ab hO;have HP:=Ab hP;have HBr:=Ab hBr;have hzr:=hBr.size;have hsz2:=hP.size;clear hT
  by_cases hlt:k<n
  . obtain⟨fuel',hs1,hs2⟩:=Zc1 bs fuel k (by omega) (by omega);have hw:=Mp bs k (by omega);have hright:=Ri bs k (by omega);have hmx:=Zf9 hright;have hwle:=Zhu hright;obtain⟨tb,ts,tf,ht⟩:∃tb ts tf,Nv bs k=(tb,ts,tf):=⟨_,_,_,rfl⟩
    have HTk:=Ab ht;have hmx':max ts 1=((wid (Nv bs k):Nat):Int):=by rw[ht]at hmx ⊢;exact hmx
    have HTn:Hid ((acc++ [(tb,ts,tf)])++tks bs fuel' (k+wid (Nv bs k))=T):=by
     rw[<-Aa hT2,hs1,ht,List.append_assoc];rfl
    generalize wid (Nv bs k)=wd at*
    have HNo:Hid (∀g,wr.heap.size<=g->¬(u4.ownBlock=some g)):=fun g hg e=>by
     have:=(hO.lt g e).2
     omega
    have hnob:∀g,u4.ownBlock=some g->w.heap.size+2<=g:=fun g e=>(hO.lt g e).1
    have HNob:=Ab hnob;have HG:Hid (Geo (fun g=>u4.ownBlock=some g) w.heap.size (w.heap.size+1) w.heap.size (w.heap.size+2) b bs):=Aa HGg _ (fun e=>by have:=hnob _ e;omega) (fun e=>by have:=hnob _ e;omega);clear hO hP hBr hmx hright hs1 ht hnob;go_wp2_with fail
    refine(Z7b _ w.heap.size (w.heap.size+1) w.heap.size (w.heap.size+2) b o n cap kn k bs wr (Aa HG) (Aa HL) hcap (Aa HP) hkn hlt (Aa HNo) tb ts tf HTk).mono ?_;rintro e w2 ⟨rfl,⟨kn2,hk2,hP2⟩,hB2,hK2⟩;have hz2':=hB2.size;have HP2:=Ab hP2;have HB2:=Ab ((Aa HBr).trans hB2);have HO2:Hid (w2.ownsRow (w.heap.size+2) 153 3 u4 acc.length (tvs acc)):=Ap (Aa HO) (fun g hg=>hK2 g ((Aa HO).lt g hg).2 hg);clear hP2 hB2 hK2 HP HO HBr HP1 HB1;have HOw:=Ab (((Aa HO2).alloc (.cells #[.int .u8 (tb:Int),.int .i64 ts,.int .i64 tf] 153)).alloc (.cells #[.int .u8 (tb:Int),.int .i64 ts,.int .i64 tf] 153));have HPw:=Ab (((Aa HP2).grown (Aa HG) (World.grownBy_alloc w2 (.cells #[.int .u8 (tb:Int),.int .i64 ts,.int .i64 tf] 153) none) (fun j e=>by cases e)).grown (Aa HG) (World.grownBy_alloc _ (.cells #[.int .u8 (tb:Int),.int .i64 ts,.int .i64 tf] 153) none) (fun j e=>by cases e));have HBw:=Ab (((Aa HB2).alloc (by omega) (.cells #[.int .u8 (tb:Int),.int .i64 ts,.int .i64 tf] 153)).alloc (by simp;omega) (.cells #[.int .u8 (tb:Int),.int .i64 ts,.int .i64 tf] 153));have HCw:=Ab (Vv (w2.alloc (.cells #[.int .u8 (tb:Int),.int .i64 ts,.int .i64 tf] 153)) (.int .u8 (tb:Int)) (.int .i64 ts) (.int .i64 tf) 153);go_wp2_with (at_builtin;refine wpList_append_own_at _ rfl _ _ 133 rfl (w.heap.size+2) 153 i0 _ 3 24 Tryz.underlying133 hi hz0 hz1 hz2 rfl (by decide) u4 acc.length (tvs acc) rfl (Aa HOw) ⟨w2.heap.size+1,0,none⟩ 1 1 [.int .u8 (tb:Int),.int .i64 ts,.int .i64 tf] rfl rfl (by have:=Aa HCw;simp only[World.size_alloc]at this;exact this) (by intro u hu;simp at hu;rcases hu with rfl|rfl|rfl<;>rfl) (by unfold maxLen;omega) (by omega) (by simp;omega) ?_)
    intro v' w3 hO3 hgrow _ hspot;have hne:some w2.heap.size≠u4.ownBlock:=fun e=>by have:=((Aa HO2).lt _ e.symm).2;omega
    have q0:w3.cell? ⟨w2.heap.size,0,none⟩=some (.int .u8 (tb:Int)):=hgrow.cell (by simp) hne;have q1:w3.cell? ⟨w2.heap.size,1,none⟩=some (.int .i64 ts):=hgrow.cell (by simp) hne;have q2:w3.cell? ⟨w2.heap.size,2,none⟩=some (.int .i64 tf):=hgrow.cell (by simp) hne
    have HO3:Hid (w3.ownsRow (w.heap.size+2) 153 3 v' (acc++ [(tb,ts,tf)]).length (tvs (acc++ [(tb,ts,tf)]))):=by
     rw[Rc,List.length_append];exact hO3
    have HB3:=Ab ((Aa HBw).grown hgrow (by simp;omega) (fun g e=>by have:=Aa HNob g e;omega));have HP3a:=Ab ((Aa HPw).grown (Aa HG) hgrow (fun g e=>by have:=Aa HNob g e;exact⟨by omega,by omega,by omega,.inl e⟩))
    have HP3:Hid (Pas (fun g=>v'.ownBlock=some g) w3 (w.heap.size+1) w.heap.size (w.heap.size+2) b o n cap bs kn2):=(Aa HPw).turn (Aa HP3a) hgrow (fun e=>by have:=Aa HNob _ e.symm;omega) (fun g hg=>by
     rcases hspot with h|h
     . exact .inl (by rw[<-h];exact hg)
     . refine .inr ?_;have hg':v'.ownBlock=some g:=hg;rw[h]at hg';have:=Option.some.inj hg'
       simp only[World.size_alloc]at this ⊢;omega)
    clear hO3 hgrow hspot hne HP3a HPw HBw HOw HCw HP2 HB2 HO2;go_wp2_with fail
    refine(Z1j tb ts tf w3 wd hmx').mono ?_;rintro e w4 ⟨rfl,hg4⟩;have HO4:=Ab (Ju (Aa HO3) hg4);have HB4:=Ab (Lu (Aa HB3) hg4 (Aa HB3).size);have HP4:=Ab ((Aa HP3).grown (Aa HGg _ (fun e=>by have:=((Aa HO3).lt _ e).1;omega) (fun e=>by have:=((Aa HO3).lt _ e).1;omega)) hg4 (fun j e=>by cases e));clear hg4 q0 q1 q2;go_wp2;go_roundw
    case rel=>exact⟨k+wd,fuel',kn2,acc++ [(tb,ts,tf)],by omega,by go_num,Aa HTn,by omega,by simp;omega,by omega,Aa HO4,Aa HP4,Aa HB4⟩
    case measure=>simp[intOf];omega
  . obtain rfl:n=k:=by omega
    have e:acc=T:=by
     have:=Aa hT2
     rw[Zc2 bs fuel n (by omega),List.append_nil]at this;exact this
    have HO5:=Tr (Aa HO) (show w.heap.size<=w.heap.size+2 by omega);rw[e,<-Aa HTT]at HO5;have HO6:=Ab HO5;clear hO hP hBr HO5;go_wp2;go_ret2;exact⟨u4,rfl,Aa HO6,Aa HBr⟩
theorem TokIn.ofOwn {w:World}{B n:Nat}{v:Value}{l:List Tk}(h:w.ownsRow B 153 3 v n (tvs l)):l.length=n/\∃a c,v=.slice a n c/\TokIn w a l:=by
 have hn:l.length=n:=by have:=h.1;rw[Rb]at this;omega
 refine⟨hn, ?_⟩
 rcases h.2 with ⟨h1,h2⟩|⟨g,cap,cur,h1,_⟩
 . subst h2;exact⟨none,0,h1,.inl (List.eq_nil_of_length_eq_zero hn)⟩
 . subst h1;exact⟨_,_,rfl,TokIn.own h⟩
theorem Dk (w:World)(R X1 X2 X3:Obj):((((w.alloc R).alloc X1).alloc X2).alloc X3).drew.heap[w.heap.size]? =some R/\((((w.alloc R).alloc X1).alloc X2).alloc X3).drew.heap[w.heap.size+1]? =some X1/\((((w.alloc R).alloc X1).alloc X2).alloc X3).drew.heap[w.heap.size+1+1]? =some X2/\((((w.alloc R).alloc X1).alloc X2).alloc X3).drew.heap[w.heap.size+1+1+1]? =some X3/\Below w.heap.size w ((((w.alloc R).alloc X1).alloc X2).alloc X3).drew:=by
 refine⟨?_, ?_, ?_, ?_,Ae (((((Below.refl w.heap.size w).alloc (Nat.le_refl _) _).alloc (by simp) _).alloc (by simp;omega) _).alloc (by simp;omega) _) 1⟩
 all_goals (simp only[World.alloc,World.drew,Array.getElem?_push,Array.size_push];simp[Nat.add_assoc])
structure EvSt (w:World)(N:Nat)(W:World)(g3 ga gb:Nat):Prop where
 lo:w.heap.size<g3/\w.heap.size<ga/\w.heap.size<gb
 ne:g3≠ga/\g3≠gb/\ga≠gb
 blk:W.heap[g3]? =some (.cells #[.slice none 0 0,.slice (some ⟨ga,0,none⟩) 257 257,.slice (some ⟨gb,0,none⟩) 1 1] 165 (0,0))
 ra:W.heap[ga]? =some (.cells (madeCells #[Value.int .i64 0] N) 3 (0,0))
 rb:W.heap[gb]? =some (.cells (madeCells #[Value.int .i64 0] 1) 3 (0,0))
 res:W.heap[w.heap.size]? =some (.cells #[.slice none 0 0,.slice none 0 0,.slice none 0 0] 165 (0,0))
 bel:Below w.heap.size w W
theorem Zdw (a:Option Addr)(len cap:Nat)(bs:List Nat)(w:World)(hl:bs.length=len)(hlen:len<=3000)(hB:BytesIn w a bs)(hx:∀j,bs.getD j 0<256):
 Calls Tryz.prog 96 #[.slice a len cap] w fun e w'=>∃a1 c1 b1 b2,e=.returned (.agg #[.slice a1 len c1,.slice (some ⟨b1,0,none⟩) 257 257,.slice (some ⟨b2,0,none⟩) 1 1])/\PlanIs w' a1 len b1 257 b2 1 (Fc bs) Jb Pm/\w.heap.size<=b1/\w.heap.size<=b2/\(∀b o,a1=some ⟨b,o,none⟩->Fc bs≠ []->w.heap.size<=b)/\Below w.heap.size w w':=by
 obtain⟨i0,hi,hz0,hz1,hz2⟩:=info_parts Z35;obtain⟨N,hN⟩:∃N:Nat,N=257:=⟨_,rfl⟩
 have mk1:∀W:World,(Instr.makeSlice 77 (.int .i64 257) (.int .i64 257)).run Tryz.prog W=.ok (.slice (some ⟨W.heap.size,0,none⟩) 257 257) (W.alloc (.cells (madeCells #[.int .i64 0] N) 3)):=fun W=>by rw[hN];exact run_make_row' (P:=Tryz.prog) 77 3 (.int .i64 0) 8 Tryz.underlying77 Cg rfl .i64 .i64 257 (by decide) (by decide) W
 have mk2:∀W:World,(Instr.makeSlice 77 (.int .i64 1) (.int .i64 1)).run Tryz.prog W=.ok (.slice (some ⟨W.heap.size,0,none⟩) 1 1) (W.alloc (.cells (madeCells #[.int .i64 0] 1) 3)):=fun W=>run_make_row' (P:=Tryz.prog) 77 3 (.int .i64 0) 8 Tryz.underlying77 Cg rfl .i64 .i64 1 (by decide) (by decide) W
 have HN:=Ab hN;have HL:=Ab hl;have HB:=Ab hB;have HX:=Ab hx;clear hl hB hx hN;go_enter Tryz.func96,Tryz.ntmps96
 go_upto_region 1 with (fail)
 go_cut [3] (fun v wc=>∃g3 ga gb,v=.pointer (some ⟨g3,0,none⟩)/\Hid (EvSt w N wc g3 ga gb))
 case first=>
  go_big_region
  all_goals go_wp2_with fail
  all_goals go_meet
  all_goals first
   |exact⟨w.heap.size+1,w.heap.size+1+1,w.heap.size+1+1+1,rfl,Ab ⟨⟨by omega,by omega,by omega⟩,⟨by omega,by omega,by omega⟩,(Dk w _ _ _ _).2.1,(Dk w _ _ _ _).2.2.1,(Dk w _ _ _ _).2.2.2.1,(Dk w _ _ _ _).1,(Dk w _ _ _ _).2.2.2.2⟩⟩
   |exact⟨w.heap.size+1,w.heap.size+1+1+1,w.heap.size+1+1,rfl,Ab ⟨⟨by omega,by omega,by omega⟩,⟨by omega,by omega,by omega⟩,(Dk w _ _ _ _).2.1,(Dk w _ _ _ _).2.2.2.1,(Dk w _ _ _ _).2.2.1,(Dk w _ _ _ _).1,(Dk w _ _ _ _).2.2.2.2⟩⟩
   |exact⟨w.heap.size+1+1,w.heap.size+1,w.heap.size+1+1+1,rfl,Ab ⟨⟨by omega,by omega,by omega⟩,⟨by omega,by omega,by omega⟩,(Dk w _ _ _ _).2.2.1,(Dk w _ _ _ _).2.1,(Dk w _ _ _ _).2.2.2.1,(Dk w _ _ _ _).1,(Dk w _ _ _ _).2.2.2.2⟩⟩
   |exact⟨w.heap.size+1+1,w.heap.size+1+1+1,w.heap.size+1,rfl,Ab ⟨⟨by omega,by omega,by omega⟩,⟨by omega,by omega,by omega⟩,(Dk w _ _ _ _).2.2.1,(Dk w _ _ _ _).2.2.2.1,(Dk w _ _ _ _).2.1,(Dk w _ _ _ _).1,(Dk w _ _ _ _).2.2.2.2⟩⟩
   |exact⟨w.heap.size+1+1+1,w.heap.size+1,w.heap.size+1+1,rfl,Ab ⟨⟨by omega,by omega,by omega⟩,⟨by omega,by omega,by omega⟩,(Dk w _ _ _ _).2.2.2.1,(Dk w _ _ _ _).2.1,(Dk w _ _ _ _).2.2.1,(Dk w _ _ _ _).1,(Dk w _ _ _ _).2.2.2.2⟩⟩
   |exact⟨w.heap.size+1+1+1,w.heap.size+1+1,w.heap.size+1,rfl,Ab ⟨⟨by omega,by omega,by omega⟩,⟨by omega,by omega,by omega⟩,(Dk w _ _ _ _).2.2.2.1,(Dk w _ _ _ _).2.2.1,(Dk w _ _ _ _).2.1,(Dk w _ _ _ _).1,(Dk w _ _ _ _).2.2.2.2⟩⟩
 case rest=>
  obtain⟨g3,ga,gb,rfl,hst⟩:=hcut;have hE:=Aa hst;have hlo:=hE.lo;have hne:=hE.ne;have hz:=hE.bel.size;have lr:=(Array.getElem?_eq_some_iff.1 hE.res).1;have l3:=(Array.getElem?_eq_some_iff.1 hE.blk).1;have la:=(Array.getElem?_eq_some_iff.1 hE.ra).1;have lb:=(Array.getElem?_eq_some_iff.1 hE.rb).1;clear mk1 mk2 hE;generalize wc=w0 at*;go_wp2;go_loopw [12] (fun v wr=>∃k:Nat,k<=len/\v=.int .i64 (k:Int)/\Hid (∃ov,wr.heap[g3]? =some (.cells #[ov,.slice (some ⟨ga,0,none⟩) 257 257,.slice (some ⟨gb,0,none⟩) 1 1] 165 (0,0))/\wr.ownsRow w0.heap.size 153 3 ov k (tvs (Fc (bs.take k)))/\(∀j,j<w0.heap.size->j≠g3->wr.heap[j]? =w0.heap[j]?)/\Below w.heap.size w wr/\w0.heap.size<=wr.heap.size)) (fun v _=>len-(intOf v).toNat)
  case atStart=>exact⟨0,Nat.zero_le _,rfl,Ab ⟨.slice none 0 0,(Aa hst).blk,World.ownsRow_nil _ _ _ _,fun j _ _=>rfl,(Aa hst).bel,Nat.le_refl _⟩⟩
  case round=>
   obtain⟨k,hk,rfl,hr⟩:=hrel;obtain⟨ov,h1,h2,h3,h4,h5⟩:=Aa hr
   by_cases hlt:k<len
   . obtain⟨b,o,rfl,hb,hBy⟩:=Cf (Aa HB) (by rw[Aa HL];omega);have cb:=(h4.cell (p:=⟨b,o+k,none⟩) hb).trans (hBy k (by rw[Aa HL];exact hlt));have hx:=Aa HX k
     have hstep:Fc (bs.take (k+1))=Fc (bs.take k)++ [(bs.getD k 0,0,0)]:=by
      have hk2:k<bs.length:=by rw[Aa HL];exact hlt
      have e:bs.take (k+1)=bs.take k++ [bs.getD k 0]:=by
       rw[List.take_add_one];simp[List.getD,hk2]
      rw[e];simp[Fc]
     obtain⟨x,hxx⟩:∃x,bs.getD k 0=x:=⟨_,rfl⟩
     rw[hxx]at cb hx hstep;have HST:=Ab hstep;have c0:wr.cell? ⟨g3,0,none⟩=some ov:=Ac h1;have f0:=frozen_of_row wr g3 0 _ _ h1;have hkI:(k:Int)<(len:Int):=by omega
     have HO:=Ab (h2.alloc (.cells #[.int .u8 (x:Int),.int .i64 0,.int .i64 0] 153));have HCw:=Ab (Vv wr (.int .u8 (x:Int)) (.int .i64 0) (.int .i64 0) 153);have hov:∀g,ov.ownBlock=some g->w0.heap.size<=g/\g<wr.heap.size:=fun g e=>h2.lt g e
     have HOV:=Ab hov;have H1:=Ab h1;have H3:=Ab h3;have H4:=Ab h4;clear hr h1 h2 h3 h4 hstep hBy hxx hov;go_wp2_with (at_builtin;refine wpList_append_own_at _ rfl _ _ 133 rfl w0.heap.size 153 i0 _ 3 24 Tryz.underlying133 hi hz0 hz1 hz2 rfl (by decide) ov k (tvs (Fc (bs.take k))) rfl (Aa HO) ⟨wr.heap.size,0,none⟩ 1 1 [.int .u8 (x:Int),.int .i64 0,.int .i64 0] rfl rfl (Aa HCw) (by intro u hu;simp at hu;rcases hu with rfl|rfl|rfl<;>rfl) (by unfold maxLen;omega) (by omega) (by simp;omega) ?_)
     intro v' w3 hO3 hgrow _ hspot;have hzg:=hgrow.size;simp only[World.size_alloc]at hzg;have hg3:w3.heap[g3]? =some (.cells #[ov,.slice (some ⟨ga,0,none⟩) 257 257,.slice (some ⟨gb,0,none⟩) 1 1] 165 (0,0)):=(hgrow.block g3 (by simp;omega) (fun e=>by have:=Aa HOV g3 e.symm;omega)).trans ((Below.heap_alloc wr _ g3 (by omega)).trans (Aa H1));have q0:w3.cell? ⟨g3,0,none⟩=some ov:=Ac hg3;have qf0:=frozen_of_row w3 g3 0 _ _ hg3
     have HFIN:Hid (∃ov,(w3.setCell ⟨g3,0,none⟩ v').heap[g3]? =some (.cells #[ov,.slice (some ⟨ga,0,none⟩) 257 257,.slice (some ⟨gb,0,none⟩) 1 1] 165 (0,0))/\(w3.setCell ⟨g3,0,none⟩ v').ownsRow w0.heap.size 153 3 ov (k+1) (tvs (Fc (bs.take (k+1))))/\(∀j,j<w0.heap.size->j≠g3->(w3.setCell ⟨g3,0,none⟩ v').heap[j]? =w0.heap[j]?)/\Below w.heap.size w (w3.setCell ⟨g3,0,none⟩ v')/\w0.heap.size<=(w3.setCell ⟨g3,0,none⟩ v').heap.size):=by
      have hs:=Ad w3 g3 0 v';have hsz:=hs.size;refine⟨v', ?_, ?_, ?_, ?_,by omega⟩
      . rw[heap_setCell_same _ g3 0 _ _ _ hg3];rfl
      . rw[Aa HST,Rc];refine hO3.kept hs ?_
        cases hx:v'.ownBlock with
        |none=>exact .inl rfl
        |some g=>
         refine .inr (fun e=> ?_);have:=(hO3.lt g hx).1
         cases e
         omega
      . intro j hj hne;rw[hs.block j (by omega) (fun e=>hne (Option.some.inj e)),hgrow.block j (by simp;omega) (fun e=>by have:=Aa HOV j e.symm;omega),Below.heap_alloc wr _ j (by omega)];exact Aa H3 j hj hne
      . have b1:=(Aa H4).alloc (by omega) (.cells #[.int .u8 (x:Int),.int .i64 0,.int .i64 0] 153);have b2:=b1.grown hgrow (by simp;omega) (fun g e=>by have:=Aa HOV g e;omega);exact b2.grown hs (by omega) (fun g e=>by have:=Option.some.inj e;omega)
     obtain⟨g9,c9,hv9,_,_⟩:=Bm hO3 (by omega);subst hv9;clear hO3 hgrow hspot hg3 c0 f0 cb HO HCw HOV H1 H3 H4 HST hzg;go_wp2;go_roundw
     case rel=>exact⟨k+1,by omega,by go_num,HFIN⟩
     case measure=>simp[intOf];omega
   . obtain rfl:k=len:=by omega
     have e:bs.take k=bs:=List.take_of_length_le (by rw[Aa HL];exact Nat.le_refl _);rw[e]at h2;obtain⟨a1,c1,rfl⟩:=An h2;have hra:wr.heap[ga]? =some (.cells (madeCells #[Value.int .i64 0] N) 3 (0,0)):=(h3 ga la (fun e=>hne.1 e.symm)).trans (Aa hst).ra;have hrb:wr.heap[gb]? =some (.cells (madeCells #[Value.int .i64 0] 1) 3 (0,0)):=(h3 gb lb (fun e=>hne.2.1 e.symm)).trans (Aa hst).rb;have hres:wr.heap[w.heap.size]? =some (.cells #[.slice none 0 0,.slice none 0 0,.slice none 0 0] 165 (0,0)):=(h3 _ lr (by omega)).trans (Aa hst).res;obtain⟨EA,hEA⟩:∃EA:List Int,EA=List.replicate 257 8:=⟨_,rfl⟩
     have hEl:EA.length=257:=by rw[hEA];simp
     have hEg:∀j,j<257->EA.getD j 0=8:=fun j hj=>by rw[hEA];simp only[List.getD];rw[List.getElem?_replicate,if_pos hj];rfl
     have HEA:=Ab hEA;have HEG:=Ab hEg;have d1:wr.cell? ⟨g3,1,none⟩=some (.slice (some ⟨ga,0,none⟩) 257 257):=Ac h1
     have HA0:Hid (ARow 3 wr ga (EA.take 0++List.replicate (EA.length-0) 0)):=Ab (by
      rw[List.take_zero,List.nil_append,hEl];unfold ARow;rw[hra,Aa HN]
      congr 2
      exact Array.toList_inj.1 (Ou 257))
     have HTK:Hid (TokIn wr a1 (Fc bs)/\∀b o,a1=some ⟨b,o,none⟩->Fc bs≠ []->w0.heap.size<=b/\b<wr.heap.size):=by
      obtain⟨h6,a2,c2,e2,h7⟩:=TokIn.ofOwn h2
      cases e2
      refine⟨h7,fun b o e _=> ?_⟩;subst e;exact h2.lt b rfl
     have H1:=Ab h1;have HRB:=Ab hrb;have HRES:=Ab hres;have H4:=Ab h4;clear hr h1 h2 h3 h4 e hra hrb hres hEA hEg;generalize wr=w5 at*;go_wp2;go_loopw [27] (fun v wr=>∃q:Nat,q<=257/\v=.int .i64 (q:Int)/\Hid (ARow 3 wr ga (EA.take q++List.replicate (EA.length-q) 0)/\(∀j,j<w5.heap.size->j≠ga->wr.heap[j]? =w5.heap[j]?)/\Below w.heap.size w wr/\w5.heap.size<=wr.heap.size)) (fun v _=>257-(intOf v).toNat)
     case atStart=>exact⟨0,by decide,rfl,Ab ⟨Aa HA0,fun j _ _=>rfl,Aa H4,Nat.le_refl _⟩⟩
     case round=>
      obtain⟨q,hq,rfl,hr⟩:=hrel;obtain⟨s1,s2,s3,s4⟩:=Aa hr;have hg3:wr.heap[g3]? =some (.cells #[.slice a1 k c1,.slice (some ⟨ga,0,none⟩) 257 257,.slice (some ⟨gb,0,none⟩) 1 1] 165 (0,0)):=(s2 g3 (by omega) hne.1).trans (Aa H1);have x1:wr.cell? ⟨g3,1,none⟩=some (.slice (some ⟨ga,0,none⟩) 257 257):=Ac hg3
      by_cases hlt2:q<257
      . have hl1:(EA.take q++List.replicate (EA.length-q) 0).length=257:=by simp;omega
        have c:=s1.cell q (by omega);have f:=s1.frozen q
        have HF:Hid (ARow 3 (wr.setCell ⟨ga,q,none⟩ (.int .i64 8)) ga (EA.take (q+1)++List.replicate (EA.length-(q+1)) 0)/\(∀j,j<w5.heap.size->j≠ga->(wr.setCell ⟨ga,q,none⟩ (.int .i64 8)).heap[j]? =w5.heap[j]?)/\Below w.heap.size w (wr.setCell ⟨ga,q,none⟩ (.int .i64 8))/\w5.heap.size<=(wr.setCell ⟨ga,q,none⟩ (.int .i64 8)).heap.size):=by
         have hgr:=Ad wr ga q (.int .i64 8);have hsz:=hgr.size;refine⟨?_,fun j hj hn=>(hgr.block j (by omega) (fun e=>hn (Option.some.inj e))).trans (s2 j hj hn),s3.grown hgr (by omega) (fun j e=>by have:=Option.some.inj e;omega),by omega⟩;have:=s1.set q 8
         have e8:(8:Int)=EA.getD q 0:=(Aa HEG q hlt2).symm;rw[e8,Tp EA q (by omega)]at this;rw[e8];exact this
        have hqI:(q:Int)<257:=by omega
        clear hr s1 s2 s3 hl1 hg3;generalize (EA.take q++List.replicate (EA.length-q) 0).getD q 0=old at c;go_wp2;go_roundw
        case rel=>exact⟨q+1,by omega,by go_num,HF⟩
        case measure=>simp[intOf];omega
      . obtain rfl:q=257:=by omega
        rw[List.take_of_length_le (by omega),hEl,Nat.sub_self]at s1;simp only[List.replicate_zero,List.append_nil]at s1;have c5:=s1.cell 255 (by omega);have c6:=s1.cell 256 (by omega);have f5:=s1.frozen 255;have f6:=s1.frozen 256;rw[Aa HEG 255 (by decide)]at c5;rw[Aa HEG 256 (by decide)]at c6;have HS1:=Ab s1;have HS2:=Ab s2;have HS3:=Ab s3;have HG3:=Ab hg3;have ne5:(⟨ga,256,none⟩:Addr)≠⟨ga,255,none⟩:=by intro h;injection h;omega
        have HFA:Hid (ARow 3 ((wr.setCell ⟨ga,255,none⟩ (.int .i64 9)).setCell ⟨ga,256,none⟩ (.int .i64 9)).drew ga Jb/\(∀j,j<w5.heap.size->j≠ga->((wr.setCell ⟨ga,255,none⟩ (.int .i64 9)).setCell ⟨ga,256,none⟩ (.int .i64 9)).drew.heap[j]? =w5.heap[j]?)/\Below w.heap.size w ((wr.setCell ⟨ga,255,none⟩ (.int .i64 9)).setCell ⟨ga,256,none⟩ (.int .i64 9)).drew/\w5.heap.size<=((wr.setCell ⟨ga,255,none⟩ (.int .i64 9)).setCell ⟨ga,256,none⟩ (.int .i64 9)).drew.heap.size):=by
         have g1:=Ad wr ga 255 (.int .i64 9);have g2:=Ad (wr.setCell ⟨ga,255,none⟩ (.int .i64 9)) ga 256 (.int .i64 9);have gg:=Ai g1 g2;have hsz:=gg.size;refine⟨?_,fun j hj hn=>(gg.block j (by omega) (fun e=>hn (Option.some.inj e))).trans (s2 j hj hn),Ae (s3.grown gg (by omega) (fun j e=>by have:=Option.some.inj e;omega)) 1,by show w5.heap.size<=(World.setCell _ _ _).heap.size;omega⟩;have:=(s1.set 255 9).set 256 9
         have e9:(EA.set 255 9).set 256 9=Jb:=by rw[Aa HEA];decide+kernel
         rw[e9]at this;exact this
        clear hr s1 s2 s3 hg3;generalize wr=w6 at*;go_upto_region 12 with (fail)
        go_cut [] (fun wc=>ARow 3 wc ga Jb/\(∀j,j<w5.heap.size->j≠ga->wc.heap[j]? =w5.heap[j]?)/\Below w.heap.size w wc/\w5.heap.size<=wc.heap.size)
        case first=>
         go_big_region
         all_goals go_wp2_with fail
         all_goals go_meet
         all_goals exact Aa HFA
        case rest=>
         obtain⟨z1,z2,z3,z4⟩:=hcut;have zg:wc.heap[g3]? =some (.cells #[.slice a1 k c1,.slice (some ⟨ga,0,none⟩) 257 257,.slice (some ⟨gb,0,none⟩) 1 1] 165 (0,0)):=(z2 g3 (by omega) hne.1).trans (Aa H1);have zr:wc.heap[w.heap.size]? =some (.cells #[.slice none 0 0,.slice none 0 0,.slice none 0 0] 165 (0,0)):=(z2 _ (by omega) (by omega)).trans (Aa HRES);have y0:wc.cell? ⟨g3,0,none⟩=some (.slice a1 k c1):=Ac zg;have y1:wc.cell? ⟨g3,1,none⟩=some (.slice (some ⟨ga,0,none⟩) 257 257):=Ac zg;have y2:wc.cell? ⟨g3,2,none⟩=some (.slice (some ⟨gb,0,none⟩) 1 1):=Ac zg;have r0:wc.cell? ⟨w.heap.size,0,none⟩=some (.slice none 0 0):=Ac zr;have r1:wc.cell? ⟨w.heap.size,1,none⟩=some (.slice none 0 0):=Ac zr;have r2:wc.cell? ⟨w.heap.size,2,none⟩=some (.slice none 0 0):=Ac zr;have f0:=frozen_of_row wc w.heap.size 0 _ _ zr;have f1:=frozen_of_row wc w.heap.size 1 _ _ zr;have f2:=frozen_of_row wc w.heap.size 2 _ _ zr;obtain⟨t1,t2,t3,t4⟩:=Nw zr (.slice a1 k c1) (.slice (some ⟨ga,0,none⟩) 257 257) (.slice (some ⟨gb,0,none⟩) 1 1)
         have HFIN:Hid (PlanIs (((wc.setCell ⟨w.heap.size,0,none⟩ (.slice a1 k c1)).setCell ⟨w.heap.size,1,none⟩ (.slice (some ⟨ga,0,none⟩) 257 257)).setCell ⟨w.heap.size,2,none⟩ (.slice (some ⟨gb,0,none⟩) 1 1)) a1 k ga 257 gb 1 (Fc bs) Jb Pm/\Below w.heap.size w (((wc.setCell ⟨w.heap.size,0,none⟩ (.slice a1 k c1)).setCell ⟨w.heap.size,1,none⟩ (.slice (some ⟨ga,0,none⟩) 257 257)).setCell ⟨w.heap.size,2,none⟩ (.slice (some ⟨gb,0,none⟩) 1 1))):=by
          refine⟨⟨by rw[Mc,Aa HL],hlen,Z3h (Aa HX), ?_,Z3g (Aa HX),Ko,Pl,by omega,by omega, ?_, ?_⟩,t4 z3 (Nat.le_refl _)⟩
          . refine Zef (Aa HTK).1 (by omega) (fun b o ea hne2 hb=> ?_);have:=(Aa HTK).2 b o ea hne2
            rw[t2 b (by omega) (by omega)];exact z2 b (by omega) (by omega)
          . exact Z2d z1.row (t2 ga (by omega) (by omega))
          . have hb1:ARow 3 wc gb Pm:=by
             unfold ARow;rw[z2 gb (by omega) (fun e=>hne.2.2 e.symm),Aa HRB]
             congr 2
             exact Array.toList_inj.1 (Ou 1)
            exact Z2d hb1.row (t2 gb (by omega) (by omega))
         have HT1:=Ab t1;clear z1 z2 z3 zg zr t1 t2 t4;go_wp2;refine bodyPost_ret (v:=.agg #[.slice a1 k c1,.slice (some ⟨ga,0,none⟩) 257 257,.slice (some ⟨gb,0,none⟩) 1 1]) ?_ rfl ⟨a1,c1,ga,gb,rfl,(Aa HFIN).1,by omega,by omega,fun b o e hn=>by have:=(Aa HTK).2 b o e hn;omega,(Aa HFIN).2⟩;exact results_cell_row rfl _ _ _ _ _ _ _ rfl (Aa HT1) Tryz.underlying165 rfl (by kernel_rfl)
end Go.Proofs.YtcjbgpacnkilnaiGreatDoor
