import Derived.Test.YtcjbgpacnkilnaiGreatDoorQ12
import Derived.Test.YtcjbgpacnkilnaiGreatDoorQ1
import Derived.Maps.AppendAt
import Derived.Laws.AppendOwnNone
import Derived.Deep.RegionHeld3
set_option maxHeartbeats 4000000
namespace Go.Proofs.YtcjbgpacnkilnaiGreatDoor
open Go.RowKit
set_option linter.unusedVariables false
set_option maxRecDepth 100000
theorem Z9z {f:Fl}(h:Md f.name≠0):Kx f=Md f.name:=by unfold Kx;rw[if_pos h]
theorem Za0 {f:Fl}(h:Md f.name=0)(h2:3000<f.bytes.length):Kx f=2:=by unfold Kx;rw[if_neg (by simp[h]),if_pos h2]
theorem Z5l {f:Fl}(h:Md f.name=0)(h2:¬3000<f.bytes.length)(h3:f.stamp<0\/1000000<f.stamp\/f.node<0\/3<f.node):Kx f=3:=by
 unfold Kx;rw[if_neg (by simp[h]),if_neg h2,if_pos h3]
theorem Z9y {f:Fl}(h:Md f.name=0)(h2:¬3000<f.bytes.length)(h3:¬(f.stamp<0\/1000000<f.stamp\/f.node<0\/3<f.node)):Kx f=if f.gone=true/\0<f.bytes.length then 4 else 0:=by
 unfold Kx;rw[if_neg (by simp[h]),if_neg h2,if_neg h3]
theorem Uv (x:Fv)(w:World)(h:FvIn w x):
 Calls Tryz.prog 24 #[x.val] w fun e w'=>e=.returned (.int .i64 (Kx x.f:Nat))/\Below w.heap.size w w':=by
 have hc:=fun W=>Zau x.f.name W (by have:=h.txt;unfold maxLen;omega)
 have e0:= @Z9z x.f;have e1:= @Za0 x.f;have e2:= @Z5l x.f;have e3:= @Z9y x.f;rw[Er];clear h;obtain⟨⟨nm,bs,st,nd,gn⟩,a,c⟩:=x;simp only at*
 have hbox:∀W W':World,Below W.heap.size W W'->Below W.heap.size W W':=fun _ _ h=>h
 generalize B nm=t at*;generalize bs.length=n at*;have HC:=Ab hc
 by_cases h0:Md nm=0
 . replace e1:=e1 h0;replace e2:=e2 h0;replace e3:=e3 h0;rw[h0]at HC;clear e0 h0 hc
   have leaf:∀(E:Nat),Hid (Kx ⟨nm,bs,st,nd,gn⟩=E)->Hid ((E=2/\3000<n)\/ (E=3/\n<=3000/\(st<0\/ (0<=st/\1000000<st)\/ (0<=st/\st<=1000000/\nd<0)\/ (0<=st/\st<=1000000/\0<=nd/\4<=nd)))\/ (E=4/\n<=3000/\0<=st/\st<=1000000/\0<=nd/\nd<4/\gn=true/\0<n)\/ (E=0/\n<=3000/\0<=st/\st<=1000000/\0<=nd/\nd<4/\gn=true/\n=0)\/ (E=0/\n<=3000/\0<=st/\st<=1000000/\0<=nd/\nd<4/\gn=false))->
    Calls Tryz.prog 24 #[.agg #[.string t,.slice a n c,.int .i64 st,.int .i64 nd,.bool gn]] w fun e w'=>e=.returned (.int .i64 ((Kx ⟨nm,bs,st,nd,gn⟩:Nat):Int))/\Below w.heap.size w w':=by
    intro E hE hcs;rw[Aa hE];clear e1 e2 e3 hE
    rcases Aa hcs with ⟨rfl,h1⟩|⟨rfl,h1,h2|⟨h2,h3⟩|⟨h2,h3,h4⟩|⟨h2,h3,h4,h5⟩⟩|⟨rfl,h1,h2,h3,h4,h5,rfl,h6⟩|⟨rfl,h1,h2,h3,h4,h5,rfl,rfl⟩|⟨rfl,h1,h2,h3,h4,h5,rfl⟩
    all_goals (
     clear hcs;go_enter Tryz.func24,Tryz.ntmps24
     go_wp2_with fail
     refine(Aa HC _).mono ?_;rintro e w' ⟨rfl,hb⟩;have c1:=(hb.cell (p:=⟨w.heap.size,1,none⟩) (by simp)).trans (by simp;rfl);have c2:=(hb.cell (p:=⟨w.heap.size,2,none⟩) (by simp)).trans (by simp;rfl);have c3:=(hb.cell (p:=⟨w.heap.size,3,none⟩) (by simp)).trans (by simp;rfl);have c4:=(hb.cell (p:=⟨w.heap.size,4,none⟩) (by simp)).trans (by simp;rfl);have HB:=Ab (((Below.refl w.heap.size w).alloc (Nat.le_refl _) _).trans (hb.mono (by simp)));clear hb;go_wp2;go_ret;exact⟨rfl,Aa HB⟩)
   have HN:=Ab (rfl:bs.length=bs.length)
   by_cases h1:3000<n
   . exact leaf 2 (e1 h1) (.inl ⟨rfl,h1⟩)
   . by_cases h3:st<0\/1000000<st\/nd<0\/3<nd
     . refine leaf 3 (e2 h1 h3) (.inr (.inl ⟨rfl,by omega,by omega⟩))
     . have e4:=e3 h1 h3
       cases gn with
       |true=>
        by_cases hn:0<n
        . exact leaf 4 (by rw[e4,if_pos ⟨rfl,hn⟩];rfl) (.inr (.inr (.inl ⟨rfl,by omega,by omega,by omega,by omega,by omega,rfl,hn⟩)))
        . exact leaf 0 (by rw[e4,if_neg (fun k=>hn k.2)];rfl) (.inr (.inr (.inr (.inl ⟨rfl,by omega,by omega,by omega,by omega,by omega,rfl,by omega⟩))))
       |false=>exact leaf 0 (by rw[e4,if_neg (fun k=>by cases k.1)];rfl) (.inr (.inr (.inr (.inr ⟨rfl,by omega,by omega,by omega,by omega,by omega,rfl⟩))))
 . rw[e0 h0];clear e0 e1 e2 e3 hc;obtain⟨k,hk⟩:∃k,Md nm=k:=⟨_,rfl⟩
   rw[hk]at HC h0 ⊢;go_enter Tryz.func24,Tryz.ntmps24
   go_wp2_with fail
   refine(Aa HC _).mono ?_;rintro e w' ⟨rfl,hb⟩;have HB:=Ab (((Below.refl w.heap.size w).alloc (Nat.le_refl _) _).trans (hb.mono (by simp)));clear hb;go_wp2;go_ret;exact⟨rfl,Aa HB⟩
theorem Z8r (x y:Fv)(w:World):
 Calls Tryz.prog 70 #[x.val,y.val] w fun e w'=>e=.returned (.int .i64 (He x.f.name y.f.name))/\w'=(w.alloc (.cells x.cells.toArray 49)).alloc (.cells y.cells.toArray 49):=by
 have hc:=Zh7 x.f.name y.f.name;rw[Er,Er];unfold Fv.cells Fv.sl;obtain⟨⟨nm,bs,st,nd,gn⟩,a,c⟩:=x;obtain⟨⟨nm2,bs2,st2,nd2,gn2⟩,a2,c2⟩:=y;simp only at*
 generalize B nm=t at*;generalize B nm2=t2 at*;generalize bs.length=n at*;generalize bs2.length=n2 at*;have HC:=Ab hc;clear hc;go_enter Tryz.func70,Tryz.ntmps70
 go_wp2_with (go_at_call 82;refine(Aa HC _).mono ?_;rintro e w' ⟨rfl,rfl⟩)
 go_ret;exact⟨rfl,rfl⟩
theorem Zdf:(Tryz.prog.info? 5).map (fun i=>(i.zero,i.size,i.bytes))=some (some (.int .u8 0),1,1):=by kernel_rfl
abbrev u8v (bs:List UInt8):List Value:=bs.map fun x:UInt8=>Value.int .u8 ((x.toNat:Nat):Int)
theorem BsIn.own {w:World}{base n:Nat}{v:Value}{bs:List UInt8}(h:w.ownsRow base 5 1 v n (u8v bs)):∃a c,v=.slice a bs.length c/\BsIn w a c bs/\∀b o,a=some ⟨b,o,none⟩->base<=b/\b<w.heap.size:=by
 have hn:bs.length=n:=by have:=h.1;simpa using this
 subst hn
 rcases h.2 with ⟨h1,h2⟩|⟨g,cap,cur,h1,h2,h3,h4,h5⟩
 . exact⟨none,0,by rw[h1,h2],.inl ⟨rfl,List.eq_nil_of_length_eq_zero h2,rfl⟩,fun b o e=>by cases e⟩
 . subst h1;have hlt:=h.lt g rfl;refine⟨_,_,rfl,.inr (.inr ⟨g,0,rfl,hlt.2,h4, ?_⟩), ?_⟩
   . intro j hj;rw[Nat.zero_add,h.cellAt j (by omega)];simp[u8v,List.getD,hj]
   . intro b o e
     cases e
     exact hlt
theorem Mi (w:World){ops:Array Oper}{rest:List Oper}{o:Oper}{a:Act}{Q:Exit->Act->World->Prop}(hgd:o.guard=none)(s x:Operand)
 (ho:o.op=.call {callee:=.builtin .append,args:= #[s,x],argTypes:= #[22,22]}) (base:Nat) (v:Value) (n:Nat) (xs:List UInt8) (hs:a.eval s=v) (hown:w.ownsRow base 5 1 v n (u8v xs))
 (ad:Option Addr) (m c:Nat) (ys:List UInt8) (hx:a.eval x=.slice ad m c) (hm:ys.length=m) (hB:BsIn w ad c ys) (hsz:n+m<=140737488355328) (hbase:base<=w.heap.size)
 (h:∀v' w',Hid (w'.ownsRow base 5 1 v' (n+m) (u8v (xs++ys)))->Hid (w.grownBy w' v.ownBlock)->wpList Tryz.prog ops Q rest (a.put o.dst v') w'):wpList Tryz.prog ops Q (o::rest) a w:=by
 obtain⟨i0,hi,hz0,hz1,hz2⟩:=info_parts Zdf;have e:u8v (xs++ys)=u8v xs++u8v ys:=by rw[u8v,u8v,u8v,List.map_append]
 rcases hB with ⟨rfl,rfl,rfl⟩|⟨rfl,ad,rfl⟩|⟨b,oo,rfl,h2,h3,h4⟩
 . have h0:m=0:=by simpa using hm.symm
   subst h0;refine wpList_append_own_none hgd s x 22 ho base 5 i0 1 Tryz.underlying22 hi v n (u8v xs) hs hown hx ?_;exact h v w (Ab (by simpa using hown)) (Ab ⟨rfl,rfl,rfl,Nat.le_refl _,fun _ _ _=>rfl⟩)
 . refine wpList_append_own_at w hgd s x 22 ho base 5 i0 (.int .u8 0) 1 1 Tryz.underlying22 hi hz0 hz1 hz2 rfl (by decide) v n (u8v xs) hs hown ad m c [] hx (by simpa using hm) (fun j u hj=>by simp at hj) (fun u hu=>by cases hu) (by unfold maxLen;omega) (by omega) hbase ?_;intro v' w' h1 h2 _ _;exact h v' w' (Ab (by simpa using h1)) (Ab h2)
 . refine wpList_append_own_at w hgd s x 22 ho base 5 i0 (.int .u8 0) 1 1 Tryz.underlying22 hi hz0 hz1 hz2 rfl (by decide) v n (u8v xs) hs hown ⟨b,oo,none⟩ m c (u8v ys) hx (by simp[u8v,hm]) ?_ (by intro u hu;obtain⟨x,_,rfl⟩:=List.mem_map.1 hu;rfl) (by unfold maxLen;omega) (by omega) hbase ?_
   . intro j u hj
     have hj2:j<ys.length:=by
      by_cases c:j<ys.length
      . exact c
      . rw[List.getElem?_eq_none (by simp[u8v];omega)]at hj;cases hj
     have e2:(⟨b,oo,none⟩:Addr).add j=⟨b,oo+j,none⟩:=by unfold Addr.add;split<;>simp_all
     rw[e2,h4 j hj2];simp[u8v,hj2]at hj
     subst hj;simp[List.getD,hj2]
   . intro v' w' h1 h2 _ _;exact h v' w' (Ab (by rw[e];exact h1)) (Ab h2)
theorem Zkc (W:World)(g:Nat)(t:TypeId)(o0 o1 o2 o3 o4 v0 v1 v2 v3 v4:Value)(h:W.heap[g]? =some (.cells #[o0,o1,o2,o3,o4] t (0,0))):
 (((((W.setCell ⟨g,0,none⟩ v0).setCell ⟨g,1,none⟩ v1).setCell ⟨g,2,none⟩ v2).setCell ⟨g,3,none⟩ v3).setCell ⟨g,4,none⟩ v4).heap[g]? =some (.cells #[v0,v1,v2,v3,v4] t (0,0))/\W.grownBy (((((W.setCell ⟨g,0,none⟩ v0).setCell ⟨g,1,none⟩ v1).setCell ⟨g,2,none⟩ v2).setCell ⟨g,3,none⟩ v3).setCell ⟨g,4,none⟩ v4) (some g):=by
 have h0:=heap_setCell_same W g 0 _ _ v0 h;have h1:=heap_setCell_same _ g 1 _ _ v1 h0;have h2:=heap_setCell_same _ g 2 _ _ v2 h1;have h3:=heap_setCell_same _ g 3 _ _ v3 h2;have h4:=heap_setCell_same _ g 4 _ _ v4 h3;exact⟨h4,Ai (Ai (Ai (Ai (Ad _ _ _ _) (Ad _ _ _ _)) (Ad _ _ _ _)) (Ad _ _ _ _)) (Ad _ _ _ _)⟩
theorem Sl (x:Fv)(w:World)(h:FvIn w x):
 Calls Tryz.prog 72 #[x.val] w fun e w'=>∃a c,e=.returned (Fv.val ⟨x.f,a,c⟩)/\FvIn w' ⟨x.f,a,c⟩/\Below w.heap.size w w'/\∀b o,a=some ⟨b,o,none⟩->w.heap.size<=b/\b<w'.heap.size:=by
 rw[Er];obtain⟨⟨nm,bs,st,nd,gn⟩,a,c⟩:=x;simp only at*
 have hbs:=h.bs;have hbig:=h.big;have htxt:=h.txt;clear h;simp only at hbs hbig htxt
 have HBS:=Ab (((hbs.below ((Below.refl w.heap.size w).alloc (Nat.le_refl _) (.cells #[.string (B nm),.slice a bs.length c,.int .i64 st,.int .i64 nd,.bool gn] 49)) (Nat.le_refl _))).below ((Below.refl (w.heap.size+1) _).alloc (by simp) (.cells #[.string ⟨#[]⟩,.slice none 0 0,.int .i64 0,.int .i64 0,.bool false] 49)) (by simp));have hown:∀W:World,W.ownsRow W.heap.size 5 1 (.slice none 0 0) 0 (u8v []):=fun W=>World.ownsRow_nil _ _ _ _
 have HT:=Ab htxt;obtain⟨n,hn⟩:∃n,bs.length=n:=⟨_,rfl⟩
 have HN:=Ab hn;have HV:=Ab (fun a c=>Er ⟨⟨nm,bs,st,nd,gn⟩,a,c⟩);simp only at HV
 rw[hn]at hbig HV HBS ⊢;clear hbs hn htxt;generalize B nm=t at*;go_enter Tryz.func72,Tryz.ntmps72
 go_wp2_with (at_builtin;refine Mi _ rfl _ _ rfl _ (.slice none 0 0) 0 [] rfl (hown _) a n c bs rfl (Aa HN) (Aa HBS) (by omega) (Nat.le_refl _) ?_)
 intro v' w1 hO hg;obtain⟨a',c',hv,hB',hloc⟩:=BsIn.own (Aa hO);rw[show bs.length=n from Aa HN]at hv;subst hv;have hg0:((w.alloc (.cells #[.string t,.slice a n c,.int .i64 st,.int .i64 nd,.bool gn] 49)).alloc (.cells #[.string ⟨#[]⟩,.slice none 0 0,.int .i64 0,.int .i64 0,.bool false] 49)).grownBy w1 none:=Aa hg;have hz:=hg0.size;simp only[World.size_alloc]at hz
 have h1:w1.heap[w.heap.size]? =some (.cells #[.string t,.slice a n c,.int .i64 st,.int .i64 nd,.bool gn] 49 (0,0)):=by
  rw[hg0.block _ (by simp;omega) (by simp),Below.heap_alloc _ _ _ (by simp),heap_alloc_new]
 have h2:w1.heap[w.heap.size+1]? =some (.cells #[.string ⟨#[]⟩,.slice none 0 0,.int .i64 0,.int .i64 0,.bool false] 49 (0,0)):=by
  rw[hg0.block _ (by simp) (by simp)];have:=heap_alloc_new (w.alloc (.cells #[.string t,.slice a n c,.int .i64 st,.int .i64 nd,.bool gn] 49)) (.cells #[.string ⟨#[]⟩,.slice none 0 0,.int .i64 0,.int .i64 0,.bool false] 49)
  simpa using this
 have HBel:=Ab (((Below.refl w.heap.size w).alloc (Nat.le_refl _) (.cells #[.string t,.slice a n c,.int .i64 st,.int .i64 nd,.bool gn] 49)).alloc (by simp) (.cells #[.string ⟨#[]⟩,.slice none 0 0,.int .i64 0,.int .i64 0,.bool false] 49));have HBel1:=Ab ((Aa HBel).grown hg0 (by simp;omega) (fun k e=>by cases e));have q0:w1.cell? ⟨w.heap.size,0,none⟩=some (.string t):=Ac h1;have q1:w1.cell? ⟨w.heap.size,1,none⟩=some (.slice a n c):=Ac h1;have q2:w1.cell? ⟨w.heap.size,2,none⟩=some (.int .i64 st):=Ac h1;have q3:w1.cell? ⟨w.heap.size,3,none⟩=some (.int .i64 nd):=Ac h1;have q4:w1.cell? ⟨w.heap.size,4,none⟩=some (.bool gn):=Ac h1;have r0:w1.cell? ⟨w.heap.size+1,0,none⟩=some (.string ⟨#[]⟩):=Ac h2;have r1:w1.cell? ⟨w.heap.size+1,1,none⟩=some (.slice none 0 0):=Ac h2;have r2:w1.cell? ⟨w.heap.size+1,2,none⟩=some (.int .i64 0):=Ac h2;have r3:w1.cell? ⟨w.heap.size+1,3,none⟩=some (.int .i64 0):=Ac h2;have r4:w1.cell? ⟨w.heap.size+1,4,none⟩=some (.bool false):=Ac h2;have f1:=frozen_of_row w1 w.heap.size 1 _ _ h1;have g0:=frozen_of_row w1 (w.heap.size+1) 0 _ _ h2;have g1:=frozen_of_row w1 (w.heap.size+1) 1 _ _ h2;have g2:=frozen_of_row w1 (w.heap.size+1) 2 _ _ h2;have g3:=frozen_of_row w1 (w.heap.size+1) 3 _ _ h2;have g4:=frozen_of_row w1 (w.heap.size+1) 4 _ _ h2;have k1:=Ad w1 w.heap.size 1 (.slice a' n c');obtain⟨p1,p2⟩:=Zkc (w1.setCell ⟨w.heap.size,1,none⟩ (.slice a' n c')) (w.heap.size+1) 49 _ _ _ _ _ (.string t) (.slice a' n c') (.int .i64 st) (.int .i64 nd) (.bool gn) ((k1.block _ (by omega) (by simp)).trans h2);have hz1:=k1.size;have hz2:=p2.size;have HP1:=Ab p1;have HF:=Ab (((Aa HBel1).grown k1 (by omega) (fun k e=>by cases e;exact Nat.le_refl _)).grown p2 (by omega) (fun k e=>by cases e;omega));have HB':=Ab ((hB'.grown k1 (fun b o e=>by have:=hloc b o e;simp;omega)).grown p2 (fun b o e=>by have:=hloc b o e;simp;omega))
 have HLoc:Hid (∀b o,a'=some ⟨b,o,none⟩->w.heap.size<=b/\b<((((((w1.setCell ⟨w.heap.size,1,none⟩ (.slice a' n c')).setCell ⟨w.heap.size+1,0,none⟩ (.string t)).setCell ⟨w.heap.size+1,1,none⟩ (.slice a' n c')).setCell ⟨w.heap.size+1,2,none⟩ (.int .i64 st)).setCell ⟨w.heap.size+1,3,none⟩ (.int .i64 nd)).setCell ⟨w.heap.size+1,4,none⟩ (.bool gn)).heap.size):=fun b o e=>by
  have:=hloc b o e
  omega
 clear h1 h2 hB' hloc hg hg0 hO k1 p1 p2 hz1 hz2;go_wp2;refine bodyPost_ret (v:=.agg #[.string t,.slice a' n c',.int .i64 st,.int .i64 nd,.bool gn]) ?_ rfl ⟨a',c',by rw[Aa HV],⟨Aa HB',by rw[Aa HN];exact hbig,Aa HT⟩,Aa HF,Aa HLoc⟩;exact results_cell_row rfl _ _ _ _ _ _ _ rfl (Aa HP1) Tryz.underlying49 rfl (by kernel_rfl)
theorem Z2v (w:World)(o1 o2:Obj):Below w.heap.size w ((w.alloc o1).alloc o2).drew:=Ae (((Below.refl _ w).alloc (Nat.le_refl _) o1).alloc (by simp) o2) 1
theorem Tu (w:World)(o1 o2 o3:Obj):Below w.heap.size w (((w.alloc o1).alloc o2).alloc o3).drew:=Ae ((((Below.refl _ w).alloc (Nat.le_refl _) o1).alloc (by simp) o2).alloc (by simp;omega) o3) 1
theorem Zd3 (w:World)(o1 o2 o3:Obj)(v1 v2 v3 v4:Value):Below w.heap.size w (((w.alloc o1).alloc o2).alloc o3).drew:=Ae ((((Below.refl _ w).alloc (Nat.le_refl _) o1).alloc (by simp) o2).alloc (by simp;omega) o3) 1
theorem Zk3 (a b c d:Int)(W:World):(Instr.index 143 (.agg #[.int .i64 a,.int .i64 b,.int .i64 c,.int .i64 d]) (.int .i64 0)).run Tryz.prog W=.ok (.int .i64 a) W:=by kernel_rfl
theorem Zk2 (a b c d:Int)(W:World):(Instr.index 143 (.agg #[.int .i64 a,.int .i64 b,.int .i64 c,.int .i64 d]) (.int .i64 1)).run Tryz.prog W=.ok (.int .i64 b) W:=by kernel_rfl
theorem Zk1 (a b c d:Int)(W:World):(Instr.index 143 (.agg #[.int .i64 a,.int .i64 b,.int .i64 c,.int .i64 d]) (.int .i64 2)).run Tryz.prog W=.ok (.int .i64 c) W:=by kernel_rfl
theorem Zk0 (a b c d:Int)(W:World):(Instr.index 143 (.agg #[.int .i64 a,.int .i64 b,.int .i64 c,.int .i64 d]) (.int .i64 3)).run Tryz.prog W=.ok (.int .i64 d) W:=by kernel_rfl
theorem Zgb {a b:Int}(h:a≠0):nz a b=a:=by unfold nz;rw[if_pos h]
theorem Gs {b:Int}:nz 0 b=b:=by unfold nz;rw[if_neg (by decide)]
theorem Zjh {a:Int}(h:a≠0):(a !=0)=true:=by rw[bne_iff_ne];exact h
theorem Z8q (x y:Fv)(w:World)(hx:FvIn w x)(hy:FvIn w y):
 Calls Tryz.prog 71 #[x.val,y.val] w fun e w'=>e=.returned (.int .i64 (nwr x.f y.f))/\Below w.heap.size w w':=by
 have hb:∀W,Below w.heap.size w W->Calls Tryz.prog 85 #[.slice x.a x.f.bytes.length x.c,.slice y.a y.f.bytes.length y.c] W fun e w'=>e=.returned (.int .i64 (He x.f.bytes y.f.bytes))/\w'=W:=
  fun W hW=>Zap (hx.bs.below hW (Nat.le_refl _)) (hy.bs.below hW (Nat.le_refl _))
 have hd:nwr x.f y.f=nz (Zf2 x.f.stamp y.f.stamp) (nz (Zf2 x.f.node y.f.node) (nz (Zjj x.f.gone y.f.gone) (He x.f.bytes y.f.bytes))):=rfl;rw[Er,Er,hd];clear hx hy hd;obtain⟨⟨nm,bs,st,nd,gn⟩,a,c⟩:=x;obtain⟨⟨nm2,bs2,st2,nd2,gn2⟩,a2,c2⟩:=y;simp only at*
 generalize B nm=t at*;generalize B nm2=t2 at*;generalize bs.length=n at*;generalize bs2.length=n2 at*;have h3:=Zdo gn gn2;generalize Zjj gn gn2=k3 at*;generalize He bs bs2=k4 at*;have H3:=Ab h3;have H4:=Ab hb;clear h3 hb;go_enter Tryz.func71,Tryz.ntmps71
 go_wp2
 go_region_held3 (fun W=>Below w.heap.size w W/\W.cell? ⟨w.heap.size,1,none⟩=some (.slice a n c)/\W.cell? ⟨w.heap.size,2,none⟩=some (.int .i64 st)/\W.cell? ⟨w.heap.size,3,none⟩=some (.int .i64 nd)/\W.cell? ⟨w.heap.size,4,none⟩=some (.bool gn)/\W.cell? ⟨w.heap.size+1,1,none⟩=some (.slice a2 n2 c2)/\W.cell? ⟨w.heap.size+1,2,none⟩=some (.int .i64 st2)/\W.cell? ⟨w.heap.size+1,3,none⟩=some (.int .i64 nd2)/\W.cell? ⟨w.heap.size+1,4,none⟩=some (.bool gn2)) (refine⟨?_, ?_, ?_, ?_, ?_, ?_, ?_, ?_, ?_⟩<;>first|exact Z2v _ _ _|exact Tu _ _ _ _|exact Zd3 _ _ _ _ _ _ _ _|go_keep)
  (first|(go_at_call 83;refine(Zh8 _ _ _).mono ?_;rintro e w' ⟨rfl,rfl⟩)|(go_at_call 84;refine(Aa H3 _).mono ?_;rintro e w' ⟨rfl,rfl⟩)|(go_at_call 85;refine(Aa H4 _ (by first|exact Z2v _ _ _|exact Tu _ _ _ _)).mono ?_;rintro e w' ⟨rfl,rfl⟩))
 all_goals (
  generalize hk1:Zf2 st st2=k1;generalize hk2:Zf2 nd nd2=k2;have HK1:=Ab hk1;have HK2:=Ab hk2;clear hk1 hk2;have i0:=Zk3 k1 k2 k3 k4;have i1:=Zk2 k1 k2 k3 k4;have i2:=Zk1 k1 k2 k3 k4;have i3:=Zk0 k1 k2 k3 k4;clear H3 H4;go_wp2;go_loopw [7,30] (fun _ i wr=>Hid (Below w.heap.size w wr)/\((i=.int .i64 0)\/ (i=.int .i64 1/\k1=0)\/ (i=.int .i64 2/\k1=0/\k2=0)\/ (i=.int .i64 3/\k1=0/\k2=0/\k3=0)\/ (i=.int .i64 4/\k1=0/\k2=0/\k3=0/\k4=0))) (fun _ i _=>4-(intOf i).toNat)
  case atStart=>exact⟨Tu _ _ _ _,.inl rfl⟩
  case round=>
   obtain⟨HB,rfl|⟨rfl,rfl⟩|⟨rfl,rfl,rfl⟩|⟨rfl,rfl,rfl,rfl⟩|⟨rfl,rfl,rfl,rfl,rfl⟩⟩:=hrel
   . by_cases h:k1=0
     . subst h;go_wp2;go_roundw
       case rel=>exact⟨HB,by simp⟩
       case measure=>simp[intOf]
     . have hb:=Zjh h;go_wp2;go_ret;exact⟨Ed (by rw[Aa HK1,Zgb h]),Aa HB⟩
   . by_cases h:k2=0
     . subst h;go_wp2;go_roundw
       case rel=>exact⟨HB,by simp⟩
       case measure=>simp[intOf]
     . have hb:=Zjh h;go_wp2;go_ret;exact⟨Ed (by rw[Aa HK1,Aa HK2,Gs,Zgb h]),Aa HB⟩
   . by_cases h:k3=0
     . subst h;go_wp2;go_roundw
       case rel=>exact⟨HB,by simp⟩
       case measure=>simp[intOf]
     . have hb:=Zjh h;go_wp2;go_ret;exact⟨Ed (by rw[Aa HK1,Aa HK2,Gs,Gs,Zgb h]),Aa HB⟩
   . by_cases h:k4=0
     . subst h;go_wp2;go_roundw
       case rel=>exact⟨HB,by simp⟩
       case measure=>simp[intOf]
     . have hb:=Zjh h;go_wp2;go_ret;exact⟨Ed (by rw[Aa HK1,Aa HK2,Gs,Gs,Gs]),Aa HB⟩
   . go_wp2;go_ret;exact⟨Ed (by rw[Aa HK1,Aa HK2,Gs,Gs,Gs]),Aa HB⟩)
def ahd (xs:List Fv):Nat->Option Fl
 |0=>none
 |k+1=>(fls xs)[k]?
theorem Za1 {xs:List Fv}{k:Nat}{x:Fv}(h:xs[k]? =some x):
 Za2 (ahd xs k) ((fls xs).drop k)=if Kx x.f≠0 then Kx x.f else if behind (ahd xs k) x.f=false then 4 else Za2 (ahd xs (k+1)) ((fls xs).drop (k+1)):=by
 have hf:(fls xs)[k]? =some x.f:=by simp[fls,h]
 have hlt:k<(fls xs).length:=by
  rcases Nat.lt_or_ge k (fls xs).length with h'|h'
  . exact h'
  . rw[List.getElem?_eq_none h']at hf;cases hf
 have e:(fls xs).drop k=x.f::(fls xs).drop (k+1):=by
  rw[List.drop_eq_getElem_cons hlt]
  congr 1
  rw[List.getElem?_eq_getElem hlt]at hf;exact Option.some.inj hf
 rw[e,Za2];show _=if Kx x.f≠0 then Kx x.f else if behind (ahd xs k) x.f=false then 4 else Za2 ((fls xs)[k]?) _
 rw[hf]
theorem Zi3 (x y:List UInt8):Op.bytesLess (B x).toList (B y).toList=decide (He x y<0):=by rw[Fi,Fi,Ty]
theorem Zi4 (x y:List UInt8):((B x).toList==(B y).toList)=decide (He x y=0):=by
 rw[Fi,Fi,Bool.eq_iff_iff,beq_iff_eq,decide_eq_true_iff,Zc]
theorem Z65 (ad:Option Addr)(n c:Nat)(w:World)(h:12<n):Calls Tryz.prog 8 #[.slice ad n c] w fun e w'=>e=.returned (.int .i64 2)/\w'=w:=by
 go_enter Tryz.func8,Tryz.ntmps8
 go_wp2;go_ret;exact⟨rfl,rfl⟩
theorem Hb (ad:Option Addr)(c:Nat)(xs:List Fv)(w:World)(h:FsIn w ad c xs)(n:Nat)(hn:xs.length=n):
 Calls Tryz.prog 8 #[.slice ad n c] w fun e w'=>e=.returned (.int .i64 (Em (fls xs):Nat))/\Below w.heap.size w w':=by
 have hl:(fls xs).length=n:=by simp[fls,hn]
 by_cases hm:12<n
 . have e:Em (fls xs)=2:=by unfold Em;rw[if_pos (by omega)]
   rw[e];refine(Z65 ad n c w hm).mono ?_;rintro e w' ⟨rfl,rfl⟩;exact⟨rfl,Below.refl _ _⟩
 . have e:Em (fls xs)=Za2 none (fls xs):=by unfold Em;rw[if_neg (by omega)]
   obtain⟨E,hE⟩:∃E,Za2 none (fls xs)=E:=⟨_,rfl⟩
   rw[e,hE];have HI:=Ab h;have HN:=Ab hn;have HE:=Ab hE;have HL:=Ab hl;clear h e hE hn hl;go_enter Tryz.func8,Tryz.ntmps8
   go_wp2;go_loopw [3,4,5,11] (fun _ _ _ i wr=>∃k:Nat,k<=n/\i=.int .i64 (k:Int)/\Hid (Za2 (ahd xs k) ((fls xs).drop k)=E)/\Hid (Below w.heap.size w wr)) (fun _ _ _ i _=>n-(intOf i).toNat)
   case atStart=>exact⟨0,Nat.zero_le _,rfl,Aa HE,Below.refl _ _⟩
   case round=>
    obtain⟨k,hk,rfl,HR,HB⟩:=hrel
    by_cases hlt:k<n
    . obtain⟨x,hx,hxm⟩:=Ye (xs:=xs) (k:=k) (by rw[Aa HN];exact hlt);obtain⟨b,o,rfl,hb,c0,c1,c2,c3,c4⟩:=(Aa HI).get (Aa HB) hx;have hst:=Za1 hx;rw[Aa HR]at hst;have hz:=(Aa HB).size;have HCK:=Ab (fun W (hW:Below w.heap.size w W)=>Uv x W (((Aa HI).all x hxm).below hW (Nat.le_refl _)));have HS:=Ab hst;rw[Er]at HCK;unfold Fv.sl at c1;obtain⟨er,her⟩:∃er,Kx x.f=er:=⟨_,rfl⟩
      rw[her]at HCK HS;clear hst her hxm;have HX:=Ab hx;clear hx;obtain⟨xf,xa,xc⟩:=x;simp only at*
      have hname:∃nm,xf.name=nm:=⟨_,rfl⟩
      obtain⟨nm,hnm⟩:=hname;rw[hnm]at c0 HCK;obtain⟨t,ht⟩:∃t,B nm=t:=⟨_,rfl⟩
      rw[ht]at c0 HCK;have HT:=Ab ht;have HNM:=Ab hnm;clear ht hnm;generalize xf.bytes.length=nb at*;generalize xf.stamp=st at*;generalize xf.node=nd at*;generalize xf.gone=gn at*;have hbl:∀o',Below w.heap.size w (wr.alloc o'):=fun o'=>(Aa HB).alloc hz o'
      have HBL:=Ab hbl;clear hbl
      by_cases he:er=0
      . subst he
        cases k with
        |zero=>
         simp only[Nat.zero_mul,Nat.add_zero]at c0 c1 c2 c3 c4;have hst:=Aa HS;rw[if_neg (by simp),if_neg (by simp[ahd,behind])]at hst;have HN2:=Ab hst;clear hst;go_wp2_with fail
         refine(Aa HCK _ (Aa HBL _)).mono ?_;rintro e w1 ⟨rfl,hb1⟩;have HB1:=Ab ((Aa HBL _).trans (hb1.mono (by simp;omega)));clear hb1;go_wp2;go_quiet (fail)
         go_wp2;go_roundw
         case rel=>exact⟨1,by omega,by go_num,(Aa HN2).symm,Ae (Aa HB1) _⟩
         case measure=>simp[intOf];omega
        |succ j=>
         obtain⟨y,hy,hym⟩:=Ye (xs:=xs) (k:=j) (by rw[Aa HN];omega);obtain⟨b',o',hab,hb',d0,_⟩:=(Aa HI).get (Aa HB) hy
         cases hab
         have hst:=Aa HS;rw[if_neg (by simp)]at hst;have ha:ahd xs (j+1)=some y.f:=by show (fls xs)[j]? =_;simp[fls,hy]
         rw[ha]at hst;have hle:=Zi3 nm y.f.name;have heq:=Zi4 nm y.f.name;have hbh:behind (some y.f) xf=decide (He y.f.name nm<0):=by show decide (He y.f.name xf.name<0)=_;rw[Aa HNM]
         rw[hbh]at hst;have hanti:=Ze nm y.f.name;rw[Aa HT]at hle heq;generalize B y.f.name=t' at*;generalize y.f.name=ny at*;clear hbh ha hy hym;have hji:((j+1:Nat):Int)-1=(j:Int):=by omega
         have hjn:(j:Int)<(n:Int):=by omega
         by_cases h1:He nm ny=1
         . rw[h1]at hle heq hanti;rw[if_neg (by rw[hanti];decide)]at hst;have HN2:=Ab hst;simp only[Int.reduceLT,Int.reduceEq,decide_false]at hle heq;clear hst hanti h1;go_wp2_with fail
           refine(Aa HCK _ (Aa HBL _)).mono ?_;rintro e w1 ⟨rfl,hb1⟩;have HB1:=Ab ((Aa HBL _).trans (hb1.mono (by simp;omega)));have q0:w1.cell? ⟨wr.heap.size,0,none⟩=some (.string t):=(hb1.cell (p:=⟨wr.heap.size,0,none⟩) (by simp)).trans (by simp);have r0:w1.cell? ⟨b,o+j*5,none⟩=some (.string t'):=(hb1.cell (p:=⟨b,o+j*5,none⟩) (by simp;omega)).trans ((World.cell?_alloc_past _ _ _ (by show b<wr.heap.size;omega)).trans d0);clear hb1;go_wp2;go_quiet (fail)
           go_wp2;go_roundw
           case rel=>exact⟨j+2,by omega,by go_num,(Aa HN2).symm,Ae (Aa HB1) _⟩
           case measure=>simp[intOf];omega
         . have h2:(He nm ny= -1\/He nm ny=0):=by rcases Ik nm ny with h|h|h<;>omega
           rw[if_pos (by rw[hanti];apply decide_eq_false;omega)]at hst;have HN2:=Ab hst;clear hst hanti h1
           rcases h2 with h2|h2
           all_goals (
            rw[h2]at hle heq;simp only[Int.reduceLT,Int.reduceEq,Int.reduceNeg,decide_true,decide_false]at hle heq;clear h2;go_wp2_with fail
            refine(Aa HCK _ (Aa HBL _)).mono ?_;rintro e w1 ⟨rfl,hb1⟩;have HB1:=Ab ((Aa HBL _).trans (hb1.mono (by simp;omega)));have q0:w1.cell? ⟨wr.heap.size,0,none⟩=some (.string t):=(hb1.cell (p:=⟨wr.heap.size,0,none⟩) (by simp)).trans (by simp);have r0:w1.cell? ⟨b,o+j*5,none⟩=some (.string t'):=(hb1.cell (p:=⟨b,o+j*5,none⟩) (by simp;omega)).trans ((World.cell?_alloc_past _ _ _ (by show b<wr.heap.size;omega)).trans d0);clear hb1;go_wp2;go_quiet (fail)
            go_wp2;go_ret;exact⟨Ed (by rw[Aa HN2];rfl),Ae (Aa HB1) _⟩)
      . have hst:=Aa HS;rw[if_pos (by simpa using he)]at hst;have HN2:=Ab hst;clear hst;go_wp2_with fail
        refine(Aa HCK _ (Aa HBL _)).mono ?_;rintro e w1 ⟨rfl,hb1⟩;have HB1:=Ab ((Aa HBL _).trans (hb1.mono (by simp;omega)));clear hb1;go_wp2;go_ret;exact⟨Ed (by rw[Aa HN2]),Aa HB1⟩
    . obtain rfl:n=k:=by omega
      go_wp2;go_ret;have:=Aa HR
      rw[List.drop_of_length_le (by rw[Aa HL];exact Nat.le_refl _)]at this;exact⟨Ed (by rw[<-this];rfl),Aa HB⟩
theorem Ziz (a b:Option Addr)(n m c d:Nat)(W:World):(Instr.index 125 (.agg #[.slice a n c,.slice b m d]) (.int .i64 0)).run Tryz.prog W=.ok (.slice a n c) W:=by kernel_rfl
theorem Ziy (a b:Option Addr)(n m c d:Nat)(W:World):(Instr.index 125 (.agg #[.slice a n c,.slice b m d]) (.int .i64 1)).run Tryz.prog W=.ok (.slice b m d) W:=by kernel_rfl
def Ys (a b:List Fl):Nat:=if Em a≠0 then Em a else Em b
theorem Zdz {a b:List Fl}(h:Em a≠0):Ys a b=Em a:=by unfold Ys;rw[if_pos h]
theorem Zdy {a b:List Fl}(h:Em a=0):Ys a b=Em b:=by unfold Ys;rw[if_neg (by simp[h])]
theorem Pn {a b:List Fl}:Ys a b=0↔Em a=0/\Em b=0:=by
 unfold Ys
 split
 . rename_i h;simp[h]
 . rename_i h;simp at h;simp[h]
theorem Uw (ad bd:Option Addr)(c d:Nat)(xs ys:List Fv)(w:World)(h:FsIn w ad c xs)(k:FsIn w bd d ys)(n m:Nat)(hn:xs.length=n)(hm:ys.length=m):
 Calls Tryz.prog 59 #[.slice ad n c,.slice bd m d] w fun e w'=>e=.returned (.int .i64 (Ys (fls xs) (fls ys):Nat))/\Below w.heap.size w w':=by
 have HS:=Ab (fun W (hW:Below w.heap.size w W)=>Hb ad c xs W (h.below hW (Nat.le_refl _)) n hn);have HF:=Ab (fun W (hW:Below w.heap.size w W)=>Hb bd d ys W (k.below hW (Nat.le_refl _)) m hm);have i0:=Ziz ad bd n m c d;have i1:=Ziy ad bd n m c d;have e0:= @Zdz (fls xs) (fls ys);have e1:= @Zdy (fls xs) (fls ys);obtain⟨E,hE⟩:∃E,Ys (fls xs) (fls ys)=E:=⟨_,rfl⟩
 rw[hE]at e0 e1 ⊢;generalize Em (fls xs)=x at*;generalize Em (fls ys)=y at*;clear h k hn hm hE;have E0:=Ab e0;have E1:=Ab e1;clear e0 e1;go_enter Tryz.func59,Tryz.ntmps59
 go_wp2;go_loopw [6,7,11] (fun _ _ i wr=>Hid (Below w.heap.size w wr)/\((i=.int .i64 0)\/ (i=.int .i64 1/\x=0)\/ (i=.int .i64 2/\x=0/\y=0))) (fun _ _ i _=>2-(intOf i).toNat)
 case atStart=>exact⟨Below.refl _ _,.inl rfl⟩
 case round=>
  obtain⟨HB,rfl|⟨rfl,rfl⟩|⟨rfl,rfl,rfl⟩⟩:=hrel
  . by_cases he:x=0
    . subst he;go_wp2_with (go_at_call 8;refine(Aa HS _ (Aa HB)).mono ?_;rintro e w1 ⟨rfl,hb1⟩;have HB1:=Ab ((Aa HB).trans (hb1.mono (Aa HB).size));clear hb1)
      go_roundw
      case rel=>exact⟨HB1,by simp⟩
      case measure=>simp[intOf]
    . go_wp2_with (go_at_call 8;refine(Aa HS _ (Aa HB)).mono ?_;rintro e w1 ⟨rfl,hb1⟩;have HB1:=Ab ((Aa HB).trans (hb1.mono (Aa HB).size));clear hb1)
      go_ret;exact⟨Ed (by rw[Aa E0 he]),Aa HB1⟩
  . have hyE:=Aa E1 rfl;subst hyE
    by_cases he:E=0
    . subst he;go_wp2_with (go_at_call 8;refine(Aa HF _ (Aa HB)).mono ?_;rintro e w1 ⟨rfl,hb1⟩;have HB1:=Ab ((Aa HB).trans (hb1.mono (Aa HB).size));clear hb1)
      go_roundw
      case rel=>exact⟨HB1,by simp⟩
      case measure=>simp[intOf]
    . go_wp2_with (go_at_call 8;refine(Aa HF _ (Aa HB)).mono ?_;rintro e w1 ⟨rfl,hb1⟩;have HB1:=Ab ((Aa HB).trans (hb1.mono (Aa HB).size));clear hb1)
      go_ret;exact⟨rfl,Aa HB1⟩
  . have hyE:=Aa E1 rfl;subst hyE;go_wp2;go_ret;exact⟨rfl,Aa HB⟩
end Go.Proofs.YtcjbgpacnkilnaiGreatDoor
