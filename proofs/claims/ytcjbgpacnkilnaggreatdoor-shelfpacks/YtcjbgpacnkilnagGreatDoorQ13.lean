import Derived.Test.YtcjbgpacnkilnagGreatDoorQ12
import Derived.Test.YtcjbgpacnkilnagGreatDoorQ1
import Derived.Maps.AppendAt
import Derived.Laws.AppendOwnNone
import Derived.Deep.RegionHeld3
set_option maxHeartbeats 4000000
namespace Go.Proofs.YtcjbgpacnkilnagGreatDoor
open Go.RowKit
set_option linter.unusedVariables false
set_option maxRecDepth 100000
theorem Zcq {f:Fl}(h:Nr f.name≠0):Ju f=Nr f.name:=by unfold Ju;rw[if_pos h]
theorem Zcr {f:Fl}(h:Nr f.name=0)(h2:3000<f.bytes.length):Ju f=2:=by unfold Ju;rw[if_neg (by simp[h]),if_pos h2]
theorem Z7y {f:Fl}(h:Nr f.name=0)(h2:¬3000<f.bytes.length)(h3:f.stamp<0\/1000000<f.stamp\/f.node<0\/3<f.node):Ju f=3:=by
 unfold Ju;rw[if_neg (by simp[h]),if_neg h2,if_pos h3]
theorem Zcp {f:Fl}(h:Nr f.name=0)(h2:¬3000<f.bytes.length)(h3:¬(f.stamp<0\/1000000<f.stamp\/f.node<0\/3<f.node)):Ju f=if f.gone=true/\0<f.bytes.length then 4 else 0:=by
 unfold Ju;rw[if_neg (by simp[h]),if_neg h2,if_neg h3]
theorem Xe (x:Fv)(w:World)(h:FvIn w x):
 Calls Tryz.prog 35 #[x.val] w fun e w'=>e=.returned (.int .i64 (Ju x.f:Nat))/\Below w.heap.size w w':=by
 have hc:=fun W=>Zdi x.f.name W (by have:=h.txt;unfold maxLen;omega)
 have e0:= @Zcq x.f;have e1:= @Zcr x.f;have e2:= @Z7y x.f;have e3:= @Zcp x.f;rw[Eb];clear h;obtain⟨⟨nm,bs,st,nd,gn⟩,a,c⟩:=x;simp only at*
 have hbox:∀W W':World,Below W.heap.size W W'->Below W.heap.size W W':=fun _ _ h=>h
 generalize B nm=t at*;generalize bs.length=n at*;have HC:=Ab hc
 by_cases h0:Nr nm=0
 . replace e1:=e1 h0;replace e2:=e2 h0;replace e3:=e3 h0;rw[h0]at HC;clear e0 h0 hc
   have leaf:∀(E:Nat),Hid (Ju ⟨nm,bs,st,nd,gn⟩=E)->Hid ((E=2/\3000<n)\/ (E=3/\n<=3000/\(st<0\/ (0<=st/\1000000<st)\/ (0<=st/\st<=1000000/\nd<0)\/ (0<=st/\st<=1000000/\0<=nd/\4<=nd)))\/ (E=4/\n<=3000/\0<=st/\st<=1000000/\0<=nd/\nd<4/\gn=true/\0<n)\/ (E=0/\n<=3000/\0<=st/\st<=1000000/\0<=nd/\nd<4/\gn=true/\n=0)\/ (E=0/\n<=3000/\0<=st/\st<=1000000/\0<=nd/\nd<4/\gn=false))->
    Calls Tryz.prog 35 #[.agg #[.string t,.slice a n c,.int .i64 st,.int .i64 nd,.bool gn]] w fun e w'=>e=.returned (.int .i64 ((Ju ⟨nm,bs,st,nd,gn⟩:Nat):Int))/\Below w.heap.size w w':=by
    intro E hE hcs;rw[Aa hE];clear e1 e2 e3 hE
    rcases Aa hcs with ⟨rfl,h1⟩|⟨rfl,h1,h2|⟨h2,h3⟩|⟨h2,h3,h4⟩|⟨h2,h3,h4,h5⟩⟩|⟨rfl,h1,h2,h3,h4,h5,rfl,h6⟩|⟨rfl,h1,h2,h3,h4,h5,rfl,rfl⟩|⟨rfl,h1,h2,h3,h4,h5,rfl⟩
    all_goals (
     clear hcs;go_enter Tryz.func35,Tryz.ntmps35
     go_wp2_with fail
     refine(Aa HC _).mono ?_;rintro e w' ⟨rfl,hb⟩;have c1:=(hb.cell (p:=⟨w.heap.size,1,none⟩) (by simp)).trans (by simp;rfl);have c2:=(hb.cell (p:=⟨w.heap.size,2,none⟩) (by simp)).trans (by simp;rfl);have c3:=(hb.cell (p:=⟨w.heap.size,3,none⟩) (by simp)).trans (by simp;rfl);have c4:=(hb.cell (p:=⟨w.heap.size,4,none⟩) (by simp)).trans (by simp;rfl);have HB:=Ab (((Below.refl w.heap.size w).alloc (Nat.le_refl _) _).trans (hb.mono (by simp)));clear hb;go_wp2;go_ret;exact⟨rfl,Aa HB⟩)
   have HN:=Ab (rfl:bs.length=bs.length)
   by_cases h1:3000<n
   . exact leaf 2 (e1 h1) (.inl ⟨rfl,h1⟩)
   . by_cases h3:st<0\/1000000<st\/nd<0\/3<nd
     . refine leaf 3 (e2 h1 h3) (.inr (.inl ⟨rfl,by omega,by omega⟩))
     . have e4:=e3 h1 h3
       cases gn with
       |true=>
        by_cases hn:0<n
        . exact leaf 4 (by rw[e4,if_pos ⟨rfl,hn⟩];rfl) (.inr (.inr (.inl ⟨rfl,by omega,by omega,by omega,by omega,by omega,rfl,hn⟩)))
        . exact leaf 0 (by rw[e4,if_neg (fun k=>hn k.2)];rfl) (.inr (.inr (.inr (.inl ⟨rfl,by omega,by omega,by omega,by omega,by omega,rfl,by omega⟩))))
       |false=>exact leaf 0 (by rw[e4,if_neg (fun k=>by cases k.1)];rfl) (.inr (.inr (.inr (.inr ⟨rfl,by omega,by omega,by omega,by omega,by omega,rfl⟩))))
 . rw[e0 h0];clear e0 e1 e2 e3 hc;obtain⟨k,hk⟩:∃k,Nr nm=k:=⟨_,rfl⟩
   rw[hk]at HC h0 ⊢;go_enter Tryz.func35,Tryz.ntmps35
   go_wp2_with fail
   refine(Aa HC _).mono ?_;rintro e w' ⟨rfl,hb⟩;have HB:=Ab (((Below.refl w.heap.size w).alloc (Nat.le_refl _) _).trans (hb.mono (by simp)));clear hb;go_wp2;go_ret;exact⟨rfl,Aa HB⟩
theorem Zbd (x y:Fv)(w:World):
 Calls Tryz.prog 41 #[x.val,y.val] w fun e w'=>e=.returned (.int .i64 (Fe x.f.name y.f.name))/\w'=(w.alloc (.cells x.cells.toArray 37)).alloc (.cells y.cells.toArray 37):=by
 have hc:=Zkm x.f.name y.f.name;rw[Eb,Eb];unfold Fv.cells Fv.sl;obtain⟨⟨nm,bs,st,nd,gn⟩,a,c⟩:=x;obtain⟨⟨nm2,bs2,st2,nd2,gn2⟩,a2,c2⟩:=y;simp only at*
 generalize B nm=t at*;generalize B nm2=t2 at*;generalize bs.length=n at*;generalize bs2.length=n2 at*;have HC:=Ab hc;clear hc;go_enter Tryz.func41,Tryz.ntmps41
 go_wp2_with (go_at_call 54;refine(Aa HC _).mono ?_;rintro e w' ⟨rfl,rfl⟩)
 go_ret;exact⟨rfl,rfl⟩
theorem Zg8:(Tryz.prog.info? 5).map (fun i=>(i.zero,i.size,i.bytes))=some (some (.int .u8 0),1,1):=by kernel_rfl
abbrev u8v (bs:List UInt8):List Value:=bs.map fun x:UInt8=>Value.int .u8 ((x.toNat:Nat):Int)
theorem BsIn.own {w:World}{base n:Nat}{v:Value}{bs:List UInt8}(h:w.ownsRow base 5 1 v n (u8v bs)):∃a c,v=.slice a bs.length c/\BsIn w a c bs/\∀b o,a=some ⟨b,o,none⟩->base<=b/\b<w.heap.size:=by
 have hn:bs.length=n:=by have:=h.1;simpa using this
 subst hn
 rcases h.2 with ⟨h1,h2⟩|⟨g,cap,cur,h1,h2,h3,h4,h5⟩
 . exact⟨none,0,by rw[h1,h2],.inl ⟨rfl,List.eq_nil_of_length_eq_zero h2,rfl⟩,fun b o e=>by cases e⟩
 . subst h1;have hlt:=h.lt g rfl;refine⟨_,_,rfl,.inr (.inr ⟨g,0,rfl,hlt.2,h4, ?_⟩), ?_⟩
   . intro j hj;rw[Nat.zero_add,h.cellAt j (by omega)];simp[u8v,List.getD,hj]
   . intro b o e
     cases e
     exact hlt
theorem Nx (w:World){ops:Array Oper}{rest:List Oper}{o:Oper}{a:Act}{Q:Exit->Act->World->Prop}(hgd:o.guard=none)(s x:Operand)
 (ho:o.op=.call {callee:=.builtin .append,args:= #[s,x],argTypes:= #[22,22]}) (base:Nat) (v:Value) (n:Nat) (xs:List UInt8) (hs:a.eval s=v) (hown:w.ownsRow base 5 1 v n (u8v xs))
 (ad:Option Addr) (m c:Nat) (ys:List UInt8) (hx:a.eval x=.slice ad m c) (hm:ys.length=m) (hB:BsIn w ad c ys) (hsz:n+m<=140737488355328) (hbase:base<=w.heap.size)
 (h:∀v' w',Hid (w'.ownsRow base 5 1 v' (n+m) (u8v (xs++ys)))->Hid (w.grownBy w' v.ownBlock)->wpList Tryz.prog ops Q rest (a.put o.dst v') w'):wpList Tryz.prog ops Q (o::rest) a w:=by
 obtain⟨i0,hi,hz0,hz1,hz2⟩:=info_parts Zg8;have e:u8v (xs++ys)=u8v xs++u8v ys:=by rw[u8v,u8v,u8v,List.map_append]
 rcases hB with ⟨rfl,rfl,rfl⟩|⟨rfl,ad,rfl⟩|⟨b,oo,rfl,h2,h3,h4⟩
 . have h0:m=0:=by simpa using hm.symm
   subst h0;refine wpList_append_own_none hgd s x 22 ho base 5 i0 1 Tryz.underlying22 hi v n (u8v xs) hs hown hx ?_;exact h v w (Ab (by simpa using hown)) (Ab ⟨rfl,rfl,rfl,Nat.le_refl _,fun _ _ _=>rfl⟩)
 . refine wpList_append_own_at w hgd s x 22 ho base 5 i0 (.int .u8 0) 1 1 Tryz.underlying22 hi hz0 hz1 hz2 rfl (by decide) v n (u8v xs) hs hown ad m c [] hx (by simpa using hm) (fun j u hj=>by simp at hj) (fun u hu=>by cases hu) (by unfold maxLen;omega) (by omega) hbase ?_;intro v' w' h1 h2 _ _;exact h v' w' (Ab (by simpa using h1)) (Ab h2)
 . refine wpList_append_own_at w hgd s x 22 ho base 5 i0 (.int .u8 0) 1 1 Tryz.underlying22 hi hz0 hz1 hz2 rfl (by decide) v n (u8v xs) hs hown ⟨b,oo,none⟩ m c (u8v ys) hx (by simp[u8v,hm]) ?_ (by intro u hu;obtain⟨x,_,rfl⟩:=List.mem_map.1 hu;rfl) (by unfold maxLen;omega) (by omega) hbase ?_
   . intro j u hj
     have hj2:j<ys.length:=by
      by_cases c:j<ys.length
      . exact c
      . rw[List.getElem?_eq_none (by simp[u8v];omega)]at hj;cases hj
     have e2:(⟨b,oo,none⟩:Addr).add j=⟨b,oo+j,none⟩:=by unfold Addr.add;split<;>simp_all
     rw[e2,h4 j hj2];simp[u8v,hj2]at hj
     subst hj;simp[List.getD,hj2]
   . intro v' w' h1 h2 _ _;exact h v' w' (Ab (by rw[e];exact h1)) (Ab h2)
theorem Znp (W:World)(g:Nat)(t:TypeId)(o0 o1 o2 o3 o4 v0 v1 v2 v3 v4:Value)(h:W.heap[g]? =some (.cells #[o0,o1,o2,o3,o4] t (0,0))):
 (((((W.setCell ⟨g,0,none⟩ v0).setCell ⟨g,1,none⟩ v1).setCell ⟨g,2,none⟩ v2).setCell ⟨g,3,none⟩ v3).setCell ⟨g,4,none⟩ v4).heap[g]? =some (.cells #[v0,v1,v2,v3,v4] t (0,0))/\W.grownBy (((((W.setCell ⟨g,0,none⟩ v0).setCell ⟨g,1,none⟩ v1).setCell ⟨g,2,none⟩ v2).setCell ⟨g,3,none⟩ v3).setCell ⟨g,4,none⟩ v4) (some g):=by
 have h0:=heap_setCell_same W g 0 _ _ v0 h;have h1:=heap_setCell_same _ g 1 _ _ v1 h0;have h2:=heap_setCell_same _ g 2 _ _ v2 h1;have h3:=heap_setCell_same _ g 3 _ _ v3 h2;have h4:=heap_setCell_same _ g 4 _ _ v4 h3;exact⟨h4,Aj (Aj (Aj (Aj (Ad _ _ _ _) (Ad _ _ _ _)) (Ad _ _ _ _)) (Ad _ _ _ _)) (Ad _ _ _ _)⟩
theorem Uk (x:Fv)(w:World)(h:FvIn w x):
 Calls Tryz.prog 43 #[x.val] w fun e w'=>∃a c,e=.returned (Fv.val ⟨x.f,a,c⟩)/\FvIn w' ⟨x.f,a,c⟩/\Below w.heap.size w w'/\∀b o,a=some ⟨b,o,none⟩->w.heap.size<=b/\b<w'.heap.size:=by
 rw[Eb];obtain⟨⟨nm,bs,st,nd,gn⟩,a,c⟩:=x;simp only at*
 have hbs:=h.bs;have hbig:=h.big;have htxt:=h.txt;clear h;simp only at hbs hbig htxt
 have HBS:=Ab (((hbs.below ((Below.refl w.heap.size w).alloc (Nat.le_refl _) (.cells #[.string (B nm),.slice a bs.length c,.int .i64 st,.int .i64 nd,.bool gn] 37)) (Nat.le_refl _))).below ((Below.refl (w.heap.size+1) _).alloc (by simp) (.cells #[.string ⟨#[]⟩,.slice none 0 0,.int .i64 0,.int .i64 0,.bool false] 37)) (by simp));have hown:∀W:World,W.ownsRow W.heap.size 5 1 (.slice none 0 0) 0 (u8v []):=fun W=>World.ownsRow_nil _ _ _ _
 have HT:=Ab htxt;obtain⟨n,hn⟩:∃n,bs.length=n:=⟨_,rfl⟩
 have HN:=Ab hn;have HV:=Ab (fun a c=>Eb ⟨⟨nm,bs,st,nd,gn⟩,a,c⟩);simp only at HV
 rw[hn]at hbig HV HBS ⊢;clear hbs hn htxt;generalize B nm=t at*;go_enter Tryz.func43,Tryz.ntmps43
 go_wp2_with (at_builtin;refine Nx _ rfl _ _ rfl _ (.slice none 0 0) 0 [] rfl (hown _) a n c bs rfl (Aa HN) (Aa HBS) (by omega) (Nat.le_refl _) ?_)
 intro v' w1 hO hg;obtain⟨a',c',hv,hB',hloc⟩:=BsIn.own (Aa hO);rw[show bs.length=n from Aa HN]at hv;subst hv;have hg0:((w.alloc (.cells #[.string t,.slice a n c,.int .i64 st,.int .i64 nd,.bool gn] 37)).alloc (.cells #[.string ⟨#[]⟩,.slice none 0 0,.int .i64 0,.int .i64 0,.bool false] 37)).grownBy w1 none:=Aa hg;have hz:=hg0.size;simp only[World.size_alloc]at hz
 have h1:w1.heap[w.heap.size]? =some (.cells #[.string t,.slice a n c,.int .i64 st,.int .i64 nd,.bool gn] 37 (0,0)):=by
  rw[hg0.block _ (by simp;omega) (by simp),Below.heap_alloc _ _ _ (by simp),heap_alloc_new]
 have h2:w1.heap[w.heap.size+1]? =some (.cells #[.string ⟨#[]⟩,.slice none 0 0,.int .i64 0,.int .i64 0,.bool false] 37 (0,0)):=by
  rw[hg0.block _ (by simp) (by simp)];have:=heap_alloc_new (w.alloc (.cells #[.string t,.slice a n c,.int .i64 st,.int .i64 nd,.bool gn] 37)) (.cells #[.string ⟨#[]⟩,.slice none 0 0,.int .i64 0,.int .i64 0,.bool false] 37)
  simpa using this
 have HBel:=Ab (((Below.refl w.heap.size w).alloc (Nat.le_refl _) (.cells #[.string t,.slice a n c,.int .i64 st,.int .i64 nd,.bool gn] 37)).alloc (by simp) (.cells #[.string ⟨#[]⟩,.slice none 0 0,.int .i64 0,.int .i64 0,.bool false] 37));have HBel1:=Ab ((Aa HBel).grown hg0 (by simp;omega) (fun k e=>by cases e));have q0:w1.cell? ⟨w.heap.size,0,none⟩=some (.string t):=Ac h1;have q1:w1.cell? ⟨w.heap.size,1,none⟩=some (.slice a n c):=Ac h1;have q2:w1.cell? ⟨w.heap.size,2,none⟩=some (.int .i64 st):=Ac h1;have q3:w1.cell? ⟨w.heap.size,3,none⟩=some (.int .i64 nd):=Ac h1;have q4:w1.cell? ⟨w.heap.size,4,none⟩=some (.bool gn):=Ac h1;have r0:w1.cell? ⟨w.heap.size+1,0,none⟩=some (.string ⟨#[]⟩):=Ac h2;have r1:w1.cell? ⟨w.heap.size+1,1,none⟩=some (.slice none 0 0):=Ac h2;have r2:w1.cell? ⟨w.heap.size+1,2,none⟩=some (.int .i64 0):=Ac h2;have r3:w1.cell? ⟨w.heap.size+1,3,none⟩=some (.int .i64 0):=Ac h2;have r4:w1.cell? ⟨w.heap.size+1,4,none⟩=some (.bool false):=Ac h2;have f1:=frozen_of_row w1 w.heap.size 1 _ _ h1;have g0:=frozen_of_row w1 (w.heap.size+1) 0 _ _ h2;have g1:=frozen_of_row w1 (w.heap.size+1) 1 _ _ h2;have g2:=frozen_of_row w1 (w.heap.size+1) 2 _ _ h2;have g3:=frozen_of_row w1 (w.heap.size+1) 3 _ _ h2;have g4:=frozen_of_row w1 (w.heap.size+1) 4 _ _ h2;have k1:=Ad w1 w.heap.size 1 (.slice a' n c');obtain⟨p1,p2⟩:=Znp (w1.setCell ⟨w.heap.size,1,none⟩ (.slice a' n c')) (w.heap.size+1) 37 _ _ _ _ _ (.string t) (.slice a' n c') (.int .i64 st) (.int .i64 nd) (.bool gn) ((k1.block _ (by omega) (by simp)).trans h2);have hz1:=k1.size;have hz2:=p2.size;have HP1:=Ab p1;have HF:=Ab (((Aa HBel1).grown k1 (by omega) (fun k e=>by cases e;exact Nat.le_refl _)).grown p2 (by omega) (fun k e=>by cases e;omega));have HB':=Ab ((hB'.grown k1 (fun b o e=>by have:=hloc b o e;simp;omega)).grown p2 (fun b o e=>by have:=hloc b o e;simp;omega))
 have HLoc:Hid (∀b o,a'=some ⟨b,o,none⟩->w.heap.size<=b/\b<((((((w1.setCell ⟨w.heap.size,1,none⟩ (.slice a' n c')).setCell ⟨w.heap.size+1,0,none⟩ (.string t)).setCell ⟨w.heap.size+1,1,none⟩ (.slice a' n c')).setCell ⟨w.heap.size+1,2,none⟩ (.int .i64 st)).setCell ⟨w.heap.size+1,3,none⟩ (.int .i64 nd)).setCell ⟨w.heap.size+1,4,none⟩ (.bool gn)).heap.size):=fun b o e=>by
  have:=hloc b o e
  omega
 clear h1 h2 hB' hloc hg hg0 hO k1 p1 p2 hz1 hz2;go_wp2;refine bodyPost_ret (v:=.agg #[.string t,.slice a' n c',.int .i64 st,.int .i64 nd,.bool gn]) ?_ rfl ⟨a',c',by rw[Aa HV],⟨Aa HB',by rw[Aa HN];exact hbig,Aa HT⟩,Aa HF,Aa HLoc⟩;exact results_cell_row rfl _ _ _ _ _ _ _ rfl (Aa HP1) Tryz.underlying37 rfl (by kernel_rfl)
theorem Z59 (w:World)(o1 o2:Obj):Below w.heap.size w ((w.alloc o1).alloc o2).drew:=Af (((Below.refl _ w).alloc (Nat.le_refl _) o1).alloc (by simp) o2) 1
theorem Vz (w:World)(o1 o2 o3:Obj):Below w.heap.size w (((w.alloc o1).alloc o2).alloc o3).drew:=Af ((((Below.refl _ w).alloc (Nat.le_refl _) o1).alloc (by simp) o2).alloc (by simp;omega) o3) 1
theorem Zfw (w:World)(o1 o2 o3:Obj)(v1 v2 v3 v4:Value):Below w.heap.size w (((w.alloc o1).alloc o2).alloc o3).drew:=Af ((((Below.refl _ w).alloc (Nat.le_refl _) o1).alloc (by simp) o2).alloc (by simp;omega) o3) 1
theorem Znh (a b c d:Int)(W:World):(Instr.index 103 (.agg #[.int .i64 a,.int .i64 b,.int .i64 c,.int .i64 d]) (.int .i64 0)).run Tryz.prog W=.ok (.int .i64 a) W:=by kernel_rfl
theorem Zng (a b c d:Int)(W:World):(Instr.index 103 (.agg #[.int .i64 a,.int .i64 b,.int .i64 c,.int .i64 d]) (.int .i64 1)).run Tryz.prog W=.ok (.int .i64 b) W:=by kernel_rfl
theorem Znf (a b c d:Int)(W:World):(Instr.index 103 (.agg #[.int .i64 a,.int .i64 b,.int .i64 c,.int .i64 d]) (.int .i64 2)).run Tryz.prog W=.ok (.int .i64 c) W:=by kernel_rfl
theorem Zne (a b c d:Int)(W:World):(Instr.index 103 (.agg #[.int .i64 a,.int .i64 b,.int .i64 c,.int .i64 d]) (.int .i64 3)).run Tryz.prog W=.ok (.int .i64 d) W:=by kernel_rfl
theorem Zjo {a b:Int}(h:a≠0):nz a b=a:=by unfold nz;rw[if_pos h]
theorem Hk {b:Int}:nz 0 b=b:=by unfold nz;rw[if_neg (by decide)]
theorem Zmu {a:Int}(h:a≠0):(a !=0)=true:=by rw[bne_iff_ne];exact h
theorem Zbc (x y:Fv)(w:World)(hx:FvIn w x)(hy:FvIn w y):
 Calls Tryz.prog 42 #[x.val,y.val] w fun e w'=>e=.returned (.int .i64 (nwr x.f y.f))/\Below w.heap.size w w':=by
 have hb:∀W,Below w.heap.size w W->Calls Tryz.prog 57 #[.slice x.a x.f.bytes.length x.c,.slice y.a y.f.bytes.length y.c] W fun e w'=>e=.returned (.int .i64 (Fe x.f.bytes y.f.bytes))/\w'=W:=
  fun W hW=>Zdf (hx.bs.below hW (Nat.le_refl _)) (hy.bs.below hW (Nat.le_refl _))
 have hd:nwr x.f y.f=nz (Zi5 x.f.stamp y.f.stamp) (nz (Zi5 x.f.node y.f.node) (nz (Zmw x.f.gone y.f.gone) (Fe x.f.bytes y.f.bytes))):=rfl;rw[Eb,Eb,hd];clear hx hy hd;obtain⟨⟨nm,bs,st,nd,gn⟩,a,c⟩:=x;obtain⟨⟨nm2,bs2,st2,nd2,gn2⟩,a2,c2⟩:=y;simp only at*
 generalize B nm=t at*;generalize B nm2=t2 at*;generalize bs.length=n at*;generalize bs2.length=n2 at*;have h3:=Zgh gn gn2;generalize Zmw gn gn2=k3 at*;generalize Fe bs bs2=k4 at*;have H3:=Ab h3;have H4:=Ab hb;clear h3 hb;go_enter Tryz.func42,Tryz.ntmps42
 go_wp2
 go_region_held3 (fun W=>Below w.heap.size w W/\W.cell? ⟨w.heap.size,1,none⟩=some (.slice a n c)/\W.cell? ⟨w.heap.size,2,none⟩=some (.int .i64 st)/\W.cell? ⟨w.heap.size,3,none⟩=some (.int .i64 nd)/\W.cell? ⟨w.heap.size,4,none⟩=some (.bool gn)/\W.cell? ⟨w.heap.size+1,1,none⟩=some (.slice a2 n2 c2)/\W.cell? ⟨w.heap.size+1,2,none⟩=some (.int .i64 st2)/\W.cell? ⟨w.heap.size+1,3,none⟩=some (.int .i64 nd2)/\W.cell? ⟨w.heap.size+1,4,none⟩=some (.bool gn2)) (refine⟨?_, ?_, ?_, ?_, ?_, ?_, ?_, ?_, ?_⟩<;>first|exact Z59 _ _ _|exact Vz _ _ _ _|exact Zfw _ _ _ _ _ _ _ _|go_keep)
  (first|(go_at_call 55;refine(Zkn _ _ _).mono ?_;rintro e w' ⟨rfl,rfl⟩)|(go_at_call 56;refine(Aa H3 _).mono ?_;rintro e w' ⟨rfl,rfl⟩)|(go_at_call 57;refine(Aa H4 _ (by first|exact Z59 _ _ _|exact Vz _ _ _ _)).mono ?_;rintro e w' ⟨rfl,rfl⟩))
 all_goals (
  generalize hk1:Zi5 st st2=k1;generalize hk2:Zi5 nd nd2=k2;have HK1:=Ab hk1;have HK2:=Ab hk2;clear hk1 hk2;have i0:=Znh k1 k2 k3 k4;have i1:=Zng k1 k2 k3 k4;have i2:=Znf k1 k2 k3 k4;have i3:=Zne k1 k2 k3 k4;clear H3 H4;go_wp2;go_loopw [7,30] (fun _ i wr=>Hid (Below w.heap.size w wr)/\((i=.int .i64 0)\/ (i=.int .i64 1/\k1=0)\/ (i=.int .i64 2/\k1=0/\k2=0)\/ (i=.int .i64 3/\k1=0/\k2=0/\k3=0)\/ (i=.int .i64 4/\k1=0/\k2=0/\k3=0/\k4=0))) (fun _ i _=>4-(intOf i).toNat)
  case atStart=>exact⟨Vz _ _ _ _,.inl rfl⟩
  case round=>
   obtain⟨HB,rfl|⟨rfl,rfl⟩|⟨rfl,rfl,rfl⟩|⟨rfl,rfl,rfl,rfl⟩|⟨rfl,rfl,rfl,rfl,rfl⟩⟩:=hrel
   . by_cases h:k1=0
     . subst h;go_wp2;go_roundw
       case rel=>exact⟨HB,by simp⟩
       case measure=>simp[intOf]
     . have hb:=Zmu h;go_wp2;go_ret;exact⟨Fb (by rw[Aa HK1,Zjo h]),Aa HB⟩
   . by_cases h:k2=0
     . subst h;go_wp2;go_roundw
       case rel=>exact⟨HB,by simp⟩
       case measure=>simp[intOf]
     . have hb:=Zmu h;go_wp2;go_ret;exact⟨Fb (by rw[Aa HK1,Aa HK2,Hk,Zjo h]),Aa HB⟩
   . by_cases h:k3=0
     . subst h;go_wp2;go_roundw
       case rel=>exact⟨HB,by simp⟩
       case measure=>simp[intOf]
     . have hb:=Zmu h;go_wp2;go_ret;exact⟨Fb (by rw[Aa HK1,Aa HK2,Hk,Hk,Zjo h]),Aa HB⟩
   . by_cases h:k4=0
     . subst h;go_wp2;go_roundw
       case rel=>exact⟨HB,by simp⟩
       case measure=>simp[intOf]
     . have hb:=Zmu h;go_wp2;go_ret;exact⟨Fb (by rw[Aa HK1,Aa HK2,Hk,Hk,Hk]),Aa HB⟩
   . go_wp2;go_ret;exact⟨Fb (by rw[Aa HK1,Aa HK2,Hk,Hk,Hk]),Aa HB⟩)
def ahd (xs:List Fv):Nat->Option Fl
 |0=>none
 |k+1=>(fls xs)[k]?
theorem Zcs {xs:List Fv}{k:Nat}{x:Fv}(h:xs[k]? =some x):
 Z3c (ahd xs k) ((fls xs).drop k)=if Ju x.f≠0 then Ju x.f else if behind (ahd xs k) x.f=false then 4 else Z3c (ahd xs (k+1)) ((fls xs).drop (k+1)):=by
 have hf:(fls xs)[k]? =some x.f:=by simp[fls,h]
 have hlt:k<(fls xs).length:=by
  rcases Nat.lt_or_ge k (fls xs).length with h'|h'
  . exact h'
  . rw[List.getElem?_eq_none h']at hf;cases hf
 have e:(fls xs).drop k=x.f::(fls xs).drop (k+1):=by
  rw[List.drop_eq_getElem_cons hlt]
  congr 1
  rw[List.getElem?_eq_getElem hlt]at hf;exact Option.some.inj hf
 rw[e,Z3c];show _=if Ju x.f≠0 then Ju x.f else if behind (ahd xs k) x.f=false then 4 else Z3c ((fls xs)[k]?) _
 rw[hf]
theorem Zlg (x y:List UInt8):Op.bytesLess (B x).toList (B y).toList=decide (Fe x y<0):=by rw[Dl,Dl,Wd]
theorem Zlh (x y:List UInt8):((B x).toList==(B y).toList)=decide (Fe x y=0):=by
 rw[Dl,Dl,Bool.eq_iff_iff,beq_iff_eq,decide_eq_true_iff,Z19]
theorem Z8j (ad:Option Addr)(n c:Nat)(w:World)(h:12<n):Calls Tryz.prog 26 #[.slice ad n c] w fun e w'=>e=.returned (.int .i64 2)/\w'=w:=by
 go_enter Tryz.func26,Tryz.ntmps26
 go_wp2;go_ret;exact⟨rfl,rfl⟩
theorem Ht (ad:Option Addr)(c:Nat)(xs:List Fv)(w:World)(h:FsIn w ad c xs)(n:Nat)(hn:xs.length=n):
 Calls Tryz.prog 26 #[.slice ad n c] w fun e w'=>e=.returned (.int .i64 (Ej (fls xs):Nat))/\Below w.heap.size w w':=by
 have hl:(fls xs).length=n:=by simp[fls,hn]
 by_cases hm:12<n
 . have e:Ej (fls xs)=2:=by unfold Ej;rw[if_pos (by omega)]
   rw[e];refine(Z8j ad n c w hm).mono ?_;rintro e w' ⟨rfl,rfl⟩;exact⟨rfl,Below.refl _ _⟩
 . have e:Ej (fls xs)=Z3c none (fls xs):=by unfold Ej;rw[if_neg (by omega)]
   obtain⟨E,hE⟩:∃E,Z3c none (fls xs)=E:=⟨_,rfl⟩
   rw[e,hE];have HI:=Ab h;have HN:=Ab hn;have HE:=Ab hE;have HL:=Ab hl;clear h e hE hn hl;go_enter Tryz.func26,Tryz.ntmps26
   go_wp2;go_loopw [3,4,5,11] (fun _ _ _ i wr=>∃k:Nat,k<=n/\i=.int .i64 (k:Int)/\Hid (Z3c (ahd xs k) ((fls xs).drop k)=E)/\Hid (Below w.heap.size w wr)) (fun _ _ _ i _=>n-(intOf i).toNat)
   case atStart=>exact⟨0,Nat.zero_le _,rfl,Aa HE,Below.refl _ _⟩
   case round=>
    obtain⟨k,hk,rfl,HR,HB⟩:=hrel
    by_cases hlt:k<n
    . obtain⟨x,hx,hxm⟩:=Qw (xs:=xs) (k:=k) (by rw[Aa HN];exact hlt);obtain⟨b,o,rfl,hb,c0,c1,c2,c3,c4⟩:=(Aa HI).get (Aa HB) hx;have hst:=Zcs hx;rw[Aa HR]at hst;have hz:=(Aa HB).size;have HCK:=Ab (fun W (hW:Below w.heap.size w W)=>Xe x W (((Aa HI).all x hxm).below hW (Nat.le_refl _)));have HS:=Ab hst;rw[Eb]at HCK;unfold Fv.sl at c1;obtain⟨er,her⟩:∃er,Ju x.f=er:=⟨_,rfl⟩
      rw[her]at HCK HS;clear hst her hxm;have HX:=Ab hx;clear hx;obtain⟨xf,xa,xc⟩:=x;simp only at*
      have hname:∃nm,xf.name=nm:=⟨_,rfl⟩
      obtain⟨nm,hnm⟩:=hname;rw[hnm]at c0 HCK;obtain⟨t,ht⟩:∃t,B nm=t:=⟨_,rfl⟩
      rw[ht]at c0 HCK;have HT:=Ab ht;have HNM:=Ab hnm;clear ht hnm;generalize xf.bytes.length=nb at*;generalize xf.stamp=st at*;generalize xf.node=nd at*;generalize xf.gone=gn at*;have hbl:∀o',Below w.heap.size w (wr.alloc o'):=fun o'=>(Aa HB).alloc hz o'
      have HBL:=Ab hbl;clear hbl
      by_cases he:er=0
      . subst he
        cases k with
        |zero=>
         simp only[Nat.zero_mul,Nat.add_zero]at c0 c1 c2 c3 c4;have hst:=Aa HS;rw[if_neg (by simp),if_neg (by simp[ahd,behind])]at hst;have HN2:=Ab hst;clear hst;go_wp2_with fail
         refine(Aa HCK _ (Aa HBL _)).mono ?_;rintro e w1 ⟨rfl,hb1⟩;have HB1:=Ab ((Aa HBL _).trans (hb1.mono (by simp;omega)));clear hb1;go_wp2;go_quiet (fail)
         go_wp2;go_roundw
         case rel=>exact⟨1,by omega,by go_num,(Aa HN2).symm,Af (Aa HB1) _⟩
         case measure=>simp[intOf];omega
        |succ j=>
         obtain⟨y,hy,hym⟩:=Qw (xs:=xs) (k:=j) (by rw[Aa HN];omega);obtain⟨b',o',hab,hb',d0,_⟩:=(Aa HI).get (Aa HB) hy
         cases hab
         have hst:=Aa HS;rw[if_neg (by simp)]at hst;have ha:ahd xs (j+1)=some y.f:=by show (fls xs)[j]? =_;simp[fls,hy]
         rw[ha]at hst;have hle:=Zlg nm y.f.name;have heq:=Zlh nm y.f.name;have hbh:behind (some y.f) xf=decide (Fe y.f.name nm<0):=by show decide (Fe y.f.name xf.name<0)=_;rw[Aa HNM]
         rw[hbh]at hst;have hanti:=Me nm y.f.name;rw[Aa HT]at hle heq;generalize B y.f.name=t' at*;generalize y.f.name=ny at*;clear hbh ha hy hym;have hji:((j+1:Nat):Int)-1=(j:Int):=by omega
         have hjn:(j:Int)<(n:Int):=by omega
         by_cases h1:Fe nm ny=1
         . rw[h1]at hle heq hanti;rw[if_neg (by rw[hanti];decide)]at hst;have HN2:=Ab hst;simp only[Int.reduceLT,Int.reduceEq,decide_false]at hle heq;clear hst hanti h1;go_wp2_with fail
           refine(Aa HCK _ (Aa HBL _)).mono ?_;rintro e w1 ⟨rfl,hb1⟩;have HB1:=Ab ((Aa HBL _).trans (hb1.mono (by simp;omega)));have q0:w1.cell? ⟨wr.heap.size,0,none⟩=some (.string t):=(hb1.cell (p:=⟨wr.heap.size,0,none⟩) (by simp)).trans (by simp);have r0:w1.cell? ⟨b,o+j*5,none⟩=some (.string t'):=(hb1.cell (p:=⟨b,o+j*5,none⟩) (by simp;omega)).trans ((World.cell?_alloc_past _ _ _ (by show b<wr.heap.size;omega)).trans d0);clear hb1;go_wp2;go_quiet (fail)
           go_wp2;go_roundw
           case rel=>exact⟨j+2,by omega,by go_num,(Aa HN2).symm,Af (Aa HB1) _⟩
           case measure=>simp[intOf];omega
         . have h2:(Fe nm ny= -1\/Fe nm ny=0):=by rcases Er nm ny with h|h|h<;>omega
           rw[if_pos (by rw[hanti];apply decide_eq_false;omega)]at hst;have HN2:=Ab hst;clear hst hanti h1
           rcases h2 with h2|h2
           all_goals (
            rw[h2]at hle heq;simp only[Int.reduceLT,Int.reduceEq,Int.reduceNeg,decide_true,decide_false]at hle heq;clear h2;go_wp2_with fail
            refine(Aa HCK _ (Aa HBL _)).mono ?_;rintro e w1 ⟨rfl,hb1⟩;have HB1:=Ab ((Aa HBL _).trans (hb1.mono (by simp;omega)));have q0:w1.cell? ⟨wr.heap.size,0,none⟩=some (.string t):=(hb1.cell (p:=⟨wr.heap.size,0,none⟩) (by simp)).trans (by simp);have r0:w1.cell? ⟨b,o+j*5,none⟩=some (.string t'):=(hb1.cell (p:=⟨b,o+j*5,none⟩) (by simp;omega)).trans ((World.cell?_alloc_past _ _ _ (by show b<wr.heap.size;omega)).trans d0);clear hb1;go_wp2;go_quiet (fail)
            go_wp2;go_ret;exact⟨Fb (by rw[Aa HN2];rfl),Af (Aa HB1) _⟩)
      . have hst:=Aa HS;rw[if_pos (by simpa using he)]at hst;have HN2:=Ab hst;clear hst;go_wp2_with fail
        refine(Aa HCK _ (Aa HBL _)).mono ?_;rintro e w1 ⟨rfl,hb1⟩;have HB1:=Ab ((Aa HBL _).trans (hb1.mono (by simp;omega)));clear hb1;go_wp2;go_ret;exact⟨Fb (by rw[Aa HN2]),Aa HB1⟩
    . obtain rfl:n=k:=by omega
      go_wp2;go_ret;have:=Aa HR
      rw[List.drop_of_length_le (by rw[Aa HL];exact Nat.le_refl _)]at this;exact⟨Fb (by rw[<-this];rfl),Aa HB⟩
theorem Zmd (a b:Option Addr)(n m c d:Nat)(W:World):(Instr.index 85 (.agg #[.slice a n c,.slice b m d]) (.int .i64 0)).run Tryz.prog W=.ok (.slice a n c) W:=by kernel_rfl
theorem Zmc (a b:Option Addr)(n m c d:Nat)(W:World):(Instr.index 85 (.agg #[.slice a n c,.slice b m d]) (.int .i64 1)).run Tryz.prog W=.ok (.slice b m d) W:=by kernel_rfl
def Z0w (a b:List Fl):Nat:=if Ej a≠0 then Ej a else Ej b
theorem Zgs {a b:List Fl}(h:Ej a≠0):Z0w a b=Ej a:=by unfold Z0w;rw[if_pos h]
theorem Zgr {a b:List Fl}(h:Ej a=0):Z0w a b=Ej b:=by unfold Z0w;rw[if_neg (by simp[h])]
theorem Rj {a b:List Fl}:Z0w a b=0↔Ej a=0/\Ej b=0:=by
 unfold Z0w
 split
 . rename_i h;simp[h]
 . rename_i h;simp at h;simp[h]
theorem Xf (ad bd:Option Addr)(c d:Nat)(xs ys:List Fv)(w:World)(h:FsIn w ad c xs)(k:FsIn w bd d ys)(n m:Nat)(hn:xs.length=n)(hm:ys.length=m):
 Calls Tryz.prog 29 #[.slice ad n c,.slice bd m d] w fun e w'=>e=.returned (.int .i64 (Z0w (fls xs) (fls ys):Nat))/\Below w.heap.size w w':=by
 have HS:=Ab (fun W (hW:Below w.heap.size w W)=>Ht ad c xs W (h.below hW (Nat.le_refl _)) n hn);have HF:=Ab (fun W (hW:Below w.heap.size w W)=>Ht bd d ys W (k.below hW (Nat.le_refl _)) m hm);have i0:=Zmd ad bd n m c d;have i1:=Zmc ad bd n m c d;have e0:= @Zgs (fls xs) (fls ys);have e1:= @Zgr (fls xs) (fls ys);obtain⟨E,hE⟩:∃E,Z0w (fls xs) (fls ys)=E:=⟨_,rfl⟩
 rw[hE]at e0 e1 ⊢;generalize Ej (fls xs)=x at*;generalize Ej (fls ys)=y at*;clear h k hn hm hE;have E0:=Ab e0;have E1:=Ab e1;clear e0 e1;go_enter Tryz.func29,Tryz.ntmps29
 go_wp2;go_loopw [6,7,11] (fun _ _ i wr=>Hid (Below w.heap.size w wr)/\((i=.int .i64 0)\/ (i=.int .i64 1/\x=0)\/ (i=.int .i64 2/\x=0/\y=0))) (fun _ _ i _=>2-(intOf i).toNat)
 case atStart=>exact⟨Below.refl _ _,.inl rfl⟩
 case round=>
  obtain⟨HB,rfl|⟨rfl,rfl⟩|⟨rfl,rfl,rfl⟩⟩:=hrel
  . by_cases he:x=0
    . subst he;go_wp2_with (go_at_call 26;refine(Aa HS _ (Aa HB)).mono ?_;rintro e w1 ⟨rfl,hb1⟩;have HB1:=Ab ((Aa HB).trans (hb1.mono (Aa HB).size));clear hb1)
      go_roundw
      case rel=>exact⟨HB1,by simp⟩
      case measure=>simp[intOf]
    . go_wp2_with (go_at_call 26;refine(Aa HS _ (Aa HB)).mono ?_;rintro e w1 ⟨rfl,hb1⟩;have HB1:=Ab ((Aa HB).trans (hb1.mono (Aa HB).size));clear hb1)
      go_ret;exact⟨Fb (by rw[Aa E0 he]),Aa HB1⟩
  . have hyE:=Aa E1 rfl;subst hyE
    by_cases he:E=0
    . subst he;go_wp2_with (go_at_call 26;refine(Aa HF _ (Aa HB)).mono ?_;rintro e w1 ⟨rfl,hb1⟩;have HB1:=Ab ((Aa HB).trans (hb1.mono (Aa HB).size));clear hb1)
      go_roundw
      case rel=>exact⟨HB1,by simp⟩
      case measure=>simp[intOf]
    . go_wp2_with (go_at_call 26;refine(Aa HF _ (Aa HB)).mono ?_;rintro e w1 ⟨rfl,hb1⟩;have HB1:=Ab ((Aa HB).trans (hb1.mono (Aa HB).size));clear hb1)
      go_ret;exact⟨rfl,Aa HB1⟩
  . have hyE:=Aa E1 rfl;subst hyE;go_wp2;go_ret;exact⟨rfl,Aa HB⟩
def fcells (xs:List Fv):List Value:=xs.flatMap Fv.cells
theorem Uf (xs ys:List Fv):fcells (xs++ys)=fcells xs++fcells ys:=by simp[fcells]
theorem Ue (y:Fv):fcells [y]=y.cells:=by simp[fcells]
theorem Lx:∀(xs:List Fv) (j:Nat) (x:Fv) (i:Nat),xs[j]? =some x->i<5->(fcells xs)[j*5+i]? =x.cells[i]?
 | [],j,x,i,h,_=>by simp at h
 |y::r,0,x,i,h,hi=>by
  have:fcells (y::r)=y.cells++fcells r:=rfl
  simp at h
  subst h;rw[this,Nat.zero_mul,Nat.zero_add,List.getElem?_append_left (show i<5 from hi)]
 |y::r,j+1,x,i,h,hi=>by
  have e:fcells (y::r)=y.cells++fcells r:=rfl;have hl:y.cells.length=5:=rfl;have ih:=Lx r j x i (by simpa using h) hi;rw[e,List.getElem?_append_right (by rw[hl];omega),hl,show (j+1)*5+i-5=j*5+i by omega,ih]
theorem Z1c (y:Fv):∀u∈y.cells,u.oneCell'=true:=by
 intro u hu;simp only[Fv.cells,Fv.sl,List.mem_cons,List.not_mem_nil,or_false]at hu
 rcases hu with rfl|rfl|rfl|rfl|rfl<;>rfl
structure FRow (w:World)(B:Nat)(v:Value)(xs:List Fv):Prop where
 own:w.ownsRow B 37 5 v xs.length (fcells xs)
 all:∀x∈xs,FvIn w x
 apart:∀x∈xs,∀b o,x.a=some ⟨b,o,none⟩->some b≠v.ownBlock/\b<w.heap.size
theorem FRow.nil (w:World)(B:Nat):FRow w B (.slice none 0 0) []:=⟨World.ownsRow_nil _ _ _ _,(fun x hx=>absurd hx List.not_mem_nil),(fun x hx=>absurd hx List.not_mem_nil)⟩
theorem FRow.below {w w':World}{B:Nat}{v:Value}{xs:List Fv}(h:FRow w B v xs)(hB:Below w.heap.size w w'):FRow w' B v xs:=
 ⟨Zo h.own hB,fun x hx=>(h.all x hx).below hB (Nat.le_refl _),fun x hx b o e=>⟨(h.apart x hx b o e).1,Nat.lt_of_lt_of_le (h.apart x hx b o e).2 hB.size⟩⟩
theorem FRow.lt {w:World}{B:Nat}{v:Value}{xs:List Fv}(h:FRow w B v xs){g:Nat}(e:v.ownBlock=some g):B<=g/\g<w.heap.size:=h.own.lt g e
theorem FRow.files {w:World}{B:Nat}{v:Value}{xs:List Fv}(h:FRow w B v xs)(hl:xs.length<=2199023255552):∃ad c,v=.slice ad xs.length c/\FsIn w ad c xs:=by
 rcases h.own.2 with ⟨h1,h2⟩|⟨g,cap,cur,h1,h2,h3,h4,h5,h6,h7⟩
 . have hx:xs= []:=List.eq_nil_of_length_eq_zero h2;subst hx;exact⟨none,0,h1,FsIn.nil w⟩
 . refine⟨_,_,h1,⟨.inr ⟨g,0,rfl,(h.lt (g:=g) (by rw[h1];rfl)).2, ?_⟩,h4,by unfold maxLen at h5;omega,hl,h.all⟩⟩;intro j x hj
   have hlt:j<xs.length:=by
    rcases Nat.lt_or_ge j xs.length with h'|h'
    . exact h'
    . rw[List.getElem?_eq_none h']at hj;cases hj
   have hc:∀i u,i<5->x.cells[i]? =some u->w.cell? ⟨g,0+j*5+i,none⟩=some u:=by
    intro i u hi hu;have e:=Lx xs j x i hj hi;have hown:=h.own;rw[h1]at hown;rw[Nat.zero_add,hown.cellAt _ (by omega)];rw[e,hu]
   exact⟨hc 0 _ (by decide) rfl,hc 1 _ (by decide) rfl,hc 2 _ (by decide) rfl,hc 3 _ (by decide) rfl,hc 4 _ (by decide) rfl⟩
theorem Z0a:(Tryz.prog.info? 37).map (fun i=>(i.zero,i.size,i.bytes))=some (some (.agg #[.string ⟨#[]⟩,.slice none 0 0,.int .i64 0,.int .i64 0,.bool false]),5,64):=by kernel_rfl
theorem Ea (w:World){ops:Array Oper}{rest:List Oper}{o:Oper}{a:Act}{Q:Exit->Act->World->Prop}(hgd:o.guard=none)(s x:Operand)
 (ho:o.op=.call {callee:=.builtin .append,args:= #[s,x],argTypes:= #[29,29]}) (base:Nat) (v:Value) (xs:List Fv) (hs:a.eval s=v) (hown:FRow w base v xs)
 (g:Nat) (y:Fv) (hx:a.eval x=.slice (some ⟨g,0,none⟩) 1 1) (hc:∀j u,y.cells[j]? =some u->w.cell? ⟨g,j,none⟩=some u) (hy:FvIn w y) (hyb:∀b o,y.a=some ⟨b,o,none⟩->some b≠v.ownBlock/\b<w.heap.size) (hsz:xs.length+1<=2199023255552) (hbase:base<=w.heap.size)
 (h:∀v' w',Hid (FRow w' base v' (xs++ [y]))->Hid (Below base w w')->wpList Tryz.prog ops Q rest (a.put o.dst v') w'):wpList Tryz.prog ops Q (o::rest) a w:=by
 obtain⟨i0,hi,hz0,hz1,hz2⟩:=info_parts Z0a;refine wpList_append_own_at w hgd s x 29 ho base 37 i0 _ 5 64 Tryz.underlying29 hi hz0 hz1 hz2 rfl (by decide) v xs.length (fcells xs) hs hown.own ⟨g,0,none⟩ 1 1 y.cells hx rfl ?_ (Z1c y) (by unfold maxLen;omega) (by omega) hbase ?_
 . intro j u hj;have e2:(⟨g,0,none⟩:Addr).add j=⟨g,j,none⟩:=by unfold Addr.add;split<;>simp_all
   rw[e2];exact hc j u hj
 . intro v' w' h1 h2 _ h4
   have hne:∀z,(z∈xs\/z=y)->∀b o,z.a=some ⟨b,o,none⟩->some b≠v.ownBlock/\b<w.heap.size:=by
    intro z hz b o e
    rcases hz with hz|rfl
    . exact hown.apart z hz b o e
    . exact hyb b o e
   have hin:∀z,(z∈xs\/z=y)->FvIn w z:=by
    intro z hz
    rcases hz with hz|rfl
    . exact hown.all z hz
    . exact hy
   have hm:∀z,z∈xs++ [y]->z∈xs\/z=y:=by intro z hz;simpa using hz
   refine h v' w' (Ab ⟨?_, ?_, ?_⟩) (Ab ?_)
   . rw[Uf,Ue,List.length_append];exact h1
   . intro z hz;exact(hin z (hm z hz)).grown h2 (fun b o e=>(hne z (hm z hz) b o e).1)
   . intro z hz b o e;have hb:=hne z (hm z hz) b o e;refine⟨?_,Nat.lt_of_lt_of_le hb.2 h2.size⟩
     rcases h4 with h4|h4
     . rw[h4];exact hb.1
     . rw[h4];intro e2;have:=Option.some.inj e2
       omega
   . exact(Below.refl base w).grown h2 hbase (fun k e=>(hown.own.lt k e).1)
def tlA (b o c:Nat):Addr:=if c=1 then ⟨b,o,none⟩else ⟨b,o+5,none⟩
theorem FsIn.tail {w:World}{b o c:Nat}{x:Fv}{xs:List Fv}(h:FsIn w (some ⟨b,o,none⟩) c (x::xs)):FsIn w (some (tlA b o c)) (c-1) xs:=by
 have hc:=h.cap;have hm:=h.capm;have hl:=h.lim;simp only[List.length_cons]at hc hl;refine⟨.inr ?_,by omega,by omega,by omega,fun y hy=>h.all y (List.mem_cons_of_mem _ hy)⟩
 rcases h.at_ with h1|⟨b',o',h1,h2,h3⟩
 . cases h1
 . cases h1
   unfold tlA
   by_cases e:c=1
   . rw[if_pos e];have:xs= []:=List.eq_nil_of_length_eq_zero (by omega)
     subst this;exact⟨b,o,rfl,h2,fun j x hj=>by simp at hj⟩
   . rw[if_neg e];refine⟨b,o+5,rfl,h2, ?_⟩;intro j y hj;have:=h3 (j+1) y (by simpa using hj)
     rw[show o+(j+1)*5=o+5+j*5 by omega]at this;exact this
theorem Zad (b o k c:Nat)(W:World)(h:k+1<=c):(Instr.slice 29 (.slice (some ⟨b,o,none⟩) (k+1) c) (some (.int .i64 1)) none none).run Tryz.prog W=.ok (.slice (some (tlA b o c)) k (c-1)) W:=by
 have hs:=Tryz.sizeOf37;have ht:=Tryz.underlying29;have h1:(1:Int)<=((k+1:Nat):Int):=by omega
 have h2:k+1<=c:=h;unfold tlA
 by_cases e:c=1
 . subst e;have:k=0:=by omega
   subst this;simp[go_sem,ht]
 . rw[if_neg e];have h3:(1:Int)<=(k:Int)+1:=by omega
   simp[go_sem,ht,h3,e]
end Go.Proofs.YtcjbgpacnkilnagGreatDoor
