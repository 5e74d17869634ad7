import Derived.Test.YtleocpdblhbimaaGreatDoorQ14
import Derived.Defers
import Derived.Recover
import Derived.Laws.Pointers
import Derived.Maps.AppendAt
import Derived.Laws.AppendOwnNone
set_option linter.unusedSimpArgs false
set_option maxHeartbeats 4000000
namespace Go.Proofs.YtleocpdblhbimaaGreatDoor
open Go.RowKit
set_option linter.unusedVariables false
set_option maxRecDepth 100000
structure ERd (w:World)(b:Nat)(a:Option Addr)(n cap:Nat)(bs:List Nat)(v:Value)(es:List Ev)(q:Nat)(wr:World):Prop where
 z:ZT w b (.slice a n cap) q wr
 row:ERow wr w.heap.size v es
 pks:∀x∈es,∀W,ZRow W b a n cap bs->PkIn W x.pa x.pc x.e.pk
 fas:∀x∈es,∀g o,x.fa=some ⟨g,o,none⟩->x.e.f.bytes≠ []->w.heap.size<=g
theorem ERd.call {w wr w':World}{b n cap q q':Nat}{a:Option Addr}{bs:List Nat}{v:Value}{es:List Ev}(h:ERd w b a n cap bs v es q wr)(hb:b<w.heap.size)(hR:ZRow w b a n cap bs)(hT:ZT wr b (.slice a n cap) q' w'):ERd w b a n cap bs v es q' w':=by
 have hR':ZRow w' b a n cap bs:=(hR.after h.z).after hT;refine⟨h.z.trans hT,⟨Au h.row.own (fun g hg=>hT.keep g (by have:=(h.row.own.lt g hg).1;omega) (h.row.own.lt g hg).2),fun x hx=> ?_,h.row.apart⟩,h.pks,h.fas⟩;have hx':=h.row.all x hx;refine⟨⟨?_,hx'.fb.2⟩,hx'.fl,hx'.big,hx'.txt,h.pks x hx w' hR'⟩
 by_cases h0:n8 x.e.f.bytes= []
 . exact .inl h0
 . rcases hx'.fb.1 with h1|⟨g,o,e,hg,hc⟩
   . exact absurd h1 h0
   . have hgb:=h.fas x hx g o e (NM h0);exact .inr ⟨g,o,e,VG hg hT.below.size,fun j hj=>(World.cell?_of_block (w:=wr) (a:=⟨g,_,none⟩) (hT.keep g (by omega) hg)).trans (hc j hj)⟩
theorem ERd.later {w wr w':World}{b n cap q:Nat}{a:Option Addr}{bs:List Nat}{v:Value}{es:List Ev}(h:ERd w b a n cap bs v es q wr)(hB:Below wr.heap.size wr w'):ERd w b a n cap bs v es q w':=by
 have hb:=(VK.1 h.z.is).1;have hs:=h.z.below.size;exact⟨⟨(hB.block b hb).trans h.z.is,h.z.below.trans (hB.mono (by omega)),fun g h1 h2=>(hB.block g (by omega)).trans (h.z.keep g h1 h2)⟩,h.row.below hB,h.pks,h.fas⟩
theorem ERd.app {w W w3:World}{b n cap q:Nat}{a:Option Addr}{bs:List Nat}{v v':Value}{es:List Ev}{x:Ev}(h:ERd w b a n cap bs v es q W)(hb:b<w.heap.size)(hg:W.grownBy w3 v.ownBlock)(hr:ERow w3 w.heap.size v' (es++ [x]))(hp:∀W,ZRow W b a n cap bs->PkIn W x.pa x.pc x.e.pk)(hf:∀g o,x.fa=some ⟨g,o,none⟩->x.e.f.bytes≠ []->w.heap.size<=g):ERd w b a n cap bs v' (es++ [x]) q w3:=by
 have hbl:=(VK.1 h.z.is).1;have hs:=h.z.below.size;have hne:∀g,g<w.heap.size->some g≠v.ownBlock:=fun g hg' e=>by have:=(h.row.own.lt g e.symm).1;omega
 refine⟨⟨(hg.block b hbl (hne b hb)).trans h.z.is,h.z.below.grown hg (by omega) (fun g e=>by have:=(h.row.own.lt g e).1;omega),fun g h1 h2=>(hg.block g (by omega) (hne g h2)).trans (h.z.keep g h1 h2)⟩,hr,fun y hy=> ?_,fun y hy=> ?_⟩
 . rcases WP.1 hy with hy|hy
   . exact h.pks y hy
   . rw[WO.1 hy];exact hp
 . rcases WP.1 hy with hy|hy
   . exact h.fas y hy
   . rw[WO.1 hy];exact hf
def Z8j:Value->Nat
 | .slice _ n _=>n
 |_=>0
theorem ERow.len {w:World}{B:Nat}{v:Value}{xs:List Ev}(h:ERow w B v xs):Z8j v=xs.length:=by
 obtain⟨a,c,rfl⟩:=An h.own;rfl
def Z24 (w:World)(b:Nat)(a:Option Addr)(n cap:Nat)(bs:List Nat)(e:Ending)(w':World):Prop:=
 (Cd (n+1) bs=none/\e=Z31/\∃q,ZT w b (.slice a n cap) q w')\/ (∃v es q,Cd (n+1) bs=some (es.map Ev.e)/\e=.returned v/\ERd w b a n cap bs v es q w')
theorem IF {F:Nat}{r m q:List Nat}(h:Dy 4 r=some (m,q))(hm:Ak m≠67324752):Cd (F+1) r=some []:=by
 unfold Cd;rw[h,VF];dsimp only;rw[if_neg hm]
theorem IE {F:Nat}{r:List Nat}(h:Dy 4 r=none):Cd (F+1) r=none:=by
 unfold Cd;rw[h];rfl
theorem Vt {F:Nat}{r m q:List Nat}(h:Dy 4 r=some (m,q))(hm:Ak m=67324752)(he:Fe q=none):Cd (F+1) r=none:=by
 unfold Cd;rw[h,VF];dsimp only;rw[if_pos hm,he];rfl
theorem Vu {F:Nat}{r m q q':List Nat}{x:En}(h:Dy 4 r=some (m,q))(hm:Ak m=67324752)(he:Fe q=some (x,q')):Cd (F+1) r=(Cd F q').map (x:: ·):=by
 conv=>lhs;unfold Cd
 rw[h,VF];dsimp only;rw[if_pos hm,he];rfl
theorem TI (m:Nat)(h:m≠67324752):((m:Int)==67324752)=false:=by rw[beq_eq_false_iff_ne];omega
def Z5x (bs:List Nat):Prop:=Z5u\/∃l,Cd (bs.length+1) bs=some l/\∀x∈l,x.meth≠8
theorem PX {r q:List Nat}{x:En}(h:Fe r=some (x,q)):x.meth=Ak ((r.drop 4).take 2):=by
 unfold Fe at h;obtain⟨a1,r1,rfl,l1,h⟩:=Ap h;dsimp only at h;obtain⟨a2,r2,rfl,l2,h⟩:=Ap h;dsimp only at h;rw[YT l1,YS l2]
 iterate 12 (obtain⟨_,_,rfl,_,h⟩:=Ap h;dsimp only at h)
 obtain⟨b,hb,h⟩:=Option.bind_eq_some_iff.1 h;simp only[YB,YD]at h;rw[<-h.1]
theorem Zb (b n cap:Nat)(a:Option Addr)(bs:List Nat)(w:World)(hI:w.heap[b]? =some (.cells #[.slice a n cap,.int .i64 0] 116 (0,0)))(hR:ZRow w b a n cap bs)(hS:Z5x bs):
 Calls Tryz.prog 65 #[.pointer (some ⟨b,0,none⟩)] w fun e w'=>Z24 w b a n cap bs e w':=by
 have hb:b<w.heap.size:=(VK.1 hI).1;have hlen:=hR.len;have hfew:=hR.few;have HR:=Ab hR;have HST:=Ab hS;clear hS;have HS0:Hid (ERd w b a n cap bs (.slice none 0 0) [] 0 w):=Ab ⟨⟨hI,Below.refl _ _,fun _ _ _=>rfl⟩,ERow.nil _ _,(fun x hx=>absurd hx XE),(fun x hx=>absurd hx XE)⟩;clear hI hR;go_enter Tryz.func65,Tryz.ntmps65
 go_wp2;go_loopw [3] (fun v wr=>∃(es:List Ev) (q F:Nat),q<=n/\n-q<F/\Hid ((Cd F (bs.drop q)).map (es.map Ev.e++ ·)=Cd (n+1) bs)/\Hid (es.length*41<=q)/\Hid (ERd w b a n cap bs v es q wr)) (fun v _=>n+1-Z8j v)
 case atStart=>exact⟨[],0,n+1,VH _,by omega,Ab (by rw[List.drop_zero];cases Cd (n+1) bs<;>simp),Ab (VH _),HS0⟩
 case round=>
  obtain⟨es,q,F,hq,hF,HT,HL,HD⟩:=hrel;obtain⟨F,rfl⟩:∃F',F=F'+1:=⟨F-1,by omega⟩
  have hRr:=(Aa HR).after (Aa HD).z;have hval:=hRr.val;obtain⟨x4,hx4⟩:∃y,(bs.drop q).take 4=y:=⟨_,rfl⟩
  obtain⟨p4,hp4⟩:∃y,q+4=y:=⟨_,rfl⟩
  have bm:=Ex hval q 4;obtain⟨m,hm⟩:∃y,Ak x4=y:=⟨_,rfl⟩
  rw[hx4,hm]at bm;simp only[Nat.reducePow]at bm;have HC:=Ab (Et b q 4 n cap a bs wr (Aa HD).z.is hq hRr (by decide));rw[hx4,hp4,hm]at HC;have HG:Hid ((p4<=n->Dy 4 (bs.drop q)=some (x4,bs.drop p4))/\(n<p4->Dy 4 (bs.drop q)=none)):=Ab ⟨fun h=>by rw[<-hx4];exact Dt hlen hp4 h,fun h=>Cc hlen hp4 hq h⟩;have HM:=Ab hm;have HP4:=Ab hp4;have hlv:=(Aa HD).row.len;have HLV:=Ab hlv;clear hRr hval hx4 hm hlv hp4;go_wp2_with fail
  refine(Aa HC).mono ?_;rintro e w1 (⟨h1,rfl,hT⟩|⟨h1,rfl,hT⟩)
  . have HF:Hid (Z24 w b a n cap bs Z31 w1):=Ab (.inl ⟨by rw[<-Aa HT,IE ((Aa HG).2 h1)];rfl,rfl,q,(Aa HD).z.trans hT⟩);clear hT HD HC HG HT;go_wp2;exact⟨rfl,Aa HF⟩
  . have hD1:=(Aa HD).call hb (Aa HR) hT
    by_cases hmk:m=67324752
    . subst hmk;have HD1:=Ab hD1
      have hM4:Z5u\/Ak ((bs.drop (p4+4)).take 2)≠8:=by
       rcases Aa HST with h|⟨l,hl1,hl2⟩
       . exact .inl h
       . refine .inr ?_;have h3:=Aa HT;rw[hlen]at hl1;rw[hl1]at h3
         cases he:Fe (bs.drop p4)with
         |none=>rw[Vt ((Aa HG).1 h1) (Aa HM) he]at h3;cases h3
         |some y=>
          rw[Vu ((Aa HG).1 h1) (Aa HM) (x:=y.1) (q':=y.2) he]at h3
          cases h5:Cd F y.2 with
          |none=>rw[h5]at h3;cases h3
          |some l2=>
           rw[h5]at h3;simp only[Option.map_some,YB]at h3;have h6:=hl2 y.1 (by rw[<-h3];simp);rw[PX (x:=y.1) (q:=y.2) he,YK]at h6;exact h6
      have HC2:=Ab (EC b p4 n cap a bs w1 hD1.z.is h1 ((Aa HR).after hD1.z) hM4);clear hM4;have hs1:=hD1.z.below.size;clear hT HD HC hD1;go_wp2_with fail
      refine(Aa HC2).mono ?_;rintro e w2 (⟨he,rfl,q2,hT2⟩|⟨x,q2,he,hq2,hq2n,rfl,hxi,hxp,hxf,hT2⟩)
      . have HF:Hid (Z24 w b a n cap bs Z31 w2):=Ab (.inl ⟨by rw[<-Aa HT,Vt ((Aa HG).1 h1) (Aa HM) he];rfl,rfl,q2,(Aa HD1).z.trans hT2⟩);clear hT2 HD1 HC2 HG HT he;go_wp2;exact⟨rfl,Aa HF⟩
      . have hD2:=(Aa HD1).call hb (Aa HR) hT2
        have HT3:Hid ((Cd F (bs.drop q2)).map ((es++ [x]).map Ev.e++ ·)=Cd (n+1) bs):=Ab (by
         rw[<-Aa HT,Vu ((Aa HG).1 h1) (Aa HM) he]
         cases Cd F (bs.drop q2)<;>simp)
        have HL3:Hid ((es++ [x]).length*41<=q2):=Ab (by
         have:=Aa HL
         have:=Aa HP4
         rw[VE,List.length_singleton];omega)
        have hlies:x.lies (fun g=>some g≠(u3).ownBlock):=by
         constructor
         . intro g o e1 e2 e3;have h5:=hxf g o e1 e2;have h6:=((Aa HD1).row.own.lt g e3.symm).2;omega
         . intro g o e1 e2 e3;have h5:=Xm (hxp w (Aa HR)) g o e1 e2;have h6:=((Aa HD1).row.own.lt g e3.symm).1;omega
        have HD3:=Ab (fun o1:Obj=>hD2.later ((Below.refl _ _).alloc (VB _) o1));have HXI:=Ab (fun o1:Obj=>hxi.below ((Below.refl w2.heap.size w2).alloc (VB _) o1));have HXL:=Ab hlies;have HXP:=Ab hxp;have HXF:Hid (∀g o,x.fa=some ⟨g,o,none⟩->x.e.f.bytes≠ []->w.heap.size<=g):=Ab (fun g o e1 e2=>by have:=hxf g o e1 e2;omega);have hs2:=hD2.z.below.size;have hel:es.length+1<=100000:=by have:=Aa HL;omega
        have HEL:=Ab hel
        have HCE:Hid (∀o1,o1=Obj.cells x.cells.toArray 71->∀j u,x.cells[j]? =some u->(w2.alloc o1).cell? ⟨w2.heap.size,j,none⟩=some u):=Ab (fun o1 e j u hj=>by
         subst e;rw[Ac (heap_alloc_new w2 _)];simpa using hj)
        clear hT2 hD2 hlies hxi hxp hxf he hel HG HC2 HM;unfold Ev.val;go_wp2_with (at_builtin;refine Fr _ rfl _ _ rfl w.heap.size _ es rfl (Aa HD3 _).row w2.heap.size x rfl (Aa HCE _ rfl) (Aa HXI _) (Aa HXL) (Aa HEL) (by simp;omega) ?_)
        intro v' w3 hrow hg3;have HD4:Hid (ERd w b a n cap bs v' (es++ [x]) q2 w3):=Ab ((Aa HD3 _).app hb (Aa hg3) (Aa hrow) (Aa HXP) (Aa HXF));have hlv4:=(Aa HD4).row.len;clear hrow hg3;go_wp2;go_roundw
        case rel=>exact⟨es++ [x],q2,F,hq2n,by have:=Aa HP4;omega,HT3,HL3,HD4⟩
        case measure=>
         have h7:=Aa HLV;rw[VE,List.length_singleton]at hlv4;have h8:=Aa HL;simp
         omega
    . have HF:Hid (Z24 w b a n cap bs (.returned u3) w1):=Ab (.inr ⟨u3,es,p4,by rw[<-Aa HT,IF ((Aa HG).1 h1) (by rw[Aa HM];exact hmk)];simp,rfl,hD1⟩);have hmb:=TI m hmk;clear hT HD HC HG HT hD1 hmk;go_wp2;go_ret;exact Aa HF
theorem SM (v:Value)(w:World):(Instr.typeAssert (.iface 165 v) 20 165 true).run Tryz.prog w=.ok (.tuple #[v,.bool true]) w:=by kernel_rfl
theorem SN (w:World):(Instr.typeAssert .nilIface 20 165 true).run Tryz.prog w=.ok (.tuple #[.agg #[],.bool false]) w:=by kernel_rfl
theorem Q5 (p:Addr)(y:Int)(older:List PanicEntry)(w:World)(hc:w.cell? p=some (.int .i64 y))(hz:w.frozen? p=false)(hk:p.block<w.heap.size):
 CallsD Tryz.prog 99 #[.pointer (some p)] (.panicking ({v:=.iface 165 (.agg #[]),recovered:=false}::older)) w fun e u' w'=>
  e=.returned (.tuple #[])/\u'=.panicking ({v:=.iface 165 (.agg #[]),recovered:=true}::older)/\w'=(w.alloc (.cells #[] 165)).setCell p (.int .i64 7):=by
 refine callsD_of_wpS Tryz.func99 rfl fun c₀ cs hu=> ?_
 apply wpS_seq
 apply wpS_region
 simp[wpOpsS,go_sem,recoverD,hu,Tryz.ntmps99,Exit.thenS]
 apply wpS_seq
 apply wpS_region
 simp[wpOpsS,go_sem,SM,Exit.thenS,Array.replicate]
 apply wpS_seq
 apply wpS_region
 simp[wpOpsS,go_sem,Exit.thenS]
 refine wpS_cond (t:=true) (by simp[Act.eval]) ?_;simp only[if_true];have hc':=(World.cell?_alloc_lt w (.cells #[] 165) p hk).trans hc;have hz':=(frozen?_alloc_cells w #[] 165 p).trans hz;apply wpS_region
 simp[wpOpsS,go_sem,hc',hz',bodyPostS,results,Tryz.results99]
theorem Q6 (p:Addr)(w:World):
 CallsD Tryz.prog 99 #[.pointer (some p)] .returning w fun e u' w'=>
  e=.returned (.tuple #[])/\u'=.returning/\w'=w.alloc (.cells #[] 165):=by
 refine callsD_of_wpS Tryz.func99 rfl fun c₀ cs hu=> ?_
 apply wpS_seq
 apply wpS_region
 simp[wpOpsS,go_sem,recoverD,hu,Tryz.ntmps99,Exit.thenS]
 apply wpS_seq
 apply wpS_region
 simp[wpOpsS,go_sem,SN,Exit.thenS,Array.replicate]
 apply wpS_seq
 apply wpS_region
 simp[wpOpsS,go_sem,Exit.thenS]
 refine wpS_cond (t:=false) (by simp[Act.eval]) ?_;simp only[Bool.false_eq_true,if_false];apply wpS_seq
 apply wpS_region
 simp[wpOpsS,go_sem,Exit.thenS]
 refine wpS_cond (t:=false) (by simp[Act.eval]) ?_;simp only[Bool.false_eq_true,if_false];refine wpS_of_wp (wp_skip ?_)
 cases c₀
 simp_all [bodyPostS,results,Tryz.results99]
theorem Q4 (kf:Nat)(br:Array Value)(Q:Bool->World->Prop)(w:World)(hf:∀(args:Array Value) (w:World),(callFunc kf args).run Tryz.prog w=.ok (.enter kf args) w)
 (hr:Calls Tryz.prog kf br (w.alloc (.cells #[.int .i64 0] 24)) fun e w'=>((Q true w'/\e=.returned (.tuple #[]))\/ (Q false w'/\e=Z31))/\w'.heap[w.heap.size]? =some (.cells #[.int .i64 0] 24 (0,0))):
 Calls Tryz.prog 63 #[.func (.func kf) #[] br] w fun e w''=>∃t w',Q t w'/\e=.returned (.int .i64 (if t=true then 0 else 7))/\w'.heap.size<=w''.heap.size/\(∀j,j<w'.heap.size->j≠w.heap.size->(w''.heap[j]? =w'.heap[j]?))/\∀B,B<=w.heap.size->Below B w' w'':=by
 have hmf:∀(fn:Fn) (first cap:Array Value) (w:World),(Instr.makeFunc fn first cap).run Tryz.prog w=.ok (.func fn first cap) w:=fun _ _ _ _=>rfl
 go_enter_defers Tryz.func63,Tryz.ntmps63
 go_wp2;refine hr.mono ?_;rintro e w' ⟨hx,hb⟩;have hlt:w.heap.size<w'.heap.size:=(VK.1 hb).1;have hcl:w'.cell? ⟨w.heap.size,0,none⟩=some (.int .i64 0):=by simp[World.cell?,hb]
 have hzl:w'.frozen? ⟨w.heap.size,0,none⟩=false:=by simp[World.frozen?,hb]
 rcases hx with ⟨hq,rfl⟩|⟨hq,rfl⟩
 . go_wp2;refine leaves_cons (f:=99) (args:= #[.pointer (some ⟨w.heap.size,0,none⟩)]) (by simp) (by simp[go_sem]) ?_;refine(Q6 ⟨w.heap.size,0,none⟩ _).mono ?_;rintro e u' w'' ⟨rfl,rfl,rfl⟩;have c1:((w'.setCell ⟨w.heap.size,0,none⟩ (.int .i64 0)).alloc (.cells #[] 165)).cell? ⟨w.heap.size,0,none⟩=some (.int .i64 0):=(World.cell?_alloc_lt _ _ _ (by simpa using hlt)).trans (World.cell?_setCell_same _ _ _ hcl);simp[Leaves,settle,results,Tryz.results63,go_sem,c1]
   refine⟨w',hq,by omega,fun j hj hn=> ?_,fun B hB=> ?_⟩
   rotate_left
   . have hb1:=(Below.refl B w').grown (Ad w' w.heap.size 0 (.int .i64 0)) (by omega) (fun g e=>by cases e;exact hB);exact hb1.alloc (by simp;omega) _
   exact(Below.heap_alloc _ _ j (by simpa using hj)).trans (Below.heap_setCell _ _ _ j hn)
 . go_wp2;refine leaves_cons (f:=99) (args:= #[.pointer (some ⟨w.heap.size,0,none⟩)]) (by simp) (by simp[go_sem]) ?_;refine(Q5 ⟨w.heap.size,0,none⟩ 0 [] _ hcl hzl hlt).mono ?_;rintro e u' w'' ⟨rfl,rfl,rfl⟩;have c1:((w'.alloc (.cells #[] 165)).setCell ⟨w.heap.size,0,none⟩ (.int .i64 7)).cell? ⟨w.heap.size,0,none⟩=some (.int .i64 7):=World.cell?_setCell_same _ _ _ ((World.cell?_alloc_lt _ _ _ hlt).trans hcl);have hw:∀j,j<w'.heap.size->¬j=w.heap.size->((w'.alloc (.cells #[] 165)).setCell ⟨w.heap.size,0,none⟩ (.int .i64 7)).heap[j]? =w'.heap[j]? :=fun j hj hn=>(Below.heap_setCell _ _ _ j hn).trans (Below.heap_alloc _ _ j hj)
   have hs:((w'.alloc (.cells #[] 165)).setCell ⟨w.heap.size,0,none⟩ (.int .i64 7)).heap.size=w'.heap.size+1:=by simp
   have hbl:∀B,B<=w.heap.size->Below B w' ((w'.alloc (.cells #[] 165)).setCell ⟨w.heap.size,0,none⟩ (.int .i64 7)):=fun B hB=>
    ((Below.refl B w').alloc (by omega) _).grown (Ad _ w.heap.size 0 _) (by simp;omega) (fun g e=>by cases e;exact hB)
   generalize (w'.alloc (.cells #[] 165)).setCell ⟨w.heap.size,0,none⟩ (.int .i64 7)=W at c1 hw hs hbl ⊢;simp[Leaves,settle,results,Tryz.results63,go_sem,c1]
   exact⟨w',hq,by omega,hw,hbl⟩
theorem PkIn.keepX {w w':World}{X c:Nat}{a:Option Addr}{ys:List Nat}(h:PkIn w a c ys)(hs:w.heap.size<=w'.heap.size)(hk:∀g,g<w.heap.size->g≠X->w'.heap[g]? =w.heap[g]?)(hX:∀g o,a=some ⟨g,o,none⟩->ys≠ []->g≠X):PkIn w' a c ys:=by
 refine⟨?_,h.2⟩
 by_cases h0:ys= []
 . exact .inl h0
 . rcases h.1 with h1|⟨b,o,e,hb,hc⟩
   . exact absurd h1 h0
   . exact .inr ⟨b,o,e,by omega,fun j hj=>(World.cell?_of_block (w:=w) (a:=⟨b,_,none⟩) (hk b hb (hX b o e h0))).trans (hc j hj)⟩
theorem ERow.keepX {w w':World}{B X:Nat}{v:Value}{xs:List Ev}(h:ERow w B v xs)(hs:w.heap.size<=w'.heap.size)(hk:∀g,g<w.heap.size->g≠X->w'.heap[g]? =w.heap[g]?)(hX:some X≠v.ownBlock)(hl:∀x∈xs,x.lies (fun g=>g≠X)):ERow w' B v xs:=by
 refine⟨Au h.own (fun g hg=>hk g (h.own.lt g hg).2 (fun e=>hX (by rw[<-e,hg]))),fun x hx=> ?_,h.apart⟩;have h1:=h.all x hx;exact⟨h1.fb.keepX hs hk (fun g o e1 e2=>(hl x hx).1 g o e1 (NM e2)),h1.fl,h1.big,h1.txt,h1.pk.keepX hs hk (hl x hx).2⟩
theorem ERow.mono {w:World}{B B':Nat}{v:Value}{xs:List Ev}(h:ERow w B v xs)(hB:B'<=B):ERow w B' v xs:=⟨Pa h.own hB,h.all,h.apart⟩
def ClA (w:World)(bs:List Nat)(n:Nat)(t:Bool)(w':World):Prop:=
 Below w.heap.size w w'/\w.heap.size+3<=w'.heap.size/\((t=true/\∃v es,Cd (n+1) bs=some (es.map Ev.e)/\w'.heap[w.heap.size+1]? =some (.cells #[v] 69 (0,0))/\ERow w' (w.heap.size+3) v es/\∀x∈es,x.lies (fun g=>g<w.heap.size\/w.heap.size+3<=g))\/ (t=false/\Cd (n+1) bs=none/\w'.heap[w.heap.size+1]? =some (.cells #[.slice none 0 0] 69 (0,0))))
theorem Zc (n cap:Nat)(a:Option Addr)(bs:List Nat)(w W:World)(hS:Z5x bs)(hR:ZRow w w.heap.size a n cap bs)(hB:Below w.heap.size w W)(hs:W.heap.size=w.heap.size+3)(h1:W.heap[w.heap.size]? =some (.cells #[.slice a n cap] 23 (0,0)))(h2:W.heap[w.heap.size+1]? =some (.cells #[.slice none 0 0] 69 (0,0)))(h3:W.heap[w.heap.size+2]? =some (.cells #[.int .i64 0] 24 (0,0))):
 Calls Tryz.prog 64 #[.pointer (some ⟨w.heap.size,0,none⟩),.pointer (some ⟨w.heap.size+1,0,none⟩)] W fun e w'=>((ClA w bs n true w'/\e=.returned (.tuple #[]))\/ (ClA w bs n false w'/\e=Z31))/\w'.heap[w.heap.size+2]? =some (.cells #[.int .i64 0] 24 (0,0)):=by
 have hne:∀g o,a=some ⟨g,o,none⟩->bs≠ []->g<w.heap.size:=fun g o e h0=>by
  rcases hR.byt with h|⟨b,o',e',hb,_⟩
  . exact absurd h h0
  . rw[e]at e';cases e';exact hb
 obtain⟨W1,hW1⟩:∃W1,W.alloc (.cells #[.slice a n cap,.int .i64 0] 116)=W1:=⟨_,rfl⟩
 have hz1:W1.heap.size=w.heap.size+4:=by rw[<-hW1];simp[hs]
 have hal:∀g,g<W.heap.size->W1.heap[g]? =W.heap[g]? :=fun g hg=>by rw[<-hW1];exact Below.heap_alloc _ _ g hg
 have hI:W1.heap[w.heap.size+3]? =some (.cells #[.slice a n cap,.int .i64 0] 116 (0,0)):=by
  have:=heap_alloc_new W (.cells #[.slice a n cap,.int .i64 0] 116)
  rw[hs]at this;rw[<-hW1];exact this
 have hB1:Below w.heap.size w W1:=by rw[<-hW1];exact hB.alloc (by omega) _
 have hR1:ZRow W1 (w.heap.size+3) a n cap bs:=⟨hR.len,hR.few,hR.room,hR.nil,(PkIn.below ⟨hR.byt,hR.nil⟩ hB1).1,hR.val,fun g o e h0=>by have:=hne g o e h0;omega⟩
 have HC:=Ab (Zb (w.heap.size+3) n cap a bs W1 hI hR1 hS);have c1:=Ac (i:=0) h1;simp only[VZ,VY]at c1;have H2:=Ab ((hal _ (by omega)).trans h2);have H3:=Ab ((hal _ (by omega)).trans h3);have HB1:=Ab hB1;have HNE:=Ab hne;have HRw:Hid (ZRow w (w.heap.size+3) a n cap bs):=Ab ⟨hR.len,hR.few,hR.room,hR.nil,hR.byt,hR.val,fun g o e h0=>by have:=hne g o e h0;omega⟩;have HS:=Ab hs;have HW1:=Ab hW1;clear hR hB h1 h2 h3 hne hal hI hB1 hR1 hs hW1 hS;go_enter Tryz.func64,Tryz.ntmps64
 go_wp2_with fail
 rw[Aa HS,Aa HW1];refine(Aa HC).mono ?_;rintro e w2 (⟨he,rfl,q,hT⟩|⟨v,es,q,he,rfl,hD⟩)
 . have HF:Hid (ClA w bs n false w2/\w2.heap[w.heap.size+2]? =some (.cells #[.int .i64 0] 24 (0,0))):=Ab (by
    have hsz:=hT.below.size;refine⟨⟨(Aa HB1).trans (hT.below.mono (by omega)),by omega,.inr ⟨rfl,he,(hT.keep _ (by omega) (by omega)).trans (Aa H2)⟩⟩,(hT.keep _ (by omega) (by omega)).trans (Aa H3)⟩)
   clear hT he;go_wp2;exact⟨rfl,.inr ⟨(Aa HF).1,rfl⟩,(Aa HF).2⟩
 . have hsz:=hD.z.below.size;have hk2:=(hD.z.keep _ (by omega) (by omega)).trans (Aa H2);have hg:=Ad w2 (w.heap.size+1) 0 v
   have hpl:∀x∈es,x.lies (fun g=>g<w.heap.size\/w.heap.size+3<=g):=fun x hx=>by
    constructor
    . intro g o e1 e2;have:=hD.fas x hx g o e1 e2
      omega
    . intro g o e1 e2;exact .inl (Xm (hD.pks x hx w (Aa HRw)) g o e1 e2)
   have HF:Hid (ClA w bs n true (w2.setCell ⟨w.heap.size+1,0,none⟩ v)/\(w2.setCell ⟨w.heap.size+1,0,none⟩ v).heap[w.heap.size+2]? =some (.cells #[.int .i64 0] 24 (0,0))):=Ab (by
    refine⟨⟨((Aa HB1).trans (hD.z.below.mono (by omega))).grown hg (by omega) (fun g e=>by cases e;omega),by simp;omega,.inl ⟨rfl,v,es,he,by rw[heap_setCell_same w2 _ 0 _ _ _ hk2];rfl, ?_,hpl⟩⟩, ?_⟩
    . refine(hD.row.keepX (X:=w.heap.size+1) (by simp) (fun g h1 h2=>hg.block g h1 (by simp;omega)) ?_ (fun x hx=>(hpl x hx).mono (fun g h=>by omega))).mono (by omega);intro e;have:=(hD.row.own.lt _ e.symm).1
      omega
    . exact(hg.block _ (by omega) (by simp)).trans ((hD.z.keep _ (by omega) (by omega)).trans (Aa H3)))
   have c2:=Ac (i:=0) hk2;simp only[VZ,VY]at c2;have f2:=frozen_of_row w2 (w.heap.size+1) 0 _ _ hk2;obtain⟨va,vc,rfl⟩:=An hD.row.own;obtain⟨vl,hvl⟩:∃vl,es.length=vl:=⟨_,rfl⟩
   rw[hvl]at HF ⊢;clear hD he hg hpl hk2 hvl;go_wp2;go_end0
   exact⟨.inl ⟨(Aa HF).1,rfl⟩,(Aa HF).2⟩
def EnA (w:World)(bs:List Nat)(n:Nat)(e:Ending)(w':World):Prop:=
 Below w.heap.size w w'/\((Cd (n+1) bs=none/\e=.returned (.tuple #[.slice none 0 0,.int .i64 7]))\/∃v es,Cd (n+1) bs=some (es.map Ev.e)/\e=.returned (.tuple #[v,.int .i64 0])/\ERow w' w.heap.size v es/\∀x∈es,x.lies (fun g=>g<w.heap.size\/w.heap.size+3<=g))
theorem Yk (n cap:Nat)(a:Option Addr)(bs:List Nat)(w:World)(hl:bs.length=n)(hn:n<=12000)(hc:n<=cap)(hP:PkIn w a cap bs)(hv:∀x∈bs,x<256)(hS:Z5x bs):
 Calls Tryz.prog 41 #[.slice a n cap] w fun e w'=>EnA w bs n e w':=by
 have hmf:∀(fn:Fn) (first cap:Array Value) (w:World),(Instr.makeFunc fn first cap).run Tryz.prog w=.ok (.func fn first cap) w:=fun _ _ _ _=>rfl
 have hR:ZRow w w.heap.size a n cap bs:=⟨hl,hn,hc,hP.2,hP.1,hv,fun g o e h0=>by have:=Xm hP g o e h0;omega⟩
 obtain⟨wA,hwA⟩:∃wA,(w.alloc (.cells #[.slice a n cap] 23)).alloc (.cells #[.slice none 0 0] 69)=wA:=⟨_,rfl⟩
 have hz:wA.heap.size=w.heap.size+2:=by rw[<-hwA];simp
 have hB:Below w.heap.size w wA:=by rw[<-hwA];exact((Below.refl _ _).alloc (VB _) _).alloc (by simp) _
 have hb1:wA.heap[w.heap.size]? =some (.cells #[.slice a n cap] 23 (0,0)):=by rw[<-hwA];exact(Below.heap_alloc _ _ _ (by simp)).trans (heap_alloc_new w _)
 have hb2:wA.heap[w.heap.size+1]? =some (.cells #[.slice none 0 0] 69 (0,0)):=by
  have:=heap_alloc_new (w.alloc (.cells #[.slice a n cap] 23)) (.cells #[.slice none 0 0] 69)
  rw[<-hwA];simpa using this
 have hal:∀o,∀g,g<wA.heap.size->(wA.alloc o).heap[g]? =wA.heap[g]? :=fun o g hg=>Below.heap_alloc _ _ g hg
 have HST:=Ab hS;clear hS
 have hCl:=Zc n cap a bs w (wA.alloc (.cells #[.int .i64 0] 24)) (Aa HST) hR (hB.alloc (by omega) _) (by simp[hz]) ((hal _ _ (by omega)).trans hb1) ((hal _ _ (by omega)).trans hb2) (by
  have:=heap_alloc_new wA (.cells #[.int .i64 0] 24)
  rw[hz]at this;exact this)
 have HC:=Ab (Q4 64 #[.pointer (some ⟨w.heap.size,0,none⟩),.pointer (some ⟨w.heap.size+1,0,none⟩)] (ClA w bs n) wA (fun _ _=>rfl) (by
  refine hCl.mono ?_;rintro e w' ⟨h1,h2⟩;rw[hz];exact⟨h1,h2⟩))
 have HWA:=Ab hwA;have HZ:=Ab hz;clear hR hP hv hl hCl hal hb1 hb2 hB hwA hz;go_enter Tryz.func41,Tryz.ntmps41
 go_wp2_with fail
 rw[Aa HWA];refine(Aa HC).mono ?_;rintro e w2 ⟨t,w1,⟨hB1,hs1,hA⟩,rfl,hs2,hsame,hBl⟩;have hB2:=hB1.trans (hBl w.heap.size (by rw[Aa HZ];omega));have hz:=Aa HZ
 rcases hA with ⟨rfl,v,es,he,hv,hrow,hlies⟩|⟨rfl,he,hv⟩
 . have hv2:=(hsame (w.heap.size+1) (by omega) (by omega)).trans hv;have c2:=Ac (i:=0) hv2;simp only[VZ,VY]at c2;have f2:=frozen_of_row w2 (w.heap.size+1) 0 _ _ hv2;have hrow2:ERow w2 (w.heap.size+3) v es:=hrow.keepX (X:=wA.heap.size) hs2 hsame (fun e=>by have:=(hrow.own.lt _ e.symm).1;omega) (fun x hx=>(hlies x hx).mono (fun g h=>by omega));have hg:=Ad w2 (w.heap.size+1) 0 v;have hrow3:ERow (w2.setCell ⟨w.heap.size+1,0,none⟩ v) (w.heap.size+3) v es:=hrow2.keepX (X:=w.heap.size+1) (by simp) (fun g h1 h2=>hg.block g h1 (by simp;omega)) (fun e=>by have:=(hrow2.own.lt _ e.symm).1;omega) (fun x hx=>(hlies x hx).mono (fun g h=>by omega));have HF:Hid (EnA w bs n (.returned (.tuple #[v,.int .i64 0])) (w2.setCell ⟨w.heap.size+1,0,none⟩ v)):=Ab ⟨hB2.grown hg (by omega) (fun g e=>by cases e;omega),.inr ⟨v,es,he,rfl,hrow3.mono (by omega),hlies⟩⟩;have c3:(w2.setCell ⟨w.heap.size+1,0,none⟩ v).cell? ⟨w.heap.size+1,0,none⟩=some v:=World.cell?_setCell_same _ _ _ c2;obtain⟨va,vc,rfl⟩:=An hrow.own;obtain⟨vl,hvl⟩:∃vl,es.length=vl:=⟨_,rfl⟩
   rw[hvl]at HF c2 c3;clear hrow hrow2 hrow3 hv hv2 he hlies hsame hBl hB1 hB2 hg hvl;go_wp2;refine bodyPost_ret (v:=.tuple #[.slice va vl vc,.int .i64 0]) ?_ rfl (Aa HF);simp[results,Tryz.results41,go_sem,c3]
 . have hv2:=(hsame (w.heap.size+1) (by omega) (by omega)).trans hv;have c2:=Ac (i:=0) hv2;simp only[VZ,VY]at c2;have f2:=frozen_of_row w2 (w.heap.size+1) 0 _ _ hv2;have hg:=Ad w2 (w.heap.size+1) 0 (.slice none 0 0);have HF:Hid (EnA w bs n (.returned (.tuple #[.slice none 0 0,.int .i64 7])) (w2.setCell ⟨w.heap.size+1,0,none⟩ (.slice none 0 0))):=Ab ⟨hB2.grown hg (by omega) (fun g e=>by cases e;omega),.inl ⟨he,rfl⟩⟩;have c3:(w2.setCell ⟨w.heap.size+1,0,none⟩ (.slice none 0 0)).cell? ⟨w.heap.size+1,0,none⟩=some (.slice none 0 0):=World.cell?_setCell_same _ _ _ c2;clear hv hv2 he hsame hBl hB1 hB2 hg;go_wp2;refine bodyPost_ret (v:=.tuple #[.slice none 0 0,.int .i64 7]) ?_ rfl (Aa HF);simp[results,Tryz.results41,go_sem,c3]
def fcells (xs:List Fv):List Value:=xs.flatMap Fv.cells
theorem IA (xs ys:List Fv):fcells (xs++ys)=fcells xs++fcells ys:=by simp[fcells]
theorem GZ (y:Fv):fcells [y]=y.cells:=by simp[fcells]
theorem Sa:∀(xs:List Fv) (j:Nat) (x:Fv) (i:Nat),xs[j]? =some x->i<5->(fcells xs)[j*5+i]? =x.cells[i]?
 | [],j,x,i,h,_=>by simp at h
 |y::r,0,x,i,h,hi=>by
  have:fcells (y::r)=y.cells++fcells r:=rfl
  simp at h
  subst h;rw[this,YJ,WG,WN (show i<5 from hi)]
 |y::r,j+1,x,i,h,hi=>by
  have e:fcells (y::r)=y.cells++fcells r:=rfl;have hl:y.cells.length=5:=rfl;have ih:=Sa r j x i (by simpa using h) hi;rw[e,VX (by rw[hl];omega),hl,show (j+1)*5+i-5=j*5+i by omega,ih]
theorem QW (y:Fv):∀u∈y.cells,u.oneCell'=true:=by
 intro u hu;simp only[Fv.cells,Fv.sl,WH,XE,or_false]at hu
 rcases hu with rfl|rfl|rfl|rfl|rfl<;>rfl
theorem OJ:(Tryz.prog.info? 30).map (fun i=>(i.zero,i.size,i.bytes))=some (some (.agg #[.string ⟨#[]⟩,.slice none 0 0,.int .i64 0,.int .i64 0,.bool false]),5,64):=by kernel_rfl
def Ev.fv (x:Ev):Fv:=⟨x.e.f,x.fa,x.fc⟩
structure GR (w:World)(B:Nat)(v:Value)(xs:List Ev):Prop where
 own:w.ownsRow B 30 5 v xs.length (fcells (xs.map Ev.fv))
 all:∀x∈xs,EvIn w x
 apart:∀x∈xs,x.lies (fun g=>some g≠v.ownBlock)
theorem GR.nil (w:World)(B:Nat):GR w B (.slice none 0 0) []:=⟨World.ownsRow_nil _ _ _ _,(fun x hx=>absurd hx XE),(fun x hx=>absurd hx XE)⟩
theorem GR.below {w w':World}{B:Nat}{v:Value}{xs:List Ev}(h:GR w B v xs)(hB:Below w.heap.size w w'):GR w' B v xs:=
 ⟨Au h.own (fun g hg=>hB.block g (h.own.lt g hg).2),fun x hx=>(h.all x hx).below hB,h.apart⟩
theorem Ij (w:World){ops:Array Oper}{rest:List Oper}{o:Oper}{a:Act}{Q:Exit->Act->World->Prop}(hgd:o.guard=none)(s x:Operand)
 (ho:o.op=.call {callee:=.builtin .append,args:= #[s,x],argTypes:= #[22,22]}) (base:Nat) (v:Value) (xs:List Ev) (hs:a.eval s=v) (hown:GR w base v xs)
 (g:Nat) (y:Ev) (hx:a.eval x=.slice (some ⟨g,0,none⟩) 1 1) (hc:∀j u,y.fv.cells[j]? =some u->w.cell? ⟨g,j,none⟩=some u) (hy:EvIn w y) (hyb:y.lies (fun g=>some g≠v.ownBlock)) (hsz:xs.length+1<=100000) (hbase:base<=w.heap.size)
 (h:∀v' w',Hid (GR w' base v' (xs++ [y]))->Hid (w.grownBy w' v.ownBlock)->Hid (Below base w w')->wpList Tryz.prog ops Q rest (a.put o.dst v') w'):wpList Tryz.prog ops Q (o::rest) a w:=by
 obtain⟨i0,hi,hz0,hz1,hz2⟩:=info_parts OJ;refine wpList_append_own_at w hgd s x 22 ho base 30 i0 _ 5 64 Tryz.underlying22 hi hz0 hz1 hz2 rfl (by decide) v xs.length (fcells (xs.map Ev.fv)) hs hown.own ⟨g,0,none⟩ 1 1 y.fv.cells hx rfl ?_ (QW y.fv) (by unfold maxLen;omega) (by omega) hbase ?_
 . intro j u hj;have e2:(⟨g,0,none⟩:Addr).add j=⟨g,j,none⟩:=by unfold Addr.add;split<;>simp_all
   rw[e2];exact hc j u hj
 . intro v' w' h1 h2 _ h4
   have hne:∀z∈xs++ [y],z.lies (fun g=>some g≠v.ownBlock):=by
    intro z hz
    rcases WP.1 hz with hz|hz
    . exact hown.apart z hz
    . rw[WO.1 hz];exact hyb
   have hin:∀z∈xs++ [y],EvIn w z:=by
    intro z hz
    rcases WP.1 hz with hz|hz
    . exact hown.all z hz
    . rw[WO.1 hz];exact hy
   refine h v' w' (Ab ⟨?_,fun z hz=>(hin z hz).grown h2 (hne z hz),fun z hz=> ?_⟩) (Ab h2) (Ab ((Below.refl base w).grown h2 hbase (fun k e=>(hown.own.lt k e).1)))
   . rw[WU,IA,List.map_singleton,GZ,VE];exact h1
   . have hl:=(hin z hz).lt;have hn:=hne z hz
     rcases h4 with h4|h4
     . rw[h4];exact hn
     . rw[h4];exact hl.mono (fun g hg e=>by have:=VM e;omega)
theorem GR.files {w:World}{B:Nat}{v:Value}{xs:List Ev}(h:GR w B v xs)(hl:xs.length<=100000):∃ad c,v=.slice ad xs.length c/\FsIn w ad c (xs.map Ev.fv):=by
 have hall:∀x∈xs.map Ev.fv,FvIn w x:=by
  intro x hx;obtain⟨y,hy,rfl⟩:=XG.1 hx;exact(h.all y hy).fv
 have hlen:(xs.map Ev.fv).length=xs.length:=by simp
 rcases h.own.2 with ⟨h1,h2⟩|⟨g,cap,cur,h1,h2,h3,h4,h5,h6⟩
 . have:xs= []:=WV h2
   subst this;exact⟨none,0,h1,FsIn.nil w⟩
 . refine⟨some ⟨g,0,none⟩,cap,h1,.inr ⟨g,0,rfl,(h.own.lt g (by rw[h1];rfl)).2, ?_⟩,by rw[hlen];exact h4,by unfold maxLen at h5;exact h5,by rw[hlen];omega,hall⟩;intro j x hj;have hjl:=(XT.1 hj).1;rw[hlen]at hjl
   have hc:∀i u,i<5->x.cells[i]? =some u->w.cell? ⟨g,0+j*5+i,none⟩=some u:=by
    intro i u hi hu;have e:=Sa (xs.map Ev.fv) j x i hj hi;have hown:=h.own;rw[h1]at hown;rw[WG,hown.cellAt _ (by omega)];rw[e,hu]
   exact⟨hc 0 _ (by decide) rfl,hc 1 _ (by decide) rfl,hc 2 _ (by decide) rfl,hc 3 _ (by decide) rfl,hc 4 _ (by decide) rfl⟩
theorem Z1 (ad:Option Addr)(c n:Nat)(es:List Ev)(w:World)(h:EsIn w ad c es)(hl:es.length=n)(hn:n<=20000):
 Calls Tryz.prog 42 #[.slice ad n c] w fun e w'=>∃v,e=.returned v/\GR w' w.heap.size v es/\Below w.heap.size w w':=by
 have HI:=Ab h;have HL:=Ab hl;clear h hl;go_enter Tryz.func42,Tryz.ntmps42
 go_wp2;go_loopw [3,5,8] (fun v3 _ i wr=>∃k:Nat,k<=n/\i=.int .i64 (k:Int)/\Hid (GR wr w.heap.size v3 (es.take k))/\Hid (Below w.heap.size w wr)) (fun _ _ i _=>n-(intOf i).toNat)
 case atStart=>exact⟨0,VH _,rfl,Ab (GR.nil _ _),Ab (Below.refl _ _)⟩
 case round=>
  obtain⟨k,hk,rfl,HG,HB⟩:=hrel
  by_cases hlt:k<n
  . obtain⟨x,hx,hxm⟩:∃x,es[k]? =some x/\x∈es:=⟨es[k]'(by rw[Aa HL];exact hlt),VP _,WK _⟩
    obtain⟨b,o,rfl,hb,c0,c1,c2,c3,c4,c5,c6,c7⟩:=(Aa HI).get (Aa HB) hx;have hz:=(Aa HB).size;have hxi:=(Aa HI).all x hxm;have HTK:=Ab (Eu hx);have HXI:=Ab (fun o1 o2:Obj=>(hxi.below ((Aa HB).trans ((Below.refl w.heap.size wr).alloc hz o1))).below ((Below.refl _ _).alloc (VB _) o2));have hlies:x.lies (fun g=>some g≠u3.ownBlock):=hxi.lt.mono (fun g hg e=>by have:=((Aa HG).own.lt g e.symm).1;omega);have HXL:=Ab hlies;have HG1:=Ab (fun o1 o2:Obj=>((Aa HG).below ((Below.refl _ _).alloc (VB _) o1)).below ((Below.refl _ _).alloc (VB _) o2));have HB1:=Ab (fun o1 o2:Obj=>((Aa HB).alloc hz o1).alloc (by simp;omega) o2);have htl:(es.take k).length+1<=100000:=by rw[VL];omega
    have HTL:=Ab htl
    have HCE:Hid (∀o1 o2,o2=Obj.cells x.fv.cells.toArray 30->∀j u,x.fv.cells[j]? =some u->((wr.alloc o1).alloc o2).cell? ⟨wr.heap.size+1,j,none⟩=some u):=Ab (fun o1 o2 e j u hj=>by
     subst e;have h9:=heap_alloc_new (wr.alloc o1) (.cells x.fv.cells.toArray 30);simp only[World.size_alloc]at h9;rw[Ac h9];simpa using hj)
    clear hx hxm hxi hlies htl;go_wp2_with (at_builtin;refine Ij _ rfl _ _ rfl w.heap.size _ (es.take k) rfl (Aa HG1 _ _) (wr.heap.size+1) x rfl (Aa HCE _ _ rfl) (Aa HXI _ _) (Aa HXL) (Aa HTL) (by simp;omega) ?_)
    intro v' w3 hG3 _ hB3;have HG3:Hid (GR w3 w.heap.size v' (es.take (k+1))):=Ab (by rw[Aa HTK];exact Aa hG3);have HB3:=Ab ((Aa HB1 _ _).trans (Aa hB3));clear hG3 hB3 c0 c1 c2 c3 c4 c5 c6 c7;go_wp2;go_roundw
    case rel=>exact⟨k+1,by omega,by go_num,HG3,HB3⟩
    case measure=>simp[intOf];omega
  . obtain rfl:n=k:=by omega
    have hta:es.take n=es:=VV (by rw[Aa HL];exact VB _);have HTA:=Ab hta;clear hta;go_wp2;go_ret;exact⟨_,rfl,by have:=Aa HG;rw[Aa HTA]at this;exact this,Aa HB⟩
end Go.Proofs.YtleocpdblhbimaaGreatDoor
