import Derived.Test.YtieianhejdcgdaaGreatDoorQ18
import Derived.Defers
import Derived.Recover
import Derived.Laws.Pointers
import Derived.Test.YtieianhejdcgdaaGreatDoorQ38
import Derived.Deep.RegionHeld3
set_option linter.unusedSimpArgs false
set_option maxHeartbeats 4000000
namespace Go.Proofs.YtieianhejdcgdaaGreatDoor
open Go.RowKit
set_option linter.unusedVariables false
set_option maxRecDepth 100000
structure ERd (w:World)(b:Nat)(a:Option Addr)(n cap:Nat)(bs:List Nat)(v:Value)(es:List Ev)(q:Nat)(wr:World):Prop where
 z:ZT w b (.slice a n cap) q wr
 row:ERow wr w.heap.size v es
 pks:∀x∈es,∀W,ZRow W b a n cap bs->PkIn W x.pa x.pc x.e.pk
 fas:∀x∈es,∀g o,x.fa=some ⟨g,o,none⟩->x.e.f.bytes≠ []->w.heap.size<=g
theorem ERd.call {w wr w':World}{b n cap q q':Nat}{a:Option Addr}{bs:List Nat}{v:Value}{es:List Ev}(h:ERd w b a n cap bs v es q wr)(hb:b<w.heap.size)(hR:ZRow w b a n cap bs)(hT:ZT wr b (.slice a n cap) q' w'):ERd w b a n cap bs v es q' w':=by
 have hR':ZRow w' b a n cap bs:=(hR.after h.z).after hT;refine⟨h.z.trans hT,⟨Ar h.row.own (fun g hg=>hT.keep g (by have:=(h.row.own.lt g hg).1;omega) (h.row.own.lt g hg).2),fun x hx=> ?_,h.row.apart⟩,h.pks,h.fas⟩;have hx':=h.row.all x hx;refine⟨⟨?_,hx'.fb.2⟩,hx'.fl,hx'.big,hx'.txt,h.pks x hx w' hR'⟩
 by_cases h0:n8 x.e.f.bytes= []
 . exact .inl h0
 . rcases hx'.fb.1 with h1|⟨g,o,e,hg,hc⟩
   . exact absurd h1 h0
   . have hgb:=h.fas x hx g o e (LO h0);exact .inr ⟨g,o,e,VK hg hT.below.size,fun j hj=>(World.cell?_of_block (w:=wr) (a:=⟨g,_,none⟩) (hT.keep g (by omega) hg)).trans (hc j hj)⟩
theorem ERd.later {w wr w':World}{b n cap q:Nat}{a:Option Addr}{bs:List Nat}{v:Value}{es:List Ev}(h:ERd w b a n cap bs v es q wr)(hB:Below wr.heap.size wr w'):ERd w b a n cap bs v es q w':=by
 have hb:=(VG.1 h.z.is).1;have hs:=h.z.below.size;exact⟨⟨(hB.block b hb).trans h.z.is,h.z.below.trans (hB.mono (by omega)),fun g h1 h2=>(hB.block g (by omega)).trans (h.z.keep g h1 h2)⟩,h.row.below hB,h.pks,h.fas⟩
theorem ERd.app {w W w3:World}{b n cap q:Nat}{a:Option Addr}{bs:List Nat}{v v':Value}{es:List Ev}{x:Ev}(h:ERd w b a n cap bs v es q W)(hb:b<w.heap.size)(hg:W.grownBy w3 v.ownBlock)(hr:ERow w3 w.heap.size v' (es++ [x]))(hp:∀W,ZRow W b a n cap bs->PkIn W x.pa x.pc x.e.pk)(hf:∀g o,x.fa=some ⟨g,o,none⟩->x.e.f.bytes≠ []->w.heap.size<=g):ERd w b a n cap bs v' (es++ [x]) q w3:=by
 have hbl:=(VG.1 h.z.is).1;have hs:=h.z.below.size;have hne:∀g,g<w.heap.size->some g≠v.ownBlock:=fun g hg' e=>by have:=(h.row.own.lt g e.symm).1;omega
 refine⟨⟨(hg.block b hbl (hne b hb)).trans h.z.is,h.z.below.grown hg (by omega) (fun g e=>by have:=(h.row.own.lt g e).1;omega),fun g h1 h2=>(hg.block g (by omega) (hne g h2)).trans (h.z.keep g h1 h2)⟩,hr,fun y hy=> ?_,fun y hy=> ?_⟩
 . rcases VZ.1 hy with hy|hy
   . exact h.pks y hy
   . rw[WK.1 hy];exact hp
 . rcases VZ.1 hy with hy|hy
   . exact h.fas y hy
   . rw[WK.1 hy];exact hf
def Z75:Value->Nat
 | .slice _ n _=>n
 |_=>0
theorem ERow.len {w:World}{B:Nat}{v:Value}{xs:List Ev}(h:ERow w B v xs):Z75 v=xs.length:=by
 obtain⟨a,c,rfl⟩:=Ao h.own;rfl
def Z0g (w:World)(b:Nat)(a:Option Addr)(n cap:Nat)(bs:List Nat)(e:Ending)(w':World):Prop:=
 (Cf (n+1) bs=none/\e=Z1f/\∃q,ZT w b (.slice a n cap) q w')\/ (∃v es q,Cf (n+1) bs=some (es.map Ev.e)/\e=.returned v/\ERd w b a n cap bs v es q w')
theorem FO {F:Nat}{r m q:List Nat}(h:Du 4 r=some (m,q))(hm:Ai m≠67324752):Cf (F+1) r=some []:=by
 unfold Cf;rw[h,VF];dsimp only;rw[if_neg hm]
theorem FN {F:Nat}{r:List Nat}(h:Du 4 r=none):Cf (F+1) r=none:=by
 unfold Cf;rw[h];rfl
theorem FP {F:Nat}{r m q:List Nat}(h:Du 4 r=some (m,q))(hm:Ai m=67324752)(he:Fo q=none):Cf (F+1) r=none:=by
 unfold Cf;rw[h,VF];dsimp only;rw[if_pos hm,he];rfl
theorem FQ {F:Nat}{r m q q':List Nat}{x:En}(h:Du 4 r=some (m,q))(hm:Ai m=67324752)(he:Fo q=some (x,q')):Cf (F+1) r=(Cf F q').map (x:: ·):=by
 conv=>lhs;unfold Cf
 rw[h,VF];dsimp only;rw[if_pos hm,he];rfl
theorem QV (m:Nat)(h:m≠67324752):((m:Int)==67324752)=false:=by rw[beq_eq_false_iff_ne];omega
theorem Yh (b n cap:Nat)(a:Option Addr)(bs:List Nat)(w:World)(hI:w.heap[b]? =some (.cells #[.slice a n cap,.int .i64 0] 121 (0,0)))(hR:ZRow w b a n cap bs):
 Calls Tryz.prog 73 #[.pointer (some ⟨b,0,none⟩)] w fun e w'=>Z0g w b a n cap bs e w':=by
 have hb:b<w.heap.size:=(VG.1 hI).1;have hlen:=hR.len;have hfew:=hR.few;have HR:=Ab hR;have HS0:Hid (ERd w b a n cap bs (.slice none 0 0) [] 0 w):=Ab ⟨⟨hI,Below.refl _ _,fun _ _ _=>rfl⟩,ERow.nil _ _,(fun x hx=>absurd hx WV),(fun x hx=>absurd hx WV)⟩;clear hI hR;go_enter Tryz.func73,Tryz.ntmps73
 go_wp2;go_loopw [3] (fun v wr=>∃(es:List Ev) (q F:Nat),q<=n/\n-q<F/\Hid ((Cf F (bs.drop q)).map (es.map Ev.e++ ·)=Cf (n+1) bs)/\Hid (es.length*41<=q)/\Hid (ERd w b a n cap bs v es q wr)) (fun v _=>n+1-Z75 v)
 case atStart=>exact⟨[],0,n+1,VM _,by omega,Ab (by rw[List.drop_zero];cases Cf (n+1) bs<;>simp),Ab (VM _),HS0⟩
 case round=>
  obtain⟨es,q,F,hq,hF,HT,HL,HD⟩:=hrel;obtain⟨F,rfl⟩:∃F',F=F'+1:=⟨F-1,by omega⟩
  have hRr:=(Aa HR).after (Aa HD).z;have hval:=hRr.val;obtain⟨x4,hx4⟩:∃y,(bs.drop q).take 4=y:=⟨_,rfl⟩
  obtain⟨p4,hp4⟩:∃y,q+4=y:=⟨_,rfl⟩
  have bm:=Ex hval q 4;obtain⟨m,hm⟩:∃y,Ai x4=y:=⟨_,rfl⟩
  rw[hx4,hm]at bm;simp only[Nat.reducePow]at bm;have HC:=Ab (Et b q 4 n cap a bs wr (Aa HD).z.is hq hRr (by decide));rw[hx4,hp4,hm]at HC;have HG:Hid ((p4<=n->Du 4 (bs.drop q)=some (x4,bs.drop p4))/\(n<p4->Du 4 (bs.drop q)=none)):=Ab ⟨fun h=>by rw[<-hx4];exact Dp hlen hp4 h,fun h=>Bu hlen hp4 hq h⟩;have HM:=Ab hm;have HP4:=Ab hp4;have hlv:=(Aa HD).row.len;have HLV:=Ab hlv;clear hRr hval hx4 hm hlv hp4;go_wp2_with fail
  refine(Aa HC).mono ?_;rintro e w1 (⟨h1,rfl,hT⟩|⟨h1,rfl,hT⟩)
  . have HF:Hid (Z0g w b a n cap bs Z1f w1):=Ab (.inl ⟨by rw[<-Aa HT,FN ((Aa HG).2 h1)];rfl,rfl,q,(Aa HD).z.trans hT⟩);clear hT HD HC HG HT;go_wp2;exact⟨rfl,Aa HF⟩
  . have hD1:=(Aa HD).call hb (Aa HR) hT
    by_cases hmk:m=67324752
    . subst hmk;have HD1:=Ab hD1;have HC2:=Ab (CS b p4 n cap a bs w1 hD1.z.is h1 ((Aa HR).after hD1.z));have hs1:=hD1.z.below.size;clear hT HD HC hD1;go_wp2_with fail
      refine(Aa HC2).mono ?_;rintro e w2 (⟨he,rfl,q2,hT2⟩|⟨x,q2,he,hq2,hq2n,rfl,hxi,hxp,hxf,hT2⟩)
      . have HF:Hid (Z0g w b a n cap bs Z1f w2):=Ab (.inl ⟨by rw[<-Aa HT,FP ((Aa HG).1 h1) (Aa HM) he];rfl,rfl,q2,(Aa HD1).z.trans hT2⟩);clear hT2 HD1 HC2 HG HT he;go_wp2;exact⟨rfl,Aa HF⟩
      . have hD2:=(Aa HD1).call hb (Aa HR) hT2
        have HT3:Hid ((Cf F (bs.drop q2)).map ((es++ [x]).map Ev.e++ ·)=Cf (n+1) bs):=Ab (by
         rw[<-Aa HT,FQ ((Aa HG).1 h1) (Aa HM) he]
         cases Cf F (bs.drop q2)<;>simp)
        have HL3:Hid ((es++ [x]).length*41<=q2):=Ab (by
         have:=Aa HL
         have:=Aa HP4
         rw[VB,List.length_singleton];omega)
        have hlies:x.lies (fun g=>some g≠(u3).ownBlock):=by
         constructor
         . intro g o e1 e2 e3;have h5:=hxf g o e1 e2;have h6:=((Aa HD1).row.own.lt g e3.symm).2;omega
         . intro g o e1 e2 e3;have h5:=Wk (hxp w (Aa HR)) g o e1 e2;have h6:=((Aa HD1).row.own.lt g e3.symm).1;omega
        have HD3:=Ab (fun o1:Obj=>hD2.later ((Below.refl _ _).alloc (VC _) o1));have HXI:=Ab (fun o1:Obj=>hxi.below ((Below.refl w2.heap.size w2).alloc (VC _) o1));have HXL:=Ab hlies;have HXP:=Ab hxp;have HXF:Hid (∀g o,x.fa=some ⟨g,o,none⟩->x.e.f.bytes≠ []->w.heap.size<=g):=Ab (fun g o e1 e2=>by have:=hxf g o e1 e2;omega);have hs2:=hD2.z.below.size;have hel:es.length+1<=100000:=by have:=Aa HL;omega
        have HEL:=Ab hel
        have HCE:Hid (∀o1,o1=Obj.cells x.cells.toArray 76->∀j u,x.cells[j]? =some u->(w2.alloc o1).cell? ⟨w2.heap.size,j,none⟩=some u):=Ab (fun o1 e j u hj=>by
         subst e;rw[Ac (heap_alloc_new w2 _)];simpa using hj)
        clear hT2 hD2 hlies hxi hxp hxf he hel HG HC2 HM;unfold Ev.val;go_wp2_with (at_builtin;refine Fq _ rfl _ _ rfl w.heap.size _ es rfl (Aa HD3 _).row w2.heap.size x rfl (Aa HCE _ rfl) (Aa HXI _) (Aa HXL) (Aa HEL) (by simp;omega) ?_)
        intro v' w3 hrow hg3;have HD4:Hid (ERd w b a n cap bs v' (es++ [x]) q2 w3):=Ab ((Aa HD3 _).app hb (Aa hg3) (Aa hrow) (Aa HXP) (Aa HXF));have hlv4:=(Aa HD4).row.len;clear hrow hg3;go_wp2;go_roundw
        case rel=>exact⟨es++ [x],q2,F,hq2n,by have:=Aa HP4;omega,HT3,HL3,HD4⟩
        case measure=>
         have h7:=Aa HLV;rw[VB,List.length_singleton]at hlv4;have h8:=Aa HL;simp
         omega
    . have HF:Hid (Z0g w b a n cap bs (.returned u3) w1):=Ab (.inr ⟨u3,es,p4,by rw[<-Aa HT,FO ((Aa HG).1 h1) (by rw[Aa HM];exact hmk)];simp,rfl,hD1⟩);have hmb:=QV m hmk;clear hT HD HC HG HT hD1 hmk;go_wp2;go_ret;exact Aa HF
theorem QE (v:Value)(w:World):(Instr.typeAssert (.iface 170 v) 20 170 true).run Tryz.prog w=.ok (.tuple #[v,.bool true]) w:=by kernel_rfl
theorem QF (w:World):(Instr.typeAssert .nilIface 20 170 true).run Tryz.prog w=.ok (.tuple #[.agg #[],.bool false]) w:=by kernel_rfl
theorem N9 (p:Addr)(y:Int)(older:List PanicEntry)(w:World)(hc:w.cell? p=some (.int .i64 y))(hz:w.frozen? p=false)(hk:p.block<w.heap.size):
 CallsD Tryz.prog 107 #[.pointer (some p)] (.panicking ({v:=.iface 170 (.agg #[]),recovered:=false}::older)) w fun e u' w'=>
  e=.returned (.tuple #[])/\u'=.panicking ({v:=.iface 170 (.agg #[]),recovered:=true}::older)/\w'=(w.alloc (.cells #[] 170)).setCell p (.int .i64 7):=by
 refine callsD_of_wpS Tryz.func107 rfl fun c₀ cs hu=> ?_
 apply wpS_seq
 apply wpS_region
 simp[wpOpsS,go_sem,recoverD,hu,Tryz.ntmps107,Exit.thenS]
 apply wpS_seq
 apply wpS_region
 simp[wpOpsS,go_sem,QE,Exit.thenS,Array.replicate]
 apply wpS_seq
 apply wpS_region
 simp[wpOpsS,go_sem,Exit.thenS]
 refine wpS_cond (t:=true) (by simp[Act.eval]) ?_;simp only[if_true];have hc':=(World.cell?_alloc_lt w (.cells #[] 170) p hk).trans hc;have hz':=(frozen?_alloc_cells w #[] 170 p).trans hz;apply wpS_region
 simp[wpOpsS,go_sem,hc',hz',bodyPostS,results,Tryz.results107]
theorem O0 (p:Addr)(w:World):
 CallsD Tryz.prog 107 #[.pointer (some p)] .returning w fun e u' w'=>
  e=.returned (.tuple #[])/\u'=.returning/\w'=w.alloc (.cells #[] 170):=by
 refine callsD_of_wpS Tryz.func107 rfl fun c₀ cs hu=> ?_
 apply wpS_seq
 apply wpS_region
 simp[wpOpsS,go_sem,recoverD,hu,Tryz.ntmps107,Exit.thenS]
 apply wpS_seq
 apply wpS_region
 simp[wpOpsS,go_sem,QF,Exit.thenS,Array.replicate]
 apply wpS_seq
 apply wpS_region
 simp[wpOpsS,go_sem,Exit.thenS]
 refine wpS_cond (t:=false) (by simp[Act.eval]) ?_;simp only[Bool.false_eq_true,if_false];apply wpS_seq
 apply wpS_region
 simp[wpOpsS,go_sem,Exit.thenS]
 refine wpS_cond (t:=false) (by simp[Act.eval]) ?_;simp only[Bool.false_eq_true,if_false];refine wpS_of_wp (wp_skip ?_)
 cases c₀
 simp_all [bodyPostS,results,Tryz.results107]
theorem N8 (kf:Nat)(br:Array Value)(Q:Bool->World->Prop)(w:World)(hf:∀(args:Array Value) (w:World),(callFunc kf args).run Tryz.prog w=.ok (.enter kf args) w)
 (hr:Calls Tryz.prog kf br (w.alloc (.cells #[.int .i64 0] 24)) fun e w'=>((Q true w'/\e=.returned (.tuple #[]))\/ (Q false w'/\e=Z1f))/\w'.heap[w.heap.size]? =some (.cells #[.int .i64 0] 24 (0,0))):
 Calls Tryz.prog 71 #[.func (.func kf) #[] br] w fun e w''=>∃t w',Q t w'/\e=.returned (.int .i64 (if t=true then 0 else 7))/\w'.heap.size<=w''.heap.size/\(∀j,j<w'.heap.size->j≠w.heap.size->(w''.heap[j]? =w'.heap[j]?))/\∀B,B<=w.heap.size->Below B w' w'':=by
 have hmf:∀(fn:Fn) (first cap:Array Value) (w:World),(Instr.makeFunc fn first cap).run Tryz.prog w=.ok (.func fn first cap) w:=fun _ _ _ _=>rfl
 go_enter_defers Tryz.func71,Tryz.ntmps71
 go_wp2;refine hr.mono ?_;rintro e w' ⟨hx,hb⟩;have hlt:w.heap.size<w'.heap.size:=(VG.1 hb).1;have hcl:w'.cell? ⟨w.heap.size,0,none⟩=some (.int .i64 0):=by simp[World.cell?,hb]
 have hzl:w'.frozen? ⟨w.heap.size,0,none⟩=false:=by simp[World.frozen?,hb]
 rcases hx with ⟨hq,rfl⟩|⟨hq,rfl⟩
 . go_wp2;refine leaves_cons (f:=107) (args:= #[.pointer (some ⟨w.heap.size,0,none⟩)]) (by simp) (by simp[go_sem]) ?_;refine(O0 ⟨w.heap.size,0,none⟩ _).mono ?_;rintro e u' w'' ⟨rfl,rfl,rfl⟩;have c1:((w'.setCell ⟨w.heap.size,0,none⟩ (.int .i64 0)).alloc (.cells #[] 170)).cell? ⟨w.heap.size,0,none⟩=some (.int .i64 0):=(World.cell?_alloc_lt _ _ _ (by simpa using hlt)).trans (World.cell?_setCell_same _ _ _ hcl);simp[Leaves,settle,results,Tryz.results71,go_sem,c1]
   refine⟨w',hq,by omega,fun j hj hn=> ?_,fun B hB=> ?_⟩
   rotate_left
   . have hb1:=(Below.refl B w').grown (Ad w' w.heap.size 0 (.int .i64 0)) (by omega) (fun g e=>by cases e;exact hB);exact hb1.alloc (by simp;omega) _
   exact(Below.heap_alloc _ _ j (by simpa using hj)).trans (Below.heap_setCell _ _ _ j hn)
 . go_wp2;refine leaves_cons (f:=107) (args:= #[.pointer (some ⟨w.heap.size,0,none⟩)]) (by simp) (by simp[go_sem]) ?_;refine(N9 ⟨w.heap.size,0,none⟩ 0 [] _ hcl hzl hlt).mono ?_;rintro e u' w'' ⟨rfl,rfl,rfl⟩;have c1:((w'.alloc (.cells #[] 170)).setCell ⟨w.heap.size,0,none⟩ (.int .i64 7)).cell? ⟨w.heap.size,0,none⟩=some (.int .i64 7):=World.cell?_setCell_same _ _ _ ((World.cell?_alloc_lt _ _ _ hlt).trans hcl);have hw:∀j,j<w'.heap.size->¬j=w.heap.size->((w'.alloc (.cells #[] 170)).setCell ⟨w.heap.size,0,none⟩ (.int .i64 7)).heap[j]? =w'.heap[j]? :=fun j hj hn=>(Below.heap_setCell _ _ _ j hn).trans (Below.heap_alloc _ _ j hj)
   have hs:((w'.alloc (.cells #[] 170)).setCell ⟨w.heap.size,0,none⟩ (.int .i64 7)).heap.size=w'.heap.size+1:=by simp
   have hbl:∀B,B<=w.heap.size->Below B w' ((w'.alloc (.cells #[] 170)).setCell ⟨w.heap.size,0,none⟩ (.int .i64 7)):=fun B hB=>
    ((Below.refl B w').alloc (by omega) _).grown (Ad _ w.heap.size 0 _) (by simp;omega) (fun g e=>by cases e;exact hB)
   generalize (w'.alloc (.cells #[] 170)).setCell ⟨w.heap.size,0,none⟩ (.int .i64 7)=W at c1 hw hs hbl ⊢;simp[Leaves,settle,results,Tryz.results71,go_sem,c1]
   exact⟨w',hq,by omega,hw,hbl⟩
structure EOf (x:En):Prop where
 cr:x.crc=crcN 0 (n8 x.f.bytes)
 pk:∃out,IsOne (n8 x.f.bytes) (bestP (n8 x.f.bytes) 3) out/\((out.length<x.f.bytes.length/\x.meth=8/\x.pk=out)\/ (x.f.bytes.length<=out.length/\x.meth=0/\x.pk=n8 x.f.bytes))
def EoA (w:World)(x:Fv)(e:Ending)(w':World):Prop:=∃y:Ev,e=.returned y.val/\y.e.f=x.f/\EOf y.e/\EvIn w' y/\Below w.heap.size w w'/\y.fa=x.a/\(∀g o,y.pa=some ⟨g,o,none⟩->y.e.pk≠ []->(x.a=some ⟨g,o,none⟩/\y.e.f.bytes≠ [])\/o=0)
def PV (W:World)(X:Nat)(v0 v1 v2 v3 v4 v5 v6 v7:Value)(Wf:World):Prop:=Mu W X v0 v1 v2 v3 v4 v5 v6 v7=Wf
theorem Z16 (W:World)(X:Nat)(v0 v1 v2 v3 v4 v5 v6 v7:Value):∃Wf,PV W X v0 v1 v2 v3 v4 v5 v6 v7 Wf:=⟨Mu W X v0 v1 v2 v3 v4 v5 v6 v7,rfl⟩
theorem CN {a w:World}{X:Nat}{v0 v1 v2 v3 v4 v5 v6 v7:Value}(h:Below a.heap.size a w)(hX:a.heap.size<=X):Below a.heap.size a (Mu w X v0 v1 v2 v3 v4 v5 v6 v7):=by
 have one:∀ {W:World} (i:Nat) (v:Value),Below a.heap.size a W->Below a.heap.size a (W.setCell ⟨X,i,none⟩ v):=fun {W} i v hW=>hW.grown (Ad W X i v) hW.size (fun g e=>by cases e;exact hX)
 exact one 7 _ (one 6 _ (one 5 _ (one 4 _ (one 3 _ (one 2 _ (one 1 _ (one 0 _ h)))))))
theorem PP {w w5:World}(hb:Below w.drew.heap.size w.drew w5):Below w.heap.size w w5:=(Co (Below.refl _ _)).trans hb
theorem PO {w w5:World}{o:Obj}(hb:Below (w.alloc o).drew.heap.size (w.alloc o).drew w5):Below w.heap.size w w5:=(Co (Aw (Below.refl _ _) _)).trans (hb.mono (by simp[World.drew]))
theorem PN {w w5:World}{o:Obj}(hb:Below (w.drew.alloc o).heap.size (w.drew.alloc o) w5):Below w.heap.size w w5:=(Aw (Co (Below.refl _ _)) _).trans (hb.mono (by rw[World.size_alloc];exact Nat.le_succ _))
theorem Z2u {w w5:World}{o:Obj}(hb:Below (w.alloc o).drew.heap.size (w.alloc o).drew w5):w5.heap[w.heap.size]? =some o:=(hb.block w.heap.size (by simp[World.drew])).trans (heap_alloc_new w o)
theorem V0 (x:Fv)(w:World)(h:FvIn w x)(hn:x.f.bytes.length<=3000):
 Calls Tryz.prog 42 #[x.val] w fun e w'=>EoA w x e w':=by
 have HIN:=Ab h;have hpk:=Z5z h.bs;have hroom:=Z44 h.bs;obtain⟨⟨nml,bys,st,nd,gn⟩,fa,fc⟩:=x;rw[Dz];dsimp only at hn hpk hroom ⊢;have hlen:=Gn bys;have hx:=Ns bys;have hgd:=Dj hx;obtain⟨bs,hbs⟩:∃bs,n8 bys=bs:=⟨_,rfl⟩
 have hbs':=hbs;rw[hbs]at hpk hlen hx hgd;obtain⟨n,hnn⟩:∃n,bys.length=n:=⟨_,rfl⟩
 rw[hnn]at hn hroom hlen ⊢;obtain⟨nm,hnm⟩:∃nm,B nml=nm:=⟨_,rfl⟩
 rw[hnm];obtain⟨m,hm⟩:∃m,crcN 0 bs=m:=⟨_,rfl⟩
 obtain⟨wA,hwA⟩:∃wA,(w.alloc (.cells #[.string nm,.slice fa n fc,.int .i64 st,.int .i64 nd,.bool gn] 30)).alloc (.cells ez 76)=wA:=⟨_,rfl⟩
 have hzA:wA.heap.size=w.heap.size+2:=by rw[<-hwA];simp
 have hBA:Below w.heap.size w wA:=by rw[<-hwA];exact((Below.refl _ _).alloc (VC _) _).alloc (by simp) _
 have hbF:wA.heap[w.heap.size]? =some (.cells #[.string nm,.slice fa n fc,.int .i64 st,.int .i64 nd,.bool gn] 30 (0,0)):=by rw[<-hwA];exact(Below.heap_alloc _ _ _ (by simp)).trans (heap_alloc_new w _)
 have hbR:wA.heap[w.heap.size+1]? =some (.cells ez 76 (0,0)):=by
  have:=heap_alloc_new (w.alloc (.cells #[.string nm,.slice fa n fc,.int .i64 st,.int .i64 nd,.bool gn] 30)) (.cells ez 76)
  rw[<-hwA];simpa using this
 have hcr:∀W:World,Below wA.heap.size wA W->Calls Tryz.prog 61 #[.slice fa n fc] W fun e w'=>e=.returned (.int .u32 (m:Int))/\Below W.heap.size W w':=fun W hW=>by
  have:=Y0 fa n fc bs W hlen (by omega) (hpk.below (hBA.trans (hW.mono (by omega)))).1 hgd
  rw[hm]at this;exact this
 have hbe:∀W:World,Below wA.heap.size wA W->Calls Tryz.prog 62 #[.slice fa n fc] W fun e w'=>∃g c out,e=.returned (.tuple #[.slice (some ⟨g,0,none⟩) (EI bs (bestP bs 3)) c,.int .i64 (bestP bs 3:Nat),.int .i64 0])/\g<w'.heap.size/\Bytes w' g 0 out/\IsOne bs (bestP bs 3) out/\Below W.heap.size W w':=fun W hW=>Z48 fa n fc bs W hlen hroom hpk.2 (hpk.below (hBA.trans (hW.mono (by omega)))).1 hgd hn
 have k0:∀W:World,Below wA.heap.size wA W->W.cell? ⟨w.heap.size,0,none⟩=some (.string nm):=fun W hW=>(hW.cell (p:=⟨w.heap.size,0,none⟩) (by dsimp only;omega)).trans (Ac hbF)
 have k1:∀W:World,Below wA.heap.size wA W->W.cell? ⟨w.heap.size,1,none⟩=some (.slice fa n fc):=fun W hW=>(hW.cell (p:=⟨w.heap.size,1,none⟩) (by dsimp only;omega)).trans (Ac hbF)
 have k2:∀W:World,Below wA.heap.size wA W->W.cell? ⟨w.heap.size,2,none⟩=some (.int .i64 st):=fun W hW=>(hW.cell (p:=⟨w.heap.size,2,none⟩) (by dsimp only;omega)).trans (Ac hbF)
 have k3:∀W:World,Below wA.heap.size wA W->W.cell? ⟨w.heap.size,3,none⟩=some (.int .i64 nd):=fun W hW=>(hW.cell (p:=⟨w.heap.size,3,none⟩) (by dsimp only;omega)).trans (Ac hbF)
 have k4:∀W:World,Below wA.heap.size wA W->W.cell? ⟨w.heap.size,4,none⟩=some (.bool gn):=fun W hW=>(hW.cell (p:=⟨w.heap.size,4,none⟩) (by dsimp only;omega)).trans (Ac hbF)
 have HCR:=Ab hcr;have HBE:=Ab hbe;have HWA:=Ab hwA;have HBR:=Ab hbR;have HBA:=Ab hBA;have HZA:=Ab hzA;have HNM:=Ab hnm;have HNN:=Ab hnn;have HBS:=Ab hbs;have HMM:=Ab hm;have HPK:=Ab hpk;clear h hpk hlen hx hgd hbs hbs' hnn hnm hm hwA hBA hbF hbR hcr hbe hzA;go_enter Tryz.func42,Tryz.ntmps42
 go_upto_region 1 with fail
 rw[Aa HWA];go_cut [3] (fun v3 wc=>∃X,v3=.pointer (some ⟨X,0,none⟩)/\Hid (wc.heap[X]? =some (.cells (ec (.string nm) (.slice fa n fc) (.int .i64 st) (.int .i64 nd) (.bool gn) (.int .u32 0) (.slice fa n fc) (.int .u32 (m:Int))) 76 (0,0))/\wA.heap.size<=X/\Below wA.heap.size wA wc))
 case first=>
  go_region_held3 (fun W=>Below wA.heap.size wA W) (first|with_reducible exact Co (Below.refl _ _)|with_reducible exact hb6|with_reducible exact Aw hb6 _|with_reducible exact Co (Aw (Below.refl _ _) _)|with_reducible exact Aw (Co (Below.refl _ _)) _|with_reducible exact CN hb6 (VC _)) ((go_at_call 61;refine(Aa HCR _ (by first|with_reducible exact Co (Below.refl _ _)|with_reducible exact Co (Aw (Below.refl _ _) _)|with_reducible exact Aw (Co (Below.refl _ _)) _)).mono ?_;rintro e w5 ⟨rfl,hb5⟩;have hb6:Below wA.heap.size wA w5:=(by first|with_reducible exact PP hb5|with_reducible exact PO hb5|with_reducible exact PN hb5);try (have hx5:=(by with_reducible exact Z2u hb5:w5.heap[wA.heap.size]? =some (.cells ez 76 (0,0)));have x0:=Ac (i:=0) hx5;have x1:=Ac (i:=1) hx5;have x2:=Ac (i:=2) hx5;have x3:=Ac (i:=3) hx5;have x4:=Ac (i:=4) hx5;have x5:=Ac (i:=5) hx5;have x6:=Ac (i:=6) hx5;have x7:=Ac (i:=7) hx5;have y0:=frozen_of_row w5 wA.heap.size 0 _ _ hx5;have y1:=frozen_of_row w5 wA.heap.size 1 _ _ hx5;have y2:=frozen_of_row w5 wA.heap.size 2 _ _ hx5;have y3:=frozen_of_row w5 wA.heap.size 3 _ _ hx5;have y4:=frozen_of_row w5 wA.heap.size 4 _ _ hx5;have y5:=frozen_of_row w5 wA.heap.size 5 _ _ hx5;have y6:=frozen_of_row w5 wA.heap.size 6 _ _ hx5;have y7:=frozen_of_row w5 wA.heap.size 7 _ _ hx5)))
  all_goals go_wp2_with fail
  all_goals go_meet
  . exact⟨_,rfl,Ab ⟨heap_alloc_new _ _,hb6.size,Aw hb6 _⟩⟩
  . exact⟨_,rfl,Ab ⟨(Z66 w5 wA.heap.size 76 _ _ _ _ _ _ _ _ _ _ _ _ _ _ _ _ hx5).1,VC _,CN hb6 (VC _)⟩⟩
 case rest=>
  obtain⟨X,rfl,hX⟩:=hcut;obtain⟨hX1,hX2,hX3⟩:=Aa hX;have c1:=k1 wc hX3;have HX:=Ab hX1;have HX3:=Ab hX3;clear hX hX1 hX3 k0 k1 k2 k3 k4;go_wp2_with fail
  refine(Aa HBE wc (Aa HX3)).mono ?_;rintro e w6 ⟨g,c,out,rfl,hg,hBy,hOne,hB6⟩;have hol:=hOne.len;have hX6:w6.heap[X]? =some (.cells (ec (.string nm) (.slice fa n fc) (.int .i64 st) (.int .i64 nd) (.bool gn) (.int .u32 0) (.slice fa n fc) (.int .u32 (m:Int))) 76 (0,0)):=(hB6.block X (VG.1 (Aa HX)).1).trans (Aa HX);have hBA6:Below wA.heap.size wA w6:=(Aa HX3).trans (hB6.mono (Aa HX3).size);have hzA:=Aa HZA;have hR6:w6.heap[w.heap.size+1]? =some (.cells ez 76 (0,0)):=(hBA6.block _ (by omega)).trans (Aa HBR)
  have hF6:w6.cell? ⟨w.heap.size,1,none⟩=some (.slice fa n fc):=by
   have:=hBA6.cell (p:=⟨w.heap.size,1,none⟩) (by dsimp only;omega)
   have h2:=(Aa HX3).cell (p:=⟨w.heap.size,1,none⟩) (by dsimp only;omega);rw[this,<-h2];exact c1
  obtain⟨L,hL⟩:∃L,EI bs (bestP bs 3)=L:=⟨_,rfl⟩
  obtain⟨K,hK⟩:∃K,bestP bs 3=K:=⟨_,rfl⟩
  rw[hL]at hol;rw[hL,hK];have q0:=Ac (i:=0) hX6;have q1:=Ac (i:=1) hX6;have q2:=Ac (i:=2) hX6;have q3:=Ac (i:=3) hX6;have q4:=Ac (i:=4) hX6;have q5:=Ac (i:=5) hX6;have q6:=Ac (i:=6) hX6;have q7:=Ac (i:=7) hX6;have f5:=frozen_of_row w6 X 5 _ _ hX6;have f6:=frozen_of_row w6 X 6 _ _ hX6;have r0:=Ac (i:=0) hR6;have r1:=Ac (i:=1) hR6;have r2:=Ac (i:=2) hR6;have r3:=Ac (i:=3) hR6;have r4:=Ac (i:=4) hR6;have r5:=Ac (i:=5) hR6;have r6:=Ac (i:=6) hR6;have r7:=Ac (i:=7) hR6;have g0:=frozen_of_row w6 (w.heap.size+1) 0 _ _ hR6;have g1:=frozen_of_row w6 (w.heap.size+1) 1 _ _ hR6;have g2:=frozen_of_row w6 (w.heap.size+1) 2 _ _ hR6;have g3:=frozen_of_row w6 (w.heap.size+1) 3 _ _ hR6;have g4:=frozen_of_row w6 (w.heap.size+1) 4 _ _ hR6;have g5:=frozen_of_row w6 (w.heap.size+1) 5 _ _ hR6;have g6:=frozen_of_row w6 (w.heap.size+1) 6 _ _ hR6;have g7:=frozen_of_row w6 (w.heap.size+1) 7 _ _ hR6;simp only[WM,WH,WT]at q0 q1 q2 q3 q4 q5 q6 q7 r0 r1 r2 r3 r4 r5 r6 r7;have hXne:w.heap.size+1≠X:=by omega
  have hBw6:Below w.heap.size w w6:=(Aa HBA).trans (hBA6.mono (by omega));have hxlt:=(VG.1 hX6).1;have hpos:=hOne.pos;have hgc:=hBy 0 hpos;have hgX:g≠X:=fun e=>by rw[e]at hgc;rw[q0]at hgc;cases hgc
  have hgR:g≠w.heap.size+1:=fun e=>by rw[e]at hgc;rw[r0]at hgc;cases hgc
  have hbl:bs.length=n:=by rw[<-Aa HBS,Gn];exact Aa HNN
  clear hpos hgc
  by_cases hlt:L<n
  . have hltI:(L:Int)<(n:Int):=by omega
    have k1:=Ad w6 X 5 (.int .u32 8);have k2:=Ad (w6.setCell ⟨X,5,none⟩ (.int .u32 8)) X 6 (.slice (some ⟨g,0,none⟩) L c);have kk:=Aj k1 k2;obtain⟨p1',p2'⟩:=Z66 ((w6.setCell ⟨X,5,none⟩ (.int .u32 8)).setCell ⟨X,6,none⟩ (.slice (some ⟨g,0,none⟩) L c)) (w.heap.size+1) 76 _ _ _ _ _ _ _ _ (.string nm) (.slice fa n fc) (.int .i64 st) (.int .i64 nd) (.bool gn) (.int .u32 8) (.slice (some ⟨g,0,none⟩) L c) (.int .u32 (m:Int)) ((kk.block _ (by omega) (by simp;exact hXne)).trans hR6);have hfb:PkIn (Mu ((w6.setCell ⟨X,5,none⟩ (.int .u32 8)).setCell ⟨X,6,none⟩ (.slice (some ⟨g,0,none⟩) L c)) (w.heap.size+1) (.string nm) (.slice fa n fc) (.int .i64 st) (.int .i64 nd) (.bool gn) (.int .u32 8) (.slice (some ⟨g,0,none⟩) L c) (.int .u32 (m:Int))) fa fc bs:=(((Aa HPK).below hBw6).grown kk (fun g' o e1 e2=>by have:=Wk (Aa HPK) g' o e1 e2;simp;omega)).grown p2' (fun g' o e1 e2=>by have:=Wk (Aa HPK) g' o e1 e2;simp;omega)
    have HF:Hid (EoA w ⟨⟨nml,bys,st,nd,gn⟩,fa,fc⟩ (.returned (.agg #[(.string nm),(.slice fa n fc),(.int .i64 st),(.int .i64 nd),(.bool gn),(.int .u32 8),(.slice (some ⟨g,0,none⟩) L c),(.int .u32 (m:Int))])) (Mu ((w6.setCell ⟨X,5,none⟩ (.int .u32 8)).setCell ⟨X,6,none⟩ (.slice (some ⟨g,0,none⟩) L c)) (w.heap.size+1) (.string nm) (.slice fa n fc) (.int .i64 st) (.int .i64 nd) (.bool gn) (.int .u32 8) (.slice (some ⟨g,0,none⟩) L c) (.int .u32 (m:Int)))):=Ab (by
     refine⟨⟨⟨⟨nml,bys,st,nd,gn⟩,8,out,m⟩,fa,fc,some ⟨g,0,none⟩,c⟩, ?_,rfl,⟨by dsimp only;rw[Aa HBS,Aa HMM],out,by dsimp only;rw[Aa HBS];exact hOne,.inl ⟨by dsimp only;rw[hol,Aa HNN];exact hlt,rfl,rfl⟩⟩,⟨by dsimp only;rw[Aa HBS];exact hfb,by dsimp only;rw[Aa HNN];exact hroom,by dsimp only;rw[Aa HNN];omega,(Aa HIN).txt,((show PkIn w6 (some ⟨g,0,none⟩) c out from ⟨.inr ⟨g,0,rfl,hg,hBy⟩,fun e=>by cases e⟩).grown kk (fun g' o e _=>by cases e;simp;exact hgX)).grown p2' (fun g' o e _=>by cases e;simp;exact hgR)⟩, ?_,rfl,fun g' o e _=>by cases e;exact .inr rfl⟩
     . unfold Ev.val;dsimp only;rw[Aa HNM,Aa HNN,hol]
       first|done|rfl
     . have hk:=kk.size;exact(hBw6.grown kk (by omega) (fun g' e=>by cases e;omega)).grown p2' (by omega) (fun g' e=>by cases e;omega))
    obtain⟨Wf,hWf⟩:=Z16 ((w6.setCell ⟨X,5,none⟩ (.int .u32 8)).setCell ⟨X,6,none⟩ (.slice (some ⟨g,0,none⟩) L c)) (w.heap.size+1) (.string nm) (.slice fa n fc) (.int .i64 st) (.int .i64 nd) (.bool gn) (.int .u32 8) (.slice (some ⟨g,0,none⟩) L c) (.int .u32 (m:Int));have eWf:Mu ((w6.setCell ⟨X,5,none⟩ (.int .u32 8)).setCell ⟨X,6,none⟩ (.slice (some ⟨g,0,none⟩) L c)) (w.heap.size+1) (.string nm) (.slice fa n fc) (.int .i64 st) (.int .i64 nd) (.bool gn) (.int .u32 8) (.slice (some ⟨g,0,none⟩) L c) (.int .u32 (m:Int))=Wf:=hWf;rw[eWf]at HF p1';have HWF:=Ab hWf;clear hWf eWf;have HP1:=Ab p1';clear p1' p2' hfb hX6 hR6 hBA6 hBw6 hBy hOne hB6 hol hL hK hg hgX hgR hxlt hlt hbl k1 k2 kk;go_wp2;have eWf:=Aa HWF;unfold PV at eWf;subst eWf;refine bodyPost_ret (v:=.agg #[(.string nm),(.slice fa n fc),(.int .i64 st),(.int .i64 nd),(.bool gn),(.int .u32 8),(.slice (some ⟨g,0,none⟩) L c),(.int .u32 (m:Int))]) ?_ rfl (Aa HF);exact results_cell_row rfl _ _ _ _ _ _ _ rfl (Aa HP1) Tryz.underlying76 rfl (by kernel_rfl)
  . have hltI:¬(L:Int)<(n:Int):=by omega
    have kk:=Ap w6 (some X);obtain⟨p1',p2'⟩:=Z66 w6 (w.heap.size+1) 76 _ _ _ _ _ _ _ _ (.string nm) (.slice fa n fc) (.int .i64 st) (.int .i64 nd) (.bool gn) (.int .u32 0) (.slice fa n fc) (.int .u32 (m:Int)) ((kk.block _ (by omega) (by simp;exact hXne)).trans hR6);have hfb:PkIn (Mu w6 (w.heap.size+1) (.string nm) (.slice fa n fc) (.int .i64 st) (.int .i64 nd) (.bool gn) (.int .u32 0) (.slice fa n fc) (.int .u32 (m:Int))) fa fc bs:=(((Aa HPK).below hBw6).grown kk (fun g' o e1 e2=>by have:=Wk (Aa HPK) g' o e1 e2;simp;omega)).grown p2' (fun g' o e1 e2=>by have:=Wk (Aa HPK) g' o e1 e2;simp;omega)
    have HF:Hid (EoA w ⟨⟨nml,bys,st,nd,gn⟩,fa,fc⟩ (.returned (.agg #[(.string nm),(.slice fa n fc),(.int .i64 st),(.int .i64 nd),(.bool gn),(.int .u32 0),(.slice fa n fc),(.int .u32 (m:Int))])) (Mu w6 (w.heap.size+1) (.string nm) (.slice fa n fc) (.int .i64 st) (.int .i64 nd) (.bool gn) (.int .u32 0) (.slice fa n fc) (.int .u32 (m:Int)))):=Ab (by
     refine⟨⟨⟨⟨nml,bys,st,nd,gn⟩,0,bs,m⟩,fa,fc,fa,fc⟩, ?_,rfl,⟨by dsimp only;rw[Aa HBS,Aa HMM],out,by dsimp only;rw[Aa HBS];exact hOne,.inr ⟨by dsimp only;rw[hol,Aa HNN];omega,rfl,by dsimp only;rw[Aa HBS]⟩⟩,⟨by dsimp only;rw[Aa HBS];exact hfb,by dsimp only;rw[Aa HNN];exact hroom,by dsimp only;rw[Aa HNN];omega,(Aa HIN).txt,hfb⟩, ?_,rfl,fun g' o e1 e2=>.inl ⟨e1,fun e=>e2 (by have e':bys= []:=e;dsimp only;rw[<-Aa HBS,e'];rfl)⟩⟩
     . unfold Ev.val;dsimp only;rw[Aa HNM,Aa HNN,hbl]
       first|done|rfl
     . have hk:=kk.size;exact(hBw6.grown kk (by omega) (fun g' e=>by cases e;omega)).grown p2' (by omega) (fun g' e=>by cases e;omega))
    obtain⟨Wf,hWf⟩:=Z16 w6 (w.heap.size+1) (.string nm) (.slice fa n fc) (.int .i64 st) (.int .i64 nd) (.bool gn) (.int .u32 0) (.slice fa n fc) (.int .u32 (m:Int));have eWf:Mu w6 (w.heap.size+1) (.string nm) (.slice fa n fc) (.int .i64 st) (.int .i64 nd) (.bool gn) (.int .u32 0) (.slice fa n fc) (.int .u32 (m:Int))=Wf:=hWf;rw[eWf]at HF p1';have HWF:=Ab hWf;clear hWf eWf;have HP1:=Ab p1';clear p1' p2' hfb hX6 hR6 hBA6 hBw6 hBy hOne hB6 hol hL hK hg hgX hgR hxlt hlt hbl kk;go_wp2;have eWf:=Aa HWF;unfold PV at eWf;subst eWf;refine bodyPost_ret (v:=.agg #[(.string nm),(.slice fa n fc),(.int .i64 st),(.int .i64 nd),(.bool gn),(.int .u32 0),(.slice fa n fc),(.int .u32 (m:Int))]) ?_ rfl (Aa HF);exact results_cell_row rfl _ _ _ _ _ _ _ rfl (Aa HP1) Tryz.underlying76 rfl (by kernel_rfl)
end Go.Proofs.YtieianhejdcgdaaGreatDoor
