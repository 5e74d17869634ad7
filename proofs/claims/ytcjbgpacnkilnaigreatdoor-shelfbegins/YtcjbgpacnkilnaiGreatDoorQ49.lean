import Derived.Test.YtcjbgpacnkilnaiGreatDoorQ48
import Derived.Test.YtcjbgpacnkilnaiGreatDoorQ43
set_option maxHeartbeats 2000000
namespace Go.Proofs.YtcjbgpacnkilnaiGreatDoor
open Go.RowKit
set_option linter.unusedVariables false
set_option maxRecDepth 100000
theorem Z48 (w:World)(v0 v1:Value)(t:TypeId):(w.alloc (.cells #[v0,v1] t)).cell? ⟨w.heap.size,0+0,none⟩=some v0/\(w.alloc (.cells #[v0,v1] t)).cell? ⟨w.heap.size,0+1,none⟩=some v1:=by
 constructor<;>rw[cell_of_row _ _ _ _ _ _ (heap_alloc_new w _)]<;>rfl
theorem Fr (w:World)(a b:Option Addr)(la lb ca cb cap:Nat)(xs ys:List Nat)(t:TypeId)(hla:xs.length=la)(hlb:ys.length=lb)(hba:BytesIn w a xs)(hbb:BytesIn w b ys)(hs:la+lb<=281474976710656):
 Calls Tryz.prog 45 #[.slice (some ⟨w.heap.size,0,none⟩) 2 cap] (w.alloc (.cells #[.slice a la ca,.slice b lb cb] t)) fun e w'=>∃x c,la+lb<=c/\e=.returned (.slice x (la+lb) c)/\BytesIn w' x (xs++ys)/\Below w.heap.size w w'/\(x=none->c=0):=by
 subst hla hlb;have e:Hx [(a,ca,xs),(b,cb,ys)] 2=xs++ys:=by simp[Hx]
 have hl:(Hx [(a,ca,xs),(b,cb,ys)] 2).length=xs.length+ys.length:=by rw[e,List.length_append]
 refine(Z64 w.heap.size 0 2 cap [(a,ca,xs),(b,cb,ys)] _ (by simp) ?_ ?_ (by rw[hl];exact hs) (by decide)).mono ?_
 . intro j hj;have h:=Z48 w (.slice a xs.length ca) (.slice b ys.length cb) t;have:j=0\/j=1:=by omega
   rcases this with rfl|rfl
   . exact h.1
   . exact h.2
 . intro j hj;have:j=0\/j=1:=by omega
   rcases this with rfl|rfl
   . exact hba.alloc _
   . exact hbb.alloc _
 . rintro e' w' ⟨x,c,h1,rfl,h2,h3,h4⟩;rw[hl]at h1;rw[e]at h2;exact⟨x,c,h1,by rw[hl],h2,((Below.refl w.heap.size w).alloc (Nat.le_refl _) _).trans (h3.mono (by simp)),h4⟩
end Go.Proofs.YtcjbgpacnkilnaiGreatDoor
namespace Go.Proofs.YtcjbgpacnkilnaiGreatDoor
open Go.RowKit
set_option linter.unusedVariables false
set_option linter.unusedSimpArgs false
set_option maxRecDepth 100000
theorem Dv {fn:Func}{p u:Tmp}{ty:TypeId}(h:fn.results= #[.cell p ty,.tmp u])(tmps:Array Value)(w:World)(g:Nat)(v x:Value)
 (hp:tmps.getD p undef=.pointer (some ⟨g,0,none⟩)) (hv:(loadVar ty ⟨g,0,none⟩).run Tryz.prog w=.ok v w) (hx:tmps.getD u undef=x):
 (results fn tmps).run Tryz.prog w=.ok (.tuple #[v,x]) w:=by
 have hp':tmps[p]?.getD undef=.pointer (some ⟨g,0,none⟩):=by simpa using hp
 have hx':tmps[u]?.getD undef=x:=by simpa using hx
 simp[results,h,hp',hx',asAddr,hv]
theorem Du {fn:Func}{p u r:Tmp}{ty:TypeId}(h:fn.results= #[.cell p ty,.tmp u,.tmp r])(tmps:Array Value)(w:World)(g:Nat)(v x y:Value)
 (hp:tmps.getD p undef=.pointer (some ⟨g,0,none⟩)) (hv:(loadVar ty ⟨g,0,none⟩).run Tryz.prog w=.ok v w) (hx:tmps.getD u undef=x) (hy:tmps.getD r undef=y):
 (results fn tmps).run Tryz.prog w=.ok (.tuple #[v,x,y]) w:=by
 have hp':tmps[p]?.getD undef=.pointer (some ⟨g,0,none⟩):=by simpa using hp
 have hx':tmps[u]?.getD undef=x:=by simpa using hx
 have hy':tmps[r]?.getD undef=y:=by simpa using hy
 simp[results,h,hp',hx',hy',asAddr,hv]
theorem Cs {w:World}{g:Nat}{u v:Value}(h:w.heap[g]? =some (.cells #[u,v] 34 (0,0))):(loadVar 34 ⟨g,0,none⟩).run Tryz.prog w=.ok (.agg #[u,v]) w:=
 run_loadVar_row w g 34 34 #[u,v] (0,0) _ h Tryz.underlying34 rfl (by kernel_rfl)
def PIn (w:World)(v:Value)(bs:List Nat):Prop:=∃a c,v=.slice a bs.length c/\bs.length<=c/\PkIn w a c bs
theorem PIn.below {w w':World}{v:Value}{bs:List Nat}(h:PIn w v bs)(hB:Below w.heap.size w w'):PIn w' v bs:=by
 obtain⟨a,c,h1,h2,h3⟩:=h;exact⟨a,c,h1,h2,h3.below hB⟩
theorem PIn.nil (w:World):PIn w (.slice none 0 0) []:=⟨none,0,rfl,Nat.le_refl _,.inl rfl,fun _=>rfl⟩
def DIn (w:World)(v:Value)(S T:List Nat):Prop:=∃s t,v=.agg #[s,t]/\PIn w s S/\PIn w t T
theorem DIn.below {w w':World}{v:Value}{S T:List Nat}(h:DIn w v S T)(hB:Below w.heap.size w w'):DIn w' v S T:=by
 obtain⟨s,t,h1,h2,h3⟩:=h;exact⟨s,t,h1,h2.below hB,h3.below hB⟩
theorem DIn.nil (w:World):DIn w (.agg #[.slice none 0 0,.slice none 0 0]) [] []:=⟨_,_,rfl,PIn.nil w,PIn.nil w⟩
theorem Z1n (w:World):w.ownsRow w.heap.size 5 1 (.slice none 0 0) ([]:List Nat).length (u8s []):=World.ownsRow_nil _ _ _ _
theorem Ps (a:Option Addr)(n cap:Nat)(bs:List Nat)(w:World)(hl:bs.length=n)(hP:PkIn w a cap bs)(hm:n<=140737488355328):
 Calls Tryz.prog 28 #[.slice a n cap] w fun e w'=>∃v,e=.returned v/\PIn w' v bs/\Below w.heap.size w w':=by
 have HP:=Ab hP;have HL:=Ab hl;clear hP hl;go_enter Tryz.func28,Tryz.ntmps28
 go_wp2_with (refine Hd rfl (.const (.slice none 0 0)) (.tmp 3) rfl w.heap.size (.slice none 0 0) [] bs rfl (Z1n w) a n cap rfl (Aa HL) (Aa HP) (by simpa using hm) (Nat.le_refl _) ?_)
 intro v' w' h1 h2;have h3:w'.ownsRow w.heap.size 5 1 v' bs.length (u8s bs):=by simpa using h1
 obtain⟨x,c,rfl,k1,k2,k3,_⟩:=Xa h3;have HF:Hid (∃v,Ending.returned (Value.slice x bs.length c)=.returned v/\PIn w' v bs/\Below w.heap.size w w'):=Ab ⟨_,rfl,⟨x,c,rfl,k2,k1⟩,(Below.refl w.heap.size w).grown h2 (Nat.le_refl _) (fun g e=>by cases e)⟩;clear h1 h2 h3 k1 k2 k3;go_wp2;go_ret;exact Aa HF
def Fe (b:List Nat)(f:List Fl):Prop:=Recs [] b f b.length
open Classical in
noncomputable def dskE (S T:List Nat):Nat:=if 40000<S.length+T.length then 2 else if (∃f,Fe S f)/\∃f,Fe (S++T) f then 0 else 7
theorem Za8 {S T:List Nat}(h:40000<S.length+T.length):dskE S T=2:=by unfold dskE;rw[if_pos h]
theorem Pp {S T:List Nat}{f g:List Fl}(h:¬40000<S.length+T.length)(h1:Fe S f)(h2:Fe (S++T) g):dskE S T=0:=by unfold dskE;rw[if_neg h,if_pos ⟨⟨f,h1⟩,⟨g,h2⟩⟩]
theorem Yy {S T:List Nat}(h:¬40000<S.length+T.length)(h1:¬((∃f,Fe S f)/\∃f,Fe (S++T) f)):dskE S T=7:=by unfold dskE;rw[if_neg h,if_neg h1]
theorem Yx {S T:List Nat}(h:dskE S T=0):S.length+T.length<=40000/\(∃f,Fe S f)/\∃f,Fe (S++T) f:=by
 unfold dskE at h
 split at h
 . cases h
 . split at h
   . rename_i h1 h2
     exact⟨by omega,h2⟩
   . cases h
theorem Xh {b:List Nat}{f:List Fl}{m:Nat}(h:Recs [] b f m)(hm:m<b.length):¬ ∃f,Fe b f:=by
 rintro ⟨g,hg⟩;have:=(h.one hg).2
 omega
theorem Z2b (a:Option Addr)(m n cap:Nat)(h:m<=n)(hn:n<=cap)(W:World):(Instr.slice 22 (.slice a n cap) none (some (.int .i64 (m:Int))) none).run Tryz.prog W=.ok (.slice a m cap) W:=by
 have hs:=Tryz.sizeOf5;have ht:=Tryz.underlying22;have h2:(m:Int)<=(cap:Int):=by omega
 cases a<;>simp[go_sem,ht,hs,h2]
theorem Z1x {n m:Nat}(h:m<=n)(hn:n<=140737488355328):IntKind.i64.wrap ((n:Int)-(m:Int))=(n:Int)-(m:Int):=by
 simp[IntKind.wrap,IntKind.signed,IntKind.bits]
 omega
def RcA (w:World)(bs:List Nat)(e:Ending)(w':World):Prop:=
 Below w.heap.size w w'/\((40000<bs.length/\e=.returned (.tuple #[.agg #[.slice none 0 0,.slice none 0 0],.int .i64 0,.int .i64 2]))\/ (bs.length<=40000/\∃f m v,Recs [] bs f m/\e=.returned (.tuple #[.agg #[v,.slice none 0 0],.int .i64 ((bs.length-m:Nat):Int),.int .i64 0])/\PIn w' v (bs.take m)))
theorem Z1b {w W:World}{g:Nat}{o0 o1:Value}{T:TypeId}(hB:Below w.heap.size w W)(hg:w.heap.size<=g)(h:W.heap[g]? =some (.cells #[o0,o1] T (0,0)))(u v:Value):
 ((W.setCell ⟨g,0,none⟩ u).setCell ⟨g,1,none⟩ v).heap[g]? =some (.cells #[u,v] T (0,0))/\Below w.heap.size w ((W.setCell ⟨g,0,none⟩ u).setCell ⟨g,1,none⟩ v):=by
 have h2:=hB.grown (Ad W g 0 u) hB.size (fun g' e=>by cases e;exact hg);refine⟨?_,h2.grown (Ad _ g 1 v) h2.size (fun g' e=>by cases e;exact hg)⟩;rw[heap_setCell_same _ g 1 _ _ _ (heap_setCell_same W g 0 _ _ _ h)];rfl
theorem Zen {W:World}{N c l1 c1 l2 c2:Nat}{a a1 a2:Option Addr}{ys:List Nat}{T:TypeId}(hP:PkIn W a c ys)(h:W.heap[N]? =some (.cells #[.slice a1 l1 c1,.slice a2 l2 c2] T (0,0))):∀g o,a=some ⟨g,o,none⟩->ys≠ []->some g≠some N:=by
 rintro g o rfl hne e
 cases e
 have hpos:0<ys.length:=List.length_pos_iff.2 hne;obtain⟨b,o',e,hb,hB⟩:=Cf hP.1 hpos
 cases e
 have h0:=hB 0 hpos;rw[Ac h]at h0
 rcases(by omega:o+0=0\/o+0=1\/2<=o+0)with e|e|e
 . rw[e]at h0;simp at h0
 . rw[e]at h0;simp at h0
 . rw[Array.getElem?_eq_none (by simpa using e)]at h0;cases h0
theorem PIn.put {W:World}{N l1 c1 l2 c2:Nat}{a1 a2:Option Addr}{x u v:Value}{ys:List Nat}{T:TypeId}(hP:PIn W x ys)(h:W.heap[N]? =some (.cells #[.slice a1 l1 c1,.slice a2 l2 c2] T (0,0)))(u0:∃a l c,u=.slice a l c):PIn ((W.setCell ⟨N,0,none⟩ u).setCell ⟨N,1,none⟩ v) x ys:=by
 obtain⟨a,c,rfl,h1,h2⟩:=hP;obtain⟨a3,l3,c3,rfl⟩:=u0;have h3:=h2.grown (Ad W N 0 (.slice a3 l3 c3)) (Zen h2 h);have h4:=heap_setCell_same W N 0 _ _ (.slice a3 l3 c3) h;exact⟨a,c,rfl,h1,h3.grown (Ad _ N 1 v) (Zen h3 h4)⟩
theorem Gr (a:Option Addr)(n cap:Nat)(bs:List Nat)(w:World)(hl:bs.length=n)(hc:n<=cap)(hP:PkIn w a cap bs)(hv:∀x∈bs,x<256)(hm:n<=140737488355328):
 Calls Tryz.prog 10 #[.slice a n cap] w fun e w'=>RcA w bs e w':=by
 obtain⟨N,hN⟩:∃N,w.heap.size=N:=⟨_,rfl⟩
 have hud:=Tryz.underlying34;have hnew:(w.alloc (.cells #[.slice none 0 0,.slice none 0 0] 34)).heap[N]? =some (.cells #[.slice none 0 0,.slice none 0 0] 34 (0,0)):=by rw[<-hN];exact heap_alloc_new _ _
 have hBn:Below w.heap.size w (w.alloc (.cells #[.slice none 0 0,.slice none 0 0] 34)):=(Below.refl w.heap.size w).alloc (Nat.le_refl _) _
 by_cases h4:40000<n
 . have h4I:(40000:Int)<(n:Int):=by omega
   have d0:=Ac (i:=0) hnew;have d1:=Ac (i:=1) hnew;have f0:=frozen_of_row _ N 0 _ _ hnew;have f1:=frozen_of_row _ N 1 _ _ hnew;have HD:=Ab (And.intro hnew hBn);have HF:Hid (∀W,Below w.heap.size w W->RcA w bs (.returned (.tuple #[.agg #[.slice none 0 0,.slice none 0 0],.int .i64 0,.int .i64 2])) W):=Ab (fun W hW=>⟨hW,.inl ⟨by omega,rfl⟩⟩);clear hP hv hl hnew hBn;go_enter Tryz.func10,Tryz.ntmps10
   go_wp2;refine bodyPost_ret (v:=.tuple #[.agg #[.slice none 0 0,.slice none 0 0],.int .i64 0,.int .i64 2]) ?_ rfl (Aa HF _ (Aa HD).2);exact Du rfl _ _ N _ _ _ rfl (Cs (Aa HD).1) rfl rfl
 . have h4I:¬(40000:Int)<(n:Int):=by omega
   have HT:=Ab (Gp a n cap bs _ hl hc (hP.below hBn) hv hm);unfold ToA at HT;have HP:=Ab hP;have HV:=Ab hv;have HL:=Ab hl;have HN:=Ab hnew;have HBN:=Ab hBn;clear hP hv hl hnew hBn;go_enter Tryz.func10,Tryz.ntmps10
   go_wp2_with fail
   refine(Aa HT).mono ?_;rintro e w1 ⟨v1,fs,m,rfl,hL1,hR1,hB1⟩;have hmn:m<=n:=by have:=hR1.le;rw[Aa HL]at this;exact this
   have hB01:=(Aa HBN).trans (hB1.mono (Aa HBN).size);have hN1:=(hB1.block N (Array.getElem?_eq_some_iff.1 (Aa HN)).1).trans (Aa HN);have HCO:=Ab (Ps a m cap (bs.take m) w1 (by rw[List.length_take,Aa HL];omega) (Om ((Aa HP).below hB01) m) (by omega));have hsl:=Z2b a m n cap hmn hc;have hsb:=Z1x hmn hm;have HB01:=Ab hB01;have HN1:=Ab hN1;have HR1:=Ab hR1;have HM:=Ab hmn;have HE:Hid ((n:Int)-(m:Int)=((n-m:Nat):Int)):=Ab (by omega);clear hL1 hR1 hB1 hB01 hN1 HT hmn;go_wp2_with fail
   refine(Aa HCO).mono ?_;rintro e w2 ⟨v2,rfl,hP2,hB2⟩;have hB02:=(Aa HB01).trans (hB2.mono (Aa HB01).size);have hN2:=(hB2.block N (Array.getElem?_eq_some_iff.1 (Aa HN1)).1).trans (Aa HN1);obtain⟨a2,c2,hv2,k1,k2⟩:=id hP2;have htl:(bs.take m).length=m:=by rw[List.length_take,Aa HL];have:=Aa HM;omega
   rw[htl]at hv2;have hD:=Z1b hB02 (Nat.le_of_eq hN) hN2 v2 (.slice none 0 0);have d0:=Ac (i:=0) hN2;have d1:=Ac (i:=1) hN2;have f0:=frozen_of_row _ N 0 _ _ hN2;have f1:=frozen_of_row _ N 1 _ _ hN2;have hP3:=hP2.put (u:=v2) (v:=.slice none 0 0) hN2 ⟨_,_,_,hv2⟩;have HD:=Ab hD;have HF:Hid (RcA w bs (.returned (.tuple #[.agg #[v2,.slice none 0 0],.int .i64 ((n:Int)-(m:Int)),.int .i64 0])) ((w2.setCell ⟨N,0,none⟩ v2).setCell ⟨N,1,none⟩ (.slice none 0 0))):=Ab ⟨hD.2,.inr ⟨by rw[Aa HL];omega,fs,m,v2,Aa HR1,by rw[Aa HE,Aa HL],hP3⟩⟩;subst hv2;clear hP2 hB2 hB02 hN2 k1 k2 hD hP3 htl;go_wp2;refine bodyPost_ret (v:=.tuple #[.agg #[.slice a2 m c2,.slice none 0 0],.int .i64 ((n:Int)-(m:Int)),.int .i64 0]) ?_ rfl (Aa HF);exact Du rfl _ _ N _ _ _ rfl (Cs (Aa HD).1) rfl rfl
end Go.Proofs.YtcjbgpacnkilnaiGreatDoor
namespace Go.Proofs.YtcjbgpacnkilnaiGreatDoor
open Go.RowKit
set_option linter.unusedVariables false
set_option linter.unusedSimpArgs false
set_option maxRecDepth 100000
def FiA (w:World)(S T:List Nat)(e:Ending)(w':World):Prop:=Below w.heap.size w w'/\∃v l,e=.returned (.tuple #[v,.int .i64 (dskE S T:Nat)])/\LIn w' v l/\(dskE S T=0->Fe (S++T) l)/\(dskE S T≠0->l= [])
theorem FiA.bad {w w':World}{S T:List Nat}{k:Nat}(hB:Below w.heap.size w w')(h:dskE S T=k)(hk:k≠0):FiA w S T (.returned (.tuple #[.slice none 0 0,.int .i64 (k:Int)])) w':=⟨hB,_,[],by rw[h],LIn.nil _,fun e=>absurd (h.symm.trans e) hk,fun _=>rfl⟩
theorem Pk (v:Value)(S T:List Nat)(w:World)(hD:DIn w v S T)(hv1:∀x∈S,x<256)(hv2:∀x∈T,x<256)(hm1:S.length<=140737488355328)(hm2:T.length<=140737488355328):
 Calls Tryz.prog 32 #[v] w fun e w'=>FiA w S T e w':=by
 obtain⟨s,t,rfl,⟨a1,c1,rfl,hc1,hP1⟩,⟨a2,c2,rfl,hc2,hP2⟩⟩:=hD;obtain⟨N,hN⟩:∃N,w.heap.size=N:=⟨_,rfl⟩
 obtain⟨n1,hn1⟩:∃n1,S.length=n1:=⟨_,rfl⟩
 obtain⟨n2,hn2⟩:∃n2,T.length=n2:=⟨_,rfl⟩
 rw[hn1]at hm1 hc1 ⊢;rw[hn2]at hm2 hc2 ⊢;have hwr:IntKind.i64.wrap ((40000:Int)-(n1:Int))=(40000:Int)-(n1:Int):=by simp[IntKind.wrap,IntKind.signed,IntKind.bits];omega
 have HM1:=Ab hn1;have HM2:=Ab hn2
 by_cases h4:40000<n1+n2
 . have h4I:(40000:Int)-(n1:Int)<(n2:Int):=by omega
   have HF:Hid (FiA w S T (.returned (.tuple #[.slice none 0 0,.int .i64 ((2:Nat):Int)])) (w.alloc (.cells #[.slice a1 n1 c1,.slice a2 n2 c2] 34))):=Ab (FiA.bad ((Below.refl w.heap.size w).alloc (Nat.le_refl _) _) (Za8 (by omega)) (by decide));clear hP1 hP2 hv1 hv2 hn1 hn2 h4;go_enter Tryz.func32,Tryz.ntmps32
   go_wp2;go_ret2;exact Aa HF
 have h4I:¬(40000:Int)-(n1:Int)<(n2:Int):=by omega
 have hnd:¬40000<S.length+T.length:=by omega
 have hnew:(w.alloc (.cells #[.slice a1 n1 c1,.slice a2 n2 c2] 34)).heap[N]? =some (.cells #[.slice a1 n1 c1,.slice a2 n2 c2] 34 (0,0)):=by rw[<-hN];exact heap_alloc_new _ _
 have hBn:Below w.heap.size w (w.alloc (.cells #[.slice a1 n1 c1,.slice a2 n2 c2] 34)):=(Below.refl w.heap.size w).alloc (Nat.le_refl _) _;have HT:=Ab (Gp a1 n1 c1 S _ hn1 hc1 (hP1.below hBn) hv1 hm1);unfold ToA at HT;have HP1:=Ab hP1;have HP2:=Ab hP2;have HV1:=Ab hv1;have HV2:=Ab hv2;have HN:=Ab hnew;have HBN:=Ab hBn;have HND:=Ab hnd;clear hP1 hP2 hv1 hv2 hnew hBn hn1 hn2 hnd;go_enter Tryz.func32,Tryz.ntmps32
 go_wp2_with fail
 refine(Aa HT).mono ?_;rintro e w1 ⟨v1,fs,m,rfl,hL1,hR1,hB1⟩;have hmn:m<=n1:=by have:=hR1.le;rw[Aa HM1]at this;exact this
 have hB01:=(Aa HBN).trans (hB1.mono (Aa HBN).size);have hN1:=(hB1.block N (Array.getElem?_eq_some_iff.1 (Aa HN)).1).trans (Aa HN);have d0:=Ac (i:=0) hN1;have d1:=Ac (i:=1) hN1
 by_cases hmlt:m<n1
 . have HF:Hid (FiA w S T (.returned (.tuple #[.slice none 0 0,.int .i64 ((7:Nat):Int)])) w1):=Ab (FiA.bad hB01 (Yy (Aa HND) (fun h=>Xh hR1 (by rw[Aa HM1];exact hmlt) h.1)) (by decide));have hmI:(m:Int)<(n1:Int):=by omega
   clear hL1 hR1 hB1 hB01 hN1 HT hmlt hmn;go_wp2;go_ret2;exact Aa HF
 obtain rfl:n1=m:=by omega
 have hW1:Fe S fs:=by unfold Fe;rw[Aa HM1];exact hR1
 have HCC:=Ab (Fr w1 a1 a2 n1 n2 c1 c2 2 S T 22 (Aa HM1) (Aa HM2) ((Aa HP1).below hB01).1 ((Aa HP2).below hB01).1 (by omega));have HB01:=Ab hB01;have HW1:=Ab hW1;have hself:¬(n1:Int)<(n1:Int):=by omega
 clear hL1 hR1 hB1 hB01 hN1 HT hmlt hmn hW1;go_wp2_with fail
 refine(Aa HCC).mono ?_;rintro e w2 ⟨x,c,hxc,rfl,hBy,hB2,hnil⟩;have hB02:=(Aa HB01).trans (hB2.mono (Aa HB01).size);obtain⟨n3,hn3⟩:∃n3,n1+n2=n3:=⟨_,rfl⟩
 have hl3:(S++T).length=n3:=by rw[List.length_append,Aa HM1,Aa HM2,hn3]
 have hv3:∀y∈S++T,y<256:=fun y hy=>by rcases List.mem_append.1 hy with h|h;exact Aa HV1 y h;exact Aa HV2 y h
 rw[hn3]at hxc ⊢;have HT2:=Ab (Gp x n3 c (S++T) w2 hl3 hxc ⟨hBy,hnil⟩ hv3 (by omega));unfold ToA at HT2;have HB02:=Ab hB02;have HL3:=Ab hl3;clear hBy hB2 hB02 hnil HCC hl3 hv3 hn3;go_wp2_with fail
 refine(Aa HT2).mono ?_;rintro e w3 ⟨v3,gs,m3,rfl,hL3,hR3,hB3⟩;have hB03:=(Aa HB02).trans (hB3.mono (Aa HB02).size);have hmn3:m3<=n3:=by have:=hR3.le;rw[Aa HL3]at this;exact this
 by_cases hm3:m3<n3
 . have HF:Hid (FiA w S T (.returned (.tuple #[.slice none 0 0,.int .i64 ((7:Nat):Int)])) w3):=Ab (FiA.bad hB03 (Yy (Aa HND) (fun h=>Xh hR3 (by rw[Aa HL3];exact hm3) h.2)) (by decide));have hmI:(m3:Int)<(n3:Int):=by omega
   clear hL3 hR3 hB3 hB03 hm3 hmn3 HT2;go_wp2;go_ret2;exact Aa HF
 . obtain rfl:n3=m3:=by omega
   have hW3:Fe (S++T) gs:=by unfold Fe;rw[Aa HL3];exact hR3
   have hd:=Pp (Aa HND) (Aa HW1) hW3;have HF:Hid (FiA w S T (.returned (.tuple #[v3,.int .i64 0])) w3):=Ab ⟨hB03,v3,gs,by rw[hd];rfl,hL3,fun _=>hW3,fun e=>absurd hd e⟩;have hself:¬(n3:Int)<(n3:Int):=by omega
   clear hL3 hR3 hB3 hB03 hm3 hmn3 HT2 hW3 hd;go_wp2;go_ret2;exact Aa HF
theorem Ln (v:Value)(S T:List Nat)(w:World)(hD:DIn w v S T)(hv1:∀x∈S,x<256)(hv2:∀x∈T,x<256)(hm1:S.length<=140737488355328)(hm2:T.length<=140737488355328):
 Calls Tryz.prog 15 #[v] w fun e w'=>e=.returned (.int .i64 (dskE S T:Nat))/\Below w.heap.size w w':=by
 obtain⟨s,t,rfl,h1,h2⟩:=id hD;obtain⟨a1,c1,rfl,_⟩:=h1;obtain⟨a2,c2,rfl,_⟩:=h2;have HF:=Ab (fun W (hW:Below w.heap.size w W)=>Pk _ S T W (hD.below hW) hv1 hv2 hm1 hm2);unfold FiA at HF;obtain⟨n1,hn1⟩:∃n1,S.length=n1:=⟨_,rfl⟩
 obtain⟨n2,hn2⟩:∃n2,T.length=n2:=⟨_,rfl⟩
 obtain⟨E,hE⟩:∃E,dskE S T=E:=⟨_,rfl⟩
 rw[hn1,hn2,hE]at HF;rw[hn1,hn2,hE];have HB:=Ab ((Below.refl w.heap.size w).alloc (Nat.le_refl _) (.cells #[.slice a1 n1 c1,.slice a2 n2 c2] 34));clear hD hv1 hv2 hm1 hm2 hn1 hn2 hE;go_enter Tryz.func15,Tryz.ntmps15
 go_wp2_with fail
 refine(Aa HF _ (Aa HB)).mono ?_;rintro e w1 ⟨hB1,v1,l,rfl,_⟩;have HB1:=Ab ((Aa HB).trans (hB1.mono (Aa HB).size));clear hB1 HF;go_wp2;go_ret;exact⟨rfl,Aa HB1⟩
end Go.Proofs.YtcjbgpacnkilnaiGreatDoor
namespace Go.Proofs.YtcjbgpacnkilnaiGreatDoor
open Go.RowKit
set_option linter.unusedVariables false
set_option maxRecDepth 100000
theorem Nk:∀(l:List En),(Bt l).length=22+(Bd l).length+(Bf 0 l).length:=fun l=>by
 unfold Bt;rw[List.length_append,List.length_append,Z3l];omega
end Go.Proofs.YtcjbgpacnkilnaiGreatDoor
namespace Go.Proofs.YtcjbgpacnkilnaiGreatDoor
open Go.RowKit
set_option linter.unusedVariables false
set_option linter.unusedSimpArgs false
set_option maxRecDepth 100000
theorem EOf.one {x y:En}(h:EOf x)(k:EOf y)(e:x.f=y.f):x=y:=by
 obtain⟨xf,xm,xp,xc⟩:=x;obtain⟨yf,ym,yp,yc⟩:=y;have h1:=h.cr;have k1:=k.cr;obtain⟨o1,h2,h3⟩:=h.pk;obtain⟨o2,k2,k3⟩:=k.pk;dsimp only at e h1 k1 h2 h3 k2 k3;subst e;obtain rfl:=h2.one k2
 rcases h3 with ⟨p1,p2,p3⟩|⟨p1,p2,p3⟩<;>rcases k3 with ⟨q1,q2,q3⟩|⟨q1,q2,q3⟩
 . rw[h1,k1,p2,p3,q2,q3]
 . omega
 . omega
 . rw[h1,k1,p2,p3,q2,q3]
def Ens (fs:List Fl)(l:List En):Prop:=l.map En.f=fs/\∀x∈l,EOf x
theorem Ens.one:∀ {fs:List Fl} {l k:List En},Ens fs l->Ens fs k->l=k
 | [],l,k,h,h2=>by rw[List.map_eq_nil_iff.1 h.1,List.map_eq_nil_iff.1 h2.1]
 |f::fs,l,k,h,h2=>by
  obtain⟨h1,h3⟩:=h;obtain⟨k1,k3⟩:=h2
  match l,k,h1,k1,h3,k3 with
  |x::l,y::k,h1,k1,h3,k3=>
   rw[List.map_cons,List.cons.injEq]at h1 k1;rw[(h3 x (by simp)).one (k3 y (by simp)) (h1.1.trans k1.1.symm),Ens.one ⟨h1.2,fun z hz=>h3 z (by simp[hz])⟩ ⟨k1.2,fun z hz=>k3 z (by simp[hz])⟩]
open Classical in
noncomputable def arL (fs:List Fl):List Nat:=if h:∃l,Ens fs l then Bt h.choose else []
theorem Z3y {fs:List Fl}{l:List En}(h:Ens fs l):arL fs=Bt l:=by
 have h2:∃l,Ens fs l:=⟨l,h⟩
 unfold arL;rw[dif_pos h2,h2.choose_spec.one h]
noncomputable def wrE (fs:List Fl):Nat:=if Em fs≠0 then Em fs else if 12000<(arL fs).length then 11 else 0
noncomputable def wrL (fs:List Fl):List Nat:=if wrE fs=0 then arL fs else []
theorem Zf8 {fs:List Fl}(h:Em fs≠0):wrE fs=Em fs:=by unfold wrE;rw[if_pos h]
theorem Z1y {fs:List Fl}(h:wrE fs=0):Em fs=0/\(arL fs).length<=12000/\wrL fs=arL fs:=by
 have h3:wrL fs=arL fs:=by unfold wrL;rw[if_pos h]
 unfold wrE at h
 split at h
 . rename_i h1;exact absurd h h1
 . split at h
   . cases h
   . rename_i h1 h2
     exact⟨by simpa using h1,by omega,h3⟩
def Wr (fs:List Fl)(ar:List Nat):Prop:=(∀x∈ar,x<256)/\Ee ar=0/\Da ar=fs/\22<=ar.length/\ar.length<=12000
def WrN (ar:List Nat):Prop:=(∀x∈ar,x<256)/\22<=ar.length/\ar.length<=12000
theorem Z3x {l:List En}(hE:Em (l.map En.f)=0)(ho:∀x∈l,EOf x)(hn:(Bt l).length<=12000):WrN (Bt l):=
 ⟨Vb l (fun x hx=>((ho x hx).num ((Ha hE).2 x.f (List.mem_map_of_mem hx))).2),by rw[Nk];omega,hn⟩
theorem Zht {w w':World}{fs:List Fl}{e:Ending}(h:WrA w fs e w'):Below w.heap.size w w'/\(∃v,e=.returned (.tuple #[v,.int .i64 (wrE fs:Nat)])/\PIn w' v (wrL fs))/\(wrE fs=0->WrN (wrL fs)):=by
 obtain⟨hB,h⟩:=h;refine⟨hB, ?_⟩
 rcases h with ⟨h1,rfl⟩|⟨h1,l,h2,h3,h4⟩
 . have hz:=Zf8 h1;have hl:wrL fs= []:=by unfold wrL;rw[if_neg (by rw[hz];exact h1)]
   exact⟨⟨_,by rw[hz],by rw[hl];exact PIn.nil _⟩,fun e=>absurd (hz.symm.trans e) h1⟩
 . have ha:=Z3y ⟨h2,h3⟩
   rcases h4 with ⟨h4,rfl⟩|⟨h4,a,c,rfl,h5,h6⟩
   . have hz:wrE fs=11:=by unfold wrE;rw[if_neg (by simp[h1]),ha,if_pos h4]
     have hl:wrL fs= []:=by unfold wrL;rw[if_neg (by rw[hz];decide)]
     exact⟨⟨_,by rw[hz];rfl,by rw[hl];exact PIn.nil _⟩,fun e=>by rw[hz]at e;cases e⟩
   . have hz:wrE fs=0:=by unfold wrE;rw[if_neg (by simp[h1]),ha,if_neg (by omega)]
     have hl:wrL fs=Bt l:=by unfold wrL;rw[if_pos hz,ha]
     refine⟨⟨_,by rw[hz,<-hl];rfl,by rw[hl];exact⟨a,c,rfl,h5,h6⟩⟩,fun _=> ?_⟩;rw[hl];exact Z3x (by rw[h2];exact h1) h3 h4
noncomputable def rF (b:List Nat):List Fl:=(Recs.ex b.length [] b (Nat.le_refl _)).choose
noncomputable def rN (b:List Nat):Nat:=(Recs.ex b.length [] b (Nat.le_refl _)).choose_spec.choose
theorem Rt (b:List Nat):Recs [] b (rF b) (rN b):=(Recs.ex b.length [] b (Nat.le_refl _)).choose_spec.choose_spec
theorem Wq {b:List Nat}{f:List Fl}{m:Nat}(h:Recs [] b f m):rF b=f/\rN b=m:=(Rt b).one h
theorem Zck (b:List Nat):rN b<=b.length:=(Rt b).le
theorem Ji {b:List Nat}{f:List Fl}(h:Fe b f):rF b=f/\rN b=b.length:=Wq h
theorem Z3j:Em []=0:=by decide
theorem Z5u {S T:List Nat}(h:dskE S T=0):S.length+T.length<=40000/\Fe S (rF S)/\Fe (S++T) (rF (S++T)):=by
 obtain⟨h1,⟨f,h2⟩,⟨g,h3⟩⟩:=Yx h;exact⟨h1,by rw[(Ji h2).1];exact h2,by rw[(Ji h3).1];exact h3⟩
theorem Nn:Fe [] []:=Wp []
theorem Ze3:dskE [] []=0:=Pp (by decide) Nn Nn
theorem Zek:rF []= []:=(Ji Nn).1
noncomputable def addE (S T:List Nat)(fs:List Fl):Nat:=
 if dskE S T≠0 then dskE S T else if wrE fs≠0 then wrE fs else if Co (rF (S++T)) fs≠0 then Co (rF (S++T)) fs else if 40000<S.length+T.length+(8+(wrL fs).length)then 11 else 0
noncomputable def addS (S T:List Nat)(fs:List Fl):List Nat:=if addE S T fs=0 then S else []
noncomputable def addW (S T:List Nat)(fs:List Fl):List Nat:=if addE S T fs=0 then T++Hh (wrL fs)else []
theorem Z3z {S T:List Nat}{fs:List Fl}(h:dskE S T≠0):addE S T fs=dskE S T:=by unfold addE;rw[if_pos h]
theorem Zbb {S T:List Nat}{fs:List Fl}(h:dskE S T=0)(h1:wrE fs≠0):addE S T fs=wrE fs:=by unfold addE;rw[if_neg (by simp[h]),if_pos h1]
theorem Zt {S T:List Nat}{fs:List Fl}(h:dskE S T=0)(h1:wrE fs=0)(h2:Co (rF (S++T)) fs≠0):addE S T fs=Co (rF (S++T)) fs:=by unfold addE;rw[if_neg (by simp[h]),if_neg (by simp[h1]),if_pos h2]
theorem Zs {S T:List Nat}{fs:List Fl}(h:dskE S T=0)(h1:wrE fs=0)(h2:Co (rF (S++T)) fs=0)(h3:40000<S.length+T.length+(8+(wrL fs).length)):addE S T fs=11:=by unfold addE;rw[if_neg (by simp[h]),if_neg (by simp[h1]),if_neg (by simp[h2]),if_pos h3]
theorem Z1p {S T:List Nat}{fs:List Fl}(h:dskE S T=0)(h1:wrE fs=0)(h2:Co (rF (S++T)) fs=0)(h3:¬40000<S.length+T.length+(8+(wrL fs).length)):addE S T fs=0:=by unfold addE;rw[if_neg (by simp[h]),if_neg (by simp[h1]),if_neg (by simp[h2]),if_neg h3]
theorem Kv {S T:List Nat}{fs:List Fl}(h:addE S T fs=0):dskE S T=0/\wrE fs=0/\Co (rF (S++T)) fs=0/\S.length+T.length+(8+(wrL fs).length)<=40000/\addS S T fs=S/\addW S T fs=T++Hh (wrL fs):=by
 have h0:=h
 by_cases c1:dskE S T=0
 . by_cases c2:wrE fs=0
   . by_cases c3:Co (rF (S++T)) fs=0
     . by_cases c4:40000<S.length+T.length+(8+(wrL fs).length)
       . rw[Zs c1 c2 c3 c4]at h;cases h
       . exact⟨c1,c2,c3,by omega,by unfold addS;rw[if_pos h0],by unfold addW;rw[if_pos h0]⟩
     . rw[Zt c1 c2 c3]at h;exact absurd h c3
   . rw[Zbb c1 c2]at h;exact absurd h c2
 . rw[Z3z c1]at h;exact absurd h c1
theorem Ku {S T:List Nat}{fs:List Fl}(h:addE S T fs≠0):addS S T fs= []/\addW S T fs= []:=⟨by unfold addS;rw[if_neg h],by unfold addW;rw[if_neg h]⟩
theorem Zr {S T:List Nat}{fs:List Fl}(h:addE S T fs=0)(hw:Wr fs (wrL fs)):Fe (S++(T++Hh (wrL fs))) (Gl (rF (S++T)) fs)/\dskE S (T++Hh (wrL fs))=0:=by
 obtain⟨h1,h2,h3,h4,_⟩:=Kv h;obtain⟨k1,k2,k3⟩:=Z5u h1;obtain⟨w1,w2,w3,w4,w5⟩:=hw
 have h5:Fe (S++(T++Hh (wrL fs))) (Gl (rF (S++T)) fs):=by
  have:=Recs.snoc k3 w1 w2 (by rw[w3];exact h3)
  rw[w3,List.append_assoc]at this;exact this
 exact⟨h5,Pp (by rw[List.length_append,Ef];omega) k2 h5⟩
theorem Z3t {a:List Fl}(h:Em a=0):Co [] a=0/\Gl [] a=a/\Co a []=0/\Gl a []=a:=by
 have hl:=Um h;have h1:Co [] a=0:=Lt.2 ⟨Z3j,h,by rw[Nu];exact hl⟩;have h2:Co a []=0:=Lt.2 ⟨h,Z3j,by rw[Td];exact hl⟩;exact⟨h1,by rw[Uz h1,Nu],h2,by rw[Uz h2,Td]⟩
end Go.Proofs.YtcjbgpacnkilnaiGreatDoor
namespace Go.Proofs.YtcjbgpacnkilnaiGreatDoor
open Go.RowKit
set_option linter.unusedVariables false
set_option linter.unusedSimpArgs false
set_option maxRecDepth 100000
def DkA (w:World)(S T:List Nat)(E:Nat)(e:Ending)(w':World):Prop:=Below w.heap.size w w'/\∃d,e=.returned (.tuple #[d,.int .i64 (E:Int)])/\DIn w' d S T
theorem DIn.parts {w:World}{v:Value}{S T:List Nat}(h:DIn w v S T):∃a1 c1 a2 c2,v=.agg #[.slice a1 S.length c1,.slice a2 T.length c2]/\S.length<=c1/\T.length<=c2/\PkIn w a1 c1 S/\PkIn w a2 c2 T:=by
 obtain⟨s,t,rfl,⟨a1,c1,rfl,h1,h2⟩,⟨a2,c2,rfl,h3,h4⟩⟩:=h;exact⟨a1,c1,a2,c2,rfl,h1,h3,h2,h4⟩
theorem DIn.put {w W:World}{N l1 c1 l2 c2:Nat}{a1 a2:Option Addr}{u v:Value}{S T:List Nat}(hB:Below w.heap.size w W)(hN:w.heap.size<=N)(h:W.heap[N]? =some (.cells #[.slice a1 l1 c1,.slice a2 l2 c2] 34 (0,0)))(hu:PIn W u S)(hv:PIn W v T):
 ((W.setCell ⟨N,0,none⟩ u).setCell ⟨N,1,none⟩ v).heap[N]? =some (.cells #[u,v] 34 (0,0))/\Below w.heap.size w ((W.setCell ⟨N,0,none⟩ u).setCell ⟨N,1,none⟩ v)/\DIn ((W.setCell ⟨N,0,none⟩ u).setCell ⟨N,1,none⟩ v) (.agg #[u,v]) S T:=by
 have hu0:∃a l c,u=.slice a l c:=by obtain⟨a,c,e,_⟩:=hu;exact⟨a,_,c,e⟩
 exact⟨(Z1b hB hN h u v).1,(Z1b hB hN h u v).2,u,v,rfl,hu.put h hu0,hv.put h hu0⟩
noncomputable def flS (S T:List Nat):List Nat:=if dskE S T=0 then S++T else []
theorem Z9t (v:Value)(S T:List Nat)(w:World)(hD:DIn w v S T)(hv1:∀x∈S,x<256)(hv2:∀x∈T,x<256)(hm1:S.length<=140737488355328)(hm2:T.length<=140737488355328):
 Calls Tryz.prog 30 #[v] w fun e w'=>DkA w (flS S T) [] (dskE S T) e w':=by
 have HCK:=Ab (fun W (hW:Below w.heap.size w W)=>Ln v S T W (hD.below hW) hv1 hv2 hm1 hm2);obtain⟨a1,c1,a2,c2,rfl,hc1,hc2,hP1,hP2⟩:=hD.parts;obtain⟨N,hN⟩:∃N,w.heap.size=N:=⟨_,rfl⟩
 obtain⟨n1,hn1⟩:∃n1,S.length=n1:=⟨_,rfl⟩
 obtain⟨n2,hn2⟩:∃n2,T.length=n2:=⟨_,rfl⟩
 obtain⟨E,hE⟩:∃E,dskE S T=E:=⟨_,rfl⟩
 rw[hn1,hn2,hE]at HCK;rw[hn1]at hm1 hc1 ⊢;rw[hn2]at hm2 hc2 ⊢;rw[hE];have hB0:Below w.heap.size w ((w.alloc (.cells #[.slice a1 n1 c1,.slice a2 n2 c2] 34)).alloc (.cells #[.slice none 0 0,.slice none 0 0] 34)):=((Below.refl w.heap.size w).alloc (Nat.le_refl _) _).alloc (by simp) _
 have hX:((w.alloc (.cells #[.slice a1 n1 c1,.slice a2 n2 c2] 34)).alloc (.cells #[.slice none 0 0,.slice none 0 0] 34)).heap[N]? =some (.cells #[.slice a1 n1 c1,.slice a2 n2 c2] 34 (0,0)):=by
  refine(Below.heap_alloc _ _ _ (by simp[hN])).trans ?_;rw[<-hN];exact heap_alloc_new _ _
 have hY:((w.alloc (.cells #[.slice a1 n1 c1,.slice a2 n2 c2] 34)).alloc (.cells #[.slice none 0 0,.slice none 0 0] 34)).heap[N+1]? =some (.cells #[.slice none 0 0,.slice none 0 0] 34 (0,0)):=by
  have:=heap_alloc_new (w.alloc (.cells #[.slice a1 n1 c1,.slice a2 n2 c2] 34)) (.cells #[.slice none 0 0,.slice none 0 0] 34)
  rw[<-(by simp[hN]:(w.alloc (.cells #[.slice a1 n1 c1,.slice a2 n2 c2] 34)).heap.size=N+1)];exact this
 have HB0:=Ab hB0;have HX:=Ab hX;have HY:=Ab hY;have HP1:=Ab hP1;have HP2:=Ab hP2;have HE:=Ab hE;have HM1:=Ab hn1;have HM2:=Ab hn2;have HSZ:=Ab (show w.heap.size<=N+1 by omega);clear hD hv1 hv2 hP1 hP2 hB0 hX hY hE hn1 hn2;go_enter Tryz.func30,Tryz.ntmps30
 go_wp2_with fail
 refine(Aa HCK _ (Aa HB0)).mono ?_;rintro e w1 ⟨rfl,hB1⟩;have hB01:=(Aa HB0).trans (hB1.mono (Aa HB0).size);have hX1:=(hB1.block N (Array.getElem?_eq_some_iff.1 (Aa HX)).1).trans (Aa HX);have hY1:=(hB1.block (N+1) (Array.getElem?_eq_some_iff.1 (Aa HY)).1).trans (Aa HY)
 by_cases hE0:E=0
 . subst hE0;have HCC:=Ab (Fr w1 a1 a2 n1 n2 c1 c2 2 S T 22 (Aa HM1) (Aa HM2) ((Aa HP1).below hB01).1 ((Aa HP2).below hB01).1 (by omega));have d0:=Ac (i:=0) hX1;have d1:=Ac (i:=1) hX1;have HB01:=Ab hB01;have HY1:=Ab hY1;clear hB1 hB01 hX1 hY1 HCK;go_wp2_with fail
   refine(Aa HCC).mono ?_;rintro e w2 ⟨x,c,hxc,rfl,hBy,hB2,hnil⟩;have hB02:=(Aa HB01).trans (hB2.mono (Aa HB01).size);have hY2:=(hB2.block (N+1) (Array.getElem?_eq_some_iff.1 (Aa HY1)).1).trans (Aa HY1);have hl:(S++T).length=n1+n2:=by rw[List.length_append,Aa HM1,Aa HM2]
   have hpin:PIn w2 (.slice x (n1+n2) c) (S++T):=⟨x,c,by rw[hl],by rw[hl];exact hxc,hBy,hnil⟩
   have hfl:flS S T=S++T:=by unfold flS;rw[if_pos (Aa HE)]
   obtain⟨k1,k2,k3⟩:=DIn.put hB02 (Aa HSZ) hY2 hpin (PIn.nil w2);have e0:=Ac (i:=0) hY2;have e1:=Ac (i:=1) hY2;have f0:=frozen_of_row _ (N+1) 0 _ _ hY2;have f1:=frozen_of_row _ (N+1) 1 _ _ hY2;have HF:Hid (DkA w (flS S T) [] 0 (.returned (.tuple #[.agg #[.slice x (n1+n2) c,.slice none 0 0],.int .i64 0])) ((w2.setCell ⟨N+1,0,none⟩ (.slice x (n1+n2) c)).setCell ⟨N+1,1,none⟩ (.slice none 0 0))):=Ab ⟨k2,_,rfl,by rw[hfl];exact k3⟩;have HK:=Ab k1;clear hBy hB2 hB02 hY2 hpin k1 k2 k3 hnil hl hfl HCC d0 d1;go_wp2;refine bodyPost_ret (v:=.tuple #[.agg #[.slice x (n1+n2) c,.slice none 0 0],.int .i64 0]) ?_ rfl (Aa HF);exact Dv rfl _ _ (N+1) _ _ rfl (Cs (Aa HK)) rfl
 . have hEb:((E:Int)==0)=false:=by rw[beq_eq_false_iff_ne];omega
   have hEc:((E:Int)!=0)=true:=by rw[bne,hEb];rfl
   have hfl:flS S T= []:=by unfold flS;rw[if_neg (by rw[Aa HE];exact hE0)]
   obtain⟨k1,k2,k3⟩:=DIn.put hB01 (Aa HSZ) hY1 (PIn.nil w1) (PIn.nil w1);have e0:=Ac (i:=0) hY1;have e1:=Ac (i:=1) hY1;have f0:=frozen_of_row _ (N+1) 0 _ _ hY1;have f1:=frozen_of_row _ (N+1) 1 _ _ hY1;have HF:Hid (DkA w (flS S T) [] E (.returned (.tuple #[.agg #[.slice none 0 0,.slice none 0 0],.int .i64 (E:Int)])) ((w1.setCell ⟨N+1,0,none⟩ (.slice none 0 0)).setCell ⟨N+1,1,none⟩ (.slice none 0 0))):=Ab ⟨k2,_,rfl,by rw[hfl];exact k3⟩;have HK:=Ab k1;clear hB1 hB01 hX1 hY1 k1 k2 k3 hfl HCK hE0;go_wp2;refine bodyPost_ret (v:=.tuple #[.agg #[.slice none 0 0,.slice none 0 0],.int .i64 (E:Int)]) ?_ rfl (Aa HF);exact Dv rfl _ _ (N+1) _ _ rfl (Cs (Aa HK)) rfl
end Go.Proofs.YtcjbgpacnkilnaiGreatDoor
