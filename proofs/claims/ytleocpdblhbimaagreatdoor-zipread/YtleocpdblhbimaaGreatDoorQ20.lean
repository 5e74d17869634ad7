import Derived.Test.YtleocpdblhbimaaGreatDoorQ19
import Derived.Deep.RegionHeld3
import Derived.OwnWalk
import Derived.Maps.OwnSet
import Derived.Maps.Views
import Derived.Defers
import Derived.Recover
import Derived.Laws.Pointers
set_option linter.unusedSimpArgs false
set_option maxHeartbeats 4000000
namespace Go.Proofs.YtleocpdblhbimaaGreatDoor
open Go.RowKit Go.Maps Go.WideMaps
set_option linter.unusedVariables false
set_option maxRecDepth 100000
abbrev DecIs (w:World)(mb n:Nat)(D:DataW Unit):Prop:=w.ownsMap Tryz.prog 351 (plainElem Tryz.prog 3) mb n D
abbrev DV (gr gm:Nat):Value:=.func (.func 281) #[] #[.pointer (some ⟨gr,0,none⟩),.pointer (some ⟨gm,0,none⟩)]
structure DIs (w:World)(gr gm mb nn b:Nat)(l:List Int):Prop where
 r:w.cell? ⟨gr,0,none⟩=some (.pointer (some ⟨b,0,none⟩))
 m:w.cell? ⟨gm,0,none⟩=some (.map (some mb))
 lt:gr<w.heap.size/\gm<w.heap.size
 is:DecIs w mb nn (decD l l.length)
theorem DIs.keep {w w':World}{gr gm mb nn b:Nat}{l:List Int}(h:DIs w gr gm mb nn b l)(hs:w.heap.size<=w'.heap.size)(k1:w'.heap[gr]? =w.heap[gr]?)(k2:w'.heap[gm]? =w.heap[gm]?)(k3:w'.heap[mb]? =w.heap[mb]?):DIs w' gr gm mb nn b l:=by
 obtain⟨es,clock,hb,F,h1,h2⟩:=h.is;have:=h.lt
 exact⟨(World.cell?_of_block (a:=⟨gr,0,none⟩) k1).trans h.r,(World.cell?_of_block (a:=⟨gm,0,none⟩) k2).trans h.m,⟨by omega,by omega⟩,es,clock,k3.trans hb,F,h1,h2⟩
theorem Tf {w:World}{ops:Array Oper}{o:Oper}{a:Act}{K':Act->World->Prop}{Q:Exit->Act->World->Prop}{E:Prop}(hgd:o.guard=none)(m x v:Operand)(hop:o.op=Op.mapUpdate 350 m x v)(b n:Nat)(D:DataW Unit)(hm:a.eval m=.map (some b))(hown:DecIs w b n D)(hn:n<maxLen)(key val:Value)(kl:Lit)(hx:a.eval x=key)(hv:a.eval v=val)(hkey:keyOf Tryz.prog 351 key=some kl)
 (d:DataW Unit) (ps:List MemPlace) (hval:plainElem Tryz.prog 3 val=some (d,ps)) (hK:∀w',DecIs w' b (n+1) (D.put kl d)->w.grownBy w' (some b)->K' (a.put o.dst undef) w'):if Region.wanted o (yielded ops a.tmps)=true then Oper.wp Tryz.prog o a w K' Q else E:=by
 have e:Region.wanted o (yielded ops a.tmps)=true:=by unfold Region.wanted;rw[hgd]
 rw[if_pos e];obtain⟨w',hrun,r1,r2⟩:=hown.update Z80 Tryz.underlying350 hn hkey hval;unfold Oper.wp;simp[execOp,hop,hm,hx,hv,hrun,Result.andThen]
 exact hK w' r1 r2
theorem Nr (b:Nat)(a:Option Addr)(len cap:Nat)(l:List Int)(w:World)(hl:l.length=len)(hR:RowIn .i64 w a l)(hG:Good l):
 Calls Tryz.prog 270 #[.pointer (some ⟨b,0,none⟩),.slice a len cap] w fun e w'=>∃gr gm mb nn,e=.returned (DV gr gm)/\w.heap.size<=gr/\w.heap.size<=gm/\w.heap.size<=mb/\mb<w'.heap.size/\DIs w' gr gm mb nn b l/\Below w.heap.size w w':=by
 have hlen:=hG.len;have hmm:= @run_makeMap Tryz.prog;have HG:=Ab hG;have HL:=Ab hl;have HR:=Ab hR;clear hG hl hR;go_enter Tryz.func270,Tryz.ntmps270
 go_wp2_with fail
 refine(DM a len cap l _ (Aa HL) ((Aa HR).alloc _) (Aa HG)).mono ?_;rintro e w1 ⟨g,rfl,hO1,hB1,hg1⟩;have HO1:=Ab hO1;have HB1:=Ab hB1;have hz1:=hB1.size;simp only[World.size_alloc]at hz1 hg1;have hgl:=(hO1.lt g rfl).2;clear hO1 hB1;obtain⟨mb,hmb⟩:∃mb,w1.heap.size=mb:=⟨_,rfl⟩
 have HM0:Hid (DecIs ((w1.alloc (.map #[] 0)).alloc (.cells #[.map (some mb)] 350)) mb 0 (decD l 0)):=Ab (by rw[<-hmb];exact(World.ownsMap_made w1 Tryz.prog 351 (plainElem Tryz.prog 3)).alloc _)
 have HV0:Hid (((w1.alloc (.map #[] 0)).alloc (.cells #[.map (some mb)] 350)).heap[mb+1]? =some (.cells #[.map (some mb)] 350 (0,0))):=Ab (by
  have:=heap_alloc_new (w1.alloc (.map #[] 0)) (.cells #[.map (some mb)] 350)
  rw[World.size_alloc,hmb]at this;exact this)
 have HBW:Hid (Below (w.heap.size+1) (w.alloc (.cells #[.pointer (some ⟨b,0,none⟩)] 280)) ((w1.alloc (.map #[] 0)).alloc (.cells #[.map (some mb)] 350))):=Ab (by
  have h1:=Aa HB1;rw[World.size_alloc]at h1;exact(h1.alloc (by omega) _).alloc (by rw[World.size_alloc];omega) _)
 have HOW:Hid (((w1.alloc (.map #[] 0)).alloc (.cells #[.map (some mb)] 350)).ownsRow (w.heap.size+1) 3 1 (.slice (some ⟨g,0,none⟩) len len) len (i64s (St l len))):=Ab (by
  have h1:=Aa HO1;rw[World.size_alloc]at h1;exact(h1.alloc _).alloc _)
 go_wp2;obtain⟨W2,hW2⟩:∃W2,(w1.alloc (.map #[] 0)).alloc (.cells #[.map (some mb)] 350)=W2:=⟨_,rfl⟩
 rw[hW2]at HM0 HV0 HBW HOW ⊢;have hmw:w.heap.size+1<=mb:=by omega
 have hgm:g<mb:=by omega
 have hW2s:W2.heap.size=mb+2:=by rw[<-hW2];simp;omega
 clear hW2 HO1;go_loopw [22] (fun v22 wr=>∃k n:Nat,k<=len/\n<=k/\v22=.int .i64 (k:Int)/\Hid (DecIs wr mb n (decD l k))/\Hid (W2.grownBy wr (some mb))) (fun v22 _=>len-(intOf v22).toNat)
 case atStart=>exact⟨0,0,VH _,VB _,rfl,HM0,Ab (Aw _ _)⟩
 case round=>
  obtain⟨k,n,hk,hn,rfl,HM,HGr⟩:=hrel
  by_cases hlt:k<len
  . have hkl:k<l.length:=by rw[Aa HL];exact hlt
    obtain⟨ba,oa,rfl,hba,hrow⟩:∃ba oa,a=some ⟨ba,oa,none⟩/\ba<w.heap.size/\Row .i64 w ba oa l:=by
     rcases Aa HR with h0|h0
     . rw[h0]at hkl;simp at hkl
     . exact h0
    have c1:wr.cell? ⟨ba,oa+k,none⟩=some (.int .i64 (l.getD k 0)):=(Aa HGr).cell (((Aa HBW).cell (p:=⟨ba,oa+k,none⟩) (by show ba<_;omega)).trans ((World.cell?_alloc_past _ _ _ hba).trans (hrow k hkl))) (by simp;omega)
    have c2:wr.cell? ⟨g,k,none⟩=some (.int .i64 ((codeN l k:Nat):Int)):=by
     refine(Aa HGr).cell ?_ (by simp;omega);rw[(Aa HOW).cellAt k (by omega)];have hc:=Du l len;have hcl:k<(St l len).length:=by rw[hc];exact hkl
     have:=Yp l (j:=k) hkl len
     rw[if_pos hlt]at this;rw[<-this];simp[i64s,List.getD,hcl]
    have c3:wr.cell? ⟨mb+1,0,none⟩=some (.map (some mb)):=(Aa HGr).cell (Ac (Aa HV0)) (by simp);obtain⟨h0,h15⟩:=(Aa HG).ok k hkl;obtain⟨m,hm⟩:=WF h0;have HD:Hid (decD l (k+1)=if codeT l k= []then decD l k else (decD l k).put (kb (codeT l k)) (.lit (.int .i64 (k:Int)))):=Ab rfl
    by_cases hm0:m=0
    . subst hm0;have hct:codeT l k= []:=by unfold codeT;rw[hm];rfl
      rw[if_pos hct]at HD;rw[hm]at c1;clear c2 c3 hct;go_wp2;go_roundw
      case rel=>exact⟨k+1,n,by omega,by omega,by go_num,Ab (by rw[Aa HD];exact Aa HM),HGr⟩
      case measure=>simp[intOf];omega
    . obtain⟨k1,k2,k3⟩:=QM (Aa HG) hkl hm (by omega);rw[if_neg k2,k1]at HD;have HKey:=Ab (Pf k3);have hwf:(Lit.int .i64 (k:Int)).wf=true:=Wj (by omega);have HPE:=Ab (plainElem_int (H:=Unit) Tryz.underlying3 hwf);rw[hm]at c1 h15;have hmI:(0:Int)<(m:Int):=by omega
      generalize codeN l k=c at*;clear k1 k2 k3 hm h0;go_wp2;refine wp_region_held_drew (S:=fun w'=>w'.cell? ⟨mb+1,0,none⟩=some (.map (some mb))/\w'.cell? ⟨g,k,none⟩=some (.int .i64 (c:Int))) (by kernel_rfl) ⟨c3,c2⟩ (fun hHeld=> ?_);refine wpAnyH_take (i:=0) (oi:= {dst:=some 29,op:=.load 350 (.tmp 7),type:=350,pos:= "reader.go:134",after:= #[],guard:=none}) (v:=.map (some mb)) rfl (by kernel_rfl) (by kernel_rfl) (by kernel_rfl) (fun _ _ _ h=>h) (Or.inl ⟨by rfl,fun W hS=>by obtain⟨h1,h2⟩:=hS;go_simp⟩) hHeld ?_;simp only[Act.put,VA,VC,VD];refine wpAnyH_take (i:=1) (oi:= {dst:=some 30,op:=.move (.tmp 9),type:=3,pos:= "reader.go:134",after:= #[],guard:=none}) (v:=.int .i64 (m:Int)) rfl (by kernel_rfl) (by kernel_rfl) (by kernel_rfl) (fun _ _ _ h=>h) (Or.inl ⟨by rfl,fun W hS=>by obtain⟨h1,h2⟩:=hS;go_simp⟩) hHeld ?_;simp only[Act.put,VA,VC,VD];refine wpAnyH_take (i:=2) (oi:= {dst:=some 31,op:=.move (.tmp 5),type:=76,pos:= "reader.go:134",after:= #[],guard:=none}) (v:=.slice (some ⟨g,0,none⟩) len len) rfl (by kernel_rfl) (by kernel_rfl) (by kernel_rfl) (fun _ _ _ h=>h) (Or.inl ⟨by rfl,fun W hS=>by obtain⟨h1,h2⟩:=hS;go_simp⟩) hHeld ?_;simp only[Act.put,VA,VC,VD];refine wpAnyH_take (i:=3) (oi:= {dst:=some 32,op:=.move (.tmp 8),type:=3,pos:= "reader.go:134",after:= #[],guard:=none}) (v:=.int .i64 (k:Int)) rfl (by kernel_rfl) (by kernel_rfl) (by kernel_rfl) (fun _ _ _ h=>h) (Or.inl ⟨by rfl,fun W hS=>by obtain⟨h1,h2⟩:=hS;go_simp⟩) hHeld ?_;simp only[Act.put,VA,VC,VD];refine wpAnyH_take (i:=4) (oi:= {dst:=some 33,op:=.indexAddr 76 (.tmp 31) (.tmp 32),type:=0,pos:= "reader.go:134",after:= #[{on:=2,ground:=.data},{on:=3,ground:=.data}],guard:=none}) (v:=.pointer (some ⟨g,k,none⟩)) rfl (by kernel_rfl) (by kernel_rfl) (by kernel_rfl) (fun _ _ _ h=>h) (Or.inl ⟨by rfl,fun W hS=>by obtain⟨h1,h2⟩:=hS;go_simp⟩) hHeld ?_;simp only[Act.put,VA,VC,VD];refine wpAnyH_take (i:=5) (oi:= {dst:=some 34,op:=.load 3 (.tmp 33),type:=3,pos:= "reader.go:134",after:= #[{on:=4,ground:=.data}],guard:=none}) (v:=.int .i64 (c:Int)) rfl (by kernel_rfl) (by kernel_rfl) (by kernel_rfl) (fun _ _ _ h=>h) (Or.inl ⟨by rfl,fun W hS=>by obtain⟨h1,h2⟩:=hS;go_simp⟩) hHeld ?_;simp only[Act.put,VA,VC,VD];refine wpAnyH_take (i:=6) (oi:= {dst:=some 35,op:=.build 351 #[(0,.tmp 30),(1,.tmp 34)],type:=351,pos:= "reader.go:134",after:= #[{on:=1,ground:=.data},{on:=5,ground:=.data}],guard:=none}) (v:=.agg #[.int .i64 (m:Int),.int .i64 (c:Int)]) rfl (by kernel_rfl) (by kernel_rfl) (by kernel_rfl) (fun _ _ _ h=>h) (Or.inl ⟨by rfl,fun W hS=>by obtain⟨h1,h2⟩:=hS;go_simp⟩) hHeld ?_;simp only[Act.put,VA,VC,VD];refine wpAnyH_take (i:=7) (oi:= {dst:=some 36,op:=.move (.tmp 8),type:=3,pos:= "reader.go:134",after:= #[],guard:=none}) (v:=.int .i64 (k:Int)) rfl (by kernel_rfl) (by kernel_rfl) (by kernel_rfl) (fun _ _ _ h=>h) (Or.inl ⟨by rfl,fun W hS=>by obtain⟨h1,h2⟩:=hS;go_simp⟩) hHeld ?_;simp only[Act.put,VA,VC,VD];refine wpAnyH_ready (rs:= [8]) (by kernel_rfl) (by simp) (AllReadyH.cons rfl (fun K hK=> ?_) AllReadyH.nil)
      refine Tf rfl (.tmp 29) (.tmp 35) (.tmp 36) rfl mb n (decD l k) rfl (Aa HM) (by unfold maxLen;omega) (kw (m,c)) _ (kwl (m,c)) rfl rfl (Aa HKey) _ [] (Aa HPE) ?_;intro w3 hM3 hg3;have HM3:=Ab hM3;have HG3:=Ab (Aj (Aa HGr) (show wr.grownBy w3 (some mb) from ⟨hg3.os,hg3.tape,hg3.output,hg3.size,hg3.block⟩));have z1:w3.cell? ⟨mb+1,0,none⟩=some (.map (some mb)):=hg3.cell (show wr.cell? ⟨mb+1,0,none⟩=some (.map (some mb)) from c3) (by simp);have z2:w3.cell? ⟨g,k,none⟩=some (.int .i64 (c:Int)):=hg3.cell (show wr.cell? ⟨g,k,none⟩=some (.int .i64 (c:Int)) from c2) (by simp;omega);refine hK.out _ _ ⟨z1,z2⟩ (fun hHeld3=> ?_);clear hK K hM3 hg3;refine wpAnyH_done (by kernel_rfl) ?_ _;go_wp2;go_roundw
      case rel=>exact⟨k+1,n+1,by omega,by omega,by go_num,Ab (by rw[Aa HD];exact Aa HM3),HG3⟩
      case measure=>simp[intOf];omega
  . obtain rfl:len=k:=by omega
    have HF:Hid (DIs wr w.heap.size (mb+1) mb n b l/\Below w.heap.size w wr):=Ab (by
     have hb0:(w.alloc (.cells #[.pointer (some ⟨b,0,none⟩)] 280)).cell? ⟨w.heap.size,0,none⟩=some (.pointer (some ⟨b,0,none⟩)):=by rw[cell_of_row _ _ _ _ _ _ (heap_alloc_new w _)];rfl
     have hs:=(Aa HGr).size;refine⟨⟨?_, ?_,⟨by omega,by omega⟩, ?_⟩, ?_⟩
     . exact(Aa HGr).cell (((Aa HBW).cell (p:=⟨w.heap.size,0,none⟩) (by show w.heap.size<_;omega)).trans hb0) (by simp;omega)
     . exact(Aa HGr).cell (Ac (Aa HV0)) (by simp)
     . rw[Aa HL];exact Aa HM
     . have h1:Below w.heap.size w W2:=((Below.refl w.heap.size w).alloc (VB _) _).trans ((Aa HBW).mono (by omega));exact h1.grown (Aa HGr) (by omega) (fun j h=>by cases h;omega))
    have hs:=(Aa HGr).size;go_wp2;go_ret;exact⟨_,_,mb,n,rfl,VB _,by omega,by omega,by omega,(Aa HF).1,(Aa HF).2⟩
theorem IIs.more {No No':Nat->Prop}{B b:Nat}{w:World}{R f1 f2:Value}{u:US}(h:IIs No B w b R f1 f2 u)(hb:¬No' b)(hn:∀g,No' g->No g\/w.heap.size<=g):IIs No' B w b R f1 f2 u:=by
 obtain⟨ov,kv,h1,h2,h3,h4,h5,h6⟩:=h.ex;refine⟨h.base,hb,ov,kv,h1,h2,h3,h4, ?_, ?_⟩
 . intro g hg hN
   rcases hn g hN with e|e
   . exact h5 g hg e
   . have:=(h2.lt g hg).2;omega
 . intro g hg hN
   rcases hn g hN with e|e
   . exact h6 g hg e
   . have:=(h3.lt g hg).2;omega
def NI (No:Nat->Prop)(g0:Nat):Nat->Prop:=fun g=>No g\/g=g0
theorem IUp.less {No:Nat->Prop}{B b g0:Nat}{w w':World}{R f1 f2:Value}{u:US}(h:IUp (NI No g0) B w b R f1 f2 u w'):IUp No B w b R f1 f2 u w':=
 ⟨h.is.more (fun e=>h.is.no (.inl e)) (fun g hg=>.inl (.inl hg)),h.below,h.kp.weaken (fun g hg=>.inl hg)⟩
theorem Rd.more {w:World}{No:Nat->Prop}{a:Option Addr}{n g0:Nat}{bs:List Nat}(h:Rd w No a n bs):Rd w (NI No g0) a n bs:=⟨h.len,h.few,h.byt,h.val,fun b' o' e1 e2=>.inl (h.no b' o' e1 e2)⟩
theorem IIs.aside {No:Nat->Prop}{B b g0:Nat}{w:World}{R f1 f2:Value}{u:US}(h:IIs (NI No g0) B w b R f1 f2 u)(hB:B<=g0)(hl:g0<w.heap.size)(hN:¬No g0)(i:Nat)(v:Value):IIs (NI No g0) B (w.setCell ⟨g0,i,none⟩ v) b R f1 f2 u/\Below B w (w.setCell ⟨g0,i,none⟩ v)/\Kp No w (w.setCell ⟨g0,i,none⟩ v):=by
 obtain⟨ov,kv,h1,h2,h3,h4,h5,h6⟩:=h.ex;have hg:=Ad w g0 i v
 have hne:∀ {x:Value},(∀g,x.ownBlock=some g->¬NI No g0 g)->x.ownBlock=none\/x.ownBlock≠some g0:=fun {x} ho=>by
  cases hx:x.ownBlock with
  |none=>exact .inl rfl
  |some g=>
   refine .inr (fun e=>ho g hx (.inr ?_))
   cases e
   rfl
 have hb:b≠g0:=fun e=>h.no (.inr e)
 refine⟨⟨h.base,h.no,ov,kv,(hg.block b h.lt (by simp;exact fun e=>hb e)).trans h1,h2.kept hg (hne h5),h3.kept hg (hne h6),h4,h5,h6⟩, ?_, ?_⟩
 . exact(Below.refl B w).grown hg (by omega) (fun g e=>by cases e;exact hB)
 . exact(Kp.refl No w).grown hg (VB _) (fun g e=>by cases e;exact hN)
theorem SJ (w:World):(zeroValue 3).run Tryz.prog w=.ok (.int .i64 0) w:=by kernel_rfl
theorem RJ (row:List Bool)(p i:Nat)(h:p+i<row.length):(row.drop p).take (i+1)=(row.drop p).take i++ [row.getD (p+i) false]:=by
 rw[XM,XJ];simp[List.getD,h]
theorem Z6i (V x:Nat)(hV:V<32768)(hx:x<2):bits .or .i64 ((V:Int)*2) (x:Int)=((2*V+x:Nat):Int):=by
 have e:((V:Int)*2)=((2*V:Nat):Int):=by omega
 rw[e,Nn _ _ (by omega) (by omega)];have:=Nat.two_pow_add_eq_or_of_lt (i:=1) (b:=x) (by simpa using hx) V
 rw[Nat.pow_one]at this;rw[<-this]
def TF (No:Nat->Prop)(B:Nat)(W1:World)(b:Nat)(R f1 f2:Value)(u:US)(gw gr gm mb nn:Nat)(l:List Int)(i V:Nat)(w5:World):Prop:=
 w5.heap[gw]? =some (.cells #[.int .i64 (i:Int),.int .i64 (V:Int)] 351 (0,0))/\IUp No B W1 b R f1 f2 u w5/\IIs (NI No gw) B w5 b R f1 f2 u/\DIs w5 gr gm mb nn b l
theorem OA {b gw:Nat}{w wr w4:World}{x y:Value}(h4:Mx b wr w4)(h:Mx b w wr)(hne:b≠gw):Mx b w ((w4.setCell ⟨gw,0,none⟩ x).setCell ⟨gw,1,none⟩ y):=fun j hj=>by
 rw[World.cell?_setCell_other _ _ _ _ (by intro e;exact hne (by cases e;rfl)),World.cell?_setCell_other _ _ _ _ (by intro e;exact hne (by cases e;rfl))];exact(h4 j hj).trans (h j hj)
theorem BI (No:Nat->Prop)(B b:Nat)(a:Option Addr)(n cap:Nat)(bs:List Nat)(f1 f2:Value)(u:US)(w:World)(h:IIs No B w b (.slice a n cap) f1 f2 u)(hR:Rd w No a n bs)(hp:u.p<=8*n)(he:u.e=0)(gr gm mb nn:Nat)(l:List Int)(hD:DIs w gr gm mb nn b l)(hG:Good l)(hN:No gr/\No gm/\No mb)(hNo:∀g,w.heap.size<=g->¬No g)(k:Nat)(v:US)(hr:Hid (uplace l (rowB bs n) u=(k,v))):
 Calls Tryz.prog 281 #[.pointer (some ⟨gr,0,none⟩),.pointer (some ⟨gm,0,none⟩)] w fun e w'=>GotK No B w b (.slice a n cap) f1 f2 (.int .i64 (k:Int)) v e w':=by
 have hrl:=Af bs n;have hfew:=hR.few;obtain⟨NX,hNX⟩:∃NX,Ej l (rowB bs n) u.p 15 1=NX:=⟨_,rfl⟩
 have hkv:k=NX.1/\v= {u with e:=NX.2.2,p:=u.p+NX.2.1}:=by
  have:=Aa hr
  unfold uplace Lt at this;rw[if_pos he,hNX]at this;exact⟨(VN this).1.symm,(VN this).2.symm⟩
 have H:=Ab h;have HR:=Ab hR;have HD:=Ab hD;have HG:=Ab hG;have HNX:=Ab hNX;have HKV:=Ab hkv;have HNo:=Ab hNo;obtain⟨hNr,hNm,hNb⟩:=hN;have HN3:=Ab (⟨hNr,hNm,hNb⟩:No gr/\No gm/\No mb);have hbl:=h.lt;have hgrl:=hD.lt;have hmbl:=hD.is.lt;obtain⟨p,hpp⟩:∃p,u.p=p:=⟨_,rfl⟩
 rw[hpp]at hp;have HPP:=Ab hpp;clear h hR hD hG hNX hkv hr hNo hNr hNm hNb hpp;go_enter Tryz.func281,Tryz.ntmps281
 go_wp2;obtain⟨gw,hgw⟩:∃gw,w.heap.size=gw:=⟨_,rfl⟩
 obtain⟨W1,hW1⟩:∃W1,w.alloc (.cells #[.int .i64 0,.int .i64 0] 351)=W1:=⟨_,rfl⟩
 have B1:Hid (Below gw w W1):=Ab (by rw[<-hW1,<-hgw];exact(Below.refl _ _).alloc (VB _) _);have hz1:W1.heap.size=gw+1:=by rw[<-hW1,<-hgw];simp
 have HW0:Hid (W1.heap[gw]? =some (.cells #[.int .i64 0,.int .i64 0] 351 (0,0))):=Ab (by rw[<-hW1,<-hgw];exact heap_alloc_new _ _)
 have I1:Hid (IIs (NI No gw) B W1 b (.slice a n cap) f1 f2 u):=Ab (by
  rw[<-hW1];exact((Aa H).more (No':=NI No gw) (fun e=>by rcases e with e|e;exact(Aa H).no e;omega) (fun g hg=>by rcases hg with e|e;exact .inl e;exact .inr (by omega))).grown (World.grownBy_alloc w _ none))
 have R1:Hid (Rd W1 No a n bs):=Ab ((Aa HR).keep (w':=W1) (by omega) (fun g hg _=>(Aa B1).block g (by omega)));have hNgw:¬No gw:=Aa HNo gw (by omega);have D1:Hid (DIs W1 gr gm mb nn b l):=Ab ((Aa HD).keep (by omega) ((Aa B1).block gr (by omega)) ((Aa B1).block gm (by omega)) ((Aa B1).block mb (by omega)));have hBg:B<=gw:=by have:=(Aa H).base;omega
 have hbgw:b≠gw:=by omega
 have HKB1:Hid (Mx b w W1):=Ab (fun j _=>by rw[<-hW1];exact World.cell?_alloc_past _ _ _ hbl);have BL1:Hid (Bl No B w W1):=Ab ⟨(Aa B1).mono hBg,fun g hg _=>(Aa B1).block g (by omega)⟩;rw[hW1];rw[hgw];clear hW1 HR HD;go_loopw [7] (fun v7 wr=>∃i:Nat,i<=15/\v7=.int .i64 (i:Int)/\Hid (wr.heap[gw]? =some (.cells #[.int .i64 (i:Int),.int .i64 ((vH (((rowB bs n).drop p).take i):Nat):Int)] 351 (0,0)))/\Hid (IUp No B W1 b (.slice a n cap) f1 f2 {u with p:=p+i} wr)/\Hid (IIs (NI No gw) B wr b (.slice a n cap) f1 f2 {u with p:=p+i})/\Hid (p+i<=8*n)/\Hid (Ej l (rowB bs n) p (15-i) (i+1)=NX)/\Hid (Mx b w wr)) (fun v7 _=>15-(intOf v7).toNat)
 case atStart=>exact⟨0,VH _,rfl,HW0,Ab (IUp.refl (by rw[show ({u with p:=p+0}:US)=u by rw[<-Aa HPP];rfl];exact(Aa I1).more (fun e=>(Aa I1).no (.inl e)) (fun g hg=>.inl (.inl hg)))),Ab (by rw[show ({u with p:=p+0}:US)=u by rw[<-Aa HPP];rfl];exact Aa I1),Ab hp,Ab (by rw[<-Aa HPP];exact Aa HNX),HKB1⟩
 case round=>
  obtain⟨i,hi,rfl,hW,hU,hJ,hpi,hX,hKB⟩:=hrel;have hzr:=(Aa hU).below.size
  by_cases hlt:i<15
  . have hpi2:=Aa hpi;have hRr:Rd wr (NI No gw) a n bs:=((Aa R1).keep hzr (Aa hU).kp).more;have hDr:DIs wr gr gm mb nn b l:=(Aa D1).keep hzr ((Aa hU).kp gr (by omega) (Aa HN3).1) ((Aa hU).kp gm (by omega) (Aa HN3).2.1) ((Aa hU).kp mb (by omega) (Aa HN3).2.2);have HBT:=Ab (fun q=>BO (NI No gw) B b a n cap bs f1 f2 {u with p:=p+i} (wr.drewN q) ((IUp.refl (Aa hJ)).drewN q).is (hRr.keep (VB _) (fun _ _ _=>rfl)) hpi2 he);have HDD:=Ab (fun q=>(IUp.refl (Aa hJ)).drewN q);have HDr:=Ab hDr;have s2:=hDr.r;have s0:wr.cell? ⟨gw,0,none⟩=some (.int .i64 (i:Int)):=Ac (Aa hW);obtain⟨V,hV⟩:∃V,vH (((rowB bs n).drop p).take i)=V:=⟨_,rfl⟩
    have s1:wr.cell? ⟨gw,1,none⟩=some (.int .i64 (V:Int)):=by rw[<-hV];exact Ac (Aa hW)
    have hVb:V<32768:=by
     have h1:=JZ (((rowB bs n).drop p).take i);rw[hV,VL]at h1;exact VG h1 (VU (VO (by decide) (VU (ZP _ _) (show i<=15 by omega))) (by decide))
    have HV:=Ab hV;have hshl:IntKind.i64.wrap ((V:Int)*2)=(V:Int)*2:=by simp[IntKind.wrap,IntKind.signed,IntKind.bits];omega
    have hadd:IntKind.i64.wrap ((i:Int)+1)=(i:Int)+1:=by simp[IntKind.wrap,IntKind.signed,IntKind.bits];omega
    have hiI:(i:Int)<15:=by omega
    have hXs:=Aa hX;rw[show 15-i=(15-(i+1))+1 by omega,Ej,hrl]at hXs;clear hV hDr hRr
    by_cases hend:p+i=8*n
    . rw[if_pos (by omega)]at hXs;have HF:Hid (v.e=7):=Ab (by rw[(Aa HKV).2,<-hXs])
      have HP:Hid (∀q,Calls Tryz.prog 248 #[.pointer (some ⟨b,0,none⟩)] (wr.drewN q) fun e w'=>e=Flt 7/\Bl No B w w'):=Ab (fun q=>(Aa HBT q).mono (fun e w' hg=>by
       rw[if_pos hend]at hg
       rcases hg with ⟨e0,_⟩|⟨_,e1,e2⟩
       . exact absurd (show (7:Int)=0 from e0) (by decide)
       . exact⟨e1,Bl.trans (Aa BL1) (((Aa hU).bl.drewN q).trans (e2.weaken (fun _ h=>.inl h)))⟩))
      clear hXs HBT;go_wp2;refine wp_region_held_drew (S:=fun w'=>w'.cell? ⟨gw,0,none⟩=some (.int .i64 (i:Int))/\w'.cell? ⟨gw,1,none⟩=some (.int .i64 (V:Int))/\w'.cell? ⟨gr,0,none⟩=some (.pointer (some ⟨b,0,none⟩))) (by kernel_rfl) ⟨s0,s1,s2⟩ (fun hHeld=> ?_);refine wpAnyH_take (i:=0) (oi:= {dst:=some 9,op:=.indexAddr 351 (.tmp 3) (.const (.int .i64 0)),type:=0,pos:= "reader.go:140",after:= #[],guard:=none}) (v:=.pointer (some ⟨gw,0,none⟩)) rfl (by kernel_rfl) (by kernel_rfl) (by kernel_rfl) (fun _ _ _ h=>h) (Or.inl ⟨by rfl,fun W hS=>by obtain⟨h1,h2,h3⟩:=hS;go_simp⟩) hHeld ?_;simp only[Act.put,VA,VC,VD];refine wpAnyH_take (i:=1) (oi:= {dst:=some 10,op:=.load 3 (.tmp 9),type:=3,pos:= "reader.go:140",after:= #[{on:=0,ground:=.data}],guard:=none}) (v:=.int .i64 (i:Int)) rfl (by kernel_rfl) (by kernel_rfl) (by kernel_rfl) (fun _ _ _ h=>h) (Or.inl ⟨by rfl,fun W hS=>by obtain⟨h1,h2,h3⟩:=hS;go_simp⟩) hHeld ?_;simp only[Act.put,VA,VC,VD];refine wpAnyH_take (i:=2) (oi:= {dst:=some 11,op:=.binOp .add 3 (.tmp 10) (.const (.int .i64 1)) 3,type:=3,pos:= "reader.go:140",after:= #[{on:=1,ground:=.data}],guard:=none}) (v:=.int .i64 ((i:Int)+1)) rfl (by kernel_rfl) (by kernel_rfl) (by kernel_rfl) (fun _ _ _ h=>h) (Or.inl ⟨by rfl,fun W hS=>by obtain⟨h1,h2,h3⟩:=hS;go_simp⟩) hHeld ?_;simp only[Act.put,VA,VC,VD];refine wpAnyH_take (i:=3) (oi:= {dst:=some 12,op:=.indexAddr 351 (.tmp 3) (.const (.int .i64 1)),type:=0,pos:= "reader.go:140",after:= #[],guard:=none}) (v:=.pointer (some ⟨gw,1,none⟩)) rfl (by kernel_rfl) (by kernel_rfl) (by kernel_rfl) (fun _ _ _ h=>h) (Or.inl ⟨by rfl,fun W hS=>by obtain⟨h1,h2,h3⟩:=hS;go_simp⟩) hHeld ?_;simp only[Act.put,VA,VC,VD];refine wpAnyH_take (i:=4) (oi:= {dst:=some 13,op:=.load 3 (.tmp 12),type:=3,pos:= "reader.go:140",after:= #[{on:=3,ground:=.data}],guard:=none}) (v:=.int .i64 (V:Int)) rfl (by kernel_rfl) (by kernel_rfl) (by kernel_rfl) (fun _ _ _ h=>h) (Or.inl ⟨by rfl,fun W hS=>by obtain⟨h1,h2,h3⟩:=hS;go_simp⟩) hHeld ?_;simp only[Act.put,VA,VC,VD];refine wpAnyH_take (i:=5) (oi:= {dst:=some 14,op:=.binOp .shl 3 (.tmp 13) (.const (.int .u64 1)) 66,type:=3,pos:= "reader.go:140",after:= #[{on:=4,ground:=.data}],guard:=none}) (v:=.int .i64 ((V:Int)*2)) rfl (by kernel_rfl) (by kernel_rfl) (by kernel_rfl) (fun _ _ _ h=>h) (Or.inl ⟨by rfl,fun W hS=>by obtain⟨h1,h2,h3⟩:=hS;go_simp⟩) hHeld ?_;simp only[Act.put,VA,VC,VD];refine wpAnyH_take (i:=6) (oi:= {dst:=some 15,op:=.load 280 (.tmp 0),type:=280,pos:= "reader.go:140",after:= #[],guard:=none}) (v:=.pointer (some ⟨b,0,none⟩)) rfl (by kernel_rfl) (by kernel_rfl) (by kernel_rfl) (fun _ _ _ h=>h) (Or.inl ⟨by rfl,fun W hS=>by obtain⟨h1,h2,h3⟩:=hS;go_simp⟩) hHeld ?_;simp only[Act.put,VA,VC,VD];refine wpAnyH_ready (rs:= [7]) (by kernel_rfl) (by simp) (AllReadyH.cons rfl (fun K hK=> ?_) AllReadyH.nil);go_simp
      refine(Aa HP 1).mono ?_;rintro e w4 ⟨rfl,hB4⟩;exact And.intro rfl (Or.inr ⟨by rw[Aa HF];decide,by rw[Aa HF],hB4⟩)
    . rw[if_neg (by omega)]at hXs
      have hxx:∃x:Nat,(if Iq bs (p+i)then (1:Int)else 0)=(x:Int)/\x<2/\x=(if (rowB bs n).getD (p+i) false then 1 else 0):=by
       rw[Hf bs n (p+i) (by omega)]
       cases Iq bs (p+i)
       . exact⟨0,rfl,by decide,rfl⟩
       . exact⟨1,rfl,by decide,rfl⟩
      obtain⟨x,hx1,hx2,hx3⟩:=hxx
      have HP:Hid (∀q,Calls Tryz.prog 248 #[.pointer (some ⟨b,0,none⟩)] (wr.drewN q) fun e w'=>e=.returned (.int .i64 (x:Int))/\IUp (NI No gw) B wr b (.slice a n cap) f1 f2 {u with p:=p+(i+1)} w'/\Mx b wr w'):=Ab (fun q=>(Aa HBT q).mono (fun e w' hg=>by
       rw[if_neg hend]at hg
       rcases hg with ⟨_,e1,e2,e3⟩|⟨h1,_⟩
       . exact⟨by rw[e1];exact congrArg (fun z=>Ending.returned (Value.int .i64 z)) hx1,(Aa HDD q).trans e2,e3⟩
       . exact absurd he h1))
      obtain⟨s,hs⟩:∃s,((rowB bs n).drop p).take (i+1)=s:=⟨_,rfl⟩
      have hsv:vH s=2*V+x:=by
       rw[<-hs,RJ _ _ _ (by rw[hrl];omega),Q8,Aa HV,hx3]
      have hsl:s.length=i+1:=by rw[<-hs,VL,VQ,hrl];omega
      have hne:s≠ []:=fun e=>by rw[e]at hsl;simp at hsl
      have HKY:Hid (keyOf Tryz.prog 351 (.agg #[.int .i64 ((i+1:Nat):Int),.int .i64 ((2*V+x:Nat):Int)])=some (kb s)):=Ab (by
       have:=Pf (okb (s:=s) (by omega))
       rw[kw,hsl,hsv]at this;rw[kb,hsl,hsv];exact this)
      have HHs:Hid (Maps.has (decD l l.length) (kb s)=decide (∃q,q<l.length/\codeT l q=s)):=Ab (QC l (Sq (Aa HG)) s hne (by omega) _);have HAt:Hid (∀q,q<l.length->codeT l q=s->(decD l l.length).atKey (kb s) (.lit (.int .i64 0))=.lit (.int .i64 (q:Int))):=Ab (fun q hq e=>QD l (Sq (Aa HG)) s hne (by omega) (Sr l (Aa HG) _ hne) _ l.length (VB _) q hq e);rw[hs]at hXs;have HXS:=Ab hXs;have HS:=Ab hs;have HSV:=Ab hsv;have hor:=Z6i V x hVb hx2
      have HGW:Hid (∀w4,IUp (NI No gw) B wr b (.slice a n cap) f1 f2 {u with p:=p+(i+1)} w4->w4.heap[gw]? =some (.cells #[.int .i64 (i:Int),.int .i64 (V:Int)] 351 (0,0))):=Ab (fun w4 h4=>by
       have:=(h4.kp gw (by omega) (.inr rfl)).trans (Aa hW)
       rw[Aa HV]at this;exact this)
      have HGR:Hid (∀w4,IUp (NI No gw) B wr b (.slice a n cap) f1 f2 {u with p:=p+(i+1)} w4->DIs w4 gr gm mb nn b l):=Ab (fun w4 h4=>(Aa HDr).keep h4.below.size (h4.kp gr (by omega) (.inl (Aa HN3).1)) (h4.kp gm (by omega) (.inl (Aa HN3).2.1)) (h4.kp mb (by omega) (.inl (Aa HN3).2.2)))
      have HT:Hid (∀w4,IUp (NI No gw) B wr b (.slice a n cap) f1 f2 {u with p:=p+(i+1)} w4->((w4.setCell ⟨gw,0,none⟩ (.int .i64 ((i:Int)+1))).setCell ⟨gw,1,none⟩ (.int .i64 (2*(V:Int)+(x:Int)))).cell? ⟨gw,0,none⟩=some (.int .i64 ((i:Int)+1))/\((w4.setCell ⟨gw,0,none⟩ (.int .i64 ((i:Int)+1))).setCell ⟨gw,1,none⟩ (.int .i64 (2*(V:Int)+(x:Int)))).cell? ⟨gw,1,none⟩=some (.int .i64 (2*(V:Int)+(x:Int)))/\TF No B W1 b (.slice a n cap) f1 f2 {u with p:=p+(i+1)} gw gr gm mb nn l (i+1) (2*V+x) ((w4.setCell ⟨gw,0,none⟩ (.int .i64 ((i:Int)+1))).setCell ⟨gw,1,none⟩ (.int .i64 (2*(V:Int)+(x:Int))))):=Ab (fun w4 h4=>by
       have g4:=Aa HGW w4 h4;have hl4:=h4.below.size;have g5:=heap_setCell_same w4 gw 0 _ _ (.int .i64 ((i:Int)+1)) g4;have g6:=heap_setCell_same _ gw 1 _ _ (.int .i64 (2*(V:Int)+(x:Int))) g5;have q6:((w4.setCell ⟨gw,0,none⟩ (.int .i64 ((i:Int)+1))).setCell ⟨gw,1,none⟩ (.int .i64 (2*(V:Int)+(x:Int)))).heap[gw]? =some (.cells #[.int .i64 ((i:Int)+1),.int .i64 (2*(V:Int)+(x:Int))] 351 (0,0)):=g6;obtain⟨a1,a2,a3⟩:=h4.is.aside hBg (by omega) hNgw 0 (.int .i64 ((i:Int)+1));obtain⟨b1,b2,b3⟩:=a1.aside hBg (by have:=a2.size;omega) hNgw 1 (.int .i64 (2*(V:Int)+(x:Int)));have hk:Kp No w4 ((w4.setCell ⟨gw,0,none⟩ (.int .i64 ((i:Int)+1))).setCell ⟨gw,1,none⟩ (.int .i64 (2*(V:Int)+(x:Int)))):=a3.trans b3 a2.size;have hu4:=(Aa hU).trans h4.less;have hsz:=(a2.trans b2).size;refine⟨Ac q6,Ac q6,by rw[q6];push_cast;rfl,⟨b1.more (fun e=>b1.no (.inl e)) (fun g hg=>.inl (.inl hg)),hu4.below.trans (a2.trans b2),hu4.kp.trans hk hu4.below.size⟩,b1, ?_⟩;exact(Aa HGR w4 h4).keep hsz (hk gr (by omega) (Aa HN3).1) (hk gm (by omega) (Aa HN3).2.1) (hk mb (by omega) (Aa HN3).2.2))
      have HSome:Hid (∀q,Ok l s=some q->Maps.has (decD l l.length) (kb s)=true/\(decD l l.length).atKey (kb s) (.lit (.int .i64 0))=.lit (.int .i64 (q:Int))):=Ab (fun q hf=>by
       have h1:codeT l q=s:=by simpa using List.find?_some hf
       have h2:q<l.length:=by simpa using List.mem_of_find?_eq_some hf
       exact⟨by rw[Aa HHs];exact decide_eq_true ⟨q,h2,h1⟩,Aa HAt q h2 h1⟩)
      have HV5:Hid (∀q w5,Ok l s=some q->IUp No B W1 b (.slice a n cap) f1 f2 {u with p:=p+(i+1)} w5->Mx b w w5->GotK No B w b (.slice a n cap) f1 f2 (.int .i64 (k:Int)) v (.returned (.int .i64 (q:Int))) w5):=Ab (fun q w5 hf h5 hkb5=>by
       have hx:=Aa HXS;rw[hf]at hx;have hx:(q,i+1,(0:Int))=NX:=hx;obtain⟨e1,e2⟩:=Aa HKV;rw[<-hx]at e1 e2;have e3:v= {u with p:=p+(i+1)}:=by rw[e2,Aa HPP,<-he]
       refine .inl ⟨by rw[e3];exact he,by rw[e1], ?_⟩;rw[e3];exact⟨⟨h5.is,((Aa B1).mono hBg).trans h5.below,fun g hg hN=>(h5.kp g (by omega) hN).trans ((Aa B1).block g (by omega))⟩,hkb5⟩)
      have HN5:Hid (Ok l s=none->Maps.has (decD l l.length) (kb s)=false/\Ej l (rowB bs n) p (15-(i+1)) (i+1+1)=NX):=Ab (fun hf=>by
       have hx:=Aa HXS;rw[hf]at hx;refine⟨?_,hx⟩;rw[Aa HHs];refine decide_eq_false ?_;rintro ⟨q,h1,h2⟩;have:=List.find?_eq_none.1 hf q (by simpa using h1)
       simp[h2]at this)
      clear hXs HBT hs hsv hne hsl hx1 hx3 HXS HHs HAt;have HKY2:=Aa HKY;push_cast at HKY2
      clear HKY;have HKY:=Ab HKY2;clear HKY2;go_wp2;go_region_with (go_at_call 248;refine(Aa HP _).mono ?_;rintro e w4 ⟨rfl,hI4,hKB4⟩;have HKB4:=Ab hKB4;have hg4:=Aa HGW _ hI4;have c0:w4.cell? ⟨gw,0,none⟩=some (.int .i64 (i:Int)):=Ac hg4;have c1:w4.cell? ⟨gw,1,none⟩=some (.int .i64 (V:Int)):=Ac hg4;have c2:=(Aa HGR _ hI4).r;have fr0:w4.frozen? ⟨gw,0,none⟩=false:=frozen_of_row w4 gw 0 _ _ hg4;have fr1:w4.frozen? ⟨gw,1,none⟩=false:=frozen_of_row w4 gw 1 _ _ hg4;have HI4:=Ab hI4;have HG4:=Ab hg4;clear hI4 hg4 hKB4)
      all_goals
       obtain⟨w5,hw5⟩:∃w5,(w4.setCell ⟨gw,0,none⟩ (.int .i64 ((i:Int)+1))).setCell ⟨gw,1,none⟩ (.int .i64 (2*(V:Int)+(x:Int)))=w5:=⟨_,rfl⟩
       have T5:=Aa HT w4 (Aa HI4);rw[hw5]at T5;rw[hw5];obtain⟨d0,d1,T5⟩:=T5;have d2:=T5.2.2.2.m;have HKB5:Hid (Mx b w w5):=Ab (by rw[<-hw5];exact OA (Aa HKB4) (Aa hKB) hbgw);have HT5:=Ab T5;clear hw5 T5 c0 c1 c2 fr0 fr1 s0 s1 s2 HI4 HG4 HGW HGR HT hor hshl hadd;go_wp2_with (at_lookup;refine wpList_lookup_own_ok_int _ rfl _ _ 350 rfl 351 3 .i64 Z80 Tryz.underlying350 Tryz.underlying3 (SJ _) mb nn (decD l l.length) rfl (Aa HT5).2.2.2.is _ _ rfl (Aa HKY) ?_)
       intro c hat hwc;have HAT:=Ab hat;clear hat hwc
       cases hf:Ok l s with
       |some q=>
        obtain⟨hh1,hh2⟩:=Aa HSome q hf
        have hc:c=(q:Int):=by
         have:=(Aa HAT).symm.trans hh2
         simpa using this
        have HRes:=Ab (Aa HV5 q w5 hf (Aa HT5).2.1 (Aa HKB5));rw[hh1];subst hc;clear hh1 hh2 HAT HSome HV5 HN5 hf HKY;go_wp2;go_ret;exact Aa HRes
       |none=>
        obtain⟨hh1,hh2⟩:=Aa HN5 hf;have HXN:=Ab hh2;rw[hh1];clear hh1 hh2 HAT HSome HV5 HN5 hf HKY;go_wp2;go_round
        case rel=>exact⟨i+1,by omega,by go_num,Ab (by rw[Aa HS,Aa HSV];exact(Aa HT5).1),Ab (Aa HT5).2.1,Ab (Aa HT5).2.2.1,Ab (by omega),HXN,HKB5⟩
        case measure=>simp[intOf];omega
  . obtain rfl:i=15:=by omega
    have hX2:((0,0,8):Nat×Nat×Int)=NX:=Aa hX;have HF:Hid (v.e=8):=Ab (by rw[(Aa HKV).2,<-hX2]);have HBL:Hid (Bl No B w wr):=Ab ((Aa BL1).trans (Aa hU).bl);clear hX2;go_wp2;exact And.intro rfl (Or.inr ⟨by rw[Aa HF];decide,by rw[Aa HF],Aa HBL⟩)
theorem LK (No:Nat->Prop)(B b:Nat)(a:Option Addr)(n cap:Nat)(bs:List Nat)(f1 f2:Value)(u:US)(w:World)(h:IIs No B w b (.slice a n cap) f1 f2 u)(hR:Rd w No a n bs)(hp:u.p<=8*n)(he:u.e=0)(gr gm mb nn:Nat)(l:List Int)(hD:DIs w gr gm mb nn b l)(hG:Good l)(hN:No gr/\No gm/\No mb)(hNo:∀g,w.heap.size<=g->¬No g)(k:Nat)(v:US)(hr:Hid (uplace l (rowB bs n) u=(k,v))):
 Calls Tryz.prog 281 #[.pointer (some ⟨gr,0,none⟩),.pointer (some ⟨gm,0,none⟩)] w fun e w'=>Got No B w b (.slice a n cap) f1 f2 (.int .i64 (k:Int)) v e w':=(BI No B b a n cap bs f1 f2 u w h hR hp he gr gm mb nn l hD hG hN hNo k v hr).mono (fun _ _ h=>h.got)
end Go.Proofs.YtleocpdblhbimaaGreatDoor
namespace Go.Proofs.YtleocpdblhbimaaGreatDoor
open Go.RowKit
set_option linter.unusedVariables false
set_option maxRecDepth 100000
theorem Z5o (v:Value)(w:World):(Instr.typeAssert (.iface 310 v) 20 310 true).run Tryz.prog w=.ok (.tuple #[v,.bool true]) w:=by kernel_rfl
theorem Z5p (w:World):(Instr.typeAssert .nilIface 20 310 true).run Tryz.prog w=.ok (.tuple #[.agg #[.int .i64 0],.bool false]) w:=by kernel_rfl
theorem AC (p:Addr)(x y:Int)(older:List PanicEntry)(w:World)(hc:w.cell? p=some (.int .i64 y))(hz:w.frozen? p=false)(hk:p.block<w.heap.size):
 CallsD Tryz.prog 229 #[.pointer (some p)] (.panicking ({v:=.iface 310 (.agg #[.int .i64 x]),recovered:=false}::older)) w fun e u' w'=>
  e=.returned (.tuple #[])/\u'=.panicking ({v:=.iface 310 (.agg #[.int .i64 x]),recovered:=true}::older)/\w'=(w.alloc (.cells #[.int .i64 x] 310)).setCell p (.int .i64 x):=by
 refine callsD_of_wpS Tryz.func229 rfl fun c₀ cs hu=> ?_
 apply wpS_seq
 apply wpS_region
 simp[wpOpsS,go_sem,recoverD,hu,Tryz.ntmps229,Exit.thenS]
 apply wpS_seq
 apply wpS_region
 simp[wpOpsS,go_sem,Z5o,Exit.thenS,Array.replicate]
 apply wpS_seq
 apply wpS_region
 simp[wpOpsS,go_sem,Exit.thenS]
 refine wpS_cond (t:=true) (by simp[Act.eval]) ?_;simp only[if_true];have hc':=(World.cell?_alloc_lt w (.cells #[Value.int .i64 x] 310) p hk).trans hc;have hz':=(frozen?_alloc_cells w #[Value.int .i64 x] 310 p).trans hz;apply wpS_region
 simp[wpOpsS,go_sem,hc',hz',bodyPostS,results,Tryz.results229]
theorem JD (p:Addr)(w:World):
 CallsD Tryz.prog 229 #[.pointer (some p)] .returning w fun e u' w'=>
  e=.returned (.tuple #[])/\u'=.returning/\w'=w.alloc (.cells #[.int .i64 0] 310):=by
 refine callsD_of_wpS Tryz.func229 rfl fun c₀ cs hu=> ?_
 apply wpS_seq
 apply wpS_region
 simp[wpOpsS,go_sem,recoverD,hu,Tryz.ntmps229,Exit.thenS]
 apply wpS_seq
 apply wpS_region
 simp[wpOpsS,go_sem,Z5p,Exit.thenS,Array.replicate]
 apply wpS_seq
 apply wpS_region
 simp[wpOpsS,go_sem,Exit.thenS]
 refine wpS_cond (t:=false) (by simp[Act.eval]) ?_;simp only[Bool.false_eq_true,if_false];apply wpS_seq
 apply wpS_region
 simp[wpOpsS,go_sem,Exit.thenS]
 refine wpS_cond (t:=false) (by simp[Act.eval]) ?_;simp only[Bool.false_eq_true,if_false];refine wpS_of_wp (wp_skip ?_)
 cases c₀
 simp_all [bodyPostS,results,Tryz.results229]
theorem JC (kf:Nat)(br:Array Value)(Q:Nat->World->Prop)(w:World)(hf:∀(args:Array Value) (w:World),(callFunc kf args).run Tryz.prog w=.ok (.enter kf args) w)
 (hr:Calls Tryz.prog kf br (w.alloc (.cells #[.int .i64 0] 24)) fun e w'=>(∃x,Q x w'/\((x=0/\e=.returned (.tuple #[]))\/ (x≠0/\e=Flt x)))/\w'.heap[w.heap.size]? =some (.cells #[.int .i64 0] 24 (0,0))):
 Calls Tryz.prog 204 #[.func (.func kf) br #[]] w fun e w''=>∃x w',Q x w'/\e=.returned (.int .i64 (x:Int))/\w'.heap.size<=w''.heap.size/\(∀j,j<w'.heap.size->j≠w.heap.size->(w''.heap[j]? =w'.heap[j]?))/\∀B,B<=w.heap.size->Below B w' w'':=by
 have hmf:∀(fn:Fn) (first cap:Array Value) (w:World),(Instr.makeFunc fn first cap).run Tryz.prog w=.ok (.func fn first cap) w:=fun _ _ _ _=>rfl
 go_enter_defers Tryz.func204,Tryz.ntmps204
 go_wp2;refine hr.mono ?_;rintro e w' ⟨⟨x,hq,hx⟩,hb⟩;have hlt:w.heap.size<w'.heap.size:=(VK.1 hb).1;have hcl:w'.cell? ⟨w.heap.size,0,none⟩=some (.int .i64 0):=by simp[World.cell?,hb]
 have hzl:w'.frozen? ⟨w.heap.size,0,none⟩=false:=by simp[World.frozen?,hb]
 rcases hx with ⟨rfl,rfl⟩|⟨hx,rfl⟩
 . go_wp2;refine leaves_cons (f:=229) (args:= #[.pointer (some ⟨w.heap.size,0,none⟩)]) (by simp) (by simp[go_sem]) ?_;refine(JD ⟨w.heap.size,0,none⟩ _).mono ?_;rintro e u' w'' ⟨rfl,rfl,rfl⟩;have c1:((w'.setCell ⟨w.heap.size,0,none⟩ (.int .i64 0)).alloc (.cells #[.int .i64 0] 310)).cell? ⟨w.heap.size,0,none⟩=some (.int .i64 0):=(World.cell?_alloc_lt _ _ _ (by simpa using hlt)).trans (World.cell?_setCell_same _ _ _ hcl);simp[Leaves,settle,results,Tryz.results204,go_sem,c1]
   refine⟨0,w',hq,rfl,by omega,fun j hj hn=> ?_,fun B hB=> ?_⟩
   rotate_left
   . have hb1:=(Below.refl B w').grown (Ad w' w.heap.size 0 (.int .i64 0)) (by omega) (fun g e=>by cases e;exact hB);exact hb1.alloc (by simp;omega) _
   exact(Below.heap_alloc _ _ j (by simpa using hj)).trans (Below.heap_setCell _ _ _ j hn)
 . go_wp2;refine leaves_cons (f:=229) (args:= #[.pointer (some ⟨w.heap.size,0,none⟩)]) (by simp) (by simp[go_sem]) ?_;refine(AC ⟨w.heap.size,0,none⟩ x 0 [] _ hcl hzl hlt).mono ?_;rintro e u' w'' ⟨rfl,rfl,rfl⟩;have c1:((w'.alloc (.cells #[.int .i64 (x:Int)] 310)).setCell ⟨w.heap.size,0,none⟩ (.int .i64 (x:Int))).cell? ⟨w.heap.size,0,none⟩=some (.int .i64 (x:Int)):=World.cell?_setCell_same _ _ _ ((World.cell?_alloc_lt _ _ _ hlt).trans hcl);have hw:∀j,j<w'.heap.size->¬j=w.heap.size->((w'.alloc (.cells #[.int .i64 (x:Int)] 310)).setCell ⟨w.heap.size,0,none⟩ (.int .i64 (x:Int))).heap[j]? =w'.heap[j]? :=fun j hj hn=>(Below.heap_setCell _ _ _ j hn).trans (Below.heap_alloc _ _ j hj)
   have hs:((w'.alloc (.cells #[.int .i64 (x:Int)] 310)).setCell ⟨w.heap.size,0,none⟩ (.int .i64 (x:Int))).heap.size=w'.heap.size+1:=by simp
   have hbl:∀B,B<=w.heap.size->Below B w' ((w'.alloc (.cells #[.int .i64 (x:Int)] 310)).setCell ⟨w.heap.size,0,none⟩ (.int .i64 (x:Int))):=fun B hB=>
    ((Below.refl B w').alloc (by omega) _).grown (Ad _ w.heap.size 0 _) (by simp;omega) (fun g e=>by cases e;exact hB)
   generalize (w'.alloc (.cells #[.int .i64 (x:Int)] 310)).setCell ⟨w.heap.size,0,none⟩ (.int .i64 (x:Int))=W at c1 hw hs hbl ⊢;simp[Leaves,settle,results,Tryz.results204,go_sem,c1]
   exact⟨x,w',hq,rfl,by omega,hw,hbl⟩
theorem IIs.rows {No:Nat->Prop}{B b:Nat}{w:World}{R f1 f2:Value}{u:US}(h:IIs No B w b R f1 f2 u):∃ov kv,w.cell? ⟨b,2,none⟩=some ov/\w.cell? ⟨b,3,none⟩=some kv/\w.heap[b]? =some (.cells (icells R f1 f2 u ov kv) 284 (0,0))/\w.ownsRow (b+1) 5 1 ov u.out.length (u8s u.out)/\w.ownsRow (b+1) 3 1 kv u.ks.length (i64s u.ks)/\(ov.ownBlock=none\/ov.ownBlock≠kv.ownBlock)/\(∀g,ov.ownBlock=some g->¬No g)/\(∀g,kv.ownBlock=some g->¬No g):=by
 obtain⟨ov,kv,h1,h2⟩:=h.ex;exact⟨ov,kv,Ac h1,Ac h1,h1,h2⟩
theorem Rq (No:Nat->Prop)(B b m:Nat)(R f1 f2:Value)(u:US)(w:World)(h:IIs No B w b R f1 f2 u)(ho:u.out.length<=3000)(hm:m<=65535):
 Calls Tryz.prog 265 #[.pointer (some ⟨b,0,none⟩),.int .i64 (m:Int)] w fun e w'=>w'=w/\((u.out.length+m<=3000/\e=.returned (.tuple #[]))\/ (3000<u.out.length+m/\e=Flt 2)):=by
 obtain⟨ov,kv,c2,c3,hh,hov,hkv,hap,hn1,hn2⟩:=h.rows;obtain⟨a,cc,rfl⟩:=An hov;clear h hh hov hkv hap hn1 hn2 c3;have HG:=Ab (Cf 2 w)
 by_cases hl:u.out.length+m<=3000
 . go_enter Tryz.func265,Tryz.ntmps265
   go_wp2;go_end0
   exact⟨rfl,.inl ⟨hl,rfl⟩⟩
 . go_enter Tryz.func265,Tryz.ntmps265
   go_wp2_with fail
   refine(Aa HG).mono ?_;rintro e w' ⟨rfl,rfl⟩;go_wp2;exact⟨rfl,rfl,.inr ⟨by omega,rfl⟩⟩
theorem PQ:∀g∈ [2,4],∀s∈List.range 41,
 (0<=wrap64 (wrap64 ((s:Int)/(g:Nat))-1)->IntKind.i64.wrap (wrap64 ((s:Int)-wrap64 ((g:Int)*wrap64 (wrap64 ((s:Int)/(g:Nat))-1)))*2^min (wrap64 (wrap64 ((s:Int)/(g:Nat))-1)).toNat 64)=(((s-g*(s/g-1))*2^(s/g-1):Nat):Int)/\wrap64 (wrap64 ((s:Int)/(g:Nat))-1)=((s/g-1:Nat):Int))/\
 (wrap64 (wrap64 ((s:Int)/(g:Nat))-1)<0->IntKind.i64.wrap (wrap64 ((s:Int)-wrap64 0))=(((s-g*(s/g-1))*2^(s/g-1):Nat):Int)/\(0:Int)=((s/g-1:Nat):Int)):=by decide+kernel
theorem Rz (s g z:Nat)(w:World)(hg:g=2\/g=4)(hs:s<=40)(hz:z=s/g-1):
 Calls Tryz.prog 279 #[.int .i64 (s:Int),.int .i64 (g:Int)] w fun e w'=>w'=w/\e=.returned (.tuple #[.int .i64 (((s-g*z)*2^z:Nat):Int),.int .i64 (z:Int)]):=by
 subst hz;have HK:=Ab (PQ g (by rcases hg with rfl|rfl<;>simp) s (by simp;omega));go_enter Tryz.func279,Tryz.ntmps279
 go_wp2
 all_goals first
  | (obtain⟨k1,k2⟩:=(Aa HK).1 h
     rw[k1,k2];go_ret2;exact⟨rfl,rfl⟩)
  | (obtain⟨k1,k2⟩:=(Aa HK).2 h
     rw[k1];go_ret2;refine⟨rfl, ?_⟩;show Ending.returned (.tuple #[.int .i64 (((s-g*(s/g-1))*2^(s/g-1):Nat):Int),.int .i64 0])=_
     rw[<-k2])
theorem Xw (s:Nat)(w:World)(h1:257<=s)(h2:s<=285):
 Calls Tryz.prog 267 #[.int .i64 (s:Int)] w fun e w'=>w'=w/\e=.returned (.tuple #[.int .i64 ((Df s).1:Int),.int .i64 ((Df s).2:Int)]):=by
 by_cases h5:s=285
 . subst h5;go_enter Tryz.func267,Tryz.ntmps267
   go_wp2;go_ret2;exact⟨rfl,rfl⟩
 . have HF:=Ab (Rz (s-257) 4 _ w (.inr rfl) (by omega) rfl);have HL:Hid (Df s=(3+((s-257)-4*((s-257)/4-1))*2^((s-257)/4-1),(s-257)/4-1)):=Ab (by unfold Df;rw[if_neg h5])
   have hb:((s-257)-4*((s-257)/4-1))*2^((s-257)/4-1)<=300:=by
    have:∀k∈List.range 29,(k-4*(k/4-1))*2^(k/4-1)<=300:=by decide+kernel
    exact this (s-257) (by simp;omega)
   generalize ((s-257)-4*((s-257)/4-1))*2^((s-257)/4-1)=y at HF HL hb;generalize (s-257)/4-1=z at HF HL;have e1:((s-257:Nat):Int)=(s:Int)-257:=by omega
   rw[e1]at HF;go_enter Tryz.func267,Tryz.ntmps267
   go_wp2_with fail
   refine(Aa HF).mono ?_;rintro e w' ⟨rfl,rfl⟩;go_wp2;go_ret2;refine⟨rfl, ?_⟩;rw[Aa HL];go_num
theorem F8 (s:Nat)(w:World)(h2:s<=29):
 Calls Tryz.prog 280 #[.int .i64 (s:Int)] w fun e w'=>w'=w/\e=.returned (.tuple #[.int .i64 ((Dg s).1:Int),.int .i64 ((Dg s).2:Int)]):=by
 have HF:=Ab (Rz s 2 _ w (.inl rfl) (by omega) rfl);have HL:Hid (Dg s=(1+(s-2*(s/2-1))*2^(s/2-1),s/2-1)):=Ab rfl
 have hb:(s-2*(s/2-1))*2^(s/2-1)<=40000:=by
  have:∀k∈List.range 30,(k-2*(k/2-1))*2^(k/2-1)<=40000:=by decide+kernel
  exact this s (by simp;omega)
 generalize (s-2*(s/2-1))*2^(s/2-1)=y at HF HL hb;generalize s/2-1=z at HF HL;go_enter Tryz.func280,Tryz.ntmps280
 go_wp2_with fail
 refine(Aa HF).mono ?_;rintro e w' ⟨rfl,rfl⟩;go_wp2;go_ret2;refine⟨rfl, ?_⟩;rw[Aa HL];go_num
theorem Nm (row:List Bool)(n:Nat)(u:US):(uget row n u).1<2^n:=by
 have h0:0<2^n:=YQ n;unfold uget
 split
 . split
   . exact h0
   . exact VG (Jy _) (VO (by decide) (by rw[VL];exact ZP _ _))
 . exact h0
theorem Iw (No:Nat->Prop)(B b:Nat)(a:Option Addr)(n cap size l:Nat)(bs:List Nat)(f1 f2:Value)(u:US)(w:World)(h:IIs No B w b (.slice a n cap) f1 f2 u)(hR:Rd w No a n bs)(hp:u.p<=8*n)(he:u.e=0)(hs:size<=16)(hl:l<=40000)(r:Nat)(v:US)(hr:Hid (uget (rowB bs n) size u=(r,v))):
 Calls Tryz.prog 266 #[.pointer (some ⟨b,0,none⟩),.int .i64 (l:Int),.int .i64 (size:Int)] w fun e w'=>Got No B w b (.slice a n cap) f1 f2 (.int .i64 ((l+r:Nat):Int)) v e w':=by
 have HN:=Ab (Dx No B b a n cap size bs f1 f2 u w h hR hp he hs r v hr)
 have hrl:r<65536:=by
  have:=Nm (rowB bs n) size u
  rw[Aa hr]at this;exact VG this (VO (j:=16) (by decide) hs)
 clear h hR hp he hs hr;go_enter Tryz.func266,Tryz.ntmps266
 go_wp2_with fail
 refine(Aa HN).mono ?_;rintro e w2 hg
 rcases hg with ⟨e0,rfl,hU⟩|⟨e0,rfl,hBl⟩
 . have HU:=Ab hU;clear hU;go_wp2;go_ret;exact .inl ⟨e0,by go_num,Aa HU⟩
 . have HB:=Ab hBl;clear hBl;go_wp2;exact⟨rfl,.inr ⟨e0,rfl,Aa HB⟩⟩
end Go.Proofs.YtleocpdblhbimaaGreatDoor
