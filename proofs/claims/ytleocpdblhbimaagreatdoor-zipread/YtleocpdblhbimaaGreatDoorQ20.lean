import Derived.Test.YtleocpdblhbimaaGreatDoorQ19
import Derived.Deep.RegionHeld3
import Derived.OwnWalk
import Derived.Maps.OwnSet
import Derived.Maps.Views
import Derived.Defers
import Derived.Recover
import Derived.Laws.Pointers
set_option linter.unusedSimpArgs false
set_option maxHeartbeats 4000000
namespace Go.Proofs.YtleocpdblhbimaaGreatDoor
open Go.RowKit Go.Maps Go.WideMaps
set_option linter.unusedVariables false
set_option maxRecDepth 100000
abbrev DecIs (w:World)(mb n:Nat)(D:DataW Unit):Prop:=w.ownsMap Tryz.prog 351 (plainElem Tryz.prog 3) mb n D
abbrev DV (gr gm:Nat):Value:=.func (.func 281) #[] #[.pointer (some ⟨gr,0,none⟩),.pointer (some ⟨gm,0,none⟩)]
structure DIs (w:World)(gr gm mb nn b:Nat)(l:List Int):Prop where
 r:w.cell? ⟨gr,0,none⟩=some (.pointer (some ⟨b,0,none⟩))
 m:w.cell? ⟨gm,0,none⟩=some (.map (some mb))
 lt:gr<w.heap.size/\gm<w.heap.size
 is:DecIs w mb nn (decD l l.length)
theorem DIs.keep {w w':World}{E G H M b:Nat}{l:List Int}(I:DIs w E G H M b l)(aa:w.heap.size<=w'.heap.size)(U:w'.heap[E]? =w.heap[E]?)(O:w'.heap[G]? =w.heap[G]?)(T:w'.heap[H]? =w.heap[H]?):DIs w' E G H M b l:=by
 obtain⟨es,clock,hb,F,Z,Y⟩:=I.is;have:=I.lt
 exact⟨(World.cell?_of_block (a:=⟨E,0,none⟩) U).trans I.r,(World.cell?_of_block (a:=⟨G,0,none⟩) O).trans I.m,⟨by omega,by omega⟩,es,clock,T.trans hb,F,Z,Y⟩
theorem Tf {w:World}{G:Array Oper}{o:Oper}{a:Act}{F:Act->World->Prop}{Q:Exit->Act->World->Prop}{E:Prop}(U:o.guard=none)(m x v:Operand)(ae:o.op=Op.mapUpdate 350 m x v)(b n:Nat)(I:DataW Unit)(aa:a.eval m=.map (some b))(T:DecIs w b n I)(O:n<maxLen)(key val:Value)(H:Lit)(M:a.eval x=key)(ac:a.eval v=val)(af:keyOf Tryz.prog 351 key=some H)
 (d:DataW Unit) (Y:List MemPlace) (Z:plainElem Tryz.prog 3 val=some (d,Y)) (hK:∀w',DecIs w' b (n+1) (I.put H d)->w.grownBy w' (some b)->F (a.put o.dst undef) w'):if Region.wanted o (yielded G a.tmps)=true then Oper.wp Tryz.prog o a w F Q else E:=by
 have e:Region.wanted o (yielded G a.tmps)=true:=by unfold Region.wanted;rw[U]
 rw[if_pos e];obtain⟨w',ab,r1,r2⟩:=T.update Z80 Tryz.underlying350 O af Z;unfold Oper.wp;simp[execOp,ae,aa,M,ac,ab,Result.andThen]
 exact hK w' r1 r2
theorem Nr (b:Nat)(a:Option Addr)(E ar:Nat)(l:List Int)(w:World)(a1:l.length=E)(a2:RowIn .i64 w a l)(ai:Good l):
 Calls Tryz.prog 270 #[.pointer (some ⟨b,0,none⟩),.slice a E ar] w fun e w'=>∃gr gm mb nn,e=.returned (DV gr gm)/\w.heap.size<=gr/\w.heap.size<=gm/\w.heap.size<=mb/\mb<w'.heap.size/\DIs w' gr gm mb nn b l/\Below w.heap.size w w':=by
 have bk:=ai.len;have bu:= @run_makeMap Tryz.prog;have aj:=Ab ai;have ag:=Ab a1;have ap:=Ab a2;clear ai a1 a2;go_enter Tryz.func270,Tryz.ntmps270
 go_wp2_with fail
 refine(DM a E ar l _ (Aa ag) ((Aa ap).alloc _) (Aa aj)).mono ?_;rintro e T ⟨g,rfl,ah,al,bf⟩;have aq:=Ab ah;have be:=Ab al;have bc:=al.size;simp only[World.size_alloc]at bc bf;have bt:=(ah.lt g rfl).2;clear ah al;obtain⟨mb,az⟩:=exq (T.heap.size);have ay:Hid (DecIs ((T.alloc (.map #[] 0)).alloc (.cells #[.map (some mb)] 350)) mb 0 (decD l 0)):=Ab (by rw[<-az];exact(World.ownsMap_made T Tryz.prog 351 (plainElem Tryz.prog 3)).alloc _)
 have ao:Hid (((T.alloc (.map #[] 0)).alloc (.cells #[.map (some mb)] 350)).heap[mb+1]? =some (.cells #[.map (some mb)] 350 (0,0))):=Ab (by
  have:=heap_alloc_new (T.alloc (.map #[] 0)) (.cells #[.map (some mb)] 350)
  rw[World.size_alloc,az]at this;exact this)
 have ae:Hid (Below (w.heap.size+1) (w.alloc (.cells #[.pointer (some ⟨b,0,none⟩)] 280)) ((T.alloc (.map #[] 0)).alloc (.cells #[.map (some mb)] 350))):=Ab (by
  have F:=Aa be;rw[World.size_alloc]at F;exact(F.alloc (by omega) _).alloc (by rw[World.size_alloc];omega) _)
 have as:Hid (((T.alloc (.map #[] 0)).alloc (.cells #[.map (some mb)] 350)).ownsRow (w.heap.size+1) 3 1 (.slice (some ⟨g,0,none⟩) E E) E (i64s (St l E))):=Ab (by
  have F:=Aa aq;rw[World.size_alloc]at F;exact(F.alloc _).alloc _)
 go_wp2;obtain⟨W2,ak⟩:=exq ((T.alloc (.map #[] 0)).alloc (.cells #[.map (some mb)] 350));rw[ak]at ay ao ae as ⊢;have bo:w.heap.size+1<=mb:=by omega
 have bw:g<mb:=by omega
 have bv:W2.heap.size=mb+2:=by rw[<-ak];simp;omega
 clear ak aq;go_loopw [22] (fun am wr=>∃k n:Nat,k<=E/\n<=k/\am=.int .i64 (k:Int)/\Hid (DecIs wr mb n (decD l k))/\Hid (W2.grownBy wr (some mb))) (fun am _=>E-(intOf am).toNat)
 case atStart=>exact⟨0,0,VH _,VB _,rfl,ay,Ab (Aw _ _)⟩
 case round=>
  obtain⟨k,n,bm,hn,rfl,af,I⟩:=hrel
  by_cases aw:k<E
  . have Z:k<l.length:=by rw[Aa ag];exact aw
    obtain⟨Y,ab,rfl,a8,bj⟩:∃Y ab,a=some ⟨Y,ab,none⟩/\Y<w.heap.size/\Row .i64 w Y ab l:=by
     rcases Aa ap with aa|aa
     . rw[aa]at Z;simp at Z
     . exact aa
    have c1:wr.cell? ⟨Y,ab+k,none⟩=some (.int .i64 (l.getD k 0)):=(Aa I).cell (((Aa ae).cell (p:=⟨Y,ab+k,none⟩) (by show Y<_;omega)).trans ((World.cell?_alloc_past _ _ _ a8).trans (bj k Z))) (by simp;omega)
    have c2:wr.cell? ⟨g,k,none⟩=some (.int .i64 ((codeN l k:Nat):Int)):=by
     refine(Aa I).cell ?_ (by simp;omega);rw[(Aa as).cellAt k (by omega)];have hc:=Du l E;have a5:k<(St l E).length:=by rw[hc];exact Z
     have:=Yp l (j:=k) Z E
     rw[if_pos aw]at this;rw[<-this];simp[i64s,List.getD,a5]
    have an:wr.cell? ⟨mb+1,0,none⟩=some (.map (some mb)):=(Aa I).cell (Ac (Aa ao)) (by simp);obtain⟨aa,bi⟩:=(Aa aj).ok k Z;obtain⟨m,hm⟩:=WF aa;have ac:Hid (decD l (k+1)=if codeT l k= []then decD l k else (decD l k).put (kb (codeT l k)) (.lit (.int .i64 (k:Int)))):=Ab rfl
    by_cases ba:m=0
    . subst ba;have ax:codeT l k= []:=by unfold codeT;rw[hm];rfl
      rw[if_pos ax]at ac;rw[hm]at c1;clear c2 an ax;go_wp2;go_roundw
      case rel=>exact⟨k+1,n,by omega,by omega,by go_num,Ab (by rw[Aa ac];exact Aa af),I⟩
      case measure=>simp[intOf];omega
    . obtain⟨k1,k2,a0⟩:=QM (Aa aj) Z hm (by omega);rw[if_neg k2,k1]at ac;have a3:=Ab (Pf a0);have a7:(Lit.int .i64 (k:Int)).wf=true:=Wj (by omega);have a4:=Ab (plainElem_int (H:=Unit) Tryz.underlying3 a7);rw[hm]at c1 bi;have bn:(0:Int)<(m:Int):=by omega
      generalize codeN l k=c at*;clear k1 k2 a0 hm aa;go_wp2;refine wp_region_held_drew (S:=fun w'=>w'.cell? ⟨mb+1,0,none⟩=some (.map (some mb))/\w'.cell? ⟨g,k,none⟩=some (.int .i64 (c:Int))) (by kernel_rfl) ⟨an,c2⟩ (fun M=> ?_);refine wpAnyH_take (i:=0) (oi:= {dst:=some 29,op:=.load 350 (.tmp 7),type:=350,pos:= "reader.go:134",after:= #[],guard:=none}) (v:=.map (some mb)) rfl (by kernel_rfl) (by kernel_rfl) (by kernel_rfl) (fun _ _ _ h=>h) (Or.inl ⟨by rfl,fun W G=>by obtain⟨F,U⟩:=G;go_simp⟩) M ?_;simp only[Act.put,VA,VC,VD];refine wpAnyH_take (i:=1) (oi:= {dst:=some 30,op:=.move (.tmp 9),type:=3,pos:= "reader.go:134",after:= #[],guard:=none}) (v:=.int .i64 (m:Int)) rfl (by kernel_rfl) (by kernel_rfl) (by kernel_rfl) (fun _ _ _ h=>h) (Or.inl ⟨by rfl,fun W G=>by obtain⟨F,U⟩:=G;go_simp⟩) M ?_;simp only[Act.put,VA,VC,VD];refine wpAnyH_take (i:=2) (oi:= {dst:=some 31,op:=.move (.tmp 5),type:=76,pos:= "reader.go:134",after:= #[],guard:=none}) (v:=.slice (some ⟨g,0,none⟩) E E) rfl (by kernel_rfl) (by kernel_rfl) (by kernel_rfl) (fun _ _ _ h=>h) (Or.inl ⟨by rfl,fun W G=>by obtain⟨F,U⟩:=G;go_simp⟩) M ?_;simp only[Act.put,VA,VC,VD];refine wpAnyH_take (i:=3) (oi:= {dst:=some 32,op:=.move (.tmp 8),type:=3,pos:= "reader.go:134",after:= #[],guard:=none}) (v:=.int .i64 (k:Int)) rfl (by kernel_rfl) (by kernel_rfl) (by kernel_rfl) (fun _ _ _ h=>h) (Or.inl ⟨by rfl,fun W G=>by obtain⟨F,U⟩:=G;go_simp⟩) M ?_;simp only[Act.put,VA,VC,VD];refine wpAnyH_take (i:=4) (oi:= {dst:=some 33,op:=.indexAddr 76 (.tmp 31) (.tmp 32),type:=0,pos:= "reader.go:134",after:= #[{on:=2,ground:=.data},{on:=3,ground:=.data}],guard:=none}) (v:=.pointer (some ⟨g,k,none⟩)) rfl (by kernel_rfl) (by kernel_rfl) (by kernel_rfl) (fun _ _ _ h=>h) (Or.inl ⟨by rfl,fun W G=>by obtain⟨F,U⟩:=G;go_simp⟩) M ?_;simp only[Act.put,VA,VC,VD];refine wpAnyH_take (i:=5) (oi:= {dst:=some 34,op:=.load 3 (.tmp 33),type:=3,pos:= "reader.go:134",after:= #[{on:=4,ground:=.data}],guard:=none}) (v:=.int .i64 (c:Int)) rfl (by kernel_rfl) (by kernel_rfl) (by kernel_rfl) (fun _ _ _ h=>h) (Or.inl ⟨by rfl,fun W G=>by obtain⟨F,U⟩:=G;go_simp⟩) M ?_;simp only[Act.put,VA,VC,VD];refine wpAnyH_take (i:=6) (oi:= {dst:=some 35,op:=.build 351 #[(0,.tmp 30),(1,.tmp 34)],type:=351,pos:= "reader.go:134",after:= #[{on:=1,ground:=.data},{on:=5,ground:=.data}],guard:=none}) (v:=.agg #[.int .i64 (m:Int),.int .i64 (c:Int)]) rfl (by kernel_rfl) (by kernel_rfl) (by kernel_rfl) (fun _ _ _ h=>h) (Or.inl ⟨by rfl,fun W G=>by obtain⟨F,U⟩:=G;go_simp⟩) M ?_;simp only[Act.put,VA,VC,VD];refine wpAnyH_take (i:=7) (oi:= {dst:=some 36,op:=.move (.tmp 8),type:=3,pos:= "reader.go:134",after:= #[],guard:=none}) (v:=.int .i64 (k:Int)) rfl (by kernel_rfl) (by kernel_rfl) (by kernel_rfl) (fun _ _ _ h=>h) (Or.inl ⟨by rfl,fun W G=>by obtain⟨F,U⟩:=G;go_simp⟩) M ?_;simp only[Act.put,VA,VC,VD];refine rdH (i:=8) fun K hK=> ?_
      refine Tf rfl (.tmp 29) (.tmp 35) (.tmp 36) rfl mb n (decD l k) rfl (Aa af) (by unfold maxLen;omega) (kw (m,c)) _ (kwl (m,c)) rfl rfl (Aa a3) _ [] (Aa a4) ?_;intro w3 av O;have bh:=Ab av;have bb:=Ab (Aj (Aa I) (show wr.grownBy w3 (some mb) from ⟨O.os,O.tape,O.output,O.size,O.block⟩));have bd:w3.cell? ⟨mb+1,0,none⟩=some (.map (some mb)):=O.cell (show wr.cell? ⟨mb+1,0,none⟩=some (.map (some mb)) from an) (by simp);have a9:w3.cell? ⟨g,k,none⟩=some (.int .i64 (c:Int)):=O.cell (show wr.cell? ⟨g,k,none⟩=some (.int .i64 (c:Int)) from c2) (by simp;omega);refine hK.out _ _ ⟨bd,a9⟩ (fun bq=> ?_);clear hK K av O;refine wpAnyH_done (by kernel_rfl) ?_ _;go_wp2;go_roundw
      case rel=>exact⟨k+1,n+1,by omega,by omega,by go_num,Ab (by rw[Aa ac];exact Aa bh),bb⟩
      case measure=>simp[intOf];omega
  . obtain rfl:E=k:=by omega
    have au:Hid (DIs wr w.heap.size (mb+1) mb n b l/\Below w.heap.size w wr):=Ab (by
     have bg:(w.alloc (.cells #[.pointer (some ⟨b,0,none⟩)] 280)).cell? ⟨w.heap.size,0,none⟩=some (.pointer (some ⟨b,0,none⟩)):=by rw[cell_of_row _ _ _ _ _ _ (heap_alloc_new w _)];rfl
     have a6:=(Aa I).size;refine⟨⟨?_, ?_,⟨by omega,by omega⟩, ?_⟩, ?_⟩
     . exact(Aa I).cell (((Aa ae).cell (p:=⟨w.heap.size,0,none⟩) (by show w.heap.size<_;omega)).trans bg) (by simp;omega)
     . exact(Aa I).cell (Ac (Aa ao)) (by simp)
     . rw[Aa ag];exact Aa af
     . have F:Below w.heap.size w W2:=((Below.refl w.heap.size w).alloc (VB _) _).trans ((Aa ae).mono (by omega));exact F.grown (Aa I) (by omega) (fun j h=>by cases h;omega))
    have a6:=(Aa I).size;go_wp2;go_ret;exact⟨_,_,mb,n,rfl,VB _,by omega,by omega,by omega,(Aa au).1,(Aa au).2⟩
theorem IIs.more {No No':Nat->Prop}{B b:Nat}{w:World}{R H G:Value}{u:US}(T:IIs No B w b R H G u)(Y:¬No' b)(M:∀g,No' g->No g\/w.heap.size<=g):IIs No' B w b R H G u:=by
 obtain⟨ov,kv,ab,O,I,Z,U,aa⟩:=T.ex;refine⟨T.base,Y,ov,kv,ab,O,I,Z, ?_, ?_⟩
 . intro g E F
   rcases M g F with e|e
   . exact U g E e
   . have:=(O.lt g E).2;omega
 . intro g E F
   rcases M g F with e|e
   . exact aa g E e
   . have:=(I.lt g E).2;omega
def NI (No:Nat->Prop)(g0:Nat):Nat->Prop:=fun g=>No g\/g=g0
theorem IUp.less {No:Nat->Prop}{B b I:Nat}{w w':World}{R H G:Value}{u:US}(E:IUp (NI No I) B w b R H G u w'):IUp No B w b R H G u w':=
 ⟨E.is.more (fun e=>E.is.no (.inl e)) (fun g F=>.inl (.inl F)),E.below,E.kp.weaken (fun g F=>.inl F)⟩
theorem Rd.more {w:World}{No:Nat->Prop}{a:Option Addr}{n H:Nat}{bs:List Nat}(E:Rd w No a n bs):Rd w (NI No H) a n bs:=⟨E.len,E.few,E.byt,E.val,fun F G I e2=>.inl (E.no F G I e2)⟩
theorem IIs.aside {No:Nat->Prop}{B b E:Nat}{w:World}{R I H:Value}{u:US}(G:IIs (NI No E) B w b R I H u)(ab:B<=E)(af:E<w.heap.size)(ac:¬No E)(i:Nat)(v:Value):IIs (NI No E) B (w.setCell ⟨E,i,none⟩ v) b R I H u/\Below B w (w.setCell ⟨E,i,none⟩ v)/\Kp No w (w.setCell ⟨E,i,none⟩ v):=by
 obtain⟨ov,kv,ae,Z,Y,aa,M,T⟩:=G.ex;have F:=Ad w E i v
 have O:∀ {x:Value},(∀g,x.ownBlock=some g->¬NI No E g)->x.ownBlock=none\/x.ownBlock≠some E:=fun {x} ho=>by
  cases U:x.ownBlock with
  |none=>exact .inl rfl
  |some g=>
   refine .inr (fun e=>ho g U (.inr ?_))
   cases e
   rfl
 have hb:b≠E:=fun e=>G.no (.inr e)
 refine⟨⟨G.base,G.no,ov,kv,(F.block b G.lt (by simp;exact fun e=>hb e)).trans ae,Z.kept F (O M),Y.kept F (O T),aa,M,T⟩, ?_, ?_⟩
 . exact(Below.refl B w).grown F (by omega) (fun g e=>by cases e;exact ab)
 . exact(Kp.refl No w).grown F (VB _) (fun g e=>by cases e;exact ac)
theorem SJ (w:World):(zeroValue 3).run Tryz.prog w=.ok (.int .i64 0) w:=by kernel_rfl
theorem RJ (row:List Bool)(p i:Nat)(E:p+i<row.length):(row.drop p).take (i+1)=(row.drop p).take i++ [row.getD (p+i) false]:=by
 rw[XM,XJ];simp[List.getD,E]
theorem Z6i (V x:Nat)(F:V<32768)(E:x<2):bits .or .i64 ((V:Int)*2) (x:Int)=((2*V+x:Nat):Int):=by
 have e:((V:Int)*2)=((2*V:Nat):Int):=by omega
 rw[e,Nn _ _ (by omega) (by omega)];have:=Nat.two_pow_add_eq_or_of_lt (i:=1) (b:=x) (by simpa using E) V
 rw[Nat.pow_one]at this;rw[<-this]
def TF (No:Nat->Prop)(B:Nat)(W1:World)(b:Nat)(R f1 f2:Value)(u:US)(gw gr gm mb nn:Nat)(l:List Int)(i V:Nat)(w5:World):Prop:=
 w5.heap[gw]? =some (.cells #[.int .i64 (i:Int),.int .i64 (V:Int)] 351 (0,0))/\IUp No B W1 b R f1 f2 u w5/\IIs (NI No gw) B w5 b R f1 f2 u/\DIs w5 gr gm mb nn b l
theorem OA {b E:Nat}{w wr F:World}{x y:Value}(I:Mx b wr F)(M:Mx b w wr)(G:b≠E):Mx b w ((F.setCell ⟨E,0,none⟩ x).setCell ⟨E,1,none⟩ y):=fun j H=>by
 rw[World.cell?_setCell_other _ _ _ _ (by intro e;exact G (by cases e;rfl)),World.cell?_setCell_other _ _ _ _ (by intro e;exact G (by cases e;rfl))];exact(I j H).trans (M j H)
theorem BI (No:Nat->Prop)(B b:Nat)(a:Option Addr)(n O:Nat)(bs:List Nat)(aa Z:Value)(u:US)(w:World)(G:IIs No B w b (.slice a n O) aa Z u)(b5:Rd w No a n bs)(c5:u.p<=8*n)(a1:u.e=0)(U ac ab aw:Nat)(l:List Int)(a9:DIs w U ac ab aw b l)(cl:Good l)(b8:No U/\No ac/\No ab)(c6:∀g,w.heap.size<=g->¬No g)(k:Nat)(v:US)(c9:Hid (uplace l (rowB bs n) u=(k,v))):
 Calls Tryz.prog 281 #[.pointer (some ⟨U,0,none⟩),.pointer (some ⟨ac,0,none⟩)] w fun e w'=>GotK No B w b (.slice a n O) aa Z (.int .i64 (k:Int)) v e w':=by
 have bm:=Af bs n;have eq:=b5.few;obtain⟨am,b9⟩:=exq (Ej l (rowB bs n) u.p 15 1)
 have df:k=am.1/\v= {u with e:=am.2.2,p:=u.p+am.2.1}:=by
  have:=Aa c9
  unfold uplace Lt at this;rw[if_pos a1,b9]at this;exact⟨(VN this).1.symm,(VN this).2.symm⟩
 have H:=Ab G;have db:=Ab b5;have cv:=Ab a9;have b4:=Ab cl;have d3:=Ab b9;have bo:=Ab df;have dl:=Ab c6;obtain⟨co,c8,de⟩:=b8;have ag:=Ab (⟨co,c8,de⟩:No U/\No ac/\No ab);have ds:=G.lt;have e1:=a9.lt;have et:=a9.is.lt;obtain⟨p,ce⟩:=exq (u.p);rw[ce]at c5;have a6:=Ab ce;clear G b5 a9 cl b9 df c9 c6 co c8 de ce;go_enter Tryz.func281,Tryz.ntmps281
 go_wp2;obtain⟨E,a8⟩:=exq (w.heap.size);obtain⟨W1,ap⟩:=exq (w.alloc (.cells #[.int .i64 0,.int .i64 0] 351));have aj:Hid (Below E w W1):=Ab (by rw[<-ap,<-a8];exact(Below.refl _ _).alloc (VB _) _);have e4:W1.heap.size=E+1:=by rw[<-ap,<-a8];simp
 have dr:Hid (W1.heap[E]? =some (.cells #[.int .i64 0,.int .i64 0] 351 (0,0))):=Ab (by rw[<-ap,<-a8];exact heap_alloc_new _ _)
 have b7:Hid (IIs (NI No E) B W1 b (.slice a n O) aa Z u):=Ab (by
  rw[<-ap];exact((Aa H).more (No':=NI No E) (fun e=>by rcases e with e|e;exact(Aa H).no e;omega) (fun g M=>by rcases M with e|e;exact .inl e;exact .inr (by omega))).grown (World.grownBy_alloc w _ none))
 have em:Hid (Rd W1 No a n bs):=Ab ((Aa db).keep (w':=W1) (by omega) (fun g M _=>(Aa aj).block g (by omega)));have cp:¬No E:=Aa dl E (by omega);have d6:Hid (DIs W1 U ac ab aw b l):=Ab ((Aa cv).keep (by omega) ((Aa aj).block U (by omega)) ((Aa aj).block ac (by omega)) ((Aa aj).block ab (by omega)));have a7:B<=E:=by have:=(Aa H).base;omega
 have ed:b≠E:=by omega
 have eo:Hid (Mx b w W1):=Ab (fun j _=>by rw[<-ap];exact World.cell?_alloc_past _ _ _ ds);have ch:Hid (Bl No B w W1):=Ab ⟨(Aa aj).mono a7,fun g M _=>(Aa aj).block g (by omega)⟩;rw[ap];rw[a8];clear ap db cv;go_loopw [7] (fun bk wr=>∃i:Nat,i<=15/\bk=.int .i64 (i:Int)/\Hid (wr.heap[E]? =some (.cells #[.int .i64 (i:Int),.int .i64 ((vH (((rowB bs n).drop p).take i):Nat):Int)] 351 (0,0)))/\Hid (IUp No B W1 b (.slice a n O) aa Z {u with p:=p+i} wr)/\Hid (IIs (NI No E) B wr b (.slice a n O) aa Z {u with p:=p+i})/\Hid (p+i<=8*n)/\Hid (Ej l (rowB bs n) p (15-i) (i+1)=am)/\Hid (Mx b w wr)) (fun bk _=>15-(intOf bk).toNat)
 case atStart=>exact⟨0,VH _,rfl,dr,Ab (IUp.refl (by rw[show ({u with p:=p+0}:US)=u by rw[<-Aa a6];rfl];exact(Aa b7).more (fun e=>(Aa b7).no (.inl e)) (fun g M=>.inl (.inl M)))),Ab (by rw[show ({u with p:=p+0}:US)=u by rw[<-Aa a6];rfl];exact Aa b7),Ab c5,Ab (by rw[<-Aa a6];exact Aa d3),eo⟩
 case round=>
  obtain⟨i,hi,rfl,bu,ai,cn,dh,cj,dp⟩:=hrel;have cm:=(Aa ai).below.size
  by_cases ew:i<15
  . have dx:=Aa dh;have ci:Rd wr (NI No E) a n bs:=((Aa em).keep cm (Aa ai).kp).more;have bw:DIs wr U ac ab aw b l:=(Aa d6).keep cm ((Aa ai).kp U (by omega) (Aa ag).1) ((Aa ai).kp ac (by omega) (Aa ag).2.1) ((Aa ai).kp ab (by omega) (Aa ag).2.2);have a5:=Ab (fun q=>BO (NI No E) B b a n O bs aa Z {u with p:=p+i} (wr.drewN q) ((IUp.refl (Aa cn)).drewN q).is (ci.keep (VB _) (fun _ _ _=>rfl)) dx a1);have eg:=Ab (fun q=>(IUp.refl (Aa cn)).drewN q);have d1:=Ab bw;have dd:=bw.r;have cz:wr.cell? ⟨E,0,none⟩=some (.int .i64 (i:Int)):=Ac (Aa bu);obtain⟨V,ba⟩:=exq (vH (((rowB bs n).drop p).take i));have c7:wr.cell? ⟨E,1,none⟩=some (.int .i64 (V:Int)):=by rw[<-ba];exact Ac (Aa bu)
    have ej:V<32768:=by
     have I:=JZ (((rowB bs n).drop p).take i);rw[ba,VL]at I;exact VG I (VU (VO (by decide) (VU (ZP _ _) (show i<=15 by omega))) (by decide))
    have ck:=Ab ba;have ee:IntKind.i64.wrap ((V:Int)*2)=(V:Int)*2:=by simp[IntKind.wrap,IntKind.signed,IntKind.bits];omega
    have dj:IntKind.i64.wrap ((i:Int)+1)=(i:Int)+1:=by simp[IntKind.wrap,IntKind.signed,IntKind.bits];omega
    have e5:(i:Int)<15:=by omega
    have ah:=Aa cj;rw[show 15-i=(15-(i+1))+1 by omega,Ej,bm]at ah;clear ba bw ci
    by_cases cu:p+i=8*n
    . rw[if_pos (by omega)]at ah;have a0:Hid (v.e=7):=Ab (by rw[(Aa bo).2,<-ah])
      have cg:Hid (∀q,Calls Tryz.prog 248 #[.pointer (some ⟨b,0,none⟩)] (wr.drewN q) fun e w'=>e=Flt 7/\Bl No B w w'):=Ab (fun q=>(Aa a5 q).mono (fun e w' M=>by
       rw[if_pos cu]at M
       rcases M with ⟨e0,_⟩|⟨_,aq,e2⟩
       . exact absurd (show (7:Int)=0 from e0) (by decide)
       . exact⟨aq,Bl.trans (Aa ch) (((Aa ai).bl.drewN q).trans (e2.weaken (fun _ G=>.inl G)))⟩))
      clear ah a5;go_wp2;refine wp_region_held_drew (S:=fun w'=>w'.cell? ⟨E,0,none⟩=some (.int .i64 (i:Int))/\w'.cell? ⟨E,1,none⟩=some (.int .i64 (V:Int))/\w'.cell? ⟨U,0,none⟩=some (.pointer (some ⟨b,0,none⟩))) (by kernel_rfl) ⟨cz,c7,dd⟩ (fun al=> ?_);refine wpAnyH_take (i:=0) (oi:= {dst:=some 9,op:=.indexAddr 351 (.tmp 3) (.const (.int .i64 0)),type:=0,pos:= "reader.go:140",after:= #[],guard:=none}) (v:=.pointer (some ⟨E,0,none⟩)) rfl (by kernel_rfl) (by kernel_rfl) (by kernel_rfl) (fun _ _ _ G=>G) (ak.inl ⟨by rfl,fun W T=>by obtain⟨I,af,au⟩:=T;go_simp⟩) al ?_;simp only[Act.put,VA,VC,VD];refine wpAnyH_take (i:=1) (oi:= {dst:=some 10,op:=.load 3 (.tmp 9),type:=3,pos:= "reader.go:140",after:= #[{on:=0,ground:=.data}],guard:=none}) (v:=.int .i64 (i:Int)) rfl (by kernel_rfl) (by kernel_rfl) (by kernel_rfl) (fun _ _ _ G=>G) (ak.inl ⟨by rfl,fun W T=>by obtain⟨I,af,au⟩:=T;go_simp⟩) al ?_;simp only[Act.put,VA,VC,VD];refine wpAnyH_take (i:=2) (oi:= {dst:=some 11,op:=.binOp .add 3 (.tmp 10) (.const (.int .i64 1)) 3,type:=3,pos:= "reader.go:140",after:= #[{on:=1,ground:=.data}],guard:=none}) (v:=.int .i64 ((i:Int)+1)) rfl (by kernel_rfl) (by kernel_rfl) (by kernel_rfl) (fun _ _ _ G=>G) (ak.inl ⟨by rfl,fun W T=>by obtain⟨I,af,au⟩:=T;go_simp⟩) al ?_;simp only[Act.put,VA,VC,VD];refine wpAnyH_take (i:=3) (oi:= {dst:=some 12,op:=.indexAddr 351 (.tmp 3) (.const (.int .i64 1)),type:=0,pos:= "reader.go:140",after:= #[],guard:=none}) (v:=.pointer (some ⟨E,1,none⟩)) rfl (by kernel_rfl) (by kernel_rfl) (by kernel_rfl) (fun _ _ _ G=>G) (ak.inl ⟨by rfl,fun W T=>by obtain⟨I,af,au⟩:=T;go_simp⟩) al ?_;simp only[Act.put,VA,VC,VD];refine wpAnyH_take (i:=4) (oi:= {dst:=some 13,op:=.load 3 (.tmp 12),type:=3,pos:= "reader.go:140",after:= #[{on:=3,ground:=.data}],guard:=none}) (v:=.int .i64 (V:Int)) rfl (by kernel_rfl) (by kernel_rfl) (by kernel_rfl) (fun _ _ _ G=>G) (ak.inl ⟨by rfl,fun W T=>by obtain⟨I,af,au⟩:=T;go_simp⟩) al ?_;simp only[Act.put,VA,VC,VD];refine wpAnyH_take (i:=5) (oi:= {dst:=some 14,op:=.binOp .shl 3 (.tmp 13) (.const (.int .u64 1)) 66,type:=3,pos:= "reader.go:140",after:= #[{on:=4,ground:=.data}],guard:=none}) (v:=.int .i64 ((V:Int)*2)) rfl (by kernel_rfl) (by kernel_rfl) (by kernel_rfl) (fun _ _ _ G=>G) (ak.inl ⟨by rfl,fun W T=>by obtain⟨I,af,au⟩:=T;go_simp⟩) al ?_;simp only[Act.put,VA,VC,VD];refine wpAnyH_take (i:=6) (oi:= {dst:=some 15,op:=.load 280 (.tmp 0),type:=280,pos:= "reader.go:140",after:= #[],guard:=none}) (v:=.pointer (some ⟨b,0,none⟩)) rfl (by kernel_rfl) (by kernel_rfl) (by kernel_rfl) (fun _ _ _ G=>G) (ak.inl ⟨by rfl,fun W T=>by obtain⟨I,af,au⟩:=T;go_simp⟩) al ?_;simp only[Act.put,VA,VC,VD];refine rdH (i:=7) fun K hK=> ?_
      go_simp
      refine(Aa cg 1).mono ?_;rintro e F ⟨rfl,di⟩;exact And.intro rfl (ak.inr ⟨by rw[Aa a0];decide,by rw[Aa a0],di⟩)
    . rw[if_neg (by omega)]at ah
      have dy:∃x:Nat,(if Iq bs (p+i)then (1:Int)else 0)=(x:Int)/\x<2/\x=(if (rowB bs n).getD (p+i) false then 1 else 0):=by
       rw[Hf bs n (p+i) (by omega)]
       cases Iq bs (p+i)
       . exact⟨0,rfl,by decide,rfl⟩
       . exact⟨1,rfl,by decide,rfl⟩
      obtain⟨x,c4,dq,c3⟩:=dy
      have cg:Hid (∀q,Calls Tryz.prog 248 #[.pointer (some ⟨b,0,none⟩)] (wr.drewN q) fun e w'=>e=.returned (.int .i64 (x:Int))/\IUp (NI No E) B wr b (.slice a n O) aa Z {u with p:=p+(i+1)} w'/\Mx b wr w'):=Ab (fun q=>(Aa a5 q).mono (fun e w' M=>by
       rw[if_neg cu]at M
       rcases M with ⟨_,aq,e2,e3⟩|⟨I,_⟩
       . exact⟨by rw[aq];exact congrArg (fun z=>Ending.returned (Value.int .i64 z)) c4,(Aa eg q).trans e2,e3⟩
       . exact absurd a1 I))
      obtain⟨s,az⟩:=exq (((rowB bs n).drop p).take (i+1))
      have a4:vH s=2*V+x:=by
       rw[<-az,RJ _ _ _ (by rw[bm];omega),Q8,Aa ck,c3]
      have ay:s.length=i+1:=by rw[<-az,VL,VQ,bm];omega
      have bf:s≠ []:=fun e=>by rw[e]at ay;simp at ay
      have av:Hid (keyOf Tryz.prog 351 (.agg #[.int .i64 ((i+1:Nat):Int),.int .i64 ((2*V+x:Nat):Int)])=some (kb s)):=Ab (by
       have:=Pf (okb (s:=s) (by omega))
       rw[kw,ay,a4]at this;rw[kb,ay,a4];exact this)
      have bz:Hid (Maps.has (decD l l.length) (kb s)=decide (∃q,q<l.length/\codeT l q=s)):=Ab (QC l (Sq (Aa b4)) s bf (by omega) _);have da:Hid (∀q,q<l.length->codeT l q=s->(decD l l.length).atKey (kb s) (.lit (.int .i64 0))=.lit (.int .i64 (q:Int))):=Ab (fun q dm e=>QD l (Sq (Aa b4)) s bf (by omega) (Sr l (Aa b4) _ bf) _ l.length (VB _) q dm e);rw[az]at ah;have bj:=Ab ah;have d4:=Ab az;have d9:=Ab a4;have ei:=Z6i V x ej dq
      have bn:Hid (∀F,IUp (NI No E) B wr b (.slice a n O) aa Z {u with p:=p+(i+1)} F->F.heap[E]? =some (.cells #[.int .i64 (i:Int),.int .i64 (V:Int)] 351 (0,0))):=Ab (fun F ae=>by
       have:=(ae.kp E (by omega) (.inr rfl)).trans (Aa bu)
       rw[Aa ck]at this;exact this)
      have bt:Hid (∀F,IUp (NI No E) B wr b (.slice a n O) aa Z {u with p:=p+(i+1)} F->DIs F U ac ab aw b l):=Ab (fun F ae=>(Aa d1).keep ae.below.size (ae.kp U (by omega) (.inl (Aa ag).1)) (ae.kp ac (by omega) (.inl (Aa ag).2.1)) (ae.kp ab (by omega) (.inl (Aa ag).2.2)))
      have ct:Hid (∀F,IUp (NI No E) B wr b (.slice a n O) aa Z {u with p:=p+(i+1)} F->((F.setCell ⟨E,0,none⟩ (.int .i64 ((i:Int)+1))).setCell ⟨E,1,none⟩ (.int .i64 (2*(V:Int)+(x:Int)))).cell? ⟨E,0,none⟩=some (.int .i64 ((i:Int)+1))/\((F.setCell ⟨E,0,none⟩ (.int .i64 ((i:Int)+1))).setCell ⟨E,1,none⟩ (.int .i64 (2*(V:Int)+(x:Int)))).cell? ⟨E,1,none⟩=some (.int .i64 (2*(V:Int)+(x:Int)))/\TF No B W1 b (.slice a n O) aa Z {u with p:=p+(i+1)} E U ac ab aw l (i+1) (2*V+x) ((F.setCell ⟨E,0,none⟩ (.int .i64 ((i:Int)+1))).setCell ⟨E,1,none⟩ (.int .i64 (2*(V:Int)+(x:Int))))):=Ab (fun F ae=>by
       have d7:=Aa bn F ae;have eu:=ae.below.size;have d2:=heap_setCell_same F E 0 _ _ (.int .i64 ((i:Int)+1)) d7;have g6:=heap_setCell_same _ E 1 _ _ (.int .i64 (2*(V:Int)+(x:Int))) d2;have b3:((F.setCell ⟨E,0,none⟩ (.int .i64 ((i:Int)+1))).setCell ⟨E,1,none⟩ (.int .i64 (2*(V:Int)+(x:Int)))).heap[E]? =some (.cells #[.int .i64 ((i:Int)+1),.int .i64 (2*(V:Int)+(x:Int))] 351 (0,0)):=g6;obtain⟨dn,bd,eb⟩:=ae.is.aside a7 (by omega) cp 0 (.int .i64 ((i:Int)+1));obtain⟨b1,b2,eh⟩:=dn.aside a7 (by have:=bd.size;omega) cp 1 (.int .i64 (2*(V:Int)+(x:Int)));have bc:Kp No F ((F.setCell ⟨E,0,none⟩ (.int .i64 ((i:Int)+1))).setCell ⟨E,1,none⟩ (.int .i64 (2*(V:Int)+(x:Int)))):=eb.trans eh bd.size;have bi:=(Aa ai).trans ae.less;have du:=(bd.trans b2).size;refine⟨Ac b3,Ac b3,by rw[b3];push_cast;rfl,⟨b1.more (fun e=>b1.no (.inl e)) (fun g M=>.inl (.inl M)),bi.below.trans (bd.trans b2),bi.kp.trans bc bi.below.size⟩,b1, ?_⟩;exact(Aa bt F ae).keep du (bc U (by omega) (Aa ag).1) (bc ac (by omega) (Aa ag).2.1) (bc ab (by omega) (Aa ag).2.2))
      have bg:Hid (∀q,Ok l s=some q->Maps.has (decD l l.length) (kb s)=true/\(decD l l.length).atKey (kb s) (.lit (.int .i64 0))=.lit (.int .i64 (q:Int))):=Ab (fun q Y=>by
       have I:codeT l q=s:=by simpa using List.find?_some Y
       have af:q<l.length:=by simpa using List.mem_of_find?_eq_some Y
       exact⟨by rw[Aa bz];exact decide_eq_true ⟨q,af,I⟩,Aa da q af I⟩)
      have bq:Hid (∀q an,Ok l s=some q->IUp No B W1 b (.slice a n O) aa Z {u with p:=p+(i+1)} an->Mx b w an->GotK No B w b (.slice a n O) aa Z (.int .i64 (k:Int)) v (.returned (.int .i64 (q:Int))) an):=Ab (fun q an Y b0 dz=>by
       have ao:=Aa bj;rw[Y]at ao;have ao:(q,i+1,(0:Int))=am:=ao;obtain⟨aq,e2⟩:=Aa bo;rw[<-ao]at aq e2;have e3:v= {u with p:=p+(i+1)}:=by rw[e2,Aa a6,<-a1]
       refine .inl ⟨by rw[e3];exact a1,by rw[aq], ?_⟩;rw[e3];exact⟨⟨b0.is,((Aa aj).mono a7).trans b0.below,fun g M b8=>(b0.kp g (by omega) b8).trans ((Aa aj).block g (by omega))⟩,dz⟩)
      have cd:Hid (Ok l s=none->Maps.has (decD l l.length) (kb s)=false/\Ej l (rowB bs n) p (15-(i+1)) (i+1+1)=am):=Ab (fun Y=>by
       have ao:=Aa bj;rw[Y]at ao;refine⟨?_,ao⟩;rw[Aa bz];refine decide_eq_false ?_;rintro ⟨q,I,af⟩;have:=List.find?_eq_none.1 Y q (by simpa using I)
       simp[af]at this)
      clear ah a5 az a4 bf ay c4 c3 bj bz da;have bv:=Aa av;push_cast at bv
      clear av;have av:=Ab bv;clear bv;go_wp2;go_region_with (go_at_call 248;refine(Aa cg _).mono ?_;rintro e F ⟨rfl,be,cq⟩;have el:=Ab cq;have as:=Aa bn _ be;have c0:F.cell? ⟨E,0,none⟩=some (.int .i64 (i:Int)):=Ac as;have c1:F.cell? ⟨E,1,none⟩=some (.int .i64 (V:Int)):=Ac as;have c2:=(Aa bt _ be).r;have dw:F.frozen? ⟨E,0,none⟩=false:=frozen_of_row F E 0 _ _ as;have d5:F.frozen? ⟨E,1,none⟩=false:=frozen_of_row F E 1 _ _ as;have dc:=Ab be;have dv:=Ab as;clear be as cq)
      all_goals
       obtain⟨an,bb⟩:=exq ((F.setCell ⟨E,0,none⟩ (.int .i64 ((i:Int)+1))).setCell ⟨E,1,none⟩ (.int .i64 (2*(V:Int)+(x:Int))));have ar:=Aa ct F (Aa dc);rw[bb]at ar;rw[bb];obtain⟨d0,ey,ar⟩:=ar;have ep:=ar.2.2.2.m;have cw:Hid (Mx b w an):=Ab (by rw[<-bb];exact OA (Aa el) (Aa dp) ed);have ax:=Ab ar;clear bb ar c0 c1 c2 dw d5 cz c7 dd dc dv bn bt ct ei ee dj;go_wp2_with (at_lookup;refine wpList_lookup_own_ok_int _ rfl _ _ 350 rfl 351 3 .i64 Z80 Tryz.underlying350 Tryz.underlying3 (SJ _) ab aw (decD l l.length) rfl (Aa ax).2.2.2.is _ _ rfl (Aa av) ?_)
       intro c cy d8;have bh:=Ab cy;clear cy d8
       cases Y:Ok l s with
       |some q=>
        obtain⟨a3,a2⟩:=Aa bg q Y
        have hc:c=(q:Int):=by
         have:=(Aa bh).symm.trans a2
         simpa using this
        have en:=Ab (Aa bq q an Y (Aa ax).2.1 (Aa cw));rw[a3];subst hc;clear a3 a2 bh bg bq cd Y av;go_wp2;go_ret;exact Aa en
       |none=>
        obtain⟨a3,a2⟩:=Aa cd Y;have ek:=Ab a2;rw[a3];clear a3 a2 bh bg bq cd Y av;go_wp2;go_round
        case rel=>exact⟨i+1,by omega,by go_num,Ab (by rw[Aa d4,Aa d9];exact(Aa ax).1),Ab (Aa ax).2.1,Ab (Aa ax).2.2.1,Ab (by omega),ek,cw⟩
        case measure=>simp[intOf];omega
  . obtain rfl:i=15:=by omega
    have dg:((0,0,8):Nat×Nat×Int)=am:=Aa cj;have a0:Hid (v.e=8):=Ab (by rw[(Aa bo).2,<-dg]);have dt:Hid (Bl No B w wr):=Ab ((Aa ch).trans (Aa ai).bl);clear dg;go_wp2;exact And.intro rfl (ak.inr ⟨by rw[Aa a0];decide,by rw[Aa a0],Aa dt⟩)
theorem LK (No:Nat->Prop)(B b:Nat)(a:Option Addr)(n M:Nat)(bs:List Nat)(H G:Value)(u:US)(w:World)(O:IIs No B w b (.slice a n M) H G u)(aa:Rd w No a n bs)(ae:u.p<=8*n)(af:u.e=0)(E F I T:Nat)(l:List Int)(Y:DIs w E F I T b l)(Z:Good l)(ab:No E/\No F/\No I)(U:∀g,w.heap.size<=g->¬No g)(k:Nat)(v:US)(ac:Hid (uplace l (rowB bs n) u=(k,v))):
 Calls Tryz.prog 281 #[.pointer (some ⟨E,0,none⟩),.pointer (some ⟨F,0,none⟩)] w fun e w'=>Got No B w b (.slice a n M) H G (.int .i64 (k:Int)) v e w':=(BI No B b a n M bs H G u w O aa ae af E F I T l Y Z ab U k v ac).mono (fun _ _ O=>O.got)
end Go.Proofs.YtleocpdblhbimaaGreatDoor
namespace Go.Proofs.YtleocpdblhbimaaGreatDoor
open Go.RowKit
set_option linter.unusedVariables false
set_option maxRecDepth 100000
theorem Z5o (v:Value)(w:World):(Instr.typeAssert (.iface 310 v) 20 310 true).run Tryz.prog w=.ok (.tuple #[v,.bool true]) w:=by kernel_rfl
theorem Z5p (w:World):(Instr.typeAssert .nilIface 20 310 true).run Tryz.prog w=.ok (.tuple #[.agg #[.int .i64 0],.bool false]) w:=by kernel_rfl
theorem AC (p:Addr)(x y:Int)(E:List PanicEntry)(w:World)(O:w.cell? p=some (.int .i64 y))(M:w.frozen? p=false)(I:p.block<w.heap.size):
 CallsD Tryz.prog 229 #[.pointer (some p)] (.panicking ({v:=.iface 310 (.agg #[.int .i64 x]),recovered:=false}::E)) w fun e F w'=>
  e=.returned (.tuple #[])/\F=.panicking ({v:=.iface 310 (.agg #[.int .i64 x]),recovered:=true}::E)/\w'=(w.alloc (.cells #[.int .i64 x] 310)).setCell p (.int .i64 x):=by
 refine callsD_of_wpS Tryz.func229 rfl fun U cs T=> ?_
 apply wpS_seq
 apply wpS_region
 simp[wpOpsS,go_sem,recoverD,T,Tryz.ntmps229,Exit.thenS]
 apply wpS_seq
 apply wpS_region
 simp[wpOpsS,go_sem,Z5o,Exit.thenS,Array.replicate]
 apply wpS_seq
 apply wpS_region
 simp[wpOpsS,go_sem,Exit.thenS]
 refine wpS_cond (t:=true) (by simp[Act.eval]) ?_;simp only[if_true];have H:=(World.cell?_alloc_lt w (.cells #[Value.int .i64 x] 310) p I).trans O;have G:=(frozen?_alloc_cells w #[Value.int .i64 x] 310 p).trans M;apply wpS_region
 simp[wpOpsS,go_sem,H,G,bodyPostS,results,Tryz.results229]
theorem JD (p:Addr)(w:World):
 CallsD Tryz.prog 229 #[.pointer (some p)] .returning w fun e E w'=>
  e=.returned (.tuple #[])/\E=.returning/\w'=w.alloc (.cells #[.int .i64 0] 310):=by
 refine callsD_of_wpS Tryz.func229 rfl fun F cs G=> ?_
 apply wpS_seq
 apply wpS_region
 simp[wpOpsS,go_sem,recoverD,G,Tryz.ntmps229,Exit.thenS]
 apply wpS_seq
 apply wpS_region
 simp[wpOpsS,go_sem,Z5p,Exit.thenS,Array.replicate]
 apply wpS_seq
 apply wpS_region
 simp[wpOpsS,go_sem,Exit.thenS]
 refine wpS_cond (t:=false) (by simp[Act.eval]) ?_;simp only[Bool.false_eq_true,if_false];apply wpS_seq
 apply wpS_region
 simp[wpOpsS,go_sem,Exit.thenS]
 refine wpS_cond (t:=false) (by simp[Act.eval]) ?_;simp only[Bool.false_eq_true,if_false];refine wpS_of_wp (wp_skip ?_)
 cases F
 simp_all [bodyPostS,results,Tryz.results229]
theorem JC (F:Nat)(Z:Array Value)(Q:Nat->World->Prop)(w:World)(ai:∀(args:Array Value) (w:World),(callFunc F args).run Tryz.prog w=.ok (.enter F args) w)
 (ag:Calls Tryz.prog F Z (w.alloc (.cells #[.int .i64 0] 24)) fun e w'=>(∃x,Q x w'/\((x=0/\e=.returned (.tuple #[]))\/ (x≠0/\e=Flt x)))/\w'.heap[w.heap.size]? =some (.cells #[.int .i64 0] 24 (0,0))):
 Calls Tryz.prog 204 #[.func (.func F) Z #[]] w fun e E=>∃x w',Q x w'/\e=.returned (.int .i64 (x:Int))/\w'.heap.size<=E.heap.size/\(∀j,j<w'.heap.size->j≠w.heap.size->(E.heap[j]? =w'.heap[j]?))/\∀B,B<=w.heap.size->Below B w' E:=by
 have ah:∀(T:Fn) (first cap:Array Value) (w:World),(Instr.makeFunc T first cap).run Tryz.prog w=.ok (.func T first cap) w:=fun _ _ _ _=>rfl
 go_enter_defers Tryz.func204,Tryz.ntmps204
 go_wp2;refine ag.mono ?_;rintro e w' ⟨⟨x,aa,Y⟩,hb⟩;have I:w.heap.size<w'.heap.size:=(VK.1 hb).1;have G:w'.cell? ⟨w.heap.size,0,none⟩=some (.int .i64 0):=by simp[World.cell?,hb]
 have ae:w'.frozen? ⟨w.heap.size,0,none⟩=false:=by simp[World.frozen?,hb]
 rcases Y with ⟨rfl,rfl⟩|⟨Y,rfl⟩
 . go_wp2;refine leaves_cons (f:=229) (args:= #[.pointer (some ⟨w.heap.size,0,none⟩)]) (by simp) (by simp[go_sem]) ?_;refine(JD ⟨w.heap.size,0,none⟩ _).mono ?_;rintro e ab E ⟨rfl,rfl,rfl⟩;have c1:((w'.setCell ⟨w.heap.size,0,none⟩ (.int .i64 0)).alloc (.cells #[.int .i64 0] 310)).cell? ⟨w.heap.size,0,none⟩=some (.int .i64 0):=(World.cell?_alloc_lt _ _ _ (by simpa using I)).trans (World.cell?_setCell_same _ _ _ G);simp[Leaves,settle,results,Tryz.results204,go_sem,c1]
   refine⟨0,w',aa,rfl,by omega,fun j H hn=> ?_,fun B M=> ?_⟩
   rotate_left
   . have af:=(Below.refl B w').grown (Ad w' w.heap.size 0 (.int .i64 0)) (by omega) (fun g e=>by cases e;exact M);exact af.alloc (by simp;omega) _
   exact(Below.heap_alloc _ _ j (by simpa using H)).trans (Below.heap_setCell _ _ _ j hn)
 . go_wp2;refine leaves_cons (f:=229) (args:= #[.pointer (some ⟨w.heap.size,0,none⟩)]) (by simp) (by simp[go_sem]) ?_;refine(AC ⟨w.heap.size,0,none⟩ x 0 [] _ G ae I).mono ?_;rintro e ab E ⟨rfl,rfl,rfl⟩;have c1:((w'.alloc (.cells #[.int .i64 (x:Int)] 310)).setCell ⟨w.heap.size,0,none⟩ (.int .i64 (x:Int))).cell? ⟨w.heap.size,0,none⟩=some (.int .i64 (x:Int)):=World.cell?_setCell_same _ _ _ ((World.cell?_alloc_lt _ _ _ I).trans G);have U:∀j,j<w'.heap.size->¬j=w.heap.size->((w'.alloc (.cells #[.int .i64 (x:Int)] 310)).setCell ⟨w.heap.size,0,none⟩ (.int .i64 (x:Int))).heap[j]? =w'.heap[j]? :=fun j H hn=>(Below.heap_setCell _ _ _ j hn).trans (Below.heap_alloc _ _ j H)
   have ac:((w'.alloc (.cells #[.int .i64 (x:Int)] 310)).setCell ⟨w.heap.size,0,none⟩ (.int .i64 (x:Int))).heap.size=w'.heap.size+1:=by simp
   have O:∀B,B<=w.heap.size->Below B w' ((w'.alloc (.cells #[.int .i64 (x:Int)] 310)).setCell ⟨w.heap.size,0,none⟩ (.int .i64 (x:Int))):=fun B M=>
    ((Below.refl B w').alloc (by omega) _).grown (Ad _ w.heap.size 0 _) (by simp;omega) (fun g e=>by cases e;exact M)
   generalize (w'.alloc (.cells #[.int .i64 (x:Int)] 310)).setCell ⟨w.heap.size,0,none⟩ (.int .i64 (x:Int))=W at c1 U ac O ⊢;simp[Leaves,settle,results,Tryz.results204,go_sem,c1]
   exact⟨x,w',aa,rfl,by omega,U,O⟩
theorem IIs.rows {No:Nat->Prop}{B b:Nat}{w:World}{R G F:Value}{u:US}(I:IIs No B w b R G F u):∃ov kv,w.cell? ⟨b,2,none⟩=some ov/\w.cell? ⟨b,3,none⟩=some kv/\w.heap[b]? =some (.cells (icells R G F u ov kv) 284 (0,0))/\w.ownsRow (b+1) 5 1 ov u.out.length (u8s u.out)/\w.ownsRow (b+1) 3 1 kv u.ks.length (i64s u.ks)/\(ov.ownBlock=none\/ov.ownBlock≠kv.ownBlock)/\(∀g,ov.ownBlock=some g->¬No g)/\(∀g,kv.ownBlock=some g->¬No g):=by
 obtain⟨ov,kv,E,H⟩:=I.ex;exact⟨ov,kv,Ac E,Ac E,E,H⟩
theorem Rq (No:Nat->Prop)(B b m:Nat)(R H G:Value)(u:US)(w:World)(F:IIs No B w b R H G u)(ab:u.out.length<=3000)(aa:m<=65535):
 Calls Tryz.prog 265 #[.pointer (some ⟨b,0,none⟩),.int .i64 (m:Int)] w fun e w'=>w'=w/\((u.out.length+m<=3000/\e=.returned (.tuple #[]))\/ (3000<u.out.length+m/\e=Flt 2)):=by
 obtain⟨ov,kv,c2,M,Z,E,Y,T,O,I⟩:=F.rows;obtain⟨a,cc,rfl⟩:=An E;clear F Z E Y T O I M;have U:=Ab (Cf 2 w)
 by_cases hl:u.out.length+m<=3000
 . go_enter Tryz.func265,Tryz.ntmps265
   go_wp2;go_end0
   exact⟨rfl,.inl ⟨hl,rfl⟩⟩
 . go_enter Tryz.func265,Tryz.ntmps265
   go_wp2_with fail
   refine(Aa U).mono ?_;rintro e w' ⟨rfl,rfl⟩;go_wp2;exact⟨rfl,rfl,.inr ⟨by omega,rfl⟩⟩
theorem PQ:∀g∈ [2,4],∀s∈List.range 41,
 (0<=wrap64 (wrap64 ((s:Int)/(g:Nat))-1)->IntKind.i64.wrap (wrap64 ((s:Int)-wrap64 ((g:Int)*wrap64 (wrap64 ((s:Int)/(g:Nat))-1)))*2^min (wrap64 (wrap64 ((s:Int)/(g:Nat))-1)).toNat 64)=(((s-g*(s/g-1))*2^(s/g-1):Nat):Int)/\wrap64 (wrap64 ((s:Int)/(g:Nat))-1)=((s/g-1:Nat):Int))/\
 (wrap64 (wrap64 ((s:Int)/(g:Nat))-1)<0->IntKind.i64.wrap (wrap64 ((s:Int)-wrap64 0))=(((s-g*(s/g-1))*2^(s/g-1):Nat):Int)/\(0:Int)=((s/g-1:Nat):Int)):=by decide+kernel
theorem Rz (s E F:Nat)(w:World)(H:E=2\/E=4)(M:s<=40)(I:F=s/E-1):
 Calls Tryz.prog 279 #[.int .i64 (s:Int),.int .i64 (E:Int)] w fun e w'=>w'=w/\e=.returned (.tuple #[.int .i64 (((s-E*F)*2^F:Nat):Int),.int .i64 (F:Int)]):=by
 subst I;have G:=Ab (PQ E (by rcases H with rfl|rfl<;>simp) s (by simp;omega));go_enter Tryz.func279,Tryz.ntmps279
 go_wp2
 all_goals first
  | (obtain⟨k1,k2⟩:=(Aa G).1 h
     rw[k1,k2];go_ret2;exact⟨rfl,rfl⟩)
  | (obtain⟨k1,k2⟩:=(Aa G).2 h
     rw[k1];go_ret2;refine⟨rfl, ?_⟩;show Ending.returned (.tuple #[.int .i64 (((s-E*(s/E-1))*2^(s/E-1):Nat):Int),.int .i64 0])=_
     rw[<-k2])
theorem Xw (s:Nat)(w:World)(M:257<=s)(I:s<=285):
 Calls Tryz.prog 267 #[.int .i64 (s:Int)] w fun e w'=>w'=w/\e=.returned (.tuple #[.int .i64 ((Df s).1:Int),.int .i64 ((Df s).2:Int)]):=by
 by_cases G:s=285
 . subst G;go_enter Tryz.func267,Tryz.ntmps267
   go_wp2;go_ret2;exact⟨rfl,rfl⟩
 . have E:=Ab (Rz (s-257) 4 _ w (.inr rfl) (by omega) rfl);have F:Hid (Df s=(3+((s-257)-4*((s-257)/4-1))*2^((s-257)/4-1),(s-257)/4-1)):=Ab (by unfold Df;rw[if_neg G])
   have hb:((s-257)-4*((s-257)/4-1))*2^((s-257)/4-1)<=300:=by
    have:∀k∈List.range 29,(k-4*(k/4-1))*2^(k/4-1)<=300:=by decide+kernel
    exact this (s-257) (by simp;omega)
   generalize ((s-257)-4*((s-257)/4-1))*2^((s-257)/4-1)=y at E F hb;generalize (s-257)/4-1=z at E F;have H:((s-257:Nat):Int)=(s:Int)-257:=by omega
   rw[H]at E;go_enter Tryz.func267,Tryz.ntmps267
   go_wp2_with fail
   refine(Aa E).mono ?_;rintro e w' ⟨rfl,rfl⟩;go_wp2;go_ret2;refine⟨rfl, ?_⟩;rw[Aa F];go_num
theorem F8 (s:Nat)(w:World)(G:s<=29):
 Calls Tryz.prog 280 #[.int .i64 (s:Int)] w fun e w'=>w'=w/\e=.returned (.tuple #[.int .i64 ((Dg s).1:Int),.int .i64 ((Dg s).2:Int)]):=by
 have E:=Ab (Rz s 2 _ w (.inl rfl) (by omega) rfl);have F:Hid (Dg s=(1+(s-2*(s/2-1))*2^(s/2-1),s/2-1)):=Ab rfl
 have hb:(s-2*(s/2-1))*2^(s/2-1)<=40000:=by
  have:∀k∈List.range 30,(k-2*(k/2-1))*2^(k/2-1)<=40000:=by decide+kernel
  exact this s (by simp;omega)
 generalize (s-2*(s/2-1))*2^(s/2-1)=y at E F hb;generalize s/2-1=z at E F;go_enter Tryz.func280,Tryz.ntmps280
 go_wp2_with fail
 refine(Aa E).mono ?_;rintro e w' ⟨rfl,rfl⟩;go_wp2;go_ret2;refine⟨rfl, ?_⟩;rw[Aa F];go_num
theorem Nm (row:List Bool)(n:Nat)(u:US):(uget row n u).1<2^n:=by
 have E:0<2^n:=YQ n;unfold uget
 split
 . split
   . exact E
   . exact VG (Jy _) (VO (by decide) (by rw[VL];exact ZP _ _))
 . exact E
theorem Iw (No:Nat->Prop)(B b:Nat)(a:Option Addr)(n H E l:Nat)(bs:List Nat)(G F:Value)(u:US)(w:World)(O:IIs No B w b (.slice a n H) G F u)(aa:Rd w No a n bs)(U:u.p<=8*n)(Y:u.e=0)(I:E<=16)(ai:l<=40000)(r:Nat)(v:US)(M:Hid (uget (rowB bs n) E u=(r,v))):
 Calls Tryz.prog 266 #[.pointer (some ⟨b,0,none⟩),.int .i64 (l:Int),.int .i64 (E:Int)] w fun e w'=>Got No B w b (.slice a n H) G F (.int .i64 ((l+r:Nat):Int)) v e w':=by
 have af:=Ab (Dx No B b a n H E bs G F u w O aa U Y I r v M)
 have ah:r<65536:=by
  have:=Nm (rowB bs n) E u
  rw[Aa M]at this;exact VG this (VO (j:=16) (by decide) I)
 clear O aa U Y I M;go_enter Tryz.func266,Tryz.ntmps266
 go_wp2_with fail
 refine(Aa af).mono ?_;rintro e ag ac
 rcases ac with ⟨e0,rfl,T⟩|⟨e0,rfl,Z⟩
 . have ab:=Ab T;clear T;go_wp2;go_ret;exact .inl ⟨e0,by go_num,Aa ab⟩
 . have ae:=Ab Z;clear Z;go_wp2;exact⟨rfl,.inr ⟨e0,rfl,Aa ae⟩⟩
end Go.Proofs.YtleocpdblhbimaaGreatDoor
