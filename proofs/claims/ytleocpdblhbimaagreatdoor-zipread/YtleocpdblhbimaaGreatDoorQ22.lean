import Derived.Test.YtleocpdblhbimaaGreatDoorQ21
import Derived.Maps.AppendAt
set_option linter.unusedSimpArgs false
set_option maxHeartbeats 8000000
namespace Go.Proofs.YtleocpdblhbimaaGreatDoor
open Go.RowKit
set_option linter.unusedVariables false
set_option maxRecDepth 100000
theorem Z7r:∀q,q<19->SE.getD q 0=((ord19.getD q 0:Nat):Int)/\ord19.getD q 0<19:=by decide
theorem Z0j (c i:Nat)(E:i<c)(F:c<=19):(ord19.take c).drop i=ord19.getD i 0::(ord19.take c).drop (i+1):=by
 have hl:ord19.length=19:=rfl;have hi:i<(ord19.take c).length:=by rw[VL,hl];omega
 rw[WS hi,YN]
 congr 1
 rw[List.getD,VP (by omega)];rfl
theorem Py (row:List Bool):∀(ks:List Nat) (s:List Int) (u:US),u.e≠0->(usmall row ks s u).2=u
 | [],s,u,h=>rfl
 |k::r,s,u,h=>by
  rw[usmall,Fj row 3 u h];exact Py row r _ u h
def Z7j (No:Nat->Prop)(B:Nat)(w:World)(b:Nat)(R f1 f2:Value)(S:List Int)(us:US)(e:Ending)(w':World):Prop:=
 (us.e≠0/\e=Flt us.e/\Bl No B w w')\/ (us.e=0/\errL S≠0/\e=Flt (errL S)/\Bl No B w w')\/ (us.e=0/\errL S=0/\Rk No B w b R f1 f2 us w'/\∃gr gm mb nn,e=.returned (DV gr gm)/\w.heap.size<=gr/\w.heap.size<=gm/\w.heap.size<=mb/\mb<w'.heap.size/\DIs w' gr gm mb nn b S)
theorem Ns (No:Nat->Prop)(B b:Nat)(a:Option Addr)(n H:Nat)(bs:List Nat)(M O:Value)(u:US)(w:World)(F:IIs No B w b (.slice a n H) M O u)(bo:Rd w No a n bs)(bg:u.p<=8*n)(b9:u.e=0)(ce:∀g,w.heap.size<=g->¬No g)(c:Nat)(c6:c<=19)(S:List Int)(Y:US)(av:Hid (usmall (rowB bs n) (ord19.take c) (List.replicate 19 0) u=(S,Y))):
 Calls Tryz.prog 272 #[.pointer (some ⟨b,0,none⟩),.int .i64 (c:Int)] w fun e w'=>Z7j No B w b (.slice a n H) M O S Y e w':=by
 have bu:=Af bs n;have dl:=F.lt;have dm:=F.base;obtain⟨N,ah⟩:=exq (w.heap.size);have bz:=Ab (Rk.refl F);have cd:=Ab bo;have cw:=Ab (And.intro bg b9);have cv:=Ab ce;obtain⟨T,ao⟩:=exq (SE);have a9:=Ab ao;have b4:=Ab (fun W=>by have:=D5 W;rw[ao]at this;exact this);have b8:T.length=19:=by rw[<-ao];rfl
 have ct:(Tryz.prog.info? 321).map (·.size)=some (iv T).toArray.size:=by rw[ON];simp[b8]
 clear F bo bg b9 ao ce;go_enter Tryz.func272,Tryz.ntmps272
 go_wp2_with fail
 refine(Aa b4 _).mono ?_;rintro e U ⟨rfl,af⟩
 have bk:ARow 321 U N (List.replicate 19 0):=by
  rw[<-ah];exact(af.block _ (by simp)).trans ((heap_alloc_new _ _).trans (by kernel_rfl))
 have bw:Below N w U:=by
  rw[<-ah];exact((Below.refl w.heap.size w).alloc (VB _) _).trans (af.mono (by simp))
 have cu:=af.size;simp only[World.size_alloc]at cu;have b0:(U.alloc (.cells (iv (List.replicate 19 0)).toArray 321)).heap[U.heap.size]? =some (.cells (iv (List.replicate 19 0)).toArray 321 (0,0)):=heap_alloc_new _ _;have a3:=Ab b0;have b3:=Ab bk;have bi:=Ab bw;clear b0 af bk bw;go_upto_region 3 with (refine wpList_store_row rfl 321 (.tmp 6) (.tmp 8) rfl U.heap.size _ rfl rfl 321 (iv (List.replicate 19 0)).toArray (Aa a3) ct (by simp[b8]) (Cy T) ?_)
 simp only[Act.put];generalize ae:World.setRow (World.alloc _ _) _ _=Z;obtain⟨go,ap⟩:=exq (U.heap.size);have bn:ARow 321 Z go T:=by rw[<-ae,<-ap];exact setRow_heap _ _ _ _ _ _ (Aa a3)
 have ba:Below N w Z:=by rw[<-ae];exact Bg ((Aa bi).alloc (by omega) _) (by omega) _
 have bb:ARow 321 Z N (List.replicate 19 0):=(Aa b3).keep (by rw[<-ae,Go.setRow_other _ _ _ _ (by omega)];exact Below.heap_alloc _ _ _ (by omega));have dj:go<Z.heap.size:=by rw[<-ae,<-ap];simp
 have b7:Rk No B w b (.slice a n H) M O u Z:=(Aa bz).past (by rw[ah];exact ba)
 try rw[ap]
 try rw[ah]
 have dp:N<go:=by omega
 have cm:=Ab bn;have dc:=Ab bb;have c7:=Ab b7;have db:Hid (∀wr,Bl No B w wr->Rd wr (NJ No w.heap.size) a n bs):=Ab (fun wr hb=>((Aa cd).keep hb.below.size hb.kp).wide (fun _ F=>.inl F));have bv:Hid (∀g,N<=g->NJ No w.heap.size g):=Ab (fun g G=>.inr (by omega));clear ae ap bn ba bb b7 a3 b3 bi cd bz b4;go_wp2;go_loopw [10] (fun a8 wr=>∃(i:Nat) (s:List Int) (x:US),i<=c/\a8=.int .i64 (i:Int)/\s.length=19/\Hid (ARow 321 wr N s)/\Hid (ARow 321 wr go T)/\Hid (Rk No B w b (.slice a n H) M O x wr)/\Hid (x.p<=8*n/\x.e=0)/\Hid (usmall (rowB bs n) ((ord19.take c).drop i) s x=(S,Y))) (fun a8 _=>c-(intOf a8).toNat)
 case atStart=>exact⟨0,List.replicate 19 0,u,VH _,rfl,by simp,dc,cm,c7,cw,av⟩
 case round=>
  obtain⟨i,s,x,hi,rfl,b5,ai,a6,hK,bf,a4⟩:=hrel
  by_cases cp:i<c
  . obtain⟨o1,o2⟩:=Z7r i (by omega);obtain⟨k,aw⟩:=exq (ord19.getD i 0);rw[aw]at o1 o2;have I:=Aa a4;rw[Z0j c i cp c6,aw,usmall]at I;obtain⟨r,v,hr⟩:∃r v,uget (rowB bs n) 3 x=(r,v):=⟨_,_,rfl⟩
    rw[hr]at I;have bd:Hid (usmall (rowB bs n) ((ord19.take c).drop (i+1)) (s.set k (r:Int)) v=(S,Y)):=Ab I;obtain⟨a7,aj⟩:=Aa bf;have ci:=(Aa hK).is;have bj:=Aa db wr (Aa hK).bl;have ar:=Ab (fun q=>Dx (NJ No w.heap.size) B b a n H 3 bs M O x (wr.drewN q) (ci.grown ⟨rfl,rfl,rfl,VB _,fun _ _ _=>rfl⟩) (bj.keep (VB _) (Kp.refl _ _)) a7 aj (by decide) r v (Ab hr));have dh:v.p<=8*n:=by have:=Gr (rowB bs n) 3 x (by rw[bu];exact a7);rw[hr,bu]at this;exact this
    have c8:wr.cell? ⟨go,i,none⟩=some (.int .i64 (k:Int)):=by
     have:=(Aa a6).cell i (by omega)
     rw[<-Aa a9,o1]at this;exact this
    have c5:=(Aa a6).lt;have da:=(Aa ai).lt;have ds:(i:Int)<(c:Int):=by omega
    have du:(i:Int)<19:=by omega
    have dq:(k:Int)<19:=by omega
    have cq:=Ab o1;have cy:=(Aa hK).bl.below.size;clear I hr ci bj o1 aw
    by_cases ac:v.e=0
    . have de:Hid (∀q,Calls Tryz.prog 230 #[.pointer (some ⟨b,0,none⟩),.int .i64 3] (wr.drewN q) fun e w'=>e=.returned (.int .i64 (r:Int))/\w'.cell? ⟨go,i,none⟩=some (.int .i64 (k:Int))/\w'.cell? ⟨N,k,none⟩=some (.int .i64 (s.getD k 0))/\w'.frozen? ⟨N,k,none⟩=false/\Hid (∀y,ARow 321 (w'.setCell ⟨N,k,none⟩ (.int .i64 y)) N (s.set k y)/\ARow 321 (w'.setCell ⟨N,k,none⟩ (.int .i64 y)) go T/\Rk No B w b (.slice a n H) M O v (w'.setCell ⟨N,k,none⟩ (.int .i64 y)))):=Ab (fun q=>(Aa ar q).mono (fun e w' G=>by
       rcases G with ⟨_,az,e2⟩|⟨e0,_⟩
       . have ay:ARow 321 w' N s:=(Aa ai).keep (e2.kp N da (Aa bv N (VB _)));have a1:ARow 321 w' go T:=(Aa a6).keep (e2.kp go c5 (Aa bv go (by omega)));refine⟨az, ?_,ay.cell k (by omega),ay.frozen k,Ab (fun y=>⟨ay.set k y,a1.keep ((Ad w' N k _).block _ a1.lt (fun e=>by have:=VM e;omega)), ?_⟩)⟩
         . have:=a1.cell i (by omega)
           rw[<-Aa a9,Aa cq]at this;exact this
         . have k2:=((Aa hK).drewN q).num e2;have ak:=Ad w' N k (.int .i64 y);refine⟨?_,k2.bl.trans ⟨(Below.refl B w').grown ak (VU k2.is.base (YX k2.is.lt)) (fun g e=>by cases e;omega),fun g G hn=>ak.block g G (fun e=> ?_)⟩⟩
           . obtain⟨ov,kv,a2,ax,a5,al,aa,cj⟩:=k2.is.ex
             have bm:∀z:Value,(∀g,z.ownBlock=some g->¬NJ No w.heap.size g)->∀g,z.ownBlock=some g->(w'.setCell ⟨N,k,none⟩ (.int .i64 y)).heap[g]? =w'.heap[g]? :=fun z bc g G=>by
              have cz:g<w'.heap.size\/w'.heap.size<=g:=by omega
              rcases cz with bq|bq
              . exact ak.block g bq (fun e=>bc g G (.inr (by have:=VM e;omega)))
              . exact absurd (.inr (by have:=k2.bl.below.size;omega)) (bc g G)
             exact⟨k2.is.base,k2.is.no,ov,kv,(ak.block b k2.is.lt (fun e=>by have:=VM e;omega)).trans a2,Au ax (bm ov aa),Au a5 (bm kv cj),al,aa,cj⟩
           . have:=VM e
             exact Aa cv g (by omega) hn
       . exact absurd ac e0))
      clear ar;go_wp2;go_region_with (go_at_call 230;refine(Aa de _).mono ?_;rintro e ag ⟨rfl,di,dn,dt,E⟩)
      all_goals
       go_wp2;go_roundw
       case rel=>exact⟨i+1,s.set k (r:Int),v,by omega,by go_num,by rw[XS];exact b5,Ab (Aa E _).1,Ab (Aa E _).2.1,Ab (Aa E _).2.2,Ab ⟨dh,ac⟩,bd⟩
       case measure=>simp[intOf];omega
    . have E:Hid (Y=v):=Ab (by
       have:=Aa bd
       have bh:=Py (rowB bs n) ((ord19.take c).drop (i+1)) (s.set k (r:Int)) v ac;rw[this]at bh;exact bh)
      have df:Hid (∀q,Calls Tryz.prog 230 #[.pointer (some ⟨b,0,none⟩),.int .i64 3] (wr.drewN q) fun e w'=>e=Flt v.e/\Bl No B w w'):=Ab (fun q=>(Aa ar q).mono (fun e w' G=>by
       rcases G with ⟨e0,_⟩|⟨_,az,e2⟩
       . exact absurd e0 ac
       . exact⟨az,((Aa hK).bl.drewN q).trans (e2.weaken (fun _ F=>.inl F))⟩))
      clear ar;go_wp2;refine wp_region_held_drew (S:=fun w'=>w'.cell? ⟨go,i,none⟩=some (.int .i64 (k:Int))) (by kernel_rfl) c8 (fun au=> ?_);refine tkH (i:=0) (v:=.int .i64 (i:Int)) au ?_;simp only[Act.put,VA,VC,VD];refine tkH (i:=1) (v:=.pointer (some ⟨go,i,none⟩)) au ?_;simp only[Act.put,VA,VC,VD];refine wpAnyH_take (i:=2) (v:=.int .i64 (k:Int)) rfl (by kernel_rfl) (by kernel_rfl) (by kernel_rfl) (fun _ _ _ F=>F) (cn.inl ⟨by rfl,fun W av=>by have dr:W.cell? ⟨go,i,none⟩=some (.int .i64 (k:Int)):=av;go_simp⟩) au ?_;simp only[Act.put,VA,VC,VD];refine tkH (i:=3) (v:=.pointer (some ⟨b,0,none⟩)) au ?_;simp only[Act.put,VA,VC,VD];refine rdH (i:=4) fun K hK=> ?_
      go_simp
      refine(Aa df _).mono ?_;rintro e ag ⟨rfl,c9⟩;exact And.intro rfl (cn.inl ⟨by rw[Aa E];exact ac,by rw[Aa E],c9⟩)
  . obtain rfl:i=c:=by omega
    obtain⟨a7,aj⟩:=Aa bf;have I:=Aa a4;rw[XR (by rw[VL];exact ZP _ _),usmall]at I;obtain⟨rfl,rfl⟩:=VN I;have dd:=Ab (Kt b (some ⟨N,0,none⟩) 19 19 s wr b5 (by decide) (.inr ⟨N,0,rfl,(Aa ai).lt,(Aa ai).row⟩));have cy:=(Aa hK).bl.below.size;clear I a4 av;go_wp2_with fail
    refine(Aa dd).mono ?_;rintro e ag ⟨co,ck⟩;have cg:=Ab ((Aa hK).past co)
    rcases ck with ⟨d0,gr,gm,mb,nn,rfl,a2,ax,a5,al,aa⟩|⟨d0,rfl⟩
    . have E:Hid (Z7j No B w b (.slice a n H) M O s x (.returned (DV gr gm)) ag):=Ab (.inr (.inr ⟨aj,d0,Aa cg,gr,gm,mb,nn,rfl,by omega,by omega,by omega,al,aa⟩));clear a2 ax a5 al aa d0;go_wp2;go_ret;exact Aa E
    . have E:Hid (Z7j No B w b (.slice a n H) M O s x (Flt (errL s)) ag):=Ab (.inr (.inl ⟨aj,d0,rfl,(Aa cg).bl⟩));clear d0;go_wp2;exact⟨rfl,Aa E⟩
theorem Z3v (No:Nat->Prop)(B b:Nat)(a:Option Addr)(n ah:Nat)(bs:List Nat)(ae ag:Value)(u:US)(w:World)(h:IIs No B w b (.slice a n ah) ae ag u)(a1:Rd w No a n bs)(a7:u.p<=8*n)(ax:u.e=0)(al:Option Addr)(M av:Nat)(l:List Int)(Y:l.length=M)(bq:M<=1000)(ak:RowIn .i64 w al l)(ao:∀g o,al=some ⟨g,o,none⟩->l≠ []->No g)(k:Nat)(bv:k<19)(x:Int)(t:Nat)(v:US)(I:Hid (ukind (rowB bs n) l k u=(x,t,v))):
 Calls Tryz.prog 282 #[.pointer (some ⟨b,0,none⟩),.int .i64 (k:Int),.slice al M av] w fun e w'=>Got No B w b (.slice a n ah) ae ag (.tuple #[.int .i64 x,.int .i64 (t:Int)]) v e w':=by
 have H:=Ab h;have bw:=Ab a1;have T:Hid (∀q (size least r:Nat) (y:US),size<=16->least<=40000->uget (rowB bs n) size u=(r,y)->Calls Tryz.prog 266 #[.pointer (some ⟨b,0,none⟩),.int .i64 (least:Int),.int .i64 (size:Int)] (w.drewN q) fun e w'=>Got No B w b (.slice a n ah) ae ag (.int .i64 ((least+r:Nat):Int)) y e w'):=Ab (fun q size least r y a9 az bg=>(Iw No B b a n ah size least bs ae ag u (w.drewN q) (h.grown ⟨rfl,rfl,rfl,VB _,fun _ _ _=>rfl⟩) (a1.keep (VB _) (Kp.refl _ _)) a7 ax a9 az r y (Ab bg)).mono (fun e w' G=>Got.from G (Ae (Below.refl _ _) q) (fun _ _ _=>rfl)));have a6:=Ab ax;clear h a1 a7 ax
 by_cases ac:k=16
 . subst ac
   by_cases a2:M=0
   . subst a2
     have E:Hid (v= {u with e:=8}):=Ab (by
      have:=Aa I
      unfold ukind at this;rw[if_pos rfl,if_pos Y]at this;have az:=(VN (VN this).2).2;rw[<-az];unfold Am;rw[if_pos (Aa a6)])
     clear T Y ak ao;go_enter Tryz.func282,Tryz.ntmps282
     go_wp2_with fail
     refine(Cf 8 _).mono ?_;rintro e b0 ⟨rfl,rfl⟩;go_wp2;exact⟨rfl,.inr ⟨by rw[Aa E];exact(by decide:(8:Int)≠0),by rw[Aa E],Bl.refl _ _ _⟩⟩
   . obtain⟨r,y,F⟩:∃r y,uget (rowB bs n) 2 u=(r,y):=⟨_,_,rfl⟩
     obtain⟨q,a8⟩:=exq (M-1)
     have E:Hid (x=l.getD q 0/\t=3+r/\v=y):=Ab (by
      have:=Aa I
      unfold ukind at this;rw[if_pos rfl,if_neg (by omega),F,Y,a8]at this;exact⟨(VN this).1.symm,(VN (VN this).2).1.symm,(VN (VN this).2).2.symm⟩)
     have U:=Ab (fun q=>Aa T q 2 3 r y (by decide) (by decide) F)
     obtain⟨g,o,rfl,bb,a4⟩:∃g o,al=some ⟨g,o,none⟩/\g<w.heap.size/\Row .i64 w g o l:=by
      rcases ak with O|O
      . rw[O]at Y;simp at Y;omega
      . exact O
     have bi:No g:=ao g o rfl (fun e=>by rw[e]at Y;simp at Y;omega);have ap:w.cell? ⟨g,o+q,none⟩=some (.int .i64 (l.getD q 0)):=a4 q (by omega);obtain⟨z,a5⟩:=exq (l.getD q 0);rw[a5]at ap E;have bn:((M:Int)==0)=false:=by rw[beq_eq_false_iff_ne];omega
     have b3:IntKind.i64.wrap ((M:Int)-1)=(M:Int)-1:=by simp[IntKind.wrap,IntKind.signed,IntKind.bits];omega
     have bu:(1:Int)<=(M:Int):=by omega
     have bz:(M:Int)-1<(M:Int):=by omega
     have bk:((M:Int)-1).toNat=q:=by omega
     clear F T a4 ak ao a5 Y I a8 a2
     by_cases O:y.e=0
     . have bc:Hid (∀aa,Calls Tryz.prog 266 #[.pointer (some ⟨b,0,none⟩),.int .i64 3,.int .i64 2] (w.drewN aa) fun e w'=>e=.returned (.int .i64 ((3+r:Nat):Int))/\w'.cell? ⟨g,o+q,none⟩=some (.int .i64 z)/\Hid (IUp No B w b (.slice a n ah) ae ag y w')):=Ab (fun aa=>(Aa U aa).mono (fun e w' G=>by
        rcases G with ⟨_,ar,e2⟩|⟨e0,_⟩
        . exact⟨ar,(World.cell?_of_block (w:=w) (a:=⟨g,_,none⟩) (e2.kp g bb bi)).trans ap,Ab e2⟩
        . exact absurd O e0))
       clear U;go_enter Tryz.func282,Tryz.ntmps282
       go_wp2;go_region_with (go_at_call 266;refine(Aa bc _).mono ?_;rintro e aw ⟨rfl,bm,bh⟩)
       all_goals try go_wp2
       all_goals refine bodyPost_ret (v:=.tuple #[.int .i64 z,.int .i64 ((3+r:Nat):Int)]) ?_ rfl (.inl ⟨by rw[(Aa E).2.2];exact O,by rw[(Aa E).1,(Aa E).2.1],by rw[(Aa E).2.2];exact Aa bh⟩)
       all_goals first|rfl|kernel_rfl
     . have bd:Hid (∀aa,Calls Tryz.prog 266 #[.pointer (some ⟨b,0,none⟩),.int .i64 3,.int .i64 2] (w.drewN aa) fun e w'=>e=Flt y.e/\Bl No B w w'):=Ab (fun aa=>(Aa U aa).mono (fun e w' G=>by
        rcases G with ⟨e0,_⟩|⟨_,ar,e2⟩
        . exact absurd e0 O
        . exact⟨ar,e2⟩))
       clear U;go_enter Tryz.func282,Tryz.ntmps282
       go_wp2;refine wp_region_held_drew (S:=fun w'=>w'.cell? ⟨g,o+q,none⟩=some (.int .i64 z)) (by kernel_rfl) ap (fun Z=> ?_);refine tkH (i:=0) (v:=.slice (some ⟨g,o,none⟩) M av) Z ?_;simp only[Act.put,VA,VC,VD];refine tkH (i:=1) (v:=.slice (some ⟨g,o,none⟩) M av) Z ?_;simp only[Act.put,VA,VC,VD];refine tkH (i:=2) (v:=.int .i64 (M:Int)) Z ?_;simp only[Act.put,VA,VC,VD];refine tkH (i:=3) (v:=.int .i64 ((M:Int)-1)) Z ?_;simp only[Act.put,VA,VC,VD];refine tkH (i:=4) (v:=.pointer (some ⟨g,o+q,none⟩)) Z ?_;simp only[Act.put,VA,VC,VD];refine wpAnyH_take (i:=5) (v:=.int .i64 z) rfl (by kernel_rfl) (by kernel_rfl) (by kernel_rfl) (fun _ _ _ h=>h) (bj.inl ⟨by rfl,fun W bf=>by have b4:W.cell? ⟨g,o+q,none⟩=some (.int .i64 z):=bf;go_simp⟩) Z ?_;simp only[Act.put,VA,VC,VD];refine tkH (i:=6) (v:=.pointer (some ⟨b,0,none⟩)) Z ?_;simp only[Act.put,VA,VC,VD];refine rdH (i:=7) fun K hK=> ?_
       go_simp
       refine(Aa bd _).mono ?_;rintro e aw ⟨rfl,af⟩;exact And.intro rfl (bj.inr ⟨by rw[(Aa E).2.2];exact O,by rw[(Aa E).2.2],af⟩)
 . have a3:((k:Int)==16)=false:=by rw[beq_eq_false_iff_ne];omega
   clear ak ao
   by_cases aj:k=17
   . subst aj;obtain⟨r,y,F⟩:∃r y,uget (rowB bs n) 3 u=(r,y):=⟨_,_,rfl⟩
     have E:Hid (x=0/\t=3+r/\v=y):=Ab (by
      have:=Aa I
      unfold ukind at this;rw[if_neg (by decide),if_pos rfl,F]at this;exact⟨(VN this).1.symm,(VN (VN this).2).1.symm,(VN (VN this).2).2.symm⟩)
     have U:=Ab (Aa T 0 3 3 r y (by decide) (by decide) F);clear F T I a3 ac;go_enter Tryz.func282,Tryz.ntmps282
     go_wp2_with fail
     refine(Aa U).mono ?_;rintro e aw G
     rcases G with ⟨e0,rfl,ai⟩|⟨e0,rfl,af⟩
     . have au:=Ab ai;clear ai;go_wp2;refine bodyPost_ret (v:=.tuple #[.int .i64 0,.int .i64 ((3+r:Nat):Int)]) ?_ rfl (.inl ⟨by rw[(Aa E).2.2];exact e0,by rw[(Aa E).1,(Aa E).2.1],by rw[(Aa E).2.2];exact Aa au⟩)
       first|rfl|kernel_rfl
     . go_wp2;exact⟨rfl,.inr ⟨by rw[(Aa E).2.2];exact e0,by rw[(Aa E).2.2],af⟩⟩
   . have ba:((k:Int)==17)=false:=by rw[beq_eq_false_iff_ne];omega
     by_cases ay:k=18
     . subst ay;obtain⟨r,y,F⟩:∃r y,uget (rowB bs n) 7 u=(r,y):=⟨_,_,rfl⟩
       have E:Hid (x=0/\t=11+r/\v=y):=Ab (by
        have:=Aa I
        unfold ukind at this;rw[if_neg (by decide),if_neg (by decide),if_pos rfl,F]at this;exact⟨(VN this).1.symm,(VN (VN this).2).1.symm,(VN (VN this).2).2.symm⟩)
       have U:=Ab (Aa T 0 7 11 r y (by decide) (by decide) F);clear F T I a3 ac ba aj;go_enter Tryz.func282,Tryz.ntmps282
       go_wp2_with fail
       refine(Aa U).mono ?_;rintro e aw G
       rcases G with ⟨e0,rfl,ai⟩|⟨e0,rfl,af⟩
       . have au:=Ab ai;clear ai;go_wp2;refine bodyPost_ret (v:=.tuple #[.int .i64 0,.int .i64 ((11+r:Nat):Int)]) ?_ rfl (.inl ⟨by rw[(Aa E).2.2];exact e0,by rw[(Aa E).1,(Aa E).2.1],by rw[(Aa E).2.2];exact Aa au⟩)
         first|rfl|kernel_rfl
       . go_wp2;exact⟨rfl,.inr ⟨by rw[(Aa E).2.2];exact e0,by rw[(Aa E).2.2],af⟩⟩
     . have bo:((k:Int)==18)=false:=by rw[beq_eq_false_iff_ne];omega
       have E:Hid (x=(k:Int)/\t=1/\v=u):=Ab (by
        have:=Aa I
        unfold ukind at this;rw[if_neg ac,if_neg aj,if_neg ay]at this;exact⟨(VN this).1.symm,(VN (VN this).2).1.symm,(VN (VN this).2).2.symm⟩)
       clear I ac aj ay T;go_enter Tryz.func282,Tryz.ntmps282
       go_wp2;refine bodyPost_ret (v:=.tuple #[.int .i64 (k:Int),.int .i64 1]) ?_ rfl (.inl ⟨by rw[(Aa E).2.2];exact Aa a6,by rw[(Aa E).1,(Aa E).2.1];rfl,by rw[(Aa E).2.2];exact IUp.refl (Aa H)⟩)
       first|rfl|kernel_rfl
end Go.Proofs.YtleocpdblhbimaaGreatDoor
namespace Go.Proofs.YtleocpdblhbimaaGreatDoor
set_option linter.unusedVariables false
set_option maxRecDepth 100000
theorem Z2 (l:List Int)(G:l.length<=288)(F:∀x∈l,0<=x/\x<=15):errL l=0\/errL l=8:=by
 unfold errL;rw[if_neg (by omega),if_neg]
 . split
   . exact .inr rfl
   . exact .inl rfl
 . rintro ⟨j,E,hb⟩;have hm:=F (l.getD j 0) (by rw[List.getD,VP E];exact WK E);have:=Hw hb
   omega
theorem KG (row:List Bool)(l:List Int)(k:Nat)(u:US)(H:k<19)(G:∀x∈l,0<=x/\x<=15)(E:(ukind row l k u).2.2.e=0):0<=(ukind row l k u).1/\(ukind row l k u).1<=15:=by
 unfold ukind at E ⊢
 by_cases c:k=16
 . rw[if_pos c]at E ⊢
   by_cases d:l.length=0
   . rw[if_pos d]at E;exact absurd E (Bm (by decide))
   . rw[if_neg d];have F:l.length-1<l.length:=by omega
     exact G _ (by rw[List.getD,VP F];exact WK F)
 . rw[if_neg c]
   split
   . exact⟨by simp,by simp⟩
   . split
     . exact⟨by simp,by simp⟩
     . simp only
       omega
theorem Uf {row:List Bool}{S:List Int}{tot:Nat}(I:S.length=19):∀(F:Nat) (l:List Int) (u:US),(∀x∈l,0<=x/\x<=15)->(ulens row S tot F l u).2.e=0->∀x∈(ulens row S tot F l u).1,0<=x/\x<=15
 |0,l,u,hl,h=>hl
 |F+1,l,u,hl,h=>by
  by_cases hc:l.length<tot/\u.e=0
  . obtain⟨r,e⟩:=Kj hc.1 hc.2 h;rw[e]at h ⊢;refine Uf I F _ _ ?_ h;rw[r.st];have M:=(Cn (k:=(uplace S row u).1) (v:=(uplace S row u).2) rfl r.pe).2.2.2.2.2;have H:=KG row l (uplace S row u).1 (uplace S row u).2 (by omega) hl r.ke;intro x G
    rcases WP.1 G with E|E
    . exact hl x E
    . rw[List.eq_of_mem_replicate E];exact H
  . rw[ulens,if_neg hc];exact hl
theorem Px {row:List Bool}:∀(ks:List Nat) (s:List Int) (u:US),(∀x∈s,0<=x/\x<=7)->∀x∈(usmall row ks s u).1,0<=x/\x<=7
 | [],s,u,h=>h
 |k::r,s,u,h=>by
  rw[usmall];refine Px r _ _ ?_;intro x F;have hl:=SD row 3 u
  rcases List.mem_or_eq_of_mem_set F with E|E
  . exact h x E
  . subst E;omega
end Go.Proofs.YtleocpdblhbimaaGreatDoor
namespace Go.Proofs.YtleocpdblhbimaaGreatDoor
open Go.RowKit
set_option linter.unusedVariables false
set_option maxRecDepth 100000
theorem Rk.aside {No:Nat->Prop}{B b:Nat}{w F I:World}{R M T:Value}{u:US}{r:Option Nat}(E:Rk No B w b R M T u F)(G:F.grownBy I r)(H:∀g,r=some g->w.heap.size<=g)(ag:∀g,w.heap.size<=g->¬No g)(ai:b<w.heap.size):Rk No B w b R M T u I:=by
 have aj:=E.bl.below.size;obtain⟨ov,kv,ae,Z,O,af,U,aa⟩:=E.is.ex
 have Y:∀ {e size n:Nat} {z:Value} {xs:List Value},F.ownsRow (b+1) e size z n xs->(∀g,z.ownBlock=some g->¬NJ No w.heap.size g)->∀g,z.ownBlock=some g->I.heap[g]? =F.heap[g]? :=fun {e size n z xs} ho hz g hg2=>
  G.block g (ho.lt g hg2).2 (fun e=>hz g hg2 (.inr (H g e.symm)))
 refine⟨⟨E.is.base,E.is.no,ov,kv,(G.block b E.is.lt (fun e=> ?_)).trans ae,Au Z (Y Z U),Au O (Y O aa),af,U,aa⟩,E.bl.trans ⟨(Below.refl B F).grown G (VU E.is.base (YX E.is.lt)) (fun g e=>by have:=H g e;have:=E.is.base;omega),fun g ac ah=>G.block g ac (fun e=>ag g (H g e.symm) ah)⟩⟩;have:=H b e.symm
 omega
theorem Rk.step {No:Nat->Prop}{B b:Nat}{w E G:World}{R H I g1 g2:Value}{u v:US}(F:Rk No B w b R H I u E)(k:Rk (NK No w.heap.size E.heap.size) B E b R g1 g2 v G):Rk No B w b R g1 g2 v G:=by
 have O:=F.bl.below.size;refine⟨k.is.weak (fun g M=> ?_),F.bl.trans (k.bl.weaken (fun _ F=>.inl F))⟩
 rcases M with e|e
 . exact .inl (.inl e)
 . by_cases c:g<E.heap.size
   . exact .inl (.inr ⟨e,c⟩)
   . exact .inr (by omega)
theorem Rk.inner {No:Nat->Prop}{B b:Nat}{w E:World}{R F G:Value}{u:US}(I:Rk No B w b R F G u E):IIs (NK No w.heap.size E.heap.size) B E b R F G u:=I.is.weak (fun g H=>by
 rcases H with e|e
 . exact .inl e
 . exact .inr e.1)
theorem Rk.sym {No:Nat->Prop}{B b:Nat}{w E G:World}{R H I:Value}{u v:US}(F:Rk No B w b R H I u E)(k:IUp (NK No w.heap.size E.heap.size) B E b R H I v G)(hK:Mx b E G):Rk No B w b R H I v G:=⟨F.is.back k.is hK,F.bl.trans (k.bl.weaken (fun _ F=>.inl F))⟩
def Z9d:Value->Nat
 | .slice _ n _=>n
 |_=>0
theorem Z0g {w:World}{B e H n F c:Nat}{xs:List Value}(I:w.ownsRow B e H (.slice (some ⟨F,0,none⟩) n c) n xs):n<=c:=by
 rcases I.2 with ⟨E,_⟩|⟨T,cap,cur,E,O,M,G⟩
 . cases E
 . cases E
   exact G.1
theorem Xh {w:World}{B n:Nat}{v:Value}{xs:List Int}(E:w.ownsRow B 3 1 v n (iv xs)):∃a c,v=.slice a n c/\xs.length=n/\RowIn .i64 w a xs/\∀g o,a=some ⟨g,o,none⟩->xs≠ []->B<=g:=by
 have hn:xs.length=n:=by have:=E.1;simpa using this
 rcases E.2 with ⟨F,G⟩|⟨g,cap,cur,F,G,I⟩
 . subst G;exact⟨none,0,F,hn,.inl (WV hn),fun g o e=>by cases e⟩
 . subst F;refine⟨_,_,rfl,hn,.inr ⟨g,0,rfl,(E.lt g rfl).2,fun j H=> ?_⟩,fun M o e _=>by cases e;exact G⟩;rw[WG,E.cellAt j (by omega)];simp[iv,List.getD,H]
theorem X9 (No:Nat->Prop)(B b:Nat)(a:Option Addr)(n T:Nat)(bs:List Nat)(O aa:Value)(u:US)(w:World)(Z:IIs No B w b (.slice a n T) O aa u)(bn:Rd w No a n bs)(b4:u.p<=8*n)(cp:u.e=0)(bj:∀g,w.heap.size<=g->¬No g)(al ak a2 cq:Nat)(S:List Int)(ax:DIs w al ak a2 cq b S)(cn:Good S)(ah:No al/\No ak/\No a2)(ep:S.length=19)(tot:Nat)(eo:tot<=400)(L:List Int)(v:US)(d8:Hid (ulens (rowB bs n) S tot tot [] u=(L,v))):
 Calls Tryz.prog 271 #[.pointer (some ⟨b,0,none⟩),DV al ak,.int .i64 (tot:Int)] w fun e w'=>(v.e≠0/\e=Flt v.e/\Bl No B w w')\/ (v.e=0/\Rk No B w b (.slice a n T) O aa v w'/\∃b0,e=.returned b0/\w'.ownsRow w.heap.size 3 1 b0 L.length (iv L)/\L.length=tot):=by
 have bu:=Af bs n;have d9:=Z.lt;obtain⟨db,c8,c9,d6,ds⟩:=info_parts Bv;have c7:=Ab (Rk.refl Z);have d7:=Ab (And.intro cp b4);have d5:=Ab bj;have ce:Hid (∀wr,Bl No B w wr->Rd wr (NJ No w.heap.size) a n bs/\Rd wr (NK No w.heap.size wr.heap.size) a n bs):=Ab (fun wr hb=>⟨(bn.keep hb.below.size hb.kp).wide (fun _ Z=>.inl Z),(bn.keep hb.below.size hb.kp).wide (fun _ Z=>.inl Z)⟩)
 have ed:Hid (∀wr x k y,Rk No B w b (.slice a n T) O aa x wr->x.p<=8*n->x.e=0->uplace S (rowB bs n) x=(k,y)->Calls Tryz.prog 281 #[.pointer (some ⟨al,0,none⟩),.pointer (some ⟨ak,0,none⟩)] wr fun e w'=>GotK (NK No w.heap.size wr.heap.size) B wr b (.slice a n T) O aa (.int .i64 (k:Int)) y e w'):=Ab (fun wr x k y ae ac ag a9=>by
  have l1:=ax.lt;have l2:=ax.is.lt;have da:=ae.bl.below.size
  exact BI (NK No w.heap.size wr.heap.size) B b a n T bs O aa x wr ae.inner (Aa ce wr ae.bl).2 ac ag al ak a2 cq S (ax.keep da (ae.bl.kp al l1.1 ah.1) (ae.bl.kp ak l1.2 ah.2.1) (ae.bl.kp a2 l2 ah.2.2)) cn ⟨.inl ah.1,.inl ah.2.1,.inl ah.2.2⟩ (fun g Y e=>by
   rcases e with e|e
   . exact bj g (by omega) e
   . omega) k y (Ab a9))
 have dy:Hid (∀wr x (ap:Option Addr) (M a8:Nat) (l:List Int) k E t y,Rk No B w b (.slice a n T) O aa x wr->x.p<=8*n->x.e=0->l.length=M->M<=1000->RowIn .i64 wr ap l->(∀g o,ap=some ⟨g,o,none⟩->l≠ []->w.heap.size<=g)->k<19->ukind (rowB bs n) l k x=(E,t,y)->Calls Tryz.prog 282 #[.pointer (some ⟨b,0,none⟩),.int .i64 (k:Int),.slice ap M a8] wr fun e w'=>Got (NJ No w.heap.size) B wr b (.slice a n T) O aa (.tuple #[.int .i64 E,.int .i64 (t:Int)]) y e w'):=Ab (fun wr x ap M a8 l k E t y ae ac ag a9 du c6 df dx a3=>
  Z3v (NJ No w.heap.size) B b a n T bs O aa x wr ae.is (Aa ce wr ae.bl).1 ac ag ap M a8 l a9 du c6 (fun g o U e2=>.inr (df g o U e2)) k dx E t y (Ab a3))
 clear Z bn b4 cp bj ax cn ah;go_enter Tryz.func271,Tryz.ntmps271
 go_wp2;go_loopw [7] (fun au wr=>∃(l:List Int) (F:Nat) (x:US),Hid (ulens (rowB bs n) S tot F l x=(L,v))/\Hid (tot<=l.length+F)/\Hid (l.length<=tot)/\Hid (x.e=0/\x.p<=8*n)/\Hid (Rk No B w b (.slice a n T) O aa x wr)/\Hid (wr.ownsRow w.heap.size 3 1 au l.length (iv l))) (fun au _=>1000-Z9d au)
 case atStart=>exact⟨[],tot,u,d8,Ab (by simp),Ab (by simp),d7,c7,Ab (World.ownsRow_nil _ _ _ _)⟩
 case round=>
  obtain⟨l,F,x,ay,bi,bm,dw,hK,af⟩:=hrel;obtain⟨b3,cg,rfl,bc,cz,dl⟩:=Xh (Aa af);obtain⟨M,aj⟩:=exq (l.length);have aw:=Ab aj;rw[aj]at bi bm af ⊢;have cw:=Aa bi;have eu:=Aa bm;obtain⟨bh,dm⟩:=Aa dw;clear bi bm bc
  by_cases ck:M<tot
  . cases F with
    |zero=>exact absurd cw (by omega)
    |succ F=>
     have ai:=Aa ay;rw[ulens,if_pos ⟨by rw[aj];exact ck,bh⟩]at ai;obtain⟨k,I,ac⟩:∃k I,uplace S (rowB bs n) x=(k,I):=⟨_,_,rfl⟩
     unfold ustep at ai;rw[ac]at ai;obtain⟨E,t,G,ag⟩:∃E t G,ukind (rowB bs n) l k I=(E,t,G):=⟨_,_,_,rfl⟩
     simp only at ai
     rw[ag]at ai;have ao:=Ab ai;have cj:=Ab (Aa ed wr x k I (Aa hK) dm bh ac)
     have dq:I.p<=8*n:=by
      have:=Ix S (rowB bs n) x (by omega)
      rw[ac,bu]at this;exact this
     have dd:=Ab ac;have ar:=Ab ag;have eb:(M:Int)<(tot:Int):=by omega
     clear ai ac ag ay aj;go_wp2_with fail
     refine(Aa cj).mono ?_;rintro e bv Y
     rcases Y with ⟨U,rfl,a5,cu⟩|⟨U,rfl,b9⟩
     rotate_left
     . have H:Hid (v=I):=Ab (by
        have e2:G=I:=by have:=KI (rowB bs n) l k I U;rw[Aa ar]at this;exact this
        have e3:=Zl tot l (E,t,G) (by rw[show (E,t,G).2.2=G from rfl,e2];exact U);have:=Aa ao
        rw[Js (by rw[e3,show (E,t,G).2.2=G from rfl,e2];exact U)]at this;rw[<-(VN this).2,e3];exact e2)
       have ba:=Ab ((Aa hK).bl.trans (b9.weaken (fun _ Z=>.inl Z)));clear b9;go_wp2;exact⟨rfl,.inl ⟨by rw[Aa H];exact U,by rw[Aa H],Aa ba⟩⟩
     have dr:k<19:=by
      have:=(Cn (Aa dd) U).2.2.2.2.2
      omega
     have a4:=Ab ((Aa hK).sym a5 cu);have av:Hid (bv.ownsRow w.heap.size 3 1 (.slice b3 M cg) M (iv l)):=Ab (Au (Aa af) (fun g Y=>a5.kp g ((Aa af).lt g Y).2 (.inr ⟨((Aa af).lt g Y).1,((Aa af).lt g Y).2⟩)));obtain⟨bd,a7,ct,bc,bq,ci⟩:=Xh (Aa av);obtain⟨rfl,rfl⟩:bd=b3/\a7=cg:=by cases ct;exact⟨rfl,rfl⟩
     have cv:=Ab (Aa dy bv I bd M a7 l k E t G (Aa a4) dq U bc (by omega) bq ci dr (Aa ar));have a1:=Zn (rowB bs n) l k I;rw[Aa ar]at a1;have eg:1<=t:=a1.1;have ej:t<=138:=a1.2
     have bo:G.e=0->G.p<=8*n:=fun e=>by
      have:=(KH (row:=rowB bs n) (l:=l) (k:=k) (u:=I) (by rw[Aa ar];exact e) (by omega)).2.1
      rw[Aa ar,bu]at this;exact this
     have dh:=Ab bo;clear a5 cu cz dl bq ci a1 bo ct af hK cj;go_wp2_with fail
     refine(Aa cv).mono ?_;rintro e b7 Y
     rcases Y with ⟨e2,rfl,bb⟩|⟨e2,rfl,co⟩
     rotate_left
     . have H:Hid (v=G):=Ab (by
        have e3:=Zl tot l (E,t,G) e2;have:=Aa ao
        rw[Js (by rw[e3];exact e2)]at this;rw[<-(VN this).2,e3])
       have ba:=Ab ((Aa a4).bl.trans (co.weaken (fun _ Z=>.inl Z)));clear co;go_wp2;exact⟨rfl,.inl ⟨by rw[Aa H];exact e2,by rw[Aa H],Aa ba⟩⟩
     have cm:=Ab ((Aa a4).num bb);have di:Hid (b7.ownsRow w.heap.size 3 1 (.slice bd M a7) M (iv l)):=Ab (Au (Aa av) (fun g Y=>bb.kp g ((Aa av).lt g Y).2 (.inr ((Aa av).lt g Y).1)));clear bb av a4 cv
     by_cases bw:tot<M+t
     . have H:Hid (v.e=8):=Ab (by
        have:=Aa ao
        unfold Td at this;rw[if_pos ⟨e2,by rw[Aa aw];exact bw⟩]at this;have a3:(Am 8 G).e=8:=by unfold Am;rw[if_pos e2]
        rw[Js (by show (Am 8 G).e≠0;rw[a3];decide)]at this;rw[<-(VN this).2];exact a3)
       have dj:(tot:Int)<(M:Int)+(t:Int):=by omega
       have c5:=Ab (Cf 8 b7);clear ao;go_wp2_with fail
       refine(Aa c5).mono ?_;rintro e w3 ⟨rfl,rfl⟩;go_wp2;exact⟨rfl,.inl ⟨by rw[Aa H];decide,by rw[Aa H],(Aa cm).bl⟩⟩
     . have dj:¬(tot:Int)<(M:Int)+(t:Int):=by omega
       have dt:Hid (ulens (rowB bs n) S tot F (l++List.replicate t E) G=(L,v)):=Ab (by
        have:=Aa ao
        unfold Td at this;rw[if_neg (fun c=>bw (by rw[<-Aa aw];exact c.2))]at this;exact this)
       clear ao;generalize wr=eh at*;go_wp2;go_loopw [7,30] (fun au a6 wr=>∃j:Nat,j<=t/\a6=.int .i64 (j:Int)/\Hid (Rk No B w b (.slice a n T) O aa G wr)/\Hid (wr.ownsRow w.heap.size 3 1 au (M+j) (iv (l++List.replicate j E)))) (fun _ a6 _=>t-(intOf a6).toNat)
       case atStart=>exact⟨0,VH _,rfl,cm,Ab (by rw[ZI,XA];exact Aa di)⟩
       case round=>
        obtain⟨j,ei,rfl,bf,az⟩:=hrel;obtain⟨cy,dp,rfl⟩:=An (Aa az)
        by_cases ee:j<t
        . have em:(j:Int)<(t:Int):=by omega
          have en:=(Aa bf).bl.below.size;go_wp2_with (at_builtin;refine wpList_append_own_at _ rfl _ _ 76 rfl w.heap.size 3 db (.int .i64 0) 1 8 Tryz.underlying76 c8 c9 d6 ds rfl (by decide) _ (M+j) (iv (l++List.replicate j E)) rfl ((Aa az).alloc _) ⟨wr.heap.size,0,none⟩ 1 1 [.int .i64 E] rfl rfl (cell_one_new _ _ _) (Bc rfl) (by unfold maxLen;omega) (by omega) (by simp;omega) ?_)
          intro v' b5 bk cd _ de;have dn:Hid (Rk No B w b (.slice a n T) O aa G b5):=Ab (((Aa bf).past ((Below.refl _ _).alloc (VB _) _)).aside cd (fun g e=>((Aa az).lt g e).1) (Aa d5) d9)
          have dv:Hid (b5.ownsRow w.heap.size 3 1 v' (M+(j+1)) (iv (l++List.replicate (j+1) E))):=Ab (by
           have U:iv (l++List.replicate (j+1) E)=List.map (Value.int .i64) l++(List.replicate j (.int .i64 E)++ [.int .i64 E]):=by
            rw[YY];simp[iv]
           rw[U];exact bk)
          obtain⟨ek,et,rfl⟩:=An bk;clear bk cd de;go_wp2;go_roundw
          case rel=>exact⟨j+1,by omega,by go_num,dn,dv⟩
          case measure=>simp[intOf];omega
        . obtain rfl:j=t:=by omega
          have bg:(l++List.replicate j E).length=M+j:=by rw[VE,XD,Aa aw]
          have dz:Hid (wr.ownsRow w.heap.size 3 1 (.slice cy (M+j) dp) (l++List.replicate j E).length (iv (l++List.replicate j E))):=Ab (by rw[bg];exact Aa az);have bz:=Ab bg;clear bg;go_wp2;go_roundw
          case rel=>exact⟨l++List.replicate j E,F,G,dt,Ab (by rw[Aa bz];omega),Ab (by rw[Aa bz];omega),Ab ⟨e2,Aa dh e2⟩,bf,dz⟩
          case measure=>show 1000-(M+j)<1000-M;omega
  . have H:Hid (L=l/\v=x):=Ab (by
     have:=Aa ay
     cases F with
     |zero=>exact⟨(VN this).1.symm,(VN this).2.symm⟩
     |succ F=>
      rw[ulens,if_neg (fun c=>ck (by rw[<-aj];exact c.1))]at this;exact⟨(VN this).1.symm,(VN this).2.symm⟩)
    have eb:¬(M:Int)<(tot:Int):=by omega
    have b8:M=tot:=by omega
    have dc:=Ab b8;clear ay aj b8;go_wp2;go_ret;refine .inr ⟨by rw[(Aa H).2];exact bh,by rw[(Aa H).2];exact Aa hK,_,rfl, ?_, ?_⟩
    . rw[(Aa H).1,Aa aw];exact Aa af
    . rw[(Aa H).1,Aa aw];exact Aa dc
end Go.Proofs.YtleocpdblhbimaaGreatDoor
