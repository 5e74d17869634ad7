import Derived.Test.YtleocpdblhbimaaGreatDoorQ21
import Derived.Maps.AppendAt
set_option linter.unusedSimpArgs false
set_option linter.unusedVariables false
set_option maxRecDepth 100000
set_option maxHeartbeats 8000000
namespace Go.Proofs.YtleocpdblhbimaaGreatDoor
open Go.RowKit
theorem Z7r:∀q,q<19->SE.getD q 0=((ord19.getD q 0:Nat):Int)/\ord19.getD q 0<19:=by decide
theorem Z0j (c i:Nat)(E:i<c)(F:c<=19):(ord19.take c).drop i=ord19.getD i 0::(ord19.take c).drop (i+1):=by
 have hl:ord19.length=19:=rfl;have hi:i<(ord19.take c).length:=by rw[VL,hl];omega
 rw[WS hi,YN]
 congr 1
 rw[List.getD,VP (by omega)];rfl
theorem Py (row:List Bool):∀(ks:List Nat) (s:List Int) (u:US),u.e≠0->(usmall row ks s u).2=u
 | [],s,u,h=>rfl
 |k::r,s,u,h=>by
  rw[usmall,Fj row 3 u h];exact Py row r _ u h
def Z7j (No:Nat->Prop)(B:Nat)(w:World)(b:Nat)(R f1 f2:Value)(S:List Int)(us:US)(e:Ending)(w':World):Prop:=
 (us.e≠0/\e=Flt us.e/\Bl No B w w')\/ (us.e=0/\errL S≠0/\e=Flt (errL S)/\Bl No B w w')\/ (us.e=0/\errL S=0/\Rk No B w b R f1 f2 us w'/\∃gr gm mb nn,e=.returned (DV gr gm)/\w.heap.size<=gr/\w.heap.size<=gm/\w.heap.size<=mb/\mb<w'.heap.size/\DIs w' gr gm mb nn b S)
theorem Ns (No:Nat->Prop)(B b:Nat)(a:Option Addr)(n H:Nat)(bs:List Nat)(O I:Value)(u:US)(w:World)(E:IIs No B w b (.slice a n H) O I u)(b4:Rd w No a n bs)(bi:u.p<=8*n)(bw:u.e=0)(ce:∀g,w.heap.size<=g->¬No g)(c:Nat)(c8:c<=19)(S:List Int)(aa:US)(ak:Hid (usmall (rowB bs n) (ord19.take c) (List.replicate 19 0) u=(S,aa))):
 Calls Tryz.prog 272 #[.pointer (some ⟨b,0,none⟩),.int .i64 (c:Int)] w fun e w'=>Z7j No B w b (.slice a n H) O I S aa e w':=by
 have bk:=Af bs n;have du:=E.lt;have dn:=E.base;obtain⟨N,aj⟩:=exq (w.heap.size);have bc:=Ab (Rk.refl E);have bh:=Ab b4;have cw:=Ab (And.intro bi bw);have c6:=Ab ce;obtain⟨T,ai⟩:=exq (SE);have b7:=Ab ai;have bg:=Ab (fun W=>by have:=D5 W;rw[ai]at this;exact this);have bm:T.length=19:=by rw[<-ai];rfl
 have df:(Tryz.prog.info? 321).map (·.size)=some (iv T).toArray.size:=by rw[ON];simp[bm]
 clear E b4 bi bw ai ce;go_enter Tryz.func272,Tryz.ntmps272
 go_wp2_with fail
 refine(Aa bg _).mono ?_;rintro e U ⟨rfl,av⟩
 have bv:ARow 321 U N (List.replicate 19 0):=by
  rw[<-aj];exact(av.block _ (by simp)).trans ((heap_alloc_new _ _).trans (by kernel_rfl))
 have cd:Below N w U:=by
  rw[<-aj];exact((Below.refl w.heap.size w).alloc (VB _) _).trans (av.mono (by simp))
 have cy:=av.size;simp only[World.size_alloc]at cy;have b3:(U.alloc (.cells (iv (List.replicate 19 0)).toArray 321)).heap[U.heap.size]? =some (.cells (iv (List.replicate 19 0)).toArray 321 (0,0)):=heap_alloc_new _ _;have a8:=Ab b3;have bd:=Ab bv;have a9:=Ab cd;clear b3 av bv cd;go_upto_region 3 with (refine wpList_store_row rfl 321 (.tmp 6) (.tmp 8) rfl U.heap.size _ rfl rfl 321 (iv (List.replicate 19 0)).toArray (Aa a8) df (by simp[bm]) (Cy T) ?_)
 simp only[Act.put];generalize ae:World.setRow (World.alloc _ _) _ _=Y;obtain⟨go,ar⟩:=exq (U.heap.size);have bn:ARow 321 Y go T:=by rw[<-ae,<-ar];exact setRow_heap _ _ _ _ _ _ (Aa a8)
 have b5:Below N w Y:=by rw[<-ae];exact Bg ((Aa a9).alloc (by omega) _) (by omega) _
 have bj:ARow 321 Y N (List.replicate 19 0):=(Aa bd).keep (by rw[<-ae,Go.setRow_other _ _ _ _ (by omega)];exact Below.heap_alloc _ _ _ (by omega));have dl:go<Y.heap.size:=by rw[<-ae,<-ar];simp
 have bb:Rk No B w b (.slice a n H) O I u Y:=(Aa bc).past (by rw[aj];exact b5)
 try rw[ar]
 try rw[aj]
 have dj:N<go:=by omega
 have cm:=Ab bn;have cq:=Ab bj;have c5:=Ab bb;have cz:Hid (∀wr,Bl No B w wr->Rd wr (NJ No w.heap.size) a n bs):=Ab (fun wr hb=>((Aa bh).keep hb.below.size hb.kp).wide (fun _ E=>.inl E));have b8:Hid (∀g,N<=g->NJ No w.heap.size g):=Ab (fun g G=>.inr (by omega));clear ae ar bn b5 bj bb a8 bd a9 bh bc bg;go_wp2;go_loopw [10] (fun ay wr=>∃(i:Nat) (s:List Int) (x:US),i<=c/\ay=.int .i64 (i:Int)/\s.length=19/\Hid (ARow 321 wr N s)/\Hid (ARow 321 wr go T)/\Hid (Rk No B w b (.slice a n H) O I x wr)/\Hid (x.p<=8*n/\x.e=0)/\Hid (usmall (rowB bs n) ((ord19.take c).drop i) s x=(S,aa))) (fun ay _=>c-(intOf ay).toNat)
 case atStart=>exact⟨0,List.replicate 19 0,u,VH _,rfl,by simp,cq,cm,c5,cw,ak⟩
 case round=>
  obtain⟨i,s,x,hi,rfl,bu,af,a2,hK,ba,a7⟩:=hrel
  by_cases cu:i<c
  . obtain⟨o1,o2⟩:=Z7r i (by omega);obtain⟨k,a1⟩:=exq (ord19.getD i 0);rw[a1]at o1 o2;have M:=Aa a7;rw[Z0j c i cu c8,a1,usmall]at M;obtain⟨r,v,hr⟩:∃r v,uget (rowB bs n) 3 x=(r,v):=⟨_,_,rfl⟩
    rw[hr]at M;have b0:Hid (usmall (rowB bs n) ((ord19.take c).drop (i+1)) (s.set k (r:Int)) v=(S,aa)):=Ab M;obtain⟨a3,al⟩:=Aa ba;have bz:=(Aa hK).is;have bo:=Aa cz wr (Aa hK).bl;have au:=Ab (fun q=>Dx (NJ No w.heap.size) B b a n H 3 bs O I x (wr.drewN q) (bz.grown ⟨rfl,rfl,rfl,VB _,fun _ _ _=>rfl⟩) (bo.keep (VB _) (Kp.refl _ _)) a3 al (by decide) r v (Ab hr));have cp:v.p<=8*n:=by have:=Gr (rowB bs n) 3 x (by rw[bk];exact a3);rw[hr,bk]at this;exact this
    have dc:wr.cell? ⟨go,i,none⟩=some (.int .i64 (k:Int)):=by
     have:=(Aa a2).cell i (by omega)
     rw[<-Aa b7,o1]at this;exact this
    have dd:=(Aa a2).lt;have cn:=(Aa af).lt;have dm:(i:Int)<(c:Int):=by omega
    have dq:(i:Int)<19:=by omega
    have dr:(k:Int)<19:=by omega
    have da:=Ab o1;have ct:=(Aa hK).bl.below.size;clear M hr bz bo o1 a1
    by_cases ac:v.e=0
    . have ck:Hid (∀q,Calls Tryz.prog 230 #[.pointer (some ⟨b,0,none⟩),.int .i64 3] (wr.drewN q) fun e w'=>e=.returned (.int .i64 (r:Int))/\w'.cell? ⟨go,i,none⟩=some (.int .i64 (k:Int))/\w'.cell? ⟨N,k,none⟩=some (.int .i64 (s.getD k 0))/\w'.frozen? ⟨N,k,none⟩=false/\Hid (∀y,ARow 321 (w'.setCell ⟨N,k,none⟩ (.int .i64 y)) N (s.set k y)/\ARow 321 (w'.setCell ⟨N,k,none⟩ (.int .i64 y)) go T/\Rk No B w b (.slice a n H) O I v (w'.setCell ⟨N,k,none⟩ (.int .i64 y)))):=Ab (fun q=>(Aa au q).mono (fun e w' G=>by
       rcases G with ⟨_,az,e2⟩|⟨e0,_⟩
       . have ax:ARow 321 w' N s:=(Aa af).keep (e2.kp N cn (Aa b8 N (VB _)));have a5:ARow 321 w' go T:=(Aa a2).keep (e2.kp go dd (Aa b8 go (by omega)));refine⟨az, ?_,ax.cell k (by omega),ax.frozen k,Ab (fun y=>⟨ax.set k y,a5.keep ((Ad w' N k _).block _ a5.lt (fun e=>by have:=VM e;omega)), ?_⟩)⟩
         . have:=a5.cell i (by omega)
           rw[<-Aa b7,Aa da]at this;exact this
         . have k2:=((Aa hK).drewN q).num e2;have ag:=Ad w' N k (.int .i64 y);refine⟨?_,k2.bl.trans ⟨(Below.refl B w').grown ag (VU k2.is.base (YX k2.is.lt)) (fun g e=>by cases e;omega),fun g G hn=>ag.block g G (fun e=> ?_)⟩⟩
           . obtain⟨ov,kv,a4,a6,aw,ap,Z,cj⟩:=k2.is.ex
             have ci:∀z:Value,(∀g,z.ownBlock=some g->¬NJ No w.heap.size g)->∀g,z.ownBlock=some g->(w'.setCell ⟨N,k,none⟩ (.int .i64 y)).heap[g]? =w'.heap[g]? :=fun z cg g G=>by
              have c9:g<w'.heap.size\/w'.heap.size<=g:=by omega
              rcases c9 with bq|bq
              . exact ag.block g bq (fun e=>cg g G (.inr (by have:=VM e;omega)))
              . exact absurd (.inr (by have:=k2.bl.below.size;omega)) (cg g G)
             exact⟨k2.is.base,k2.is.no,ov,kv,(ag.block b k2.is.lt (fun e=>by have:=VM e;omega)).trans a4,Au a6 (ci ov Z),Au aw (ci kv cj),ap,Z,cj⟩
           . have:=VM e
             exact Aa c6 g (by omega) hn
       . exact absurd ac e0))
      clear au;go_wp2;go_region_with (go_at_call 230;refine(Aa ck _).mono ?_;rintro e ao ⟨rfl,dt,di,ds,F⟩)
      all_goals
       go_wp2;go_roundw
       case rel=>exact⟨i+1,s.set k (r:Int),v,by omega,by go_num,by rw[XS];exact bu,Ab (Aa F _).1,Ab (Aa F _).2.1,Ab (Aa F _).2.2,Ab ⟨cp,ac⟩,b0⟩
       case measure=>simp[intOf];omega
    . have F:Hid (aa=v):=Ab (by
       have:=Aa b0
       have bf:=Py (rowB bs n) ((ord19.take c).drop (i+1)) (s.set k (r:Int)) v ac;rw[this]at bf;exact bf)
      have db:Hid (∀q,Calls Tryz.prog 230 #[.pointer (some ⟨b,0,none⟩),.int .i64 3] (wr.drewN q) fun e w'=>e=Flt v.e/\Bl No B w w'):=Ab (fun q=>(Aa au q).mono (fun e w' G=>by
       rcases G with ⟨e0,_⟩|⟨_,az,e2⟩
       . exact absurd e0 ac
       . exact⟨az,((Aa hK).bl.drewN q).trans (e2.weaken (fun _ E=>.inl E))⟩))
      clear au;go_wp2;refine wp_region_held_drew (S:=fun w'=>w'.cell? ⟨go,i,none⟩=some (.int .i64 (k:Int))) (by kernel_rfl) dc (fun ah=> ?_);refine tkH (i:=0) (v:=.int .i64 (i:Int)) ah ?_;simp only[Act.put,VA,VC,VD];refine tkH (i:=1) (v:=.pointer (some ⟨go,i,none⟩)) ah ?_;simp only[Act.put,VA,VC,VD];refine wpAnyH_take (i:=2) (v:=.int .i64 (k:Int)) rfl (by kernel_rfl) (by kernel_rfl) (by kernel_rfl) (fun _ _ _ E=>E) (dh.inl ⟨by rfl,fun W ak=>by have dp:W.cell? ⟨go,i,none⟩=some (.int .i64 (k:Int)):=ak;go_simp⟩) ah ?_;simp only[Act.put,VA,VC,VD];refine tkH (i:=3) (v:=.pointer (some ⟨b,0,none⟩)) ah ?_;simp only[Act.put,VA,VC,VD];refine rdH (i:=4) fun K hK=> ?_
      go_simp
      refine(Aa db _).mono ?_;rintro e ao ⟨rfl,c7⟩;exact And.intro rfl (dh.inl ⟨by rw[Aa F];exact ac,by rw[Aa F],c7⟩)
  . obtain rfl:i=c:=by omega
    obtain⟨a3,al⟩:=Aa ba;have M:=Aa a7;rw[XR (by rw[VL];exact ZP _ _),usmall]at M;obtain⟨rfl,rfl⟩:=VN M;have co:=Ab (Kt b (some ⟨N,0,none⟩) 19 19 s wr bu (by decide) (.inr ⟨N,0,rfl,(Aa af).lt,(Aa af).row⟩));have ct:=(Aa hK).bl.below.size;clear M a7 ak;go_wp2_with fail
    refine(Aa co).mono ?_;rintro e ao ⟨cv,de⟩;have b9:=Ab ((Aa hK).past cv)
    rcases de with ⟨d0,gr,gm,mb,nn,rfl,a4,a6,aw,ap,Z⟩|⟨d0,rfl⟩
    . have F:Hid (Z7j No B w b (.slice a n H) O I s x (.returned (DV gr gm)) ao):=Ab (.inr (.inr ⟨al,d0,Aa b9,gr,gm,mb,nn,rfl,by omega,by omega,by omega,ap,Z⟩));clear a4 a6 aw ap Z d0;go_wp2;go_ret;exact Aa F
    . have F:Hid (Z7j No B w b (.slice a n H) O I s x (Flt (errL s)) ao):=Ab (.inr (.inl ⟨al,d0,rfl,(Aa b9).bl⟩));clear d0;go_wp2;exact⟨rfl,Aa F⟩
theorem Z3v (No:Nat->Prop)(B b:Nat)(a:Option Addr)(n ac:Nat)(bs:List Nat)(ag ae:Value)(u:US)(w:World)(h:IIs No B w b (.slice a n ac) ag ae u)(az:Rd w No a n bs)(a2:u.p<=8*n)(ap:u.e=0)(ao:Option Addr)(M au:Nat)(l:List Int)(O:l.length=M)(bu:M<=1000)(ak:RowIn .i64 w ao l)(al:∀g o,ao=some ⟨g,o,none⟩->l≠ []->No g)(k:Nat)(b3:k<19)(x:Int)(t:Nat)(v:US)(I:Hid (ukind (rowB bs n) l k u=(x,t,v))):
 Calls Tryz.prog 282 #[.pointer (some ⟨b,0,none⟩),.int .i64 (k:Int),.slice ao M au] w fun e w'=>Got No B w b (.slice a n ac) ag ae (.tuple #[.int .i64 x,.int .i64 (t:Int)]) v e w':=by
 have H:=Ab h;have b4:=Ab az;have T:Hid (∀q (size least r:Nat) (y:US),size<=16->least<=40000->uget (rowB bs n) size u=(r,y)->Calls Tryz.prog 266 #[.pointer (some ⟨b,0,none⟩),.int .i64 (least:Int),.int .i64 (size:Int)] (w.drewN q) fun e w'=>Got No B w b (.slice a n ac) ag ae (.int .i64 ((least+r:Nat):Int)) y e w'):=Ab (fun q size least r y bh ax bj=>(Iw No B b a n ac size least bs ag ae u (w.drewN q) (h.grown ⟨rfl,rfl,rfl,VB _,fun _ _ _=>rfl⟩) (az.keep (VB _) (Kp.refl _ _)) a2 ap bh ax r y (Ab bj)).mono (fun e w' G=>Got.from G (Ae (Below.refl _ _) q) (fun _ _ _=>rfl)));have a5:=Ab ap;clear h az a2 ap
 by_cases ai:k=16
 . subst ai
   by_cases a6:M=0
   . subst a6
     have E:Hid (v= {u with e:=8}):=Ab (by
      have:=Aa I
      unfold ukind at this;rw[if_pos rfl,if_pos O]at this;have ax:=(VN (VN this).2).2;rw[<-ax];unfold Am;rw[if_pos (Aa a5)])
     clear T O ak al;go_enter Tryz.func282,Tryz.ntmps282
     go_wp2_with fail
     refine(Cf 8 _).mono ?_;rintro e bk ⟨rfl,rfl⟩;go_wp2;exact⟨rfl,.inr ⟨by rw[Aa E];exact(by decide:(8:Int)≠0),by rw[Aa E],Bl.refl _ _ _⟩⟩
   . obtain⟨r,y,F⟩:∃r y,uget (rowB bs n) 2 u=(r,y):=⟨_,_,rfl⟩
     obtain⟨q,a3⟩:=exq (M-1)
     have E:Hid (x=l.getD q 0/\t=3+r/\v=y):=Ab (by
      have:=Aa I
      unfold ukind at this;rw[if_pos rfl,if_neg (by omega),F,O,a3]at this;exact⟨(VN this).1.symm,(VN (VN this).2).1.symm,(VN (VN this).2).2.symm⟩)
     have Y:=Ab (fun q=>Aa T q 2 3 r y (by decide) (by decide) F)
     obtain⟨g,o,rfl,bc,a8⟩:∃g o,ao=some ⟨g,o,none⟩/\g<w.heap.size/\Row .i64 w g o l:=by
      rcases ak with U|U
      . rw[U]at O;simp at O;omega
      . exact U
     have bf:No g:=al g o rfl (fun e=>by rw[e]at O;simp at O;omega);have av:w.cell? ⟨g,o+q,none⟩=some (.int .i64 (l.getD q 0)):=a8 q (by omega);obtain⟨z,a7⟩:=exq (l.getD q 0);rw[a7]at av E;have bm:((M:Int)==0)=false:=by rw[beq_eq_false_iff_ne];omega
     have b0:IntKind.i64.wrap ((M:Int)-1)=(M:Int)-1:=by simp[IntKind.wrap,IntKind.signed,IntKind.bits];omega
     have bn:(1:Int)<=(M:Int):=by omega
     have bq:(M:Int)-1<(M:Int):=by omega
     have bo:((M:Int)-1).toNat=q:=by omega
     clear F T a8 ak al a7 O I a3 a6
     by_cases U:y.e=0
     . have a9:Hid (∀aa,Calls Tryz.prog 266 #[.pointer (some ⟨b,0,none⟩),.int .i64 3,.int .i64 2] (w.drewN aa) fun e w'=>e=.returned (.int .i64 ((3+r:Nat):Int))/\w'.cell? ⟨g,o+q,none⟩=some (.int .i64 z)/\Hid (IUp No B w b (.slice a n ac) ag ae y w')):=Ab (fun aa=>(Aa Y aa).mono (fun e w' G=>by
        rcases G with ⟨_,aw,e2⟩|⟨e0,_⟩
        . exact⟨aw,(World.cell?_of_block (w:=w) (a:=⟨g,_,none⟩) (e2.kp g bc bf)).trans av,Ab e2⟩
        . exact absurd U e0))
       clear Y;go_enter Tryz.func282,Tryz.ntmps282
       go_wp2;go_region_with (go_at_call 266;refine(Aa a9 _).mono ?_;rintro e a1 ⟨rfl,bw,bg⟩)
       all_goals try go_wp2
       all_goals refine bodyPost_ret (v:=.tuple #[.int .i64 z,.int .i64 ((3+r:Nat):Int)]) ?_ rfl (.inl ⟨by rw[(Aa E).2.2];exact U,by rw[(Aa E).1,(Aa E).2.1],by rw[(Aa E).2.2];exact Aa bg⟩)
       all_goals first|rfl|kernel_rfl
     . have ba:Hid (∀aa,Calls Tryz.prog 266 #[.pointer (some ⟨b,0,none⟩),.int .i64 3,.int .i64 2] (w.drewN aa) fun e w'=>e=Flt y.e/\Bl No B w w'):=Ab (fun aa=>(Aa Y aa).mono (fun e w' G=>by
        rcases G with ⟨e0,_⟩|⟨_,aw,e2⟩
        . exact absurd e0 U
        . exact⟨aw,e2⟩))
       clear Y;go_enter Tryz.func282,Tryz.ntmps282
       go_wp2;refine wp_region_held_drew (S:=fun w'=>w'.cell? ⟨g,o+q,none⟩=some (.int .i64 z)) (by kernel_rfl) av (fun Z=> ?_);refine tkH (i:=0) (v:=.slice (some ⟨g,o,none⟩) M au) Z ?_;simp only[Act.put,VA,VC,VD];refine tkH (i:=1) (v:=.slice (some ⟨g,o,none⟩) M au) Z ?_;simp only[Act.put,VA,VC,VD];refine tkH (i:=2) (v:=.int .i64 (M:Int)) Z ?_;simp only[Act.put,VA,VC,VD];refine tkH (i:=3) (v:=.int .i64 ((M:Int)-1)) Z ?_;simp only[Act.put,VA,VC,VD];refine tkH (i:=4) (v:=.pointer (some ⟨g,o+q,none⟩)) Z ?_;simp only[Act.put,VA,VC,VD];refine wpAnyH_take (i:=5) (v:=.int .i64 z) rfl (by kernel_rfl) (by kernel_rfl) (by kernel_rfl) (fun _ _ _ h=>h) (bi.inl ⟨by rfl,fun W bd=>by have bv:W.cell? ⟨g,o+q,none⟩=some (.int .i64 z):=bd;go_simp⟩) Z ?_;simp only[Act.put,VA,VC,VD];refine tkH (i:=6) (v:=.pointer (some ⟨b,0,none⟩)) Z ?_;simp only[Act.put,VA,VC,VD];refine rdH (i:=7) fun K hK=> ?_
       go_simp
       refine(Aa ba _).mono ?_;rintro e a1 ⟨rfl,ah⟩;exact And.intro rfl (bi.inr ⟨by rw[(Aa E).2.2];exact U,by rw[(Aa E).2.2],ah⟩)
 . have a4:((k:Int)==16)=false:=by rw[beq_eq_false_iff_ne];omega
   clear ak al
   by_cases aj:k=17
   . subst aj;obtain⟨r,y,F⟩:∃r y,uget (rowB bs n) 3 u=(r,y):=⟨_,_,rfl⟩
     have E:Hid (x=0/\t=3+r/\v=y):=Ab (by
      have:=Aa I
      unfold ukind at this;rw[if_neg (by decide),if_pos rfl,F]at this;exact⟨(VN this).1.symm,(VN (VN this).2).1.symm,(VN (VN this).2).2.symm⟩)
     have Y:=Ab (Aa T 0 3 3 r y (by decide) (by decide) F);clear F T I a4 ai;go_enter Tryz.func282,Tryz.ntmps282
     go_wp2_with fail
     refine(Aa Y).mono ?_;rintro e a1 G
     rcases G with ⟨e0,rfl,af⟩|⟨e0,rfl,ah⟩
     . have ay:=Ab af;clear af;go_wp2;refine bodyPost_ret (v:=.tuple #[.int .i64 0,.int .i64 ((3+r:Nat):Int)]) ?_ rfl (.inl ⟨by rw[(Aa E).2.2];exact e0,by rw[(Aa E).1,(Aa E).2.1],by rw[(Aa E).2.2];exact Aa ay⟩)
       first|rfl|kernel_rfl
     . go_wp2;exact⟨rfl,.inr ⟨by rw[(Aa E).2.2];exact e0,by rw[(Aa E).2.2],ah⟩⟩
   . have bb:((k:Int)==17)=false:=by rw[beq_eq_false_iff_ne];omega
     by_cases ar:k=18
     . subst ar;obtain⟨r,y,F⟩:∃r y,uget (rowB bs n) 7 u=(r,y):=⟨_,_,rfl⟩
       have E:Hid (x=0/\t=11+r/\v=y):=Ab (by
        have:=Aa I
        unfold ukind at this;rw[if_neg (by decide),if_neg (by decide),if_pos rfl,F]at this;exact⟨(VN this).1.symm,(VN (VN this).2).1.symm,(VN (VN this).2).2.symm⟩)
       have Y:=Ab (Aa T 0 7 11 r y (by decide) (by decide) F);clear F T I a4 ai bb aj;go_enter Tryz.func282,Tryz.ntmps282
       go_wp2_with fail
       refine(Aa Y).mono ?_;rintro e a1 G
       rcases G with ⟨e0,rfl,af⟩|⟨e0,rfl,ah⟩
       . have ay:=Ab af;clear af;go_wp2;refine bodyPost_ret (v:=.tuple #[.int .i64 0,.int .i64 ((11+r:Nat):Int)]) ?_ rfl (.inl ⟨by rw[(Aa E).2.2];exact e0,by rw[(Aa E).1,(Aa E).2.1],by rw[(Aa E).2.2];exact Aa ay⟩)
         first|rfl|kernel_rfl
       . go_wp2;exact⟨rfl,.inr ⟨by rw[(Aa E).2.2];exact e0,by rw[(Aa E).2.2],ah⟩⟩
     . have bz:((k:Int)==18)=false:=by rw[beq_eq_false_iff_ne];omega
       have E:Hid (x=(k:Int)/\t=1/\v=u):=Ab (by
        have:=Aa I
        unfold ukind at this;rw[if_neg ai,if_neg aj,if_neg ar]at this;exact⟨(VN this).1.symm,(VN (VN this).2).1.symm,(VN (VN this).2).2.symm⟩)
       clear I ai aj ar T;go_enter Tryz.func282,Tryz.ntmps282
       go_wp2;refine bodyPost_ret (v:=.tuple #[.int .i64 (k:Int),.int .i64 1]) ?_ rfl (.inl ⟨by rw[(Aa E).2.2];exact Aa a5,by rw[(Aa E).1,(Aa E).2.1];rfl,by rw[(Aa E).2.2];exact IUp.refl (Aa H)⟩)
       first|rfl|kernel_rfl
theorem Z2 (l:List Int)(G:l.length<=288)(F:∀x∈l,0<=x/\x<=15):errL l=0\/errL l=8:=by
 unfold errL;rw[if_neg (by omega),if_neg]
 . split
   . exact .inr rfl
   . exact .inl rfl
 . rintro ⟨j,E,hb⟩;have hm:=F (l.getD j 0) (by rw[List.getD,VP E];exact WK E);have:=Hw hb
   omega
theorem KG (row:List Bool)(l:List Int)(k:Nat)(u:US)(H:k<19)(G:∀x∈l,0<=x/\x<=15)(E:(ukind row l k u).2.2.e=0):0<=(ukind row l k u).1/\(ukind row l k u).1<=15:=by
 unfold ukind at E ⊢
 by_cases c:k=16
 . rw[if_pos c]at E ⊢
   by_cases d:l.length=0
   . rw[if_pos d]at E;exact absurd E (Bm (by decide))
   . rw[if_neg d];have F:l.length-1<l.length:=by omega
     exact G _ (by rw[List.getD,VP F];exact WK F)
 . rw[if_neg c]
   split
   . exact⟨by simp,by simp⟩
   . split
     . exact⟨by simp,by simp⟩
     . simp only
       omega
theorem Uf {row:List Bool}{S:List Int}{tot:Nat}(I:S.length=19):∀(F:Nat) (l:List Int) (u:US),(∀x∈l,0<=x/\x<=15)->(ulens row S tot F l u).2.e=0->∀x∈(ulens row S tot F l u).1,0<=x/\x<=15
 |0,l,u,hl,h=>hl
 |F+1,l,u,hl,h=>by
  by_cases hc:l.length<tot/\u.e=0
  . obtain⟨r,e⟩:=Kj hc.1 hc.2 h;rw[e]at h ⊢;refine Uf I F _ _ ?_ h;rw[r.st];have M:=(Cn (k:=(uplace S row u).1) (v:=(uplace S row u).2) rfl r.pe).2.2.2.2.2;have G:=KG row l (uplace S row u).1 (uplace S row u).2 (by omega) hl r.ke;intro x H
    rcases WP.1 H with E|E
    . exact hl x E
    . rw[List.eq_of_mem_replicate E];exact G
  . rw[ulens,if_neg hc];exact hl
theorem Px {row:List Bool}:∀(ks:List Nat) (s:List Int) (u:US),(∀x∈s,0<=x/\x<=7)->∀x∈(usmall row ks s u).1,0<=x/\x<=7
 | [],s,u,h=>h
 |k::r,s,u,h=>by
  rw[usmall];refine Px r _ _ ?_;intro x F;have hl:=SD row 3 u
  rcases List.mem_or_eq_of_mem_set F with E|E
  . exact h x E
  . subst E;omega
theorem Rk.aside {No:Nat->Prop}{B b:Nat}{w F I:World}{R T O:Value}{u:US}{r:Option Nat}(E:Rk No B w b R T O u F)(G:F.grownBy I r)(H:∀g,r=some g->w.heap.size<=g)(ag:∀g,w.heap.size<=g->¬No g)(ai:b<w.heap.size):Rk No B w b R T O u I:=by
 have aj:=E.bl.below.size;obtain⟨ov,kv,ac,U,M,ae,Y,aa⟩:=E.is.ex
 have Z:∀ {e size n:Nat} {z:Value} {xs:List Value},F.ownsRow (b+1) e size z n xs->(∀g,z.ownBlock=some g->¬NJ No w.heap.size g)->∀g,z.ownBlock=some g->I.heap[g]? =F.heap[g]? :=fun {e size n z xs} ho hz g hg2=>
  G.block g (ho.lt g hg2).2 (fun e=>hz g hg2 (.inr (H g e.symm)))
 refine⟨⟨E.is.base,E.is.no,ov,kv,(G.block b E.is.lt (fun e=> ?_)).trans ac,Au U (Z U Y),Au M (Z M aa),ae,Y,aa⟩,E.bl.trans ⟨(Below.refl B F).grown G (VU E.is.base (YX E.is.lt)) (fun g e=>by have:=H g e;have:=E.is.base;omega),fun g ah af=>G.block g ah (fun e=>ag g (H g e.symm) af)⟩⟩;have:=H b e.symm
 omega
theorem Rk.step {No:Nat->Prop}{B b:Nat}{w E G:World}{R H M g1 g2:Value}{u v:US}(F:Rk No B w b R H M u E)(k:Rk (NK No w.heap.size E.heap.size) B E b R g1 g2 v G):Rk No B w b R g1 g2 v G:=by
 have O:=F.bl.below.size;refine⟨k.is.weak (fun g I=> ?_),F.bl.trans (k.bl.weaken (fun _ F=>.inl F))⟩
 rcases I with e|e
 . exact .inl (.inl e)
 . by_cases c:g<E.heap.size
   . exact .inl (.inr ⟨e,c⟩)
   . exact .inr (by omega)
theorem Rk.inner {No:Nat->Prop}{B b:Nat}{w E:World}{R F G:Value}{u:US}(H:Rk No B w b R F G u E):IIs (NK No w.heap.size E.heap.size) B E b R F G u:=H.is.weak (fun g I=>by
 rcases I with e|e
 . exact .inl e
 . exact .inr e.1)
theorem Rk.sym {No:Nat->Prop}{B b:Nat}{w E G:World}{R H I:Value}{u v:US}(F:Rk No B w b R H I u E)(k:IUp (NK No w.heap.size E.heap.size) B E b R H I v G)(hK:Mx b E G):Rk No B w b R H I v G:=⟨F.is.back k.is hK,F.bl.trans (k.bl.weaken (fun _ F=>.inl F))⟩
def Z9d:Value->Nat
 | .slice _ n _=>n
 |_=>0
theorem Z0g {w:World}{B e I n G c:Nat}{xs:List Value}(F:w.ownsRow B e I (.slice (some ⟨G,0,none⟩) n c) n xs):n<=c:=by
 rcases F.2 with ⟨E,_⟩|⟨M,cap,cur,E,O,T,H⟩
 . cases E
 . cases E
   exact H.1
theorem Xh {w:World}{B n:Nat}{v:Value}{xs:List Int}(E:w.ownsRow B 3 1 v n (iv xs)):∃a c,v=.slice a n c/\xs.length=n/\RowIn .i64 w a xs/\∀g o,a=some ⟨g,o,none⟩->xs≠ []->B<=g:=by
 have hn:xs.length=n:=by have:=E.1;simpa using this
 rcases E.2 with ⟨G,F⟩|⟨g,cap,cur,G,F,M⟩
 . subst F;exact⟨none,0,G,hn,.inl (WV hn),fun g o e=>by cases e⟩
 . subst G;refine⟨_,_,rfl,hn,.inr ⟨g,0,rfl,(E.lt g rfl).2,fun j H=> ?_⟩,fun I o e _=>by cases e;exact F⟩;rw[WG,E.cellAt j (by omega)];simp[iv,List.getD,H]
theorem X9 (No:Nat->Prop)(B b:Nat)(a:Option Addr)(n I:Nat)(bs:List Nat)(Z U:Value)(u:US)(w:World)(h:IIs No B w b (.slice a n I) Z U u)(a9:Rd w No a n bs)(b8:u.p<=8*n)(bu:u.e=0)(bi:∀g,w.heap.size<=g->¬No g)(ak al ay bo:Nat)(S:List Int)(a1:DIs w ak al ay bo b S)(co:Good S)(ah:No ak/\No al/\No ay)(ep:S.length=19)(tot:Nat)(ei:tot<=400)(L:List Int)(v:US)(dn:Hid (ulens (rowB bs n) S tot tot [] u=(L,v))):
 Calls Tryz.prog 271 #[.pointer (some ⟨b,0,none⟩),DV ak al,.int .i64 (tot:Int)] w fun e w'=>(v.e≠0/\e=Flt v.e/\Bl No B w w')\/ (v.e=0/\Rk No B w b (.slice a n I) Z U v w'/\∃ct,e=.returned ct/\w'.ownsRow w.heap.size 3 1 ct L.length (iv L)/\L.length=tot):=by
 have cg:=Af bs n;have dw:=h.lt;obtain⟨cv,cw,di,dm,dj⟩:=info_parts Bv;have c9:=Ab (Rk.refl h);have eb:=Ab (And.intro bu b8);have df:=Ab bi;have bv:Hid (∀wr,Bl No B w wr->Rd wr (NJ No w.heap.size) a n bs/\Rd wr (NK No w.heap.size wr.heap.size) a n bs):=Ab (fun wr hb=>⟨(a9.keep hb.below.size hb.kp).wide (fun _ h=>.inl h),(a9.keep hb.below.size hb.kp).wide (fun _ h=>.inl h)⟩)
 have dl:Hid (∀wr x k y,Rk No B w b (.slice a n I) Z U x wr->x.p<=8*n->x.e=0->uplace S (rowB bs n) x=(k,y)->Calls Tryz.prog 281 #[.pointer (some ⟨ak,0,none⟩),.pointer (some ⟨al,0,none⟩)] wr fun e w'=>GotK (NK No w.heap.size wr.heap.size) B wr b (.slice a n I) Z U (.int .i64 (k:Int)) y e w'):=Ab (fun wr x k y aa ac ag bb=>by
  have l1:=a1.lt;have l2:=a1.is.lt;have d7:=aa.bl.below.size
  exact BI (NK No w.heap.size wr.heap.size) B b a n I bs Z U x wr aa.inner (Aa bv wr aa.bl).2 ac ag ak al ay bo S (a1.keep d7 (aa.bl.kp ak l1.1 ah.1) (aa.bl.kp al l1.2 ah.2.1) (aa.bl.kp ay l2 ah.2.2)) co ⟨.inl ah.1,.inl ah.2.1,.inl ah.2.2⟩ (fun g O e=>by
   rcases e with e|e
   . exact bi g (by omega) e
   . omega) k y (Ab bb))
 have ds:Hid (∀wr x (av:Option Addr) (M a6:Nat) (l:List Int) k E t y,Rk No B w b (.slice a n I) Z U x wr->x.p<=8*n->x.e=0->l.length=M->M<=1000->RowIn .i64 wr av l->(∀g o,av=some ⟨g,o,none⟩->l≠ []->w.heap.size<=g)->k<19->ukind (rowB bs n) l k x=(E,t,y)->Calls Tryz.prog 282 #[.pointer (some ⟨b,0,none⟩),.int .i64 (k:Int),.slice av M a6] wr fun e w'=>Got (NJ No w.heap.size) B wr b (.slice a n I) Z U (.tuple #[.int .i64 E,.int .i64 (t:Int)]) y e w'):=Ab (fun wr x av M a6 l k E t y aa ac ag bb dh cy da c7 ax=>
  Z3v (NJ No w.heap.size) B b a n I bs Z U x wr aa.is (Aa bv wr aa.bl).1 ac ag av M a6 l bb dh cy (fun g o Y e2=>.inr (da g o Y e2)) k c7 E t y (Ab ax))
 clear h a9 b8 bu bi a1 co ah;go_enter Tryz.func271,Tryz.ntmps271
 go_wp2;go_loopw [7] (fun ap wr=>∃(l:List Int) (F:Nat) (x:US),Hid (ulens (rowB bs n) S tot F l x=(L,v))/\Hid (tot<=l.length+F)/\Hid (l.length<=tot)/\Hid (x.e=0/\x.p<=8*n)/\Hid (Rk No B w b (.slice a n I) Z U x wr)/\Hid (wr.ownsRow w.heap.size 3 1 ap l.length (iv l))) (fun ap _=>1000-Z9d ap)
 case atStart=>exact⟨[],tot,u,dn,Ab (by simp),Ab (by simp),eb,c9,Ab (World.ownsRow_nil _ _ _ _)⟩
 case round=>
  obtain⟨l,F,x,az,bf,a5,dy,hK,ae⟩:=hrel;obtain⟨cj,bz,rfl,bk,dp,dd⟩:=Xh (Aa ae);obtain⟨M,ai⟩:=exq (l.length);have au:=Ab ai;rw[ai]at bf a5 ae ⊢;have c6:=Aa bf;have ek:=Aa a5;obtain⟨a4,dq⟩:=Aa dy;clear bf a5 bk
  by_cases ce:M<tot
  . cases F with
    |zero=>exact absurd c6 (by omega)
    |succ F=>
     have af:=Aa az;rw[ulens,if_pos ⟨by rw[ai];exact ce,a4⟩]at af;obtain⟨k,T,ac⟩:∃k T,uplace S (rowB bs n) x=(k,T):=⟨_,_,rfl⟩
     unfold ustep at af;rw[ac]at af;obtain⟨E,t,G,ag⟩:∃E t G,ukind (rowB bs n) l k T=(E,t,G):=⟨_,_,_,rfl⟩
     simp only at af
     rw[ag]at af;have aj:=Ab af;have ck:=Ab (Aa dl wr x k T (Aa hK) dq a4 ac)
     have dt:T.p<=8*n:=by
      have:=Ix S (rowB bs n) x (by omega)
      rw[ac,cg]at this;exact this
     have d9:=Ab ac;have ao:=Ab ag;have dz:(M:Int)<(tot:Int):=by omega
     clear af ac ag az ai;go_wp2_with fail
     refine(Aa ck).mono ?_;rintro e bq O
     rcases O with ⟨Y,rfl,bc,cq⟩|⟨Y,rfl,b5⟩
     rotate_left
     . have H:Hid (v=T):=Ab (by
        have e2:G=T:=by have:=KI (rowB bs n) l k T Y;rw[Aa ao]at this;exact this
        have e3:=Zl tot l (E,t,G) (by rw[show (E,t,G).2.2=G from rfl,e2];exact Y);have:=Aa aj
        rw[Js (by rw[e3,show (E,t,G).2.2=G from rfl,e2];exact Y)]at this;rw[<-(VN this).2,e3];exact e2)
       have bm:=Ab ((Aa hK).bl.trans (b5.weaken (fun _ h=>.inl h)));clear b5;go_wp2;exact⟨rfl,.inl ⟨by rw[Aa H];exact Y,by rw[Aa H],Aa bm⟩⟩
     have db:k<19:=by
      have:=(Cn (Aa d9) Y).2.2.2.2.2
      omega
     have a3:=Ab ((Aa hK).sym bc cq);have ar:Hid (bq.ownsRow w.heap.size 3 1 (.slice cj M bz) M (iv l)):=Ab (Au (Aa ae) (fun g O=>bc.kp g ((Aa ae).lt g O).2 (.inr ⟨((Aa ae).lt g O).1,((Aa ae).lt g O).2⟩)));obtain⟨a7,ba,cu,bk,cp,bw⟩:=Xh (Aa ar);obtain⟨rfl,rfl⟩:a7=cj/\ba=bz:=by cases cu;exact⟨rfl,rfl⟩
     have bn:=Ab (Aa ds bq T a7 M ba l k E t G (Aa a3) dt Y bk (by omega) cp bw db (Aa ao));have aw:=Zn (rowB bs n) l k T;rw[Aa ao]at aw;have et:1<=t:=aw.1;have en:t<=138:=aw.2
     have b4:G.e=0->G.p<=8*n:=fun e=>by
      have:=(KH (row:=rowB bs n) (l:=l) (k:=k) (u:=T) (by rw[Aa ao];exact e) (by omega)).2.1
      rw[Aa ao,cg]at this;exact this
     have c5:=Ab b4;clear bc cq dp dd cp bw aw b4 cu ae hK ck;go_wp2_with fail
     refine(Aa bn).mono ?_;rintro e b0 O
     rcases O with ⟨e2,rfl,a8⟩|⟨e2,rfl,b3⟩
     rotate_left
     . have H:Hid (v=G):=Ab (by
        have e3:=Zl tot l (E,t,G) e2;have:=Aa aj
        rw[Js (by rw[e3];exact e2)]at this;rw[<-(VN this).2,e3])
       have bm:=Ab ((Aa a3).bl.trans (b3.weaken (fun _ h=>.inl h)));clear b3;go_wp2;exact⟨rfl,.inl ⟨by rw[Aa H];exact e2,by rw[Aa H],Aa bm⟩⟩
     have cd:=Ab ((Aa a3).num a8);have du:Hid (b0.ownsRow w.heap.size 3 1 (.slice a7 M ba) M (iv l)):=Ab (Au (Aa ar) (fun g O=>a8.kp g ((Aa ar).lt g O).2 (.inr ((Aa ar).lt g O).1)));clear a8 ar a3 bn
     by_cases cm:tot<M+t
     . have H:Hid (v.e=8):=Ab (by
        have:=Aa aj
        unfold Td at this;rw[if_pos ⟨e2,by rw[Aa au];exact cm⟩]at this;have ax:(Am 8 G).e=8:=by unfold Am;rw[if_pos e2]
        rw[Js (by show (Am 8 G).e≠0;rw[ax];decide)]at this;rw[<-(VN this).2];exact ax)
       have d5:(tot:Int)<(M:Int)+(t:Int):=by omega
       have dx:=Ab (Cf 8 b0);clear aj;go_wp2_with fail
       refine(Aa dx).mono ?_;rintro e w3 ⟨rfl,rfl⟩;go_wp2;exact⟨rfl,.inl ⟨by rw[Aa H];decide,by rw[Aa H],(Aa cd).bl⟩⟩
     . have d5:¬(tot:Int)<(M:Int)+(t:Int):=by omega
       have d8:Hid (ulens (rowB bs n) S tot F (l++List.replicate t E) G=(L,v)):=Ab (by
        have:=Aa aj
        unfold Td at this;rw[if_neg (fun c=>cm (by rw[<-Aa au];exact c.2))]at this;exact this)
       clear aj;generalize wr=eo at*;go_wp2;go_loopw [7,30] (fun ap bg wr=>∃j:Nat,j<=t/\bg=.int .i64 (j:Int)/\Hid (Rk No B w b (.slice a n I) Z U G wr)/\Hid (wr.ownsRow w.heap.size 3 1 ap (M+j) (iv (l++List.replicate j E)))) (fun _ bg _=>t-(intOf bg).toNat)
       case atStart=>exact⟨0,VH _,rfl,cd,Ab (by rw[ZI,XA];exact Aa du)⟩
       case round=>
        obtain⟨j,ed,rfl,bd,a2⟩:=hrel;obtain⟨d6,de,rfl⟩:=An (Aa a2)
        by_cases em:j<t
        . have eh:(j:Int)<(t:Int):=by omega
          have eg:=(Aa bd).bl.below.size;go_wp2_with (at_builtin;refine wpList_append_own_at _ rfl _ _ 76 rfl w.heap.size 3 cv (.int .i64 0) 1 8 Tryz.underlying76 cw di dm dj rfl (by decide) _ (M+j) (iv (l++List.replicate j E)) rfl ((Aa a2).alloc _) ⟨wr.heap.size,0,none⟩ 1 1 [.int .i64 E] rfl rfl (cell_one_new _ _ _) (Bc rfl) (by unfold maxLen;omega) (by omega) (by simp;omega) ?_)
          intro v' b7 bj b9 _ dv;have cz:Hid (Rk No B w b (.slice a n I) Z U G b7):=Ab (((Aa bd).past ((Below.refl _ _).alloc (VB _) _)).aside b9 (fun g e=>((Aa a2).lt g e).1) (Aa df) dw)
          have c8:Hid (b7.ownsRow w.heap.size 3 1 v' (M+(j+1)) (iv (l++List.replicate (j+1) E))):=Ab (by
           have Y:iv (l++List.replicate (j+1) E)=List.map (Value.int .i64) l++(List.replicate j (.int .i64 E)++ [.int .i64 E]):=by
            rw[YY];simp[iv]
           rw[Y];exact bj)
          obtain⟨ee,ej,rfl⟩:=An bj;clear bj b9 dv;go_wp2;go_roundw
          case rel=>exact⟨j+1,by omega,by go_num,cz,c8⟩
          case measure=>simp[intOf];omega
        . obtain rfl:j=t:=by omega
          have bh:(l++List.replicate j E).length=M+j:=by rw[VE,XD,Aa au]
          have dc:Hid (wr.ownsRow w.heap.size 3 1 (.slice d6 (M+j) de) (l++List.replicate j E).length (iv (l++List.replicate j E))):=Ab (by rw[bh];exact Aa a2);have cn:=Ab bh;clear bh;go_wp2;go_roundw
          case rel=>exact⟨l++List.replicate j E,F,G,d8,Ab (by rw[Aa cn];omega),Ab (by rw[Aa cn];omega),Ab ⟨e2,Aa c5 e2⟩,bd,dc⟩
          case measure=>show 1000-(M+j)<1000-M;omega
  . have H:Hid (L=l/\v=x):=Ab (by
     have:=Aa az
     cases F with
     |zero=>exact⟨(VN this).1.symm,(VN this).2.symm⟩
     |succ F=>
      rw[ulens,if_neg (fun c=>ce (by rw[<-ai];exact c.1))]at this;exact⟨(VN this).1.symm,(VN this).2.symm⟩)
    have dz:¬(M:Int)<(tot:Int):=by omega
    have ci:M=tot:=by omega
    have dr:=Ab ci;clear az ai ci;go_wp2;go_ret;refine .inr ⟨by rw[(Aa H).2];exact a4,by rw[(Aa H).2];exact Aa hK,_,rfl, ?_, ?_⟩
    . rw[(Aa H).1,Aa au];exact Aa ae
    . rw[(Aa H).1,Aa au];exact Aa dr
end Go.Proofs.YtleocpdblhbimaaGreatDoor
