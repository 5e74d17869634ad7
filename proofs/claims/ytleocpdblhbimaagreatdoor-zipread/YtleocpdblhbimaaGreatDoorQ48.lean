import Derived.Test.YtleocpdblhbimaaGreatDoorQ47
import Derived.Deep.CutBlock
import Derived.Deep.DeepCutAuto
import Derived.Test.YtleocpdblhbimaaGreatDoorQ41
set_option linter.unusedSimpArgs false
set_option linter.unusedVariables false
set_option maxRecDepth 100000
set_option maxHeartbeats 8000000
namespace Go.Proofs.YtleocpdblhbimaaGreatDoor
open Go.RowKit
def TdA (No:Nat->Prop)(B:Nat)(w:World)(b:Nat)(row:List Bool)(R:(List Int×List Int)×US)(e:Ending)(w':World):Prop:=
 UUp No B w b row R.2 w'/\((R.2.e≠0/\e=.returned (.tuple #[.slice none 0 0,.slice none 0 0]))\/∃a1 c1 a2 c2,R.2.e=0/\e=.returned (.tuple #[.slice a1 R.1.1.length c1,.slice a2 R.1.2.length c2])/\RowIn .i64 w' a1 R.1.1/\RowIn .i64 w' a2 R.1.2)
theorem SX (row:List Bool)(l:List Int)(k:Nat)(u:US):1<=(ukind row l k u).2.1/\(ukind row l k u).2.1<=138:=by
 unfold ukind;have F:=Fu row 2 u;have G:=Fu row 3 u;have E:=Fu row 7 u
 split
 . split
   . exact⟨VB _,by show 1<=138;decide⟩
   . exact⟨by dsimp only;omega,by dsimp only;omega⟩
 . split
   . exact⟨by dsimp only;omega,by dsimp only;omega⟩
   . split
     . exact⟨by dsimp only;omega,by dsimp only;omega⟩
     . exact⟨VB _,by show 1<=138;decide⟩
theorem TB (row:List Bool)(l:List Int)(k:Nat)(u:US)(E:u.p<=row.length):(ukind row l k u).2.2.p<=row.length:=by
 unfold ukind
 split
 . split
   . show (Am 8 u).p<=_;rw[Wl];exact E
   . exact Gn row 2 u E
 . split
   . exact Gn row 3 u E
   . split
     . exact Gn row 7 u E
     . exact E
theorem TJ (No:Nat->Prop)(B b E:Nat)(bs:List Nat)(u:US)(w:World)(h:UIs No B w b (rowB bs E) u)(jo:bs.length=E)(i7:E<=25000)(kt:u.p<=8*E)(R:(List Int×List Int)×US)(hw:Db (rowB bs E) u=R):
 Calls Tryz.prog 95 #[.pointer (some ⟨b,0,none⟩)] w fun e w'=>TdA No B w b (rowB bs E) R e w':=by
 have ll:=Af bs E;have bf:(rowB bs E).length<=200000:=by omega
 have gz:u.p<=(rowB bs E).length:=by omega
 obtain⟨m0,u1,bc⟩:∃m0 u1,uget (rowB bs E) 5 u=(m0,u1):=⟨_,_,rfl⟩
 obtain⟨n0,u2,e2⟩:∃n0 u2,uget (rowB bs E) 5 u1=(n0,u2):=⟨_,_,rfl⟩
 obtain⟨c0,u3,e3⟩:∃c0 u3,uget (rowB bs E) 4 u2=(c0,u3):=⟨_,_,rfl⟩
 have dl:=Gn _ 5 u gz;rw[bc]at dl;have db:=Gn _ 5 u1 dl;rw[e2]at db;have di:=Gn _ 4 u2 db;rw[e3]at di;have gu:=Fu (rowB bs E) 5 u;rw[bc]at gu;have ha:=Fu (rowB bs E) 5 u1;rw[e2]at ha;have dw:=Fu (rowB bs E) 4 u2;rw[e3]at dw;simp only at dl db di gu ha dw
 obtain⟨a9,bv⟩:=exq ((if 286<m0+257\/30<n0+1 then Am 8 u3 else u3))
 have ju:a9.p<=(rowB bs E).length:=by
  rw[<-bv]
  split
  . rw[Wl];exact di
  . exact di
 obtain⟨S,us,du⟩:∃S us,usmall (rowB bs E) (ord19.take (c0+4)) (List.replicate 19 0) a9=(S,us):=⟨_,_,rfl⟩
 have g0:Ke (rowB bs E) (m0+257) (n0+1) (S,us)=R:=by
  rw[<-hw];unfold Db;simp only[bc,e2,e3];unfold Gk;rw[bv,du]
 have cq:us.e=0->¬(286<m0+257\/30<n0+1):=fun aj G=>by
  rw[if_pos G]at bv;have a4:=congrArg (fun z=>z.2.e) du;simp only at a4
  rw[aj]at a4;have e9:=Ld a4;rw[<-bv]at e9;exact Bm (by decide) e9
 have d8:=Ab bv;have i6:=Ab du;have ee:=Ab g0;have f6:=Ab cq;have H:=Ab h;have hg:=Ab bc;have fx:=Ab e2;have fm:=Ab e3;obtain⟨gj,hi,ft,gy,fu⟩:=info_parts Bv;clear h hw bv du g0 cq bc e2 e3;go_enter Tryz.func95,Tryz.ntmps95
 go_wp2_with fail
 refine(Hm No B b 5 _ u w (Aa H) (by omega) bf gz m0 u1 (Aa hg)).mono ?_;rintro e iw ⟨rfl,h0⟩;have eu:=Ab h0;clear h0;go_wp2_with fail
 refine(Hm No B b 5 _ u1 iw (Aa eu).is (by omega) bf dl n0 u2 (Aa fx)).mono ?_;rintro e ix ⟨rfl,hh⟩;have d6:=Ab ((Aa eu).trans hh);clear hh;go_wp2_with fail
 refine(Hm No B b 4 _ u2 ix (Aa d6).is (by omega) bf db c0 u3 (Aa fm)).mono ?_;rintro e w3 ⟨rfl,hv⟩;have b7:=Ab ((Aa d6).trans hv);clear hv eu d6 H hg fx fm;obtain⟨cg,gw⟩:=exq (decide (286<m0+257\/30<n0+1));have b8:=Ab gw;clear gw;go_upto_region 2 with fail
 go_cut [29] (fun jb wc=>jb=.bool cg/\wc=w3)
 case first=>
  by_cases ka:286<m0+257
  . have jt:(286:Int)<(m0:Int)+257:=by omega
    have hb:cg=true:=by rw[<-Aa b8];exact decide_eq_true (.inl ka)
    subst hb;go_wp2;go_meet
    exact⟨rfl,rfl⟩
  . have jt:¬(286:Int)<(m0:Int)+257:=by omega
    by_cases jg:30<n0+1
    . have kg:(30:Int)<(n0:Int)+1:=by omega
      have hb:cg=true:=by rw[<-Aa b8];exact decide_eq_true (.inr jg)
      subst hb;go_wp2;go_meet
      exact⟨rfl,rfl⟩
    . have kg:¬(30:Int)<(n0:Int)+1:=by omega
      have hb:cg=false:=by rw[<-Aa b8];exact decide_eq_false (by omega)
      subst hb;go_wp2;go_meet
      exact⟨rfl,rfl⟩
 case rest=>
 obtain⟨rfl,a8⟩:=hcut;obtain rfl:w3=wc:=a8.symm;clear a8;go_upto_if 29 with (fail)
 go_cut [4] (fun jp wc=>jp=.int .i64 ((m0:Int)+257)/\Hid (UUp No B w b (rowB bs E) a9 wc))
 case first=>
  cases cg with
  |true=>
   have ap:=Ab (Dn No B b (rowB bs E) u3 8 w3 (Aa b7).is);have ar:Hid (Am 8 u3=a9):=Ab (by rw[<-Aa d8,if_pos (of_decide_eq_true (Aa b8))]);go_wp2_with fail
   refine(Aa ap).mono ?_;rintro e a2 ⟨rfl,f4⟩;have gd:=Ab ((Aa b7).trans f4);rw[Aa ar]at gd;clear f4;go_wp2;go_meet
   exact⟨rfl,gd⟩
  |false=>
   have ar:Hid (u3=a9):=Ab (by rw[<-Aa d8,if_neg (of_decide_eq_false (Aa b8))]);rw[Aa ar]at b7;go_wp2;go_meet
   exact⟨rfl,b7⟩
 case rest=>
  rename World=>ai
  obtain⟨rfl,gh⟩:=hcut;clear b7 d8;obtain⟨N,f3⟩:=exq (ai.heap.size);have gv:Hid (UUp (N1 No N) B ai b (rowB bs E) a9 ai):=Ab (by rw[<-f3];exact UUp.refl (Aa gh).is.opened);have l5:c0<16:=dw;go_wp2_with (at_make;refine wpList_make_full _ rfl _ _ 76 rfl N 3 gj (.int .i64 0) 1 Tryz.underlying76 hi ft gy _ _ _ _ 19 rfl rfl rfl rfl (by rw[fu];omega) (by unfold maxLen;omega) (by omega) ?_)
  intro a2 dq gi;have e0:(madeCells #[Value.int .i64 0] 19).toList=iv (List.replicate 19 0):=by rw[CC];rfl
  rw[e0]at dq;have e4:Hid (Below N ai a2):=Ab (by rw[<-f3];exact(Below.refl ai.heap.size ai).grown gi (VB _) (fun j h=>by cases h));have h5:=Ab dq;have j8:=(dq.lt N rfl).2;clear dq gi e0;have lw:(c0:Int)+4<=19:=by omega
  have h4:Hid ((a2.alloc (.cells Z2k 3)).heap[a2.heap.size]? =some (.cells Z2k 3 (0,0))):=Ab (heap_alloc_new _ _);have hf:Hid (UUp (N1 No N) B ai b (rowB bs E) a9 (a2.alloc (.cells Z2k 3))):=Ab ((Aa gv).newer (by omega) ((Aa e4).alloc (by have:=(Aa e4).size;omega) _));have fp:=Ab ((Aa h5).alloc (.cells Z2k 3));have iy:N<a2.heap.size:=j8;go_wp2;go_loopw [9,37] (fun _ et wr=>∃(j:Nat) (s:List Int) (O:US),j<=c0+4/\et=.int .i64 (j:Int)/\Hid (usmall (rowB bs E) ((ord19.take (c0+4)).drop j) s O=(S,us))/\Hid (s.length=19)/\Hid (UUp (N1 No N) B ai b (rowB bs E) O wr)/\Hid (wr.ownsRow N 3 1 (.slice (some ⟨N,0,none⟩) 19 19) 19 (iv s))/\Hid (wr.heap[a2.heap.size]? =some (.cells Z2k 3 (0,0)))/\Hid (O.p<=(rowB bs E).length)) (fun _ et _=>19-(intOf et).toNat)
  case atStart=>exact⟨0,List.replicate 19 0,a9,VH _,rfl,Ab (by rw[List.drop_zero];exact Aa i6),Ab (by simp),hf,fp,h4,Ab ju⟩
  case round=>
   obtain⟨j,s,O,cz,rfl,c9,eb,T,ao,dh,b0⟩:=hrel
   by_cases c7:j<c0+4
   . obtain⟨r,x,d5⟩:∃r x,uget (rowB bs E) 3 O=(r,x):=⟨_,_,rfl⟩
     have ip:=Z0k (j:=j) (by omega);have c1:wr.cell? ⟨a2.heap.size,j,none⟩=some (.int .i64 ((ord19.getD j 0:Nat):Int)):=(Ac (Aa dh)).trans (Z49 (by omega))
     have kh:Hid (usmall (rowB bs E) ((ord19.take (c0+4)).drop (j+1)) (s.set (ord19.getD j 0) (r:Int)) x=(S,us)):=Ab (by
      have:=Aa c9
      rw[Z0i c7 (by omega),usmall,d5]at this;exact this)
     have jj:Hid (x.p<=(rowB bs E).length):=Ab (by have:=Gn (rowB bs E) 3 O (Aa b0);rw[d5]at this;exact this);have k9:(ord19.getD j 0:Int)<19:=by omega
     generalize ord19.getD j 0=q at*;clear c9;go_wp2_with fail
     refine(Hm (N1 No N) B b 3 _ O wr (Aa T).is (by omega) bf (Aa b0) r x d5).mono ?_;rintro e w6 ⟨rfl,ah⟩;have b4:=Ab (ah.own (Aa ao));have j5:Hid (w6.heap[a2.heap.size]? =some (.cells Z2k 3 (0,0))):=Ab ((ah.kp _ (VK.1 (Aa dh)).1 (.inr (YX iy))).trans (Aa dh));have bh:=Ab ((Aa T).trans ah);clear ah;have j9:q<s.length:=by rw[Aa eb];exact ip
     have c2:=(Aa b4).cellAt q (by omega);rw[show (iv s)[q]? =some (.int .i64 (s.getD q 0)) by simp[iv,List.getD,j9]]at c2;have f2:=(Aa b4).frozenAt q;generalize s.getD q 0=old at*;go_wp2;go_roundw
     case rel=>
      have jv:=(Aa b4).stored q (.int .i64 (r:Int));have h7:Below N w6 (w6.setCell ⟨N,q,none⟩ (.int .i64 (r:Int))):=(Below.refl N w6).setCell (VB _) _;refine⟨j+1,s.set q (r:Int),x,by omega,by go_num,kh,Ab (by rw[XS];exact Aa eb),Ab ((Aa bh).newer (by omega) h7),Ab ?_,Ab ?_,jj⟩
      . have e:iv (s.set q (r:Int))=(iv s).set q (.int .i64 (r:Int)):=by rw[iv,List.map_set]
        rw[e];exact jv.1
      . rw[heap_setCell_other w6 _ _ _ (by show a2.heap.size≠N;omega)];exact Aa j5
     case measure=>simp[intOf];omega
   . obtain rfl:j=c0+4:=by omega
     have fg:=Aa c9;rw[XR (by rw[VL];omega),usmall]at fg;obtain⟨rfl,rfl⟩:=VN fg;have d7:=Aa eb;have dt:Hid (RowIn .i64 wr (some ⟨N,0,none⟩) s):=Ab (RowIn.iv (Aa ao));obtain⟨ax,hk⟩:=exq (Qa (s,O));obtain⟨h8,ij,g9,ji⟩:=(Aa T).is.cell;have bo:=Ab hk;have k3:=(Aa T).below.size;clear c9 fg h8 ij ji hk dh h5 fp h4 hf e4 gv;obtain⟨dm,cq⟩:=exq (((O.e==0)&&(errL s !=0)));have b5:=Ab cq;clear cq;go_upto_region 10 with fail
     go_cut [56] (fun jz wc=>jz=.bool dm/\wc=wr)
     case first=>
      by_cases aj:O.e=0
      . rw[aj]at g9;have ds:(errL s !=0)=dm:=by have:=Aa b5;rw[aj]at this;simpa using this
        have iu:=Ab (Ff (some ⟨N,0,none⟩) 19 19 s wr d7 (by omega) (Aa dt));generalize errL s=k4 at*;go_wp2_with fail
        refine(Aa iu).mono ?_;rintro e w6 ⟨rfl,h1⟩;obtain rfl:wr=w6:=h1.symm;clear h1;go_wp2;go_meet
        exact⟨rfl,rfl⟩
      . have dv:(O.e==0)=false:=by rw[beq_eq_false_iff_ne];exact aj
        have ds:dm=false:=by rw[<-Aa b5,dv];rfl
        subst ds;generalize O.e=hj at*;go_wp2;go_meet
        exact⟨rfl,rfl⟩
     case rest=>
     obtain⟨rfl,a8⟩:=hcut;obtain rfl:wr=wc:=a8.symm;clear a8;go_upto_if 56 with (fail)
     go_cut [7] (fun i1 wc=>i1=.slice (some ⟨N,0,none⟩) 19 19/\Hid (UUp (N1 No N) B ai b (rowB bs E) ax wc)/\Hid (RowIn .i64 wc (some ⟨N,0,none⟩) s))
     case first=>
      cases dm with
      |true=>
       have G:=Aa b5;rw[ZM,beq_iff_eq,bne_iff_ne]at G;have ap:=Ab (Dn (N1 No N) B b (rowB bs E) O 8 wr (Aa T).is);have ar:Hid (Am 8 O=ax):=Ab (by rw[<-Aa bo];unfold Qa;rw[if_pos G]);clear G;go_wp2_with fail
       refine(Aa ap).mono ?_;rintro e w6 ⟨rfl,ah⟩;have bh:=Ab ((Aa T).trans ah);have i4:=Ab (ah.rows (Aa dt) (fun g o e=>by cases e;exact VB _));rw[Aa ar]at bh;clear ah;go_wp2;go_meet
       exact⟨rfl,bh,i4⟩
      |false=>
       have G:¬(O.e=0/\errL s≠0):=fun G=>by
        have:=Aa b5
        rw[G.1]at this;simp[G.2]at this
       have ar:Hid (O=ax):=Ab (by rw[<-Aa bo];unfold Qa;rw[if_neg G]);rw[Aa ar]at T;clear G;go_wp2;go_meet
       exact⟨rfl,T,dt⟩
     case rest=>
     rename World=>h3
     obtain⟨rfl,cn,ig⟩:=hcut;clear T dt ao g9;obtain⟨_,_,ja,_⟩:=(Aa cn).is.cell;have bq:Hid (∀W v,UUp (N1 No N) B ai b (rowB bs E) v W->UUp No B w b (rowB bs E) v W):=Ab (fun W v j0=>(Aa gh).trans j0.closed)
     by_cases dc:ax.e≠0
     . have im:(ax.e !=0)=true:=by simp only[bne_iff_ne,ne_eq];exact dc
       have az:Hid (TdA No B w b (rowB bs E) R (.returned (.tuple #[.slice none 0 0,.slice none 0 0])) h3):=Ab (by
        have ep:R=(([],[]),ax):=by rw[<-Aa ee];unfold Ke;rw[Aa bo,if_pos dc]
        rw[ep];exact⟨Aa bq _ _ (Aa cn),.inl ⟨dc,rfl⟩⟩)
       generalize ax.e=hj at*;go_wp2;go_ret2;exact Aa az
     have bw:ax.e=0:=by omega
     rw[bw]at ja
     have i9:O.e=0/\errL s=0/\ax=O:=by
      have av:=Aa bo;unfold Qa at av
      by_cases G:O.e=0/\errL s≠0
      . rw[if_pos G]at av;rw[<-av]at bw;exact absurd bw (Bm (by decide))
      . rw[if_neg G]at av;dsimp only at av;refine⟨by rw[av];exact bw, ?_,av.symm⟩
        by_cases a4:errL s=0
        . exact a4
        . exact absurd ⟨by rw[av];exact bw,a4⟩ G
     obtain⟨il,ie,rfl⟩:=i9;have ko:=Aa f6 il;have ek:=Ch ie;have jq:=Ab ek;obtain⟨tot,eo⟩:=exq (m0+257+(n0+1));have c5:=Ab eo;have l7:tot<=316/\257<=tot:=by omega
     obtain⟨L,v,dx⟩:∃L v,ulens (rowB bs E) s tot tot [] ax=(L,v):=⟨_,_,rfl⟩
     have df:Hid (R=Gl (m0+257) (L,v)):=Ab (by
      rw[<-Aa ee];unfold Ke;rw[Aa bo,if_neg (fun G=>G bw),eo,dx])
     have f8:=Ab dx;have kz:=(Aa cn).below.size;clear dx f6 ee bo b5 dc eo;go_wp2_with fail
     refine(Jm (some ⟨N,0,none⟩) 19 19 s h3 d7 (Aa ig) ek).mono ?_;rintro e lz ⟨mb,nn,rfl,ki,c8,hq⟩;have jw:=Ab ((Aa cn).newer (by omega) (hq.mono (by omega)));rw[show 19=s.length from d7.symm]at c8;have j7:=Ab c8;have bk:N<=mb:=by omega
     have h9:mb≠b:=by have:=(Aa cn).is.lt;omega
     have k7:=(c8.lt)
     clear c8 hq;go_wp2;go_loopw [11,12,13,14] (fun cj _ _ _ wr=>∃(l:List Int) (F:Nat) (O:US),l.length<=460/\Hid (ulens (rowB bs E) s tot F l O=(L,v))/\Hid (O.e=0->tot<=l.length+F/\l.length<=tot)/\Hid (UUp (N1 No N) B ai b (rowB bs E) O wr)/\Hid (wr.ownsRow N 3 1 cj l.length (iv l))/\Hid (Em wr mb nn (Fg s s.length))/\Hid (O.p<=(rowB bs E).length)) (fun cj _ _ _ _=>1000-Z8l cj)
     case atStart=>exact⟨[],tot,ax,by simp,f8,Ab (fun _=>⟨by simp,by simp⟩),jw,Ab (World.ownsRow_nil _ _ _ _),j7,b0⟩
     case round=>
      obtain⟨l,F,O,jr,cp,cd,T,ao,fe,b0⟩:=hrel;obtain⟨ej,aw,rfl⟩:=MT (Aa ao);obtain⟨_,_,eg,_⟩:=(Aa T).is.cell;obtain⟨I,bu⟩:=exq (l.length)
      by_cases co:l.length<tot/\O.e=0
      . obtain⟨c7,em⟩:=co;obtain⟨hp,i5⟩:=Aa cd em;rw[em]at eg
        cases F with
        |zero=>exact absurd hp (by omega)
        |succ F=>
         obtain⟨k,x,dj⟩:∃k x,uplace s (rowB bs E) O=(k,x):=⟨_,_,rfl⟩
         obtain⟨Y,tm,y,ci⟩:∃Y tm y,ukind (rowB bs E) l k x=(Y,tm,y):=⟨_,_,_,rfl⟩
         have fq:=SX (rowB bs E) l k x;rw[ci]at fq;simp only at fq
         obtain⟨z,cv⟩:=exq ((if y.e=0/\tot<l.length+tm then Am 8 y else y))
         have a3:Hid (ulens (rowB bs E) s tot F (l++List.replicate tm Y) z=(L,v)):=Ab (by
          have U:=Aa cp;rw[ulens,if_pos ⟨c7,em⟩]at U;unfold ustep Td at U;rw[dj]at U;simp only[ci,cv]at U;exact U)
         have bn:=SV s (rowB bs E) O (Aa b0);rw[dj]at bn;simp only at bn
         have dd:=TB (rowB bs E) l k x bn;rw[ci]at dd;simp only at dd
         have jk:z.p<=(rowB bs E).length:=by
          rw[<-cv]
          split
          . rw[Wl];exact dd
          . exact dd
         have a1:Hid (z.e=0->l.length+tm<=tot):=Ab (fun U=>by
          rw[<-cv]at U
          by_cases G:y.e=0/\tot<l.length+tm
          . rw[if_pos G]at U;exact absurd U (Bm (by decide))
          . rw[if_neg G]at U
            by_cases jm:tot<l.length+tm
            . exact absurd ⟨U,jm⟩ G
            . omega)
         have ei:=Ab (Km (N1 No N) B b mb nn E s bs O wr (Aa T).is (Aa jq) jo i7 (by have:=Aa b0;omega) (Aa fe) h9);rw[dj]at ei;have c6:=Aa c5;have e5:(I:Int)<(m0:Int)+257+((n0:Int)+1):=by omega
         have a7:=Ab bu;have ay:=Ab ci;have al:=Ab cv;rw[bu]at ao c7 i5 hp jr ⊢;clear cp cd dj ci cv bu c6;go_wp2_with fail
         refine(Aa ei).mono ?_;rintro e b9 ⟨rfl,cy⟩;have au:=Ab ((Aa T).trans cy);have bd:=Ab (cy.own (Aa ao));have bm:=Ab (cy.book (Aa fe) bk);clear cy ei T ao fe;go_upto_block 4 with fail
         go_cut [13,14] (fun iz jc wc=>iz=.int .i64 Y/\jc=.int .i64 (tm:Int)/\Hid (UUp (N1 No N) B ai b (rowB bs E) y wc)/\Hid (wc.ownsRow N 3 1 (.slice ej I aw) I (iv l))/\Hid (Em wc mb nn (Fg s s.length)))
         case first=>
          by_cases f5:k=16
          . subst f5
            by_cases fj:I=0
            . have ae:(Y,tm,y)=((16:Int),1,Am 8 x):=by rw[<-Aa ay];unfold ukind;rw[if_pos rfl,if_pos (by rw[Aa a7];exact fj)]
              obtain⟨rfl,af⟩:=VN ae;obtain⟨rfl,rfl⟩:=VN af;have je:((I:Int)==0)=true:=by rw[beq_iff_eq];omega
              have ap:=Ab (Dn (N1 No N) B b (rowB bs E) x 8 b9 (Aa au).is);clear ae af ay al a1 a3 fj;go_wp2_with fail
              refine(Aa ap).mono ?_;rintro e a5 ⟨rfl,Z⟩;have aa:=Ab ((Aa au).trans Z);have ag:=Ab (Z.own (Aa bd));have ak:=Ab (Z.book (Aa bm) bk);clear Z;go_wp2;go_meet
              exact⟨rfl,rfl,aa,ag,ak⟩
            . obtain⟨r,b3,e2⟩:∃r y,uget (rowB bs E) 2 x=(r,y):=⟨_,_,rfl⟩
              have ae:(Y,tm,y)=(l.getD (l.length-1) 0,3+r,b3):=by rw[<-Aa ay];unfold ukind;rw[if_pos rfl,if_neg (by rw[Aa a7];exact fj),e2]
              obtain⟨gn,af⟩:=VN ae;obtain⟨rfl,rfl⟩:=VN af;obtain⟨ac,ii,d9,h6,da⟩:=Ba (Aa bd) (by omega)
              cases d9
              obtain⟨q,av⟩:∃q,I=q+1:=⟨I-1,by omega⟩
              have jl:b9.cell? ⟨ac,q,none⟩=some (.int .i64 Y):=by
               rw[(Aa bd).cellAt q (by omega),gn,Aa a7,av,YA];have:q<l.length:=by rw[Aa a7];omega
               simp[iv,List.getD,this]
              have je:((I:Int)==0)=false:=by rw[beq_eq_false_iff_ne];omega
              have bc:((I:Int)-1).toNat=q:=by omega
              have kx:1<=I:=by omega
              have k8:(1:Int)<=(I:Int):=by omega
              have lk:¬(I:Int)<=(I:Int)-1:=by omega
              have l3:(I:Int)-1<(I:Int):=by omega
              have ku:IntKind.i64.wrap ((I:Int)-1)=(I:Int)-1:=by simp[IntKind.wrap,IntKind.signed,IntKind.bits];omega
              have ce:=Ab (fun i=>Hm (N1 No N) B b 2 _ x (b9.drewN i) ((UUp.refl (Aa au).is).drewN i).is (by omega) bf bn r y e2);have fw:r<=135:=by omega
              have l6:IntKind.i64.wrap (3+(r:Int))=3+(r:Int):=by simp[IntKind.wrap,IntKind.signed,IntKind.bits];omega
              have dn:=Ab (fun i=>(UUp.refl (Aa au).is).drewN i);clear ae af ay al a1 a3 av gn e2;go_wp2;go_region_held3 (fun w'=>w'.cell? ⟨ac,q,none⟩=some (.int .i64 Y)) (first|assumption|simp[*]) (first|(go_at_call 91;refine(Aa ce _).mono ?_;rintro e a5 ⟨rfl,Z⟩;have aa:=Ab ((Aa au).trans ((Aa dn _).trans Z));have ag:=Ab (((Aa dn _).trans Z).own (Aa bd));have ak:=Ab (((Aa dn _).trans Z).book (Aa bm) bk);have lr:=(World.cell?_of_block (a:=⟨ac,q,none⟩) (((Aa dn _).trans Z).kp ac da (.inr h6))).trans jl;clear Z))
              go_wp2;go_meet
              exact⟨rfl,by simp,aa,ag,ak⟩
          have hz:((k:Int)==16)=false:=by rw[beq_eq_false_iff_ne];omega
          by_cases f7:k=17
          . subst f7;clear hz;obtain⟨r,b3,e2⟩:∃r y,uget (rowB bs E) 3 x=(r,y):=⟨_,_,rfl⟩
            have ae:(Y,tm,y)=((0:Int),3+r,b3):=by rw[<-Aa ay];unfold ukind;simp only[e2];rfl
            obtain⟨rfl,af⟩:=VN ae;obtain⟨rfl,rfl⟩:=VN af;have ce:=Ab (Hm (N1 No N) B b 3 _ x b9 (Aa au).is (by omega) bf bn r y e2);have fw:r<=135:=by omega
            clear ae af ay al a1 a3 e2;go_wp2_with fail
            refine(Aa ce).mono ?_;rintro e a5 ⟨rfl,Z⟩;have aa:=Ab ((Aa au).trans Z);have ag:=Ab (Z.own (Aa bd));have ak:=Ab (Z.book (Aa bm) bk);clear Z;go_wp2;go_meet
            exact⟨rfl,by simp,aa,ag,ak⟩
          have iq:((k:Int)==17)=false:=by rw[beq_eq_false_iff_ne];omega
          by_cases gq:k=18
          . subst gq;clear hz iq;obtain⟨r,b3,e2⟩:∃r y,uget (rowB bs E) 7 x=(r,y):=⟨_,_,rfl⟩
            have ae:(Y,tm,y)=((0:Int),11+r,b3):=by rw[<-Aa ay];unfold ukind;simp only[e2];rfl
            obtain⟨rfl,af⟩:=VN ae;obtain⟨rfl,rfl⟩:=VN af;have ce:=Ab (Hm (N1 No N) B b 7 _ x b9 (Aa au).is (by omega) bf bn r y e2);have fw:r<=135:=by omega
            clear ae af ay al a1 a3 e2;go_wp2_with fail
            refine(Aa ce).mono ?_;rintro e a5 ⟨rfl,Z⟩;have aa:=Ab ((Aa au).trans Z);have ag:=Ab (Z.own (Aa bd));have ak:=Ab (Z.book (Aa bm) bk);clear Z;go_wp2;go_meet
            exact⟨rfl,by simp,aa,ag,ak⟩
          have k0:((k:Int)==18)=false:=by rw[beq_eq_false_iff_ne];omega
          have ae:(Y,tm,y)=((k:Int),1,x):=by rw[<-Aa ay];unfold ukind;rw[if_neg f5,if_neg f7,if_neg gq]
          obtain⟨rfl,af⟩:=VN ae;obtain⟨rfl,rfl⟩:=VN af;clear ae af ay al a1 a3;go_wp2;go_meet
          exact⟨rfl,rfl,au,bd,bm⟩
         case rest=>
         rename World=>e6
         obtain⟨rfl,rfl,aa,ag,ak⟩:=hcut;clear au bd bm ay;obtain⟨_,_,hu,_⟩:=(Aa aa).is.cell;obtain⟨cu,g4⟩:=exq (((y.e==0)&&decide (tot<I+tm)));have a6:=Ab g4;have c6:=Aa c5;clear g4;go_upto_region 27 with fail
         go_cut [131] (fun i3 wc=>i3=.bool cu/\wc=e6)
         case first=>
          by_cases aj:y.e=0
          . rw[aj]at hu;have gx:decide (tot<I+tm)=cu:=by have:=Aa a6;rw[aj]at this;simpa using this
            have jf:decide ((m0:Int)+257+((n0:Int)+1)<(I:Int)+(tm:Int))=cu:=by
             rw[<-gx,decide_eq_decide];omega
            clear gx a6 al a1 a3;go_wp2;go_meet
            exact⟨by first|rfl|rw[jf],rfl⟩
          . have dv:(y.e==0)=false:=by rw[beq_eq_false_iff_ne];exact aj
            have ds:cu=false:=by rw[<-Aa a6,dv];rfl
            subst ds;clear a6 al a1 a3;generalize y.e=k5 at*;go_wp2;go_meet
            exact⟨rfl,rfl⟩
         case rest=>
         obtain⟨rfl,a8⟩:=hcut;obtain rfl:e6=wc:=a8.symm;clear a8;go_upto_if 131 with (fail)
         go_cut [11] (fun cj wc=>cj=.slice ej I aw/\Hid (UUp (N1 No N) B ai b (rowB bs E) z wc)/\Hid (wc.ownsRow N 3 1 (.slice ej I aw) I (iv l))/\Hid (Em wc mb nn (Fg s s.length)))
         case first=>
          cases cu with
          |true=>
           have G:=Aa a6;rw[ZM,beq_iff_eq,decide_eq_true_iff]at G;have ap:=Ab (Dn (N1 No N) B b (rowB bs E) y 8 e6 (Aa aa).is);have ar:Hid (Am 8 y=z):=Ab (by rw[<-Aa al,Aa a7,if_pos G]);clear G a6 al a1 a3;go_wp2_with fail
           refine(Aa ap).mono ?_;rintro e w6 ⟨rfl,ah⟩;have bh:=Ab ((Aa aa).trans ah);have b4:=Ab (ah.own (Aa ag));have ic:=Ab (ah.book (Aa ak) bk);rw[Aa ar]at bh;clear ah;go_wp2;go_meet
           exact⟨rfl,bh,b4,ic⟩
          |false=>
           have G:¬(y.e=0/\tot<I+tm):=fun G=>by
            have:=Aa a6
            rw[G.1,decide_eq_true G.2]at this
            cases this
           have ar:Hid (y=z):=Ab (by rw[<-Aa al,Aa a7,if_neg G]);rw[Aa ar]at aa;clear G a6 al a1 a3;go_wp2;go_meet
           exact⟨rfl,aa,ag,ak⟩
         case rest=>
         rename World=>de
         obtain⟨rfl,aa,ag,ak⟩:=hcut;have lg:=(Aa aa).below.size;have ir:N<=de.heap.size:=by omega
         have lf:I<=316:=by omega
         clear a6 al hu eg;go_wp2_with fail
         refine(Fp Y tm de (by omega) (by omega)).mono ?_;rintro e en ⟨rfl,h2,cw,li⟩;have i0:=Ab ((Aa aa).newer (by omega) (cw.mono ir));have dy:=Ab (Au (Aa ag) (fun g jy=>cw.block g ((Aa ag).lt g jy).2));have hs:=Ab (Wc (Aa ak) cw (Aa ak).lt);have k6:=cw.size;have ia:Hid (∀j u,(iv (List.replicate tm Y))[j]? =some u->en.cell? ((⟨de.heap.size+1,0,none⟩:Addr).add j)=some u):=Ab (C2 h2);clear h2 cw;go_wp2_with (at_builtin;refine wpList_append_own_at _ rfl (.tmp 134) (.tmp 138) 76 rfl N 3 gj (.int .i64 0) 1 8 Tryz.underlying76 hi ft gy fu rfl (by decide) _ I (iv l) rfl (Aa dy) ⟨de.heap.size+1,0,none⟩ tm tm (iv (List.replicate tm Y)) rfl (by simp) (Aa ia) (OC _) (by unfold maxLen;omega) (by omega) (by omega) ?_)
         intro v' ew fk ff _ _;have ea:iv (l++List.replicate tm Y)=iv l++iv (List.replicate tm Y):=by rw[iv,iv,iv,WU]
         have gg:Below N en ew:=(Below.refl N en).grown ff (by omega) (fun g e=>((Aa dy).lt g e).1);have j6:=Ab ((Aa i0).newer (by omega) gg);have jh:Hid (Em ew mb nn (Fg s s.length)):=Ab ((Aa hs).kept ff (FO (Aa dy) (Aa hs)));have f9:Hid (ew.ownsRow N 3 1 v' (l++List.replicate tm Y).length (iv (l++List.replicate tm Y))):=Ab (by rw[VE,XD,ea,Aa a7];first|exact fk|(rw[Z6z];exact fk));clear fk ff gg;have ho:=Aa a7;have fh:Hid ((l++List.replicate tm Y).length=I+tm):=Ab (by rw[VE,XD,ho]);clear ho;go_wp2;go_roundw
         case rel=>
          refine⟨l++List.replicate tm Y,F,z,by rw[Aa fh];omega,a3,Ab (fun j1=> ?_),j6,f9,jh,Ab jk⟩;have a4:=Aa a1 j1;rw[Aa a7]at a4;rw[Aa fh];omega
         case measure=>
          rw[Z45 (Aa f9),Aa fh];show 1000-(I+tm)<1000-I
          omega
      . have hex:L=l/\v=O:=by
         have U:=Aa cp
         cases F with
         |zero=>rw[ulens]at U;exact⟨(VN U).1.symm,(VN U).2.symm⟩
         |succ F=>rw[ulens,if_neg co]at U;exact⟨(VN U).1.symm,(VN U).2.symm⟩
        obtain⟨rfl,rfl⟩:=hex
        by_cases bz:v.e≠0
        . have im:(v.e !=0)=true:=by simp only[bne_iff_ne,ne_eq];exact bz
          have kq:(v.e==0)=false:=by rw[beq_eq_false_iff_ne];exact bz
          have az:Hid (TdA No B w b (rowB bs E) R (.returned (.tuple #[.slice none 0 0,.slice none 0 0])) wr):=Ab (by
           have ep:R=(([],[]),v):=by rw[Aa df];unfold Gl;rw[if_pos bz]
           rw[ep];exact⟨Aa bq _ _ (Aa T),.inl ⟨bz,rfl⟩⟩)
          rw[bu];have lh:=Aa c5;clear bz co cp cd;generalize v.e=hj at*
          by_cases l0:I<tot
          . have e5:(I:Int)<(m0:Int)+257+((n0:Int)+1):=by omega
            go_wp2;go_ret2;exact Aa az
          . have e5:¬(I:Int)<(m0:Int)+257+((n0:Int)+1):=by omega
            go_wp2;go_ret2;exact Aa az
        . have bg:v.e=0:=by omega
          have eh:L.length=tot:=by
           have a4:=(Aa cd bg).2;have e9:¬L.length<tot:=fun cm=>co ⟨cm,bg⟩
           omega
          have c6:=Aa c5;rw[bg]at eg;obtain⟨ac,ii,d9,h6,da⟩:=Ba (Aa ao) (by omega)
          cases d9
          have j4:wr.cell? ⟨ac,256,none⟩=some (.int .i64 (L.getD 256 0)):=by
           rw[(Aa ao).cellAt 256 (by omega)];have:256<L.length:=by omega
           simp[iv,List.getD,this]
          have j3:L.length<=aw:=by
           rcases(Aa ao).2 with ⟨aj,_⟩|⟨_,_,_,U,_,_,dz,_⟩
           . cases aj
           . cases U;exact dz
          have ey:Row .i64 wr ac 0 L:=by
           rcases RowIn.iv (Aa ao)with aj|⟨lq,kj,bc,_,dz⟩
           . rw[aj]at eh;simp at eh;omega
           . cases bc;exact dz
          obtain⟨M,g5⟩:=exq (m0+257);have lu:(m0:Int)+257=(M:Int):=by omega
          have g8:Hid (RowIn .i64 wr (some ⟨ac,0,none⟩) (L.take M)):=Ab (.inr ⟨ac,0,rfl,da,fun j cz=>by
           rw[VL]at cz;have:=ey j (by omega)
           rw[this,List.getD,List.getD,List.getElem?_take,if_pos (by omega)]⟩)
          have hx:Hid (RowIn .i64 wr (some ⟨ac,M,none⟩) (L.drop M)):=Ab (.inr ⟨ac,M,rfl,da,fun j cz=>by
           rw[VQ]at cz;have:=ey (M+j) (by omega)
           rw[WG]at this;rw[this,List.getD,List.getD,XJ]⟩)
          have e1:(L.take M).length=M:=by rw[VL];omega
          have ed:(L.drop M).length=n0+1:=by rw[VQ];omega
          have bj:Hid ((L.getD 256 0=0\/errL (L.take M)≠0\/errL (L.drop M)≠0)->R=(([],[]),Am 8 v)):=Ab (fun G=>by rw[Aa df];unfold Gl;rw[if_neg (fun cm=>cm bg),g5,if_pos G]);have dp:Hid (¬(L.getD 256 0=0\/errL (L.take M)≠0\/errL (L.drop M)≠0)->R=((L.take M,L.drop M),v)):=Ab (fun G=>by rw[Aa df];unfold Gl;rw[if_neg (fun cm=>cm bg),g5,if_neg G]);have ap:=Ab (Dn (N1 No N) B b (rowB bs E) v 8 wr (Aa T).is);have dr:=Ab (Ff (some ⟨ac,0,none⟩) M aw (L.take M) wr e1 (by omega) (Aa g8));have e8:=Ab (Ff (some ⟨ac,M,none⟩) (n0+1) (aw-M) (L.drop M) wr ed (by omega) (Aa hx));have e5:¬(I:Int)<(M:Int)+((n0:Int)+1):=by omega
          have ik:I-M=n0+1:=by omega
          have ly:(256:Int)<(I:Int):=by omega
          have km:(M:Int)<=(I:Int):=by omega
          have lv:(M:Int)<=(aw:Int):=by omega
          have l8:M<=I:=by omega
          have lm:¬aw=M:=by omega
          have lj:I<=aw:=by omega
          have js:=Ab bg;rw[bu];obtain⟨fy,ht⟩:=exq (L.getD 256 0);obtain⟨ea,g7⟩:=exq (errL (L.take M));obtain⟨ec,fo⟩:=exq (errL (L.drop M));rw[ht]at j4 bj dp;rw[g7]at dr bj dp;rw[fo]at e8 bj dp;have ib:=Ab e1;have kc:=Ab ed;clear ey j3 e1 ed bz co cp cd ht g7 fo eh bu bg c6 df f8 ek
          by_cases k1:fy=0
          . subst k1;have bi:=Ab (Aa bj (.inl rfl));go_wp2_with fail
            refine(Aa ap).mono ?_;rintro e ck ⟨rfl,bb⟩;have az:Hid (TdA No B w b (rowB bs E) R (.returned (.tuple #[.slice none 0 0,.slice none 0 0])) ck):=Ab (by rw[Aa bi];exact⟨Aa bq _ _ ((Aa T).trans bb),.inl ⟨Bm (by decide),rfl⟩⟩);clear bb;go_wp2;go_ret2;exact Aa az
          have ky:(fy==0)=false:=by rw[beq_eq_false_iff_ne];exact k1
          by_cases k2:ea=0
          . subst k2
            by_cases fi:ec=0
            . subst fi;have bi:=Ab (Aa dp (by intro G;rcases G with G|G|G;exact k1 G;exact G rfl;exact G rfl));clear k1;go_wp2_with fail
              refine(Aa dr).mono ?_;rintro e a5 ⟨rfl,ba⟩;obtain rfl:wr=a5:=ba.symm;clear ba;go_wp2_with fail
              refine(Aa e8).mono ?_;rintro e e7 ⟨rfl,ct⟩;obtain rfl:wr=e7:=ct.symm;clear ct;go_wp2;go_region
              all_goals go_wp2
              go_ret2;rw[Aa bi];refine⟨(Aa bq _ _ (Aa T)).drewN 1,.inr ⟨some ⟨ac,0,none⟩,aw,some ⟨ac,M,none⟩,aw-M,Aa js, ?_, ?_, ?_⟩⟩
              . rw[Aa ib,Aa kc,<-ik];rfl
              . exact Aa g8
              . exact Aa hx
            . have kk:(ec !=0)=true:=by simp only[bne_iff_ne,ne_eq];exact fi
              have bi:=Ab (Aa bj (.inr (.inr fi)));clear k1;go_wp2_with fail
              refine(Aa dr).mono ?_;rintro e a5 ⟨rfl,ba⟩;obtain rfl:wr=a5:=ba.symm;clear ba;go_wp2_with fail
              refine(Aa e8).mono ?_;rintro e e7 ⟨rfl,ct⟩;obtain rfl:wr=e7:=ct.symm;clear ct;go_wp2_with fail
              refine(Aa ap).mono ?_;rintro e ck ⟨rfl,bb⟩;have az:Hid (TdA No B w b (rowB bs E) R (.returned (.tuple #[.slice none 0 0,.slice none 0 0])) ck):=Ab (by rw[Aa bi];exact⟨Aa bq _ _ ((Aa T).trans bb),.inl ⟨Bm (by decide),rfl⟩⟩);clear bb;go_wp2;go_ret2;exact Aa az
          . have l4:(ea !=0)=true:=by simp only[bne_iff_ne,ne_eq];exact k2
            have bi:=Ab (Aa bj (.inr (.inl k2)));clear k1;go_wp2_with fail
            refine(Aa dr).mono ?_;rintro e a5 ⟨rfl,ba⟩;obtain rfl:wr=a5:=ba.symm;clear ba;go_wp2_with fail
            refine(Aa ap).mono ?_;rintro e ck ⟨rfl,bb⟩;have az:Hid (TdA No B w b (rowB bs E) R (.returned (.tuple #[.slice none 0 0,.slice none 0 0])) ck):=Ab (by rw[Aa bi];exact⟨Aa bq _ _ ((Aa T).trans bb),.inl ⟨Bm (by decide),rfl⟩⟩);clear bb;go_wp2;go_ret2;exact Aa az
theorem Rb {w:World}{b e F n:Nat}{v:Value}{xs:List Value}(E:w.ownsRow (b+1) e F v n xs):v.ownBlock=none\/v.ownBlock≠some b:=by
 cases G:v.ownBlock with
 |none=>exact .inl rfl
 |some g=>
  refine .inr (fun e=> ?_);have:=(E.lt g G).1
  cases e
  omega
theorem UIs.keepK {No:Nat->Prop}{B b k:Nat}{w E:World}{row:List Bool}{u:US}{H G v':Value}{X:Obj}(ag:B<=b)(af:¬No b)(Z:w.heap[b]? =some (.cells (ucells row u H G) 110 (0,0)))
 (I:w.ownsRow (b+1) 5 1 H u.out.length (u8s u.out)) (U:w.ownsRow (b+1) 3 1 G u.ks.length (i64s u.ks)) (ae:H.ownBlock=none\/H.ownBlock≠G.ownBlock) (av:∀g,H.ownBlock=some g->¬No g) (Y:∀g,G.ownBlock=some g->¬No g) (ao:∀g,w.heap.size<=g->¬No g)
 (ah:E.ownsRow (b+1) 3 1 v' (u.ks.length+1) (i64s u.ks++ [.int .i64 (k:Int)])) (M:(w.alloc X).grownBy E G.ownBlock) (aa:v'.ownBlock=G.ownBlock\/v'.ownBlock=some (w.heap.size+1)):
 E.cell? ⟨b,3,none⟩=some G/\E.frozen? ⟨b,3,none⟩=false/\UUp No B w b row (ukept k u) (E.setCell ⟨b,3,none⟩ v'):=by
 have al:b<w.heap.size:=(VK.1 Z).1;have aj:=Rb U
 have O:E.heap[b]? =some (.cells (ucells row u H G) 110 (0,0)):=by
  rw[M.block b (by simp;omega) (fun e=>by rcases aj with h|h;rw[h]at e;cases e;exact h e.symm)];exact(Below.heap_alloc w _ b al).trans Z
 have ac:∀g,g<w.heap.size->G.ownBlock≠some g->E.heap[g]? =w.heap[g]? :=fun g F ak=>by
  rw[M.block g (by simp;omega) (fun e=>ak e.symm)];exact Below.heap_alloc w _ g F
 have ai:=M.size;have T:=Ad E b 3 v';simp only[World.size_alloc]at ai
 have ap:E.ownsRow (b+1) 5 1 H u.out.length (u8s u.out):=Au I (fun g F=>ac g (I.lt g F).2 (fun e=>by
  rcases ae with h|h
  . rw[h]at F;cases F
  . exact h (by rw[F];exact e.symm)))
 refine⟨Ac O,frozen_of_row E b 3 _ _ O,⟨⟨ag,af,H,v', ?_,ap.kept T (Rb I), ?_, ?_,av, ?_⟩, ?_, ?_⟩⟩
 . rw[heap_setCell_same E b 3 _ _ _ O];rfl
 . have:=ah.kept T (Rb ah)
   show (E.setCell ⟨b,3,none⟩ v').ownsRow (b+1) 3 1 v' (u.ks++ [k]).length (i64s (u.ks++ [k]))
   have e:i64s (u.ks++ [k])=i64s u.ks++ [.int .i64 (k:Int)]:=by simp[i64s]
   rw[e,VE];exact this
 . rcases aa with h|h
   . rw[h];exact ae
   . cases au:H.ownBlock with
     |none=>exact .inl rfl
     |some g=>
      refine .inr (fun e=> ?_);rw[h]at e;have:=(I.lt _ au).2
      cases e
      omega
 . intro g F
   rcases aa with h|h
   . exact Y g (by rw[<-h];exact F)
   . rw[h]at F
     cases F
     exact ao _ (by omega)
 . have ar:Below B w E:=((Below.refl B w).alloc (by omega) X).grown M (by simp;omega) (fun g e=>by have:=(U.lt g e).1;omega);exact ar.setCell ag _
 . intro g F hn;rw[heap_setCell_other E _ _ _ (fun e=>af (by have:g=b:=e;rw[<-this];exact hn))];exact ac g F (fun e=>Y g e hn)
def N2 (No:Nat->Prop)(N M:Nat):Nat->Prop:=fun g=>No g\/ (N<=g/\g<M)
theorem UUp.closed2 {No:Nat->Prop}{B b N M:Nat}{G w:World}{row:List Bool}{u:US}(E:UUp (N2 No N M) B G b row u w):UUp No B G b row u w:=
 ⟨E.is.more (fun e=>E.is.no (.inl e)) (fun g F=>.inl (.inl F)),E.below,E.kp.weaken (fun g F=>.inl F)⟩
theorem UUp.prs {No:Nat->Prop}{B b N M E:Nat}{w w':World}{row:List Bool}{u:US}{l:List (Nat×Nat)}(H:UUp (N2 No N M) B w b row u w')(G:Prs w E l)(T:E<w.heap.size)(U:N<=E)(I:E<M):Prs w' E l:=by
 have F:=H.kp E T (.inr ⟨U,I⟩);intro j O;have:=G j O
 exact⟨(World.cell?_of_block (a:=⟨E,j*2,none⟩) F).trans this.1,(World.cell?_of_block (a:=⟨E,j*2+1,none⟩) F).trans this.2⟩
theorem UUp.book2 {No:Nat->Prop}{B b N M E H:Nat}{w w':World}{row:List Bool}{u:US}{G:DataW Unit}(O:UUp (N2 No N M) B w b row u w')(I:Em w E H G)(T:N<=E)(Y:E<M):Em w' E H G:=by
 have aa:=I.lt;obtain⟨es,clock,hb,F,Z,U⟩:=I;exact⟨es,clock,(O.kp E aa (.inr ⟨T,Y⟩)).trans hb,F,Z,U⟩
theorem Lr {w w':World}{B E:Nat}{l:List (Nat×Nat)}(F:Prs w E l)(G:Below B w w')(I:E<B):Prs w' E l:=fun j H=>
 ⟨(G.cell (p:=⟨E,j*2,none⟩) I).trans (F j H).1,(G.cell (p:=⟨E,j*2+1,none⟩) I).trans (F j H).2⟩
def Z16 (n b:Nat)(w:World):Nat:=8*n+1-((w.cell? ⟨b,1,none⟩).map (fun x=>(intOf x).toNat)).getD 0
theorem Jz {No:Nat->Prop}{B b n:Nat}{w:World}{row:List Bool}{u:US}(E:UIs No B w b row u):Z16 n b w=8*n+1-u.p:=by
 unfold Z16;rw[E.cell.2.1];simp[intOf]
end Go.Proofs.YtleocpdblhbimaaGreatDoor
