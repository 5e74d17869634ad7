import Derived.Test.YtleocpdblhbimaaGreatDoorQ47
import Derived.Deep.CutBlock
import Derived.Deep.DeepCutAuto
import Derived.Test.YtleocpdblhbimaaGreatDoorQ41
set_option linter.unusedSimpArgs false
set_option linter.unusedVariables false
set_option maxRecDepth 100000
set_option maxHeartbeats 8000000
namespace Go.Proofs.YtleocpdblhbimaaGreatDoor
open Go.RowKit
def TdA (No:Nat->Prop)(B:Nat)(w:World)(b:Nat)(row:List Bool)(R:(List Int×List Int)×US)(e:Ending)(w':World):Prop:=
 UUp No B w b row R.2 w'/\((R.2.e≠0/\e=.returned (.tuple #[.slice none 0 0,.slice none 0 0]))\/∃a1 c1 a2 c2,R.2.e=0/\e=.returned (.tuple #[.slice a1 R.1.1.length c1,.slice a2 R.1.2.length c2])/\RowIn .i64 w' a1 R.1.1/\RowIn .i64 w' a2 R.1.2)
theorem SX (row:List Bool)(l:List Int)(k:Nat)(u:US):1<=(ukind row l k u).2.1/\(ukind row l k u).2.1<=138:=by unfold ukind;have E:=Fu row 2 u;have F:=Fu row 3 u;have G:=Fu row 7 u;split;(. split;exact⟨VB _,by show 1<=138;decide⟩;exact⟨by dsimp only;omega,by dsimp only;omega⟩);. split;exact⟨by dsimp only;omega,by dsimp only;omega⟩;. split;exact⟨by dsimp only;omega,by dsimp only;omega⟩;exact⟨VB _,by show 1<=138;decide⟩
theorem TB (row:List Bool)(l:List Int)(k:Nat)(u:US)(E:u.p<=row.length):(ukind row l k u).2.2.p<=row.length:=by unfold ukind;split;(. split;show (Am 8 u).p<=_;rw[Wl];exact E;exact Gn row 2 u E);. split;exact Gn row 3 u E;. split;exact Gn row 7 u E;exact E
theorem TJ (No:Nat->Prop)(B b E:Nat)(bs:List Nat)(u:US)(w:World)(h:UIs No B w b (rowB bs E) u)(jt:bs.length=E)(j3:E<=25000)(lq:u.p<=8*E)(R:(List Int×List Int)×US)(hv:Db (rowB bs E) u=R):Calls Tryz.prog 95 #[.pointer (some ⟨b,0,none⟩)] w fun e w'=>TdA No B w b (rowB bs E) R e w':=by
 have k8:=Af bs E;have bh:(rowB bs E).length<=200000:=om;have hp:u.p<=(rowB bs E).length:=om;obtain⟨m0,u1,bb⟩:∃m0 u1,uget (rowB bs E) 5 u=(m0,u1):=⟨_,_,rfl⟩;obtain⟨n0,u2,e2⟩:∃n0 u2,uget (rowB bs E) 5 u1=(n0,u2):=⟨_,_,rfl⟩;obtain⟨c0,u3,e3⟩:∃c0 u3,uget (rowB bs E) 4 u2=(c0,u3):=⟨_,_,rfl⟩;have c5:=Gn _ 5 u hp;rw[bb]at c5;have c6:=Gn _ 5 u1 c5;rw[e2]at c6;have dl:=Gn _ 4 u2 c6;rw[e3]at dl;have fo:=Fu (rowB bs E) 5 u;rw[bb]at fo;have fu:=Fu (rowB bs E) 5 u1;rw[e2]at fu;have d5:=Fu (rowB bs E) 4 u2;rw[e3]at d5;simp only at c5 c6 dl fo fu d5;obtain⟨a8,bn⟩:=exq ((if 286<m0+257\/30<n0+1 then Am 8 u3 else u3));(have jc:a8.p<=(rowB bs E).length:=by rw[<-bn];split;rw[Wl];exact dl;exact dl);obtain⟨S,us,de⟩:∃S us,usmall (rowB bs E) (ord19.take (c0+4)) (List.replicate 19 0) a8=(S,us):=⟨_,_,rfl⟩;(have hj:Ke (rowB bs E) (m0+257) (n0+1) (S,us)=R:=by rw[<-hv];unfold Db;simp only[bb,e2,e3];unfold Gk;rw[bn,de]);(have cm:us.e=0->¬(286<m0+257\/30<n0+1):=fun aj G=>by rw[if_pos G]at bn;have a7:=congrArg (fun z=>z.2.e) de;simp only at a7;rw[aj]at a7;have ej:=Ld a7;rw[<-bn]at ej;exact Bm od ej);have ei:=Ab bn;have ij:=Ab de;have d7:=Ab hj;have hw:=Ab cm;have H:=Ab h;have hx:=Ab bb;have h3:=Ab e2;have g0:=Ab e3;obtain⟨fx,hi,hs,h5,f8⟩:=info_parts Bv;clear h hv bn de hj cm bb e2 e3;go_enter Tryz.func95,Tryz.ntmps95;go_wp2_with fail;refine(Hm No B b 5 _ u w (Aa H) om bh hp m0 u1 (Aa hx)).mono ?_;rintro e jl ⟨rfl,fy⟩;have dw:=Ab fy;clear fy;go_wp2_with fail;refine(Hm No B b 5 _ u1 jl (Aa dw).is om bh c5 n0 u2 (Aa h3)).mono ?_;rintro e ka ⟨rfl,h4⟩;have e7:=Ab ((Aa dw).trans h4);clear h4;go_wp2_with fail;refine(Hm No B b 4 _ u2 ka (Aa e7).is om bh c6 c0 u3 (Aa g0)).mono ?_;rintro e w3 ⟨rfl,fp⟩;have cj:=Ab ((Aa e7).trans fp);clear fp dw e7 H hx h3 g0;obtain⟨ci,h6⟩:=exq (decide (286<m0+257\/30<n0+1));have ck:=Ab h6;clear h6;go_upto_region 2 with fail;go_cut [29] (fun h9 wc=>h9=.bool ci/\wc=w3);(case first=>by_cases js:286<m0+257;(. have jp:(286:Int)<(m0:Int)+257:=om;(have hb:ci=true:=by rw[<-Aa ck];exact decide_eq_true (.inl js));subst hb;go_wp2;go_meet;exact⟨rfl,rfl⟩);. have jp:¬(286:Int)<(m0:Int)+257:=om;by_cases jy:30<n0+1;(. have j4:(30:Int)<(n0:Int)+1:=om;(have hb:ci=true:=by rw[<-Aa ck];exact decide_eq_true (.inr jy));subst hb;go_wp2;go_meet;exact⟨rfl,rfl⟩);. have j4:¬(30:Int)<(n0:Int)+1:=om;(have hb:ci=false:=by rw[<-Aa ck];exact decide_eq_false om);subst hb;go_wp2;go_meet;exact⟨rfl,rfl⟩);case rest=>
 obtain⟨rfl,bd⟩:=hcut
 obtain rfl:w3=wc:=bd.symm
 clear bd
 go_upto_if 29 with (fail)
 go_cut [4] (fun ie wc=>ie=.int .i64 ((m0:Int)+257)/\Hid (UUp No B w b (rowB bs E) a8 wc))
 case first=>
  cases ci with
  |true=>
   have ay:=Ab (Dn No B b (rowB bs E) u3 8 w3 (Aa cj).is)
   have av:Hid (Am 8 u3=a8):=Ab (by rw[<-Aa ei,if_pos (of_decide_eq_true (Aa ck))])
   go_wp2_with fail
   refine(Aa ay).mono ?_
   rintro e az ⟨rfl,h1⟩
   have f4:=Ab ((Aa cj).trans h1)
   rw[Aa av]at f4
   clear h1
   go_wp2
   go_meet
   exact⟨rfl,f4⟩
  |false=>
   have av:Hid (u3=a8):=Ab (by rw[<-Aa ei,if_neg (of_decide_eq_false (Aa ck))])
   rw[Aa av]at cj
   go_wp2
   go_meet
   exact⟨rfl,cj⟩
 case rest=>
  rename World=>ah;obtain⟨rfl,ha⟩:=hcut;clear cj ei;obtain⟨N,ho⟩:=exq (ah.heap.size);have gv:Hid (UUp (N1 No N) B ah b (rowB bs E) a8 ah):=Ab (by rw[<-ho];exact UUp.refl (Aa ha).is.opened);have ku:c0<16:=d5;go_wp2_with (at_make;refine wpList_make_full _ rfl _ _ 76 rfl N 3 fx (.int .i64 0) 1 Tryz.underlying76 hi hs h5 _ _ _ _ 19 rfl rfl rfl rfl (by rw[f8];omega) ou om ?_);intro az c7 gj;(have e0:(madeCells #[Value.int .i64 0] 19).toList=iv (List.replicate 19 0):=by rw[CC];rfl);rw[e0]at c7;have eb:Hid (Below N ah az):=Ab (by rw[<-ho];exact(Below.refl ah.heap.size ah).grown gj (VB _) (fun j h=>by cases h));have gd:=Ab c7;have i9:=(c7.lt N rfl).2;clear c7 gj e0;have kx:(c0:Int)+4<=19:=om;have hz:Hid ((az.alloc (.cells Z2k 3)).heap[az.heap.size]? =some (.cells Z2k 3 (0,0))):=Ab (heap_alloc_new _ _);have g9:Hid (UUp (N1 No N) B ah b (rowB bs E) a8 (az.alloc (.cells Z2k 3))):=Ab ((Aa gv).newer om ((Aa eb).alloc (by have:=(Aa eb).size;omega) _));have hg:=Ab ((Aa gd).alloc (.cells Z2k 3));have j6:N<az.heap.size:=i9;go_wp2;go_loopw [9,37] (fun _ ey wr=>∃(j:Nat) (s:List Int) (O:US),j<=c0+4/\ey=.int .i64 (j:Int)/\Hid (usmall (rowB bs E) ((ord19.take (c0+4)).drop j) s O=(S,us))/\Hid (s.length=19)/\Hid (UUp (N1 No N) B ah b (rowB bs E) O wr)/\Hid (wr.ownsRow N 3 1 (.slice (some ⟨N,0,none⟩) 19 19) 19 (iv s))/\Hid (wr.heap[az.heap.size]? =some (.cells Z2k 3 (0,0)))/\Hid (O.p<=(rowB bs E).length)) (fun _ ey _=>19-(intOf ey).toNat);case atStart=>exact⟨0,List.replicate 19 0,a8,VH _,rfl,Ab (by rw[List.drop_zero];exact Aa ij),Ab oS,g9,hg,hz,Ab jc⟩
  case round=>
   obtain⟨j,s,O,c9,rfl,c8,d8,U,ao,dq,bj⟩:=hrel;by_cases cz:j<c0+4;. obtain⟨r,x,fe⟩:∃r x,uget (rowB bs E) 3 O=(r,x):=⟨_,_,rfl⟩;have jj:=Z0k (j:=j) om;have c1:wr.cell? ⟨az.heap.size,j,none⟩=some (.int .i64 ((ord19.getD j 0:Nat):Int)):=(Ac (Aa dq)).trans (Z49 om);have jz:Hid (usmall (rowB bs E) ((ord19.take (c0+4)).drop (j+1)) (s.set (ord19.getD j 0) (r:Int)) x=(S,us)):=Ab (by have:=Aa c8;rw[Z0i cz om,usmall,fe]at this;exact this);have jb:Hid (x.p<=(rowB bs E).length):=Ab (by have:=Gn (rowB bs E) 3 O (Aa bj);rw[fe]at this;exact this);have lm:(ord19.getD j 0:Int)<19:=om;generalize ord19.getD j 0=q at*;clear c8;go_wp2_with fail;refine(Hm (N1 No N) B b 3 _ O wr (Aa U).is om bh (Aa bj) r x fe).mono ?_;rintro e w6 ⟨rfl,ag⟩;have cq:=Ab (ag.own (Aa ao));have ir:Hid (w6.heap[az.heap.size]? =some (.cells Z2k 3 (0,0))):=Ab ((ag.kp _ (VK.1 (Aa dq)).1 (.inr (YX j6))).trans (Aa dq));have bf:=Ab ((Aa U).trans ag);clear ag;(have jq:q<s.length:=by rw[Aa d8];exact jj);have c2:=(Aa cq).cellAt q om;rw[show (iv s)[q]? =some (.int .i64 (s.getD q 0)) by simp[iv,List.getD,jq]]at c2;have f2:=(Aa cq).frozenAt q;generalize s.getD q 0=old at*;go_wp2;go_roundw;(case rel=>have iw:=(Aa cq).stored q (.int .i64 (r:Int));have ib:Below N w6 (w6.setCell ⟨N,q,none⟩ (.int .i64 (r:Int))):=(Below.refl N w6).setCell (VB _) _;refine⟨j+1,s.set q (r:Int),x,om,by go_num,jz,Ab (by rw[XS];exact Aa d8),Ab ((Aa bf).newer om ib),Ab ?_,Ab ?_,jb⟩;(have e:iv (s.set q (r:Int))=(iv s).set q (.int .i64 (r:Int)):=by rw[iv,List.map_set]);rw[e];exact iw.1;rw[heap_setCell_other w6 _ _ _ (by show az.heap.size≠N;omega)];exact Aa ir);case measure=>simp[intOf];omega
   . obtain rfl:j=c0+4:=om;have d9:=Aa c8;rw[XR (by rw[VL];omega),usmall]at d9;obtain⟨rfl,rfl⟩:=VN d9;have eh:=Aa d8;have df:Hid (RowIn .i64 wr (some ⟨N,0,none⟩) s):=Ab (RowIn.iv (Aa ao));obtain⟨ap,gx⟩:=exq (Qa (s,O));obtain⟨j9,iu,gz,i3⟩:=(Aa U).is.cell;have bq:=Ab gx;have ko:=(Aa U).below.size;clear c8 d9 j9 iu i3 gx dq gd hg hz g9 eb gv;obtain⟨dm,cm⟩:=exq (((O.e==0)&&(errL s !=0)));have cu:=Ab cm;clear cm;go_upto_region 10 with fail;go_cut [56] (fun jk wc=>jk=.bool dm/\wc=wr);(case first=>by_cases aj:O.e=0;(. rw[aj]at gz;(have dr:(errL s !=0)=dm:=by have:=Aa cu;rw[aj]at this;simpa using this);have jr:=Ab (Ff (some ⟨N,0,none⟩) 19 19 s wr eh om (Aa df));generalize errL s=kj at*;go_wp2_with fail;refine(Aa jr).mono ?_;rintro e w6 ⟨rfl,hf⟩;obtain rfl:wr=w6:=hf.symm;clear hf;go_wp2;go_meet;exact⟨rfl,rfl⟩);. (have ff:(O.e==0)=false:=by rw[beq_eq_false_iff_ne];exact aj);(have dr:dm=false:=by rw[<-Aa cu,ff];rfl);subst dr;generalize O.e=g7 at*;go_wp2;go_meet;exact⟨rfl,rfl⟩);case rest=>
     obtain⟨rfl,bd⟩:=hcut
     obtain rfl:wr=wc:=bd.symm
     clear bd
     go_upto_if 56 with (fail)
     go_cut [7] (fun kg wc=>kg=.slice (some ⟨N,0,none⟩) 19 19/\Hid (UUp (N1 No N) B ah b (rowB bs E) ap wc)/\Hid (RowIn .i64 wc (some ⟨N,0,none⟩) s))
     case first=>
      cases dm with
      |true=>
       have G:=Aa cu
       rw[ZM,beq_iff_eq,bne_iff_ne]at G
       have ay:=Ab (Dn (N1 No N) B b (rowB bs E) O 8 wr (Aa U).is)
       have av:Hid (Am 8 O=ap):=Ab (by rw[<-Aa bq];unfold Qa;rw[if_pos G])
       clear G
       go_wp2_with fail
       refine(Aa ay).mono ?_
       rintro e w6 ⟨rfl,ag⟩
       have bf:=Ab ((Aa U).trans ag)
       have i5:=Ab (ag.rows (Aa df) (fun g o e=>by cases e;exact VB _))
       rw[Aa av]at bf
       clear ag
       go_wp2
       go_meet
       exact⟨rfl,bf,i5⟩
      |false=>
       have G:¬(O.e=0/\errL s≠0):=fun G=>by
        have:=Aa cu
        rw[G.1]at this
        simp[G.2]at this
       have av:Hid (O=ap):=Ab (by rw[<-Aa bq];unfold Qa;rw[if_neg G])
       rw[Aa av]at U
       clear G
       go_wp2
       go_meet
       exact⟨rfl,U,df⟩
     case rest=>
     rename World=>fw
     obtain⟨rfl,cv,ia⟩:=hcut
     clear U df ao gz
     obtain⟨_,_,ii,_⟩:=(Aa cv).is.cell
     have bu:Hid (∀W v,UUp (N1 No N) B ah b (rowB bs E) v W->UUp No B w b (rowB bs E) v W):=Ab (fun W v iy=>(Aa ha).trans iy.closed)
     by_cases dc:ap.e≠0
     . have ju:(ap.e !=0)=true:=by simp only[bne_iff_ne,ne_eq];exact dc
       have a2:Hid (TdA No B w b (rowB bs E) R (.returned (.tuple #[.slice none 0 0,.slice none 0 0])) fw):=Ab (by
        have ee:R=(([],[]),ap):=by rw[<-Aa d7];unfold Ke;rw[Aa bq,if_pos dc]
        rw[ee]
        exact⟨Aa bu _ _ (Aa cv),.inl ⟨dc,rfl⟩⟩)
       generalize ap.e=g7 at*
       go_wp2
       go_ret2
       exact Aa a2
     have bm:ap.e=0:=om
     rw[bm]at ii
     have ig:O.e=0/\errL s=0/\ap=O:=by
      have ax:=Aa bq
      unfold Qa at ax
      by_cases G:O.e=0/\errL s≠0
      . rw[if_pos G]at ax
        rw[<-ax]at bm
        exact absurd bm (Bm od)
      . rw[if_neg G]at ax
        dsimp only at ax
        refine⟨by rw[ax];exact bm, ?_,ax.symm⟩
        by_cases a7:errL s=0
        . exact a7
        . exact absurd ⟨by rw[ax];exact bm,a7⟩ G
     obtain⟨je,i4,rfl⟩:=ig
     have k9:=Aa hw je
     have fh:=Ch i4
     have jm:=Ab fh
     obtain⟨tot,fj⟩:=exq (m0+257+(n0+1))
     have dt:=Ab fj
     have l4:tot<=316/\257<=tot:=om
     obtain⟨L,v,fi⟩:∃L v,ulens (rowB bs E) s tot tot [] ap=(L,v):=⟨_,_,rfl⟩
     have cy:Hid (R=Gl (m0+257) (L,v)):=Ab (by
      rw[<-Aa d7]
      unfold Ke
      rw[Aa bq,if_neg (fun G=>G bm),fj,fi])
     have hq:=Ab fi
     have l8:=(Aa cv).below.size
     clear fi hw d7 bq cu dc fj
     go_wp2_with fail
     refine(Jm (some ⟨N,0,none⟩) 19 19 s fw eh (Aa ia) fh).mono ?_
     rintro e ll ⟨mb,nn,rfl,li,du,g5⟩
     have i6:=Ab ((Aa cv).newer om (g5.mono om))
     rw[show 19=s.length from eh.symm]at du
     have h7:=Ab du
     have bk:N<=mb:=om
     have ip:mb≠b:=by have:=(Aa cv).is.lt;omega
     have k4:=(du.lt)
     clear du g5
     go_wp2
     go_loopw [11,12,13,14] (fun cg _ _ _ wr=>∃(l:List Int) (F:Nat) (O:US),l.length<=460/\Hid (ulens (rowB bs E) s tot F l O=(L,v))/\Hid (O.e=0->tot<=l.length+F/\l.length<=tot)/\Hid (UUp (N1 No N) B ah b (rowB bs E) O wr)/\Hid (wr.ownsRow N 3 1 cg l.length (iv l))/\Hid (Em wr mb nn (Fg s s.length))/\Hid (O.p<=(rowB bs E).length)) (fun cg _ _ _ _=>1000-Z8l cg)
     case atStart=>exact⟨[],tot,ap,oS,hq,Ab (fun _=>⟨oS,oS⟩),i6,Ab (World.ownsRow_nil _ _ _ _),h7,bj⟩
     case round=>
      obtain⟨l,F,O,iq,b3,cn,U,ao,ek,bj⟩:=hrel
      obtain⟨e8,ar,rfl⟩:=MT (Aa ao)
      obtain⟨_,_,dz,_⟩:=(Aa U).is.cell
      obtain⟨I,b0⟩:=exq (l.length)
      by_cases b7:l.length<tot/\O.e=0
      . obtain⟨cz,e9⟩:=b7
        obtain⟨fm,j7⟩:=Aa cn e9
        rw[e9]at dz
        cases F with
        |zero=>exact absurd fm om
        |succ F=>
         obtain⟨k,x,ds⟩:∃k x,uplace s (rowB bs E) O=(k,x):=⟨_,_,rfl⟩
         obtain⟨Z,tm,y,cp⟩:∃Z tm y,ukind (rowB bs E) l k x=(Z,tm,y):=⟨_,_,_,rfl⟩
         have f7:=SX (rowB bs E) l k x
         rw[cp]at f7
         simp only at f7
         obtain⟨z,cw⟩:=exq ((if y.e=0/\tot<l.length+tm then Am 8 y else y))
         have a3:Hid (ulens (rowB bs E) s tot F (l++List.replicate tm Z) z=(L,v)):=Ab (by
          have T:=Aa b3
          rw[ulens,if_pos ⟨cz,e9⟩]at T
          unfold ustep Td at T
          rw[ds]at T
          simp only[cp,cw]at T
          exact T)
         have bz:=SV s (rowB bs E) O (Aa bj)
         rw[ds]at bz
         simp only at bz
         have dh:=TB (rowB bs E) l k x bz
         rw[cp]at dh
         simp only at dh
         have ik:z.p<=(rowB bs E).length:=by
          rw[<-cw]
          split
          . rw[Wl];exact dh
          . exact dh
         have a1:Hid (z.e=0->l.length+tm<=tot):=Ab (fun T=>by
          rw[<-cw]at T
          by_cases G:y.e=0/\tot<l.length+tm
          . rw[if_pos G]at T;exact absurd T (Bm od)
          . rw[if_neg G]at T
            by_cases jg:tot<l.length+tm
            . exact absurd ⟨T,jg⟩ G
            . omega)
         have eg:=Ab (Km (N1 No N) B b mb nn E s bs O wr (Aa U).is (Aa jm) jt j3 (oh bj) (Aa ek) ip)
         rw[ds]at eg
         have dp:=Aa dt
         have en:(I:Int)<(m0:Int)+257+((n0:Int)+1):=om
         have a6:=Ab b0
         have aw:=Ab cp
         have al:=Ab cw
         rw[b0]at ao cz j7 fm iq ⊢
         clear b3 cn ds cp cw b0 dp
         go_wp2_with fail
         refine(Aa eg).mono ?_
         rintro e b8 ⟨rfl,da⟩
         have au:=Ab ((Aa U).trans da)
         have a9:=Ab (da.own (Aa ao))
         have bw:=Ab (da.book (Aa ek) bk)
         clear da eg U ao ek
         go_upto_block 4 with fail
         go_cut [13,14] (fun jo jh wc=>jo=.int .i64 Z/\jh=.int .i64 (tm:Int)/\Hid (UUp (N1 No N) B ah b (rowB bs E) y wc)/\Hid (wc.ownsRow N 3 1 (.slice e8 I ar) I (iv l))/\Hid (Em wc mb nn (Fg s s.length)))
         case first=>
          by_cases ht:k=16
          . subst ht
            by_cases fg:I=0
            . have af:(Z,tm,y)=((16:Int),1,Am 8 x):=by rw[<-Aa aw];unfold ukind;rw[if_pos rfl,if_pos (by rw[Aa a6];exact fg)]
              obtain⟨rfl,ae⟩:=VN af
              obtain⟨rfl,rfl⟩:=VN ae
              have im:((I:Int)==0)=true:=by rw[beq_iff_eq];omega
              have ay:=Ab (Dn (N1 No N) B b (rowB bs E) x 8 b8 (Aa au).is)
              clear af ae aw al a1 a3 fg
              go_wp2_with fail
              refine(Aa ay).mono ?_
              rintro e a4 ⟨rfl,Y⟩
              have aa:=Ab ((Aa au).trans Y)
              have ak:=Ab (Y.own (Aa a9))
              have ai:=Ab (Y.book (Aa bw) bk)
              clear Y
              go_wp2
              go_meet
              exact⟨rfl,rfl,aa,ak,ai⟩
            . obtain⟨r,b9,e2⟩:∃r y,uget (rowB bs E) 2 x=(r,y):=⟨_,_,rfl⟩
              have af:(Z,tm,y)=(l.getD (l.length-1) 0,3+r,b9):=by rw[<-Aa aw];unfold ukind;rw[if_pos rfl,if_neg (by rw[Aa a6];exact fg),e2]
              obtain⟨h2,ae⟩:=VN af
              obtain⟨rfl,rfl⟩:=VN ae
              obtain⟨ac,ic,ep,gy,db⟩:=Ba (Aa a9) om
              cases ep
              obtain⟨q,ax⟩:∃q,I=q+1:=⟨I-1,om⟩
              have j1:b8.cell? ⟨ac,q,none⟩=some (.int .i64 Z):=by
               rw[(Aa a9).cellAt q om,h2,Aa a6,ax,YA]
               have:q<l.length:=by rw[Aa a6];omega
               simp[iv,List.getD,this]
              have im:((I:Int)==0)=false:=by rw[beq_eq_false_iff_ne];omega
              have bb:((I:Int)-1).toNat=q:=om
              have kq:1<=I:=om
              have lz:(1:Int)<=(I:Int):=om
              have lk:¬(I:Int)<=(I:Int)-1:=om
              have lg:(I:Int)-1<(I:Int):=om
              have k6:IntKind.i64.wrap ((I:Int)-1)=(I:Int)-1:=by simp[IntKind.wrap,IntKind.signed,IntKind.bits];omega
              have ce:=Ab (fun i=>Hm (N1 No N) B b 2 _ x (b8.drewN i) ((UUp.refl (Aa au).is).drewN i).is om bh bz r y e2)
              have gn:r<=135:=om
              have l0:IntKind.i64.wrap (3+(r:Int))=3+(r:Int):=by simp[IntKind.wrap,IntKind.signed,IntKind.bits];omega
              have dn:=Ab (fun i=>(UUp.refl (Aa au).is).drewN i)
              clear af ae aw al a1 a3 ax h2 e2
              go_wp2
              go_region_held3 (fun w'=>w'.cell? ⟨ac,q,none⟩=some (.int .i64 Z)) (first|assumption|simp[*]) (first|(go_at_call 91;refine(Aa ce _).mono ?_;rintro e a4 ⟨rfl,Y⟩;have aa:=Ab ((Aa au).trans ((Aa dn _).trans Y));have ak:=Ab (((Aa dn _).trans Y).own (Aa a9));have ai:=Ab (((Aa dn _).trans Y).book (Aa bw) bk);have ly:=(World.cell?_of_block (a:=⟨ac,q,none⟩) (((Aa dn _).trans Y).kp ac db (.inr gy))).trans j1;clear Y))
              go_wp2
              go_meet
              exact⟨rfl,oS,aa,ak,ai⟩
          have g8:((k:Int)==16)=false:=by rw[beq_eq_false_iff_ne];omega
          by_cases hh:k=17
          . subst hh
            clear g8
            obtain⟨r,b9,e2⟩:∃r y,uget (rowB bs E) 3 x=(r,y):=⟨_,_,rfl⟩
            have af:(Z,tm,y)=((0:Int),3+r,b9):=by rw[<-Aa aw];unfold ukind;simp only[e2];rfl
            obtain⟨rfl,ae⟩:=VN af
            obtain⟨rfl,rfl⟩:=VN ae
            have ce:=Ab (Hm (N1 No N) B b 3 _ x b8 (Aa au).is om bh bz r y e2)
            have gn:r<=135:=om
            clear af ae aw al a1 a3 e2
            go_wp2_with fail
            refine(Aa ce).mono ?_
            rintro e a4 ⟨rfl,Y⟩
            have aa:=Ab ((Aa au).trans Y)
            have ak:=Ab (Y.own (Aa a9))
            have ai:=Ab (Y.book (Aa bw) bk)
            clear Y
            go_wp2
            go_meet
            exact⟨rfl,oS,aa,ak,ai⟩
          have i7:((k:Int)==17)=false:=by rw[beq_eq_false_iff_ne];omega
          by_cases gh:k=18
          . subst gh
            clear g8 i7
            obtain⟨r,b9,e2⟩:∃r y,uget (rowB bs E) 7 x=(r,y):=⟨_,_,rfl⟩
            have af:(Z,tm,y)=((0:Int),11+r,b9):=by rw[<-Aa aw];unfold ukind;simp only[e2];rfl
            obtain⟨rfl,ae⟩:=VN af
            obtain⟨rfl,rfl⟩:=VN ae
            have ce:=Ab (Hm (N1 No N) B b 7 _ x b8 (Aa au).is om bh bz r y e2)
            have gn:r<=135:=om
            clear af ae aw al a1 a3 e2
            go_wp2_with fail
            refine(Aa ce).mono ?_
            rintro e a4 ⟨rfl,Y⟩
            have aa:=Ab ((Aa au).trans Y)
            have ak:=Ab (Y.own (Aa a9))
            have ai:=Ab (Y.book (Aa bw) bk)
            clear Y
            go_wp2
            go_meet
            exact⟨rfl,oS,aa,ak,ai⟩
          have k7:((k:Int)==18)=false:=by rw[beq_eq_false_iff_ne];omega
          have af:(Z,tm,y)=((k:Int),1,x):=by rw[<-Aa aw];unfold ukind;rw[if_neg ht,if_neg hh,if_neg gh]
          obtain⟨rfl,ae⟩:=VN af
          obtain⟨rfl,rfl⟩:=VN ae
          clear af ae aw al a1 a3
          go_wp2
          go_meet
          exact⟨rfl,rfl,au,a9,bw⟩
         case rest=>
         rename World=>eu
         obtain⟨rfl,rfl,aa,ak,ai⟩:=hcut
         clear au a9 bw aw
         obtain⟨_,_,ft,_⟩:=(Aa aa).is.cell
         obtain⟨cd,gw⟩:=exq (((y.e==0)&&decide (tot<I+tm)))
         have a5:=Ab gw
         have dp:=Aa dt
         clear gw
         go_upto_region 27 with fail
         go_cut [131] (fun i0 wc=>i0=.bool cd/\wc=eu)
         case first=>
          by_cases aj:y.e=0
          . rw[aj]at ft
            have hu:decide (tot<I+tm)=cd:=by have:=Aa a5;rw[aj]at this;simpa using this
            have jv:decide ((m0:Int)+257+((n0:Int)+1)<(I:Int)+(tm:Int))=cd:=by
             rw[<-hu,decide_eq_decide]
             omega
            clear hu a5 al a1 a3
            go_wp2
            go_meet
            exact⟨by first|rfl|rw[jv],rfl⟩
          . have ff:(y.e==0)=false:=by rw[beq_eq_false_iff_ne];exact aj
            have dr:cd=false:=by rw[<-Aa a5,ff];rfl
            subst dr
            clear a5 al a1 a3
            generalize y.e=lu at*
            go_wp2
            go_meet
            exact⟨rfl,rfl⟩
         case rest=>
         obtain⟨rfl,bd⟩:=hcut
         obtain rfl:eu=wc:=bd.symm
         clear bd
         go_upto_if 131 with (fail)
         go_cut [11] (fun cg wc=>cg=.slice e8 I ar/\Hid (UUp (N1 No N) B ah b (rowB bs E) z wc)/\Hid (wc.ownsRow N 3 1 (.slice e8 I ar) I (iv l))/\Hid (Em wc mb nn (Fg s s.length)))
         case first=>
          cases cd with
          |true=>
           have G:=Aa a5
           rw[ZM,beq_iff_eq,decide_eq_true_iff]at G
           have ay:=Ab (Dn (N1 No N) B b (rowB bs E) y 8 eu (Aa aa).is)
           have av:Hid (Am 8 y=z):=Ab (by rw[<-Aa al,Aa a6,if_pos G])
           clear G a5 al a1 a3
           go_wp2_with fail
           refine(Aa ay).mono ?_
           rintro e w6 ⟨rfl,ag⟩
           have bf:=Ab ((Aa aa).trans ag)
           have cq:=Ab (ag.own (Aa ak))
           have j8:=Ab (ag.book (Aa ai) bk)
           rw[Aa av]at bf
           clear ag
           go_wp2
           go_meet
           exact⟨rfl,bf,cq,j8⟩
          |false=>
           have G:¬(y.e=0/\tot<I+tm):=fun G=>by
            have:=Aa a5
            rw[G.1,decide_eq_true G.2]at this
            cases this
           have av:Hid (y=z):=Ab (by rw[<-Aa al,Aa a6,if_neg G])
           rw[Aa av]at aa
           clear G a5 al a1 a3
           go_wp2
           go_meet
           exact⟨rfl,aa,ak,ai⟩
         case rest=>
         rename World=>dd
         obtain⟨rfl,aa,ak,ai⟩:=hcut
         have kk:=(Aa aa).below.size
         have ja:N<=dd.heap.size:=om
         have lr:I<=316:=om
         clear a5 al ft dz
         go_wp2_with fail
         refine(Fp Z tm dd om om).mono ?_
         rintro e ed ⟨rfl,f9,b5,lj⟩
         have il:=Ab ((Aa aa).newer om (b5.mono ja))
         have ew:=Ab (Au (Aa ak) (fun g kh=>b5.block g ((Aa ak).lt g kh).2))
         have hk:=Ab (Wc (Aa ai) b5 (Aa ai).lt)
         have l6:=b5.size
         have jf:Hid (∀j u,(iv (List.replicate tm Z))[j]? =some u->ed.cell? ((⟨dd.heap.size+1,0,none⟩:Addr).add j)=some u):=Ab (C2 f9)
         clear f9 b5
         go_wp2_with (at_builtin;refine wpList_append_own_at _ rfl (.tmp 134) (.tmp 138) 76 rfl N 3 fx (.int .i64 0) 1 8 Tryz.underlying76 hi hs h5 f8 rfl od _ I (iv l) rfl (Aa ew) ⟨dd.heap.size+1,0,none⟩ tm tm (iv (List.replicate tm Z)) rfl oS (Aa jf) (OC _) ou om om ?_)
         intro v' e1 et dy _ _
         have ea:iv (l++List.replicate tm Z)=iv l++iv (List.replicate tm Z):=by rw[iv,iv,iv,WU]
         have fq:Below N ed e1:=(Below.refl N ed).grown dy om (fun g e=>((Aa ew).lt g e).1)
         have j5:=Ab ((Aa il).newer om fq)
         have jw:Hid (Em e1 mb nn (Fg s s.length)):=Ab ((Aa hk).kept dy (FO (Aa ew) (Aa hk)))
         have f5:Hid (e1.ownsRow N 3 1 v' (l++List.replicate tm Z).length (iv (l++List.replicate tm Z))):=Ab (by rw[VE,XD,ea,Aa a6];first|exact et|(rw[Z6z];exact et))
         clear et dy fq
         have gq:=Aa a6
         have d6:Hid ((l++List.replicate tm Z).length=I+tm):=Ab (by rw[VE,XD,gq])
         clear gq
         go_wp2
         go_roundw
         case rel=>
          refine⟨l++List.replicate tm Z,F,z,by rw[Aa d6];omega,a3,Ab (fun ji=> ?_),j5,f5,jw,Ab ik⟩
          have a7:=Aa a1 ji
          rw[Aa a6]at a7
          rw[Aa d6]
          omega
         case measure=>
          rw[Z45 (Aa f5),Aa d6]
          show 1000-(I+tm)<1000-I
          omega
      . have hex:L=l/\v=O:=by
         have T:=Aa b3
         cases F with
         |zero=>rw[ulens]at T;exact⟨(VN T).1.symm,(VN T).2.symm⟩
         |succ F=>rw[ulens,if_neg b7]at T;exact⟨(VN T).1.symm,(VN T).2.symm⟩
        obtain⟨rfl,rfl⟩:=hex
        by_cases bo:v.e≠0
        . have ju:(v.e !=0)=true:=by simp only[bne_iff_ne,ne_eq];exact bo
          have k5:(v.e==0)=false:=by rw[beq_eq_false_iff_ne];exact bo
          have a2:Hid (TdA No B w b (rowB bs E) R (.returned (.tuple #[.slice none 0 0,.slice none 0 0])) wr):=Ab (by
           have ee:R=(([],[]),v):=by rw[Aa cy];unfold Gl;rw[if_pos bo]
           rw[ee]
           exact⟨Aa bu _ _ (Aa U),.inl ⟨bo,rfl⟩⟩)
          rw[b0]
          have k3:=Aa dt
          clear bo b7 b3 cn
          generalize v.e=g7 at*
          by_cases kz:I<tot
          . have en:(I:Int)<(m0:Int)+257+((n0:Int)+1):=om
            go_wp2
            go_ret2
            exact Aa a2
          . have en:¬(I:Int)<(m0:Int)+257+((n0:Int)+1):=om
            go_wp2
            go_ret2
            exact Aa a2
        . have bg:v.e=0:=om
          have fk:L.length=tot:=by
           have a7:=(Aa cn bg).2
           have ej:¬L.length<tot:=fun co=>b7 ⟨co,bg⟩
           omega
          have dp:=Aa dt
          rw[bg]at dz
          obtain⟨ac,ic,ep,gy,db⟩:=Ba (Aa ao) om
          cases ep
          have h8:wr.cell? ⟨ac,256,none⟩=some (.int .i64 (L.getD 256 0)):=by
           rw[(Aa ao).cellAt 256 om]
           have:256<L.length:=om
           simp[iv,List.getD,this]
          have i1:L.length<=ar:=by
           rcases(Aa ao).2 with ⟨aj,_⟩|⟨_,_,_,T,_,_,e5,_⟩
           . cases aj
           . cases T;exact e5
          have em:Row .i64 wr ac 0 L:=by
           rcases RowIn.iv (Aa ao)with aj|⟨l7,k0,bb,_,e5⟩
           . rw[aj]at fk;simp at fk;omega
           . cases bb;exact e5
          obtain⟨M,f6⟩:=exq (m0+257)
          have lw:(m0:Int)+257=(M:Int):=om
          have gi:Hid (RowIn .i64 wr (some ⟨ac,0,none⟩) (L.take M)):=Ab (.inr ⟨ac,0,rfl,db,fun j c9=>by
           rw[VL]at c9
           have:=em j om
           rw[this,List.getD,List.getD,List.getElem?_take,if_pos om]⟩)
          have g4:Hid (RowIn .i64 wr (some ⟨ac,M,none⟩) (L.drop M)):=Ab (.inr ⟨ac,M,rfl,db,fun j c9=>by
           rw[VQ]at c9
           have:=em (M+j) om
           rw[WG]at this
           rw[this,List.getD,List.getD,XJ]⟩)
          have eo:(L.take M).length=M:=by rw[VL];omega
          have e6:(L.drop M).length=n0+1:=by rw[VQ];omega
          have bv:Hid ((L.getD 256 0=0\/errL (L.take M)≠0\/errL (L.drop M)≠0)->R=(([],[]),Am 8 v)):=Ab (fun G=>by rw[Aa cy];unfold Gl;rw[if_neg (fun co=>co bg),f6,if_pos G])
          have dj:Hid (¬(L.getD 256 0=0\/errL (L.take M)≠0\/errL (L.drop M)≠0)->R=((L.take M,L.drop M),v)):=Ab (fun G=>by rw[Aa cy];unfold Gl;rw[if_neg (fun co=>co bg),f6,if_neg G])
          have ay:=Ab (Dn (N1 No N) B b (rowB bs E) v 8 wr (Aa U).is)
          have di:=Ab (Ff (some ⟨ac,0,none⟩) M ar (L.take M) wr eo om (Aa gi))
          have dx:=Ab (Ff (some ⟨ac,M,none⟩) (n0+1) (ar-M) (L.drop M) wr e6 om (Aa g4))
          have en:¬(I:Int)<(M:Int)+((n0:Int)+1):=om
          have kc:I-M=n0+1:=om
          have ki:(256:Int)<(I:Int):=om
          have l5:(M:Int)<=(I:Int):=om
          have lv:(M:Int)<=(ar:Int):=om
          have lf:M<=I:=om
          have lh:¬ar=M:=om
          have kt:I<=ar:=om
          have j0:=Ab bg
          rw[b0]
          obtain⟨gu,f3⟩:=exq (L.getD 256 0)
          obtain⟨ea,h0⟩:=exq (errL (L.take M))
          obtain⟨ec,gg⟩:=exq (errL (L.drop M))
          rw[f3]at h8 bv dj
          rw[h0]at di bv dj
          rw[gg]at dx bv dj
          have iz:=Ab eo
          have ix:=Ab e6
          clear em i1 eo e6 bo b7 b3 cn f3 h0 gg fk b0 bg dp cy hq fh
          by_cases k1:gu=0
          . subst k1
            have bi:=Ab (Aa bv (.inl rfl))
            go_wp2_with fail
            refine(Aa ay).mono ?_
            rintro e b4 ⟨rfl,ba⟩
            have a2:Hid (TdA No B w b (rowB bs E) R (.returned (.tuple #[.slice none 0 0,.slice none 0 0])) b4):=Ab (by rw[Aa bi];exact⟨Aa bu _ _ ((Aa U).trans ba),.inl ⟨Bm od,rfl⟩⟩)
            clear ba
            go_wp2
            go_ret2
            exact Aa a2
          have l3:(gu==0)=false:=by rw[beq_eq_false_iff_ne];exact k1
          by_cases k2:ea=0
          . subst k2
            by_cases dv:ec=0
            . subst dv
              have bi:=Ab (Aa dj (by intro G;rcases G with G|G|G;exact k1 G;exact G rfl;exact G rfl))
              clear k1
              go_wp2_with fail
              refine(Aa di).mono ?_
              rintro e a4 ⟨rfl,bc⟩
              obtain rfl:wr=a4:=bc.symm
              clear bc
              go_wp2_with fail
              refine(Aa dx).mono ?_
              rintro e e4 ⟨rfl,ct⟩
              obtain rfl:wr=e4:=ct.symm
              clear ct
              go_wp2
              go_region
              all_goals go_wp2
              go_ret2
              rw[Aa bi]
              refine⟨(Aa bu _ _ (Aa U)).drewN 1,.inr ⟨some ⟨ac,0,none⟩,ar,some ⟨ac,M,none⟩,ar-M,Aa j0, ?_, ?_, ?_⟩⟩
              . rw[Aa iz,Aa ix,<-kc]
                rfl
              . exact Aa gi
              . exact Aa g4
            . have ky:(ec !=0)=true:=by simp only[bne_iff_ne,ne_eq];exact dv
              have bi:=Ab (Aa bv (.inr (.inr dv)))
              clear k1
              go_wp2_with fail
              refine(Aa di).mono ?_
              rintro e a4 ⟨rfl,bc⟩
              obtain rfl:wr=a4:=bc.symm
              clear bc
              go_wp2_with fail
              refine(Aa dx).mono ?_
              rintro e e4 ⟨rfl,ct⟩
              obtain rfl:wr=e4:=ct.symm
              clear ct
              go_wp2_with fail
              refine(Aa ay).mono ?_
              rintro e b4 ⟨rfl,ba⟩
              have a2:Hid (TdA No B w b (rowB bs E) R (.returned (.tuple #[.slice none 0 0,.slice none 0 0])) b4):=Ab (by rw[Aa bi];exact⟨Aa bu _ _ ((Aa U).trans ba),.inl ⟨Bm od,rfl⟩⟩)
              clear ba
              go_wp2
              go_ret2
              exact Aa a2
          . have km:(ea !=0)=true:=by simp only[bne_iff_ne,ne_eq];exact k2
            have bi:=Ab (Aa bv (.inr (.inl k2)))
            clear k1
            go_wp2_with fail
            refine(Aa di).mono ?_
            rintro e a4 ⟨rfl,bc⟩
            obtain rfl:wr=a4:=bc.symm
            clear bc
            go_wp2_with fail
            refine(Aa ay).mono ?_
            rintro e b4 ⟨rfl,ba⟩
            have a2:Hid (TdA No B w b (rowB bs E) R (.returned (.tuple #[.slice none 0 0,.slice none 0 0])) b4):=Ab (by rw[Aa bi];exact⟨Aa bu _ _ ((Aa U).trans ba),.inl ⟨Bm od,rfl⟩⟩)
            clear ba
            go_wp2
            go_ret2
            exact Aa a2
theorem Rb {w:World}{b e F n:Nat}{v:Value}{xs:List Value}(G:w.ownsRow (b+1) e F v n xs):v.ownBlock=none\/v.ownBlock≠some b:=by
 cases E:v.ownBlock with
 |none=>exact .inl rfl
 |some g=>refine .inr (fun e=> ?_);have:=(G.lt g E).1;cases e;omega
theorem UIs.keepK {No:Nat->Prop}{B b k:Nat}{w E:World}{row:List Bool}{u:US}{G H v':Value}{X:Obj}(Y:B<=b)(ah:¬No b)(ac:w.heap[b]? =some (.cells (ucells row u G H) 110 (0,0))) (I:w.ownsRow (b+1) 5 1 G u.out.length (u8s u.out)) (T:w.ownsRow (b+1) 3 1 H u.ks.length (i64s u.ks)) (ag:G.ownBlock=none\/G.ownBlock≠H.ownBlock) (av:∀g,G.ownBlock=some g->¬No g) (af:∀g,H.ownBlock=some g->¬No g) (ak:∀g,w.heap.size<=g->¬No g) (aa:E.ownsRow (b+1) 3 1 v' (u.ks.length+1) (i64s u.ks++ [.int .i64 (k:Int)])) (M:(w.alloc X).grownBy E H.ownBlock) (U:v'.ownBlock=H.ownBlock\/v'.ownBlock=some (w.heap.size+1)):E.cell? ⟨b,3,none⟩=some H/\E.frozen? ⟨b,3,none⟩=false/\UUp No B w b row (ukept k u) (E.setCell ⟨b,3,none⟩ v'):=by
 have ap:b<w.heap.size:=(VK.1 ac).1;have al:=Rb T;(have O:E.heap[b]? =some (.cells (ucells row u G H) 110 (0,0)):=by rw[M.block b oO (fun e=>by rcases al with h|h;rw[h]at e;cases e;exact h e.symm)];exact(Below.heap_alloc w _ b ap).trans ac);(have ae:∀g,g<w.heap.size->H.ownBlock≠some g->E.heap[g]? =w.heap[g]? :=fun g F aj=>by rw[M.block g oO (fun e=>aj e.symm)];exact Below.heap_alloc w _ g F);have ar:=M.size;have Z:=Ad E b 3 v';simp only[World.size_alloc]at ar
 have ai:E.ownsRow (b+1) 5 1 G u.out.length (u8s u.out):=Au I (fun g F=>ae g (I.lt g F).2 (fun e=>by
  rcases ag with h|h
  . rw[h]at F;cases F
  . exact h (by rw[F];exact e.symm)))
 refine⟨Ac O,frozen_of_row E b 3 _ _ O,⟨⟨Y,ah,G,v', ?_,ai.kept Z (Rb I), ?_, ?_,av, ?_⟩, ?_, ?_⟩⟩;rw[heap_setCell_same E b 3 _ _ _ O];rfl;have:=aa.kept Z (Rb aa);show (E.setCell ⟨b,3,none⟩ v').ownsRow (b+1) 3 1 v' (u.ks++ [k]).length (i64s (u.ks++ [k]));(have e:i64s (u.ks++ [k])=i64s u.ks++ [.int .i64 (k:Int)]:=by simp[i64s]);rw[e,VE];exact this
 . rcases U with h|h;rw[h];exact ag
   . cases ao:G.ownBlock with
     |none=>exact .inl rfl
     |some g=>refine .inr (fun e=> ?_);rw[h]at e;have:=(I.lt _ ao).2;cases e;omega
 (. intro g F;rcases U with h|h;exact af g (by rw[<-h];exact F);. rw[h]at F;cases F;exact ak _ om);have au:Below B w E:=((Below.refl B w).alloc om X).grown M oO (fun g e=>by have:=(T.lt g e).1;omega);exact au.setCell Y _;intro g F hn;rw[heap_setCell_other E _ _ _ (fun e=>ah (by have:g=b:=e;rw[<-this];exact hn))];exact ae g F (fun e=>af g e hn)
def N2 (No:Nat->Prop)(N M:Nat):Nat->Prop:=fun g=>No g\/ (N<=g/\g<M)
theorem UUp.closed2 {No:Nat->Prop}{B b N M:Nat}{G w:World}{row:List Bool}{u:US}(E:UUp (N2 No N M) B G b row u w):UUp No B G b row u w:=
 ⟨E.is.more (fun e=>E.is.no (.inl e)) (fun g F=>.inl (.inl F)),E.below,E.kp.weaken (fun g F=>.inl F)⟩
theorem UUp.prs {No:Nat->Prop}{B b N M E:Nat}{w w':World}{row:List Bool}{u:US}{l:List (Nat×Nat)}(U:UUp (N2 No N M) B w b row u w')(H:Prs w E l)(O:E<w.heap.size)(I:N<=E)(G:E<M):Prs w' E l:=by have F:=U.kp E O (.inr ⟨I,G⟩);intro j T;have:=H j T;exact⟨(World.cell?_of_block (a:=⟨E,j*2,none⟩) F).trans this.1,(World.cell?_of_block (a:=⟨E,j*2+1,none⟩) F).trans this.2⟩
theorem UUp.book2 {No:Nat->Prop}{B b N M E I:Nat}{w w':World}{row:List Bool}{u:US}{H:DataW Unit}(h:UUp (N2 No N M) B w b row u w')(G:Em w E I H)(O:N<=E)(Z:E<M):Em w' E I H:=by have T:=G.lt;obtain⟨es,clock,hb,F,U,Y⟩:=G;exact⟨es,clock,(h.kp E T (.inr ⟨O,Z⟩)).trans hb,F,U,Y⟩
theorem Lr {w w':World}{B E:Nat}{l:List (Nat×Nat)}(I:Prs w E l)(F:Below B w w')(G:E<B):Prs w' E l:=fun j H=>
 ⟨(F.cell (p:=⟨E,j*2,none⟩) G).trans (I j H).1,(F.cell (p:=⟨E,j*2+1,none⟩) G).trans (I j H).2⟩
def Z16 (n b:Nat)(w:World):Nat:=8*n+1-((w.cell? ⟨b,1,none⟩).map (fun x=>(intOf x).toNat)).getD 0
theorem Jz {No:Nat->Prop}{B b n:Nat}{w:World}{row:List Bool}{u:US}(E:UIs No B w b row u):Z16 n b w=8*n+1-u.p:=by unfold Z16;rw[E.cell.2.1];simp[intOf]
end Go.Proofs.YtleocpdblhbimaaGreatDoor
