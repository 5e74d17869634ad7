import Derived.Test.YtleocpdblhbimaaGreatDoorQ50
import Derived.Deep.CutBlock
import Derived.Deep.DeepCutAuto
import Derived.Test.YtleocpdblhbimaaGreatDoorQ44
set_option linter.unusedSimpArgs false
set_option maxHeartbeats 8000000
namespace Go.Proofs.YtleocpdblhbimaaGreatDoor
open Go.RowKit
set_option linter.unusedVariables false
set_option maxRecDepth 100000
def TdA (No:Nat->Prop)(B:Nat)(w:World)(b:Nat)(row:List Bool)(R:(List Int×List Int)×US)(e:Ending)(w':World):Prop:=
 UUp No B w b row R.2 w'/\((R.2.e≠0/\e=.returned (.tuple #[.slice none 0 0,.slice none 0 0]))\/∃a1 c1 a2 c2,R.2.e=0/\e=.returned (.tuple #[.slice a1 R.1.1.length c1,.slice a2 R.1.2.length c2])/\RowIn .i64 w' a1 R.1.1/\RowIn .i64 w' a2 R.1.2)
theorem SX (row:List Bool)(l:List Int)(k:Nat)(u:US):1<=(ukind row l k u).2.1/\(ukind row l k u).2.1<=138:=by
 unfold ukind;have F:=Fu row 2 u;have E:=Fu row 3 u;have G:=Fu row 7 u
 split
 . split
   . exact⟨VB _,by show 1<=138;decide⟩
   . exact⟨by dsimp only;omega,by dsimp only;omega⟩
 . split
   . exact⟨by dsimp only;omega,by dsimp only;omega⟩
   . split
     . exact⟨by dsimp only;omega,by dsimp only;omega⟩
     . exact⟨VB _,by show 1<=138;decide⟩
theorem TB (row:List Bool)(l:List Int)(k:Nat)(u:US)(E:u.p<=row.length):(ukind row l k u).2.2.p<=row.length:=by
 unfold ukind
 split
 . split
   . show (Am 8 u).p<=_;rw[Wl];exact E
   . exact Gn row 2 u E
 . split
   . exact Gn row 3 u E
   . split
     . exact Gn row 7 u E
     . exact E
theorem TJ (No:Nat->Prop)(B b E:Nat)(bs:List Nat)(u:US)(w:World)(h:UIs No B w b (rowB bs E) u)(i4:bs.length=E)(ho:E<=25000)(ka:u.p<=8*E)(R:(List Int×List Int)×US)(fn:Db (rowB bs E) u=R):
 Calls Tryz.prog 95 #[.pointer (some ⟨b,0,none⟩)] w fun e w'=>TdA No B w b (rowB bs E) R e w':=by
 have kh:=Af bs E;have a8:(rowB bs E).length<=200000:=by omega
 have ff:u.p<=(rowB bs E).length:=by omega
 obtain⟨m0,u1,a5⟩:∃m0 u1,uget (rowB bs E) 5 u=(m0,u1):=⟨_,_,rfl⟩
 obtain⟨n0,u2,e2⟩:∃n0 u2,uget (rowB bs E) 5 u1=(n0,u2):=⟨_,_,rfl⟩
 obtain⟨c0,u3,e3⟩:∃c0 u3,uget (rowB bs E) 4 u2=(c0,u3):=⟨_,_,rfl⟩
 have cq:=Gn _ 5 u ff;rw[a5]at cq;have cp:=Gn _ 5 u1 cq;rw[e2]at cp;have cn:=Gn _ 4 u2 cp;rw[e3]at cn;have e5:=Fu (rowB bs E) 5 u;rw[a5]at e5;have gy:=Fu (rowB bs E) 5 u1;rw[e2]at gy;have ek:=Fu (rowB bs E) 4 u2;rw[e3]at ek;simp only at cq cp cn e5 gy ek
 obtain⟨a2,be⟩:=exq ((if 286<m0+257\/30<n0+1 then Am 8 u3 else u3))
 have hf:a2.p<=(rowB bs E).length:=by
  rw[<-be]
  split
  . rw[Wl];exact cn
  . exact cn
 obtain⟨S,us,cm⟩:∃S us,usmall (rowB bs E) (ord19.take (c0+4)) (List.replicate 19 0) a2=(S,us):=⟨_,_,rfl⟩
 have f6:Ke (rowB bs E) (m0+257) (n0+1) (S,us)=R:=by
  rw[<-fn];unfold Db;simp only[a5,e2,e3];unfold Gk;rw[be,cm]
 have bo:us.e=0->¬(286<m0+257\/30<n0+1):=fun ah G=>by
  rw[if_pos G]at be;have az:=congrArg (fun z=>z.2.e) cm;simp only at az
  rw[ah]at az;have eo:=Ld az;rw[<-be]at eo;exact Bm (by decide) eo
 have dj:=Ab be;have hu:=Ab cm;have eh:=Ab f6;have gx:=Ab bo;have H:=Ab h;have ew:=Ab a5;have fh:=Ab e2;have gu:=Ab e3;obtain⟨gt,hi,fm,fj,e4⟩:=info_parts Bv;clear h fn be cm f6 bo a5 e2 e3;go_enter Tryz.func95,Tryz.ntmps95
 go_wp2_with fail
 refine(Hm No B b 5 _ u w (Aa H) (by omega) a8 ff m0 u1 (Aa ew)).mono ?_;rintro e hv ⟨rfl,fe⟩;have dx:=Ab fe;clear fe;go_wp2_with fail
 refine(Hm No B b 5 _ u1 hv (Aa dx).is (by omega) a8 cq n0 u2 (Aa fh)).mono ?_;rintro e jb ⟨rfl,fo⟩;have dy:=Ab ((Aa dx).trans fo);clear fo;go_wp2_with fail
 refine(Hm No B b 4 _ u2 jb (Aa dy).is (by omega) a8 cp c0 u3 (Aa gu)).mono ?_;rintro e w3 ⟨rfl,gj⟩;have ci:=Ab ((Aa dy).trans gj);clear gj dx dy H ew fh gu;obtain⟨bv,e9⟩:=exq (decide (286<m0+257\/30<n0+1));have cd:=Ab e9;clear e9;go_upto_region 2 with fail
 go_cut [29] (fun iy wc=>iy=.bool bv/\wc=w3)
 case first=>
  by_cases ir:286<m0+257
  . have hz:(286:Int)<(m0:Int)+257:=by omega
    have hb:bv=true:=by rw[<-Aa cd];exact decide_eq_true (.inl ir)
    subst hb;go_wp2;go_meet
    exact⟨rfl,rfl⟩
  . have hz:¬(286:Int)<(m0:Int)+257:=by omega
    by_cases hy:30<n0+1
    . have i9:(30:Int)<(n0:Int)+1:=by omega
      have hb:bv=true:=by rw[<-Aa cd];exact decide_eq_true (.inr hy)
      subst hb;go_wp2;go_meet
      exact⟨rfl,rfl⟩
    . have i9:¬(30:Int)<(n0:Int)+1:=by omega
      have hb:bv=false:=by rw[<-Aa cd];exact decide_eq_false (by omega)
      subst hb;go_wp2;go_meet
      exact⟨rfl,rfl⟩
 case rest=>
 obtain⟨rfl,a7⟩:=hcut;obtain rfl:w3=wc:=a7.symm;clear a7;go_upto_if 29 with (fail)
 go_cut [4] (fun ha wc=>ha=.int .i64 ((m0:Int)+257)/\Hid (UUp No B w b (rowB bs E) a2 wc))
 case first=>
  cases bv with
  |true=>
   have am:=Ab (Dn No B b (rowB bs E) u3 8 w3 (Aa ci).is);have ar:Hid (Am 8 u3=a2):=Ab (by rw[<-Aa dj,if_pos (of_decide_eq_true (Aa cd))]);go_wp2_with fail
   refine(Aa am).mono ?_;rintro e au ⟨rfl,fg⟩;have gv:=Ab ((Aa ci).trans fg);rw[Aa ar]at gv;clear fg;go_wp2;go_meet
   exact⟨rfl,gv⟩
  |false=>
   have ar:Hid (u3=a2):=Ab (by rw[<-Aa dj,if_neg (of_decide_eq_false (Aa cd))]);rw[Aa ar]at ci;go_wp2;go_meet
   exact⟨rfl,ci⟩
 case rest=>
  rename World=>aj
  obtain⟨rfl,et⟩:=hcut;clear ci dj;obtain⟨N,g5⟩:=exq (aj.heap.size);have gh:Hid (UUp (N1 No N) B aj b (rowB bs E) a2 aj):=Ab (by rw[<-g5];exact UUp.refl (Aa et).is.opened);have jt:c0<16:=ek;go_wp2_with (at_make;refine wpList_make_full _ rfl _ _ 76 rfl N 3 gt (.int .i64 0) 1 Tryz.underlying76 hi fm fj _ _ _ _ 19 rfl rfl rfl rfl (by rw[e4];omega) (by unfold maxLen;omega) (by omega) ?_)
  intro au cv g9;have e0:(madeCells #[Value.int .i64 0] 19).toList=iv (List.replicate 19 0):=by rw[CC];rfl
  rw[e0]at cv;have en:Hid (Below N aj au):=Ab (by rw[<-g5];exact(Below.refl aj.heap.size aj).grown g9 (VB _) (fun j h=>by cases h));have gd:=Ab cv;have i2:=(cv.lt N rfl).2;clear cv g9 e0;have ju:(c0:Int)+4<=19:=by omega
  have gi:Hid ((au.alloc (.cells Z2k 3)).heap[au.heap.size]? =some (.cells Z2k 3 (0,0))):=Ab (heap_alloc_new _ _);have f9:Hid (UUp (N1 No N) B aj b (rowB bs E) a2 (au.alloc (.cells Z2k 3))):=Ab ((Aa gh).newer (by omega) ((Aa en).alloc (by have:=(Aa en).size;omega) _));have e1:=Ab ((Aa gd).alloc (.cells Z2k 3));have h3:N<au.heap.size:=i2;go_wp2;go_loopw [9,37] (fun _ dq wr=>∃(j:Nat) (s:List Int) (O:US),j<=c0+4/\dq=.int .i64 (j:Int)/\Hid (usmall (rowB bs E) ((ord19.take (c0+4)).drop j) s O=(S,us))/\Hid (s.length=19)/\Hid (UUp (N1 No N) B aj b (rowB bs E) O wr)/\Hid (wr.ownsRow N 3 1 (.slice (some ⟨N,0,none⟩) 19 19) 19 (iv s))/\Hid (wr.heap[au.heap.size]? =some (.cells Z2k 3 (0,0)))/\Hid (O.p<=(rowB bs E).length)) (fun _ dq _=>19-(intOf dq).toNat)
  case atStart=>exact⟨0,List.replicate 19 0,a2,VH _,rfl,Ab (by rw[List.drop_zero];exact Aa hu),Ab (by simp),f9,e1,gi,Ab hf⟩
  case round=>
   obtain⟨j,s,O,c5,rfl,da,d5,Y,ak,co,bk⟩:=hrel
   by_cases dc:j<c0+4
   . obtain⟨r,x,ds⟩:∃r x,uget (rowB bs E) 3 O=(r,x):=⟨_,_,rfl⟩
     have iz:=Z0k (j:=j) (by omega);have c1:wr.cell? ⟨au.heap.size,j,none⟩=some (.int .i64 ((ord19.getD j 0:Nat):Int)):=(Ac (Aa co)).trans (Z49 (by omega))
     have h1:Hid (usmall (rowB bs E) ((ord19.take (c0+4)).drop (j+1)) (s.set (ord19.getD j 0) (r:Int)) x=(S,us)):=Ab (by
      have:=Aa da
      rw[Z0i dc (by omega),usmall,ds]at this;exact this)
     have ij:Hid (x.p<=(rowB bs E).length):=Ab (by have:=Gn (rowB bs E) 3 O (Aa bk);rw[ds]at this;exact this);have j2:(ord19.getD j 0:Int)<19:=by omega
     generalize ord19.getD j 0=q at*;clear da;go_wp2_with fail
     refine(Hm (N1 No N) B b 3 _ O wr (Aa Y).is (by omega) a8 (Aa bk) r x ds).mono ?_;rintro e w6 ⟨rfl,ai⟩;have ch:=Ab (ai.own (Aa ak));have il:Hid (w6.heap[au.heap.size]? =some (.cells Z2k 3 (0,0))):=Ab ((ai.kp _ (VK.1 (Aa co)).1 (.inr (YX h3))).trans (Aa co));have a9:=Ab ((Aa Y).trans ai);clear ai;have h4:q<s.length:=by rw[Aa d5];exact iz
     have c2:=(Aa ch).cellAt q (by omega);rw[show (iv s)[q]? =some (.int .i64 (s.getD q 0)) by simp[iv,List.getD,h4]]at c2;have f2:=(Aa ch).frozenAt q;generalize s.getD q 0=old at*;go_wp2;go_roundw
     case rel=>
      have i8:=(Aa ch).stored q (.int .i64 (r:Int));have h9:Below N w6 (w6.setCell ⟨N,q,none⟩ (.int .i64 (r:Int))):=(Below.refl N w6).setCell (VB _) _;refine⟨j+1,s.set q (r:Int),x,by omega,by go_num,h1,Ab (by rw[XS];exact Aa d5),Ab ((Aa a9).newer (by omega) h9),Ab ?_,Ab ?_,ij⟩
      . have e:iv (s.set q (r:Int))=(iv s).set q (.int .i64 (r:Int)):=by rw[iv,List.map_set]
        rw[e];exact i8.1
      . rw[heap_setCell_other w6 _ _ _ (by show au.heap.size≠N;omega)];exact Aa il
     case measure=>simp[intOf];omega
   . obtain rfl:j=c0+4:=by omega
     have d3:=Aa da;rw[XR (by rw[VL];omega),usmall]at d3;obtain⟨rfl,rfl⟩:=VN d3;have el:=Aa d5;have c6:Hid (RowIn .i64 wr (some ⟨N,0,none⟩) s):=Ab (RowIn.iv (Aa ak));obtain⟨an,gn⟩:=exq (Qa (s,O));obtain⟨hw,hx,eq,ic⟩:=(Aa Y).is.cell;have bh:=Ab gn;have jq:=(Aa Y).below.size;clear da d3 hw hx ic gn co gd e1 gi f9 en gh;obtain⟨de,bo⟩:=exq (((O.e==0)&&(errL s !=0)));have b4:=Ab bo;clear bo;go_upto_region 10 with fail
     go_cut [56] (fun hs wc=>hs=.bool de/\wc=wr)
     case first=>
      by_cases ah:O.e=0
      . rw[ah]at eq;have c3:(errL s !=0)=de:=by have:=Aa b4;rw[ah]at this;simpa using this
        have ig:=Ab (Ff (some ⟨N,0,none⟩) 19 19 s wr el (by omega) (Aa c6));generalize errL s=jj at*;go_wp2_with fail
        refine(Aa ig).mono ?_;rintro e w6 ⟨rfl,fx⟩;obtain rfl:wr=w6:=fx.symm;clear fx;go_wp2;go_meet
        exact⟨rfl,rfl⟩
      . have dv:(O.e==0)=false:=by rw[beq_eq_false_iff_ne];exact ah
        have c3:de=false:=by rw[<-Aa b4,dv];rfl
        subst c3;generalize O.e=ft at*;go_wp2;go_meet
        exact⟨rfl,rfl⟩
     case rest=>
     obtain⟨rfl,a7⟩:=hcut;obtain rfl:wr=wc:=a7.symm;clear a7;go_upto_if 56 with (fail)
     go_cut [7] (fun iq wc=>iq=.slice (some ⟨N,0,none⟩) 19 19/\Hid (UUp (N1 No N) B aj b (rowB bs E) an wc)/\Hid (RowIn .i64 wc (some ⟨N,0,none⟩) s))
     case first=>
      cases de with
      |true=>
       have G:=Aa b4;rw[ZM,beq_iff_eq,bne_iff_ne]at G;have am:=Ab (Dn (N1 No N) B b (rowB bs E) O 8 wr (Aa Y).is);have ar:Hid (Am 8 O=an):=Ab (by rw[<-Aa bh];unfold Qa;rw[if_pos G]);clear G;go_wp2_with fail
       refine(Aa am).mono ?_;rintro e w6 ⟨rfl,ai⟩;have a9:=Ab ((Aa Y).trans ai);have hd:=Ab (ai.rows (Aa c6) (fun g o e=>by cases e;exact VB _));rw[Aa ar]at a9;clear ai;go_wp2;go_meet
       exact⟨rfl,a9,hd⟩
      |false=>
       have G:¬(O.e=0/\errL s≠0):=fun G=>by
        have:=Aa b4
        rw[G.1]at this;simp[G.2]at this
       have ar:Hid (O=an):=Ab (by rw[<-Aa bh];unfold Qa;rw[if_neg G]);rw[Aa ar]at Y;clear G;go_wp2;go_meet
       exact⟨rfl,Y,c6⟩
     case rest=>
     rename World=>f7
     obtain⟨rfl,b8,jf⟩:=hcut;clear Y c6 ak eq;obtain⟨_,_,iu,_⟩:=(Aa b8).is.cell;have bg:Hid (∀W v,UUp (N1 No N) B aj b (rowB bs E) v W->UUp No B w b (rowB bs E) v W):=Ab (fun W v hh=>(Aa et).trans hh.closed)
     by_cases c8:an.e≠0
     . have ib:(an.e !=0)=true:=by simp only[bne_iff_ne,ne_eq];exact c8
       have aw:Hid (TdA No B w b (rowB bs E) R (.returned (.tuple #[.slice none 0 0,.slice none 0 0])) f7):=Ab (by
        have em:R=(([],[]),an):=by rw[<-Aa eh];unfold Ke;rw[Aa bh,if_pos c8]
        rw[em];exact⟨Aa bg _ _ (Aa b8),.inl ⟨c8,rfl⟩⟩)
       generalize an.e=ft at*;go_wp2;go_ret2;exact Aa aw
     have bf:an.e=0:=by omega
     rw[bf]at iu
     have h5:O.e=0/\errL s=0/\an=O:=by
      have ao:=Aa bh;unfold Qa at ao
      by_cases G:O.e=0/\errL s≠0
      . rw[if_pos G]at ao;rw[<-ao]at bf;exact absurd bf (Bm (by decide))
      . rw[if_neg G]at ao;dsimp only at ao;refine⟨by rw[ao];exact bf, ?_,ao.symm⟩
        by_cases az:errL s=0
        . exact az
        . exact absurd ⟨by rw[ao];exact bf,az⟩ G
     obtain⟨id,hg,rfl⟩:=h5;have jy:=Aa gx id;have ed:=Ch hg;have h6:=Ab ed;obtain⟨tot,dg⟩:=exq (m0+257+(n0+1));have df:=Ab dg;have jr:tot<=316/\257<=tot:=by omega
     obtain⟨L,v,d9⟩:∃L v,ulens (rowB bs E) s tot tot [] an=(L,v):=⟨_,_,rfl⟩
     have c4:Hid (R=Gl (m0+257) (L,v)):=Ab (by
      rw[<-Aa eh];unfold Ke;rw[Aa bh,if_neg (fun G=>G bf),dg,d9])
     have gz:=Ab d9;have jp:=(Aa b8).below.size;clear d9 gx eh bh b4 c8 dg;go_wp2_with fail
     refine(Jm (some ⟨N,0,none⟩) 19 19 s f7 el (Aa jf) ed).mono ?_;rintro e js ⟨mb,nn,rfl,kq,dd,f5⟩;have iw:=Ab ((Aa b8).newer (by omega) (f5.mono (by omega)));rw[show 19=s.length from el.symm]at dd;have jc:=Ab dd;have bj:N<=mb:=by omega
     have i3:mb≠b:=by have:=(Aa b8).is.lt;omega
     have kt:=(dd.lt)
     clear dd f5;go_wp2;go_loopw [11,12,13,14] (fun bt _ _ _ wr=>∃(l:List Int) (F:Nat) (O:US),l.length<=460/\Hid (ulens (rowB bs E) s tot F l O=(L,v))/\Hid (O.e=0->tot<=l.length+F/\l.length<=tot)/\Hid (UUp (N1 No N) B aj b (rowB bs E) O wr)/\Hid (wr.ownsRow N 3 1 bt l.length (iv l))/\Hid (Em wr mb nn (Fg s s.length))/\Hid (O.p<=(rowB bs E).length)) (fun bt _ _ _ _=>1000-Z8l bt)
     case atStart=>exact⟨[],tot,an,by simp,gz,Ab (fun _=>⟨by simp,by simp⟩),iw,Ab (World.ownsRow_nil _ _ _ _),jc,bk⟩
     case round=>
      obtain⟨l,F,O,ie,cj,cg,Y,ak,ej,bk⟩:=hrel;obtain⟨ei,as,rfl⟩:=MT (Aa ak);obtain⟨_,_,dz,_⟩:=(Aa Y).is.cell;obtain⟨I,bn⟩:=exq (l.length)
      by_cases b9:l.length<tot/\O.e=0
      . obtain⟨dc,d6⟩:=b9;obtain⟨fk,ik⟩:=Aa cg d6;rw[d6]at dz
        cases F with
        |zero=>exact absurd fk (by omega)
        |succ F=>
         obtain⟨k,x,cu⟩:∃k x,uplace s (rowB bs E) O=(k,x):=⟨_,_,rfl⟩
         obtain⟨U,tm,y,b3⟩:∃U tm y,ukind (rowB bs E) l k x=(U,tm,y):=⟨_,_,_,rfl⟩
         have f8:=SX (rowB bs E) l k x;rw[b3]at f8;simp only at f8
         obtain⟨z,ck⟩:=exq ((if y.e=0/\tot<l.length+tm then Am 8 y else y))
         have av:Hid (ulens (rowB bs E) s tot F (l++List.replicate tm U) z=(L,v)):=Ab (by
          have Z:=Aa cj;rw[ulens,if_pos ⟨dc,d6⟩]at Z;unfold ustep Td at Z;rw[cu]at Z;simp only[b3,ck]at Z;exact Z)
         have bi:=SV s (rowB bs E) O (Aa bk);rw[cu]at bi;simp only at bi
         have cl:=TB (rowB bs E) l k x bi;rw[b3]at cl;simp only at cl
         have ip:z.p<=(rowB bs E).length:=by
          rw[<-ck]
          split
          . rw[Wl];exact cl
          . exact cl
         have ax:Hid (z.e=0->l.length+tm<=tot):=Ab (fun Z=>by
          rw[<-ck]at Z
          by_cases G:y.e=0/\tot<l.length+tm
          . rw[if_pos G]at Z;exact absurd Z (Bm (by decide))
          . rw[if_neg G]at Z
            by_cases h2:tot<l.length+tm
            . exact absurd ⟨Z,h2⟩ G
            . omega)
         have d4:=Ab (Km (N1 No N) B b mb nn E s bs O wr (Aa Y).is (Aa h6) i4 ho (by have:=Aa bk;omega) (Aa ej) i3);rw[cu]at d4;have cy:=Aa df;have dl:(I:Int)<(m0:Int)+257+((n0:Int)+1):=by omega
         have a1:=Ab bn;have aq:=Ab b3;have al:=Ab ck;rw[bn]at ak dc ik fk ie ⊢;clear cj cg cu b3 ck bn cy;go_wp2_with fail
         refine(Aa d4).mono ?_;rintro e b7 ⟨rfl,ct⟩;have ap:=Ab ((Aa Y).trans ct);have a3:=Ab (ct.own (Aa ak));have bd:=Ab (ct.book (Aa ej) bj);clear ct d4 Y ak ej;go_upto_block 4 with fail
         go_cut [13,14] (fun ix io wc=>ix=.int .i64 U/\io=.int .i64 (tm:Int)/\Hid (UUp (N1 No N) B aj b (rowB bs E) y wc)/\Hid (wc.ownsRow N 3 1 (.slice ei I as) I (iv l))/\Hid (Em wc mb nn (Fg s s.length)))
         case first=>
          by_cases fd:k=16
          . subst fd
            by_cases eg:I=0
            . have ac:(U,tm,y)=((16:Int),1,Am 8 x):=by rw[<-Aa aq];unfold ukind;rw[if_pos rfl,if_pos (by rw[Aa a1];exact eg)]
              obtain⟨rfl,ae⟩:=VN ac;obtain⟨rfl,rfl⟩:=VN ae;have he:((I:Int)==0)=true:=by rw[beq_iff_eq];omega
              have am:=Ab (Dn (N1 No N) B b (rowB bs E) x 8 b7 (Aa ap).is);clear ac ae aq al ax av eg;go_wp2_with fail
              refine(Aa am).mono ?_;rintro e ay ⟨rfl,T⟩;have aa:=Ab ((Aa ap).trans T);have ag:=Ab (T.own (Aa a3));have af:=Ab (T.book (Aa bd) bj);clear T;go_wp2;go_meet
              exact⟨rfl,rfl,aa,ag,af⟩
            . obtain⟨r,ce,e2⟩:∃r y,uget (rowB bs E) 2 x=(r,y):=⟨_,_,rfl⟩
              have ac:(U,tm,y)=(l.getD (l.length-1) 0,3+r,ce):=by rw[<-Aa aq];unfold ukind;rw[if_pos rfl,if_neg (by rw[Aa a1];exact eg),e2]
              obtain⟨g4,ae⟩:=VN ac;obtain⟨rfl,rfl⟩:=VN ae;obtain⟨ab,hq,dn,f3,c9⟩:=Ba (Aa a3) (by omega)
              cases dn
              obtain⟨q,ao⟩:∃q,I=q+1:=⟨I-1,by omega⟩
              have i0:b7.cell? ⟨ab,q,none⟩=some (.int .i64 U):=by
               rw[(Aa a3).cellAt q (by omega),g4,Aa a1,ao,YA];have:q<l.length:=by rw[Aa a1];omega
               simp[iv,List.getD,this]
              have he:((I:Int)==0)=false:=by rw[beq_eq_false_iff_ne];omega
              have a5:((I:Int)-1).toNat=q:=by omega
              have j6:1<=I:=by omega
              have kk:(1:Int)<=(I:Int):=by omega
              have kg:¬(I:Int)<=(I:Int)-1:=by omega
              have kc:(I:Int)-1<(I:Int):=by omega
              have ko:IntKind.i64.wrap ((I:Int)-1)=(I:Int)-1:=by simp[IntKind.wrap,IntKind.signed,IntKind.bits];omega
              have bw:=Ab (fun i=>Hm (N1 No N) B b 2 _ x (b7.drewN i) ((UUp.refl (Aa ap).is).drewN i).is (by omega) a8 bi r y e2);have fy:r<=135:=by omega
              have j1:IntKind.i64.wrap (3+(r:Int))=3+(r:Int):=by simp[IntKind.wrap,IntKind.signed,IntKind.bits];omega
              have cz:=Ab (fun i=>(UUp.refl (Aa ap).is).drewN i);clear ac ae aq al ax av ao g4 e2;go_wp2;go_region_held3 (fun w'=>w'.cell? ⟨ab,q,none⟩=some (.int .i64 U)) (first|assumption|simp[*]) (first|(go_at_call 91;refine(Aa bw _).mono ?_;rintro e ay ⟨rfl,T⟩;have aa:=Ab ((Aa ap).trans ((Aa cz _).trans T));have ag:=Ab (((Aa cz _).trans T).own (Aa a3));have af:=Ab (((Aa cz _).trans T).book (Aa bd) bj);have j3:=(World.cell?_of_block (a:=⟨ab,q,none⟩) (((Aa cz _).trans T).kp ab c9 (.inr f3))).trans i0;clear T))
              go_wp2;go_meet
              exact⟨rfl,by simp,aa,ag,af⟩
          have gw:((k:Int)==16)=false:=by rw[beq_eq_false_iff_ne];omega
          by_cases fw:k=17
          . subst fw;clear gw;obtain⟨r,ce,e2⟩:∃r y,uget (rowB bs E) 3 x=(r,y):=⟨_,_,rfl⟩
            have ac:(U,tm,y)=((0:Int),3+r,ce):=by rw[<-Aa aq];unfold ukind;simp only[e2];rfl
            obtain⟨rfl,ae⟩:=VN ac;obtain⟨rfl,rfl⟩:=VN ae;have bw:=Ab (Hm (N1 No N) B b 3 _ x b7 (Aa ap).is (by omega) a8 bi r y e2);have fy:r<=135:=by omega
            clear ac ae aq al ax av e2;go_wp2_with fail
            refine(Aa bw).mono ?_;rintro e ay ⟨rfl,T⟩;have aa:=Ab ((Aa ap).trans T);have ag:=Ab (T.own (Aa a3));have af:=Ab (T.book (Aa bd) bj);clear T;go_wp2;go_meet
            exact⟨rfl,by simp,aa,ag,af⟩
          have im:((k:Int)==17)=false:=by rw[beq_eq_false_iff_ne];omega
          by_cases e8:k=18
          . subst e8;clear gw im;obtain⟨r,ce,e2⟩:∃r y,uget (rowB bs E) 7 x=(r,y):=⟨_,_,rfl⟩
            have ac:(U,tm,y)=((0:Int),11+r,ce):=by rw[<-Aa aq];unfold ukind;simp only[e2];rfl
            obtain⟨rfl,ae⟩:=VN ac;obtain⟨rfl,rfl⟩:=VN ae;have bw:=Ab (Hm (N1 No N) B b 7 _ x b7 (Aa ap).is (by omega) a8 bi r y e2);have fy:r<=135:=by omega
            clear ac ae aq al ax av e2;go_wp2_with fail
            refine(Aa bw).mono ?_;rintro e ay ⟨rfl,T⟩;have aa:=Ab ((Aa ap).trans T);have ag:=Ab (T.own (Aa a3));have af:=Ab (T.book (Aa bd) bj);clear T;go_wp2;go_meet
            exact⟨rfl,by simp,aa,ag,af⟩
          have jg:((k:Int)==18)=false:=by rw[beq_eq_false_iff_ne];omega
          have ac:(U,tm,y)=((k:Int),1,x):=by rw[<-Aa aq];unfold ukind;rw[if_neg fd,if_neg fw,if_neg e8]
          obtain⟨rfl,ae⟩:=VN ac;obtain⟨rfl,rfl⟩:=VN ae;clear ac ae aq al ax av;go_wp2;go_meet
          exact⟨rfl,rfl,ap,a3,bd⟩
         case rest=>
         rename World=>dt
         obtain⟨rfl,rfl,aa,ag,af⟩:=hcut;clear ap a3 bd aq;obtain⟨_,_,fp,_⟩:=(Aa aa).is.cell;obtain⟨b0,g0⟩:=exq (((y.e==0)&&decide (tot<I+tm)));have a0:=Ab g0;have cy:=Aa df;clear g0;go_upto_region 27 with fail
         go_cut [131] (fun hj wc=>hj=.bool b0/\wc=dt)
         case first=>
          by_cases ah:y.e=0
          . rw[ah]at fp;have gg:decide (tot<I+tm)=b0:=by have:=Aa a0;rw[ah]at this;simpa using this
            have h8:decide ((m0:Int)+257+((n0:Int)+1)<(I:Int)+(tm:Int))=b0:=by
             rw[<-gg,decide_eq_decide];omega
            clear gg a0 al ax av;go_wp2;go_meet
            exact⟨by first|rfl|rw[h8],rfl⟩
          . have dv:(y.e==0)=false:=by rw[beq_eq_false_iff_ne];exact ah
            have c3:b0=false:=by rw[<-Aa a0,dv];rfl
            subst c3;clear a0 al ax av;generalize y.e=jh at*;go_wp2;go_meet
            exact⟨rfl,rfl⟩
         case rest=>
         obtain⟨rfl,a7⟩:=hcut;obtain rfl:dt=wc:=a7.symm;clear a7;go_upto_if 131 with (fail)
         go_cut [11] (fun bt wc=>bt=.slice ei I as/\Hid (UUp (N1 No N) B aj b (rowB bs E) z wc)/\Hid (wc.ownsRow N 3 1 (.slice ei I as) I (iv l))/\Hid (Em wc mb nn (Fg s s.length)))
         case first=>
          cases b0 with
          |true=>
           have G:=Aa a0;rw[ZM,beq_iff_eq,decide_eq_true_iff]at G;have am:=Ab (Dn (N1 No N) B b (rowB bs E) y 8 dt (Aa aa).is);have ar:Hid (Am 8 y=z):=Ab (by rw[<-Aa al,Aa a1,if_pos G]);clear G a0 al ax av;go_wp2_with fail
           refine(Aa am).mono ?_;rintro e w6 ⟨rfl,ai⟩;have a9:=Ab ((Aa aa).trans ai);have ch:=Ab (ai.own (Aa ag));have ii:=Ab (ai.book (Aa af) bj);rw[Aa ar]at a9;clear ai;go_wp2;go_meet
           exact⟨rfl,a9,ch,ii⟩
          |false=>
           have G:¬(y.e=0/\tot<I+tm):=fun G=>by
            have:=Aa a0
            rw[G.1,decide_eq_true G.2]at this
            cases this
           have ar:Hid (y=z):=Ab (by rw[<-Aa al,Aa a1,if_neg G]);rw[Aa ar]at aa;clear G a0 al ax av;go_wp2;go_meet
           exact⟨rfl,aa,ag,af⟩
         case rest=>
         rename World=>c7
         obtain⟨rfl,aa,ag,af⟩:=hcut;have j4:=(Aa aa).below.size;have hk:N<=c7.heap.size:=by omega
         have ku:I<=316:=by omega
         clear a0 al fp dz;go_wp2_with fail
         refine(Fp U tm c7 (by omega) (by omega)).mono ?_;rintro e dr ⟨rfl,g8,b5,jl⟩;have it:=Ab ((Aa aa).newer (by omega) (b5.mono hk));have d2:=Ab (Au (Aa ag) (fun g hp=>b5.block g ((Aa ag).lt g hp).2));have e6:=Ab (Wc (Aa af) b5 (Aa af).lt);have j8:=b5.size;have ia:Hid (∀j u,(iv (List.replicate tm U))[j]? =some u->dr.cell? ((⟨c7.heap.size+1,0,none⟩:Addr).add j)=some u):=Ab (C2 g8);clear g8 b5;go_wp2_with (at_builtin;refine wpList_append_own_at _ rfl (.tmp 134) (.tmp 138) 76 rfl N 3 gt (.int .i64 0) 1 8 Tryz.underlying76 hi fm fj e4 rfl (by decide) _ I (iv l) rfl (Aa d2) ⟨c7.heap.size+1,0,none⟩ tm tm (iv (List.replicate tm U)) rfl (by simp) (Aa ia) (OC _) (by unfold maxLen;omega) (by omega) (by omega) ?_)
         intro v' dh d1 dw _ _;have ea:iv (l++List.replicate tm U)=iv l++iv (List.replicate tm U):=by rw[iv,iv,iv,WU]
         have gq:Below N dr dh:=(Below.refl N dr).grown dw (by omega) (fun g e=>((Aa d2).lt g e).1);have i7:=Ab ((Aa it).newer (by omega) gq);have je:Hid (Em dh mb nn (Fg s s.length)):=Ab ((Aa e6).kept dw (FO (Aa d2) (Aa e6)));have fi:Hid (dh.ownsRow N 3 1 v' (l++List.replicate tm U).length (iv (l++List.replicate tm U))):=Ab (by rw[VE,XD,ea,Aa a1];first|exact d1|(rw[Z6z];exact d1));clear d1 dw gq;have fq:=Aa a1;have ee:Hid ((l++List.replicate tm U).length=I+tm):=Ab (by rw[VE,XD,fq]);clear fq;go_wp2;go_roundw
         case rel=>
          refine⟨l++List.replicate tm U,F,z,by rw[Aa ee];omega,av,Ab (fun i6=> ?_),i7,fi,je,Ab ip⟩;have az:=Aa ax i6;rw[Aa a1]at az;rw[Aa ee];omega
         case measure=>
          rw[Z45 (Aa fi),Aa ee];show 1000-(I+tm)<1000-I
          omega
      . have hex:L=l/\v=O:=by
         have Z:=Aa cj
         cases F with
         |zero=>rw[ulens]at Z;exact⟨(VN Z).1.symm,(VN Z).2.symm⟩
         |succ F=>rw[ulens,if_neg b9]at Z;exact⟨(VN Z).1.symm,(VN Z).2.symm⟩
        obtain⟨rfl,rfl⟩:=hex
        by_cases bm:v.e≠0
        . have ib:(v.e !=0)=true:=by simp only[bne_iff_ne,ne_eq];exact bm
          have jk:(v.e==0)=false:=by rw[beq_eq_false_iff_ne];exact bm
          have aw:Hid (TdA No B w b (rowB bs E) R (.returned (.tuple #[.slice none 0 0,.slice none 0 0])) wr):=Ab (by
           have em:R=(([],[]),v):=by rw[Aa c4];unfold Gl;rw[if_pos bm]
           rw[em];exact⟨Aa bg _ _ (Aa Y),.inl ⟨bm,rfl⟩⟩)
          rw[bn];have j0:=Aa df;clear bm b9 cj cg;generalize v.e=ft at*
          by_cases j5:I<tot
          . have dl:(I:Int)<(m0:Int)+257+((n0:Int)+1):=by omega
            go_wp2;go_ret2;exact Aa aw
          . have dl:¬(I:Int)<(m0:Int)+257+((n0:Int)+1):=by omega
            go_wp2;go_ret2;exact Aa aw
        . have bb:v.e=0:=by omega
          have d8:L.length=tot:=by
           have az:=(Aa cg bb).2;have eo:¬L.length<tot:=fun bu=>b9 ⟨bu,bb⟩
           omega
          have cy:=Aa df;rw[bb]at dz;obtain⟨ab,hq,dn,f3,c9⟩:=Ba (Aa ak) (by omega)
          cases dn
          have h0:wr.cell? ⟨ab,256,none⟩=some (.int .i64 (L.getD 256 0)):=by
           rw[(Aa ak).cellAt 256 (by omega)];have:256<L.length:=by omega
           simp[iv,List.getD,this]
          have i1:L.length<=as:=by
           rcases(Aa ak).2 with ⟨ah,_⟩|⟨_,_,_,Z,_,_,du,_⟩
           . cases ah
           . cases Z;exact du
          have d7:Row .i64 wr ab 0 L:=by
           rcases RowIn.iv (Aa ak)with ah|⟨km,jz,a5,_,du⟩
           . rw[ah]at d8;simp at d8;omega
           . cases a5;exact du
          obtain⟨M,e7⟩:=exq (m0+257);have jo:(m0:Int)+257=(M:Int):=by omega
          have fr:Hid (RowIn .i64 wr (some ⟨ab,0,none⟩) (L.take M)):=Ab (.inr ⟨ab,0,rfl,c9,fun j c5=>by
           rw[VL]at c5;have:=d7 j (by omega)
           rw[this,List.getD,List.getD,List.getElem?_take,if_pos (by omega)]⟩)
          have f4:Hid (RowIn .i64 wr (some ⟨ab,M,none⟩) (L.drop M)):=Ab (.inr ⟨ab,M,rfl,c9,fun j c5=>by
           rw[VQ]at c5;have:=d7 (M+j) (by omega)
           rw[WG]at this;rw[this,List.getD,List.getD,XJ]⟩)
          have dm:(L.take M).length=M:=by rw[VL];omega
          have dp:(L.drop M).length=n0+1:=by rw[VQ];omega
          have bc:Hid ((L.getD 256 0=0\/errL (L.take M)≠0\/errL (L.drop M)≠0)->R=(([],[]),Am 8 v)):=Ab (fun G=>by rw[Aa c4];unfold Gl;rw[if_neg (fun bu=>bu bb),e7,if_pos G]);have db:Hid (¬(L.getD 256 0=0\/errL (L.take M)≠0\/errL (L.drop M)≠0)->R=((L.take M,L.drop M),v)):=Ab (fun G=>by rw[Aa c4];unfold Gl;rw[if_neg (fun bu=>bu bb),e7,if_neg G]);have am:=Ab (Dn (N1 No N) B b (rowB bs E) v 8 wr (Aa Y).is);have cw:=Ab (Ff (some ⟨ab,0,none⟩) M as (L.take M) wr dm (by omega) (Aa fr));have ep:=Ab (Ff (some ⟨ab,M,none⟩) (n0+1) (as-M) (L.drop M) wr dp (by omega) (Aa f4));have dl:¬(I:Int)<(M:Int)+((n0:Int)+1):=by omega
          have ht:I-M=n0+1:=by omega
          have jm:(256:Int)<(I:Int):=by omega
          have j7:(M:Int)<=(I:Int):=by omega
          have j9:(M:Int)<=(as:Int):=by omega
          have jw:M<=I:=by omega
          have jv:¬as=M:=by omega
          have jx:I<=as:=by omega
          have i5:=Ab bb;rw[bn];obtain⟨eu,fu⟩:=exq (L.getD 256 0);obtain⟨ea,ey⟩:=exq (errL (L.take M));obtain⟨ec,g7⟩:=exq (errL (L.drop M));rw[fu]at h0 bc db;rw[ey]at cw bc db;rw[g7]at ep bc db;have ja:=Ab dm;have h7:=Ab dp;clear d7 i1 dm dp bm b9 cj cg fu ey g7 d8 bn bb cy c4 gz ed
          by_cases k1:eu=0
          . subst k1;have ba:=Ab (Aa bc (.inl rfl));go_wp2_with fail
            refine(Aa am).mono ?_;rintro e bz ⟨rfl,a6⟩;have aw:Hid (TdA No B w b (rowB bs E) R (.returned (.tuple #[.slice none 0 0,.slice none 0 0])) bz):=Ab (by rw[Aa ba];exact⟨Aa bg _ _ ((Aa Y).trans a6),.inl ⟨Bm (by decide),rfl⟩⟩);clear a6;go_wp2;go_ret2;exact Aa aw
          have ki:(eu==0)=false:=by rw[beq_eq_false_iff_ne];exact k1
          by_cases k2:ea=0
          . subst k2
            by_cases di:ec=0
            . subst di;have ba:=Ab (Aa db (by intro G;rcases G with G|G|G;exact k1 G;exact G rfl;exact G rfl));clear k1;go_wp2_with fail
              refine(Aa cw).mono ?_;rintro e ay ⟨rfl,a4⟩;obtain rfl:wr=ay:=a4.symm;clear a4;go_wp2_with fail
              refine(Aa ep).mono ?_;rintro e eb ⟨rfl,bq⟩;obtain rfl:wr=eb:=bq.symm;clear bq;go_wp2;go_region
              all_goals go_wp2
              go_ret2;rw[Aa ba];refine⟨(Aa bg _ _ (Aa Y)).drewN 1,.inr ⟨some ⟨ab,0,none⟩,as,some ⟨ab,M,none⟩,as-M,Aa i5, ?_, ?_, ?_⟩⟩
              . rw[Aa ja,Aa h7,<-ht];rfl
              . exact Aa fr
              . exact Aa f4
            . have kj:(ec !=0)=true:=by simp only[bne_iff_ne,ne_eq];exact di
              have ba:=Ab (Aa bc (.inr (.inr di)));clear k1;go_wp2_with fail
              refine(Aa cw).mono ?_;rintro e ay ⟨rfl,a4⟩;obtain rfl:wr=ay:=a4.symm;clear a4;go_wp2_with fail
              refine(Aa ep).mono ?_;rintro e eb ⟨rfl,bq⟩;obtain rfl:wr=eb:=bq.symm;clear bq;go_wp2_with fail
              refine(Aa am).mono ?_;rintro e bz ⟨rfl,a6⟩;have aw:Hid (TdA No B w b (rowB bs E) R (.returned (.tuple #[.slice none 0 0,.slice none 0 0])) bz):=Ab (by rw[Aa ba];exact⟨Aa bg _ _ ((Aa Y).trans a6),.inl ⟨Bm (by decide),rfl⟩⟩);clear a6;go_wp2;go_ret2;exact Aa aw
          . have ji:(ea !=0)=true:=by simp only[bne_iff_ne,ne_eq];exact k2
            have ba:=Ab (Aa bc (.inr (.inl k2)));clear k1;go_wp2_with fail
            refine(Aa cw).mono ?_;rintro e ay ⟨rfl,a4⟩;obtain rfl:wr=ay:=a4.symm;clear a4;go_wp2_with fail
            refine(Aa am).mono ?_;rintro e bz ⟨rfl,a6⟩;have aw:Hid (TdA No B w b (rowB bs E) R (.returned (.tuple #[.slice none 0 0,.slice none 0 0])) bz):=Ab (by rw[Aa ba];exact⟨Aa bg _ _ ((Aa Y).trans a6),.inl ⟨Bm (by decide),rfl⟩⟩);clear a6;go_wp2;go_ret2;exact Aa aw
theorem Rb {w:World}{b e F n:Nat}{v:Value}{xs:List Value}(G:w.ownsRow (b+1) e F v n xs):v.ownBlock=none\/v.ownBlock≠some b:=by
 cases E:v.ownBlock with
 |none=>exact .inl rfl
 |some g=>
  refine .inr (fun e=> ?_);have:=(G.lt g E).1
  cases e
  omega
theorem UIs.keepK {No:Nat->Prop}{B b k:Nat}{w E:World}{row:List Bool}{u:US}{H G v':Value}{X:Obj}(T:B<=b)(Z:¬No b)(ae:w.heap[b]? =some (.cells (ucells row u H G) 110 (0,0)))
 (I:w.ownsRow (b+1) 5 1 H u.out.length (u8s u.out)) (ag:w.ownsRow (b+1) 3 1 G u.ks.length (i64s u.ks)) (af:H.ownBlock=none\/H.ownBlock≠G.ownBlock) (ap:∀g,H.ownBlock=some g->¬No g) (aa:∀g,G.ownBlock=some g->¬No g) (am:∀g,w.heap.size<=g->¬No g)
 (ab:E.ownsRow (b+1) 3 1 v' (u.ks.length+1) (i64s u.ks++ [.int .i64 (k:Int)])) (M:(w.alloc X).grownBy E G.ownBlock) (ac:v'.ownBlock=G.ownBlock\/v'.ownBlock=some (w.heap.size+1)):
 E.cell? ⟨b,3,none⟩=some G/\E.frozen? ⟨b,3,none⟩=false/\UUp No B w b row (ukept k u) (E.setCell ⟨b,3,none⟩ v'):=by
 have ah:b<w.heap.size:=(VK.1 ae).1;have aj:=Rb ag
 have O:E.heap[b]? =some (.cells (ucells row u H G) 110 (0,0)):=by
  rw[M.block b (by simp;omega) (fun e=>by rcases aj with h|h;rw[h]at e;cases e;exact h e.symm)];exact(Below.heap_alloc w _ b ah).trans ae
 have Y:∀g,g<w.heap.size->G.ownBlock≠some g->E.heap[g]? =w.heap[g]? :=fun g F ao=>by
  rw[M.block g (by simp;omega) (fun e=>ao e.symm)];exact Below.heap_alloc w _ g F
 have ai:=M.size;have U:=Ad E b 3 v';simp only[World.size_alloc]at ai
 have al:E.ownsRow (b+1) 5 1 H u.out.length (u8s u.out):=Au I (fun g F=>Y g (I.lt g F).2 (fun e=>by
  rcases af with h|h
  . rw[h]at F;cases F
  . exact h (by rw[F];exact e.symm)))
 refine⟨Ac O,frozen_of_row E b 3 _ _ O,⟨⟨T,Z,H,v', ?_,al.kept U (Rb I), ?_, ?_,ap, ?_⟩, ?_, ?_⟩⟩
 . rw[heap_setCell_same E b 3 _ _ _ O];rfl
 . have:=ab.kept U (Rb ab)
   show (E.setCell ⟨b,3,none⟩ v').ownsRow (b+1) 3 1 v' (u.ks++ [k]).length (i64s (u.ks++ [k]))
   have e:i64s (u.ks++ [k])=i64s u.ks++ [.int .i64 (k:Int)]:=by simp[i64s]
   rw[e,VE];exact this
 . rcases ac with h|h
   . rw[h];exact af
   . cases an:H.ownBlock with
     |none=>exact .inl rfl
     |some g=>
      refine .inr (fun e=> ?_);rw[h]at e;have:=(I.lt _ an).2
      cases e
      omega
 . intro g F
   rcases ac with h|h
   . exact aa g (by rw[<-h];exact F)
   . rw[h]at F
     cases F
     exact am _ (by omega)
 . have ak:Below B w E:=((Below.refl B w).alloc (by omega) X).grown M (by simp;omega) (fun g e=>by have:=(ag.lt g e).1;omega);exact ak.setCell T _
 . intro g F hn;rw[heap_setCell_other E _ _ _ (fun e=>Z (by have:g=b:=e;rw[<-this];exact hn))];exact Y g F (fun e=>aa g e hn)
def N2 (No:Nat->Prop)(N M:Nat):Nat->Prop:=fun g=>No g\/ (N<=g/\g<M)
theorem UUp.closed2 {No:Nat->Prop}{B b N M:Nat}{G w:World}{row:List Bool}{u:US}(E:UUp (N2 No N M) B G b row u w):UUp No B G b row u w:=
 ⟨E.is.more (fun e=>E.is.no (.inl e)) (fun g F=>.inl (.inl F)),E.below,E.kp.weaken (fun g F=>.inl F)⟩
theorem UUp.prs {No:Nat->Prop}{B b N M E:Nat}{w w':World}{row:List Bool}{u:US}{l:List (Nat×Nat)}(O:UUp (N2 No N M) B w b row u w')(I:Prs w E l)(G:E<w.heap.size)(T:N<=E)(U:E<M):Prs w' E l:=by
 have F:=O.kp E G (.inr ⟨T,U⟩);intro j H;have:=I j H
 exact⟨(World.cell?_of_block (a:=⟨E,j*2,none⟩) F).trans this.1,(World.cell?_of_block (a:=⟨E,j*2+1,none⟩) F).trans this.2⟩
theorem UUp.book2 {No:Nat->Prop}{B b N M E H:Nat}{w w':World}{row:List Bool}{u:US}{I:DataW Unit}(U:UUp (N2 No N M) B w b row u w')(G:Em w E H I)(O:N<=E)(Z:E<M):Em w' E H I:=by
 have Y:=G.lt;obtain⟨es,clock,hb,F,aa,T⟩:=G;exact⟨es,clock,(U.kp E Y (.inr ⟨O,Z⟩)).trans hb,F,aa,T⟩
theorem Lr {w w':World}{B E:Nat}{l:List (Nat×Nat)}(H:Prs w E l)(I:Below B w w')(F:E<B):Prs w' E l:=fun j G=>
 ⟨(I.cell (p:=⟨E,j*2,none⟩) F).trans (H j G).1,(I.cell (p:=⟨E,j*2+1,none⟩) F).trans (H j G).2⟩
def Z16 (n b:Nat)(w:World):Nat:=8*n+1-((w.cell? ⟨b,1,none⟩).map (fun x=>(intOf x).toNat)).getD 0
theorem Jz {No:Nat->Prop}{B b n:Nat}{w:World}{row:List Bool}{u:US}(E:UIs No B w b row u):Z16 n b w=8*n+1-u.p:=by
 unfold Z16;rw[E.cell.2.1];simp[intOf]
end Go.Proofs.YtleocpdblhbimaaGreatDoor
