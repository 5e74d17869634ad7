import Derived.Test.YtleocpdblhbimaaGreatDoorQ47
import Derived.Deep.CutBlock
import Derived.Deep.DeepCutAuto
import Derived.Test.YtleocpdblhbimaaGreatDoorQ41
set_option linter.unusedSimpArgs false
set_option maxHeartbeats 8000000
namespace Go.Proofs.YtleocpdblhbimaaGreatDoor
open Go.RowKit
set_option linter.unusedVariables false
set_option maxRecDepth 100000
def TdA (No:Nat->Prop)(B:Nat)(w:World)(b:Nat)(row:List Bool)(R:(List Int×List Int)×US)(e:Ending)(w':World):Prop:=
 UUp No B w b row R.2 w'/\((R.2.e≠0/\e=.returned (.tuple #[.slice none 0 0,.slice none 0 0]))\/∃a1 c1 a2 c2,R.2.e=0/\e=.returned (.tuple #[.slice a1 R.1.1.length c1,.slice a2 R.1.2.length c2])/\RowIn .i64 w' a1 R.1.1/\RowIn .i64 w' a2 R.1.2)
theorem SX (row:List Bool)(l:List Int)(k:Nat)(u:US):1<=(ukind row l k u).2.1/\(ukind row l k u).2.1<=138:=by
 unfold ukind;have G:=Fu row 2 u;have F:=Fu row 3 u;have E:=Fu row 7 u
 split
 . split
   . exact⟨VB _,by show 1<=138;decide⟩
   . exact⟨by dsimp only;omega,by dsimp only;omega⟩
 . split
   . exact⟨by dsimp only;omega,by dsimp only;omega⟩
   . split
     . exact⟨by dsimp only;omega,by dsimp only;omega⟩
     . exact⟨VB _,by show 1<=138;decide⟩
theorem TB (row:List Bool)(l:List Int)(k:Nat)(u:US)(E:u.p<=row.length):(ukind row l k u).2.2.p<=row.length:=by
 unfold ukind
 split
 . split
   . show (Am 8 u).p<=_;rw[Wl];exact E
   . exact Gn row 2 u E
 . split
   . exact Gn row 3 u E
   . split
     . exact Gn row 7 u E
     . exact E
theorem TJ (No:Nat->Prop)(B b E:Nat)(bs:List Nat)(u:US)(w:World)(h:UIs No B w b (rowB bs E) u)(ka:bs.length=E)(j3:E<=25000)(lg:u.p<=8*E)(R:(List Int×List Int)×US)(f7:Db (rowB bs E) u=R):
 Calls Tryz.prog 95 #[.pointer (some ⟨b,0,none⟩)] w fun e w'=>TdA No B w b (rowB bs E) R e w':=by
 have ll:=Af bs E;have bg:(rowB bs E).length<=200000:=by omega
 have h4:u.p<=(rowB bs E).length:=by omega
 obtain⟨m0,u1,a8⟩:∃m0 u1,uget (rowB bs E) 5 u=(m0,u1):=⟨_,_,rfl⟩
 obtain⟨n0,u2,e2⟩:∃n0 u2,uget (rowB bs E) 5 u1=(n0,u2):=⟨_,_,rfl⟩
 obtain⟨c0,u3,e3⟩:∃c0 u3,uget (rowB bs E) 4 u2=(c0,u3):=⟨_,_,rfl⟩
 have dl:=Gn _ 5 u h4;rw[a8]at dl;have dt:=Gn _ 5 u1 dl;rw[e2]at dt;have du:=Gn _ 4 u2 dt;rw[e3]at du;have gx:=Fu (rowB bs E) 5 u;rw[a8]at gx;have gw:=Fu (rowB bs E) 5 u1;rw[e2]at gw;have fk:=Fu (rowB bs E) 4 u2;rw[e3]at fk;simp only at dl dt du gx gw fk
 obtain⟨bb,bj⟩:=exq ((if 286<m0+257\/30<n0+1 then Am 8 u3 else u3))
 have jo:bb.p<=(rowB bs E).length:=by
  rw[<-bj]
  split
  . rw[Wl];exact du
  . exact du
 obtain⟨S,us,c5⟩:∃S us,usmall (rowB bs E) (ord19.take (c0+4)) (List.replicate 19 0) bb=(S,us):=⟨_,_,rfl⟩
 have fy:Ke (rowB bs E) (m0+257) (n0+1) (S,us)=R:=by
  rw[<-f7];unfold Db;simp only[a8,e2,e3];unfold Gk;rw[bj,c5]
 have ck:us.e=0->¬(286<m0+257\/30<n0+1):=fun ak G=>by
  rw[if_pos G]at bj;have a6:=congrArg (fun z=>z.2.e) c5;simp only at a6
  rw[ak]at a6;have eo:=Ld a6;rw[<-bj]at eo;exact Bm (by decide) eo
 have eh:=Ab bj;have i7:=Ab c5;have dz:=Ab fy;have ha:=Ab ck;have H:=Ab h;have gy:=Ab a8;have ho:=Ab e2;have hw:=Ab e3;obtain⟨fw,hi,hx,gu,hf⟩:=info_parts Bv;clear h f7 bj c5 fy ck a8 e2 e3;go_enter Tryz.func95,Tryz.ntmps95
 go_wp2_with fail
 refine(Hm No B b 5 _ u w (Aa H) (by omega) bg h4 m0 u1 (Aa gy)).mono ?_;rintro e jy ⟨rfl,fm⟩;have ed:=Ab fm;clear fm;go_wp2_with fail
 refine(Hm No B b 5 _ u1 jy (Aa ed).is (by omega) bg dl n0 u2 (Aa ho)).mono ?_;rintro e i1 ⟨rfl,hz⟩;have e8:=Ab ((Aa ed).trans hz);clear hz;go_wp2_with fail
 refine(Hm No B b 4 _ u2 i1 (Aa e8).is (by omega) bg dt c0 u3 (Aa hw)).mono ?_;rintro e w3 ⟨rfl,gg⟩;have ce:=Ab ((Aa e8).trans gg);clear gg ed e8 H gy ho hw;obtain⟨b5,h6⟩:=exq (decide (286<m0+257\/30<n0+1));have cj:=Ab h6;clear h6;go_upto_region 2 with fail
 go_cut [29] (fun j9 wc=>j9=.bool b5/\wc=w3)
 case first=>
  by_cases jt:286<m0+257
  . have ij:(286:Int)<(m0:Int)+257:=by omega
    have hb:b5=true:=by rw[<-Aa cj];exact decide_eq_true (.inl jt)
    subst hb;go_wp2;go_meet
    exact⟨rfl,rfl⟩
  . have ij:¬(286:Int)<(m0:Int)+257:=by omega
    by_cases ie:30<n0+1
    . have jl:(30:Int)<(n0:Int)+1:=by omega
      have hb:b5=true:=by rw[<-Aa cj];exact decide_eq_true (.inr ie)
      subst hb;go_wp2;go_meet
      exact⟨rfl,rfl⟩
    . have jl:¬(30:Int)<(n0:Int)+1:=by omega
      have hb:b5=false:=by rw[<-Aa cj];exact decide_eq_false (by omega)
      subst hb;go_wp2;go_meet
      exact⟨rfl,rfl⟩
 case rest=>
 obtain⟨rfl,ba⟩:=hcut;obtain rfl:w3=wc:=ba.symm;clear ba;go_upto_if 29 with (fail)
 go_cut [4] (fun ik wc=>ik=.int .i64 ((m0:Int)+257)/\Hid (UUp No B w b (rowB bs E) bb wc))
 case first=>
  cases b5 with
  |true=>
   have au:=Ab (Dn No B b (rowB bs E) u3 8 w3 (Aa ce).is);have aw:Hid (Am 8 u3=bb):=Ab (by rw[<-Aa eh,if_pos (of_decide_eq_true (Aa cj))]);go_wp2_with fail
   refine(Aa au).mono ?_;rintro e a1 ⟨rfl,hh⟩;have gj:=Ab ((Aa ce).trans hh);rw[Aa aw]at gj;clear hh;go_wp2;go_meet
   exact⟨rfl,gj⟩
  |false=>
   have aw:Hid (u3=bb):=Ab (by rw[<-Aa eh,if_neg (of_decide_eq_false (Aa cj))]);rw[Aa aw]at ce;go_wp2;go_meet
   exact⟨rfl,ce⟩
 case rest=>
  rename World=>aj
  obtain⟨rfl,f4⟩:=hcut;clear ce eh;obtain⟨N,g4⟩:=exq (aj.heap.size);have gh:Hid (UUp (N1 No N) B aj b (rowB bs E) bb aj):=Ab (by rw[<-g4];exact UUp.refl (Aa f4).is.opened);have l7:c0<16:=fk;go_wp2_with (at_make;refine wpList_make_full _ rfl _ _ 76 rfl N 3 fw (.int .i64 0) 1 Tryz.underlying76 hi hx gu _ _ _ _ 19 rfl rfl rfl rfl (by rw[hf];omega) (by unfold maxLen;omega) (by omega) ?_)
  intro a1 db hs;have e0:(madeCells #[Value.int .i64 0] 19).toList=iv (List.replicate 19 0):=by rw[CC];rfl
  rw[e0]at db;have ff:Hid (Below N aj a1):=Ab (by rw[<-g4];exact(Below.refl aj.heap.size aj).grown hs (VB _) (fun j h=>by cases h));have f5:=Ab db;have i5:=(db.lt N rfl).2;clear db hs e0;have k3:(c0:Int)+4<=19:=by omega
  have g0:Hid ((a1.alloc (.cells Z2k 3)).heap[a1.heap.size]? =some (.cells Z2k 3 (0,0))):=Ab (heap_alloc_new _ _);have h1:Hid (UUp (N1 No N) B aj b (rowB bs E) bb (a1.alloc (.cells Z2k 3))):=Ab ((Aa gh).newer (by omega) ((Aa ff).alloc (by have:=(Aa ff).size;omega) _));have hg:=Ab ((Aa f5).alloc (.cells Z2k 3));have h8:N<a1.heap.size:=i5;go_wp2;go_loopw [9,37] (fun _ e6 wr=>∃(j:Nat) (s:List Int) (O:US),j<=c0+4/\e6=.int .i64 (j:Int)/\Hid (usmall (rowB bs E) ((ord19.take (c0+4)).drop j) s O=(S,us))/\Hid (s.length=19)/\Hid (UUp (N1 No N) B aj b (rowB bs E) O wr)/\Hid (wr.ownsRow N 3 1 (.slice (some ⟨N,0,none⟩) 19 19) 19 (iv s))/\Hid (wr.heap[a1.heap.size]? =some (.cells Z2k 3 (0,0)))/\Hid (O.p<=(rowB bs E).length)) (fun _ e6 _=>19-(intOf e6).toNat)
  case atStart=>exact⟨0,List.replicate 19 0,bb,VH _,rfl,Ab (by rw[List.drop_zero];exact Aa i7),Ab (by simp),h1,hg,g0,Ab jo⟩
  case round=>
   obtain⟨j,s,O,c6,rfl,dh,d9,T,ao,df,bo⟩:=hrel
   by_cases c9:j<c0+4
   . obtain⟨r,x,ek⟩:∃r x,uget (rowB bs E) 3 O=(r,x):=⟨_,_,rfl⟩
     have j8:=Z0k (j:=j) (by omega);have c1:wr.cell? ⟨a1.heap.size,j,none⟩=some (.int .i64 ((ord19.getD j 0:Nat):Int)):=(Ac (Aa df)).trans (Z49 (by omega))
     have j5:Hid (usmall (rowB bs E) ((ord19.take (c0+4)).drop (j+1)) (s.set (ord19.getD j 0) (r:Int)) x=(S,us)):=Ab (by
      have:=Aa dh
      rw[Z0i c9 (by omega),usmall,ek]at this;exact this)
     have i0:Hid (x.p<=(rowB bs E).length):=Ab (by have:=Gn (rowB bs E) 3 O (Aa bo);rw[ek]at this;exact this);have lw:(ord19.getD j 0:Int)<19:=by omega
     generalize ord19.getD j 0=q at*;clear dh;go_wp2_with fail
     refine(Hm (N1 No N) B b 3 _ O wr (Aa T).is (by omega) bg (Aa bo) r x ek).mono ?_;rintro e w6 ⟨rfl,ai⟩;have ci:=Ab (ai.own (Aa ao));have kh:Hid (w6.heap[a1.heap.size]? =some (.cells Z2k 3 (0,0))):=Ab ((ai.kp _ (VK.1 (Aa df)).1 (.inr (YX h8))).trans (Aa df));have bi:=Ab ((Aa T).trans ai);clear ai;have kg:q<s.length:=by rw[Aa d9];exact j8
     have c2:=(Aa ci).cellAt q (by omega);rw[show (iv s)[q]? =some (.int .i64 (s.getD q 0)) by simp[iv,List.getD,kg]]at c2;have f2:=(Aa ci).frozenAt q;generalize s.getD q 0=old at*;go_wp2;go_roundw
     case rel=>
      have iq:=(Aa ci).stored q (.int .i64 (r:Int));have jp:Below N w6 (w6.setCell ⟨N,q,none⟩ (.int .i64 (r:Int))):=(Below.refl N w6).setCell (VB _) _;refine⟨j+1,s.set q (r:Int),x,by omega,by go_num,j5,Ab (by rw[XS];exact Aa d9),Ab ((Aa bi).newer (by omega) jp),Ab ?_,Ab ?_,i0⟩
      . have e:iv (s.set q (r:Int))=(iv s).set q (.int .i64 (r:Int)):=by rw[iv,List.map_set]
        rw[e];exact iq.1
      . rw[heap_setCell_other w6 _ _ _ (by show a1.heap.size≠N;omega)];exact Aa kh
     case measure=>simp[intOf];omega
   . obtain rfl:j=c0+4:=by omega
     have et:=Aa dh;rw[XR (by rw[VL];omega),usmall]at et;obtain⟨rfl,rfl⟩:=VN et;have em:=Aa d9;have ds:Hid (RowIn .i64 wr (some ⟨N,0,none⟩) s):=Ab (RowIn.iv (Aa ao));obtain⟨ar,gn⟩:=exq (Qa (s,O));obtain⟨kc,h7,f3,iy⟩:=(Aa T).is.cell;have bm:=Ab gn;have kx:=(Aa T).below.size;clear dh et kc h7 iy gn df f5 hg g0 h1 ff gh;obtain⟨dp,ck⟩:=exq (((O.e==0)&&(errL s !=0)));have b4:=Ab ck;clear ck;go_upto_region 10 with fail
     go_cut [56] (fun jh wc=>jh=.bool dp/\wc=wr)
     case first=>
      by_cases ak:O.e=0
      . rw[ak]at f3;have dj:(errL s !=0)=dp:=by have:=Aa b4;rw[ak]at this;simpa using this
        have im:=Ab (Ff (some ⟨N,0,none⟩) 19 19 s wr em (by omega) (Aa ds));generalize errL s=ku at*;go_wp2_with fail
        refine(Aa im).mono ?_;rintro e w6 ⟨rfl,gq⟩;obtain rfl:wr=w6:=gq.symm;clear gq;go_wp2;go_meet
        exact⟨rfl,rfl⟩
      . have e7:(O.e==0)=false:=by rw[beq_eq_false_iff_ne];exact ak
        have dj:dp=false:=by rw[<-Aa b4,e7];rfl
        subst dj;generalize O.e=fp at*;go_wp2;go_meet
        exact⟨rfl,rfl⟩
     case rest=>
     obtain⟨rfl,ba⟩:=hcut;obtain rfl:wr=wc:=ba.symm;clear ba;go_upto_if 56 with (fail)
     go_cut [7] (fun jb wc=>jb=.slice (some ⟨N,0,none⟩) 19 19/\Hid (UUp (N1 No N) B aj b (rowB bs E) ar wc)/\Hid (RowIn .i64 wc (some ⟨N,0,none⟩) s))
     case first=>
      cases dp with
      |true=>
       have G:=Aa b4;rw[ZM,beq_iff_eq,bne_iff_ne]at G;have au:=Ab (Dn (N1 No N) B b (rowB bs E) O 8 wr (Aa T).is);have aw:Hid (Am 8 O=ar):=Ab (by rw[<-Aa bm];unfold Qa;rw[if_pos G]);clear G;go_wp2_with fail
       refine(Aa au).mono ?_;rintro e w6 ⟨rfl,ai⟩;have bi:=Ab ((Aa T).trans ai);have je:=Ab (ai.rows (Aa ds) (fun g o e=>by cases e;exact VB _));rw[Aa aw]at bi;clear ai;go_wp2;go_meet
       exact⟨rfl,bi,je⟩
      |false=>
       have G:¬(O.e=0/\errL s≠0):=fun G=>by
        have:=Aa b4
        rw[G.1]at this;simp[G.2]at this
       have aw:Hid (O=ar):=Ab (by rw[<-Aa bm];unfold Qa;rw[if_neg G]);rw[Aa aw]at T;clear G;go_wp2;go_meet
       exact⟨rfl,T,ds⟩
     case rest=>
     rename World=>hu
     obtain⟨rfl,b8,ji⟩:=hcut;clear T ds ao f3;obtain⟨_,_,ig,_⟩:=(Aa b8).is.cell;have bv:Hid (∀W v,UUp (N1 No N) B aj b (rowB bs E) v W->UUp No B w b (rowB bs E) v W):=Ab (fun W v ix=>(Aa f4).trans ix.closed)
     by_cases dr:ar.e≠0
     . have ib:(ar.e !=0)=true:=by simp only[bne_iff_ne,ne_eq];exact dr
       have a2:Hid (TdA No B w b (rowB bs E) R (.returned (.tuple #[.slice none 0 0,.slice none 0 0])) hu):=Ab (by
        have ew:R=(([],[]),ar):=by rw[<-Aa dz];unfold Ke;rw[Aa bm,if_pos dr]
        rw[ew];exact⟨Aa bv _ _ (Aa b8),.inl ⟨dr,rfl⟩⟩)
       generalize ar.e=fp at*;go_wp2;go_ret2;exact Aa a2
     have b0:ar.e=0:=by omega
     rw[b0]at ig
     have jg:O.e=0/\errL s=0/\ar=O:=by
      have av:=Aa bm;unfold Qa at av
      by_cases G:O.e=0/\errL s≠0
      . rw[if_pos G]at av;rw[<-av]at b0;exact absurd b0 (Bm (by decide))
      . rw[if_neg G]at av;dsimp only at av;refine⟨by rw[av];exact b0, ?_,av.symm⟩
        by_cases a6:errL s=0
        . exact a6
        . exact absurd ⟨by rw[av];exact b0,a6⟩ G
     obtain⟨ja,i6,rfl⟩:=jg;have li:=Aa ha ja;have e5:=Ch i6;have j1:=Ab e5;obtain⟨tot,dx⟩:=exq (m0+257+(n0+1));have dm:=Ab dx;have k7:tot<=316/\257<=tot:=by omega
     obtain⟨L,v,fe⟩:∃L v,ulens (rowB bs E) s tot tot [] ar=(L,v):=⟨_,_,rfl⟩
     have c7:Hid (R=Gl (m0+257) (L,v)):=Ab (by
      rw[<-Aa dz];unfold Ke;rw[Aa bm,if_neg (fun G=>G b0),dx,fe])
     have g8:=Ab fe;have kj:=(Aa b8).below.size;clear fe ha dz bm b4 dr dx;go_wp2_with fail
     refine(Jm (some ⟨N,0,none⟩) 19 19 s hu em (Aa ji) e5).mono ?_;rintro e k8 ⟨mb,nn,rfl,lr,c8,hv⟩;have i3:=Ab ((Aa b8).newer (by omega) (hv.mono (by omega)));rw[show 19=s.length from em.symm]at c8;have h9:=Ab c8;have bz:N<=mb:=by omega
     have ic:mb≠b:=by have:=(Aa b8).is.lt;omega
     have lu:=(c8.lt)
     clear c8 hv;go_wp2;go_loopw [11,12,13,14] (fun ct _ _ _ wr=>∃(l:List Int) (F:Nat) (O:US),l.length<=460/\Hid (ulens (rowB bs E) s tot F l O=(L,v))/\Hid (O.e=0->tot<=l.length+F/\l.length<=tot)/\Hid (UUp (N1 No N) B aj b (rowB bs E) O wr)/\Hid (wr.ownsRow N 3 1 ct l.length (iv l))/\Hid (Em wr mb nn (Fg s s.length))/\Hid (O.p<=(rowB bs E).length)) (fun ct _ _ _ _=>1000-Z8l ct)
     case atStart=>exact⟨[],tot,ar,by simp,g8,Ab (fun _=>⟨by simp,by simp⟩),i3,Ab (World.ownsRow_nil _ _ _ _),h9,bo⟩
     case round=>
      obtain⟨l,F,O,j4,cu,cp,T,ao,ej,bo⟩:=hrel;obtain⟨e9,ax,rfl⟩:=MT (Aa ao);obtain⟨_,_,eu,_⟩:=(Aa T).is.cell;obtain⟨I,bq⟩:=exq (l.length)
      by_cases cv:l.length<tot/\O.e=0
      . obtain⟨c9,fg⟩:=cv;obtain⟨fo,i9⟩:=Aa cp fg;rw[fg]at eu
        cases F with
        |zero=>exact absurd fo (by omega)
        |succ F=>
         obtain⟨k,x,dc⟩:∃k x,uplace s (rowB bs E) O=(k,x):=⟨_,_,rfl⟩
         obtain⟨Y,tm,y,cq⟩:∃Y tm y,ukind (rowB bs E) l k x=(Y,tm,y):=⟨_,_,_,rfl⟩
         have h3:=SX (rowB bs E) l k x;rw[cq]at h3;simp only at h3
         obtain⟨z,b3⟩:=exq ((if y.e=0/\tot<l.length+tm then Am 8 y else y))
         have a3:Hid (ulens (rowB bs E) s tot F (l++List.replicate tm Y) z=(L,v)):=Ab (by
          have U:=Aa cu;rw[ulens,if_pos ⟨c9,fg⟩]at U;unfold ustep Td at U;rw[dc]at U;simp only[cq,b3]at U;exact U)
         have bw:=SV s (rowB bs E) O (Aa bo);rw[dc]at bw;simp only at bw
         have cz:=TB (rowB bs E) l k x bw;rw[cq]at cz;simp only at cz
         have jm:z.p<=(rowB bs E).length:=by
          rw[<-b3]
          split
          . rw[Wl];exact cz
          . exact cz
         have az:Hid (z.e=0->l.length+tm<=tot):=Ab (fun U=>by
          rw[<-b3]at U
          by_cases G:y.e=0/\tot<l.length+tm
          . rw[if_pos G]at U;exact absurd U (Bm (by decide))
          . rw[if_neg G]at U
            by_cases ii:tot<l.length+tm
            . exact absurd ⟨U,ii⟩ G
            . omega)
         have d8:=Ab (Km (N1 No N) B b mb nn E s bs O wr (Aa T).is (Aa j1) ka j3 (by have:=Aa bo;omega) (Aa ej) ic);rw[dc]at d8;have di:=Aa dm;have fj:(I:Int)<(m0:Int)+257+((n0:Int)+1):=by omega
         have a4:=Ab bq;have ay:=Ab cq;have al:=Ab b3;rw[bq]at ao c9 i9 fo j4 ⊢;clear cu cp dc cq b3 bq di;go_wp2_with fail
         refine(Aa d8).mono ?_;rintro e b9 ⟨rfl,dn⟩;have ap:=Ab ((Aa T).trans dn);have a9:=Ab (dn.own (Aa ao));have bn:=Ab (dn.book (Aa ej) bz);clear dn d8 T ao ej;go_upto_block 4 with fail
         go_cut [13,14] (fun j0 jq wc=>j0=.int .i64 Y/\jq=.int .i64 (tm:Int)/\Hid (UUp (N1 No N) B aj b (rowB bs E) y wc)/\Hid (wc.ownsRow N 3 1 (.slice e9 I ax) I (iv l))/\Hid (Em wc mb nn (Fg s s.length)))
         case first=>
          by_cases hk:k=16
          . subst hk
            by_cases e1:I=0
            . have af:(Y,tm,y)=((16:Int),1,Am 8 x):=by rw[<-Aa ay];unfold ukind;rw[if_pos rfl,if_pos (by rw[Aa a4];exact e1)]
              obtain⟨rfl,ae⟩:=VN af;obtain⟨rfl,rfl⟩:=VN ae;have jr:((I:Int)==0)=true:=by rw[beq_iff_eq];omega
              have au:=Ab (Dn (N1 No N) B b (rowB bs E) x 8 b9 (Aa ap).is);clear af ae ay al az a3 e1;go_wp2_with fail
              refine(Aa au).mono ?_;rintro e a5 ⟨rfl,Z⟩;have aa:=Ab ((Aa ap).trans Z);have ah:=Ab (Z.own (Aa a9));have ag:=Ab (Z.book (Aa bn) bz);clear Z;go_wp2;go_meet
              exact⟨rfl,rfl,aa,ah,ag⟩
            . obtain⟨r,cd,e2⟩:∃r y,uget (rowB bs E) 2 x=(r,y):=⟨_,_,rfl⟩
              have af:(Y,tm,y)=(l.getD (l.length-1) 0,3+r,cd):=by rw[<-Aa ay];unfold ukind;rw[if_pos rfl,if_neg (by rw[Aa a4];exact e1),e2]
              obtain⟨fu,ae⟩:=VN af;obtain⟨rfl,rfl⟩:=VN ae;obtain⟨ac,j6,dy,ft,da⟩:=Ba (Aa a9) (by omega)
              cases dy
              obtain⟨q,av⟩:∃q,I=q+1:=⟨I-1,by omega⟩
              have ju:b9.cell? ⟨ac,q,none⟩=some (.int .i64 Y):=by
               rw[(Aa a9).cellAt q (by omega),fu,Aa a4,av,YA];have:q<l.length:=by rw[Aa a4];omega
               simp[iv,List.getD,this]
              have jr:((I:Int)==0)=false:=by rw[beq_eq_false_iff_ne];omega
              have a8:((I:Int)-1).toNat=q:=by omega
              have ly:1<=I:=by omega
              have kq:(1:Int)<=(I:Int):=by omega
              have l3:¬(I:Int)<=(I:Int)-1:=by omega
              have l5:(I:Int)-1<(I:Int):=by omega
              have lj:IntKind.i64.wrap ((I:Int)-1)=(I:Int)-1:=by simp[IntKind.wrap,IntKind.signed,IntKind.bits];omega
              have cm:=Ab (fun i=>Hm (N1 No N) B b 2 _ x (b9.drewN i) ((UUp.refl (Aa ap).is).drewN i).is (by omega) bg bw r y e2);have hp:r<=135:=by omega
              have k4:IntKind.i64.wrap (3+(r:Int))=3+(r:Int):=by simp[IntKind.wrap,IntKind.signed,IntKind.bits];omega
              have dd:=Ab (fun i=>(UUp.refl (Aa ap).is).drewN i);clear af ae ay al az a3 av fu e2;go_wp2;go_region_held3 (fun w'=>w'.cell? ⟨ac,q,none⟩=some (.int .i64 Y)) (first|assumption|simp[*]) (first|(go_at_call 91;refine(Aa cm _).mono ?_;rintro e a5 ⟨rfl,Z⟩;have aa:=Ab ((Aa ap).trans ((Aa dd _).trans Z));have ah:=Ab (((Aa dd _).trans Z).own (Aa a9));have ag:=Ab (((Aa dd _).trans Z).book (Aa bn) bz);have km:=(World.cell?_of_block (a:=⟨ac,q,none⟩) (((Aa dd _).trans Z).kp ac da (.inr ft))).trans ju;clear Z))
              go_wp2;go_meet
              exact⟨rfl,by simp,aa,ah,ag⟩
          have g7:((k:Int)==16)=false:=by rw[beq_eq_false_iff_ne];omega
          by_cases hq:k=17
          . subst hq;clear g7;obtain⟨r,cd,e2⟩:∃r y,uget (rowB bs E) 3 x=(r,y):=⟨_,_,rfl⟩
            have af:(Y,tm,y)=((0:Int),3+r,cd):=by rw[<-Aa ay];unfold ukind;simp only[e2];rfl
            obtain⟨rfl,ae⟩:=VN af;obtain⟨rfl,rfl⟩:=VN ae;have cm:=Ab (Hm (N1 No N) B b 3 _ x b9 (Aa ap).is (by omega) bg bw r y e2);have hp:r<=135:=by omega
            clear af ae ay al az a3 e2;go_wp2_with fail
            refine(Aa cm).mono ?_;rintro e a5 ⟨rfl,Z⟩;have aa:=Ab ((Aa ap).trans Z);have ah:=Ab (Z.own (Aa a9));have ag:=Ab (Z.book (Aa bn) bz);clear Z;go_wp2;go_meet
            exact⟨rfl,by simp,aa,ah,ag⟩
          have jw:((k:Int)==17)=false:=by rw[beq_eq_false_iff_ne];omega
          by_cases f8:k=18
          . subst f8;clear g7 jw;obtain⟨r,cd,e2⟩:∃r y,uget (rowB bs E) 7 x=(r,y):=⟨_,_,rfl⟩
            have af:(Y,tm,y)=((0:Int),11+r,cd):=by rw[<-Aa ay];unfold ukind;simp only[e2];rfl
            obtain⟨rfl,ae⟩:=VN af;obtain⟨rfl,rfl⟩:=VN ae;have cm:=Ab (Hm (N1 No N) B b 7 _ x b9 (Aa ap).is (by omega) bg bw r y e2);have hp:r<=135:=by omega
            clear af ae ay al az a3 e2;go_wp2_with fail
            refine(Aa cm).mono ?_;rintro e a5 ⟨rfl,Z⟩;have aa:=Ab ((Aa ap).trans Z);have ah:=Ab (Z.own (Aa a9));have ag:=Ab (Z.book (Aa bn) bz);clear Z;go_wp2;go_meet
            exact⟨rfl,by simp,aa,ah,ag⟩
          have k0:((k:Int)==18)=false:=by rw[beq_eq_false_iff_ne];omega
          have af:(Y,tm,y)=((k:Int),1,x):=by rw[<-Aa ay];unfold ukind;rw[if_neg hk,if_neg hq,if_neg f8]
          obtain⟨rfl,ae⟩:=VN af;obtain⟨rfl,rfl⟩:=VN ae;clear af ae ay al az a3;go_wp2;go_meet
          exact⟨rfl,rfl,ap,a9,bn⟩
         case rest=>
         rename World=>en
         obtain⟨rfl,rfl,aa,ah,ag⟩:=hcut;clear ap a9 bn ay;obtain⟨_,_,hj,_⟩:=(Aa aa).is.cell;obtain⟨co,gz⟩:=exq (((y.e==0)&&decide (tot<I+tm)));have a7:=Ab gz;have di:=Aa dm;clear gz;go_upto_region 27 with fail
         go_cut [131] (fun jk wc=>jk=.bool co/\wc=en)
         case first=>
          by_cases ak:y.e=0
          . rw[ak]at hj;have ht:decide (tot<I+tm)=co:=by have:=Aa a7;rw[ak]at this;simpa using this
            have jc:decide ((m0:Int)+257+((n0:Int)+1)<(I:Int)+(tm:Int))=co:=by
             rw[<-ht,decide_eq_decide];omega
            clear ht a7 al az a3;go_wp2;go_meet
            exact⟨by first|rfl|rw[jc],rfl⟩
          . have e7:(y.e==0)=false:=by rw[beq_eq_false_iff_ne];exact ak
            have dj:co=false:=by rw[<-Aa a7,e7];rfl
            subst dj;clear a7 al az a3;generalize y.e=kt at*;go_wp2;go_meet
            exact⟨rfl,rfl⟩
         case rest=>
         obtain⟨rfl,ba⟩:=hcut;obtain rfl:en=wc:=ba.symm;clear ba;go_upto_if 131 with (fail)
         go_cut [11] (fun ct wc=>ct=.slice e9 I ax/\Hid (UUp (N1 No N) B aj b (rowB bs E) z wc)/\Hid (wc.ownsRow N 3 1 (.slice e9 I ax) I (iv l))/\Hid (Em wc mb nn (Fg s s.length)))
         case first=>
          cases co with
          |true=>
           have G:=Aa a7;rw[ZM,beq_iff_eq,decide_eq_true_iff]at G;have au:=Ab (Dn (N1 No N) B b (rowB bs E) y 8 en (Aa aa).is);have aw:Hid (Am 8 y=z):=Ab (by rw[<-Aa al,Aa a4,if_pos G]);clear G a7 al az a3;go_wp2_with fail
           refine(Aa au).mono ?_;rintro e w6 ⟨rfl,ai⟩;have bi:=Ab ((Aa aa).trans ai);have ci:=Ab (ai.own (Aa ah));have il:=Ab (ai.book (Aa ag) bz);rw[Aa aw]at bi;clear ai;go_wp2;go_meet
           exact⟨rfl,bi,ci,il⟩
          |false=>
           have G:¬(y.e=0/\tot<I+tm):=fun G=>by
            have:=Aa a7
            rw[G.1,decide_eq_true G.2]at this
            cases this
           have aw:Hid (y=z):=Ab (by rw[<-Aa al,Aa a4,if_neg G]);rw[Aa aw]at aa;clear G a7 al az a3;go_wp2;go_meet
           exact⟨rfl,aa,ah,ag⟩
         case rest=>
         rename World=>dq
         obtain⟨rfl,aa,ah,ag⟩:=hcut;have lq:=(Aa aa).below.size;have iw:N<=dq.heap.size:=by omega
         have lz:I<=316:=by omega
         clear a7 al hj eu;go_wp2_with fail
         refine(Fp Y tm dq (by omega) (by omega)).mono ?_;rintro e ee ⟨rfl,f9,cw,lm⟩;have iu:=Ab ((Aa aa).newer (by omega) (cw.mono iw));have dv:=Ab (Au (Aa ah) (fun g js=>cw.block g ((Aa ah).lt g js).2));have gd:=Ab (Wc (Aa ag) cw (Aa ag).lt);have lv:=cw.size;have ia:Hid (∀j u,(iv (List.replicate tm Y))[j]? =some u->ee.cell? ((⟨dq.heap.size+1,0,none⟩:Addr).add j)=some u):=Ab (C2 f9);clear f9 cw;go_wp2_with (at_builtin;refine wpList_append_own_at _ rfl (.tmp 134) (.tmp 138) 76 rfl N 3 fw (.int .i64 0) 1 8 Tryz.underlying76 hi hx gu hf rfl (by decide) _ I (iv l) rfl (Aa dv) ⟨dq.heap.size+1,0,none⟩ tm tm (iv (List.replicate tm Y)) rfl (by simp) (Aa ia) (OC _) (by unfold maxLen;omega) (by omega) (by omega) ?_)
         intro v' fi eb eg _ _;have ea:iv (l++List.replicate tm Y)=iv l++iv (List.replicate tm Y):=by rw[iv,iv,iv,WU]
         have g5:Below N ee fi:=(Below.refl N ee).grown eg (by omega) (fun g e=>((Aa dv).lt g e).1);have jj:=Ab ((Aa iu).newer (by omega) g5);have jv:Hid (Em fi mb nn (Fg s s.length)):=Ab ((Aa gd).kept eg (FO (Aa dv) (Aa gd)));have g9:Hid (fi.ownsRow N 3 1 v' (l++List.replicate tm Y).length (iv (l++List.replicate tm Y))):=Ab (by rw[VE,XD,ea,Aa a4];first|exact eb|(rw[Z6z];exact eb));clear eb eg g5;have gv:=Aa a4;have ei:Hid ((l++List.replicate tm Y).length=I+tm):=Ab (by rw[VE,XD,gv]);clear gv;go_wp2;go_roundw
         case rel=>
          refine⟨l++List.replicate tm Y,F,z,by rw[Aa ei];omega,a3,Ab (fun iz=> ?_),jj,g9,jv,Ab jm⟩;have a6:=Aa az iz;rw[Aa a4]at a6;rw[Aa ei];omega
         case measure=>
          rw[Z45 (Aa g9),Aa ei];show 1000-(I+tm)<1000-I
          omega
      . have hex:L=l/\v=O:=by
         have U:=Aa cu
         cases F with
         |zero=>rw[ulens]at U;exact⟨(VN U).1.symm,(VN U).2.symm⟩
         |succ F=>rw[ulens,if_neg cv]at U;exact⟨(VN U).1.symm,(VN U).2.symm⟩
        obtain⟨rfl,rfl⟩:=hex
        by_cases bk:v.e≠0
        . have ib:(v.e !=0)=true:=by simp only[bne_iff_ne,ne_eq];exact bk
          have l4:(v.e==0)=false:=by rw[beq_eq_false_iff_ne];exact bk
          have a2:Hid (TdA No B w b (rowB bs E) R (.returned (.tuple #[.slice none 0 0,.slice none 0 0])) wr):=Ab (by
           have ew:R=(([],[]),v):=by rw[Aa c7];unfold Gl;rw[if_pos bk]
           rw[ew];exact⟨Aa bv _ _ (Aa T),.inl ⟨bk,rfl⟩⟩)
          rw[bq];have lk:=Aa dm;clear bk cv cu cp;generalize v.e=fp at*
          by_cases ky:I<tot
          . have fj:(I:Int)<(m0:Int)+257+((n0:Int)+1):=by omega
            go_wp2;go_ret2;exact Aa a2
          . have fj:¬(I:Int)<(m0:Int)+257+((n0:Int)+1):=by omega
            go_wp2;go_ret2;exact Aa a2
        . have bf:v.e=0:=by omega
          have e4:L.length=tot:=by
           have a6:=(Aa cp bf).2;have eo:¬L.length<tot:=fun cn=>cv ⟨cn,bf⟩
           omega
          have di:=Aa dm;rw[bf]at eu;obtain⟨ac,j6,dy,ft,da⟩:=Ba (Aa ao) (by omega)
          cases dy
          have i4:wr.cell? ⟨ac,256,none⟩=some (.int .i64 (L.getD 256 0)):=by
           rw[(Aa ao).cellAt 256 (by omega)];have:256<L.length:=by omega
           simp[iv,List.getD,this]
          have jz:L.length<=ax:=by
           rcases(Aa ao).2 with ⟨ak,_⟩|⟨_,_,_,U,_,_,dw,_⟩
           . cases ak
           . cases U;exact dw
          have d5:Row .i64 wr ac 0 L:=by
           rcases RowIn.iv (Aa ao)with ak|⟨ko,l6,a8,_,dw⟩
           . rw[ak]at e4;simp at e4;omega
           . cases a8;exact dw
          obtain⟨M,h2⟩:=exq (m0+257);have kk:(m0:Int)+257=(M:Int):=by omega
          have h0:Hid (RowIn .i64 wr (some ⟨ac,0,none⟩) (L.take M)):=Ab (.inr ⟨ac,0,rfl,da,fun j c6=>by
           rw[VL]at c6;have:=d5 j (by omega)
           rw[this,List.getD,List.getD,List.getElem?_take,if_pos (by omega)]⟩)
          have fq:Hid (RowIn .i64 wr (some ⟨ac,M,none⟩) (L.drop M)):=Ab (.inr ⟨ac,M,rfl,da,fun j c6=>by
           rw[VQ]at c6;have:=d5 (M+j) (by omega)
           rw[WG]at this;rw[this,List.getD,List.getD,XJ]⟩)
          have ep:(L.take M).length=M:=by rw[VL];omega
          have d6:(L.drop M).length=n0+1:=by rw[VQ];omega
          have bu:Hid ((L.getD 256 0=0\/errL (L.take M)≠0\/errL (L.drop M)≠0)->R=(([],[]),Am 8 v)):=Ab (fun G=>by rw[Aa c7];unfold Gl;rw[if_neg (fun cn=>cn bf),h2,if_pos G]);have de:Hid (¬(L.getD 256 0=0\/errL (L.take M)≠0\/errL (L.drop M)≠0)->R=((L.take M,L.drop M),v)):=Ab (fun G=>by rw[Aa c7];unfold Gl;rw[if_neg (fun cn=>cn bf),h2,if_neg G]);have au:=Ab (Dn (N1 No N) B b (rowB bs E) v 8 wr (Aa T).is);have cy:=Ab (Ff (some ⟨ac,0,none⟩) M ax (L.take M) wr ep (by omega) (Aa h0));have ey:=Ab (Ff (some ⟨ac,M,none⟩) (n0+1) (ax-M) (L.drop M) wr d6 (by omega) (Aa fq));have fj:¬(I:Int)<(M:Int)+((n0:Int)+1):=by omega
          have jf:I-M=n0+1:=by omega
          have k9:(256:Int)<(I:Int):=by omega
          have ki:(M:Int)<=(I:Int):=by omega
          have k6:(M:Int)<=(ax:Int):=by omega
          have l8:M<=I:=by omega
          have k5:¬ax=M:=by omega
          have lf:I<=ax:=by omega
          have ir:=Ab bf;rw[bq];obtain⟨gi,f6⟩:=exq (L.getD 256 0);obtain⟨ea,h5⟩:=exq (errL (L.take M));obtain⟨ec,fx⟩:=exq (errL (L.drop M));rw[f6]at i4 bu de;rw[h5]at cy bu de;rw[fx]at ey bu de;have ip:=Ab ep;have j7:=Ab d6;clear d5 jz ep d6 bk cv cu cp f6 h5 fx e4 bq bf di c7 g8 e5
          by_cases k1:gi=0
          . subst k1;have bh:=Ab (Aa bu (.inl rfl));go_wp2_with fail
            refine(Aa au).mono ?_;rintro e cg ⟨rfl,bc⟩;have a2:Hid (TdA No B w b (rowB bs E) R (.returned (.tuple #[.slice none 0 0,.slice none 0 0])) cg):=Ab (by rw[Aa bh];exact⟨Aa bv _ _ ((Aa T).trans bc),.inl ⟨Bm (by decide),rfl⟩⟩);clear bc;go_wp2;go_ret2;exact Aa a2
          have lh:(gi==0)=false:=by rw[beq_eq_false_iff_ne];exact k1
          by_cases k2:ea=0
          . subst k2
            by_cases fh:ec=0
            . subst fh;have bh:=Ab (Aa de (by intro G;rcases G with G|G|G;exact k1 G;exact G rfl;exact G rfl));clear k1;go_wp2_with fail
              refine(Aa cy).mono ?_;rintro e a5 ⟨rfl,bd⟩;obtain rfl:wr=a5:=bd.symm;clear bd;go_wp2_with fail
              refine(Aa ey).mono ?_;rintro e d7 ⟨rfl,b7⟩;obtain rfl:wr=d7:=b7.symm;clear b7;go_wp2;go_region
              all_goals go_wp2
              go_ret2;rw[Aa bh];refine⟨(Aa bv _ _ (Aa T)).drewN 1,.inr ⟨some ⟨ac,0,none⟩,ax,some ⟨ac,M,none⟩,ax-M,Aa ir, ?_, ?_, ?_⟩⟩
              . rw[Aa ip,Aa j7,<-jf];rfl
              . exact Aa h0
              . exact Aa fq
            . have l0:(ec !=0)=true:=by simp only[bne_iff_ne,ne_eq];exact fh
              have bh:=Ab (Aa bu (.inr (.inr fh)));clear k1;go_wp2_with fail
              refine(Aa cy).mono ?_;rintro e a5 ⟨rfl,bd⟩;obtain rfl:wr=a5:=bd.symm;clear bd;go_wp2_with fail
              refine(Aa ey).mono ?_;rintro e d7 ⟨rfl,b7⟩;obtain rfl:wr=d7:=b7.symm;clear b7;go_wp2_with fail
              refine(Aa au).mono ?_;rintro e cg ⟨rfl,bc⟩;have a2:Hid (TdA No B w b (rowB bs E) R (.returned (.tuple #[.slice none 0 0,.slice none 0 0])) cg):=Ab (by rw[Aa bh];exact⟨Aa bv _ _ ((Aa T).trans bc),.inl ⟨Bm (by decide),rfl⟩⟩);clear bc;go_wp2;go_ret2;exact Aa a2
          . have kz:(ea !=0)=true:=by simp only[bne_iff_ne,ne_eq];exact k2
            have bh:=Ab (Aa bu (.inr (.inl k2)));clear k1;go_wp2_with fail
            refine(Aa cy).mono ?_;rintro e a5 ⟨rfl,bd⟩;obtain rfl:wr=a5:=bd.symm;clear bd;go_wp2_with fail
            refine(Aa au).mono ?_;rintro e cg ⟨rfl,bc⟩;have a2:Hid (TdA No B w b (rowB bs E) R (.returned (.tuple #[.slice none 0 0,.slice none 0 0])) cg):=Ab (by rw[Aa bh];exact⟨Aa bv _ _ ((Aa T).trans bc),.inl ⟨Bm (by decide),rfl⟩⟩);clear bc;go_wp2;go_ret2;exact Aa a2
theorem Rb {w:World}{b e E n:Nat}{v:Value}{xs:List Value}(G:w.ownsRow (b+1) e E v n xs):v.ownBlock=none\/v.ownBlock≠some b:=by
 cases F:v.ownBlock with
 |none=>exact .inl rfl
 |some g=>
  refine .inr (fun e=> ?_);have:=(G.lt g F).1
  cases e
  omega
theorem UIs.keepK {No:Nat->Prop}{B b k:Nat}{w E:World}{row:List Bool}{u:US}{H G v':Value}{X:Obj}(ah:B<=b)(U:¬No b)(Y:w.heap[b]? =some (.cells (ucells row u H G) 110 (0,0)))
 (M:w.ownsRow (b+1) 5 1 H u.out.length (u8s u.out)) (T:w.ownsRow (b+1) 3 1 G u.ks.length (i64s u.ks)) (ac:H.ownBlock=none\/H.ownBlock≠G.ownBlock) (ak:∀g,H.ownBlock=some g->¬No g) (ae:∀g,G.ownBlock=some g->¬No g) (ar:∀g,w.heap.size<=g->¬No g)
 (aa:E.ownsRow (b+1) 3 1 v' (u.ks.length+1) (i64s u.ks++ [.int .i64 (k:Int)])) (I:(w.alloc X).grownBy E G.ownBlock) (Z:v'.ownBlock=G.ownBlock\/v'.ownBlock=some (w.heap.size+1)):
 E.cell? ⟨b,3,none⟩=some G/\E.frozen? ⟨b,3,none⟩=false/\UUp No B w b row (ukept k u) (E.setCell ⟨b,3,none⟩ v'):=by
 have av:b<w.heap.size:=(VK.1 Y).1;have au:=Rb T
 have O:E.heap[b]? =some (.cells (ucells row u H G) 110 (0,0)):=by
  rw[I.block b (by simp;omega) (fun e=>by rcases au with h|h;rw[h]at e;cases e;exact h e.symm)];exact(Below.heap_alloc w _ b av).trans Y
 have ag:∀g,g<w.heap.size->G.ownBlock≠some g->E.heap[g]? =w.heap[g]? :=fun g F ao=>by
  rw[I.block g (by simp;omega) (fun e=>ao e.symm)];exact Below.heap_alloc w _ g F
 have ai:=I.size;have af:=Ad E b 3 v';simp only[World.size_alloc]at ai
 have al:E.ownsRow (b+1) 5 1 H u.out.length (u8s u.out):=Au M (fun g F=>ag g (M.lt g F).2 (fun e=>by
  rcases ac with h|h
  . rw[h]at F;cases F
  . exact h (by rw[F];exact e.symm)))
 refine⟨Ac O,frozen_of_row E b 3 _ _ O,⟨⟨ah,U,H,v', ?_,al.kept af (Rb M), ?_, ?_,ak, ?_⟩, ?_, ?_⟩⟩
 . rw[heap_setCell_same E b 3 _ _ _ O];rfl
 . have:=aa.kept af (Rb aa)
   show (E.setCell ⟨b,3,none⟩ v').ownsRow (b+1) 3 1 v' (u.ks++ [k]).length (i64s (u.ks++ [k]))
   have e:i64s (u.ks++ [k])=i64s u.ks++ [.int .i64 (k:Int)]:=by simp[i64s]
   rw[e,VE];exact this
 . rcases Z with h|h
   . rw[h];exact ac
   . cases ap:H.ownBlock with
     |none=>exact .inl rfl
     |some g=>
      refine .inr (fun e=> ?_);rw[h]at e;have:=(M.lt _ ap).2
      cases e
      omega
 . intro g F
   rcases Z with h|h
   . exact ae g (by rw[<-h];exact F)
   . rw[h]at F
     cases F
     exact ar _ (by omega)
 . have aj:Below B w E:=((Below.refl B w).alloc (by omega) X).grown I (by simp;omega) (fun g e=>by have:=(T.lt g e).1;omega);exact aj.setCell ah _
 . intro g F hn;rw[heap_setCell_other E _ _ _ (fun e=>U (by have:g=b:=e;rw[<-this];exact hn))];exact ag g F (fun e=>ae g e hn)
def N2 (No:Nat->Prop)(N M:Nat):Nat->Prop:=fun g=>No g\/ (N<=g/\g<M)
theorem UUp.closed2 {No:Nat->Prop}{B b N M:Nat}{G w:World}{row:List Bool}{u:US}(E:UUp (N2 No N M) B G b row u w):UUp No B G b row u w:=
 ⟨E.is.more (fun e=>E.is.no (.inl e)) (fun g F=>.inl (.inl F)),E.below,E.kp.weaken (fun g F=>.inl F)⟩
theorem UUp.prs {No:Nat->Prop}{B b N M E:Nat}{w w':World}{row:List Bool}{u:US}{l:List (Nat×Nat)}(O:UUp (N2 No N M) B w b row u w')(U:Prs w E l)(I:E<w.heap.size)(H:N<=E)(T:E<M):Prs w' E l:=by
 have F:=O.kp E I (.inr ⟨H,T⟩);intro j G;have:=U j G
 exact⟨(World.cell?_of_block (a:=⟨E,j*2,none⟩) F).trans this.1,(World.cell?_of_block (a:=⟨E,j*2+1,none⟩) F).trans this.2⟩
theorem UUp.book2 {No:Nat->Prop}{B b N M E G:Nat}{w w':World}{row:List Bool}{u:US}{H:DataW Unit}(Z:UUp (N2 No N M) B w b row u w')(I:Em w E G H)(U:N<=E)(O:E<M):Em w' E G H:=by
 have aa:=I.lt;obtain⟨es,clock,hb,F,T,Y⟩:=I;exact⟨es,clock,(Z.kp E aa (.inr ⟨U,O⟩)).trans hb,F,T,Y⟩
theorem Lr {w w':World}{B E:Nat}{l:List (Nat×Nat)}(H:Prs w E l)(I:Below B w w')(G:E<B):Prs w' E l:=fun j F=>
 ⟨(I.cell (p:=⟨E,j*2,none⟩) G).trans (H j F).1,(I.cell (p:=⟨E,j*2+1,none⟩) G).trans (H j F).2⟩
def Z16 (n b:Nat)(w:World):Nat:=8*n+1-((w.cell? ⟨b,1,none⟩).map (fun x=>(intOf x).toNat)).getD 0
theorem Jz {No:Nat->Prop}{B b n:Nat}{w:World}{row:List Bool}{u:US}(E:UIs No B w b row u):Z16 n b w=8*n+1-u.p:=by
 unfold Z16;rw[E.cell.2.1];simp[intOf]
end Go.Proofs.YtleocpdblhbimaaGreatDoor
