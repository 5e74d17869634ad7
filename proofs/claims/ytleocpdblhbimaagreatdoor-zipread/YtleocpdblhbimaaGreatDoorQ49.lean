import Derived.Test.YtleocpdblhbimaaGreatDoorQ48
import Derived.Deep.RegionHeld3
set_option linter.unusedSimpArgs false
set_option linter.unusedVariables false
set_option maxRecDepth 100000
set_option maxHeartbeats 8000000
namespace Go.Proofs.YtleocpdblhbimaaGreatDoor
open Go.RowKit
theorem Zo (row:List Bool)(n:Nat)(u:US):(uget row n u).2.out=u.out/\(uget row n u).2.ks=u.ks/\u.p<=(uget row n u).2.p:=by
 unfold uget
 split
 . split
   . exact⟨rfl,rfl,VB _⟩
   . exact⟨rfl,rfl,ZS _ _⟩
 . exact⟨rfl,rfl,VB _⟩
theorem Om (x:Int)(u:US):(Am x u).out=u.out/\(Am x u).ks=u.ks/\(Am x u).p=u.p:=by
 unfold Am
 split<;>exact⟨rfl,rfl,rfl⟩
theorem BA (c:Nat)(u:US):(u.out.length<=3000->(Fd c u).out.length<=3000)/\(Fd c u).ks=u.ks/\(Fd c u).p=u.p:=by
 unfold Fd
 split
 . split
   . exact⟨fun h=>h,rfl,rfl⟩
   . rename_i E
     exact⟨fun h=>by show (u.out++ [c]).length<=3000;rw[VE];simp only[VJ,WE];omega,rfl,rfl⟩
 . exact⟨fun h=>h,rfl,rfl⟩
theorem Wp (l:List Int)(row:List Bool)(u:US)(E:u.p<=row.length):(uplace l row u).2.out=u.out/\(uplace l row u).2.ks=u.ks/\u.p<=(uplace l row u).2.p/\(uplace l row u).2.p<=row.length:=by
 unfold uplace
 split
 . exact⟨rfl,rfl,ZS _ _,Xp l row u.p E⟩
 . exact⟨rfl,rfl,VB _,E⟩
theorem EI (row:List Bool)(k:Nat)(u:US)(E:u.e≠0):ustore row k u=u:=by
 cases k with
 |zero=>rfl
 |succ k=>rw[ustore,if_neg E]
theorem RM (l:Nat):((l:Int)==1)=decide (l=1):=by
 by_cases e:l=1
 . subst e;rfl
 . rw[decide_eq_false e,beq_eq_false_iff_ne];omega
def BkA (No:Nat->Prop)(B:Nat)(w:World)(b:Nat)(row:List Bool)(R:Bool×US)(e:Ending)(w':World):Prop:=e=.returned (.bool R.1)/\UUp No B w b row R.2 w'
theorem JH (No:Nat->Prop)(B b E:Nat)(bs:List Nat)(u:US)(w:World)(h:UIs No B w b (rowB bs E) u)(au:E<=25000)(ak:u.p<=8*E)(l k:Nat)(G F:US)(I:uget (rowB bs E) 1 u=(l,G))(U:uget (rowB bs E) 2 G=(k,F))(Y:F.e≠0):
 Calls Tryz.prog 61 #[.pointer (some ⟨b,0,none⟩)] w fun e w'=>BkA No B w b (rowB bs E) (true,F) e w':=by
 have ap:=Af bs E;have aa:(rowB bs E).length<=200000:=by omega
 have af:u.p<=(rowB bs E).length:=by omega
 have ae:=Gn _ 1 u af;rw[I]at ae;have H:=Ab h;have O:=Ab I;have Z:=Ab U;clear h I U;go_enter Tryz.func61,Tryz.ntmps61
 go_wp2_with fail
 refine(Hm No B b 1 _ u w (Aa H) (by omega) aa af l G (Aa O)).mono ?_;rintro e ai ⟨rfl,ag⟩;have M:=Ab ag;clear ag;go_wp2_with fail
 refine(Hm No B b 2 _ G ai (Aa M).is (by omega) aa ae k F (Aa Z)).mono ?_;rintro e aj ⟨rfl,ac⟩;have T:=Ab ((Aa M).trans ac);clear ac M;obtain⟨_,_,ao,_⟩:=(Aa T).is.cell;have ar:(F.e !=0)=true:=by simp only[bne_iff_ne,ne_eq];exact Y
 have ah:Hid (BkA No B w b (rowB bs E) (true,F) (.returned (.bool true)) aj):=Ab ⟨rfl,Aa T⟩;clear Y H O Z;generalize F.e=al at*;go_wp2;go_ret;exact Aa ah
theorem JI (No:Nat->Prop)(B b E:Nat)(bs:List Nat)(u:US)(w:World)(h:UIs No B w b (rowB bs E) u)(a1:E<=25000)(aw:u.p<=8*E)(l k:Nat)(G F:US)(I:uget (rowB bs E) 1 u=(l,G))(ae:uget (rowB bs E) 2 G=(k,F))(T:F.e=0)(av:3<=k):
 Calls Tryz.prog 61 #[.pointer (some ⟨b,0,none⟩)] w fun e w'=>BkA No B w b (rowB bs E) (true,Am 4 F) e w':=by
 have az:=Af bs E;have Z:(rowB bs E).length<=200000:=by omega
 have aj:u.p<=(rowB bs E).length:=by omega
 have ai:=Gn _ 1 u aj;rw[I]at ai;have H:=Ab h;have U:=Ab I;have Y:=Ab ae;have ay:((k:Int)==0)=false:=by rw[beq_eq_false_iff_ne];omega
 have ax:((k:Int)==1)=false:=by rw[beq_eq_false_iff_ne];omega
 have a2:((k:Int)==2)=false:=by rw[beq_eq_false_iff_ne];omega
 clear h I ae av;go_enter Tryz.func61,Tryz.ntmps61
 go_wp2_with fail
 refine(Hm No B b 1 _ u w (Aa H) (by omega) Z aj l G (Aa U)).mono ?_;rintro e ao ⟨rfl,ak⟩;have M:=Ab ak;clear ak;go_wp2_with fail
 refine(Hm No B b 2 _ G ao (Aa M).is (by omega) Z ai k F (Aa Y)).mono ?_;rintro e ap ⟨rfl,ag⟩;have O:=Ab ((Aa M).trans ag);clear ag M;obtain⟨_,_,af,_⟩:=(Aa O).is.cell;have au:=Ab (Dn No B b (rowB bs E) F 4 ap (Aa O).is);have aa:(Am 4 F).e=4:=by unfold Am;rw[if_pos T]
 rw[T]at af;clear T H U Y;go_wp2_with fail
 refine(Aa au).mono ?_;rintro e w3 ⟨rfl,ah⟩;have ac:=Ab ((Aa O).trans ah);clear ah;obtain⟨_,_,ar,_⟩:=(Aa ac).is.cell;rw[aa]at ar;have al:Hid (BkA No B w b (rowB bs E) (true,Am 4 F) (.returned (.bool true)) w3):=Ab ⟨rfl,Aa ac⟩;clear aa af;go_wp2;go_ret;exact Aa al
theorem RH (No:Nat->Prop)(B b E:Nat)(bs:List Nat)(u:US)(w:World)(h:UIs No B w b (rowB bs E) u)(bc:E<=25000)(e0:u.p<=8*E)(dn:u.out.length<=3000)(cv:u.ks.length<=200000)(cz:∀g,w.heap.size<=g->¬No g)(l:Nat)(al F:US)(a3:uget (rowB bs E) 1 u=(l,al))(bf:uget (rowB bs E) 2 al=(0,F))(bn:F.e=0)(V:US)(bm:ustored (rowB bs E) F=V):
 Calls Tryz.prog 61 #[.pointer (some ⟨b,0,none⟩)] w fun e w'=>BkA No B w b (rowB bs E) (decide (l=1),ukept 0 V) e w':=by
 obtain⟨du,hi,db,d9,dc⟩:=info_parts Bv;have e5:=Af bs E;have ae:(rowB bs E).length<=200000:=by omega
 have eb:u.p<=(rowB bs E).length:=by omega
 obtain⟨dm,et,cg,cd,ep⟩:=Bn bf bn;obtain⟨de,d8,ci,cy,_⟩:=Bn a3 ep;obtain⟨r1,y1,Z⟩:∃r y,uget (rowB bs E) 16 {F with p:=(F.p+7)/8*8}=(r,y):=⟨_,_,rfl⟩
 obtain⟨r2,y2,e2⟩:∃r y,uget (rowB bs E) 16 y1=(r,y):=⟨_,_,rfl⟩
 obtain⟨I,e3⟩:=exq ((if y2.e=0/\r1+r2≠65535 then Am 4 y2 else y2));have U:ustore (rowB bs E) r1 I=V:=by rw[<-bm];unfold ustored;simp only[Z,e2,e3]
 have cu:({F with p:=(F.p+7)/8*8}:US).p<=(rowB bs E).length:=by show (F.p+7)/8*8<=_;omega
 have au:=Gn _ 16 _ cu;rw[Z]at au;have a7:=Gn _ 16 y1 au;rw[e2]at a7;have o1:=Zo (rowB bs E) 16 {F with p:=(F.p+7)/8*8};rw[Z]at o1;have o2:=Zo (rowB bs E) 16 y1;rw[e2]at o2
 have aw:I.out=y2.out/\I.ks=y2.ks/\I.p=y2.p:=by
  rw[<-e3]
  split
  . exact Om 4 y2
  . exact⟨rfl,rfl,rfl⟩
 have ar:=Fu (rowB bs E) 16 {F with p:=(F.p+7)/8*8};rw[Z]at ar;have ak:=Fu (rowB bs E) 16 y1;rw[e2]at ak;simp only at au a7 o1 o2 ar ak
 have dr:I.p<=(rowB bs E).length:=by rw[aw.2.2];exact a7
 have eo:I.out.length<=3000:=by rw[aw.1,o2.1,o1.1,cg,ci];exact dn
 have em:I.ks=u.ks:=by rw[aw.2.1,o2.2.1,o1.2.1,cd,cy]
 have H:=Ab h;have ck:=Ab cz;have cq:=Ab a3;have b0:=Ab bf;have bo:=Ab Z;have bv:=Ab e2;have T:=Ab e3;have ah:=Ab U;have ee:=Ab cv;have eu:r1<65536:=ar;have e6:r2<65536:=ak;obtain⟨aj,cj⟩:=exq (((y2.e==0)&&decide (r1+r2≠65535)));have M:=Ab cj;clear h cz a3 bf bm de dm cd cy cg ci o1 o2 aw cv Z e2 e3 U ar ak cj;go_enter Tryz.func61,Tryz.ntmps61
 go_wp2_with fail
 refine(Hm No B b 1 _ u w (Aa H) (by omega) ae eb l al (Aa cq)).mono ?_;rintro e dv ⟨rfl,cp⟩;have az:=Ab cp;clear cp;go_wp2_with fail
 refine(Hm No B b 2 _ al dv (Aa az).is (by omega) ae d8 0 F (Aa b0)).mono ?_;rintro e e8 ⟨rfl,bu⟩;have ao:=Ab ((Aa az).trans bu);clear bu;obtain⟨_,eg,b8,f2⟩:=(Aa ao).is.cell;rw[bn]at b8;have dx:Hid (((F.p:Int)+7)/8*8=(((F.p+7)/8*8:Nat):Int)):=Ab (by omega);have a9:=Ab ((Aa ao).trans ((Aa ao).is.setP ((F.p+7)/8*8)));go_wp2_with fail
 rw[Aa dx];refine(Hm No B b 16 _ {F with p:=(F.p+7)/8*8} _ (Aa a9).is (by omega) ae cu r1 y1 (Aa bo)).mono ?_;rintro e dq ⟨rfl,bz⟩;have a5:=Ab ((Aa a9).trans bz);clear bz;go_wp2_with fail
 refine(Hm No B b 16 _ y1 dq (Aa a5).is (by omega) ae au r2 y2 (Aa bv)).mono ?_;rintro e a2 ⟨rfl,cm⟩;have aa:=Ab ((Aa a5).trans cm);clear cm;obtain⟨_,_,bw,_⟩:=(Aa aa).is.cell;clear az ao a9 a5 eg b8 f2 bo bv cq b0 H;go_upto_region 9 with fail
 go_cut [58] (fun c8 wc=>c8=.bool aj/\wc=a2)
 case first=>
  by_cases bb:y2.e=0
  . rw[bb]at bw
    have co:((r1:Int)+(r2:Int)!=65535)=aj:=by
     have:=Aa M
     rw[bb]at this;rw[<-this]
     by_cases dy:r1+r2=65535
     . rw[bne_eq_false_iff_eq.2 (by omega),decide_eq_false (by omega)];rfl
     . rw[bne_iff_ne.2 (by omega),decide_eq_true dy];rfl
    clear M T ah;go_wp2;go_meet
    exact⟨rfl,rfl⟩
  . have bh:(y2.e==0)=false:=by rw[beq_eq_false_iff_ne];exact bb
    have co:aj=false:=by rw[<-Aa M,bh];rfl
    subst co;clear M T ah;generalize y2.e=df at*;go_wp2;go_meet
    exact⟨rfl,rfl⟩
 case rest=>
 obtain⟨rfl,bg⟩:=hcut;obtain rfl:a2=wc:=bg.symm;clear bg;go_upto_if 58 with (fail)
 go_cut [7] (fun d5 wc=>d5=.int .i64 (r1:Int)/\Hid (UUp No B w b (rowB bs E) I wc))
 case first=>
  cases aj with
  |true=>
   have O:=Aa M;rw[ZM,beq_iff_eq,decide_eq_true_iff]at O;have ek:=Ab (Dn No B b (rowB bs E) y2 4 a2 (Aa aa).is);have ay:Hid (Am 4 y2=I):=Ab (by rw[<-Aa T,if_pos O]);clear O M T ah;go_wp2_with fail
   refine(Aa ek).mono ?_;rintro e w6 ⟨rfl,ac⟩;have Y:=Ab ((Aa aa).trans ac);rw[Aa ay]at Y;clear ac;go_wp2;go_meet
   exact⟨rfl,Y⟩
  |false=>
   have O:¬(y2.e=0/\r1+r2≠65535):=fun O=>by
    have:=Aa M
    rw[O.1,decide_eq_true O.2]at this
    cases this
   have ay:Hid (y2=I):=Ab (by rw[<-Aa T,if_neg O]);rw[Aa ay]at aa;clear O M T ah;go_wp2;go_meet
   exact⟨rfl,aa⟩
 case rest=>
 rename World=>e9
 obtain⟨rfl,ei⟩:=hcut;clear aa bw M T;go_upto_block 1 with (fail)
 go_cut [3] (fun ed wc=>ed=.int .i64 (l:Int)/\Hid (UUp No B w b (rowB bs E) V wc)/\Hid (V.ks=u.ks))
 case first=>
  go_wp2_with fail
  go_loopw [9] (fun ba wr=>∃(i:Nat) (x:US),i<=r1/\ba=.int .i64 (i:Int)/\Hid (ustore (rowB bs E) (r1-i) x=V)/\Hid (x.p<=(rowB bs E).length)/\Hid (x.out.length<=3000)/\Hid (x.ks=u.ks)/\Hid (UUp No B w b (rowB bs E) x wr)) (fun ba _=>r1-(intOf ba).toNat)
  case atStart=>exact⟨0,I,VH _,rfl,ah,Ab dr,Ab eo,Ab em,ei⟩
  case round=>
   obtain⟨i,x,e7,rfl,U,b7,dt,av,G⟩:=hrel;obtain⟨_,_,dp,_⟩:=(Aa G).is.cell
   by_cases ap:x.e=0
   . rw[ap]at dp
     by_cases di:i<r1
     . obtain⟨r,y,a1⟩:∃r y,uget (rowB bs E) 8 x=(r,y):=⟨_,_,rfl⟩
       have b3:ustore (rowB bs E) (r1-(i+1)) (Fd r y)=V:=by
        have:=Aa U
        rw[show r1-i=(r1-(i+1))+1 by omega,ustore,if_pos ap,a1]at this;exact this
       have a4:=Gn (rowB bs E) 8 x (Aa b7);have af:=Zo (rowB bs E) 8 x;have ai:=Fu (rowB bs E) 8 x;rw[a1]at a4 af ai;simp only at a4 af ai
       have fh:r<256:=ai;have ce:y.out.length<=3000:=by rw[af.1];exact Aa dt
       have bd:=Ab (BA r y);have dz:=Ab b3;have c7:Hid (y.ks=u.ks):=Ab (af.2.1.trans (Aa av));have b9:(i:Int)<(r1:Int):=by omega
       clear b3 af ai U;go_wp2_with fail
       refine(Hm No B b 8 _ x wr (Aa G).is (by omega) ae (Aa b7) r y a1).mono ?_;rintro e w6 ⟨rfl,ac⟩;have Y:=Ab ((Aa G).trans ac);clear ac;go_wp2_with fail
       refine(S8 No B b r _ y w6 (Aa Y).is ce (fun g dw=>Aa ck g (by have:=(Aa Y).below.size;omega))).mono ?_;rintro e fi ⟨rfl,bk⟩;have da:=Ab ((Aa Y).trans bk);clear bk;go_wp2;go_roundw
       case rel=>exact⟨i+1,Fd r y,by omega,by go_num,dz,Ab (by rw[(Aa bd).2.2];exact a4),Ab ((Aa bd).1 ce),Ab ((Aa bd).2.1.trans (Aa c7)),da⟩
       case measure=>simp[intOf];omega
     . have hi:i=r1:=by omega
       subst hi
       have a6:x=V:=by
        have:=Aa U
        rw[XW,ustore]at this;exact this
       subst a6;go_wp2;go_meet
       exact⟨rfl,G,av⟩
   . have a6:x=V:=by
      have:=Aa U
      rw[EI _ _ _ ap]at this;exact this
     subst a6;have bh:(x.e==0)=false:=by rw[beq_eq_false_iff_ne];exact ap
     generalize x.e=df at*
     by_cases di:i<r1
     . have b9:(i:Int)<(r1:Int):=by omega
       go_wp2;go_meet
       exact⟨rfl,G,av⟩
     . have b9:¬(i:Int)<(r1:Int):=by omega
       go_wp2;go_meet
       exact⟨rfl,G,av⟩
 case rest=>
  rename World=>d6
  obtain⟨rfl,G,eh⟩:=hcut;obtain⟨ov,kv,_,e4,b4,bj,ag,c5,c6,bc⟩:=(Aa G).is.rows;obtain⟨ct,ax⟩:=exq (V.ks.length);have b5:=ag;rw[ax]at ag;obtain⟨ey,e1,rfl⟩:=An ag;have fj:=(Aa G).below.size;have fo:=(Aa G).is.lt;have ew:ct<=200000:=by rw[<-ax,Aa eh];exact Aa ee
  have ds:=Ab ag;have c9:=Ab b5;have dl:=Ab bj;have en:=Ab b4;have dh:=Ab c5;have d7:=Ab c6;have dd:=Ab bc;have dj:=Ab ax;have bq:=Ab (Aa G).is;clear ag b5 bj b4 c5 c6 bc ax;go_wp2_with (at_builtin;refine wpList_append_own_at _ rfl (.tmp 82) (.tmp 84) 76 rfl (b+1) 3 du (.int .i64 0) 1 8 Tryz.underlying76 hi db d9 dc rfl (by decide) _ ct (i64s V.ks) rfl ((Aa ds).alloc _) ⟨d6.heap.size,0,none⟩ 1 1 [.int .i64 (0)] rfl rfl (cell_one_new _ _ _) (Bc rfl) (by unfold maxLen;omega) (by omega) (by simp;omega) ?_)
  intro v' fg a8 cn _ cw;obtain⟨fk,fe,bi⟩:=UIs.keepK (k:=0) (X:=.cells #[.int .i64 (0)] 3) (Aa bq).base (Aa bq).no (Aa en) (Aa dl) (Aa c9) (Aa dh) (Aa d7) (Aa dd) (fun g dw=>Aa ck g (by omega)) (by rw[Aa dj];exact a8) cn (by simpa using cw);obtain⟨fm,ff,rfl,_,_⟩:=Ba a8 (by omega);have ej:=Ab ((Aa G).trans bi);clear a8 cn cw bi;go_wp2;go_ret;exact⟨by rw[RM];rfl,Aa ej⟩
theorem KN (d k:Nat)(u:US)(E:u.e≠0):ucopy d k u=u:=by
 cases k with
 |zero=>rfl
 |succ k=>rw[ucopy,if_neg E]
theorem KM (d:Nat):∀(k:Nat) (u:US),(u.out.length<=3000->(ucopy d k u).out.length<=3000)/\(ucopy d k u).ks=u.ks/\(ucopy d k u).p=u.p
 |0,u=>⟨fun h=>h,rfl,rfl⟩
 |k+1,u=>by
  rw[ucopy]
  split
  . have E:=BA (u.out.getD (u.out.length-d) 0) u;have F:=KM d k (Fd (u.out.getD (u.out.length-d) 0) u);exact⟨fun h=>F.1 (E.1 h),F.2.1.trans E.2.1,F.2.2.trans E.2.2⟩
  . exact⟨fun h=>h,rfl,rfl⟩
theorem SR (row:List Bool)(a b:List Int)(F:Nat)(u:US)(E:u.e≠0):utok row a b F u=u:=by
 cases F with
 |zero=>rfl
 |succ F=>rw[utok,if_neg E]
theorem Nb {row:List Bool}{a b:List Int}{F kk:Nat}{x y1:US}(H:x.e=0)(G:uplace a row x=(kk,y1))(R:Bool×US)(I:(if y1.e≠0\/kk=256 then (false,y1)else if kk<256 then (true,Fd kk y1)else if 285<kk then (false,Am 8 y1)else EJ row b kk y1)=R):utok row a b (F+1) x=if R.1 then utok row a b F R.2 else R.2:=by
 have E:Lb row a b x=R:=by rw[<-I];unfold Lb;simp only[G]
 rw[utok,if_pos H,E]
def TkI (row:List Bool)(ks:List Nat)(F:Nat)(x:US):Prop:=(x.e=0->row.length<x.p+F)/\x.p<=row.length/\x.out.length<=3000/\x.ks=ks
def Fc:Code->List Code
 | .loop c=>c::Fc c
 | .seq a b=>Fc a++Fc b
 | .block _ c=>Fc c
 | .scope c=>Fc c
 | .cond _ a b=>Fc a++Fc b
 |_=> []
noncomputable def Z3e:Code:=((Tryz.f61.body.map Fc).getD []).getD 1 .skip
theorem TM {hg k4 dj d9 na ki lr ey d6 jr gz f5 dr f6 m5 lg e1 ky i0 ep mj mz mm g5 j7 jl nf mx dt gg cz dh l5 ie j5 fp il bd ek a6 i1 md gu hh c8 hf jm g4 jb hu jv kx jg d5 fw eo lu ka gw ll im lq dy g9 jf kt ji kg i6 km e6 h3 jo ia lf k6 ct cy dv e9 iq em lh kj ij mw gd k0 h4 j4 gx fg i4 l6 dm et l9 cw h5 lz ng jq j9 m6 ds fo dd i5 jz da gn fu nc m9 k7 k9 fx i3 e7 j8:Value}{u14 u15 u16 u17 u18 u118 u119 u120 u121 u122 u123 u124 u125 u126 u127 u128 u129 u130 u131 u132 u133 u134 u135 u136 u137 u138 u139 u140 u141 u142 u143 u144 u145 u146 u147 u148 u149 u150 u151 u152 u153 u154 u155 u156 u157 u158 u159 u160 u161 u162 u163 u164 u165 u166 u167 u168 u169 u170 u171 u172 u173 u174 u175 u176 u177 u178 u179 u180 u181 u182 u183 u184 u185 u186 u187 u188 u189 u190 u191 u192 u193 u194 u195 u196 u197 u198 u199 u200 u201 u202 u203 u204 u205 u206 u207 u208 u209 u210 u211 u212 u213 u214 u215 u216 u217 u218 u219 u220 u221 u222 u223 u224 u225 u226 u227 u228 u229 u230 u231 u232 u233 u234:Value}{No:Nat->Prop}{B b E N M g1 de g2 iw cp cm kk F hs4 hs5:Nat}{bs ks:List Nat}{LA LB:List Int}{V x y1:US}{w6 wr:World}{oi oc:Act->World->Prop}{R:Ending->World->Prop}
 (r6:bs.length=E) (sx:E<=25000) (o5:N<=g1) (oy:N<=g2) (sj:g1<hs4) (sf:g2<hs4) (s1:hs4<=hs5) (s0:hs5<=M) (rr:w6.heap.size=M) (rs:b<N) (p0:Hid (Prs w6 g1 samesL)) (qk:Hid (Prs w6 g2 farsL))
 (p6:Hid (∀W:World,w6.heap.size<=W.heap.size->∀g,W.heap.size<=g->¬N2 No N M g))
 (nx:Hid (Calls Tryz.prog 98 #[.pointer (some ⟨b,0,none⟩),.map (some cp)] wr fun e w'=>e=.returned (.int .i64 (kk:Int))/\UUp (N2 No N M) B wr b (rowB bs E) y1 w'))
 (qo:Hid (∀(W:World) (x:US),UUp (N2 No N M) B w6 b (rowB bs E) x W->x.p<=(rowB bs E).length->Calls Tryz.prog 98 #[.pointer (some ⟨b,0,none⟩),.map (some cm)] W fun e w'=>e=.returned (.int .i64 ((uplace LB (rowB bs E) x).1:Int))/\UUp (N2 No N M) B W b (rowB bs E) (uplace LB (rowB bs E) x).2 w'))
 (bz:x.e=0) (oq:Hid (TkI (rowB bs E) ks (F+1) x)) (nk:Hid (utok (rowB bs E) LA LB (F+1) x=V)) (bj:uplace LA (rowB bs E) x=(kk,y1)) (nw:y1.e=0) (sb:257<=kk) (sk:kk<=285) (o0:Hid (UUp (N2 No N M) B w6 b (rowB bs E) x wr))
 (pr:∀(jy bh bi aw av ht js dz li gy gj l8 d7 j1 gv h8 j0 i9 ed ko gi e8 h1 dl k3 dx dc hq eh fy fq mc l7 ee j3 ix db df iy nb l0 hw jc eg ei c9 fj ii m3 ic en je m4 f8 ew kh mg j6 bg jj dw fm g7 f9 mp jk lm mq fi g0 hj ip iu l3 e4 lj gh h0 g8 f7 c5 k5 f3 mh l4 ly gq fh h9 fk eb e0 bk mo fe hs ku ej d8 hp ig m7 m8 dp h7 ik lk ib lv kc kq f4 cv ff ja mi di eu i7 jp ha hx:Value) (w':World) (U:US),Hid (utok (rowB bs E) LA LB F U=V)->Hid (TkI (rowB bs E) ks F U)->Hid (x.p+1<=U.p)->Hid (UUp (N2 No N M) B w6 b (rowB bs E) U w')->oi ⟨#[.pointer (some ⟨b,0,none⟩),hg,k4,dj,d9,na,ki,lr,ey,d6,.slice (some ⟨g1,0,none⟩) 29 de,.slice (some ⟨g2,0,none⟩) 30 iw,.map (some cp),.map (some cm),jy,bh,bi,aw,av,jr,gz,f5,dr,f6,m5,lg,e1,ky,i0,ep,mj,mz,mm,g5,j7,jl,nf,mx,dt,gg,cz,dh,l5,ie,j5,fp,il,bd,ek,a6,i1,md,gu,hh,c8,hf,jm,g4,jb,hu,jv,kx,jg,d5,fw,eo,lu,ka,gw,ll,im,lq,dy,g9,jf,kt,ji,kg,i6,km,e6,h3,jo,ia,lf,k6,ct,cy,dv,e9,iq,em,lh,kj,ij,mw,gd,k0,h4,j4,gx,fg,i4,l6,dm,et,l9,cw,h5,lz,ng,jq,j9,m6,ds,fo,dd,i5,ht,js,dz,li,gy,gj,l8,d7,j1,gv,h8,j0,i9,ed,ko,gi,e8,h1,dl,k3,dx,dc,hq,eh,fy,fq,mc,l7,ee,j3,ix,db,df,iy,nb,l0,hw,jc,eg,ei,c9,fj,ii,m3,ic,en,je,m4,f8,ew,kh,mg,j6,bg,jj,dw,fm,g7,f9,mp,jk,lm,mq,fi,g0,hj,ip,iu,l3,e4,lj,gh,h0,g8,f7,c5,k5,f3,mh,l4,ly,gq,fh,h9,fk,eb,e0,bk,mo,fe,hs,ku,ej,d8,hp,ig,m7,m8,dp,h7,ik,lk,ib,lv,kc,kq,f4,cv,ff,ja,mi,di,eu,i7,jp,ha,hx,jz,da,gn,fu,nc,m9,k7,k9,fx,i3,e7,j8],[]⟩ w')
 (pn:∀(jy bh bi aw av ht js dz li gy gj l8 d7 j1 gv h8 j0 i9 ed ko gi e8 h1 dl k3 dx dc hq eh fy fq mc l7 ee j3 ix db df iy nb l0 hw jc eg ei c9 fj ii m3 ic en je m4 f8 ew kh mg j6 bg jj dw fm g7 f9 mp jk lm mq fi g0 hj ip iu l3 e4 lj gh h0 g8 f7 c5 k5 f3 mh l4 ly gq fh h9 fk eb e0 bk mo fe hs ku ej d8 hp ig m7 m8 dp h7 ik lk ib lv kc kq f4 cv ff ja mi di eu i7 jp ha hx:Value) (w':World) (y:US),y=V->y.ks=ks->UUp (N2 No N M) B w6 b (rowB bs E) y w'->oc ⟨#[.pointer (some ⟨b,0,none⟩),hg,k4,dj,d9,na,ki,lr,ey,d6,.slice (some ⟨g1,0,none⟩) 29 de,.slice (some ⟨g2,0,none⟩) 30 iw,.map (some cp),.map (some cm),jy,bh,bi,aw,av,jr,gz,f5,dr,f6,m5,lg,e1,ky,i0,ep,mj,mz,mm,g5,j7,jl,nf,mx,dt,gg,cz,dh,l5,ie,j5,fp,il,bd,ek,a6,i1,md,gu,hh,c8,hf,jm,g4,jb,hu,jv,kx,jg,d5,fw,eo,lu,ka,gw,ll,im,lq,dy,g9,jf,kt,ji,kg,i6,km,e6,h3,jo,ia,lf,k6,ct,cy,dv,e9,iq,em,lh,kj,ij,mw,gd,k0,h4,j4,gx,fg,i4,l6,dm,et,l9,cw,h5,lz,ng,jq,j9,m6,ds,fo,dd,i5,ht,js,dz,li,gy,gj,l8,d7,j1,gv,h8,j0,i9,ed,ko,gi,e8,h1,dl,k3,dx,dc,hq,eh,fy,fq,mc,l7,ee,j3,ix,db,df,iy,nb,l0,hw,jc,eg,ei,c9,fj,ii,m3,ic,en,je,m4,f8,ew,kh,mg,j6,bg,jj,dw,fm,g7,f9,mp,jk,lm,mq,fi,g0,hj,ip,iu,l3,e4,lj,gh,h0,g8,f7,c5,k5,f3,mh,l4,ly,gq,fh,h9,fk,eb,e0,bk,mo,fe,hs,ku,ej,d8,hp,ig,m7,m8,dp,h7,ik,lk,ib,lv,kc,kq,f4,cv,ff,ja,mi,di,eu,i7,jp,ha,hx,jz,da,gn,fu,nc,m9,k7,k9,fx,i3,e7,j8],[]⟩ w'):
 Code.wp Tryz.prog Z3e (Exit.then oi (Exit.inBlock 3 (Exit.then oc (bodyPost Tryz.prog Tryz.f61 R)))) ⟨#[.pointer (some ⟨b,0,none⟩),hg,k4,dj,d9,na,ki,lr,ey,d6,.slice (some ⟨g1,0,none⟩) 29 de,.slice (some ⟨g2,0,none⟩) 30 iw,.map (some cp),.map (some cm),u14,u15,u16,u17,u18,jr,gz,f5,dr,f6,m5,lg,e1,ky,i0,ep,mj,mz,mm,g5,j7,jl,nf,mx,dt,gg,cz,dh,l5,ie,j5,fp,il,bd,ek,a6,i1,md,gu,hh,c8,hf,jm,g4,jb,hu,jv,kx,jg,d5,fw,eo,lu,ka,gw,ll,im,lq,dy,g9,jf,kt,ji,kg,i6,km,e6,h3,jo,ia,lf,k6,ct,cy,dv,e9,iq,em,lh,kj,ij,mw,gd,k0,h4,j4,gx,fg,i4,l6,dm,et,l9,cw,h5,lz,ng,jq,j9,m6,ds,fo,dd,i5,u118,u119,u120,u121,u122,u123,u124,u125,u126,u127,u128,u129,u130,u131,u132,u133,u134,u135,u136,u137,u138,u139,u140,u141,u142,u143,u144,u145,u146,u147,u148,u149,u150,u151,u152,u153,u154,u155,u156,u157,u158,u159,u160,u161,u162,u163,u164,u165,u166,u167,u168,u169,u170,u171,u172,u173,u174,u175,u176,u177,u178,u179,u180,u181,u182,u183,u184,u185,u186,u187,u188,u189,u190,u191,u192,u193,u194,u195,u196,u197,u198,u199,u200,u201,u202,u203,u204,u205,u206,u207,u208,u209,u210,u211,u212,u213,u214,u215,u216,u217,u218,u219,u220,u221,u222,u223,u224,u225,u226,u227,u228,u229,u230,u231,u232,u233,u234,jz,da,gn,fu,nc,m9,k7,k9,fx,i3,e7,j8],[]⟩ wr:=by
 have e5:=Ab pr;have qd:=Ab pn;clear pr pn;have s9:=Af bs E;have nu:(rowB bs E).length<=200000:=by omega
 obtain⟨_,_,rc,_⟩:=(Aa o0).is.cell;rw[bz]at rc;obtain⟨oe,qg,q0,qc⟩:=Aa oq;have ny:=oe bz;have o1:=Wp LA (rowB bs E) x qg;rw[bj]at o1;obtain⟨h6,c6,pz,hk⟩:=o1;simp only at h6 c6 pz hk
 have co:=Aa nk;have q7:y1.out.length<=3000:=by rw[h6];exact q0
 have p5:y1.ks=ks:=c6.trans qc;have sc:=(Cn bj nw).1;have sn:¬kk=256:=by omega
 have tc:((kk:Int)==256)=false:=by rw[beq_eq_false_iff_ne];omega
 have jw:¬(y1.e≠0\/kk=256):=by omega
 have oh:¬kk<256:=by omega
 have rp:¬(kk:Int)<256:=by omega
 have po:¬285<kk:=by omega
 conv=>arg 2;whnf
 have su:(kk:Int)<286:=by omega
 have rl:¬(285:Int)<(kk:Int):=by omega
 obtain⟨q,pj⟩:=exq (kk-257);obtain⟨a8,ck⟩:=exq ((samesL.getD q (0,0)).2);obtain⟨ac,ce⟩:=exq ((samesL.getD q (0,0)).1);have nl:=S9 q (by omega);rw[ck,ce]at nl;obtain⟨qw,rn⟩:=nl;obtain⟨n0,y2,e2⟩:∃n0 y2,uget (rowB bs E) a8 y1=(n0,y2):=⟨_,_,rfl⟩
 obtain⟨f,O,e3⟩:∃f O,uplace LB (rowB bs E) y2=(f,O):=⟨_,_,rfl⟩
 obtain⟨G,b3⟩:=exq ((if O.e=0/\29<f then Am 8 O else O));have b4:=Fu (rowB bs E) a8 y1;have bw:=Gn (rowB bs E) a8 y1 hk;have o2:=Zo (rowB bs E) a8 y1;rw[e2]at b4 bw o2;have a7:=Wp LB (rowB bs E) y2 bw;rw[e3]at a7
 have bo:G.out=O.out/\G.ks=O.ks/\G.p=O.p:=by
  rw[<-b3]
  split
  . exact Om 8 O
  . exact⟨rfl,rfl,rfl⟩
 simp only at b4 bw o2 a7
 have ry:n0<32:=VG b4 (VU (VO (by decide) qw) (by decide))
 have lw:EJ (rowB bs E) LB kk y1=if G.e≠0 then (false,G)else (true,Z28 (rowB bs E) (ac+n0) f G):=by
  unfold EJ;rw[pj,ck,ce];simp only[e2,e3,b3]
 have px:=co;have pu:G.out.length<=3000:=by rw[bo.1,a7.1,o2.1];exact q7
 have o7:G.ks=ks:=bo.2.1.trans (a7.2.1.trans (o2.2.1.trans p5));have pd:G.p<=(rowB bs E).length:=by rw[bo.2.2];exact a7.2.2.2
 have si:x.p+1<=G.p:=by rw[bo.2.2];omega
 have a2:Hid (G.e≠0->G=V):=Ab (fun T=>by rw[<-co,Nb bz bj (false,G) (by rw[if_neg jw,if_neg oh,if_neg po,lw,if_pos T])];rfl);have ay:Hid (¬G.e≠0->utok (rowB bs E) LA LB F (Z28 (rowB bs E) (ac+n0) f G)=V):=Ab (fun T=>by rw[<-co,Nb bz bj (true,Z28 (rowB bs E) (ac+n0) f G) (by rw[if_neg jw,if_neg oh,if_neg po,lw,if_neg T])];rfl);have r7:(257:Int)<=(kk:Int):=by omega
 have s5:(kk:Int)-257<29:=by omega
 have qn:IntKind.i64.wrap ((kk:Int)-257)=(kk:Int)-257:=by simp[IntKind.wrap,IntKind.signed,IntKind.bits];omega
 have qi:((kk:Int)-257).toNat=q:=by omega
 have qe:IntKind.i64.wrap ((ac:Int)+(n0:Int))=(ac:Int)+(n0:Int):=by simp[IntKind.wrap,IntKind.signed,IntKind.bits];omega
 have qs:=Ab ck;have p9:=Ab ce;have ai:=Ab b3;have pw:=Ab e3;have qu:=Ab e2;have qb:q<29:=by omega
 have r8:=ny;clear co px nk oq oe ny jw bj lw c6 h6 o2 a7 bo ck ce b3 e3 e2 b4 pj;go_wp2_with fail
 refine(Aa nx).mono ?_;rintro e pv ⟨rfl,nq⟩;have ax:=Ab ((Aa o0).trans nq);clear nq nx;obtain⟨_,_,bd,_⟩:=(Aa ax).is.cell;rw[nw]at bd;have o4:=(Aa ax).prs (Aa p0) (by omega) o5 (by omega) q qb;rw[Aa p9,Aa qs]at o4;obtain⟨ob,nr⟩:=o4;have qv:g1<pv.heap.size:=by have:=(Aa ax).below.size;omega
 have od:=Ab (fun i=>Hm (N2 No N M) B b a8 _ y1 (pv.drewN i) ((UUp.refl (Aa ax).is).drewN i).is (by omega) nu hk n0 y2 (Aa qu));have a3:=Ab (fun i=>(UUp.refl (Aa ax).is).drewN i);have py:Hid (N2 No N M g1):=Ab (.inr ⟨o5,by omega⟩);go_upto_region 32 with fail
 go_cut [15] (fun bh wc=>bh=.int .i64 ((ac:Int)+(n0:Int))/\Hid (UUp (N2 No N M) B w6 b (rowB bs E) y2 wc))
 case first=>
  go_wp2;go_region_held3 (fun w'=>w'.cell? ⟨g1,q*2,none⟩=some (.int .i64 (ac:Int))/\w'.cell? ⟨g1,q*2+1,none⟩=some (.int .i64 (a8:Int))) (first|assumption|exact⟨by assumption,by assumption⟩) (first|(go_at_call 91;refine(Aa od _).mono ?_;rintro e oa ⟨rfl,cu⟩;have ft:=((Aa a3 _).trans cu).kp g1 qv (Aa py);have rx:=(World.cell?_of_block (a:=⟨g1,q*2,none⟩) ft).trans ob;have rm:=(World.cell?_of_block (a:=⟨g1,q*2+1,none⟩) ft).trans nr;have bq:=Ab ((Aa ax).trans ((Aa a3 _).trans cu));clear cu ft))
  all_goals try go_wp2
  all_goals
   go_meet
   exact⟨rfl,bq⟩
 case rest=>
 rename World=>oa
 obtain⟨rfl,bq⟩:=hcut;have ml:=Ab (Aa qo oa y2 (Aa bq) bw);rw[Aa pw]at ml;clear od a3 ob nr ax bd;go_wp2_with fail
 refine(Aa ml).mono ?_;rintro e dn ⟨rfl,ot⟩;have bb:=Ab ((Aa bq).trans ot);clear ot ml bq;obtain⟨_,_,a6,_⟩:=(Aa bb).is.cell;obtain⟨b9,n3⟩:=exq (((O.e==0)&&decide (29<f)));have ag:=Ab n3;clear n3;go_upto_region 34 with fail
 go_cut [171] (fun bg wc=>bg=.bool b9/\wc=dn)
 case first=>
  by_cases au:O.e=0
  . rw[au]at a6
    have ap:decide ((29:Int)<(f:Int))=b9:=by
     have:=Aa ag
     rw[au]at this;rw[<-this];show _=decide _
     rw[decide_eq_decide];omega
    clear ag ai a2 ay;go_wp2;go_meet
    exact⟨by first|rfl|rw[ap],rfl⟩
  . have cg:(O.e==0)=false:=by rw[beq_eq_false_iff_ne];exact au
    have ap:b9=false:=by rw[<-Aa ag,cg];rfl
    subst ap;clear ag ai a2 ay;generalize O.e=k8 at*;go_wp2;go_meet
    exact⟨rfl,rfl⟩
 case rest=>
 obtain⟨rfl,bf⟩:=hcut;obtain rfl:dn=wc:=bf.symm;clear bf;go_upto_if 171 with (fail)
 go_cut [16] (fun bi wc=>bi=.int .i64 (f:Int)/\Hid (UUp (N2 No N M) B w6 b (rowB bs E) G wc))
 case first=>
  cases b9 with
  |true=>
   have I:=Aa ag;rw[ZM,beq_iff_eq,decide_eq_true_iff]at I;have ju:=Ab (Dn (N2 No N M) B b (rowB bs E) O 8 dn (Aa bb).is);have a1:Hid (Am 8 O=G):=Ab (by rw[<-Aa ai,if_pos I]);clear I ag ai a2 ay;go_wp2_with fail
   refine(Aa ju).mono ?_;rintro e ho ⟨rfl,pq⟩;have Z:=Ab ((Aa bb).trans pq);rw[Aa a1]at Z;clear pq;go_wp2;go_meet
   exact⟨rfl,Z⟩
  |false=>
   have I:¬(O.e=0/\29<f):=fun I=>by
    have:=Aa ag
    rw[I.1,decide_eq_true I.2]at this
    cases this
   have a1:Hid (O=G):=Ab (by rw[<-Aa ai,if_neg I]);rw[Aa a1]at bb;clear I ag ai a2 ay;go_wp2;go_meet
   exact⟨rfl,bb⟩
 case rest=>
 rename World=>ho
 obtain⟨rfl,Z⟩:=hcut
 have iz:Hid (G.e=0->f<30):=Ab (fun T=>by
  have ba:=Aa ai
  by_cases ao:O.e=0/\29<f
  . rw[if_pos ao]at ba;rw[<-ba]at T;exact absurd T (Bm (by decide))
  . rw[if_neg ao]at ba;rw[<-ba]at T;omega)
 clear bb a6 ag ai;obtain⟨_,_,pf,_⟩:=(Aa Z).is.cell
 by_cases T:G.e≠0
 . have rq:(G.e !=0)=true:=by simp only[bne_iff_ne,ne_eq];exact T
   have mn:=Ab (And.intro (Aa a2 T) (And.intro o7 (Aa Z)));clear T a2 ay iz;generalize G.e=k8 at*;go_wp2;exact Aa qd _ _ _ _ _ _ _ _ _ _ _ _ _ _ _ _ _ _ _ _ _ _ _ _ _ _ _ _ _ _ _ _ _ _ _ _ _ _ _ _ _ _ _ _ _ _ _ _ _ _ _ _ _ _ _ _ _ _ _ _ _ _ _ _ _ _ _ _ _ _ _ _ _ _ _ _ _ _ _ _ _ _ _ _ _ _ _ _ _ _ _ _ _ _ _ _ _ _ _ _ _ _ _ _ _ _ _ _ _ _ _ _ _ _ _ _ _ _ _ _ _ _ _ _ (Aa mn).1 (Aa mn).2.1 (Aa mn).2.2
 have jh:=Aa ay T;have nj:G.e=0:=by omega
 have om:=Aa iz nj;rw[nj]at pf;have oo:=IB f om;obtain⟨fb,cj⟩:=exq ((farsL.getD f (0,0)).2);obtain⟨f0,bv⟩:=exq ((farsL.getD f (0,0)).1);rw[cj,bv]at oo;obtain⟨q8,sy,ta⟩:=oo;obtain⟨d0,H,b5⟩:∃d0 H,uget (rowB bs E) fb G=(d0,H):=⟨_,_,rfl⟩
 obtain⟨d,ox⟩:=exq (f0+d0);obtain⟨nn,np⟩:=exq (ac+n0);obtain⟨Y,ak⟩:=exq ((if H.e=0/\H.out.length<d then Am 9 H else H));obtain⟨U,ci⟩:=exq (ucopy d nn Y)
 have ow:Z28 (rowB bs E) (ac+n0) f G=U:=by
  unfold Z28;rw[cj,bv,np];simp only[b5,ox,ak,ci]
 rw[ow]at jh;have cn:=Fu (rowB bs E) fb G;have hz:=Gn (rowB bs E) fb G pd;have a4:=Zo (rowB bs E) fb G;rw[b5]at cn hz a4
 have bn:Y.out=H.out/\Y.ks=H.ks/\Y.p=H.p:=by
  rw[<-ak]
  split
  . exact Om 9 H
  . exact⟨rfl,rfl,rfl⟩
 simp only at cn hz a4
 have ru:d0<8192:=VG cn (VU (VO (by decide) q8) (by decide));have bc:=KM d nn Y;rw[ci]at bc;have nz:Y.out.length<=3000:=by rw[bn.1,a4.1];exact pu
 have r4:H.out.length<=3000:=by rw[a4.1];exact pu
 have rf:U.p<=(rowB bs E).length:=by rw[bc.2.2,bn.2.2];exact hz
 have du:x.p+1<=U.p:=by rw[bc.2.2,bn.2.2];omega
 have nv:Y.e=0->d<=Y.out.length:=fun ao=>by
  by_cases oj:H.e=0/\H.out.length<d
  . rw[if_pos oj]at ak;rw[<-ak]at ao;exact absurd ao (Bm (by decide))
  . rw[if_neg oj]at ak;rw[<-ak]at ao ⊢;omega
 have h2:=Ab jh;have dq:Hid (TkI (rowB bs E) ks F U):=Ab ⟨fun _=>by omega,rf,bc.1 nz,bc.2.1.trans (bn.2.1.trans (a4.2.1.trans o7))⟩;have qm:=Ab nv;have pp:=Ab b5;have az:=Ab ak;have qj:=Ab ci;have q5:=Ab cj;have re:=Ab bv;have sh:1<=d:=by omega
 have s7:d<=40000:=by omega
 have r5:nn<=300:=by omega
 have p8:(f0:Int)+(d0:Int)=(d:Int):=by omega
 have qf:(ac:Int)+(n0:Int)=(nn:Int):=by omega
 have s8:IntKind.i64.wrap ((f0:Int)+(d0:Int))=(f0:Int)+(d0:Int):=by simp[IntKind.wrap,IntKind.signed,IntKind.bits];omega
 have q3:IntKind.i64.wrap (d:Int)=(d:Int):=by simp[IntKind.wrap,IntKind.signed,IntKind.bits];omega
 clear ow jh a4 bn bc nv b5 ak ci cj bv ox np T a2 ay iz cn qn qe qi;have ou:=(Aa Z).prs (Aa qk) (by omega) oy (by omega) f om;rw[Aa re,Aa q5]at ou;obtain⟨pi,o9⟩:=ou;have qq:g2<ho.heap.size:=by have:=(Aa Z).below.size;omega
 have s2:(f:Int)<30:=by omega
 have nt:=Ab (fun i=>Hm (N2 No N M) B b fb _ G (ho.drewN i) ((UUp.refl (Aa Z).is).drewN i).is (by omega) nu pd d0 H (Aa pp));have a3:=Ab (fun i=>(UUp.refl (Aa Z).is).drewN i);have qy:Hid (N2 No N M g2):=Ab (.inr ⟨oy,by omega⟩);rw[qf];go_upto_region 37 with fail
 go_cut [17] (fun aw wc=>aw=.int .i64 (d:Int)/\Hid (UUp (N2 No N M) B w6 b (rowB bs E) H wc))
 case first=>
  go_wp2;go_region_held3 (fun w'=>w'.cell? ⟨g2,f*2,none⟩=some (.int .i64 (f0:Int))/\w'.cell? ⟨g2,f*2+1,none⟩=some (.int .i64 (fb:Int))) (first|assumption|exact⟨by assumption,by assumption⟩) (first|(go_at_call 91;refine(Aa nt _).mono ?_;rintro e b7 ⟨rfl,kz⟩;have mr:=((Aa a3 _).trans kz).kp g2 qq (Aa qy);have r3:=(World.cell?_of_block (a:=⟨g2,f*2,none⟩) mr).trans pi;have sr:=(World.cell?_of_block (a:=⟨g2,f*2+1,none⟩) mr).trans o9;have af:=Ab ((Aa Z).trans ((Aa a3 _).trans kz));clear kz mr))
  all_goals try go_wp2
  all_goals
   go_meet
   exact⟨by first|rfl|rw[q3]|rw[p8],af⟩
 case rest=>
 rename World=>b7
 obtain⟨rfl,af⟩:=hcut;clear nt a3 pi o9 Z pf;obtain⟨_,_,o6,_⟩:=(Aa af).is.cell;obtain⟨s4,s6,q4,_,_,c7,_⟩:=(Aa af).is.rows;obtain⟨b0,hv⟩:=exq (H.out.length);rw[hv]at c7;obtain⟨sd,sa,rfl⟩:=An c7;obtain⟨bm,o3⟩:=exq (((H.e==0)&&decide (b0<d)));have ae:=Ab o3;have ma:=Ab hv;clear o3 c7 hv;go_upto_region 38 with fail
 go_cut [205] (fun bk wc=>bk=.bool bm/\wc=b7)
 case first=>
  by_cases au:H.e=0
  . rw[au]at o6
    have ap:decide ((b0:Int)<(d:Int))=bm:=by
     have:=Aa ae
     rw[au]at this;rw[<-this];show _=decide _
     rw[decide_eq_decide];omega
    have qx:decide (b0<d)=bm:=by rw[<-ap,decide_eq_decide];omega
    clear ae az;go_wp2;go_meet
    exact⟨by first|rfl|rw[ap]|rw[qx],rfl⟩
  . have cg:(H.e==0)=false:=by rw[beq_eq_false_iff_ne];exact au
    have ap:bm=false:=by rw[<-Aa ae,cg];rfl
    subst ap;clear ae az;generalize H.e=k8 at*;go_wp2;go_meet
    exact⟨rfl,rfl⟩
 case rest=>
 obtain⟨rfl,bf⟩:=hcut;obtain rfl:b7=wc:=bf.symm;clear bf;go_upto_if 205 with (fail)
 go_cut [17] (fun aw wc=>aw=.int .i64 (d:Int)/\Hid (UUp (N2 No N M) B w6 b (rowB bs E) Y wc))
 case first=>
  cases bm with
  |true=>
   have I:=Aa ae;rw[ZM,beq_iff_eq,decide_eq_true_iff]at I;have ju:=Ab (Dn (N2 No N M) B b (rowB bs E) H 9 b7 (Aa af).is);have a1:Hid (Am 9 H=Y):=Ab (by rw[<-Aa az,Aa ma,if_pos I]);clear I ae az;go_wp2_with fail
   refine(Aa ju).mono ?_;rintro e qh ⟨rfl,og⟩;have bu:=Ab ((Aa af).trans og);rw[Aa a1]at bu;clear og;go_wp2;go_meet
   exact⟨rfl,bu⟩
  |false=>
   have I:¬(H.e=0/\b0<d):=fun I=>by
    have:=Aa ae
    rw[I.1,decide_eq_true I.2]at this
    cases this
   have a1:Hid (H=Y):=Ab (by rw[<-Aa az,Aa ma,if_neg I]);rw[Aa a1]at af;clear I ae az;go_wp2;go_meet
   exact⟨rfl,af⟩
 case rest=>
 rename World=>qh
 obtain⟨rfl,bu⟩:=hcut;clear af o6 q4 ae az pp ma;go_wp2;go_loopw [18] (fun av wr=>∃(j:Nat) (z:US),j<=nn/\av=.int .i64 (j:Int)/\Hid (ucopy d (nn-j) z=U)/\Hid (z.out.length<=3000)/\Hid (z.e=0->d<=z.out.length)/\Hid (UUp (N2 No N M) B w6 b (rowB bs E) z wr)) (fun av _=>nn-(intOf av).toNat)
 case atStart=>exact⟨0,Y,VH _,rfl,qj,Ab nz,qm,bu⟩
 case round=>
  obtain⟨j,z,rj,rfl,a5,nh,b8,ah⟩:=hrel;obtain⟨_,_,qp,_⟩:=(Aa ah).is.cell
  by_cases a9:z.e=0
  . rw[a9]at qp
    by_cases q2:j<nn
    . obtain⟨sq,tb,ri,_,_,cd,_⟩:=(Aa ah).is.rows;obtain⟨ar,cq⟩:=exq (z.out.length);have p1:=Aa b8 a9;have qa:=Aa nh;rw[cq]at cd p1 qa;obtain⟨qt,sg,rfl,ss,s3⟩:=Ba cd (by omega);obtain⟨r,hr⟩:=exq (ar-d);obtain⟨aj,jt⟩:=exq (z.out.getD r 0)
      have cx:wr.cell? ⟨qt,r,none⟩=some (.int .u8 (aj:Int)):=by
       rw[cd.cellAt r (by omega),<-jt];have:r<z.out.length:=by omega
       simp[u8s,List.getD,this]
      have pg:ucopy d (nn-(j+1)) (Fd aj z)=U:=by
       have al:=Aa a5;rw[show nn-j=(nn-(j+1))+1 by omega,ucopy,if_pos a9,cq,hr,jt]at al;exact al
      have q9:=Ab pg;have rh:=Ab (BA aj z)
      have p7:Hid ((Fd aj z).e=0->d<=(Fd aj z).out.length):=Ab (fun ba=>by
       obtain⟨_,_,ao⟩:=Ud ba;rw[ao];show d<=(z.out++ [aj]).length
       rw[VE,cq];omega)
      have ql:=Ab (fun i=>S8 (N2 No N M) B b aj _ z (wr.drewN i) ((UUp.refl (Aa ah).is).drewN i).is (Aa nh) (Aa p6 (wr.drewN i) (Aa ah).below.size));have q6:=Ab (fun i=>(UUp.refl (Aa ah).is).drewN i);have ir:(j:Int)<(nn:Int):=by omega
      have se:(d:Int)<=(ar:Int):=by omega
      have rz:(0:Int)<(d:Int):=by omega
      have r9:(ar:Int)-(d:Int)<(ar:Int):=by omega
      have rv:IntKind.i64.wrap ((ar:Int)-(d:Int))=(ar:Int)-(d:Int):=by simp[IntKind.wrap,IntKind.signed,IntKind.bits];omega
      have sv:((ar:Int)-(d:Int)).toNat=r:=by omega
      clear cd pg jt cq a5 b8;go_wp2;go_region_with (go_at_call 93;refine(Aa ql _).mono ?_;rintro e rk ⟨rfl,oz⟩;have qz:=Ab ((Aa ah).trans ((Aa q6 _).trans oz));clear oz)
      all_goals try go_wp2
      all_goals
       go_roundw
       case rel=>exact⟨j+1,Fd aj z,by omega,by go_num,q9,Ab ((Aa rh).1 (Aa nh)),p7,qz⟩
       case measure=>simp[intOf];omega
    . have q1:j=nn:=by omega
      subst q1
      have aa:Hid (z=U):=Ab (by
       have al:=Aa a5;rw[XW,ucopy]at al;exact al)
      have ir:¬(j:Int)<(j:Int):=by omega
      clear a5 b8;go_wp2;exact Aa e5 _ _ _ _ _ _ _ _ _ _ _ _ _ _ _ _ _ _ _ _ _ _ _ _ _ _ _ _ _ _ _ _ _ _ _ _ _ _ _ _ _ _ _ _ _ _ _ _ _ _ _ _ _ _ _ _ _ _ _ _ _ _ _ _ _ _ _ _ _ _ _ _ _ _ _ _ _ _ _ _ _ _ _ _ _ _ _ _ _ _ _ _ _ _ _ _ _ _ _ _ _ _ _ _ _ _ _ _ _ _ _ _ _ _ _ _ _ _ _ _ _ _ _ z (Ab (by rw[Aa aa];exact Aa h2)) (Ab (by rw[Aa aa];exact Aa dq)) (Ab (by rw[Aa aa];exact du)) ah
  . have aa:Hid (z=U):=Ab (by
     have al:=Aa a5;rw[KN _ _ _ a9]at al;exact al)
    have cg:(z.e==0)=false:=by rw[beq_eq_false_iff_ne];exact a9
    clear a5 b8 a9;generalize z.e=k8 at*
    by_cases q2:j<nn
    . have ir:(j:Int)<(nn:Int):=by omega
      go_wp2;exact Aa e5 _ _ _ _ _ _ _ _ _ _ _ _ _ _ _ _ _ _ _ _ _ _ _ _ _ _ _ _ _ _ _ _ _ _ _ _ _ _ _ _ _ _ _ _ _ _ _ _ _ _ _ _ _ _ _ _ _ _ _ _ _ _ _ _ _ _ _ _ _ _ _ _ _ _ _ _ _ _ _ _ _ _ _ _ _ _ _ _ _ _ _ _ _ _ _ _ _ _ _ _ _ _ _ _ _ _ _ _ _ _ _ _ _ _ _ _ _ _ _ _ _ _ _ z (Ab (by rw[Aa aa];exact Aa h2)) (Ab (by rw[Aa aa];exact Aa dq)) (Ab (by rw[Aa aa];exact du)) ah
    . have ir:¬(j:Int)<(nn:Int):=by omega
      go_wp2;exact Aa e5 _ _ _ _ _ _ _ _ _ _ _ _ _ _ _ _ _ _ _ _ _ _ _ _ _ _ _ _ _ _ _ _ _ _ _ _ _ _ _ _ _ _ _ _ _ _ _ _ _ _ _ _ _ _ _ _ _ _ _ _ _ _ _ _ _ _ _ _ _ _ _ _ _ _ _ _ _ _ _ _ _ _ _ _ _ _ _ _ _ _ _ _ _ _ _ _ _ _ _ _ _ _ _ _ _ _ _ _ _ _ _ _ _ _ _ _ _ _ _ _ _ _ _ z (Ab (by rw[Aa aa];exact Aa h2)) (Ab (by rw[Aa aa];exact Aa dq)) (Ab (by rw[Aa aa];exact du)) ah
end Go.Proofs.YtleocpdblhbimaaGreatDoor
