import Derived.Test.YtleocpdblhbimaaGreatDoorQ48
import Derived.Deep.RegionHeld3
set_option linter.unusedSimpArgs false
set_option linter.unusedVariables false
set_option maxRecDepth 100000
set_option maxHeartbeats 8000000
namespace Go.Proofs.YtleocpdblhbimaaGreatDoor
open Go.RowKit
theorem Zo (row:List Bool)(n:Nat)(u:US):(uget row n u).2.out=u.out/\(uget row n u).2.ks=u.ks/\u.p<=(uget row n u).2.p:=by unfold uget;split;(. split;exact⟨rfl,rfl,VB _⟩;exact⟨rfl,rfl,ZS _ _⟩);exact⟨rfl,rfl,VB _⟩
theorem Om (x:Int)(u:US):(Am x u).out=u.out/\(Am x u).ks=u.ks/\(Am x u).p=u.p:=by unfold Am;split<;>exact⟨rfl,rfl,rfl⟩
theorem BA (c:Nat)(u:US):(u.out.length<=3000->(Fd c u).out.length<=3000)/\(Fd c u).ks=u.ks/\(Fd c u).p=u.p:=by unfold Fd;split;(. split;exact⟨fun h=>h,rfl,rfl⟩;. rename_i E;exact⟨fun h=>by show (u.out++ [c]).length<=3000;rw[VE];simp only[VJ,WE];omega,rfl,rfl⟩);exact⟨fun h=>h,rfl,rfl⟩
theorem Wp (l:List Int)(row:List Bool)(u:US)(E:u.p<=row.length):(uplace l row u).2.out=u.out/\(uplace l row u).2.ks=u.ks/\u.p<=(uplace l row u).2.p/\(uplace l row u).2.p<=row.length:=by unfold uplace;split;exact⟨rfl,rfl,ZS _ _,Xp l row u.p E⟩;exact⟨rfl,rfl,VB _,E⟩
theorem EI (row:List Bool)(k:Nat)(u:US)(E:u.e≠0):ustore row k u=u:=by
 cases k with
 |zero=>rfl
 |succ k=>rw[ustore,if_neg E]
theorem RM (l:Nat):((l:Int)==1)=decide (l=1):=by by_cases e:l=1;subst e;rfl;rw[decide_eq_false e,beq_eq_false_iff_ne];omega
def BkA (No:Nat->Prop)(B:Nat)(w:World)(b:Nat)(row:List Bool)(R:Bool×US)(e:Ending)(w':World):Prop:=e=.returned (.bool R.1)/\UUp No B w b row R.2 w'
theorem JH (No:Nat->Prop)(B b E:Nat)(bs:List Nat)(u:US)(w:World)(h:UIs No B w b (rowB bs E) u)(ar:E<=25000)(ak:u.p<=8*E)(l k:Nat)(G F:US)(I:uget (rowB bs E) 1 u=(l,G))(ag:uget (rowB bs E) 2 G=(k,F))(T:F.e≠0):Calls Tryz.prog 61 #[.pointer (some ⟨b,0,none⟩)] w fun e w'=>BkA No B w b (rowB bs E) (true,F) e w':=by have al:=Af bs E;have O:(rowB bs E).length<=200000:=om;have ac:u.p<=(rowB bs E).length:=om;have Y:=Gn _ 1 u ac;rw[I]at Y;have H:=Ab h;have ae:=Ab I;have aa:=Ab ag;clear h I ag;go_enter Tryz.func61,Tryz.ntmps61;go_wp2_with fail;refine(Hm No B b 1 _ u w (Aa H) om O ac l G (Aa ae)).mono ?_;rintro e ah ⟨rfl,af⟩;have M:=Ab af;clear af;go_wp2_with fail;refine(Hm No B b 2 _ G ah (Aa M).is om O Y k F (Aa aa)).mono ?_;rintro e ai ⟨rfl,U⟩;have Z:=Ab ((Aa M).trans U);clear U M;obtain⟨_,_,au,_⟩:=(Aa Z).is.cell;(have ap:(F.e !=0)=true:=by simp only[bne_iff_ne,ne_eq];exact T);have aj:Hid (BkA No B w b (rowB bs E) (true,F) (.returned (.bool true)) ai):=Ab ⟨rfl,Aa Z⟩;clear T H ae aa;generalize F.e=ao at*;go_wp2;go_ret;exact Aa aj
theorem JI (No:Nat->Prop)(B b E:Nat)(bs:List Nat)(u:US)(w:World)(h:UIs No B w b (rowB bs E) u)(az:E<=25000)(aw:u.p<=8*E)(l k:Nat)(G F:US)(M:uget (rowB bs E) 1 u=(l,G))(ai:uget (rowB bs E) 2 G=(k,F))(I:F.e=0)(av:3<=k):Calls Tryz.prog 61 #[.pointer (some ⟨b,0,none⟩)] w fun e w'=>BkA No B w b (rowB bs E) (true,Am 4 F) e w':=by have ax:=Af bs E;have aa:(rowB bs E).length<=200000:=om;have Z:u.p<=(rowB bs E).length:=om;have Y:=Gn _ 1 u Z;rw[M]at Y;have H:=Ab h;have af:=Ab M;have ae:=Ab ai;(have ay:((k:Int)==0)=false:=by rw[beq_eq_false_iff_ne];omega);(have a2:((k:Int)==1)=false:=by rw[beq_eq_false_iff_ne];omega);(have a1:((k:Int)==2)=false:=by rw[beq_eq_false_iff_ne];omega);clear h M ai av;go_enter Tryz.func61,Tryz.ntmps61;go_wp2_with fail;refine(Hm No B b 1 _ u w (Aa H) om aa Z l G (Aa af)).mono ?_;rintro e al ⟨rfl,ah⟩;have O:=Ab ah;clear ah;go_wp2_with fail;refine(Hm No B b 2 _ G al (Aa O).is om aa Y k F (Aa ae)).mono ?_;rintro e ao ⟨rfl,ac⟩;have T:=Ab ((Aa O).trans ac);clear ac O;obtain⟨_,_,ag,_⟩:=(Aa T).is.cell;have au:=Ab (Dn No B b (rowB bs E) F 4 ao (Aa T).is);(have aj:(Am 4 F).e=4:=by unfold Am;rw[if_pos I]);rw[I]at ag;clear I H af ae;go_wp2_with fail;refine(Aa au).mono ?_;rintro e w3 ⟨rfl,U⟩;have ak:=Ab ((Aa T).trans U);clear U;obtain⟨_,_,ar,_⟩:=(Aa ak).is.cell;rw[aj]at ar;have ap:Hid (BkA No B w b (rowB bs E) (true,Am 4 F) (.returned (.bool true)) w3):=Ab ⟨rfl,Aa ak⟩;clear aj ag;go_wp2;go_ret;exact Aa ap
theorem RH (No:Nat->Prop)(B b E:Nat)(bs:List Nat)(u:US)(w:World)(h:UIs No B w b (rowB bs E) u)(ba:E<=25000)(e5:u.p<=8*E)(db:u.out.length<=3000)(bn:u.ks.length<=200000)(bj:∀g,w.heap.size<=g->¬No g)(l:Nat)(ai F:US)(a2:uget (rowB bs E) 1 u=(l,ai))(a1:uget (rowB bs E) 2 ai=(0,F))(b9:F.e=0)(V:US)(bk:ustored (rowB bs E) F=V):Calls Tryz.prog 61 #[.pointer (some ⟨b,0,none⟩)] w fun e w'=>BkA No B w b (rowB bs E) (decide (l=1),ukept 0 V) e w':=by
 obtain⟨dh,hi,dr,ek,dy⟩:=info_parts Bv;have fh:=Af bs E;have af:(rowB bs E).length<=200000:=om;have dq:u.p<=(rowB bs E).length:=om;obtain⟨dl,et,ct,ce,dc⟩:=Bn a1 b9;obtain⟨d8,d9,b5,b0,_⟩:=Bn a2 dc;obtain⟨r1,y1,aa⟩:∃r y,uget (rowB bs E) 16 {F with p:=(F.p+7)/8*8}=(r,y):=⟨_,_,rfl⟩;obtain⟨r2,y2,e2⟩:∃r y,uget (rowB bs E) 16 y1=(r,y):=⟨_,_,rfl⟩;obtain⟨I,e3⟩:=exq ((if y2.e=0/\r1+r2≠65535 then Am 4 y2 else y2));(have T:ustore (rowB bs E) r1 I=V:=by rw[<-bk];unfold ustored;simp only[aa,e2,e3]);(have bi:({F with p:=(F.p+7)/8*8}:US).p<=(rowB bs E).length:=by show (F.p+7)/8*8<=_;omega);have al:=Gn _ 16 _ bi;rw[aa]at al;have a5:=Gn _ 16 y1 al;rw[e2]at a5;have o1:=Zo (rowB bs E) 16 {F with p:=(F.p+7)/8*8};rw[aa]at o1;have o2:=Zo (rowB bs E) 16 y1;rw[e2]at o2;(have ao:I.out=y2.out/\I.ks=y2.ks/\I.p=y2.p:=by rw[<-e3];split;exact Om 4 y2;exact⟨rfl,rfl,rfl⟩);have ap:=Fu (rowB bs E) 16 {F with p:=(F.p+7)/8*8};rw[aa]at ap;have au:=Fu (rowB bs E) 16 y1;rw[e2]at au;simp only at al a5 o1 o2 ap au;(have ds:I.p<=(rowB bs E).length:=by rw[ao.2.2];exact a5);(have dj:I.out.length<=3000:=by rw[ao.1,o2.1,o1.1,ct,b5];exact db);(have c8:I.ks=u.ks:=by rw[ao.2.1,o2.2.1,o1.2.1,ce,b0]);have H:=Ab h;have co:=Ab bj;have b4:=Ab a2;have c5:=Ab a1;have b8:=Ab aa;have cq:=Ab e2;have U:=Ab e3;have ag:=Ab T;have dt:=Ab bn;have fe:r1<65536:=ap;have e4:r2<65536:=au;obtain⟨ax,cz⟩:=exq (((y2.e==0)&&decide (r1+r2≠65535)));have M:=Ab cz;clear h bj a2 a1 bk d8 dl ce b0 ct b5 o1 o2 ao bn aa e2 e3 T ap au cz;go_enter Tryz.func61,Tryz.ntmps61;go_wp2_with fail;refine(Hm No B b 1 _ u w (Aa H) om af dq l ai (Aa b4)).mono ?_;rintro e dp ⟨rfl,bo⟩;have az:=Ab bo;clear bo;go_wp2_with fail;refine(Hm No B b 2 _ ai dp (Aa az).is om af d9 0 F (Aa c5)).mono ?_;rintro e fi ⟨rfl,cy⟩;have av:=Ab ((Aa az).trans cy);clear cy;obtain⟨_,di,c6,f2⟩:=(Aa av).is.cell;rw[b9]at c6;have dx:Hid (((F.p:Int)+7)/8*8=(((F.p+7)/8*8:Nat):Int)):=Ab om;have bf:=Ab ((Aa av).trans ((Aa av).is.setP ((F.p+7)/8*8)));go_wp2_with fail;rw[Aa dx];refine(Hm No B b 16 _ {F with p:=(F.p+7)/8*8} _ (Aa bf).is om af bi r1 y1 (Aa b8)).mono ?_;rintro e dz ⟨rfl,cm⟩;have a3:=Ab ((Aa bf).trans cm);clear cm;go_wp2_with fail;refine(Hm No B b 16 _ y1 dz (Aa a3).is om af al r2 y2 (Aa cq)).mono ?_;rintro e a4 ⟨rfl,cu⟩;have Z:=Ab ((Aa a3).trans cu);clear cu;obtain⟨_,_,bq,_⟩:=(Aa Z).is.cell;clear az av bf a3 di c6 f2 b8 cq b4 c5 H;go_upto_region 9 with fail;go_cut [58] (fun eg wc=>eg=.bool ax/\wc=a4);(case first=>by_cases a6:y2.e=0;(. rw[a6]at bq;(have cp:((r1:Int)+(r2:Int)!=65535)=ax:=by have:=Aa M;rw[a6]at this;rw[<-this];by_cases ei:r1+r2=65535;rw[bne_eq_false_iff_eq.2 om,decide_eq_false om];rfl;rw[bne_iff_ne.2 om,decide_eq_true ei];rfl);clear M U ag;go_wp2;go_meet;exact⟨rfl,rfl⟩);. (have cw:(y2.e==0)=false:=by rw[beq_eq_false_iff_ne];exact a6);(have cp:ax=false:=by rw[<-Aa M,cw];rfl);subst cp;clear M U ag;generalize y2.e=em at*;go_wp2;go_meet;exact⟨rfl,rfl⟩);case rest=>
 obtain⟨rfl,cv⟩:=hcut
 obtain rfl:a4=wc:=cv.symm
 clear cv
 go_upto_if 58 with (fail)
 go_cut [7] (fun eo wc=>eo=.int .i64 (r1:Int)/\Hid (UUp No B w b (rowB bs E) I wc))
 case first=>
  cases ax with
  |true=>
   have O:=Aa M
   rw[ZM,beq_iff_eq,decide_eq_true_iff]at O
   have en:=Ab (Dn No B b (rowB bs E) y2 4 a4 (Aa Z).is)
   have bd:Hid (Am 4 y2=I):=Ab (by rw[<-Aa U,if_pos O])
   clear O M U ag
   go_wp2_with fail
   refine(Aa en).mono ?_
   rintro e w6 ⟨rfl,ac⟩
   have Y:=Ab ((Aa Z).trans ac)
   rw[Aa bd]at Y
   clear ac
   go_wp2
   go_meet
   exact⟨rfl,Y⟩
  |false=>
   have O:¬(y2.e=0/\r1+r2≠65535):=fun O=>by
    have:=Aa M
    rw[O.1,decide_eq_true O.2]at this
    cases this
   have bd:Hid (y2=I):=Ab (by rw[<-Aa U,if_neg O])
   rw[Aa bd]at Z
   clear O M U ag
   go_wp2
   go_meet
   exact⟨rfl,Z⟩
 case rest=>
 rename World=>ff
 obtain⟨rfl,du⟩:=hcut
 clear Z bq M U
 go_upto_block 1 with (fail)
 go_cut [3] (fun dm wc=>dm=.int .i64 (l:Int)/\Hid (UUp No B w b (rowB bs E) V wc)/\Hid (V.ks=u.ks))
 case first=>
  go_wp2_with fail
  go_loopw [9] (fun a7 wr=>∃(i:Nat) (x:US),i<=r1/\a7=.int .i64 (i:Int)/\Hid (ustore (rowB bs E) (r1-i) x=V)/\Hid (x.p<=(rowB bs E).length)/\Hid (x.out.length<=3000)/\Hid (x.ks=u.ks)/\Hid (UUp No B w b (rowB bs E) x wr)) (fun a7 _=>r1-(intOf a7).toNat)
  case atStart=>exact⟨0,I,VH _,rfl,ag,Ab ds,Ab dj,Ab c8,du⟩
  case round=>
   obtain⟨i,x,fm,rfl,T,ci,eb,aw,G⟩:=hrel
   obtain⟨_,_,da,_⟩:=(Aa G).is.cell
   by_cases aj:x.e=0
   . rw[aj]at da
     by_cases df:i<r1
     . obtain⟨r,y,ay⟩:∃r y,uget (rowB bs E) 8 x=(r,y):=⟨_,_,rfl⟩
       have bw:ustore (rowB bs E) (r1-(i+1)) (Fd r y)=V:=by
        have:=Aa T
        rw[show r1-i=(r1-(i+1))+1 by omega,ustore,if_pos aj,ay]at this
        exact this
       have bb:=Gn (rowB bs E) 8 x (Aa ci)
       have ae:=Zo (rowB bs E) 8 x
       have ak:=Fu (rowB bs E) 8 x
       rw[ay]at bb ae ak
       simp only at bb ae ak
       have fo:r<256:=ak
       have bm:y.out.length<=3000:=by rw[ae.1];exact Aa eb
       have a8:=Ab (BA r y)
       have d7:=Ab bw
       have ej:Hid (y.ks=u.ks):=Ab (ae.2.1.trans (Aa aw))
       have bv:(i:Int)<(r1:Int):=om
       clear bw ae ak T
       go_wp2_with fail
       refine(Hm No B b 8 _ x wr (Aa G).is om af (Aa ci) r y ay).mono ?_
       rintro e w6 ⟨rfl,ac⟩
       have Y:=Ab ((Aa G).trans ac)
       clear ac
       go_wp2_with fail
       refine(S8 No B b r _ y w6 (Aa Y).is bm (fun g ep=>Aa co g (by have:=(Aa Y).below.size;omega))).mono ?_
       rintro e ew ⟨rfl,bh⟩
       have c9:=Ab ((Aa Y).trans bh)
       clear bh
       go_wp2
       go_roundw
       case rel=>exact⟨i+1,Fd r y,om,by go_num,d7,Ab (by rw[(Aa a8).2.2];exact bb),Ab ((Aa a8).1 bm),Ab ((Aa a8).2.1.trans (Aa ej)),c9⟩
       case measure=>simp[intOf];omega
     . have hi:i=r1:=om
       subst hi
       have a9:x=V:=by
        have:=Aa T
        rw[XW,ustore]at this
        exact this
       subst a9
       go_wp2
       go_meet
       exact⟨rfl,G,aw⟩
   . have a9:x=V:=by
      have:=Aa T
      rw[EI _ _ _ aj]at this
      exact this
     subst a9
     have cw:(x.e==0)=false:=by rw[beq_eq_false_iff_ne];exact aj
     generalize x.e=em at*
     by_cases df:i<r1
     . have bv:(i:Int)<(r1:Int):=om
       go_wp2
       go_meet
       exact⟨rfl,G,aw⟩
     . have bv:¬(i:Int)<(r1:Int):=om
       go_wp2
       go_meet
       exact⟨rfl,G,aw⟩
 case rest=>rename World=>eh;obtain⟨rfl,G,ed⟩:=hcut;obtain⟨ov,kv,_,ey,cj,cn,ah,b7,ck,ba⟩:=(Aa G).is.rows;obtain⟨cg,ar⟩:=exq (V.ks.length);have cd:=ah;rw[ar]at ah;obtain⟨fg,e8,rfl⟩:=An ah;have e0:=(Aa G).below.size;have fj:=(Aa G).is.lt;(have e9:cg<=200000:=by rw[<-ar,Aa ed];exact Aa dt);have d6:=Ab ah;have de:=Ab cd;have dd:=Ab cn;have dn:=Ab cj;have d5:=Ab b7;have ee:=Ab ck;have dv:=Ab ba;have dw:=Ab ar;have bg:=Ab (Aa G).is;clear ah cd cn cj b7 ck ba ar;go_wp2_with (at_builtin;refine wpList_append_own_at _ rfl (.tmp 82) (.tmp 84) 76 rfl (b+1) 3 dh (.int .i64 0) 1 8 Tryz.underlying76 hi dr ek dy rfl od _ cg (i64s V.ks) rfl ((Aa d6).alloc _) ⟨eh.heap.size,0,none⟩ 1 1 [.int .i64 (0)] rfl rfl (cell_one_new _ _ _) (Bc rfl) ou om oO ?_);intro v' e7 bc bu _ bz;obtain⟨fk,e1,b3⟩:=UIs.keepK (k:=0) (X:=.cells #[.int .i64 (0)] 3) (Aa bg).base (Aa bg).no (Aa dn) (Aa dd) (Aa de) (Aa d5) (Aa ee) (Aa dv) (fun g ep=>Aa co g om) (by rw[Aa dw];exact bc) bu (by simpa using bz);obtain⟨e6,eu,rfl,_,_⟩:=Ba bc om;have c7:=Ab ((Aa G).trans b3);clear bc bu bz b3;go_wp2;go_ret;exact⟨by rw[RM];rfl,Aa c7⟩
theorem KN (d k:Nat)(u:US)(E:u.e≠0):ucopy d k u=u:=by
 cases k with
 |zero=>rfl
 |succ k=>rw[ucopy,if_neg E]
theorem KM (d:Nat):∀(k:Nat) (u:US),(u.out.length<=3000->(ucopy d k u).out.length<=3000)/\(ucopy d k u).ks=u.ks/\(ucopy d k u).p=u.p
 |0,u=>⟨fun h=>h,rfl,rfl⟩
 |k+1,u=>by rw[ucopy];split;have F:=BA (u.out.getD (u.out.length-d) 0) u;have E:=KM d k (Fd (u.out.getD (u.out.length-d) 0) u);exact⟨fun h=>E.1 (F.1 h),E.2.1.trans F.2.1,E.2.2.trans F.2.2⟩;exact⟨fun h=>h,rfl,rfl⟩
theorem SR (row:List Bool)(a b:List Int)(F:Nat)(u:US)(E:u.e≠0):utok row a b F u=u:=by
 cases F with
 |zero=>rfl
 |succ F=>rw[utok,if_neg E]
theorem Nb {row:List Bool}{a b:List Int}{F kk:Nat}{x y1:US}(E:x.e=0)(H:uplace a row x=(kk,y1))(R:Bool×US)(I:(if y1.e≠0\/kk=256 then (false,y1)else if kk<256 then (true,Fd kk y1)else if 285<kk then (false,Am 8 y1)else EJ row b kk y1)=R):utok row a b (F+1) x=if R.1 then utok row a b F R.2 else R.2:=by(have G:Lb row a b x=R:=by rw[<-I];unfold Lb;simp only[H]);rw[utok,if_pos E,G]
def TkI (row:List Bool)(ks:List Nat)(F:Nat)(x:US):Prop:=(x.e=0->row.length<x.p+F)/\x.p<=row.length/\x.out.length<=3000/\x.ks=ks
def Fc:Code->List Code
 | .loop c=>c::Fc c
 | .seq a b=>Fc a++Fc b
 | .block _ c=>Fc c
 | .scope c=>Fc c
 | .cond _ a b=>Fc a++Fc b
 |_=> []
noncomputable def Z3e:Code:=((Tryz.f61.body.map Fc).getD []).getD 1 .skip
theorem TM {i7 m9 k9 lu dn ky na ma fm mn ft gi dc e6 gx hk ju g7 mz d5 ig ie lv g0 dt lq ei h4 kt j8 m5 dx nh ht jy db ji bd fe a4 md k3 kh iq hg gn dr e5 i1 fg j7 km eu ij l3 ha ew lr kq im dq ku g9 e4 l6 en dz h0 jc hj ki e9 hs j3 ir ik h9 l7 mj lz m6 ed ka gz k7 c8 l0 ib jv hz et lm gq kz fp ic k0 fj h3 du j6 j1 cz d7 mm mc jm i9 ix i5 k6 dy gw gg k8 gh ly da f5 g8:Value}{u14 u15 u16 u17 u18 u118 u119 u120 u121 u122 u123 u124 u125 u126 u127 u128 u129 u130 u131 u132 u133 u134 u135 u136 u137 u138 u139 u140 u141 u142 u143 u144 u145 u146 u147 u148 u149 u150 u151 u152 u153 u154 u155 u156 u157 u158 u159 u160 u161 u162 u163 u164 u165 u166 u167 u168 u169 u170 u171 u172 u173 u174 u175 u176 u177 u178 u179 u180 u181 u182 u183 u184 u185 u186 u187 u188 u189 u190 u191 u192 u193 u194 u195 u196 u197 u198 u199 u200 u201 u202 u203 u204 u205 u206 u207 u208 u209 u210 u211 u212 u213 u214 u215 u216 u217 u218 u219 u220 u221 u222 u223 u224 u225 u226 u227 u228 u229 u230 u231 u232 u233 u234:Value}{No:Nat->Prop}{B b E N M g1 f8 g2 mh ck b0 kk F hs4 hs5:Nat}{bs ks:List Nat}{LA LB:List Int}{V x y1:US}{w6 wr:World}{pp nt:Act->World->Prop}{R:Ending->World->Prop} (tb:bs.length=E) (sb:E<=25000) (oq:N<=g1) (oj:N<=g2) (rn:g1<hs4) (sr:g2<hs4) (s5:hs4<=hs5) (rx:hs5<=M) (sh:w6.heap.size=M) (r9:b<N) (qh:Hid (Prs w6 g1 samesL)) (q7:Hid (Prs w6 g2 farsL)) (rc:Hid (∀W:World,w6.heap.size<=W.heap.size->∀g,W.heap.size<=g->¬N2 No N M g)) (pn:Hid (Calls Tryz.prog 98 #[.pointer (some ⟨b,0,none⟩),.map (some ck)] wr fun e w'=>e=.returned (.int .i64 (kk:Int))/\UUp (N2 No N M) B wr b (rowB bs E) y1 w')) (qz:Hid (∀(W:World) (x:US),UUp (N2 No N M) B w6 b (rowB bs E) x W->x.p<=(rowB bs E).length->Calls Tryz.prog 98 #[.pointer (some ⟨b,0,none⟩),.map (some b0)] W fun e w'=>e=.returned (.int .i64 ((uplace LB (rowB bs E) x).1:Int))/\UUp (N2 No N M) B W b (rowB bs E) (uplace LB (rowB bs E) x).2 w')) (b5:x.e=0) (nz:Hid (TkI (rowB bs E) ks (F+1) x)) (nw:Hid (utok (rowB bs E) LA LB (F+1) x=V)) (bn:uplace LA (rowB bs E) x=(kk,y1)) (pv:y1.e=0) (sf:257<=kk) (rq:kk<=285) (oe:Hid (UUp (N2 No N M) B w6 b (rowB bs E) x wr)) (nr:∀(kx bj bf ax aw dl i0 l8 fu dp mr g4 dv d8 cw eo ee fk d9 jf jj d6 h7 gy e0 ey ii e8 df g5 dm dh cy ek ff m4 hv je dj ej j4 h8 jr jg lw jh ll li f7 il cu l9 mw c5 hw gj fi f9 bo j9 c7 f3 nb i4 jt fq hf iu de hh dw c6 cv mg ip fo h6 em fx f6 gd kj f4 fw di hu js mq jk i6 lf jp bi ia j0 ho e1 mo hx k4 l4 jo jw eg h2 lk eh lg nf kc nc gu lj iw h5 ko mi l5 c9 lh ep jq:Value) (w':World) (U:US),Hid (utok (rowB bs E) LA LB F U=V)->Hid (TkI (rowB bs E) ks F U)->Hid (x.p+1<=U.p)->Hid (UUp (N2 No N M) B w6 b (rowB bs E) U w')->pp ⟨#[.pointer (some ⟨b,0,none⟩),i7,m9,k9,lu,dn,ky,na,ma,fm,.slice (some ⟨g1,0,none⟩) 29 f8,.slice (some ⟨g2,0,none⟩) 30 mh,.map (some ck),.map (some b0),kx,bj,bf,ax,aw,mn,ft,gi,dc,e6,gx,hk,ju,g7,mz,d5,ig,ie,lv,g0,dt,lq,ei,h4,kt,j8,m5,dx,nh,ht,jy,db,ji,bd,fe,a4,md,k3,kh,iq,hg,gn,dr,e5,i1,fg,j7,km,eu,ij,l3,ha,ew,lr,kq,im,dq,ku,g9,e4,l6,en,dz,h0,jc,hj,ki,e9,hs,j3,ir,ik,h9,l7,mj,lz,m6,ed,ka,gz,k7,c8,l0,ib,jv,hz,et,lm,gq,kz,fp,ic,k0,fj,h3,du,j6,j1,cz,d7,mm,mc,jm,i9,dl,i0,l8,fu,dp,mr,g4,dv,d8,cw,eo,ee,fk,d9,jf,jj,d6,h7,gy,e0,ey,ii,e8,df,g5,dm,dh,cy,ek,ff,m4,hv,je,dj,ej,j4,h8,jr,jg,lw,jh,ll,li,f7,il,cu,l9,mw,c5,hw,gj,fi,f9,bo,j9,c7,f3,nb,i4,jt,fq,hf,iu,de,hh,dw,c6,cv,mg,ip,fo,h6,em,fx,f6,gd,kj,f4,fw,di,hu,js,mq,jk,i6,lf,jp,bi,ia,j0,ho,e1,mo,hx,k4,l4,jo,jw,eg,h2,lk,eh,lg,nf,kc,nc,gu,lj,iw,h5,ko,mi,l5,c9,lh,ep,jq,ix,i5,k6,dy,gw,gg,k8,gh,ly,da,f5,g8],[]⟩ w') (oa:∀(kx bj bf ax aw dl i0 l8 fu dp mr g4 dv d8 cw eo ee fk d9 jf jj d6 h7 gy e0 ey ii e8 df g5 dm dh cy ek ff m4 hv je dj ej j4 h8 jr jg lw jh ll li f7 il cu l9 mw c5 hw gj fi f9 bo j9 c7 f3 nb i4 jt fq hf iu de hh dw c6 cv mg ip fo h6 em fx f6 gd kj f4 fw di hu js mq jk i6 lf jp bi ia j0 ho e1 mo hx k4 l4 jo jw eg h2 lk eh lg nf kc nc gu lj iw h5 ko mi l5 c9 lh ep jq:Value) (w':World) (y:US),y=V->y.ks=ks->UUp (N2 No N M) B w6 b (rowB bs E) y w'->nt ⟨#[.pointer (some ⟨b,0,none⟩),i7,m9,k9,lu,dn,ky,na,ma,fm,.slice (some ⟨g1,0,none⟩) 29 f8,.slice (some ⟨g2,0,none⟩) 30 mh,.map (some ck),.map (some b0),kx,bj,bf,ax,aw,mn,ft,gi,dc,e6,gx,hk,ju,g7,mz,d5,ig,ie,lv,g0,dt,lq,ei,h4,kt,j8,m5,dx,nh,ht,jy,db,ji,bd,fe,a4,md,k3,kh,iq,hg,gn,dr,e5,i1,fg,j7,km,eu,ij,l3,ha,ew,lr,kq,im,dq,ku,g9,e4,l6,en,dz,h0,jc,hj,ki,e9,hs,j3,ir,ik,h9,l7,mj,lz,m6,ed,ka,gz,k7,c8,l0,ib,jv,hz,et,lm,gq,kz,fp,ic,k0,fj,h3,du,j6,j1,cz,d7,mm,mc,jm,i9,dl,i0,l8,fu,dp,mr,g4,dv,d8,cw,eo,ee,fk,d9,jf,jj,d6,h7,gy,e0,ey,ii,e8,df,g5,dm,dh,cy,ek,ff,m4,hv,je,dj,ej,j4,h8,jr,jg,lw,jh,ll,li,f7,il,cu,l9,mw,c5,hw,gj,fi,f9,bo,j9,c7,f3,nb,i4,jt,fq,hf,iu,de,hh,dw,c6,cv,mg,ip,fo,h6,em,fx,f6,gd,kj,f4,fw,di,hu,js,mq,jk,i6,lf,jp,bi,ia,j0,ho,e1,mo,hx,k4,l4,jo,jw,eg,h2,lk,eh,lg,nf,kc,nc,gu,lj,iw,h5,ko,mi,l5,c9,lh,ep,jq,ix,i5,k6,dy,gw,gg,k8,gh,ly,da,f5,g8],[]⟩ w'):Code.wp Tryz.prog Z3e (Exit.then pp (Exit.inBlock 3 (Exit.then nt (bodyPost Tryz.prog Tryz.f61 R)))) ⟨#[.pointer (some ⟨b,0,none⟩),i7,m9,k9,lu,dn,ky,na,ma,fm,.slice (some ⟨g1,0,none⟩) 29 f8,.slice (some ⟨g2,0,none⟩) 30 mh,.map (some ck),.map (some b0),u14,u15,u16,u17,u18,mn,ft,gi,dc,e6,gx,hk,ju,g7,mz,d5,ig,ie,lv,g0,dt,lq,ei,h4,kt,j8,m5,dx,nh,ht,jy,db,ji,bd,fe,a4,md,k3,kh,iq,hg,gn,dr,e5,i1,fg,j7,km,eu,ij,l3,ha,ew,lr,kq,im,dq,ku,g9,e4,l6,en,dz,h0,jc,hj,ki,e9,hs,j3,ir,ik,h9,l7,mj,lz,m6,ed,ka,gz,k7,c8,l0,ib,jv,hz,et,lm,gq,kz,fp,ic,k0,fj,h3,du,j6,j1,cz,d7,mm,mc,jm,i9,u118,u119,u120,u121,u122,u123,u124,u125,u126,u127,u128,u129,u130,u131,u132,u133,u134,u135,u136,u137,u138,u139,u140,u141,u142,u143,u144,u145,u146,u147,u148,u149,u150,u151,u152,u153,u154,u155,u156,u157,u158,u159,u160,u161,u162,u163,u164,u165,u166,u167,u168,u169,u170,u171,u172,u173,u174,u175,u176,u177,u178,u179,u180,u181,u182,u183,u184,u185,u186,u187,u188,u189,u190,u191,u192,u193,u194,u195,u196,u197,u198,u199,u200,u201,u202,u203,u204,u205,u206,u207,u208,u209,u210,u211,u212,u213,u214,u215,u216,u217,u218,u219,u220,u221,u222,u223,u224,u225,u226,u227,u228,u229,u230,u231,u232,u233,u234,ix,i5,k6,dy,gw,gg,k8,gh,ly,da,f5,g8],[]⟩ wr:=by
 have ja:=Ab nr;have p8:=Ab oa;clear nr oa;have sv:=Af bs E;have ow:(rowB bs E).length<=200000:=om;obtain⟨_,_,qq,_⟩:=(Aa oe).is.cell;rw[b5]at qq;obtain⟨og,q9,qp,q0⟩:=Aa nz;have ob:=og b5;have o1:=Wp LA (rowB bs E) x q9;rw[bn]at o1;obtain⟨hq,m3,q3,gv⟩:=o1;simp only at hq m3 q3 gv;have b9:=Aa nw;(have q8:y1.out.length<=3000:=by rw[hq];exact qp);have qn:y1.ks=ks:=m3.trans q0;have tg:=(Cn bn pv).1;have s3:¬kk=256:=om;(have sy:((kk:Int)==256)=false:=by rw[beq_eq_false_iff_ne];omega);have iy:¬(y1.e≠0\/kk=256):=om;have po:¬kk<256:=om;have sj:¬(kk:Int)<256:=om;have pf:¬285<kk:=om;(conv=>arg 2;whnf);have s6:(kk:Int)<286:=om;have ru:¬(285:Int)<(kk:Int):=om;obtain⟨q,px⟩:=exq (kk-257);obtain⟨ba,ci⟩:=exq ((samesL.getD q (0,0)).2);obtain⟨aa,cm⟩:=exq ((samesL.getD q (0,0)).1);have nv:=S9 q om;rw[ci,cm]at nv;obtain⟨qj,s1⟩:=nv;obtain⟨n0,y2,e2⟩:∃n0 y2,uget (rowB bs E) ba y1=(n0,y2):=⟨_,_,rfl⟩;obtain⟨f,O,e3⟩:∃f O,uplace LB (rowB bs E) y2=(f,O):=⟨_,_,rfl⟩;obtain⟨G,cg⟩:=exq ((if O.e=0/\29<f then Am 8 O else O));have bv:=Fu (rowB bs E) ba y1;have bw:=Gn (rowB bs E) ba y1 gv;have o2:=Zo (rowB bs E) ba y1;rw[e2]at bv bw o2;have a5:=Wp LB (rowB bs E) y2 bw;rw[e3]at a5;(have bk:G.out=O.out/\G.ks=O.ks/\G.p=O.p:=by rw[<-cg];split;exact Om 8 O;exact⟨rfl,rfl,rfl⟩);simp only at bv bw o2 a5;have r4:n0<32:=VG bv (VU (VO od qj) od);(have ds:EJ (rowB bs E) LB kk y1=if G.e≠0 then (false,G)else (true,Z28 (rowB bs E) (aa+n0) f G):=by unfold EJ;rw[px,ci,cm];simp only[e2,e3,cg]);have q5:=b9;(have py:G.out.length<=3000:=by rw[bk.1,a5.1,o2.1];exact q8);have ox:G.ks=ks:=bk.2.1.trans (a5.2.1.trans (o2.2.1.trans qn));(have oy:G.p<=(rowB bs E).length:=by rw[bk.2.2];exact a5.2.2.2);(have r7:x.p+1<=G.p:=by rw[bk.2.2];omega);have a2:Hid (G.e≠0->G=V):=Ab (fun T=>by rw[<-b9,Nb b5 bn (false,G) (by rw[if_neg iy,if_neg po,if_neg pf,ds,if_pos T])];rfl);have az:Hid (¬G.e≠0->utok (rowB bs E) LA LB F (Z28 (rowB bs E) (aa+n0) f G)=V):=Ab (fun T=>by rw[<-b9,Nb b5 bn (true,Z28 (rowB bs E) (aa+n0) f G) (by rw[if_neg iy,if_neg po,if_neg pf,ds,if_neg T])];rfl);have s4:(257:Int)<=(kk:Int):=om;have sd:(kk:Int)-257<29:=om;(have qx:IntKind.i64.wrap ((kk:Int)-257)=(kk:Int)-257:=by simp[IntKind.wrap,IntKind.signed,IntKind.bits];omega);have rf:((kk:Int)-257).toNat=q:=om;(have p0:IntKind.i64.wrap ((aa:Int)+(n0:Int))=(aa:Int)+(n0:Int):=by simp[IntKind.wrap,IntKind.signed,IntKind.bits];omega);have qb:=Ab ci;have p6:=Ab cm;have ai:=Ab cg;have qd:=Ab e3;have rk:=Ab e2;have rj:q<29:=om;have rz:=ob;clear b9 q5 nw nz og ob iy bn ds m3 hq o2 a5 bk ci cm cg e3 e2 bv px;go_wp2_with fail;refine(Aa pn).mono ?_;rintro e pr ⟨rfl,nj⟩;have ar:=Ab ((Aa oe).trans nj);clear nj pn;obtain⟨_,_,bd,_⟩:=(Aa ar).is.cell;rw[pv]at bd;have o7:=(Aa ar).prs (Aa qh) om oq om q rj;rw[Aa p6,Aa qb]at o7;obtain⟨oc,o3⟩:=o7;(have qw:g1<pr.heap.size:=by have:=(Aa ar).below.size;omega);have pj:=Ab (fun i=>Hm (N2 No N M) B b ba _ y1 (pr.drewN i) ((UUp.refl (Aa ar).is).drewN i).is om ow gv n0 y2 (Aa rk));have av:=Ab (fun i=>(UUp.refl (Aa ar).is).drewN i);have qv:Hid (N2 No N M g1):=Ab (.inr ⟨oq,om⟩);go_upto_region 32 with fail;go_cut [15] (fun bj wc=>bj=.int .i64 ((aa:Int)+(n0:Int))/\Hid (UUp (N2 No N M) B w6 b (rowB bs E) y2 wc))
 case first=>
  go_wp2;go_region_held3 (fun w'=>w'.cell? ⟨g1,q*2,none⟩=some (.int .i64 (aa:Int))/\w'.cell? ⟨g1,q*2+1,none⟩=some (.int .i64 (ba:Int))) (first|assumption|exact⟨by assumption,by assumption⟩) (first|(go_at_call 91;refine(Aa pj _).mono ?_;rintro e pg ⟨rfl,eb⟩;have m8:=((Aa av _).trans eb).kp g1 qw (Aa qv);have rv:=(World.cell?_of_block (a:=⟨g1,q*2,none⟩) m8).trans oc;have tf:=(World.cell?_of_block (a:=⟨g1,q*2+1,none⟩) m8).trans o3;have bh:=Ab ((Aa ar).trans ((Aa av _).trans eb));clear eb m8));all_goals try go_wp2
  all_goals
   go_meet
   exact⟨rfl,bh⟩
 case rest=>
 rename World=>pg
 obtain⟨rfl,bh⟩:=hcut
 have jl:=Ab (Aa qz pg y2 (Aa bh) bw)
 rw[Aa qd]at jl
 clear pj av oc o3 ar bd
 go_wp2_with fail
 refine(Aa jl).mono ?_
 rintro e jb ⟨rfl,o6⟩
 have bc:=Ab ((Aa bh).trans o6)
 clear o6 jl bh
 obtain⟨_,_,a4,_⟩:=(Aa bc).is.cell
 obtain⟨cp,pi⟩:=exq (((O.e==0)&&decide (29<f)))
 have ag:=Ab pi
 clear pi
 go_upto_region 34 with fail
 go_cut [171] (fun bo wc=>bo=.bool cp/\wc=jb)
 case first=>
  by_cases a1:O.e=0
  . rw[a1]at a4
    have ao:decide ((29:Int)<(f:Int))=cp:=by
     have:=Aa ag
     rw[a1]at this
     rw[<-this]
     show _=decide _
     rw[decide_eq_decide]
     omega
    clear ag ai a2 az
    go_wp2
    go_meet
    exact⟨by first|rfl|rw[ao],rfl⟩
  . have b8:(O.e==0)=false:=by rw[beq_eq_false_iff_ne];exact a1
    have ao:cp=false:=by rw[<-Aa ag,b8];rfl
    subst ao
    clear ag ai a2 az
    generalize O.e=e7 at*
    go_wp2
    go_meet
    exact⟨rfl,rfl⟩
 case rest=>
 obtain⟨rfl,bq⟩:=hcut
 obtain rfl:jb=wc:=bq.symm
 clear bq
 go_upto_if 171 with (fail)
 go_cut [16] (fun bf wc=>bf=.int .i64 (f:Int)/\Hid (UUp (N2 No N M) B w6 b (rowB bs E) G wc))
 case first=>
  cases cp with
  |true=>
   have I:=Aa ag
   rw[ZM,beq_iff_eq,decide_eq_true_iff]at I
   have ng:=Ab (Dn (N2 No N M) B b (rowB bs E) O 8 jb (Aa bc).is)
   have au:Hid (Am 8 O=G):=Ab (by rw[<-Aa ai,if_pos I])
   clear I ag ai a2 az
   go_wp2_with fail
   refine(Aa ng).mono ?_
   rintro e m7 ⟨rfl,oz⟩
   have Z:=Ab ((Aa bc).trans oz)
   rw[Aa au]at Z
   clear oz
   go_wp2
   go_meet
   exact⟨rfl,Z⟩
  |false=>
   have I:¬(O.e=0/\29<f):=fun I=>by
    have:=Aa ag
    rw[I.1,decide_eq_true I.2]at this
    cases this
   have au:Hid (O=G):=Ab (by rw[<-Aa ai,if_neg I])
   rw[Aa au]at bc
   clear I ag ai a2 az
   go_wp2
   go_meet
   exact⟨rfl,bc⟩
 case rest=>
 rename World=>m7
 obtain⟨rfl,Z⟩:=hcut
 have i3:Hid (G.e=0->f<30):=Ab (fun T=>by
  have a9:=Aa ai
  by_cases ak:O.e=0/\29<f
  . rw[if_pos ak]at a9
    rw[<-a9]at T
    exact absurd T (Bm od)
  . rw[if_neg ak]at a9
    rw[<-a9]at T
    omega)
 clear bc a4 ag ai
 obtain⟨_,_,oi,_⟩:=(Aa Z).is.cell
 by_cases T:G.e≠0
 . have tc:(G.e !=0)=true:=by simp only[bne_iff_ne,ne_eq];exact T
   have iz:=Ab (And.intro (Aa a2 T) (And.intro ox (Aa Z)))
   clear T a2 az i3
   generalize G.e=e7 at*
   go_wp2
   exact Aa p8 _ _ _ _ _ _ _ _ _ _ _ _ _ _ _ _ _ _ _ _ _ _ _ _ _ _ _ _ _ _ _ _ _ _ _ _ _ _ _ _ _ _ _ _ _ _ _ _ _ _ _ _ _ _ _ _ _ _ _ _ _ _ _ _ _ _ _ _ _ _ _ _ _ _ _ _ _ _ _ _ _ _ _ _ _ _ _ _ _ _ _ _ _ _ _ _ _ _ _ _ _ _ _ _ _ _ _ _ _ _ _ _ _ _ _ _ _ _ _ _ _ _ _ _ (Aa iz).1 (Aa iz).2.1 (Aa iz).2.2
 have kg:=Aa az T
 have ot:G.e=0:=om
 have nx:=Aa i3 ot
 rw[ot]at oi
 have o5:=IB f nx
 obtain⟨fb,b3⟩:=exq ((farsL.getD f (0,0)).2)
 obtain⟨f0,b7⟩:=exq ((farsL.getD f (0,0)).1)
 rw[b3,b7]at o5
 obtain⟨p9,sc,s9⟩:=o5
 obtain⟨d0,H,bu⟩:∃d0 H,uget (rowB bs E) fb G=(d0,H):=⟨_,_,rfl⟩
 obtain⟨d,nu⟩:=exq (f0+d0)
 obtain⟨nn,ny⟩:=exq (aa+n0)
 obtain⟨Y,aj⟩:=exq ((if H.e=0/\H.out.length<d then Am 9 H else H))
 obtain⟨U,co⟩:=exq (ucopy d nn Y)
 have o4:Z28 (rowB bs E) (aa+n0) f G=U:=by
  unfold Z28
  rw[b3,b7,ny]
  simp only[bu,nu,aj,co]
 rw[o4]at kg
 have cj:=Fu (rowB bs E) fb G
 have ml:=Gn (rowB bs E) fb G oy
 have bb:=Zo (rowB bs E) fb G
 rw[bu]at cj ml bb
 have bg:Y.out=H.out/\Y.ks=H.ks/\Y.p=H.p:=by
  rw[<-aj]
  split
  . exact Om 9 H
  . exact⟨rfl,rfl,rfl⟩
 simp only at cj ml bb
 have te:d0<8192:=VG cj (VU (VO od p9) od)
 have a6:=KM d nn Y
 rw[co]at a6
 have pw:Y.out.length<=3000:=by rw[bg.1,bb.1];exact py
 have ry:H.out.length<=3000:=by rw[bb.1];exact py
 have qg:U.p<=(rowB bs E).length:=by rw[a6.2.2,bg.2.2];exact ml
 have dd:x.p+1<=U.p:=by rw[a6.2.2,bg.2.2];omega
 have np:Y.e=0->d<=Y.out.length:=fun ak=>by
  by_cases oo:H.e=0/\H.out.length<d
  . rw[if_pos oo]at aj
    rw[<-aj]at ak
    exact absurd ak (Bm od)
  . rw[if_neg oo]at aj
    rw[<-aj]at ak ⊢
    omega
 have hp:=Ab kg
 have fy:Hid (TkI (rowB bs E) ks F U):=Ab ⟨fun _=>om,qg,a6.1 pw,a6.2.1.trans (bg.2.1.trans (bb.2.1.trans ox))⟩
 have qc:=Ab np
 have pz:=Ab bu
 have ay:=Ab aj
 have q4:=Ab co
 have qs:=Ab b3
 have q1:=Ab b7
 have sk:1<=d:=om
 have sx:d<=40000:=om
 have s8:nn<=300:=om
 have ql:(f0:Int)+(d0:Int)=(d:Int):=om
 have qo:(aa:Int)+(n0:Int)=(nn:Int):=om
 have r3:IntKind.i64.wrap ((f0:Int)+(d0:Int))=(f0:Int)+(d0:Int):=by simp[IntKind.wrap,IntKind.signed,IntKind.bits];omega
 have q6:IntKind.i64.wrap (d:Int)=(d:Int):=by simp[IntKind.wrap,IntKind.signed,IntKind.bits];omega
 clear o4 kg bb bg a6 np bu aj co b3 b7 nu ny T a2 az i3 cj qx p0 rf
 have pu:=(Aa Z).prs (Aa q7) om oj om f nx
 rw[Aa q1,Aa qs]at pu
 obtain⟨o9,nq⟩:=pu
 have qk:g2<m7.heap.size:=by have:=(Aa Z).below.size;omega
 have sa:(f:Int)<30:=om
 have o0:=Ab (fun i=>Hm (N2 No N M) B b fb _ G (m7.drewN i) ((UUp.refl (Aa Z).is).drewN i).is om ow oy d0 H (Aa pz))
 have av:=Ab (fun i=>(UUp.refl (Aa Z).is).drewN i)
 have p5:Hid (N2 No N M g2):=Ab (.inr ⟨oj,om⟩)
 rw[qo]
 go_upto_region 37 with fail
 go_cut [17] (fun ax wc=>ax=.int .i64 (d:Int)/\Hid (UUp (N2 No N M) B w6 b (rowB bs E) H wc))
 case first=>
  go_wp2
  go_region_held3 (fun w'=>w'.cell? ⟨g2,f*2,none⟩=some (.int .i64 (f0:Int))/\w'.cell? ⟨g2,f*2+1,none⟩=some (.int .i64 (fb:Int))) (first|assumption|exact⟨by assumption,by assumption⟩) (first|(go_at_call 91;refine(Aa o0 _).mono ?_;rintro e bz ⟨rfl,jz⟩;have mp:=((Aa av _).trans jz).kp g2 qk (Aa p5);have r6:=(World.cell?_of_block (a:=⟨g2,f*2,none⟩) mp).trans o9;have r5:=(World.cell?_of_block (a:=⟨g2,f*2+1,none⟩) mp).trans nq;have af:=Ab ((Aa Z).trans ((Aa av _).trans jz));clear jz mp))
  all_goals try go_wp2
  all_goals
   go_meet
   exact⟨by first|rfl|rw[q6]|rw[ql],af⟩
 case rest=>
 rename World=>bz
 obtain⟨rfl,af⟩:=hcut
 clear o0 av o9 nq Z oi
 obtain⟨_,_,n3,_⟩:=(Aa af).is.cell
 obtain⟨se,s2,p1,_,_,fh,_⟩:=(Aa af).is.rows
 obtain⟨cq,j5⟩:=exq (H.out.length)
 rw[j5]at fh
 obtain⟨s7,ss,rfl⟩:=An fh
 obtain⟨bm,pd⟩:=exq (((H.e==0)&&decide (cq<d)))
 have ae:=Ab pd
 have k5:=Ab j5
 clear pd fh j5
 go_upto_region 38 with fail
 go_cut [205] (fun bi wc=>bi=.bool bm/\wc=bz)
 case first=>
  by_cases a1:H.e=0
  . rw[a1]at n3
    have ao:decide ((cq:Int)<(d:Int))=bm:=by
     have:=Aa ae
     rw[a1]at this
     rw[<-this]
     show _=decide _
     rw[decide_eq_decide]
     omega
    have qm:decide (cq<d)=bm:=by rw[<-ao,decide_eq_decide];omega
    clear ae ay
    go_wp2
    go_meet
    exact⟨by first|rfl|rw[ao]|rw[qm],rfl⟩
  . have b8:(H.e==0)=false:=by rw[beq_eq_false_iff_ne];exact a1
    have ao:bm=false:=by rw[<-Aa ae,b8];rfl
    subst ao
    clear ae ay
    generalize H.e=e7 at*
    go_wp2
    go_meet
    exact⟨rfl,rfl⟩
 case rest=>
 obtain⟨rfl,bq⟩:=hcut
 obtain rfl:bz=wc:=bq.symm
 clear bq
 go_upto_if 205 with (fail)
 go_cut [17] (fun ax wc=>ax=.int .i64 (d:Int)/\Hid (UUp (N2 No N M) B w6 b (rowB bs E) Y wc))
 case first=>
  cases bm with
  |true=>
   have I:=Aa ae
   rw[ZM,beq_iff_eq,decide_eq_true_iff]at I
   have ng:=Ab (Dn (N2 No N M) B b (rowB bs E) H 9 bz (Aa af).is)
   have au:Hid (Am 9 H=Y):=Ab (by rw[<-Aa ay,Aa k5,if_pos I])
   clear I ae ay
   go_wp2_with fail
   refine(Aa ng).mono ?_
   rintro e qt ⟨rfl,nl⟩
   have ce:=Ab ((Aa af).trans nl)
   rw[Aa au]at ce
   clear nl
   go_wp2
   go_meet
   exact⟨rfl,ce⟩
  |false=>
   have I:¬(H.e=0/\cq<d):=fun I=>by
    have:=Aa ae
    rw[I.1,decide_eq_true I.2]at this
    cases this
   have au:Hid (H=Y):=Ab (by rw[<-Aa ay,Aa k5,if_neg I])
   rw[Aa au]at af
   clear I ae ay
   go_wp2
   go_meet
   exact⟨rfl,af⟩
 case rest=>
 rename World=>qt
 obtain⟨rfl,ce⟩:=hcut
 clear af n3 p1 ae ay pz k5
 go_wp2
 go_loopw [18] (fun aw wr=>∃(j:Nat) (z:US),j<=nn/\aw=.int .i64 (j:Int)/\Hid (ucopy d (nn-j) z=U)/\Hid (z.out.length<=3000)/\Hid (z.e=0->d<=z.out.length)/\Hid (UUp (N2 No N M) B w6 b (rowB bs E) z wr)) (fun aw _=>nn-(intOf aw).toNat)
 case atStart=>exact⟨0,Y,VH _,rfl,q4,Ab pw,qc,ce⟩
 case round=>
  obtain⟨j,z,rs,rfl,a8,ct,b4,ah⟩:=hrel
  obtain⟨_,_,qe,_⟩:=(Aa ah).is.cell
  by_cases a7:z.e=0
  . rw[a7]at qe
    by_cases rl:j<nn
    . obtain⟨ta,rp,si,_,_,cd,_⟩:=(Aa ah).is.rows
      obtain⟨a3,cn⟩:=exq (z.out.length)
      have p7:=Aa b4 a7
      have qf:=Aa ct
      rw[cn]at cd p7 qf
      obtain⟨q2,s0,rfl,rr,rm⟩:=Ba cd om
      obtain⟨r,hr⟩:=exq (a3-d)
      obtain⟨al,h1⟩:=exq (z.out.getD r 0)
      have cx:wr.cell? ⟨q2,r,none⟩=some (.int .u8 (al:Int)):=by
       rw[cd.cellAt r om,<-h1]
       have:r<z.out.length:=om
       simp[u8s,List.getD,this]
      have pq:ucopy d (nn-(j+1)) (Fd al z)=U:=by
       have ap:=Aa a8
       rw[show nn-j=(nn-(j+1))+1 by omega,ucopy,if_pos a7,cn,hr,h1]at ap
       exact ap
      have qa:=Ab pq
      have qy:=Ab (BA al z)
      have qi:Hid ((Fd al z).e=0->d<=(Fd al z).out.length):=Ab (fun a9=>by
       obtain⟨_,_,ak⟩:=Ud a9
       rw[ak]
       show d<=(z.out++ [al]).length
       rw[VE,cn]
       omega)
      have re:=Ab (fun i=>S8 (N2 No N M) B b al _ z (wr.drewN i) ((UUp.refl (Aa ah).is).drewN i).is (Aa ct) (Aa rc (wr.drewN i) (Aa ah).below.size))
      have rh:=Ab (fun i=>(UUp.refl (Aa ah).is).drewN i)
      have mx:(j:Int)<(nn:Int):=om
      have r8:(d:Int)<=(a3:Int):=om
      have td:(0:Int)<(d:Int):=om
      have sq:(a3:Int)-(d:Int)<(a3:Int):=om
      have sg:IntKind.i64.wrap ((a3:Int)-(d:Int))=(a3:Int)-(d:Int):=by simp[IntKind.wrap,IntKind.signed,IntKind.bits];omega
      have su:((a3:Int)-(d:Int)).toNat=r:=om
      clear cd pq h1 cn a8 b4
      go_wp2
      go_region_with (go_at_call 93;refine(Aa re _).mono ?_;rintro e sn ⟨rfl,nk⟩;have qu:=Ab ((Aa ah).trans ((Aa rh _).trans nk));clear nk)
      all_goals try go_wp2
      all_goals
       go_roundw
       case rel=>exact⟨j+1,Fd al z,om,by go_num,qa,Ab ((Aa qy).1 (Aa ct)),qi,qu⟩
       case measure=>simp[intOf];omega
    . have ri:j=nn:=om
      subst ri
      have ac:Hid (z=U):=Ab (by
       have ap:=Aa a8
       rw[XW,ucopy]at ap
       exact ap)
      have mx:¬(j:Int)<(j:Int):=om
      clear a8 b4
      go_wp2
      exact Aa ja _ _ _ _ _ _ _ _ _ _ _ _ _ _ _ _ _ _ _ _ _ _ _ _ _ _ _ _ _ _ _ _ _ _ _ _ _ _ _ _ _ _ _ _ _ _ _ _ _ _ _ _ _ _ _ _ _ _ _ _ _ _ _ _ _ _ _ _ _ _ _ _ _ _ _ _ _ _ _ _ _ _ _ _ _ _ _ _ _ _ _ _ _ _ _ _ _ _ _ _ _ _ _ _ _ _ _ _ _ _ _ _ _ _ _ _ _ _ _ _ _ _ _ z (Ab (by rw[Aa ac];exact Aa hp)) (Ab (by rw[Aa ac];exact Aa fy)) (Ab (by rw[Aa ac];exact dd)) ah
  . have ac:Hid (z=U):=Ab (by
     have ap:=Aa a8
     rw[KN _ _ _ a7]at ap
     exact ap)
    have b8:(z.e==0)=false:=by rw[beq_eq_false_iff_ne];exact a7
    clear a8 b4 a7
    generalize z.e=e7 at*
    by_cases rl:j<nn
    . have mx:(j:Int)<(nn:Int):=om
      go_wp2
      exact Aa ja _ _ _ _ _ _ _ _ _ _ _ _ _ _ _ _ _ _ _ _ _ _ _ _ _ _ _ _ _ _ _ _ _ _ _ _ _ _ _ _ _ _ _ _ _ _ _ _ _ _ _ _ _ _ _ _ _ _ _ _ _ _ _ _ _ _ _ _ _ _ _ _ _ _ _ _ _ _ _ _ _ _ _ _ _ _ _ _ _ _ _ _ _ _ _ _ _ _ _ _ _ _ _ _ _ _ _ _ _ _ _ _ _ _ _ _ _ _ _ _ _ _ _ z (Ab (by rw[Aa ac];exact Aa hp)) (Ab (by rw[Aa ac];exact Aa fy)) (Ab (by rw[Aa ac];exact dd)) ah
    . have mx:¬(j:Int)<(nn:Int):=om
      go_wp2
      exact Aa ja _ _ _ _ _ _ _ _ _ _ _ _ _ _ _ _ _ _ _ _ _ _ _ _ _ _ _ _ _ _ _ _ _ _ _ _ _ _ _ _ _ _ _ _ _ _ _ _ _ _ _ _ _ _ _ _ _ _ _ _ _ _ _ _ _ _ _ _ _ _ _ _ _ _ _ _ _ _ _ _ _ _ _ _ _ _ _ _ _ _ _ _ _ _ _ _ _ _ _ _ _ _ _ _ _ _ _ _ _ _ _ _ _ _ _ _ _ _ _ _ _ _ _ z (Ab (by rw[Aa ac];exact Aa hp)) (Ab (by rw[Aa ac];exact Aa fy)) (Ab (by rw[Aa ac];exact dd)) ah
end Go.Proofs.YtleocpdblhbimaaGreatDoor
