import Derived.Test.YtleocpdblhbimaaGreatDoorQ51
import Derived.Deep.RegionHeld3
set_option linter.unusedSimpArgs false
set_option maxHeartbeats 8000000
namespace Go.Proofs.YtleocpdblhbimaaGreatDoor
open Go.RowKit
set_option linter.unusedVariables false
set_option maxRecDepth 100000
theorem Zo (row:List Bool)(n:Nat)(u:US):(uget row n u).2.out=u.out/\(uget row n u).2.ks=u.ks/\u.p<=(uget row n u).2.p:=by
 unfold uget
 split
 . split
   . exact⟨rfl,rfl,VB _⟩
   . exact⟨rfl,rfl,ZS _ _⟩
 . exact⟨rfl,rfl,VB _⟩
theorem Om (x:Int)(u:US):(Am x u).out=u.out/\(Am x u).ks=u.ks/\(Am x u).p=u.p:=by
 unfold Am
 split<;>exact⟨rfl,rfl,rfl⟩
theorem BA (c:Nat)(u:US):(u.out.length<=3000->(Fd c u).out.length<=3000)/\(Fd c u).ks=u.ks/\(Fd c u).p=u.p:=by
 unfold Fd
 split
 . split
   . exact⟨fun h=>h,rfl,rfl⟩
   . rename_i E
     exact⟨fun h=>by show (u.out++ [c]).length<=3000;rw[VE];simp only[VJ,WE];omega,rfl,rfl⟩
 . exact⟨fun h=>h,rfl,rfl⟩
theorem Wp (l:List Int)(row:List Bool)(u:US)(E:u.p<=row.length):(uplace l row u).2.out=u.out/\(uplace l row u).2.ks=u.ks/\u.p<=(uplace l row u).2.p/\(uplace l row u).2.p<=row.length:=by
 unfold uplace
 split
 . exact⟨rfl,rfl,ZS _ _,Xp l row u.p E⟩
 . exact⟨rfl,rfl,VB _,E⟩
theorem EI (row:List Bool)(k:Nat)(u:US)(E:u.e≠0):ustore row k u=u:=by
 cases k with
 |zero=>rfl
 |succ k=>rw[ustore,if_neg E]
theorem RM (l:Nat):((l:Int)==1)=decide (l=1):=by
 by_cases e:l=1
 . subst e;rfl
 . rw[decide_eq_false e,beq_eq_false_iff_ne];omega
def BkA (No:Nat->Prop)(B:Nat)(w:World)(b:Nat)(row:List Bool)(R:Bool×US)(e:Ending)(w':World):Prop:=e=.returned (.bool R.1)/\UUp No B w b row R.2 w'
theorem JH (No:Nat->Prop)(B b E:Nat)(bs:List Nat)(u:US)(w:World)(O:UIs No B w b (rowB bs E) u)(ak:E<=25000)(am:u.p<=8*E)(l k:Nat)(G F:US)(M:uget (rowB bs E) 1 u=(l,G))(ag:uget (rowB bs E) 2 G=(k,F))(ab:F.e≠0):
 Calls Tryz.prog 61 #[.pointer (some ⟨b,0,none⟩)] w fun e w'=>BkA No B w b (rowB bs E) (true,F) e w':=by
 have al:=Af bs E;have ac:(rowB bs E).length<=200000:=by omega
 have Z:u.p<=(rowB bs E).length:=by omega
 have ae:=Gn _ 1 u Z;rw[M]at ae;have H:=Ab O;have T:=Ab M;have aa:=Ab ag;clear O M ag;go_enter Tryz.func61,Tryz.ntmps61
 go_wp2_with fail
 refine(Hm No B b 1 _ u w (Aa H) (by omega) ac Z l G (Aa T)).mono ?_;rintro e aj ⟨rfl,U⟩;have I:=Ab U;clear U;go_wp2_with fail
 refine(Hm No B b 2 _ G aj (Aa I).is (by omega) ac ae k F (Aa aa)).mono ?_;rintro e ah ⟨rfl,af⟩;have Y:=Ab ((Aa I).trans af);clear af I;obtain⟨_,_,ap,_⟩:=(Aa Y).is.cell;have ao:(F.e !=0)=true:=by simp only[bne_iff_ne,ne_eq];exact ab
 have ai:Hid (BkA No B w b (rowB bs E) (true,F) (.returned (.bool true)) ah):=Ab ⟨rfl,Aa Y⟩;clear ab H T aa;generalize F.e=an at*;go_wp2;go_ret;exact Aa ai
theorem JI (No:Nat->Prop)(B b E:Nat)(bs:List Nat)(u:US)(w:World)(U:UIs No B w b (rowB bs E) u)(ar:E<=25000)(av:u.p<=8*E)(l k:Nat)(G F:US)(T:uget (rowB bs E) 1 u=(l,G))(aj:uget (rowB bs E) 2 G=(k,F))(O:F.e=0)(al:3<=k):
 Calls Tryz.prog 61 #[.pointer (some ⟨b,0,none⟩)] w fun e w'=>BkA No B w b (rowB bs E) (true,Am 4 F) e w':=by
 have as:=Af bs E;have af:(rowB bs E).length<=200000:=by omega
 have ab:u.p<=(rowB bs E).length:=by omega
 have ag:=Gn _ 1 u ab;rw[T]at ag;have H:=Ab U;have Y:=Ab T;have ae:=Ab aj;have ax:((k:Int)==0)=false:=by rw[beq_eq_false_iff_ne];omega
 have au:((k:Int)==1)=false:=by rw[beq_eq_false_iff_ne];omega
 have aw:((k:Int)==2)=false:=by rw[beq_eq_false_iff_ne];omega
 clear U T aj al;go_enter Tryz.func61,Tryz.ntmps61
 go_wp2_with fail
 refine(Hm No B b 1 _ u w (Aa H) (by omega) af ab l G (Aa Y)).mono ?_;rintro e aq ⟨rfl,aa⟩;have I:=Ab aa;clear aa;go_wp2_with fail
 refine(Hm No B b 2 _ G aq (Aa I).is (by omega) af ag k F (Aa ae)).mono ?_;rintro e am ⟨rfl,ah⟩;have M:=Ab ((Aa I).trans ah);clear ah I;obtain⟨_,_,ak,_⟩:=(Aa M).is.cell;have ap:=Ab (Dn No B b (rowB bs E) F 4 am (Aa M).is);have ac:(Am 4 F).e=4:=by unfold Am;rw[if_pos O]
 rw[O]at ak;clear O H Y ae;go_wp2_with fail
 refine(Aa ap).mono ?_;rintro e w3 ⟨rfl,ai⟩;have Z:=Ab ((Aa M).trans ai);clear ai;obtain⟨_,_,ao,_⟩:=(Aa Z).is.cell;rw[ac]at ao;have an:Hid (BkA No B w b (rowB bs E) (true,Am 4 F) (.returned (.bool true)) w3):=Ab ⟨rfl,Aa Z⟩;clear ac ak;go_wp2;go_ret;exact Aa an
theorem RH (No:Nat->Prop)(B b E:Nat)(bs:List Nat)(u:US)(w:World)(h:UIs No B w b (rowB bs E) u)(ay:E<=25000)(ei:u.p<=8*E)(c9:u.out.length<=3000)(b5:u.ks.length<=200000)(b4:∀g,w.heap.size<=g->¬No g)(l:Nat)(ao F:US)(a8:uget (rowB bs E) 1 u=(l,ao))(a1:uget (rowB bs E) 2 ao=(0,F))(cn:F.e=0)(V:US)(bq:ustored (rowB bs E) F=V):
 Calls Tryz.prog 61 #[.pointer (some ⟨b,0,none⟩)] w fun e w'=>BkA No B w b (rowB bs E) (decide (l=1),ukept 0 V) e w':=by
 obtain⟨dr,hi,du,ds,dc⟩:=info_parts Bv;have ep:=Af bs E;have ac:(rowB bs E).length<=200000:=by omega
 have dn:u.p<=(rowB bs E).length:=by omega
 obtain⟨dl,d9,bg,bt,dv⟩:=Bn a1 cn;obtain⟨dm,cp,bd,a9,_⟩:=Bn a8 dv;obtain⟨r1,y1,Y⟩:∃r y,uget (rowB bs E) 16 {F with p:=(F.p+7)/8*8}=(r,y):=⟨_,_,rfl⟩
 obtain⟨r2,y2,e2⟩:∃r y,uget (rowB bs E) 16 y1=(r,y):=⟨_,_,rfl⟩
 obtain⟨I,e3⟩:=exq ((if y2.e=0/\r1+r2≠65535 then Am 4 y2 else y2));have T:ustore (rowB bs E) r1 I=V:=by rw[<-bq];unfold ustored;simp only[Y,e2,e3]
 have b7:({F with p:=(F.p+7)/8*8}:US).p<=(rowB bs E).length:=by show (F.p+7)/8*8<=_;omega
 have aj:=Gn _ 16 _ b7;rw[Y]at aj;have av:=Gn _ 16 y1 aj;rw[e2]at av;have o1:=Zo (rowB bs E) 16 {F with p:=(F.p+7)/8*8};rw[Y]at o1;have o2:=Zo (rowB bs E) 16 y1;rw[e2]at o2
 have an:I.out=y2.out/\I.ks=y2.ks/\I.p=y2.p:=by
  rw[<-e3]
  split
  . exact Om 4 y2
  . exact⟨rfl,rfl,rfl⟩
 have ap:=Fu (rowB bs E) 16 {F with p:=(F.p+7)/8*8};rw[Y]at ap;have ah:=Fu (rowB bs E) 16 y1;rw[e2]at ah;simp only at aj av o1 o2 ap ah
 have d3:I.p<=(rowB bs E).length:=by rw[an.2.2];exact av
 have c6:I.out.length<=3000:=by rw[an.1,o2.1,o1.1,bg,bd];exact c9
 have c3:I.ks=u.ks:=by rw[an.2.1,o2.2.1,o1.2.1,bt,a9]
 have H:=Ab h;have bb:=Ab b4;have ck:=Ab a8;have bj:=Ab a1;have ba:=Ab Y;have b3:=Ab e2;have U:=Ab e3;have af:=Ab T;have dw:=Ab b5;have eb:r1<65536:=ap;have eu:r2<65536:=ah;obtain⟨al,bn⟩:=exq (((y2.e==0)&&decide (r1+r2≠65535)));have M:=Ab bn;clear h b4 a8 a1 bq dm dl bt a9 bg bd o1 o2 an b5 Y e2 e3 T ap ah bn;go_enter Tryz.func61,Tryz.ntmps61
 go_wp2_with fail
 refine(Hm No B b 1 _ u w (Aa H) (by omega) ac dn l ao (Aa ck)).mono ?_;rintro e di ⟨rfl,bz⟩;have a7:=Ab bz;clear bz;go_wp2_with fail
 refine(Hm No B b 2 _ ao di (Aa a7).is (by omega) ac cp 0 F (Aa bj)).mono ?_;rintro e eo ⟨rfl,cd⟩;have aq:=Ab ((Aa a7).trans cd);clear cd;obtain⟨_,dg,ch,f2⟩:=(Aa aq).is.cell;rw[cn]at ch;have de:Hid (((F.p:Int)+7)/8*8=(((F.p+7)/8*8:Nat):Int)):=Ab (by omega);have a3:=Ab ((Aa aq).trans ((Aa aq).is.setP ((F.p+7)/8*8)));go_wp2_with fail
 rw[Aa de];refine(Hm No B b 16 _ {F with p:=(F.p+7)/8*8} _ (Aa a3).is (by omega) ac b7 r1 y1 (Aa ba)).mono ?_;rintro e dh ⟨rfl,b0⟩;have a5:=Ab ((Aa a3).trans b0);clear b0;go_wp2_with fail
 refine(Hm No B b 16 _ y1 dh (Aa a5).is (by omega) ac aj r2 y2 (Aa b3)).mono ?_;rintro e a0 ⟨rfl,cj⟩;have Z:=Ab ((Aa a5).trans cj);clear cj;obtain⟨_,_,bc,_⟩:=(Aa Z).is.cell;clear a7 aq a3 a5 dg ch f2 ba b3 ck bj H;go_upto_region 9 with fail
 go_cut [58] (fun dx wc=>dx=.bool al/\wc=a0)
 case first=>
  by_cases as:y2.e=0
  . rw[as]at bc
    have bo:((r1:Int)+(r2:Int)!=65535)=al:=by
     have:=Aa M
     rw[as]at this;rw[<-this]
     by_cases d4:r1+r2=65535
     . rw[bne_eq_false_iff_eq.2 (by omega),decide_eq_false (by omega)];rfl
     . rw[bne_iff_ne.2 (by omega),decide_eq_true d4];rfl
    clear M U af;go_wp2;go_meet
    exact⟨rfl,rfl⟩
  . have b8:(y2.e==0)=false:=by rw[beq_eq_false_iff_ne];exact as
    have bo:al=false:=by rw[<-Aa M,b8];rfl
    subst bo;clear M U af;generalize y2.e=d2 at*;go_wp2;go_meet
    exact⟨rfl,rfl⟩
 case rest=>
 obtain⟨rfl,cm⟩:=hcut;obtain rfl:a0=wc:=cm.symm;clear cm;go_upto_if 58 with (fail)
 go_cut [7] (fun cy wc=>cy=.int .i64 (r1:Int)/\Hid (UUp No B w b (rowB bs E) I wc))
 case first=>
  cases al with
  |true=>
   have O:=Aa M;rw[ZM,beq_iff_eq,decide_eq_true_iff]at O;have cz:=Ab (Dn No B b (rowB bs E) y2 4 a0 (Aa Z).is);have a4:Hid (Am 4 y2=I):=Ab (by rw[<-Aa U,if_pos O]);clear O M U af;go_wp2_with fail
   refine(Aa cz).mono ?_;rintro e w6 ⟨rfl,ae⟩;have aa:=Ab ((Aa Z).trans ae);rw[Aa a4]at aa;clear ae;go_wp2;go_meet
   exact⟨rfl,aa⟩
  |false=>
   have O:¬(y2.e=0/\r1+r2≠65535):=fun O=>by
    have:=Aa M
    rw[O.1,decide_eq_true O.2]at this
    cases this
   have a4:Hid (y2=I):=Ab (by rw[<-Aa U,if_neg O]);rw[Aa a4]at Z;clear O M U af;go_wp2;go_meet
   exact⟨rfl,Z⟩
 case rest=>
 rename World=>em
 obtain⟨rfl,dj⟩:=hcut;clear Z bc M U;go_upto_block 1 with (fail)
 go_cut [3] (fun dy wc=>dy=.int .i64 (l:Int)/\Hid (UUp No B w b (rowB bs E) V wc)/\Hid (V.ks=u.ks))
 case first=>
  go_wp2_with fail
  go_loopw [9] (fun a6 wr=>∃(i:Nat) (x:US),i<=r1/\a6=.int .i64 (i:Int)/\Hid (ustore (rowB bs E) (r1-i) x=V)/\Hid (x.p<=(rowB bs E).length)/\Hid (x.out.length<=3000)/\Hid (x.ks=u.ks)/\Hid (UUp No B w b (rowB bs E) x wr)) (fun a6 _=>r1-(intOf a6).toNat)
  case atStart=>exact⟨0,I,VH _,rfl,af,Ab d3,Ab c6,Ab c3,dj⟩
  case round=>
   obtain⟨i,x,eq,rfl,T,co,cv,ak,G⟩:=hrel;obtain⟨_,_,c7,_⟩:=(Aa G).is.cell
   by_cases am:x.e=0
   . rw[am]at c7
     by_cases da:i<r1
     . obtain⟨r,y,az⟩:∃r y,uget (rowB bs E) 8 x=(r,y):=⟨_,_,rfl⟩
       have bv:ustore (rowB bs E) (r1-(i+1)) (Fd r y)=V:=by
        have:=Aa T
        rw[show r1-i=(r1-(i+1))+1 by omega,ustore,if_pos am,az]at this;exact this
       have au:=Gn (rowB bs E) 8 x (Aa co);have ab:=Zo (rowB bs E) 8 x;have ar:=Fu (rowB bs E) 8 x;rw[az]at au ab ar;simp only at au ab ar
       have ed:r<256:=ar;have ci:y.out.length<=3000:=by rw[ab.1];exact Aa cv
       have aw:=Ab (BA r y);have c4:=Ab bv;have c5:Hid (y.ks=u.ks):=Ab (ab.2.1.trans (Aa ak));have bf:(i:Int)<(r1:Int):=by omega
       clear bv ab ar T;go_wp2_with fail
       refine(Hm No B b 8 _ x wr (Aa G).is (by omega) ac (Aa co) r y az).mono ?_;rintro e w6 ⟨rfl,ae⟩;have aa:=Ab ((Aa G).trans ae);clear ae;go_wp2_with fail
       refine(S8 No B b r _ y w6 (Aa aa).is ci (fun g c8=>Aa bb g (by have:=(Aa aa).below.size;omega))).mono ?_;rintro e ej ⟨rfl,bh⟩;have dd:=Ab ((Aa aa).trans bh);clear bh;go_wp2;go_roundw
       case rel=>exact⟨i+1,Fd r y,by omega,by go_num,c4,Ab (by rw[(Aa aw).2.2];exact au),Ab ((Aa aw).1 ci),Ab ((Aa aw).2.1.trans (Aa c5)),dd⟩
       case measure=>simp[intOf];omega
     . have hi:i=r1:=by omega
       subst hi
       have ax:x=V:=by
        have:=Aa T
        rw[XW,ustore]at this;exact this
       subst ax;go_wp2;go_meet
       exact⟨rfl,G,ak⟩
   . have ax:x=V:=by
      have:=Aa T
      rw[EI _ _ _ am]at this;exact this
     subst ax;have b8:(x.e==0)=false:=by rw[beq_eq_false_iff_ne];exact am
     generalize x.e=d2 at*
     by_cases da:i<r1
     . have bf:(i:Int)<(r1:Int):=by omega
       go_wp2;go_meet
       exact⟨rfl,G,ak⟩
     . have bf:¬(i:Int)<(r1:Int):=by omega
       go_wp2;go_meet
       exact⟨rfl,G,ak⟩
 case rest=>
  rename World=>cq
  obtain⟨rfl,G,dp⟩:=hcut;obtain⟨ov,kv,_,ek,cl,bw,ag,bm,be,ay⟩:=(Aa G).is.rows;obtain⟨bu,ai⟩:=exq (V.ks.length);have ce:=ag;rw[ai]at ag;obtain⟨en,ee,rfl⟩:=An ag;have eh:=(Aa G).below.size;have d6:=(Aa G).is.lt;have d8:bu<=200000:=by rw[<-ai,Aa dp];exact Aa dw
  have db:=Ab ag;have d1:=Ab ce;have df:=Ab bw;have cw:=Ab cl;have ct:=Ab bm;have dt:=Ab be;have dq:=Ab ay;have cu:=Ab ai;have cg:=Ab (Aa G).is;clear ag ce bw cl bm be ay ai;go_wp2_with (at_builtin;refine wpList_append_own_at _ rfl (.tmp 82) (.tmp 84) 76 rfl (b+1) 3 dr (.int .i64 0) 1 8 Tryz.underlying76 hi du ds dc rfl (by decide) _ bu (i64s V.ks) rfl ((Aa db).alloc _) ⟨cq.heap.size,0,none⟩ 1 1 [.int .i64 (0)] rfl rfl (cell_one_new _ _ _) (Bc rfl) (by unfold maxLen;omega) (by omega) (by simp;omega) ?_)
  intro v' eg a2 b9 _ bi;obtain⟨el,d5,bk⟩:=UIs.keepK (k:=0) (X:=.cells #[.int .i64 (0)] 3) (Aa cg).base (Aa cg).no (Aa cw) (Aa df) (Aa d1) (Aa ct) (Aa dt) (Aa dq) (fun g c8=>Aa bb g (by omega)) (by rw[Aa cu];exact a2) b9 (by simpa using bi);obtain⟨d7,et,rfl,_,_⟩:=Ba a2 (by omega);have dz:=Ab ((Aa G).trans bk);clear a2 b9 bi bk;go_wp2;go_ret;exact⟨by rw[RM];rfl,Aa dz⟩
theorem KN (d k:Nat)(u:US)(E:u.e≠0):ucopy d k u=u:=by
 cases k with
 |zero=>rfl
 |succ k=>rw[ucopy,if_neg E]
theorem KM (d:Nat):∀(k:Nat) (u:US),(u.out.length<=3000->(ucopy d k u).out.length<=3000)/\(ucopy d k u).ks=u.ks/\(ucopy d k u).p=u.p
 |0,u=>⟨fun h=>h,rfl,rfl⟩
 |k+1,u=>by
  rw[ucopy]
  split
  . have F:=BA (u.out.getD (u.out.length-d) 0) u;have E:=KM d k (Fd (u.out.getD (u.out.length-d) 0) u);exact⟨fun h=>E.1 (F.1 h),E.2.1.trans F.2.1,E.2.2.trans F.2.2⟩
  . exact⟨fun h=>h,rfl,rfl⟩
theorem SR (row:List Bool)(a b:List Int)(F:Nat)(u:US)(E:u.e≠0):utok row a b F u=u:=by
 cases F with
 |zero=>rfl
 |succ F=>rw[utok,if_neg E]
theorem Nb {row:List Bool}{a b:List Int}{F kk:Nat}{x y1:US}(E:x.e=0)(I:uplace a row x=(kk,y1))(R:Bool×US)(G:(if y1.e≠0\/kk=256 then (false,y1)else if kk<256 then (true,Fd kk y1)else if 285<kk then (false,Am 8 y1)else EJ row b kk y1)=R):utok row a b (F+1) x=if R.1 then utok row a b F R.2 else R.2:=by
 have H:Lb row a b x=R:=by rw[<-G];unfold Lb;simp only[I]
 rw[utok,if_pos E,H]
def TkI (row:List Bool)(ks:List Nat)(F:Nat)(x:US):Prop:=(x.e=0->row.length<x.p+F)/\x.p<=row.length/\x.out.length<=3000/\x.ks=ks
def Fc:Code->List Code
 | .loop c=>c::Fc c
 | .seq a b=>Fc a++Fc b
 | .block _ c=>Fc c
 | .scope c=>Fc c
 | .cond _ a b=>Fc a++Fc b
 |_=> []
noncomputable def Z3e:Code:=((Tryz.f61.body.map Fc).getD []).getD 1 .skip
theorem TM {ee k9 k8 gu ha dn i0 h9 lv h2 li g4 jg eu g0 ia fi ey j4 f8 gh eo dd cp fm hh e4 f3 lg fh dh ik eb e6 ck e8 k0 az lk a2 cm fr cn cl gv cq ii iq hw dg dc jy gy im lm de lq df jf ip ku fp jk ft je el fg iu gz h4 gw cy ky dq hy ci hz k4 e5 c8 f7 i2 hv j6 gn eh j5 dy h8 fu lh ll km g9 i9 jh j3 ie em c9 fe i5 ko da gx ic g5 dl ht id k6 h1 kh ls iz i7 hp ja cw kq:Value}{u14 u15 u16 u17 u18 u118 u119 u120 u121 u122 u123 u124 u125 u126 u127 u128 u129 u130 u131 u132 u133 u134 u135 u136 u137 u138 u139 u140 u141 u142 u143 u144 u145 u146 u147 u148 u149 u150 u151 u152 u153 u154 u155 u156 u157 u158 u159 u160 u161 u162 u163 u164 u165 u166 u167 u168 u169 u170 u171 u172 u173 u174 u175 u176 u177 u178 u179 u180 u181 u182 u183 u184 u185 u186 u187 u188 u189 u190 u191 u192 u193 u194 u195 u196 u197 u198 u199 u200 u201 u202 u203 u204 u205 u206 u207 u208 u209 u210 u211 u212 u213 u214 u215 u216 u217 u218 u219 u220 u221 u222 u223 u224 u225 u226 u227 u228 u229 u230 u231 u232 u233 u234:Value}{No:Nat->Prop}{B b E N M g1 d2 g2 ei b7 b4 kk F hs4 hs5:Nat}{bs ks:List Nat}{LA LB:List Int}{V x y1:US}{w6 wr:World}{mx nr:Act->World->Prop}{R:Ending->World->Prop}
 (p8:bs.length=E) (qp:E<=25000) (nw:N<=g1) (ns:N<=g2) (qy:g1<hs4) (qu:g2<hs4) (qm:hs4<=hs5) (p1:hs5<=M) (qh:w6.heap.size=M) (ql:b<N) (pr:Hid (Prs w6 g1 samesL)) (oj:Hid (Prs w6 g2 farsL))
 (ny:Hid (∀W:World,w6.heap.size<=W.heap.size->∀g,W.heap.size<=g->¬N2 No N M g))
 (na:Hid (Calls Tryz.prog 98 #[.pointer (some ⟨b,0,none⟩),.map (some b7)] wr fun e w'=>e=.returned (.int .i64 (kk:Int))/\UUp (N2 No N M) B wr b (rowB bs E) y1 w'))
 (oh:Hid (∀(W:World) (x:US),UUp (N2 No N M) B w6 b (rowB bs E) x W->x.p<=(rowB bs E).length->Calls Tryz.prog 98 #[.pointer (some ⟨b,0,none⟩),.map (some b4)] W fun e w'=>e=.returned (.int .i64 ((uplace LB (rowB bs E) x).1:Int))/\UUp (N2 No N M) B W b (rowB bs E) (uplace LB (rowB bs E) x).2 w'))
 (bw:x.e=0) (nf:Hid (TkI (rowB bs E) ks (F+1) x)) (l9:Hid (utok (rowB bs E) LA LB (F+1) x=V)) (a9:uplace LA (rowB bs E) x=(kk,y1)) (np:y1.e=0) (p5:257<=kk) (q9:kk<=285) (mo:Hid (UUp (N2 No N M) B w6 b (rowB bs E) x wr))
 (nj:∀(jx bh a8 as ao j2 dm k5 il ib ew lr dw d7 i1 kj ct j7 h5 hq i3 cu j9 hu fw gg hg l3 kx lw ds iy kz lf gi h3 ir et d4 cj k7 kt jr eq en ch dz ep f6 jv eg e9 co j8 ki ix e7 cv bc ek gq io c5 gd dp j0 jj fk jw d5 hk fo ed h6 ig kg jz iw dx i8 ji ho jo i4 ij h7 fj hs jb f4 l0 k3 be fy d8 hx jc ly jp d1 dj di he db g8 gj ld f5 hj j1 d6 d3 c7 hd c3 lz kc e0 fn l4 i6 du:Value) (w':World) (U:US),Hid (utok (rowB bs E) LA LB F U=V)->Hid (TkI (rowB bs E) ks F U)->Hid (x.p+1<=U.p)->Hid (UUp (N2 No N M) B w6 b (rowB bs E) U w')->mx ⟨#[.pointer (some ⟨b,0,none⟩),ee,k9,k8,gu,ha,dn,i0,h9,lv,.slice (some ⟨g1,0,none⟩) 29 d2,.slice (some ⟨g2,0,none⟩) 30 ei,.map (some b7),.map (some b4),jx,bh,a8,as,ao,h2,li,g4,jg,eu,g0,ia,fi,ey,j4,f8,gh,eo,dd,cp,fm,hh,e4,f3,lg,fh,dh,ik,eb,e6,ck,e8,k0,az,lk,a2,cm,fr,cn,cl,gv,cq,ii,iq,hw,dg,dc,jy,gy,im,lm,de,lq,df,jf,ip,ku,fp,jk,ft,je,el,fg,iu,gz,h4,gw,cy,ky,dq,hy,ci,hz,k4,e5,c8,f7,i2,hv,j6,gn,eh,j5,dy,h8,fu,lh,ll,km,g9,i9,jh,j3,ie,em,c9,fe,i5,ko,da,gx,ic,g5,dl,j2,dm,k5,il,ib,ew,lr,dw,d7,i1,kj,ct,j7,h5,hq,i3,cu,j9,hu,fw,gg,hg,l3,kx,lw,ds,iy,kz,lf,gi,h3,ir,et,d4,cj,k7,kt,jr,eq,en,ch,dz,ep,f6,jv,eg,e9,co,j8,ki,ix,e7,cv,bc,ek,gq,io,c5,gd,dp,j0,jj,fk,jw,d5,hk,fo,ed,h6,ig,kg,jz,iw,dx,i8,ji,ho,jo,i4,ij,h7,fj,hs,jb,f4,l0,k3,be,fy,d8,hx,jc,ly,jp,d1,dj,di,he,db,g8,gj,ld,f5,hj,j1,d6,d3,c7,hd,c3,lz,kc,e0,fn,l4,i6,du,ht,id,k6,h1,kh,ls,iz,i7,hp,ja,cw,kq],[]⟩ w')
 (m3:∀(jx bh a8 as ao j2 dm k5 il ib ew lr dw d7 i1 kj ct j7 h5 hq i3 cu j9 hu fw gg hg l3 kx lw ds iy kz lf gi h3 ir et d4 cj k7 kt jr eq en ch dz ep f6 jv eg e9 co j8 ki ix e7 cv bc ek gq io c5 gd dp j0 jj fk jw d5 hk fo ed h6 ig kg jz iw dx i8 ji ho jo i4 ij h7 fj hs jb f4 l0 k3 be fy d8 hx jc ly jp d1 dj di he db g8 gj ld f5 hj j1 d6 d3 c7 hd c3 lz kc e0 fn l4 i6 du:Value) (w':World) (y:US),y=V->y.ks=ks->UUp (N2 No N M) B w6 b (rowB bs E) y w'->nr ⟨#[.pointer (some ⟨b,0,none⟩),ee,k9,k8,gu,ha,dn,i0,h9,lv,.slice (some ⟨g1,0,none⟩) 29 d2,.slice (some ⟨g2,0,none⟩) 30 ei,.map (some b7),.map (some b4),jx,bh,a8,as,ao,h2,li,g4,jg,eu,g0,ia,fi,ey,j4,f8,gh,eo,dd,cp,fm,hh,e4,f3,lg,fh,dh,ik,eb,e6,ck,e8,k0,az,lk,a2,cm,fr,cn,cl,gv,cq,ii,iq,hw,dg,dc,jy,gy,im,lm,de,lq,df,jf,ip,ku,fp,jk,ft,je,el,fg,iu,gz,h4,gw,cy,ky,dq,hy,ci,hz,k4,e5,c8,f7,i2,hv,j6,gn,eh,j5,dy,h8,fu,lh,ll,km,g9,i9,jh,j3,ie,em,c9,fe,i5,ko,da,gx,ic,g5,dl,j2,dm,k5,il,ib,ew,lr,dw,d7,i1,kj,ct,j7,h5,hq,i3,cu,j9,hu,fw,gg,hg,l3,kx,lw,ds,iy,kz,lf,gi,h3,ir,et,d4,cj,k7,kt,jr,eq,en,ch,dz,ep,f6,jv,eg,e9,co,j8,ki,ix,e7,cv,bc,ek,gq,io,c5,gd,dp,j0,jj,fk,jw,d5,hk,fo,ed,h6,ig,kg,jz,iw,dx,i8,ji,ho,jo,i4,ij,h7,fj,hs,jb,f4,l0,k3,be,fy,d8,hx,jc,ly,jp,d1,dj,di,he,db,g8,gj,ld,f5,hj,j1,d6,d3,c7,hd,c3,lz,kc,e0,fn,l4,i6,du,ht,id,k6,h1,kh,ls,iz,i7,hp,ja,cw,kq],[]⟩ w'):
 Code.wp Tryz.prog Z3e (Exit.then mx (Exit.inBlock 3 (Exit.then nr (bodyPost Tryz.prog Tryz.f61 R)))) ⟨#[.pointer (some ⟨b,0,none⟩),ee,k9,k8,gu,ha,dn,i0,h9,lv,.slice (some ⟨g1,0,none⟩) 29 d2,.slice (some ⟨g2,0,none⟩) 30 ei,.map (some b7),.map (some b4),u14,u15,u16,u17,u18,h2,li,g4,jg,eu,g0,ia,fi,ey,j4,f8,gh,eo,dd,cp,fm,hh,e4,f3,lg,fh,dh,ik,eb,e6,ck,e8,k0,az,lk,a2,cm,fr,cn,cl,gv,cq,ii,iq,hw,dg,dc,jy,gy,im,lm,de,lq,df,jf,ip,ku,fp,jk,ft,je,el,fg,iu,gz,h4,gw,cy,ky,dq,hy,ci,hz,k4,e5,c8,f7,i2,hv,j6,gn,eh,j5,dy,h8,fu,lh,ll,km,g9,i9,jh,j3,ie,em,c9,fe,i5,ko,da,gx,ic,g5,dl,u118,u119,u120,u121,u122,u123,u124,u125,u126,u127,u128,u129,u130,u131,u132,u133,u134,u135,u136,u137,u138,u139,u140,u141,u142,u143,u144,u145,u146,u147,u148,u149,u150,u151,u152,u153,u154,u155,u156,u157,u158,u159,u160,u161,u162,u163,u164,u165,u166,u167,u168,u169,u170,u171,u172,u173,u174,u175,u176,u177,u178,u179,u180,u181,u182,u183,u184,u185,u186,u187,u188,u189,u190,u191,u192,u193,u194,u195,u196,u197,u198,u199,u200,u201,u202,u203,u204,u205,u206,u207,u208,u209,u210,u211,u212,u213,u214,u215,u216,u217,u218,u219,u220,u221,u222,u223,u224,u225,u226,u227,u228,u229,u230,u231,u232,u233,u234,ht,id,k6,h1,kh,ls,iz,i7,hp,ja,cw,kq],[]⟩ wr:=by
 have c4:=Ab nj;have pq:=Ab m3;clear nj m3;have qj:=Af bs E;have l5:(rowB bs E).length<=200000:=by omega
 obtain⟨_,_,oi,_⟩:=(Aa mo).is.cell;rw[bw]at oi;obtain⟨mc,pp,od,ph⟩:=Aa nf;have ma:=mc bw;have o1:=Wp LA (rowB bs E) x pp;rw[a9]at o1;obtain⟨ff,e1,on,ka⟩:=o1;simp only at ff e1 on ka
 have b9:=Aa l9;have o0:y1.out.length<=3000:=by rw[ff];exact od
 have o5:y1.ks=ks:=e1.trans ph;have qq:=(Cn a9 np).1;have qb:¬kk=256:=by omega
 have qn:((kk:Int)==256)=false:=by rw[beq_eq_false_iff_ne];omega
 have dv:¬(y1.e≠0\/kk=256):=by omega
 have m4:¬kk<256:=by omega
 have rc:¬(kk:Int)<256:=by omega
 have nu:¬285<kk:=by omega
 conv=>arg 2;whnf
 have qc:(kk:Int)<286:=by omega
 have p3:¬(285:Int)<(kk:Int):=by omega
 obtain⟨q,nk⟩:=exq (kk-257);obtain⟨a0,ce⟩:=exq ((samesL.getD q (0,0)).2);obtain⟨aa,bq⟩:=exq ((samesL.getD q (0,0)).1);have nt:=S9 q (by omega);rw[ce,bq]at nt;obtain⟨o7,px⟩:=nt;obtain⟨n0,y2,e2⟩:∃n0 y2,uget (rowB bs E) a0 y1=(n0,y2):=⟨_,_,rfl⟩
 obtain⟨f,O,e3⟩:∃f O,uplace LB (rowB bs E) y2=(f,O):=⟨_,_,rfl⟩
 obtain⟨G,bv⟩:=exq ((if O.e=0/\29<f then Am 8 O else O));have b0:=Fu (rowB bs E) a0 y1;have bj:=Gn (rowB bs E) a0 y1 ka;have o2:=Zo (rowB bs E) a0 y1;rw[e2]at b0 bj o2;have a7:=Wp LB (rowB bs E) y2 bj;rw[e3]at a7
 have bf:G.out=O.out/\G.ks=O.ks/\G.p=O.p:=by
  rw[<-bv]
  split
  . exact Om 8 O
  . exact⟨rfl,rfl,rfl⟩
 simp only at b0 bj o2 a7
 have qt:n0<32:=VG b0 (VU (VO (by decide) o7) (by decide))
 have d9:EJ (rowB bs E) LB kk y1=if G.e≠0 then (false,G)else (true,Z28 (rowB bs E) (aa+n0) f G):=by
  unfold EJ;rw[nk,ce,bq];simp only[e2,e3,bv]
 have n4:=b9;have mq:G.out.length<=3000:=by rw[bf.1,a7.1,o2.1];exact o0
 have mi:G.ks=ks:=bf.2.1.trans (a7.2.1.trans (o2.2.1.trans o5));have m5:G.p<=(rowB bs E).length:=by rw[bf.2.2];exact a7.2.2.2
 have qe:x.p+1<=G.p:=by rw[bf.2.2];omega
 have ax:Hid (G.e≠0->G=V):=Ab (fun T=>by rw[<-b9,Nb bw a9 (false,G) (by rw[if_neg dv,if_neg m4,if_neg nu,d9,if_pos T])];rfl);have aq:Hid (¬G.e≠0->utok (rowB bs E) LA LB F (Z28 (rowB bs E) (aa+n0) f G)=V):=Ab (fun T=>by rw[<-b9,Nb bw a9 (true,Z28 (rowB bs E) (aa+n0) f G) (by rw[if_neg dv,if_neg m4,if_neg nu,d9,if_neg T])];rfl);have q6:(257:Int)<=(kk:Int):=by omega
 have qw:(kk:Int)-257<29:=by omega
 have pn:IntKind.i64.wrap ((kk:Int)-257)=(kk:Int)-257:=by simp[IntKind.wrap,IntKind.signed,IntKind.bits];omega
 have po:((kk:Int)-257).toNat=q:=by omega
 have oq:IntKind.i64.wrap ((aa:Int)+(n0:Int))=(aa:Int)+(n0:Int):=by simp[IntKind.wrap,IntKind.signed,IntKind.bits];omega
 have os:=Ab ce;have o4:=Ab bq;have aj:=Ab bv;have oo:=Ab e3;have n5:=Ab e2;have oe:q<29:=by omega
 have qg:=ma;clear b9 n4 l9 nf mc ma dv a9 d9 e1 ff o2 a7 bf ce bq bv e3 e2 b0 nk;go_wp2_with fail
 refine(Aa na).mono ?_;rintro e m6 ⟨rfl,mm⟩;have an:=Ab ((Aa mo).trans mm);clear mm na;obtain⟨_,_,az,_⟩:=(Aa an).is.cell;rw[np]at az;have m7:=(Aa an).prs (Aa pr) (by omega) nw (by omega) q oe;rw[Aa o4,Aa os]at m7;obtain⟨mg,m8⟩:=m7;have op:g1<m6.heap.size:=by have:=(Aa an).below.size;omega
 have mz:=Ab (fun i=>Hm (N2 No N M) B b a0 _ y1 (m6.drewN i) ((UUp.refl (Aa an).is).drewN i).is (by omega) l5 ka n0 y2 (Aa n5));have ar:=Ab (fun i=>(UUp.refl (Aa an).is).drewN i);have o3:Hid (N2 No N M g1):=Ab (.inr ⟨nw,by omega⟩);go_upto_region 32 with fail
 go_cut [15] (fun bh wc=>bh=.int .i64 ((aa:Int)+(n0:Int))/\Hid (UUp (N2 No N M) B w6 b (rowB bs E) y2 wc))
 case first=>
  go_wp2;go_region_held3 (fun w'=>w'.cell? ⟨g1,q*2,none⟩=some (.int .i64 (aa:Int))/\w'.cell? ⟨g1,q*2+1,none⟩=some (.int .i64 (a0:Int))) (first|assumption|exact⟨by assumption,by assumption⟩) (first|(go_at_call 91;refine(Aa mz _).mono ?_;rintro e nb ⟨rfl,c6⟩;have lj:=((Aa ar _).trans c6).kp g1 op (Aa o3);have q8:=(World.cell?_of_block (a:=⟨g1,q*2,none⟩) lj).trans mg;have qk:=(World.cell?_of_block (a:=⟨g1,q*2+1,none⟩) lj).trans m8;have bb:=Ab ((Aa an).trans ((Aa ar _).trans c6));clear c6 lj))
  all_goals try go_wp2
  all_goals
   go_meet
   exact⟨rfl,bb⟩
 case rest=>
 rename World=>nb
 obtain⟨rfl,bb⟩:=hcut;have fq:=Ab (Aa oh nb y2 (Aa bb) bj);rw[Aa oo]at fq;clear mz ar mg m8 an az;go_wp2_with fail
 refine(Aa fq).mono ?_;rintro e cz ⟨rfl,mu⟩;have a5:=Ab ((Aa bb).trans mu);clear mu fq bb;obtain⟨_,_,a2,_⟩:=(Aa a5).is.cell;obtain⟨bu,m9⟩:=exq (((O.e==0)&&decide (29<f)));have ac:=Ab m9;clear m9;go_upto_region 34 with fail
 go_cut [171] (fun bc wc=>bc=.bool bu/\wc=cz)
 case first=>
  by_cases au:O.e=0
  . rw[au]at a2
    have al:decide ((29:Int)<(f:Int))=bu:=by
     have:=Aa ac
     rw[au]at this;rw[<-this];show _=decide _
     rw[decide_eq_decide];omega
    clear ac aj ax aq;go_wp2;go_meet
    exact⟨by first|rfl|rw[al],rfl⟩
  . have bn:(O.e==0)=false:=by rw[beq_eq_false_iff_ne];exact au
    have al:bu=false:=by rw[<-Aa ac,bn];rfl
    subst al;clear ac aj ax aq;generalize O.e=jm at*;go_wp2;go_meet
    exact⟨rfl,rfl⟩
 case rest=>
 obtain⟨rfl,bg⟩:=hcut;obtain rfl:cz=wc:=bg.symm;clear bg;go_upto_if 171 with (fail)
 go_cut [16] (fun a8 wc=>a8=.int .i64 (f:Int)/\Hid (UUp (N2 No N M) B w6 b (rowB bs E) G wc))
 case first=>
  cases bu with
  |true=>
   have I:=Aa ac;rw[ZM,beq_iff_eq,decide_eq_true_iff]at I;have h0:=Ab (Dn (N2 No N M) B b (rowB bs E) O 8 cz (Aa a5).is);have ap:Hid (Am 8 O=G):=Ab (by rw[<-Aa aj,if_pos I]);clear I ac aj ax aq;go_wp2_with fail
   refine(Aa h0).mono ?_;rintro e ju ⟨rfl,ng⟩;have Z:=Ab ((Aa a5).trans ng);rw[Aa ap]at Z;clear ng;go_wp2;go_meet
   exact⟨rfl,Z⟩
  |false=>
   have I:¬(O.e=0/\29<f):=fun I=>by
    have:=Aa ac
    rw[I.1,decide_eq_true I.2]at this
    cases this
   have ap:Hid (O=G):=Ab (by rw[<-Aa aj,if_neg I]);rw[Aa ap]at a5;clear I ac aj ax aq;go_wp2;go_meet
   exact⟨rfl,a5⟩
 case rest=>
 rename World=>ju
 obtain⟨rfl,Z⟩:=hcut
 have fd:Hid (G.e=0->f<30):=Ab (fun T=>by
  have ay:=Aa aj
  by_cases am:O.e=0/\29<f
  . rw[if_pos am]at ay;rw[<-ay]at T;exact absurd T (Bm (by decide))
  . rw[if_neg am]at ay;rw[<-ay]at T;omega)
 clear a5 a2 ac aj;obtain⟨_,_,mv,_⟩:=(Aa Z).is.cell
 by_cases T:G.e≠0
 . have qz:(G.e !=0)=true:=by simp only[bne_iff_ne,ne_eq];exact T
   have ej:=Ab (And.intro (Aa ax T) (And.intro mi (Aa Z)));clear T ax aq fd;generalize G.e=jm at*;go_wp2;exact Aa pq _ _ _ _ _ _ _ _ _ _ _ _ _ _ _ _ _ _ _ _ _ _ _ _ _ _ _ _ _ _ _ _ _ _ _ _ _ _ _ _ _ _ _ _ _ _ _ _ _ _ _ _ _ _ _ _ _ _ _ _ _ _ _ _ _ _ _ _ _ _ _ _ _ _ _ _ _ _ _ _ _ _ _ _ _ _ _ _ _ _ _ _ _ _ _ _ _ _ _ _ _ _ _ _ _ _ _ _ _ _ _ _ _ _ _ _ _ _ _ _ _ _ _ _ (Aa ej).1 (Aa ej).2.1 (Aa ej).2.2
 have it:=Aa aq T;have mn:G.e=0:=by omega
 have nh:=Aa fd mn;rw[mn]at mv;have mp:=IB f nh;obtain⟨fb,cg⟩:=exq ((farsL.getD f (0,0)).2);obtain⟨f0,cd⟩:=exq ((farsL.getD f (0,0)).1);rw[cg,cd]at mp;obtain⟨pi,pw,p7⟩:=mp;obtain⟨d0,H,bk⟩:∃d0 H,uget (rowB bs E) fb G=(d0,H):=⟨_,_,rfl⟩
 obtain⟨d,me⟩:=exq (f0+d0);obtain⟨nn,md⟩:=exq (aa+n0);obtain⟨Y,ai⟩:=exq ((if H.e=0/\H.out.length<d then Am 9 H else H));obtain⟨U,bz⟩:=exq (ucopy d nn Y)
 have ml:Z28 (rowB bs E) (aa+n0) f G=U:=by
  unfold Z28;rw[cg,cd,md];simp only[bk,me,ai,bz]
 rw[ml]at it;have bt:=Fu (rowB bs E) fb G;have lu:=Gn (rowB bs E) fb G m5;have a6:=Zo (rowB bs E) fb G;rw[bk]at bt lu a6
 have ba:Y.out=H.out/\Y.ks=H.ks/\Y.p=H.p:=by
  rw[<-ai]
  split
  . exact Om 9 H
  . exact⟨rfl,rfl,rfl⟩
 simp only at bt lu a6
 have qv:d0<8192:=VG bt (VU (VO (by decide) pi) (by decide));have a3:=KM d nn Y;rw[bz]at a3;have l8:Y.out.length<=3000:=by rw[ba.1,a6.1];exact mq
 have py:H.out.length<=3000:=by rw[a6.1];exact mq
 have ox:U.p<=(rowB bs E).length:=by rw[a3.2.2,ba.2.2];exact lu
 have jq:x.p+1<=U.p:=by rw[a3.2.2,ba.2.2];omega
 have mk:Y.e=0->d<=Y.out.length:=fun am=>by
  by_cases mw:H.e=0/\H.out.length<d
  . rw[if_pos mw]at ai;rw[<-ai]at am;exact absurd am (Bm (by decide))
  . rw[if_neg mw]at ai;rw[<-ai]at am ⊢;omega
 have js:=Ab it;have g7:Hid (TkI (rowB bs E) ks F U):=Ab ⟨fun _=>by omega,ox,a3.1 l8,a3.2.1.trans (ba.2.1.trans (a6.2.1.trans mi))⟩;have ou:=Ab mk;have my:=Ab bk;have aw:=Ab ai;have pt:=Ab bz;have oy:=Ab cg;have o9:=Ab cd;have qd:1<=d:=by omega
 have q3:d<=40000:=by omega
 have pu:nn<=300:=by omega
 have pj:(f0:Int)+(d0:Int)=(d:Int):=by omega
 have of:(aa:Int)+(n0:Int)=(nn:Int):=by omega
 have p9:IntKind.i64.wrap ((f0:Int)+(d0:Int))=(f0:Int)+(d0:Int):=by simp[IntKind.wrap,IntKind.signed,IntKind.bits];omega
 have o6:IntKind.i64.wrap (d:Int)=(d:Int):=by simp[IntKind.wrap,IntKind.signed,IntKind.bits];omega
 clear ml it a6 ba a3 mk bk ai bz cg cd me md T ax aq fd bt pn oq po;have nv:=(Aa Z).prs (Aa oj) (by omega) ns (by omega) f nh;rw[Aa o9,Aa oy]at nv;obtain⟨nc,l7⟩:=nv;have nz:g2<ju.heap.size:=by have:=(Aa Z).below.size;omega
 have p6:(f:Int)<30:=by omega
 have l6:=Ab (fun i=>Hm (N2 No N M) B b fb _ G (ju.drewN i) ((UUp.refl (Aa Z).is).drewN i).is (by omega) l5 m5 d0 H (Aa my));have ar:=Ab (fun i=>(UUp.refl (Aa Z).is).drewN i);have oc:Hid (N2 No N M g2):=Ab (.inr ⟨ns,by omega⟩);rw[of];go_upto_region 37 with fail
 go_cut [17] (fun as wc=>as=.int .i64 (d:Int)/\Hid (UUp (N2 No N M) B w6 b (rowB bs E) H wc))
 case first=>
  go_wp2;go_region_held3 (fun w'=>w'.cell? ⟨g2,f*2,none⟩=some (.int .i64 (f0:Int))/\w'.cell? ⟨g2,f*2+1,none⟩=some (.int .i64 (fb:Int))) (first|assumption|exact⟨by assumption,by assumption⟩) (first|(go_at_call 91;refine(Aa l6 _).mono ?_;rintro e b5 ⟨rfl,hf⟩;have fx:=((Aa ar _).trans hf).kp g2 nz (Aa oc);have pz:=(World.cell?_of_block (a:=⟨g2,f*2,none⟩) fx).trans nc;have qr:=(World.cell?_of_block (a:=⟨g2,f*2+1,none⟩) fx).trans l7;have af:=Ab ((Aa Z).trans ((Aa ar _).trans hf));clear hf fx))
  all_goals try go_wp2
  all_goals
   go_meet
   exact⟨by first|rfl|rw[o6]|rw[pj],af⟩
 case rest=>
 rename World=>b5
 obtain⟨rfl,af⟩:=hcut;clear l6 ar nc l7 Z mv;obtain⟨_,_,mh,_⟩:=(Aa af).is.cell;obtain⟨qa,qi,n7,_,_,jt,_⟩:=(Aa af).is.rows;obtain⟨bi,jl⟩:=exq (H.out.length);rw[jl]at jt;obtain⟨p0,q0,rfl⟩:=An jt;obtain⟨bd,mj⟩:=exq (((H.e==0)&&decide (bi<d)));have ag:=Ab mj;have gt:=Ab jl;clear mj jt jl;go_upto_region 38 with fail
 go_cut [205] (fun be wc=>be=.bool bd/\wc=b5)
 case first=>
  by_cases au:H.e=0
  . rw[au]at mh
    have al:decide ((bi:Int)<(d:Int))=bd:=by
     have:=Aa ag
     rw[au]at this;rw[<-this];show _=decide _
     rw[decide_eq_decide];omega
    have oa:decide (bi<d)=bd:=by rw[<-al,decide_eq_decide];omega
    clear ag aw;go_wp2;go_meet
    exact⟨by first|rfl|rw[al]|rw[oa],rfl⟩
  . have bn:(H.e==0)=false:=by rw[beq_eq_false_iff_ne];exact au
    have al:bd=false:=by rw[<-Aa ag,bn];rfl
    subst al;clear ag aw;generalize H.e=jm at*;go_wp2;go_meet
    exact⟨rfl,rfl⟩
 case rest=>
 obtain⟨rfl,bg⟩:=hcut;obtain rfl:b5=wc:=bg.symm;clear bg;go_upto_if 205 with (fail)
 go_cut [17] (fun as wc=>as=.int .i64 (d:Int)/\Hid (UUp (N2 No N M) B w6 b (rowB bs E) Y wc))
 case first=>
  cases bd with
  |true=>
   have I:=Aa ag;rw[ZM,beq_iff_eq,decide_eq_true_iff]at I;have h0:=Ab (Dn (N2 No N M) B b (rowB bs E) H 9 b5 (Aa af).is);have ap:Hid (Am 9 H=Y):=Ab (by rw[<-Aa aw,Aa gt,if_pos I]);clear I ag aw;go_wp2_with fail
   refine(Aa h0).mono ?_;rintro e n9 ⟨rfl,mr⟩;have b3:=Ab ((Aa af).trans mr);rw[Aa ap]at b3;clear mr;go_wp2;go_meet
   exact⟨rfl,b3⟩
  |false=>
   have I:¬(H.e=0/\bi<d):=fun I=>by
    have:=Aa ag
    rw[I.1,decide_eq_true I.2]at this
    cases this
   have ap:Hid (H=Y):=Ab (by rw[<-Aa aw,Aa gt,if_neg I]);rw[Aa ap]at af;clear I ag aw;go_wp2;go_meet
   exact⟨rfl,af⟩
 case rest=>
 rename World=>n9
 obtain⟨rfl,b3⟩:=hcut;clear af mh n7 ag aw my gt;go_wp2;go_loopw [18] (fun ao wr=>∃(j:Nat) (z:US),j<=nn/\ao=.int .i64 (j:Int)/\Hid (ucopy d (nn-j) z=U)/\Hid (z.out.length<=3000)/\Hid (z.e=0->d<=z.out.length)/\Hid (UUp (N2 No N M) B w6 b (rowB bs E) z wr)) (fun ao _=>nn-(intOf ao).toNat)
 case atStart=>exact⟨0,Y,VH _,rfl,pt,Ab l8,ou,b3⟩
 case round=>
  obtain⟨j,z,p2,rfl,a1,f9,b8,ae⟩:=hrel;obtain⟨_,_,om,_⟩:=(Aa ae).is.cell
  by_cases a4:z.e=0
  . rw[a4]at om
    by_cases nx:j<nn
    . obtain⟨q4,q7,qf,_,_,bo,_⟩:=(Aa ae).is.rows;obtain⟨av,bm⟩:=exq (z.out.length);have pf:=Aa b8 a4;have pd:=Aa f9;rw[bm]at bo pf pd;obtain⟨oz,q5,rfl,qo,qx⟩:=Ba bo (by omega);obtain⟨r,hr⟩:=exq (av-d);obtain⟨ak,dr⟩:=exq (z.out.getD r 0)
      have cx:wr.cell? ⟨oz,r,none⟩=some (.int .u8 (ak:Int)):=by
       rw[bo.cellAt r (by omega),<-dr];have:r<z.out.length:=by omega
       simp[u8s,List.getD,this]
      have nq:ucopy d (nn-(j+1)) (Fd ak z)=U:=by
       have ah:=Aa a1;rw[show nn-j=(nn-(j+1))+1 by omega,ucopy,if_pos a4,bm,hr,dr]at ah;exact ah
      have ot:=Ab nq;have ow:=Ab (BA ak z)
      have og:Hid ((Fd ak z).e=0->d<=(Fd ak z).out.length):=Ab (fun ay=>by
       obtain⟨_,_,am⟩:=Ud ay;rw[am];show d<=(z.out++ [ak]).length
       rw[VE,bm];omega)
      have ob:=Ab (fun i=>S8 (N2 No N M) B b ak _ z (wr.drewN i) ((UUp.refl (Aa ae).is).drewN i).is (Aa f9) (Aa ny (wr.drewN i) (Aa ae).below.size));have n3:=Ab (fun i=>(UUp.refl (Aa ae).is).drewN i);have dt:(j:Int)<(nn:Int):=by omega
      have q2:(d:Int)<=(av:Int):=by omega
      have qs:(0:Int)<(d:Int):=by omega
      have pv:(av:Int)-(d:Int)<(av:Int):=by omega
      have rd:IntKind.i64.wrap ((av:Int)-(d:Int))=(av:Int)-(d:Int):=by simp[IntKind.wrap,IntKind.signed,IntKind.bits];omega
      have p4:((av:Int)-(d:Int)).toNat=r:=by omega
      clear bo nq dr bm a1 b8;go_wp2;go_region_with (go_at_call 93;refine(Aa ob _).mono ?_;rintro e q1 ⟨rfl,nl⟩;have n6:=Ab ((Aa ae).trans ((Aa n3 _).trans nl));clear nl)
      all_goals try go_wp2
      all_goals
       go_roundw
       case rel=>exact⟨j+1,Fd ak z,by omega,by go_num,ot,Ab ((Aa ow).1 (Aa f9)),og,n6⟩
       case measure=>simp[intOf];omega
    . have pg:j=nn:=by omega
      subst pg
      have ab:Hid (z=U):=Ab (by
       have ah:=Aa a1;rw[XW,ucopy]at ah;exact ah)
      have dt:¬(j:Int)<(j:Int):=by omega
      clear a1 b8;go_wp2;exact Aa c4 _ _ _ _ _ _ _ _ _ _ _ _ _ _ _ _ _ _ _ _ _ _ _ _ _ _ _ _ _ _ _ _ _ _ _ _ _ _ _ _ _ _ _ _ _ _ _ _ _ _ _ _ _ _ _ _ _ _ _ _ _ _ _ _ _ _ _ _ _ _ _ _ _ _ _ _ _ _ _ _ _ _ _ _ _ _ _ _ _ _ _ _ _ _ _ _ _ _ _ _ _ _ _ _ _ _ _ _ _ _ _ _ _ _ _ _ _ _ _ _ _ _ _ z (Ab (by rw[Aa ab];exact Aa js)) (Ab (by rw[Aa ab];exact Aa g7)) (Ab (by rw[Aa ab];exact jq)) ae
  . have ab:Hid (z=U):=Ab (by
     have ah:=Aa a1;rw[KN _ _ _ a4]at ah;exact ah)
    have bn:(z.e==0)=false:=by rw[beq_eq_false_iff_ne];exact a4
    clear a1 b8 a4;generalize z.e=jm at*
    by_cases nx:j<nn
    . have dt:(j:Int)<(nn:Int):=by omega
      go_wp2;exact Aa c4 _ _ _ _ _ _ _ _ _ _ _ _ _ _ _ _ _ _ _ _ _ _ _ _ _ _ _ _ _ _ _ _ _ _ _ _ _ _ _ _ _ _ _ _ _ _ _ _ _ _ _ _ _ _ _ _ _ _ _ _ _ _ _ _ _ _ _ _ _ _ _ _ _ _ _ _ _ _ _ _ _ _ _ _ _ _ _ _ _ _ _ _ _ _ _ _ _ _ _ _ _ _ _ _ _ _ _ _ _ _ _ _ _ _ _ _ _ _ _ _ _ _ _ z (Ab (by rw[Aa ab];exact Aa js)) (Ab (by rw[Aa ab];exact Aa g7)) (Ab (by rw[Aa ab];exact jq)) ae
    . have dt:¬(j:Int)<(nn:Int):=by omega
      go_wp2;exact Aa c4 _ _ _ _ _ _ _ _ _ _ _ _ _ _ _ _ _ _ _ _ _ _ _ _ _ _ _ _ _ _ _ _ _ _ _ _ _ _ _ _ _ _ _ _ _ _ _ _ _ _ _ _ _ _ _ _ _ _ _ _ _ _ _ _ _ _ _ _ _ _ _ _ _ _ _ _ _ _ _ _ _ _ _ _ _ _ _ _ _ _ _ _ _ _ _ _ _ _ _ _ _ _ _ _ _ _ _ _ _ _ _ _ _ _ _ _ _ _ _ _ _ _ _ z (Ab (by rw[Aa ab];exact Aa js)) (Ab (by rw[Aa ab];exact Aa g7)) (Ab (by rw[Aa ab];exact jq)) ae
end Go.Proofs.YtleocpdblhbimaaGreatDoor
