import Derived.Test.YtleocpdblhbimaaGreatDoorQ48
import Derived.Deep.RegionHeld3
set_option linter.unusedSimpArgs false
set_option maxHeartbeats 8000000
namespace Go.Proofs.YtleocpdblhbimaaGreatDoor
open Go.RowKit
set_option linter.unusedVariables false
set_option maxRecDepth 100000
theorem Zo (row:List Bool)(n:Nat)(u:US):(uget row n u).2.out=u.out/\(uget row n u).2.ks=u.ks/\u.p<=(uget row n u).2.p:=by
 unfold uget
 split
 . split
   . exact⟨rfl,rfl,VB _⟩
   . exact⟨rfl,rfl,ZS _ _⟩
 . exact⟨rfl,rfl,VB _⟩
theorem Om (x:Int)(u:US):(Am x u).out=u.out/\(Am x u).ks=u.ks/\(Am x u).p=u.p:=by
 unfold Am
 split<;>exact⟨rfl,rfl,rfl⟩
theorem BA (c:Nat)(u:US):(u.out.length<=3000->(Fd c u).out.length<=3000)/\(Fd c u).ks=u.ks/\(Fd c u).p=u.p:=by
 unfold Fd
 split
 . split
   . exact⟨fun h=>h,rfl,rfl⟩
   . rename_i E
     exact⟨fun h=>by show (u.out++ [c]).length<=3000;rw[VE];simp only[VJ,WE];omega,rfl,rfl⟩
 . exact⟨fun h=>h,rfl,rfl⟩
theorem Wp (l:List Int)(row:List Bool)(u:US)(E:u.p<=row.length):(uplace l row u).2.out=u.out/\(uplace l row u).2.ks=u.ks/\u.p<=(uplace l row u).2.p/\(uplace l row u).2.p<=row.length:=by
 unfold uplace
 split
 . exact⟨rfl,rfl,ZS _ _,Xp l row u.p E⟩
 . exact⟨rfl,rfl,VB _,E⟩
theorem EI (row:List Bool)(k:Nat)(u:US)(E:u.e≠0):ustore row k u=u:=by
 cases k with
 |zero=>rfl
 |succ k=>rw[ustore,if_neg E]
theorem RM (l:Nat):((l:Int)==1)=decide (l=1):=by
 by_cases e:l=1
 . subst e;rfl
 . rw[decide_eq_false e,beq_eq_false_iff_ne];omega
def BkA (No:Nat->Prop)(B:Nat)(w:World)(b:Nat)(row:List Bool)(R:Bool×US)(e:Ending)(w':World):Prop:=e=.returned (.bool R.1)/\UUp No B w b row R.2 w'
theorem JH (No:Nat->Prop)(B b E:Nat)(bs:List Nat)(u:US)(w:World)(h:UIs No B w b (rowB bs E) u)(au:E<=25000)(ar:u.p<=8*E)(l k:Nat)(G F:US)(I:uget (rowB bs E) 1 u=(l,G))(aa:uget (rowB bs E) 2 G=(k,F))(T:F.e≠0):
 Calls Tryz.prog 61 #[.pointer (some ⟨b,0,none⟩)] w fun e w'=>BkA No B w b (rowB bs E) (true,F) e w':=by
 have al:=Af bs E;have O:(rowB bs E).length<=200000:=by omega
 have U:u.p<=(rowB bs E).length:=by omega
 have ae:=Gn _ 1 u U;rw[I]at ae;have H:=Ab h;have af:=Ab I;have ac:=Ab aa;clear h I aa;go_enter Tryz.func61,Tryz.ntmps61
 go_wp2_with fail
 refine(Hm No B b 1 _ u w (Aa H) (by omega) O U l G (Aa af)).mono ?_;rintro e ai ⟨rfl,Y⟩;have M:=Ab Y;clear Y;go_wp2_with fail
 refine(Hm No B b 2 _ G ai (Aa M).is (by omega) O ae k F (Aa ac)).mono ?_;rintro e aj ⟨rfl,Z⟩;have ag:=Ab ((Aa M).trans Z);clear Z M;obtain⟨_,_,ak,_⟩:=(Aa ag).is.cell;have ap:(F.e !=0)=true:=by simp only[bne_iff_ne,ne_eq];exact T
 have ah:Hid (BkA No B w b (rowB bs E) (true,F) (.returned (.bool true)) aj):=Ab ⟨rfl,Aa ag⟩;clear T H af ac;generalize F.e=ao at*;go_wp2;go_ret;exact Aa ah
theorem JI (No:Nat->Prop)(B b E:Nat)(bs:List Nat)(u:US)(w:World)(h:UIs No B w b (rowB bs E) u)(ay:E<=25000)(a1:u.p<=8*E)(l k:Nat)(G F:US)(M:uget (rowB bs E) 1 u=(l,G))(aj:uget (rowB bs E) 2 G=(k,F))(I:F.e=0)(au:3<=k):
 Calls Tryz.prog 61 #[.pointer (some ⟨b,0,none⟩)] w fun e w'=>BkA No B w b (rowB bs E) (true,Am 4 F) e w':=by
 have ax:=Af bs E;have U:(rowB bs E).length<=200000:=by omega
 have ag:u.p<=(rowB bs E).length:=by omega
 have ak:=Gn _ 1 u ag;rw[M]at ak;have H:=Ab h;have af:=Ab M;have ae:=Ab aj;have aw:((k:Int)==0)=false:=by rw[beq_eq_false_iff_ne];omega
 have a2:((k:Int)==1)=false:=by rw[beq_eq_false_iff_ne];omega
 have az:((k:Int)==2)=false:=by rw[beq_eq_false_iff_ne];omega
 clear h M aj au;go_enter Tryz.func61,Tryz.ntmps61
 go_wp2_with fail
 refine(Hm No B b 1 _ u w (Aa H) (by omega) U ag l G (Aa af)).mono ?_;rintro e ao ⟨rfl,aa⟩;have O:=Ab aa;clear aa;go_wp2_with fail
 refine(Hm No B b 2 _ G ao (Aa O).is (by omega) U ak k F (Aa ae)).mono ?_;rintro e av ⟨rfl,ai⟩;have T:=Ab ((Aa O).trans ai);clear ai O;obtain⟨_,_,ah,_⟩:=(Aa T).is.cell;have ap:=Ab (Dn No B b (rowB bs E) F 4 av (Aa T).is);have Z:(Am 4 F).e=4:=by unfold Am;rw[if_pos I]
 rw[I]at ah;clear I H af ae;go_wp2_with fail
 refine(Aa ap).mono ?_;rintro e w3 ⟨rfl,Y⟩;have ac:=Ab ((Aa T).trans Y);clear Y;obtain⟨_,_,ar,_⟩:=(Aa ac).is.cell;rw[Z]at ar;have al:Hid (BkA No B w b (rowB bs E) (true,Am 4 F) (.returned (.bool true)) w3):=Ab ⟨rfl,Aa ac⟩;clear Z ah;go_wp2;go_ret;exact Aa al
theorem RH (No:Nat->Prop)(B b E:Nat)(bs:List Nat)(u:US)(w:World)(h:UIs No B w b (rowB bs E) u)(a8:E<=25000)(ey:u.p<=8*E)(eg:u.out.length<=3000)(bj:u.ks.length<=200000)(cy:∀g,w.heap.size<=g->¬No g)(l:Nat)(ai F:US)(a7:uget (rowB bs E) 1 u=(l,ai))(a1:uget (rowB bs E) 2 ai=(0,F))(bh:F.e=0)(V:US)(bq:ustored (rowB bs E) F=V):
 Calls Tryz.prog 61 #[.pointer (some ⟨b,0,none⟩)] w fun e w'=>BkA No B w b (rowB bs E) (decide (l=1),ukept 0 V) e w':=by
 obtain⟨dj,hi,d8,eo,dv⟩:=info_parts Bv;have e1:=Af bs E;have af:(rowB bs E).length<=200000:=by omega
 have en:u.p<=(rowB bs E).length:=by omega
 obtain⟨d6,e8,cw,bv,eh⟩:=Bn a1 bh;obtain⟨dd,ei,cp,bo,_⟩:=Bn a7 eh;obtain⟨r1,y1,Z⟩:∃r y,uget (rowB bs E) 16 {F with p:=(F.p+7)/8*8}=(r,y):=⟨_,_,rfl⟩
 obtain⟨r2,y2,e2⟩:∃r y,uget (rowB bs E) 16 y1=(r,y):=⟨_,_,rfl⟩
 obtain⟨I,e3⟩:=exq ((if y2.e=0/\r1+r2≠65535 then Am 4 y2 else y2));have T:ustore (rowB bs E) r1 I=V:=by rw[<-bq];unfold ustored;simp only[Z,e2,e3]
 have cm:({F with p:=(F.p+7)/8*8}:US).p<=(rowB bs E).length:=by show (F.p+7)/8*8<=_;omega
 have ao:=Gn _ 16 _ cm;rw[Z]at ao;have bf:=Gn _ 16 y1 ao;rw[e2]at bf;have o1:=Zo (rowB bs E) 16 {F with p:=(F.p+7)/8*8};rw[Z]at o1;have o2:=Zo (rowB bs E) 16 y1;rw[e2]at o2
 have al:I.out=y2.out/\I.ks=y2.ks/\I.p=y2.p:=by
  rw[<-e3]
  split
  . exact Om 4 y2
  . exact⟨rfl,rfl,rfl⟩
 have ar:=Fu (rowB bs E) 16 {F with p:=(F.p+7)/8*8};rw[Z]at ar;have ak:=Fu (rowB bs E) 16 y1;rw[e2]at ak;simp only at ao bf o1 o2 ar ak
 have c7:I.p<=(rowB bs E).length:=by rw[al.2.2];exact bf
 have em:I.out.length<=3000:=by rw[al.1,o2.1,o1.1,cw,cp];exact eg
 have da:I.ks=u.ks:=by rw[al.2.1,o2.2.1,o1.2.1,bv,bo]
 have H:=Ab h;have cd:=Ab cy;have bm:=Ab a7;have b4:=Ab a1;have c6:=Ab Z;have b8:=Ab e2;have U:=Ab e3;have ah:=Ab T;have dz:=Ab bj;have ff:r1<65536:=ar;have fj:r2<65536:=ak;obtain⟨ap,c5⟩:=exq (((y2.e==0)&&decide (r1+r2≠65535)));have M:=Ab c5;clear h cy a7 a1 bq dd d6 bv bo cw cp o1 o2 al bj Z e2 e3 T ar ak c5;go_enter Tryz.func61,Tryz.ntmps61
 go_wp2_with fail
 refine(Hm No B b 1 _ u w (Aa H) (by omega) af en l ai (Aa bm)).mono ?_;rintro e dw ⟨rfl,bi⟩;have ba:=Ab bi;clear bi;go_wp2_with fail
 refine(Hm No B b 2 _ ai dw (Aa ba).is (by omega) af ei 0 F (Aa b4)).mono ?_;rintro e fg ⟨rfl,cn⟩;have aw:=Ab ((Aa ba).trans cn);clear cn;obtain⟨_,dx,cv,f2⟩:=(Aa aw).is.cell;rw[bh]at cv;have dn:Hid (((F.p:Int)+7)/8*8=(((F.p+7)/8*8:Nat):Int)):=Ab (by omega);have az:=Ab ((Aa aw).trans ((Aa aw).is.setP ((F.p+7)/8*8)));go_wp2_with fail
 rw[Aa dn];refine(Hm No B b 16 _ {F with p:=(F.p+7)/8*8} _ (Aa az).is (by omega) af cm r1 y1 (Aa c6)).mono ?_;rintro e di ⟨rfl,b5⟩;have bc:=Ab ((Aa az).trans b5);clear b5;go_wp2_with fail
 refine(Hm No B b 16 _ y1 di (Aa bc).is (by omega) af ao r2 y2 (Aa b8)).mono ?_;rintro e a9 ⟨rfl,b0⟩;have aa:=Ab ((Aa bc).trans b0);clear b0;obtain⟨_,_,bu,_⟩:=(Aa aa).is.cell;clear ba aw az bc dx cv f2 c6 b8 bm b4 H;go_upto_region 9 with fail
 go_cut [58] (fun dy wc=>dy=.bool ap/\wc=a9)
 case first=>
  by_cases bb:y2.e=0
  . rw[bb]at bu
    have bw:((r1:Int)+(r2:Int)!=65535)=ap:=by
     have:=Aa M
     rw[bb]at this;rw[<-this]
     by_cases dl:r1+r2=65535
     . rw[bne_eq_false_iff_eq.2 (by omega),decide_eq_false (by omega)];rfl
     . rw[bne_iff_ne.2 (by omega),decide_eq_true dl];rfl
    clear M U ah;go_wp2;go_meet
    exact⟨rfl,rfl⟩
  . have ci:(y2.e==0)=false:=by rw[beq_eq_false_iff_ne];exact bb
    have bw:ap=false:=by rw[<-Aa M,ci];rfl
    subst bw;clear M U ah;generalize y2.e=db at*;go_wp2;go_meet
    exact⟨rfl,rfl⟩
 case rest=>
 obtain⟨rfl,co⟩:=hcut;obtain rfl:a9=wc:=co.symm;clear co;go_upto_if 58 with (fail)
 go_cut [7] (fun ep wc=>ep=.int .i64 (r1:Int)/\Hid (UUp No B w b (rowB bs E) I wc))
 case first=>
  cases ap with
  |true=>
   have O:=Aa M;rw[ZM,beq_iff_eq,decide_eq_true_iff]at O;have df:=Ab (Dn No B b (rowB bs E) y2 4 a9 (Aa aa).is);have a3:Hid (Am 4 y2=I):=Ab (by rw[<-Aa U,if_pos O]);clear O M U ah;go_wp2_with fail
   refine(Aa df).mono ?_;rintro e w6 ⟨rfl,ae⟩;have Y:=Ab ((Aa aa).trans ae);rw[Aa a3]at Y;clear ae;go_wp2;go_meet
   exact⟨rfl,Y⟩
  |false=>
   have O:¬(y2.e=0/\r1+r2≠65535):=fun O=>by
    have:=Aa M
    rw[O.1,decide_eq_true O.2]at this
    cases this
   have a3:Hid (y2=I):=Ab (by rw[<-Aa U,if_neg O]);rw[Aa a3]at aa;clear O M U ah;go_wp2;go_meet
   exact⟨rfl,aa⟩
 case rest=>
 rename World=>e9
 obtain⟨rfl,dr⟩:=hcut;clear aa bu M U;go_upto_block 1 with (fail)
 go_cut [3] (fun dt wc=>dt=.int .i64 (l:Int)/\Hid (UUp No B w b (rowB bs E) V wc)/\Hid (V.ks=u.ks))
 case first=>
  go_wp2_with fail
  go_loopw [9] (fun a6 wr=>∃(i:Nat) (x:US),i<=r1/\a6=.int .i64 (i:Int)/\Hid (ustore (rowB bs E) (r1-i) x=V)/\Hid (x.p<=(rowB bs E).length)/\Hid (x.out.length<=3000)/\Hid (x.ks=u.ks)/\Hid (UUp No B w b (rowB bs E) x wr)) (fun a6 _=>r1-(intOf a6).toNat)
  case atStart=>exact⟨0,I,VH _,rfl,ah,Ab c7,Ab em,Ab da,dr⟩
  case round=>
   obtain⟨i,x,fo,rfl,T,bk,dh,ax,G⟩:=hrel;obtain⟨_,_,dm,_⟩:=(Aa G).is.cell
   by_cases aj:x.e=0
   . rw[aj]at dm
     by_cases ds:i<r1
     . obtain⟨r,y,a5⟩:∃r y,uget (rowB bs E) 8 x=(r,y):=⟨_,_,rfl⟩
       have b7:ustore (rowB bs E) (r1-(i+1)) (Fd r y)=V:=by
        have:=Aa T
        rw[show r1-i=(r1-(i+1))+1 by omega,ustore,if_pos aj,a5]at this;exact this
       have a4:=Gn (rowB bs E) 8 x (Aa bk);have ag:=Zo (rowB bs E) 8 x;have av:=Fu (rowB bs E) 8 x;rw[a5]at a4 ag av;simp only at a4 ag av
       have ew:r<256:=av;have b9:y.out.length<=3000:=by rw[ag.1];exact Aa dh
       have bd:=Ab (BA r y);have eb:=Ab b7;have ek:Hid (y.ks=u.ks):=Ab (ag.2.1.trans (Aa ax));have cz:(i:Int)<(r1:Int):=by omega
       clear b7 ag av T;go_wp2_with fail
       refine(Hm No B b 8 _ x wr (Aa G).is (by omega) af (Aa bk) r y a5).mono ?_;rintro e w6 ⟨rfl,ae⟩;have Y:=Ab ((Aa G).trans ae);clear ae;go_wp2_with fail
       refine(S8 No B b r _ y w6 (Aa Y).is b9 (fun g du=>Aa cd g (by have:=(Aa Y).below.size;omega))).mono ?_;rintro e eu ⟨rfl,bz⟩;have d5:=Ab ((Aa Y).trans bz);clear bz;go_wp2;go_roundw
       case rel=>exact⟨i+1,Fd r y,by omega,by go_num,eb,Ab (by rw[(Aa bd).2.2];exact a4),Ab ((Aa bd).1 b9),Ab ((Aa bd).2.1.trans (Aa ek)),d5⟩
       case measure=>simp[intOf];omega
     . have hi:i=r1:=by omega
       subst hi
       have a2:x=V:=by
        have:=Aa T
        rw[XW,ustore]at this;exact this
       subst a2;go_wp2;go_meet
       exact⟨rfl,G,ax⟩
   . have a2:x=V:=by
      have:=Aa T
      rw[EI _ _ _ aj]at this;exact this
     subst a2;have ci:(x.e==0)=false:=by rw[beq_eq_false_iff_ne];exact aj
     generalize x.e=db at*
     by_cases ds:i<r1
     . have cz:(i:Int)<(r1:Int):=by omega
       go_wp2;go_meet
       exact⟨rfl,G,ax⟩
     . have cz:¬(i:Int)<(r1:Int):=by omega
       go_wp2;go_meet
       exact⟨rfl,G,ax⟩
 case rest=>
  rename World=>ed
  obtain⟨rfl,G,de⟩:=hcut;obtain⟨ov,kv,_,fe,bg,bn,ac,ct,ck,a8⟩:=(Aa G).is.rows;obtain⟨b3,au⟩:=exq (V.ks.length);have cj:=ac;rw[au]at ac;obtain⟨e5,e7,rfl⟩:=An ac;have fh:=(Aa G).below.size;have et:=(Aa G).is.lt;have e4:b3<=200000:=by rw[<-au,Aa de];exact Aa dz
  have ej:=Ab ac;have dq:=Ab cj;have dp:=Ab bn;have c8:=Ab bg;have d9:=Ab ct;have d7:=Ab ck;have ee:=Ab a8;have dc:=Ab au;have cg:=Ab (Aa G).is;clear ac cj bn bg ct ck a8 au;go_wp2_with (at_builtin;refine wpList_append_own_at _ rfl (.tmp 82) (.tmp 84) 76 rfl (b+1) 3 dj (.int .i64 0) 1 8 Tryz.underlying76 hi d8 eo dv rfl (by decide) _ b3 (i64s V.ks) rfl ((Aa ej).alloc _) ⟨ed.heap.size,0,none⟩ 1 1 [.int .i64 (0)] rfl rfl (cell_one_new _ _ _) (Bc rfl) (by unfold maxLen;omega) (by omega) (by simp;omega) ?_)
  intro v' e0 ay cu _ cq;obtain⟨e6,fi,ce⟩:=UIs.keepK (k:=0) (X:=.cells #[.int .i64 (0)] 3) (Aa cg).base (Aa cg).no (Aa c8) (Aa dp) (Aa dq) (Aa d9) (Aa d7) (Aa ee) (fun g du=>Aa cd g (by omega)) (by rw[Aa dc];exact ay) cu (by simpa using cq);obtain⟨fk,fm,rfl,_,_⟩:=Ba ay (by omega);have c9:=Ab ((Aa G).trans ce);clear ay cu cq ce;go_wp2;go_ret;exact⟨by rw[RM];rfl,Aa c9⟩
theorem KN (d k:Nat)(u:US)(E:u.e≠0):ucopy d k u=u:=by
 cases k with
 |zero=>rfl
 |succ k=>rw[ucopy,if_neg E]
theorem KM (d:Nat):∀(k:Nat) (u:US),(u.out.length<=3000->(ucopy d k u).out.length<=3000)/\(ucopy d k u).ks=u.ks/\(ucopy d k u).p=u.p
 |0,u=>⟨fun h=>h,rfl,rfl⟩
 |k+1,u=>by
  rw[ucopy]
  split
  . have F:=BA (u.out.getD (u.out.length-d) 0) u;have E:=KM d k (Fd (u.out.getD (u.out.length-d) 0) u);exact⟨fun h=>E.1 (F.1 h),E.2.1.trans F.2.1,E.2.2.trans F.2.2⟩
  . exact⟨fun h=>h,rfl,rfl⟩
theorem SR (row:List Bool)(a b:List Int)(F:Nat)(u:US)(E:u.e≠0):utok row a b F u=u:=by
 cases F with
 |zero=>rfl
 |succ F=>rw[utok,if_neg E]
theorem Nb {row:List Bool}{a b:List Int}{F kk:Nat}{x y1:US}(G:x.e=0)(E:uplace a row x=(kk,y1))(R:Bool×US)(I:(if y1.e≠0\/kk=256 then (false,y1)else if kk<256 then (true,Fd kk y1)else if 285<kk then (false,Am 8 y1)else EJ row b kk y1)=R):utok row a b (F+1) x=if R.1 then utok row a b F R.2 else R.2:=by
 have H:Lb row a b x=R:=by rw[<-I];unfold Lb;simp only[E]
 rw[utok,if_pos G,H]
def TkI (row:List Bool)(ks:List Nat)(F:Nat)(x:US):Prop:=(x.e=0->row.length<x.p+F)/\x.p<=row.length/\x.out.length<=3000/\x.ks=ks
def Fc:Code->List Code
 | .loop c=>c::Fc c
 | .seq a b=>Fc a++Fc b
 | .block _ c=>Fc c
 | .scope c=>Fc c
 | .cond _ a b=>Fc a++Fc b
 |_=> []
noncomputable def Z3e:Code:=((Tryz.f61.body.map Fc).getD []).getD 1 .skip
theorem TM {j4 d8 ei k3 jm g0 k5 iz kq mq h2 ky fm ha l6 gi ik f8 gh dy dq j0 fh i5 eo dn hq hw jv hx h6 iq e9 l7 jg ll nf a9 mm a5 f4 j1 kx k9 ed mi mx gw dx km dp jw g4 mz i0 fe ic ht g8 nb jj h3 je cz mr m8 gg i7 lj i3 ii db e8 h5 fi fy ff hu jb h7 g9 ij dl d7 f7 ku h9 ft e0 d9 ly gv jp kj c9 k4 de f6 ml ir mp hs f9 em g5 iu j5 lq gy ji h4 lw dc hf jr dr hz l8 cw dv:Value}{u14 u15 u16 u17 u18 u118 u119 u120 u121 u122 u123 u124 u125 u126 u127 u128 u129 u130 u131 u132 u133 u134 u135 u136 u137 u138 u139 u140 u141 u142 u143 u144 u145 u146 u147 u148 u149 u150 u151 u152 u153 u154 u155 u156 u157 u158 u159 u160 u161 u162 u163 u164 u165 u166 u167 u168 u169 u170 u171 u172 u173 u174 u175 u176 u177 u178 u179 u180 u181 u182 u183 u184 u185 u186 u187 u188 u189 u190 u191 u192 u193 u194 u195 u196 u197 u198 u199 u200 u201 u202 u203 u204 u205 u206 u207 u208 u209 u210 u211 u212 u213 u214 u215 u216 u217 u218 u219 u220 u221 u222 u223 u224 u225 u226 u227 u228 u229 u230 u231 u232 u233 u234:Value}{No:Nat->Prop}{B b E N M g1 l9 g2 j9 ce b5 kk F hs4 hs5:Nat}{bs ks:List Nat}{LA LB:List Int}{V x y1:US}{w6 wr:World}{pv nr:Act->World->Prop}{R:Ending->World->Prop}
 (s7:bs.length=E) (sc:E<=25000) (o3:N<=g1) (nl:N<=g2) (sq:g1<hs4) (ru:g2<hs4) (sf:hs4<=hs5) (se:hs5<=M) (si:w6.heap.size=M) (s8:b<N) (qa:Hid (Prs w6 g1 samesL)) (qy:Hid (Prs w6 g2 farsL))
 (qg:Hid (∀W:World,w6.heap.size<=W.heap.size->∀g,W.heap.size<=g->¬N2 No N M g))
 (oc:Hid (Calls Tryz.prog 98 #[.pointer (some ⟨b,0,none⟩),.map (some ce)] wr fun e w'=>e=.returned (.int .i64 (kk:Int))/\UUp (N2 No N M) B wr b (rowB bs E) y1 w'))
 (p8:Hid (∀(W:World) (x:US),UUp (N2 No N M) B w6 b (rowB bs E) x W->x.p<=(rowB bs E).length->Calls Tryz.prog 98 #[.pointer (some ⟨b,0,none⟩),.map (some b5)] W fun e w'=>e=.returned (.int .i64 ((uplace LB (rowB bs E) x).1:Int))/\UUp (N2 No N M) B W b (rowB bs E) (uplace LB (rowB bs E) x).2 w'))
 (cq:x.e=0) (oe:Hid (TkI (rowB bs E) ks (F+1) x)) (nx:Hid (utok (rowB bs E) LA LB (F+1) x=V)) (bg:uplace LA (rowB bs E) x=(kk,y1)) (oy:y1.e=0) (rn:257<=kk) (sj:kk<=285) (om:Hid (UUp (N2 No N M) B w6 b (rowB bs E) x wr))
 (nt:∀(gq bj bn au ar hg jt mc hk kc k0 mn gj l0 ds fk df iy lm d6 j3 hp gz iw kt fo ib eu fg mo gx ej jy ep lf m4 dz m9 ko k8 ki i6 ma ng c8 mg e1 ig kh hj e5 mh nc l5 c5 ju i9 li bk js f5 jz et dt dh e7 kg fp cu ip ia l4 i1 ix fu lr jl jo jk gu fj eh im mj dm c6 lh j6 en lz cv m7 bi l3 jh ja ek m5 mw ew fx eg lv c7 gd jc lk g7 il h0 md ct ka jf m6 di k7 fq hv j7 lg nh:Value) (w':World) (T:US),Hid (utok (rowB bs E) LA LB F T=V)->Hid (TkI (rowB bs E) ks F T)->Hid (x.p+1<=T.p)->Hid (UUp (N2 No N M) B w6 b (rowB bs E) T w')->pv ⟨#[.pointer (some ⟨b,0,none⟩),j4,d8,ei,k3,jm,g0,k5,iz,kq,.slice (some ⟨g1,0,none⟩) 29 l9,.slice (some ⟨g2,0,none⟩) 30 j9,.map (some ce),.map (some b5),gq,bj,bn,au,ar,mq,h2,ky,fm,ha,l6,gi,ik,f8,gh,dy,dq,j0,fh,i5,eo,dn,hq,hw,jv,hx,h6,iq,e9,l7,jg,ll,nf,a9,mm,a5,f4,j1,kx,k9,ed,mi,mx,gw,dx,km,dp,jw,g4,mz,i0,fe,ic,ht,g8,nb,jj,h3,je,cz,mr,m8,gg,i7,lj,i3,ii,db,e8,h5,fi,fy,ff,hu,jb,h7,g9,ij,dl,d7,f7,ku,h9,ft,e0,d9,ly,gv,jp,kj,c9,k4,de,f6,ml,ir,mp,hs,f9,em,g5,iu,j5,lq,hg,jt,mc,hk,kc,k0,mn,gj,l0,ds,fk,df,iy,lm,d6,j3,hp,gz,iw,kt,fo,ib,eu,fg,mo,gx,ej,jy,ep,lf,m4,dz,m9,ko,k8,ki,i6,ma,ng,c8,mg,e1,ig,kh,hj,e5,mh,nc,l5,c5,ju,i9,li,bk,js,f5,jz,et,dt,dh,e7,kg,fp,cu,ip,ia,l4,i1,ix,fu,lr,jl,jo,jk,gu,fj,eh,im,mj,dm,c6,lh,j6,en,lz,cv,m7,bi,l3,jh,ja,ek,m5,mw,ew,fx,eg,lv,c7,gd,jc,lk,g7,il,h0,md,ct,ka,jf,m6,di,k7,fq,hv,j7,lg,nh,gy,ji,h4,lw,dc,hf,jr,dr,hz,l8,cw,dv],[]⟩ w')
 (np:∀(gq bj bn au ar hg jt mc hk kc k0 mn gj l0 ds fk df iy lm d6 j3 hp gz iw kt fo ib eu fg mo gx ej jy ep lf m4 dz m9 ko k8 ki i6 ma ng c8 mg e1 ig kh hj e5 mh nc l5 c5 ju i9 li bk js f5 jz et dt dh e7 kg fp cu ip ia l4 i1 ix fu lr jl jo jk gu fj eh im mj dm c6 lh j6 en lz cv m7 bi l3 jh ja ek m5 mw ew fx eg lv c7 gd jc lk g7 il h0 md ct ka jf m6 di k7 fq hv j7 lg nh:Value) (w':World) (y:US),y=V->y.ks=ks->UUp (N2 No N M) B w6 b (rowB bs E) y w'->nr ⟨#[.pointer (some ⟨b,0,none⟩),j4,d8,ei,k3,jm,g0,k5,iz,kq,.slice (some ⟨g1,0,none⟩) 29 l9,.slice (some ⟨g2,0,none⟩) 30 j9,.map (some ce),.map (some b5),gq,bj,bn,au,ar,mq,h2,ky,fm,ha,l6,gi,ik,f8,gh,dy,dq,j0,fh,i5,eo,dn,hq,hw,jv,hx,h6,iq,e9,l7,jg,ll,nf,a9,mm,a5,f4,j1,kx,k9,ed,mi,mx,gw,dx,km,dp,jw,g4,mz,i0,fe,ic,ht,g8,nb,jj,h3,je,cz,mr,m8,gg,i7,lj,i3,ii,db,e8,h5,fi,fy,ff,hu,jb,h7,g9,ij,dl,d7,f7,ku,h9,ft,e0,d9,ly,gv,jp,kj,c9,k4,de,f6,ml,ir,mp,hs,f9,em,g5,iu,j5,lq,hg,jt,mc,hk,kc,k0,mn,gj,l0,ds,fk,df,iy,lm,d6,j3,hp,gz,iw,kt,fo,ib,eu,fg,mo,gx,ej,jy,ep,lf,m4,dz,m9,ko,k8,ki,i6,ma,ng,c8,mg,e1,ig,kh,hj,e5,mh,nc,l5,c5,ju,i9,li,bk,js,f5,jz,et,dt,dh,e7,kg,fp,cu,ip,ia,l4,i1,ix,fu,lr,jl,jo,jk,gu,fj,eh,im,mj,dm,c6,lh,j6,en,lz,cv,m7,bi,l3,jh,ja,ek,m5,mw,ew,fx,eg,lv,c7,gd,jc,lk,g7,il,h0,md,ct,ka,jf,m6,di,k7,fq,hv,j7,lg,nh,gy,ji,h4,lw,dc,hf,jr,dr,hz,l8,cw,dv],[]⟩ w'):
 Code.wp Tryz.prog Z3e (Exit.then pv (Exit.inBlock 3 (Exit.then nr (bodyPost Tryz.prog Tryz.f61 R)))) ⟨#[.pointer (some ⟨b,0,none⟩),j4,d8,ei,k3,jm,g0,k5,iz,kq,.slice (some ⟨g1,0,none⟩) 29 l9,.slice (some ⟨g2,0,none⟩) 30 j9,.map (some ce),.map (some b5),u14,u15,u16,u17,u18,mq,h2,ky,fm,ha,l6,gi,ik,f8,gh,dy,dq,j0,fh,i5,eo,dn,hq,hw,jv,hx,h6,iq,e9,l7,jg,ll,nf,a9,mm,a5,f4,j1,kx,k9,ed,mi,mx,gw,dx,km,dp,jw,g4,mz,i0,fe,ic,ht,g8,nb,jj,h3,je,cz,mr,m8,gg,i7,lj,i3,ii,db,e8,h5,fi,fy,ff,hu,jb,h7,g9,ij,dl,d7,f7,ku,h9,ft,e0,d9,ly,gv,jp,kj,c9,k4,de,f6,ml,ir,mp,hs,f9,em,g5,iu,j5,lq,u118,u119,u120,u121,u122,u123,u124,u125,u126,u127,u128,u129,u130,u131,u132,u133,u134,u135,u136,u137,u138,u139,u140,u141,u142,u143,u144,u145,u146,u147,u148,u149,u150,u151,u152,u153,u154,u155,u156,u157,u158,u159,u160,u161,u162,u163,u164,u165,u166,u167,u168,u169,u170,u171,u172,u173,u174,u175,u176,u177,u178,u179,u180,u181,u182,u183,u184,u185,u186,u187,u188,u189,u190,u191,u192,u193,u194,u195,u196,u197,u198,u199,u200,u201,u202,u203,u204,u205,u206,u207,u208,u209,u210,u211,u212,u213,u214,u215,u216,u217,u218,u219,u220,u221,u222,u223,u224,u225,u226,u227,u228,u229,u230,u231,u232,u233,u234,gy,ji,h4,lw,dc,hf,jr,dr,hz,l8,cw,dv],[]⟩ wr:=by
 have lu:=Ab nt;have q2:=Ab np;clear nt np;have s1:=Af bs E;have o0:(rowB bs E).length<=200000:=by omega
 obtain⟨_,_,qm,_⟩:=(Aa om).is.cell;rw[cq]at qm;obtain⟨ou,ql,q5,qk⟩:=Aa oe;have o7:=ou cq;have o1:=Wp LA (rowB bs E) x ql;rw[bg]at o1;obtain⟨eb,dw,qu,dj⟩:=o1;simp only at eb dw qu dj
 have b0:=Aa nx;have qd:y1.out.length<=3000:=by rw[eb];exact q5
 have qx:y1.ks=ks:=dw.trans qk;have s2:=(Cn bg oy).1;have sy:¬kk=256:=by omega
 have rq:((kk:Int)==256)=false:=by rw[beq_eq_false_iff_ne];omega
 have j8:¬(y1.e≠0\/kk=256):=by omega
 have oi:¬kk<256:=by omega
 have sx:¬(kk:Int)<256:=by omega
 have ox:¬285<kk:=by omega
 conv=>arg 2;whnf
 have ss:(kk:Int)<286:=by omega
 have rm:¬(285:Int)<(kk:Int):=by omega
 obtain⟨q,pi⟩:=exq (kk-257);obtain⟨ba,cd⟩:=exq ((samesL.getD q (0,0)).2);obtain⟨aa,bw⟩:=exq ((samesL.getD q (0,0)).1);have pf:=S9 q (by omega);rw[cd,bw]at pf;obtain⟨p7,ri⟩:=pf;obtain⟨n0,y2,e2⟩:∃n0 y2,uget (rowB bs E) ba y1=(n0,y2):=⟨_,_,rfl⟩
 obtain⟨f,O,e3⟩:∃f O,uplace LB (rowB bs E) y2=(f,O):=⟨_,_,rfl⟩
 obtain⟨G,cn⟩:=exq ((if O.e=0/\29<f then Am 8 O else O));have bz:=Fu (rowB bs E) ba y1;have b9:=Gn (rowB bs E) ba y1 dj;have o2:=Zo (rowB bs E) ba y1;rw[e2]at bz b9 o2;have a6:=Wp LB (rowB bs E) y2 b9;rw[e3]at a6
 have bm:G.out=O.out/\G.ks=O.ks/\G.p=O.p:=by
  rw[<-cn]
  split
  . exact Om 8 O
  . exact⟨rfl,rfl,rfl⟩
 simp only at bz b9 o2 a6
 have rs:n0<32:=VG bz (VU (VO (by decide) p7) (by decide))
 have ie:EJ (rowB bs E) LB kk y1=if G.e≠0 then (false,G)else (true,Z28 (rowB bs E) (aa+n0) f G):=by
  unfold EJ;rw[pi,cd,bw];simp only[e2,e3,cn]
 have qw:=b0;have po:G.out.length<=3000:=by rw[bm.1,a6.1,o2.1];exact qd
 have oa:G.ks=ks:=bm.2.1.trans (a6.2.1.trans (o2.2.1.trans qx));have oz:G.p<=(rowB bs E).length:=by rw[bm.2.2];exact a6.2.2.2
 have s4:x.p+1<=G.p:=by rw[bm.2.2];omega
 have az:Hid (G.e≠0->G=V):=Ab (fun U=>by rw[<-b0,Nb cq bg (false,G) (by rw[if_neg j8,if_neg oi,if_neg ox,ie,if_pos U])];rfl);have a1:Hid (¬G.e≠0->utok (rowB bs E) LA LB F (Z28 (rowB bs E) (aa+n0) f G)=V):=Ab (fun U=>by rw[<-b0,Nb cq bg (true,Z28 (rowB bs E) (aa+n0) f G) (by rw[if_neg j8,if_neg oi,if_neg ox,ie,if_neg U])];rfl);have sk:(257:Int)<=(kk:Int):=by omega
 have tb:(kk:Int)-257<29:=by omega
 have pz:IntKind.i64.wrap ((kk:Int)-257)=(kk:Int)-257:=by simp[IntKind.wrap,IntKind.signed,IntKind.bits];omega
 have qn:((kk:Int)-257).toNat=q:=by omega
 have q1:IntKind.i64.wrap ((aa:Int)+(n0:Int))=(aa:Int)+(n0:Int):=by simp[IntKind.wrap,IntKind.signed,IntKind.bits];omega
 have py:=Ab cd;have p5:=Ab bw;have ak:=Ab cn;have q9:=Ab e3;have qe:=Ab e2;have qb:q<29:=by omega
 have sh:=o7;clear b0 qw nx oe ou o7 j8 bg ie dw eb o2 a6 bm cd bw cn e3 e2 bz pi;go_wp2_with fail
 refine(Aa oc).mono ?_;rintro e pd ⟨rfl,nq⟩;have ay:=Ab ((Aa om).trans nq);clear nq oc;obtain⟨_,_,a9,_⟩:=(Aa ay).is.cell;rw[oy]at a9;have oj:=(Aa ay).prs (Aa qa) (by omega) o3 (by omega) q qb;rw[Aa p5,Aa py]at oj;obtain⟨o9,nk⟩:=oj;have qq:g1<pd.heap.size:=by have:=(Aa ay).below.size;omega
 have pn:=Ab (fun i=>Hm (N2 No N M) B b ba _ y1 (pd.drewN i) ((UUp.refl (Aa ay).is).drewN i).is (by omega) o0 dj n0 y2 (Aa qe));have av:=Ab (fun i=>(UUp.refl (Aa ay).is).drewN i);have p1:Hid (N2 No N M g1):=Ab (.inr ⟨o3,by omega⟩);go_upto_region 32 with fail
 go_cut [15] (fun bj wc=>bj=.int .i64 ((aa:Int)+(n0:Int))/\Hid (UUp (N2 No N M) B w6 b (rowB bs E) y2 wc))
 case first=>
  go_wp2;go_region_held3 (fun w'=>w'.cell? ⟨g1,q*2,none⟩=some (.int .i64 (aa:Int))/\w'.cell? ⟨g1,q*2+1,none⟩=some (.int .i64 (ba:Int))) (first|assumption|exact⟨by assumption,by assumption⟩) (first|(go_at_call 91;refine(Aa pn _).mono ?_;rintro e nz ⟨rfl,hh⟩;have i4:=((Aa av _).trans hh).kp g1 qq (Aa p1);have s5:=(World.cell?_of_block (a:=⟨g1,q*2,none⟩) i4).trans o9;have su:=(World.cell?_of_block (a:=⟨g1,q*2+1,none⟩) i4).trans nk;have bo:=Ab ((Aa ay).trans ((Aa av _).trans hh));clear hh i4))
  all_goals try go_wp2
  all_goals
   go_meet
   exact⟨rfl,bo⟩
 case rest=>
 rename World=>nz
 obtain⟨rfl,bo⟩:=hcut;have ee:=Ab (Aa p8 nz y2 (Aa bo) b9);rw[Aa q9]at ee;clear pn av o9 nk ay a9;go_wp2_with fail
 refine(Aa ee).mono ?_;rintro e ho ⟨rfl,pg⟩;have a4:=Ab ((Aa bo).trans pg);clear pg ee bo;obtain⟨_,_,a5,_⟩:=(Aa a4).is.cell;obtain⟨cj,pp⟩:=exq (((O.e==0)&&decide (29<f)));have ag:=Ab pp;clear pp;go_upto_region 34 with fail
 go_cut [171] (fun bk wc=>bk=.bool cj/\wc=ho)
 case first=>
  by_cases a3:O.e=0
  . rw[a3]at a5
    have aj:decide ((29:Int)<(f:Int))=cj:=by
     have:=Aa ag
     rw[a3]at this;rw[<-this];show _=decide _
     rw[decide_eq_decide];omega
    clear ag ak az a1;go_wp2;go_meet
    exact⟨by first|rfl|rw[aj],rfl⟩
  . have b7:(O.e==0)=false:=by rw[beq_eq_false_iff_ne];exact a3
    have aj:cj=false:=by rw[<-Aa ag,b7];rfl
    subst aj;clear ag ak az a1;generalize O.e=cy at*;go_wp2;go_meet
    exact⟨rfl,rfl⟩
 case rest=>
 obtain⟨rfl,bh⟩:=hcut;obtain rfl:ho=wc:=bh.symm;clear bh;go_upto_if 171 with (fail)
 go_cut [16] (fun bn wc=>bn=.int .i64 (f:Int)/\Hid (UUp (N2 No N M) B w6 b (rowB bs E) G wc))
 case first=>
  cases cj with
  |true=>
   have I:=Aa ag;rw[ZM,beq_iff_eq,decide_eq_true_iff]at I;have f3:=Ab (Dn (N2 No N M) B b (rowB bs E) O 8 ho (Aa a4).is);have ax:Hid (Am 8 O=G):=Ab (by rw[<-Aa ak,if_pos I]);clear I ag ak az a1;go_wp2_with fail
   refine(Aa f3).mono ?_;rintro e h1 ⟨rfl,pq⟩;have Z:=Ab ((Aa a4).trans pq);rw[Aa ax]at Z;clear pq;go_wp2;go_meet
   exact⟨rfl,Z⟩
  |false=>
   have I:¬(O.e=0/\29<f):=fun I=>by
    have:=Aa ag
    rw[I.1,decide_eq_true I.2]at this
    cases this
   have ax:Hid (O=G):=Ab (by rw[<-Aa ak,if_neg I]);rw[Aa ax]at a4;clear I ag ak az a1;go_wp2;go_meet
   exact⟨rfl,a4⟩
 case rest=>
 rename World=>h1
 obtain⟨rfl,Z⟩:=hcut
 have d5:Hid (G.e=0->f<30):=Ab (fun U=>by
  have bd:=Aa ak
  by_cases al:O.e=0/\29<f
  . rw[if_pos al]at bd;rw[<-bd]at U;exact absurd U (Bm (by decide))
  . rw[if_neg al]at bd;rw[<-bd]at U;omega)
 clear a4 a5 ag ak;obtain⟨_,_,nu,_⟩:=(Aa Z).is.cell
 by_cases U:G.e≠0
 . have rj:(G.e !=0)=true:=by simp only[bne_iff_ne,ne_eq];exact U
   have na:=Ab (And.intro (Aa az U) (And.intro oa (Aa Z)));clear U az a1 d5;generalize G.e=cy at*;go_wp2;exact Aa q2 _ _ _ _ _ _ _ _ _ _ _ _ _ _ _ _ _ _ _ _ _ _ _ _ _ _ _ _ _ _ _ _ _ _ _ _ _ _ _ _ _ _ _ _ _ _ _ _ _ _ _ _ _ _ _ _ _ _ _ _ _ _ _ _ _ _ _ _ _ _ _ _ _ _ _ _ _ _ _ _ _ _ _ _ _ _ _ _ _ _ _ _ _ _ _ _ _ _ _ _ _ _ _ _ _ _ _ _ _ _ _ _ _ _ _ _ _ _ _ _ _ _ _ _ (Aa na).1 (Aa na).2.1 (Aa na).2.2
 have m3:=Aa a1 U;have nj:G.e=0:=by omega
 have nw:=Aa d5 nj;rw[nj]at nu;have pr:=IB f nw;obtain⟨fb,cm⟩:=exq ((farsL.getD f (0,0)).2);obtain⟨f0,ci⟩:=exq ((farsL.getD f (0,0)).1);rw[cm,ci]at pr;obtain⟨qh,rx,ry⟩:=pr;obtain⟨d0,H,cp⟩:∃d0 H,uget (rowB bs E) fb G=(d0,H):=⟨_,_,rfl⟩
 obtain⟨d,pj⟩:=exq (f0+d0);obtain⟨nn,oo⟩:=exq (aa+n0);obtain⟨Y,ao⟩:=exq ((if H.e=0/\H.out.length<d then Am 9 H else H));obtain⟨T,b8⟩:=exq (ucopy d nn Y)
 have ot:Z28 (rowB bs E) (aa+n0) f G=T:=by
  unfold Z28;rw[cm,ci,oo];simp only[cp,pj,ao,b8]
 rw[ot]at m3;have b3:=Fu (rowB bs E) fb G;have h8:=Gn (rowB bs E) fb G oz;have bc:=Zo (rowB bs E) fb G;rw[cp]at b3 h8 bc
 have bq:Y.out=H.out/\Y.ks=H.ks/\Y.p=H.p:=by
  rw[<-ao]
  split
  . exact Om 9 H
  . exact⟨rfl,rfl,rfl⟩
 simp only at b3 h8 bc
 have sa:d0<8192:=VG b3 (VU (VO (by decide) qh) (by decide));have bb:=KM d nn Y;rw[b8]at bb;have o5:Y.out.length<=3000:=by rw[bq.1,bc.1];exact po
 have rz:H.out.length<=3000:=by rw[bc.1];exact po
 have q6:T.p<=(rowB bs E).length:=by rw[bb.2.2,bq.2.2];exact h8
 have jq:x.p+1<=T.p:=by rw[bb.2.2,bq.2.2];omega
 have nv:Y.e=0->d<=Y.out.length:=fun al=>by
  by_cases og:H.e=0/\H.out.length<d
  . rw[if_pos og]at ao;rw[<-ao]at al;exact absurd al (Bm (by decide))
  . rw[if_neg og]at ao;rw[<-ao]at al ⊢;omega
 have kz:=Ab m3;have du:Hid (TkI (rowB bs E) ks F T):=Ab ⟨fun _=>by omega,q6,bb.1 o5,bb.2.1.trans (bq.2.1.trans (bc.2.1.trans oa))⟩;have q8:=Ab nv;have od:=Ab cp;have a2:=Ab ao;have q0:=Ab b8;have q7:=Ab cm;have qp:=Ab ci;have sb:1<=d:=by omega
 have rv:d<=40000:=by omega
 have r7:nn<=300:=by omega
 have p9:(f0:Int)+(d0:Int)=(d:Int):=by omega
 have qc:(aa:Int)+(n0:Int)=(nn:Int):=by omega
 have r4:IntKind.i64.wrap ((f0:Int)+(d0:Int))=(f0:Int)+(d0:Int):=by simp[IntKind.wrap,IntKind.signed,IntKind.bits];omega
 have rc:IntKind.i64.wrap (d:Int)=(d:Int):=by simp[IntKind.wrap,IntKind.signed,IntKind.bits];omega
 clear ot m3 bc bq bb nv cp ao b8 cm ci pj oo U az a1 d5 b3 pz q1 qn;have oq:=(Aa Z).prs (Aa qy) (by omega) nl (by omega) f nw;rw[Aa qp,Aa q7]at oq;obtain⟨ny,ow⟩:=oq;have p0:g2<h1.heap.size:=by have:=(Aa Z).below.size;omega
 have sr:(f:Int)<30:=by omega
 have o6:=Ab (fun i=>Hm (N2 No N M) B b fb _ G (h1.drewN i) ((UUp.refl (Aa Z).is).drewN i).is (by omega) o0 oz d0 H (Aa od));have av:=Ab (fun i=>(UUp.refl (Aa Z).is).drewN i);have q3:Hid (N2 No N M g2):=Ab (.inr ⟨nl,by omega⟩);rw[qc];go_upto_region 37 with fail
 go_cut [17] (fun au wc=>au=.int .i64 (d:Int)/\Hid (UUp (N2 No N M) B w6 b (rowB bs E) H wc))
 case first=>
  go_wp2;go_region_held3 (fun w'=>w'.cell? ⟨g2,f*2,none⟩=some (.int .i64 (f0:Int))/\w'.cell? ⟨g2,f*2+1,none⟩=some (.int .i64 (fb:Int))) (first|assumption|exact⟨by assumption,by assumption⟩) (first|(go_at_call 91;refine(Aa o6 _).mono ?_;rintro e ck ⟨rfl,fw⟩;have da:=((Aa av _).trans fw).kp g2 p0 (Aa q3);have r9:=(World.cell?_of_block (a:=⟨g2,f*2,none⟩) da).trans ny;have tc:=(World.cell?_of_block (a:=⟨g2,f*2+1,none⟩) da).trans ow;have ah:=Ab ((Aa Z).trans ((Aa av _).trans fw));clear fw da))
  all_goals try go_wp2
  all_goals
   go_meet
   exact⟨by first|rfl|rw[rc]|rw[p9],ah⟩
 case rest=>
 rename World=>ck
 obtain⟨rfl,ah⟩:=hcut;clear o6 av ny ow Z nu;obtain⟨_,_,n3,_⟩:=(Aa ah).is.cell;obtain⟨sn,r5,re,_,_,k6,_⟩:=(Aa ah).is.rows;obtain⟨bv,dd⟩:=exq (H.out.length);rw[dd]at k6;obtain⟨s9,r8,rfl⟩:=An k6;obtain⟨bf,oh⟩:=exq (((H.e==0)&&decide (bv<d)));have ae:=Ab oh;have ey:=Ab dd;clear oh k6 dd;go_upto_region 38 with fail
 go_cut [205] (fun bi wc=>bi=.bool bf/\wc=ck)
 case first=>
  by_cases a3:H.e=0
  . rw[a3]at n3
    have aj:decide ((bv:Int)<(d:Int))=bf:=by
     have:=Aa ae
     rw[a3]at this;rw[<-this];show _=decide _
     rw[decide_eq_decide];omega
    have qv:decide (bv<d)=bf:=by rw[<-aj,decide_eq_decide];omega
    clear ae a2;go_wp2;go_meet
    exact⟨by first|rfl|rw[aj]|rw[qv],rfl⟩
  . have b7:(H.e==0)=false:=by rw[beq_eq_false_iff_ne];exact a3
    have aj:bf=false:=by rw[<-Aa ae,b7];rfl
    subst aj;clear ae a2;generalize H.e=cy at*;go_wp2;go_meet
    exact⟨rfl,rfl⟩
 case rest=>
 obtain⟨rfl,bh⟩:=hcut;obtain rfl:ck=wc:=bh.symm;clear bh;go_upto_if 205 with (fail)
 go_cut [17] (fun au wc=>au=.int .i64 (d:Int)/\Hid (UUp (N2 No N M) B w6 b (rowB bs E) Y wc))
 case first=>
  cases bf with
  |true=>
   have I:=Aa ae;rw[ZM,beq_iff_eq,decide_eq_true_iff]at I;have f3:=Ab (Dn (N2 No N M) B b (rowB bs E) H 9 ck (Aa ah).is);have ax:Hid (Am 9 H=Y):=Ab (by rw[<-Aa a2,Aa ey,if_pos I]);clear I ae a2;go_wp2_with fail
   refine(Aa f3).mono ?_;rintro e qs ⟨rfl,o4⟩;have cg:=Ab ((Aa ah).trans o4);rw[Aa ax]at cg;clear o4;go_wp2;go_meet
   exact⟨rfl,cg⟩
  |false=>
   have I:¬(H.e=0/\bv<d):=fun I=>by
    have:=Aa ae
    rw[I.1,decide_eq_true I.2]at this
    cases this
   have ax:Hid (H=Y):=Ab (by rw[<-Aa a2,Aa ey,if_neg I]);rw[Aa ax]at ah;clear I ae a2;go_wp2;go_meet
   exact⟨rfl,ah⟩
 case rest=>
 rename World=>qs
 obtain⟨rfl,cg⟩:=hcut;clear ah n3 re ae a2 od ey;go_wp2;go_loopw [18] (fun ar wr=>∃(j:Nat) (z:US),j<=nn/\ar=.int .i64 (j:Int)/\Hid (ucopy d (nn-j) z=T)/\Hid (z.out.length<=3000)/\Hid (z.e=0->d<=z.out.length)/\Hid (UUp (N2 No N M) B w6 b (rowB bs E) z wr)) (fun ar _=>nn-(intOf ar).toNat)
 case atStart=>exact⟨0,Y,VH _,rfl,q0,Ab o5,q8,cg⟩
 case round=>
  obtain⟨j,z,rl,rfl,a7,gn,b4,af⟩:=hrel;obtain⟨_,_,qt,_⟩:=(Aa af).is.cell
  by_cases a8:z.e=0
  . rw[a8]at qt
    by_cases pw:j<nn
    . obtain⟨sv,sg,s0,_,_,bu,_⟩:=(Aa af).is.rows;obtain⟨aw,co⟩:=exq (z.out.length);have qf:=Aa b4 a8;have px:=Aa gn;rw[co]at bu qf px;obtain⟨qj,r3,rfl,s6,ta⟩:=Ba bu (by omega);obtain⟨r,hr⟩:=exq (aw-d);obtain⟨ai,e6⟩:=exq (z.out.getD r 0)
      have cx:wr.cell? ⟨qj,r,none⟩=some (.int .u8 (ai:Int)):=by
       rw[bu.cellAt r (by omega),<-e6];have:r<z.out.length:=by omega
       simp[u8s,List.getD,this]
      have ob:ucopy d (nn-(j+1)) (Fd ai z)=T:=by
       have ap:=Aa a7;rw[show nn-j=(nn-(j+1))+1 by omega,ucopy,if_pos a8,co,hr,e6]at ap;exact ap
      have p6:=Ab ob;have rf:=Ab (BA ai z)
      have qz:Hid ((Fd ai z).e=0->d<=(Fd ai z).out.length):=Ab (fun bd=>by
       obtain⟨_,_,al⟩:=Ud bd;rw[al];show d<=(z.out++ [ai]).length
       rw[VE,co];omega)
      have rh:=Ab (fun i=>S8 (N2 No N M) B b ai _ z (wr.drewN i) ((UUp.refl (Aa af).is).drewN i).is (Aa gn) (Aa qg (wr.drewN i) (Aa af).below.size));have qi:=Ab (fun i=>(UUp.refl (Aa af).is).drewN i);have e4:(j:Int)<(nn:Int):=by omega
      have s3:(d:Int)<=(aw:Int):=by omega
      have rk:(0:Int)<(d:Int):=by omega
      have rr:(aw:Int)-(d:Int)<(aw:Int):=by omega
      have r6:IntKind.i64.wrap ((aw:Int)-(d:Int))=(aw:Int)-(d:Int):=by simp[IntKind.wrap,IntKind.signed,IntKind.bits];omega
      have sd:((aw:Int)-(d:Int)).toNat=r:=by omega
      clear bu ob e6 co a7 b4;go_wp2;go_region_with (go_at_call 93;refine(Aa rh _).mono ?_;rintro e rp ⟨rfl,pu⟩;have qo:=Ab ((Aa af).trans ((Aa qi _).trans pu));clear pu)
      all_goals try go_wp2
      all_goals
       go_roundw
       case rel=>exact⟨j+1,Fd ai z,by omega,by go_num,p6,Ab ((Aa rf).1 (Aa gn)),qz,qo⟩
       case measure=>simp[intOf];omega
    . have q4:j=nn:=by omega
      subst q4
      have ac:Hid (z=T):=Ab (by
       have ap:=Aa a7;rw[XW,ucopy]at ap;exact ap)
      have e4:¬(j:Int)<(j:Int):=by omega
      clear a7 b4;go_wp2;exact Aa lu _ _ _ _ _ _ _ _ _ _ _ _ _ _ _ _ _ _ _ _ _ _ _ _ _ _ _ _ _ _ _ _ _ _ _ _ _ _ _ _ _ _ _ _ _ _ _ _ _ _ _ _ _ _ _ _ _ _ _ _ _ _ _ _ _ _ _ _ _ _ _ _ _ _ _ _ _ _ _ _ _ _ _ _ _ _ _ _ _ _ _ _ _ _ _ _ _ _ _ _ _ _ _ _ _ _ _ _ _ _ _ _ _ _ _ _ _ _ _ _ _ _ _ z (Ab (by rw[Aa ac];exact Aa kz)) (Ab (by rw[Aa ac];exact Aa du)) (Ab (by rw[Aa ac];exact jq)) af
  . have ac:Hid (z=T):=Ab (by
     have ap:=Aa a7;rw[KN _ _ _ a8]at ap;exact ap)
    have b7:(z.e==0)=false:=by rw[beq_eq_false_iff_ne];exact a8
    clear a7 b4 a8;generalize z.e=cy at*
    by_cases pw:j<nn
    . have e4:(j:Int)<(nn:Int):=by omega
      go_wp2;exact Aa lu _ _ _ _ _ _ _ _ _ _ _ _ _ _ _ _ _ _ _ _ _ _ _ _ _ _ _ _ _ _ _ _ _ _ _ _ _ _ _ _ _ _ _ _ _ _ _ _ _ _ _ _ _ _ _ _ _ _ _ _ _ _ _ _ _ _ _ _ _ _ _ _ _ _ _ _ _ _ _ _ _ _ _ _ _ _ _ _ _ _ _ _ _ _ _ _ _ _ _ _ _ _ _ _ _ _ _ _ _ _ _ _ _ _ _ _ _ _ _ _ _ _ _ z (Ab (by rw[Aa ac];exact Aa kz)) (Ab (by rw[Aa ac];exact Aa du)) (Ab (by rw[Aa ac];exact jq)) af
    . have e4:¬(j:Int)<(nn:Int):=by omega
      go_wp2;exact Aa lu _ _ _ _ _ _ _ _ _ _ _ _ _ _ _ _ _ _ _ _ _ _ _ _ _ _ _ _ _ _ _ _ _ _ _ _ _ _ _ _ _ _ _ _ _ _ _ _ _ _ _ _ _ _ _ _ _ _ _ _ _ _ _ _ _ _ _ _ _ _ _ _ _ _ _ _ _ _ _ _ _ _ _ _ _ _ _ _ _ _ _ _ _ _ _ _ _ _ _ _ _ _ _ _ _ _ _ _ _ _ _ _ _ _ _ _ _ _ _ _ _ _ _ z (Ab (by rw[Aa ac];exact Aa kz)) (Ab (by rw[Aa ac];exact Aa du)) (Ab (by rw[Aa ac];exact jq)) af
end Go.Proofs.YtleocpdblhbimaaGreatDoor
