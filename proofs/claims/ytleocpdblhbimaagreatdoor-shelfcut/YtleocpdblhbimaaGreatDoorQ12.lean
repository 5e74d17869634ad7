import Derived.Shelf.Strings.Split
import Derived.Shelf.Strings.SlTrimAscii
import Derived.Test.YtleocpdblhbimaaGreatDoorQ9
import Derived.Deep.RegionHeld3
import Derived.Deep.Slices
import Derived.SizedLaws
import Derived.Deep.Strs
set_option linter.unusedVariables false
set_option linter.unusedSimpArgs false
set_option maxRecDepth 100000
set_option maxHeartbeats 8000000
namespace Go.Proofs.YtleocpdblhbimaaGreatDoor
open Go.RowKit Go.Proofs.Tryz
open Go.Value (int)
open Go.IntKind (i64)
variable{x y:Fv}{es:List Ev}{out:List Fv}{bs:List Nat}{s:List UInt8}{X ac b c d g j k m n:Nat}{ah ap:Option Addr}{E I a3 a4 a5 a6 ay az v:Value}{O w w':World}
theorem Vu (h:EsIn w ah c es)(bi:es.length=n)(dt:n<=12)(j1:∀x∈es,ENum x.e):Calls prog 36 #[.slice ah n c] w fun e w'=>∃v,e=.returned v/\w'.ownsRow (w.heap.size+1) 5 1 v (Ba (es.map Ev.e)).length (u8s (Ba (es.map Ev.e)))/\Below w.heap.size w w':=by
 obtain⟨c7,hi,c6,dm,dh⟩:=kas Z0v;obtain⟨l,je⟩:=exq (es.map Ev.e);(have co:l.length=n:=by rw[<-je];simpa using bi);have bk:∀x∈l,ENum x:=yG;(have cq:∀k,(Au (l.take k)).length<=12081*12:=fun k=>by have bn:=Z16 (l.take k) (fun x U=>bk x (VU U));exact zN);(have ct:∀k,(Ao 0 (l.take k)).length<=97*12:=fun k=>by have bn:=GU (l.take k) 0 (fun x U=>bk x (VU U));exact zN);rw[je];have cd:=mW;have cz:Hid (AS w w.heap.size w.heap.size (Au (l.take 0)) (.slice none 0 0) (Wo 0 (l.take 0)) (w.alloc (.cells #[.slice none 0 0] 101))):=Ab (by refine⟨⟨.slice none 0 0,VA _,kae w _,kaq _ _ _ _⟩,kaq _ _ _ _,(kaa _ _).alloc (VA _) _⟩);obtain⟨az,al,cp,cn,ed,ay,b0⟩:=ydG h cq ct j1 co bi cd;clear h cq ct j1 co bi cd bk je;go_enter func36,ntmps36;go_wp2;go_loopw [4,6,14] (fun v4 _ i wr=>∃k:Nat,k<=n/\i=int i64 (k:Int)/\Hid (AS w w.heap.size w.heap.size (Au (l.take k)) v4 (Wo 0 (l.take k)) wr)) (fun _ _ i _=>n-(intOf i).toNat);exact⟨0,VF _,rfl,cz⟩;obtain⟨k,ba,rfl,E⟩:=hrel;by_cases aw:k<n;. obtain⟨x,U,ac⟩:=bU;obtain⟨b,o,rfl,hb,c0,c1,c2,ak,ao,ar,ae,ap⟩:=az.get E.below U;have aj:=Aa b0 k x U;have bh:=Ab (az.all x ac);have au:=Aa cn x ac;have H:=Ab (fun(W:World) (aa:∃v ps,AS w w.heap.size w.heap.size (Au (l.take k)) v ps W)=>Z3f w.heap.size w.heap.size x (Au (l.take k)) W (by obtain⟨v,ps,aa⟩:=aa;exact aa.z) au (by obtain⟨v,ps,aa⟩:=aa;exact bh.pk.below aa.below) (fun g c9 e1 e2=>C7 bh.pk g c9 e1 e2) (oI (Aa al k)));unfold Ev.val at H;have a6:=Ab (Ht aj);obtain⟨x,fa,fc,pa,pc⟩:=x;obtain⟨⟨nml,bys,st,nd,gn⟩,mt,pk,cr⟩:=x;dsimp only at c0 c1 c2 ak ao ar ae ap H;generalize B nml=nm at c0 H;generalize bys.length=bl at c1 H;generalize pk.length=pl at ae H;clear U ac aj au;obtain⟨ov,G⟩:=E.z;obtain⟨d0,ag⟩:=G.new;obtain⟨cv,bo,rfl⟩:=Am G.own;have a5:=Aa al k;obtain⟨L,af⟩:=exq ((Au (l.take k)).length);rw[af]at d0 a5;have a4:=Ab af;have db:=G.lt;have cw:∀o1:Obj,(wr.alloc o1).cell? ⟨w.heap.size,0,none⟩=some (.slice cv L bo):=fun o1=>(ka1 wr o1 _ db).trans d0;have ai:=Ab (fun o1 o2:Obj=>(E.later ((kaa _ _).alloc (VA _) o1)).later ((kaa _ _).alloc (VA _) o2));(have bj:(Wo 0 (l.take k)).length=k:=by rw[DS,VL,Aa ed];omega);have c8:=Ab bj;have bc:=Ab (fun o1 o2:Obj=>(ai o1 o2).p);rw[bj]at bc;clear G af bj;go_wp2_with (at_builtin;refine kao _ rfl _ _ 76 rfl (w.heap.size+1) 3 c7 (int i64 0) 1 8 underlying76 hi c6 dm dh rfl od _ k (i64s (Wo 0 (l.take k))) rfl (bc _ _) ⟨wr.heap.size+1,0,none⟩ 1 1 [int i64 (L:Int)] rfl rfl (fun j u c5=>Rm (Vr oS) c5) (Df rfl) ou om oO ?_);intro v' bv ce a9 _ _;(have I:bv.heap[wr.heap.size]? =some (.cells #[.string nm,.slice fa bl fc,int i64 st,int i64 nd,.bool gn,int .u32 (mt:Int),.slice pa pl pc,int .u32 (cr:Int)] 71 (0,0)):=by refine(a9.block _ oO (fun e=> ?_)).trans ((heap_alloc_old _ _ oS).trans (kae wr _));have:=(E.p.lt _ e.symm).2;omega);have b9:=Ab ((ai _ _).app a9 (by rw[Aa c8];exact ce));have e0:=Ac (i:=0) I;have e1:=Ac (i:=1) I;have e2:=Ac (i:=2) I;have e3:=Ac (i:=3) I;have ck:=Ac (i:=4) I;have b8:=Ac (i:=5) I;have bz:=Ac (i:=6) I;have bw:=Ac (i:=7) I;simp only[WF,VW,WI]at e0 e1 e2 e3 ck b8 bz bw;clear ce a9 I c0 c1 c2 ak ao ar ae ap d0 ag cw bc;go_wp2_with fail;refine(H bv ⟨_,_,b9⟩).mono ?_;rintro e bg ⟨rfl,O⟩;have a7:Hid (AS w w.heap.size w.heap.size (Au (l.take (k+1))) v' (Wo 0 (l.take (k+1))) bg):=Ab (by rw[Aa a6,AB,II,VY,Aa a4];exact b9.up O);clear O e0 e1 e2 e3 ck b8 bz bw;go_wp2;go_roundw;exact⟨k+1,om,by go_num,a7⟩;simp[intOf];omega
 . obtain rfl:n=k:=om;have bd:l.take n=l:=VQ qAP;rw[bd]at E;have a8:=Ab bd;clear bd;obtain⟨ov,G⟩:=E.z;obtain⟨d0,ag⟩:=G.new;obtain⟨cv,bo,rfl⟩:=Am G.own;have a5:=Aa al n;rw[Aa a8]at a5;obtain⟨L,af⟩:=exq ((Au l).length);rw[af]at d0 a5;have a4:=Ab af;clear G af;go_wp2;go_loopw [8,9,37] (fun _ _ i wr=>∃k:Nat,k<=n/\i=int i64 (k:Int)/\Hid (AS w w.heap.size w.heap.size (Au l++Ao 0 (l.take k)) u4 (Wo 0 l) wr)) (fun _ _ i _=>n-(intOf i).toNat);exact⟨0,VF _,rfl,Ab (by simpa[Ao]using Aa E)⟩;clear d0 ag E aw;obtain⟨k,ba,rfl,E⟩:=hrel;by_cases aw:k<n;(. obtain⟨x,U,ac⟩:=bU;obtain⟨b,o,rfl,hb,c0,c1,c2,ak,ao,ar,ae,ap⟩:=az.get E.below U;have aj:=Aa b0 k x U;have bh:=Ab (az.all x ac);have au:=Aa cn x ac;obtain⟨P,cj⟩:=exq ((Au (l.take k)).length);have di:=Aa al k;rw[cj]at di;have cm:=Ab cj;have H:=Ab (fun(W:World) (aa:AS w w.heap.size w.heap.size (Au l++Ao 0 (l.take k)) u4 (Wo 0 l) W)=>Z3e w.heap.size w.heap.size P x (Au l++Ao 0 (l.take k)) W aa.z au om (by rw[VB];have bn:=Aa al n;have av:=Aa cp k;rw[VQ qAP]at bn;omega));unfold Ev.val at H;have a6:=Ab (Ht aj);obtain⟨x,fa,fc,pa,pc⟩:=x;obtain⟨⟨nml,bys,st,nd,gn⟩,mt,pk,cr⟩:=x;dsimp only at c0 c1 c2 ak ao ar ae ap H;generalize B nml=nm at c0 H;generalize bys.length=bl at c1 H;generalize pk.length=pl at ae H;clear U ac aj au;(have b7:(Wo 0 l).length=n:=by rw[DS,Aa ed]);have a3:=E.p;rw[b7]at a3;obtain⟨bb,cy,df,dp,dj⟩:=Ax a3 om;subst df;(have cu:wr.cell? ⟨bb,k,none⟩=some (int i64 (P:Int)):=by rw[a3.cellAt k om,<-Aa cm];have:=Z76 l 0 k (by rw[Aa ed];exact aw);rw[VY]at this;have bu:k<(Wo 0 l).length:=om;simp[List.getD,bu]at this;simp[i64s,bu,this]);have dl:∀o1:Obj,(wr.alloc o1).cell? ⟨bb,k,none⟩=some (int i64 (P:Int)):=fun o1=>(ka1 wr o1 _ dj).trans cu;have ai:=Ab (fun o1:Obj=>E.later ((kaa _ _).alloc (VA _) o1));clear a3 b7 dp;go_wp2;go_region_with (go_at_call 56;refine(H _ ((ai _).later (Ae (kaa _ _) _))).mono ?_;rintro e bg ⟨rfl,O⟩);all_goals (have a7:Hid (AS w w.heap.size w.heap.size (Au l++Ao 0 (l.take (k+1))) (.slice (some ⟨bb,0,none⟩) n cy) (Wo 0 l) bg):=Ab (by rw[Aa a6,Xv,Aa cm,<-VO];exact((ai _).later (Ae (kaa _ _) _)).up O);clear O c0 c1 c2 ak ao ar ae ap cu dl;go_wp2;go_roundw;exact⟨k+1,om,by go_num,a7⟩;simp[intOf];omega));. obtain rfl:n=k:=om;rw[Aa a8]at E;have b5:=Aa cp n;rw[Aa a8]at b5;obtain⟨ov,G⟩:=E.z;obtain⟨d0,ag⟩:=G.new;obtain⟨dq,du,rfl⟩:=Am G.own;obtain⟨T,ax⟩:=exq ((Ao 0 l).length);(have bf:(Au l++Ao 0 l).length=L+T:=by rw[VB,Aa a4,ax]);rw[bf]at d0;rw[ax]at b5;have de:=Ab ax;have ci:((L:Int)+T-(L:Int))=(T:Int):=om;have dn:Hid (Calls prog 57 #[.pointer (some ⟨w.heap.size,0,none⟩),int i64 (n:Int),int i64 ((L:Int)+T-(L:Int)),int i64 (L:Int)] wr fun e w'=>e=.returned (.tuple #[])/\ZUp w.heap.size wr w.heap.size (Au l++Ao 0 l++Sa n T L) w'):=Ab (by rw[ci];exact Z3h w.heap.size w.heap.size n T L (Au l++Ao 0 l) wr E.z om om om (by rw[bf];omega));clear G ax bf ci;go_wp2_with fail;refine dn.mono ?_;rintro e dv ⟨rfl,O⟩;have bm:=E.up O;obtain⟨ov,G⟩:=bm.z;(have bq:Ba l=Au l++Ao 0 l++Sa n T L:=by unfold Ba;rw[Aa ed,Aa de,Aa a4]);have da:=Ab bq;clear d0 ag O bq;obtain⟨d0,ag⟩:=G.new;have cg:=Ab (And.intro G.own bm.below);clear G bm;go_wp2;go_ret;exact⟨_,rfl,by rw[Aa da];exact cg.1,cg.2⟩
theorem Rz {l:List Fl}(h:errM l=0):l.length<=12:=by unfold errM at h;split at h;omega;omega
structure Ans (w w':World)(v:Value)(l:List Fl):Prop where
 ex:∃ad c out,v=.slice ad l.length c/\FsIn w' ad c out/\fls out=l
 bel:Below w.heap.size w w'
theorem Ans.nil (h:Below w.heap.size w w'):Ans w w' (.slice none 0 0) []:=⟨⟨none,0,[],rfl,FsIn.nil _,rfl⟩,h⟩
theorem Ans.row {B:Nat}(h:FRow w' B v out)(I:out.length<=1000)(H:Below w.heap.size w w'):Ans w w' v (fls out):=by obtain⟨ad,c,E,G⟩:=h.files om;exact⟨⟨ad,c,out,by rw[E];simp[fls],G,rfl⟩,H⟩
def spn:List (Nat×Nat):= [(97,122),(65,90),(48,57),(46,46),(95,95),(45,45)]
def Pj (c:Nat)(p:Nat×Nat):Bool:=decide (p.1<=c)&&decide (c<=p.2)
theorem TW:∀c:UInt8,okB c=spn.any (Pj c.toNat):=by have h:∀n:Fin 256,okB (UInt8.ofNat n.val)=spn.any (Pj n.val):=tD;intro c;have:=h ⟨c.toNat,c.toNat_lt⟩;simpa using this
theorem Zda (W:World):(Instr.index 289 (.agg #[int .u8 97,int .u8 122,int .u8 65,int .u8 90,int .u8 48,int .u8 57,int .u8 46,int .u8 46,int .u8 95,int .u8 95,int .u8 45,int .u8 45]) (int i64 0)).run prog W=.ok (.agg #[int .u8 97,int .u8 122]) W:=oR
theorem Zd9 (W:World):(Instr.index 289 (.agg #[int .u8 97,int .u8 122,int .u8 65,int .u8 90,int .u8 48,int .u8 57,int .u8 46,int .u8 46,int .u8 95,int .u8 95,int .u8 45,int .u8 45]) (int i64 1)).run prog W=.ok (.agg #[int .u8 65,int .u8 90]) W:=oR
theorem Zd8 (W:World):(Instr.index 289 (.agg #[int .u8 97,int .u8 122,int .u8 65,int .u8 90,int .u8 48,int .u8 57,int .u8 46,int .u8 46,int .u8 95,int .u8 95,int .u8 45,int .u8 45]) (int i64 2)).run prog W=.ok (.agg #[int .u8 48,int .u8 57]) W:=oR
theorem Zd7 (W:World):(Instr.index 289 (.agg #[int .u8 97,int .u8 122,int .u8 65,int .u8 90,int .u8 48,int .u8 57,int .u8 46,int .u8 46,int .u8 95,int .u8 95,int .u8 45,int .u8 45]) (int i64 3)).run prog W=.ok (.agg #[int .u8 46,int .u8 46]) W:=oR
theorem Zd6 (W:World):(Instr.index 289 (.agg #[int .u8 97,int .u8 122,int .u8 65,int .u8 90,int .u8 48,int .u8 57,int .u8 46,int .u8 46,int .u8 95,int .u8 95,int .u8 45,int .u8 45]) (int i64 4)).run prog W=.ok (.agg #[int .u8 95,int .u8 95]) W:=oR
theorem Zd5 (W:World):(Instr.index 289 (.agg #[int .u8 97,int .u8 122,int .u8 65,int .u8 90,int .u8 48,int .u8 57,int .u8 46,int .u8 46,int .u8 95,int .u8 95,int .u8 45,int .u8 45]) (int i64 5)).run prog W=.ok (.agg #[int .u8 45,int .u8 45]) W:=oR
theorem Ze8 (k:Nat)(E:k<6)(W:World):(Instr.index 289 (.agg #[int .u8 97,int .u8 122,int .u8 65,int .u8 90,int .u8 48,int .u8 57,int .u8 46,int .u8 46,int .u8 95,int .u8 95,int .u8 45,int .u8 45]) (int i64 (k:Int))).run prog W=.ok (.agg #[int .u8 ((spn.getD k (0,0)).1:Nat),int .u8 ((spn.getD k (0,0)).2:Nat)]) W:=by have h:k=0\/k=1\/k=2\/k=3\/k=4\/k=5:=om;rcases h with rfl|rfl|rfl|rfl|rfl|rfl;exact Zda W;exact Zd9 W;exact Zd8 W;exact Zd7 W;exact Zd6 W;exact Zd5 W
theorem Zb4 (k:Nat):(spn.getD k (0,0)).1<256/\(spn.getD k (0,0)).2<256:=by
 match k with
 |0=>decide
 |1=>decide
 |2=>decide
 |3=>decide
 |4=>decide
 |5=>decide
 |k+6=>simp[spn]
theorem Z8e (n:Nat)(E:k<6)(h:Pj n (spn.getD k (0,0))=true):spn.any (Pj n)=true:=by rw[List.any_eq_true];refine⟨spn.getD k (0,0), ?_,h⟩;have hl:k<spn.length:=E;simp[List.getD,hl]
theorem Z49 (n:Nat)(h:∀j,j<6->Pj n (spn.getD j (0,0))=false):spn.any (Pj n)=false:=by rw[List.any_eq_false];intro x G;obtain⟨j,E,rfl⟩:=List.mem_iff_getElem.1 G;have:=h j E;simp[List.getD,E]at this;simp[this]
theorem Y2 (n:Nat)(aj:n<256)(w:World):Calls prog 175 #[int .u8 n] w fun e w'=>e=.returned (.bool (spn.any (Pj n)))/\Below w.heap.size w w':=by have aa:=Ze8;go_enter func175,ntmps175;go_wp2;go_loopw [12] (fun i wr=>∃k:Nat,k<=6/\i=int i64 k/\Hid (∀j,j<k->Pj n (spn.getD j (0,0))=false)/\Hid (Below w.heap.size w wr)) (fun i _=>6-(intOf i).toNat);exact⟨0,VF _,rfl,fun j G=>absurd G om,kaa _ _⟩;obtain⟨k,ag,rfl,H,E⟩:=hrel;by_cases U:k<6;(. have af:=aa k U;obtain⟨ai,ah⟩:=Zb4 k;have I:Hid (Pj n (spn.getD k (0,0))=(decide ((spn.getD k (0,0)).1<=n)&&decide (n<=(spn.getD k (0,0)).2))):=rfl;have ae:=Ab (Z8e n U);generalize (spn.getD k (0,0)).1=lo at*;generalize (spn.getD k (0,0)).2=hi at*;clear aa;have ak:=E.size;by_cases ac:lo<=n;(. by_cases hb:n<=hi;(. go_wp2;go_ret;refine⟨Hc ((Aa ae) ?_).symm,E.alloc E.size _⟩;rw[Aa I];simp[ac,hb]);. go_wp2;go_roundw;refine⟨k+1,om,by go_num,fun j G=> ?_,E.alloc E.size _⟩;by_cases O:j=k;subst O;rw[Aa I];simp[hb];exact H j om;simp[intOf];omega);. go_wp2;go_roundw;refine⟨k+1,om,by go_num,fun j G=> ?_,E.alloc E.size _⟩;by_cases O:j=k;subst O;rw[Aa I];simp[ac];exact H j om;simp[intOf];omega);. obtain rfl:k=6:=om;go_wp2;go_ret;exact⟨Hc (Z49 n H).symm,E⟩
theorem TV (p:ByteArray)(O:p.data.toList≠ [])(I:p.data.toList≠ [46])(H:p.data.toList≠ [46,46])(E:∀j (h:j<p.size),spn.any (Pj (p[j]'h).toNat)=true):okP p.data.toList=true:=by simp only[okP,ZW,kaz];refine⟨⟨⟨O,I⟩,H⟩, ?_⟩;rw[XA];intro x aa;obtain⟨j,G,rfl⟩:=List.mem_iff_getElem.1 aa;rw[TW];(have U:j<p.size:=by rw[Z4b];exact G);exact E j U
theorem Z96 (p:ByteArray)(j:Nat)(h:j<p.size)(E:spn.any (Pj (p[j]'h).toNat)=false):okP p.data.toList=false:=by(have hb:okB (p[j]'h)=false:=by rw[TW];exact E);(have:p.data.toList.all okB=false:=by rw[List.all_eq_false];refine⟨p[j]'h, ?_,by simp[hb]⟩;exact Array.mem_toList_iff.2 (Array.getElem_mem _));simp[okP,this]
theorem GX (p:ByteArray)(l:List UInt8)(h:¬p.data.toList=l):(p.toList==l)=false:=by rw[Lib.toList_data];simpa using h
theorem A9 (p:ByteArray)(h:¬p.data.toList= []):p.toList.isEmpty=false:=by
 rw[Lib.toList_data]
 cases hl:p.data.toList with
 |nil=>exact absurd hl h
 |cons x xs=>rfl
theorem NR (p:ByteArray)(ah:p.size<=maxLen)(w:World):Calls prog 145 #[.string p] w fun e w'=>e=.returned (.bool (okP p.data.toList))/\Below w.heap.size w w':=by
 by_cases aa:p.data.toList= [];(obtain rfl:p=⟨#[]⟩:=by rw[<-KT p,aa];rfl);exact kI;by_cases O:p.data.toList= [46];(obtain rfl:p=⟨#[46]⟩:=by rw[<-KT p,O];rfl);exact kI;by_cases I:p.data.toList= [46,46];(obtain rfl:p=⟨#[46,46]⟩:=by rw[<-KT p,I];rfl);exact kI;have aj:=Ab (TV p aa O I);have e0:=A9 p aa;have e1:=GX p [46] O;have e2:=GX p [46,46] I;clear aa O I;have al:=Ab (Z96 p);go_enter func145,ntmps145;go_wp2;go_loopw [3,16] (fun _ i wr=>∃k:Nat,k<=p.size/\i=int i64 k/\Hid (∀j (h:j<p.size),j<k->spn.any (Pj (p[j]'h).toNat)=true)/\Hid (Below w.heap.size w wr)) (fun _ i _=>p.size-(intOf i).toNat);exact vI;obtain⟨k,ao,rfl,af,H⟩:=hrel;unfold maxLen at ah;have ag:=H.size;by_cases G:k<p.size
 . have U:=Ab (fun W=>Y2 (p[k]'G).toNat (p[k]'G).toNat_lt W)
   cases hm:spn.any (Pj (p[k]'G).toNat)with
   |true=>rw[hm]at U;have ac:=Ab hm;clear hm;go_wp2_with (go_at_call 175;refine((Aa U) _).mono ?_;rintro e ai ⟨rfl,E⟩;have ae:=Ab (H.trans (E.mono ag));clear E);go_roundw;refine⟨k+1,om,by go_num,fun j h hj=> ?_,ae⟩;by_cases ak:j=k;subst ak;exact Aa ac;exact af j h om;simp[intOf];omega
   |false=>rw[hm]at U;have ac:=Ab hm;clear hm;go_wp2_with (go_at_call 175;refine((Aa U) _).mono ?_;rintro e ai ⟨rfl,E⟩;have ae:=Ab (H.trans (E.mono ag));clear E);go_ret;exact⟨Hc ((Aa al) k G (Aa ac)).symm,ae⟩
 . obtain rfl:k=p.size:=om;go_wp2;go_ret;exact⟨Hc ((Aa aj) (fun j h=>(Aa af) j h h)).symm,H⟩
def Q7:Go.Shelf.Ren:=⟨fun|221=>81|268=>113|138=>114|143=>115|195=>152|197=>117|218=>153|219=>154|260=>155|217=>187|225=>188|224=>189|267=>190|266=>214|314=>215|n=>n,fun|9=>9|3=>3|31=>43|4=>4|0=>0|105=>183|21=>21|5=>5|46=>66|119=>261|139=>264|138=>263|146=>266|51=>35|n=>n,fun|1=>0|3=>1|4=>2|n=>n⟩
theorem DC:Go.Proofs.Lays.n221 prog Q7:= {
 mixed:=oR
 f138:=func114.trans (congrArg some oR)
 f143:=func115.trans (congrArg some oR)
 f195:=func152.trans (congrArg some oR)
 f197:=func117.trans (congrArg some oR)
 f217:=func187.trans (congrArg some oR)
 f218:=func153.trans (congrArg some oR)
 f219:=func154.trans (congrArg some oR)
 f221:=func81.trans (congrArg some oR)
 f224:=func189.trans (congrArg some oR)
 f225:=func188.trans (congrArg some oR)
 f260:=func155.trans (congrArg some oR)
 f266:=func214.trans (congrArg some oR)
 f267:=func190.trans (congrArg some oR)
 f268:=func113.trans (congrArg some oR)
 f314:=func215.trans (congrArg some oR)
 t0:=underlying0
 a0:=Tryz.isAgg0
 z0:=Tryz.sizeOf0
 v0:=Tryz.zeroValue0
 t3:=underlying3
 a3:=Tryz.isAgg3
 z3:=Tryz.sizeOf3
 v3:=Tryz.zeroValue3
 t4:=underlying4
 a4:=Tryz.isAgg4
 z4:=Tryz.sizeOf4
 v4:=Tryz.zeroValue4
 t5:=underlying5
 a5:=Tryz.isAgg5
 z5:=Tryz.sizeOf5
 v5:=Tryz.zeroValue5
 t9:=underlying9
 a9:=Tryz.isAgg9
 z9:=Tryz.sizeOf9
 v9:=Tryz.zeroValue9
 t21:=underlying21
 a21:=Tryz.isAgg21
 z21:=Tryz.sizeOf21
 v21:=Tryz.zeroValue21
 t31:=underlying43
 a31:=Tryz.isAgg43
 z31:=Tryz.sizeOf43
 v31:=Tryz.zeroValue43
 t46:=underlying66
 a46:=Tryz.isAgg66
 z46:=Tryz.sizeOf66
 v46:=Tryz.zeroValue66
 t51:=underlying35
 a51:=Tryz.isAgg35
 z51:=Tryz.sizeOf35
 v51:=Tryz.zeroValue35
 t105:=underlying183
 a105:=Tryz.isAgg183
 z105:=Tryz.sizeOf183
 v105:=Tryz.zeroValue183
 t119:=underlying261
 a119:=Tryz.isAgg261
 z119:=Tryz.sizeOf261
 t138:=underlying263
 a138:=Tryz.isAgg263
 z138:=Tryz.sizeOf263
 v138:=Tryz.zeroValue263
 t139:=underlying264
 a139:=Tryz.isAgg264
 z139:=Tryz.sizeOf264
 v139:=Tryz.zeroValue264
 t146:=underlying266
 a146:=Tryz.isAgg266
 z146:=Tryz.sizeOf266
 v146:=Tryz.zeroValue266
 g1:=oR
 g3:=oR
 g4:=oR}
def Wc (ps:List (List UInt8)):List Value:=ps.map fun p=>.string (B p)
theorem Z5o:(prog.info? 9).map (fun i=>(i.zero,i.size,i.bytes))=some (some (.string ByteArray.empty),1,16):=oR
theorem AF (s:ByteArray)(w:World)(I:s.size<4294967281):Calls prog 81 #[.string s,.string ⟨#[47]⟩,int i64 0,int i64 (-1)] w fun e w'=>e=.returned (.slice (some ⟨w.heap.size,0,none⟩) (spl s.data.toList).length (spl s.data.toList).length)/\w'=w.alloc (.cells (Wc (spl s.data.toList)).toArray 9):=by have E:(⟨#[47]⟩:ByteArray).size=1:=rfl;have U:=Lib.countB_le ⟨#[47]⟩ (by rw[E];decide) s.size s (VA _);have O:=Lib.splitB_all ⟨#[47]⟩ (by rw[E];decide) 0 _ s rfl;(have H:∀(x:ByteArray) (c:Array Value),x.size<=s.size->Calls prog (Q7.f 143) #[.string x,.string ⟨#[47]⟩] (w.alloc (.cells c (Q7.t 9))) fun e w'=>e=.returned (int i64 (Lib.indexB x ⟨#[47]⟩))/\w'=w.alloc (.cells c (Q7.t 9)):=by intro x c _;refine(Any.strings_Index_one {DC with} x 47 _).mono ?_;rintro e w' ⟨rfl,rfl⟩;refine⟨?_,rfl⟩;show _=Ending.returned (Value.int .i64 (Lib.index x.data.toList [47]));rw[Lib.index_one]);(have G:Calls prog (Q7.f 138) #[.string s,.string ⟨#[47]⟩] w fun e w'=>e=.returned (int i64 (Lib.countB s ⟨#[47]⟩))/\w'=w:=by refine(Any.strings_Count_one {DC with} s 47 w).mono ?_;rintro e w' ⟨rfl,rfl⟩;refine⟨?_,rfl⟩;show _=Ending.returned (Value.int .i64 (Lib.count s.data.toList [47]:Nat));rw[Lib.count_one];rfl);have c:=Any.strings_genSplit_core DC Z5o s ⟨#[47]⟩ 0 (-1) (Lib.countB s ⟨#[47]⟩+1) w I (by rw[E];decide) (VF _) H G od od (by rw[kac od];omega);rw[YH]at c;(have e2:Lib.cellsOf (Lib.splitB ⟨#[47]⟩ 0 (Lib.countB s ⟨#[47]⟩) s) (Lib.countB s ⟨#[47]⟩+1)=((Lib.splitB ⟨#[47]⟩ 0 (Lib.countB s ⟨#[47]⟩) s).map Value.string).toArray:=by rw[<-O];exact Lib.cellsOf_full _);rw[e2,MA,OW]at c;refine c.mono ?_;rintro e w' ⟨rfl,rfl⟩;refine⟨oS, ?_⟩;simp only[Wc,List.map_map];rfl
theorem Q6 (s:ByteArray)(w:World)(E:s.size<4294967281):Calls prog 58 #[.string s,.string ⟨#[47]⟩] w fun e w'=>e=.returned (.slice (some ⟨w.heap.size,0,none⟩) (spl s.data.toList).length (spl s.data.toList).length)/\w'=w.alloc (.cells (Wc (spl s.data.toList)).toArray 9):=by have c:=AF s w E;go_enter func58,ntmps58;go_wp2_with (go_at_call 81;refine c.mono ?_;rintro e w' ⟨rfl,G⟩;rw[G]);go_ret;exact⟨rfl,rfl⟩
def SRow (w:World)(b:Nat)(v:Value)(ps:List (List UInt8)):Prop:=w.ownsRow b 9 1 v ps.length (Wc ps)
theorem B3 (E:List (List UInt8)):(Wc E).length=E.length:=by simp[Wc]
theorem SRow.nil (w:World)(b:Nat):SRow w b (.slice none 0 0) []:=kaq _ _ _ _
theorem SRow.new (w:World)(E:List (List UInt8))(h:E.length<=maxLen):SRow (w.alloc (.cells (Wc E).toArray 9)) w.heap.size (.slice (some ⟨w.heap.size,0,none⟩) E.length E.length) E:=
 ⟨by rw[B3];omega,.inr ⟨w.heap.size,E.length,(Wc E).toArray,rfl,VA _,kae w _,VA _,h,by simp[B3],by simp[<-B3]⟩⟩
theorem SRow.below {E:List (List UInt8)}(h:SRow w b v E)(G:Below w.heap.size w w'):SRow w' b v E:=W5 h G
theorem SRow.cases {E:List (List UInt8)}(h:SRow w b v E):(v=.slice none 0 0/\E= [])\/∃g cap,v=.slice (some ⟨g,0,none⟩) E.length cap/\b<=g/\g<w.heap.size/\E.length<=cap/\cap<=maxLen/\∀j x,(E.map B)[j]? =some x->w.cell? ⟨g,0+j,none⟩=some (.string x):=by
 obtain⟨ah,O|⟨g,cap,cur,a1,a2,U,aa,af,ai,ac⟩⟩:=h;exact .inl ⟨O.1,ZR.1 O.2⟩
 . (have ae:g<w.heap.size:=by rcases YN g w.heap.size with H|H;exact H;simp[XY H]at U);refine .inr ⟨g,cap,a1,a2,ae,aa,af, ?_⟩;intro j x G;(have ag:j<E.length:=by rcases YN j E.length with H|H;exact H;rw[VZ (by simpa using H)]at G;exact absurd G oS);rw[VY,kbw U];(have e:(cur.toList.take (E.length*1))[j]? =(Wc E)[j]? :=by rw[ac]);rw[List.getElem?_take,kac om]at e;simp only[Wc,UC]at e G;rw[<-Array.getElem?_toList,e]
   cases I:E[j]? with
   |none=>rw[I]at G;exact absurd G oS
   |some p=>rw[I]at G;simp at G ⊢;exact G
theorem BB (h:40<s.length):Ln s=2:=by unfold Ln;rw[kac h]
theorem JW (h:s.length<=40){p:List UInt8}(E:p∈spl s)(H:okP p=false):Ln s=1:=by unfold Ln;rw[kab om,kab];intro G;have:=XA.1 G p E;rw[H]at this;exact absurd this oS
theorem GZ (h:s.length<=40):(spl s).length<=41:=by have:=YQ (a:=(47:UInt8)) (l:=s);rw[SC];omega
def Z8u (s:List UInt8):List (List UInt8):=if Ln s=0 then spl s else []
theorem SX (h:Ln s=0):Z8u s=spl s:=by unfold Z8u;rw[kac h]
theorem Rh (h:Ln s≠0):Z8u s= []:=by unfold Z8u;rw[kab h]
theorem Oq (w:World)(o:Obj):Below w.heap.size w (w.alloc o):=(kaa _ _).alloc (VA _) o
theorem TH (s:List UInt8)(w:World)(ae:s.length<=maxLen):Calls prog 109 #[.string (B s)] w fun e w'=>∃v,e=.returned (.tuple #[v,int i64 (Ln s:Nat)])/\SRow w' w.heap.size v (Z8u s)/\Below w.heap.size w w'/\(Ln s≠0->v=.slice none 0 0):=by
 have j9:=Jp s;unfold maxLen at ae;by_cases aa:40<s.length;. have U:=Ab (BB aa);have av:40<(B s).size:=tG;have ax:(B s).size<=9223372036854775807:=tG;clear j9 aa ae;generalize B s=t at*;go_enter func109,ntmps109;go_wp2;go_ret2;rw[Rh (by rw[Aa U];decide),Aa U];exact⟨_,rfl,SRow.nil _ _,kaa _ _,fun _=>rfl⟩
 . have O:=Q6 (B s) w (by rw[j9];omega);rw[BG]at O;have av:(B s).size<=40:=tG;have ar:=GZ (s:=s) om;obtain⟨ck,U,gv⟩:=mK;have au:∀p∈spl s,p.length<=s.length:=Z6z s;obtain⟨L,ac⟩:=exq ((spl s).length);rw[ac]at O ck ar;have ay:=Ab ac;have ak:Hid (∀j (hj:j<(spl s).length) (W:World),Below (w.heap.size+1) (w.alloc (.cells (Wc (spl s)).toArray 9)) W->W.cell? ⟨w.heap.size,j,none⟩=some (.string (B ((spl s)[j]'hj)))):=vF;have a4:s.length<=40:=om;clear ac j9 aa ae;generalize B s=t at*;go_enter func109,ntmps109;go_wp2_with (go_at_call 58;refine O.mono ?_;rintro e w' ⟨rfl,ao⟩;rw[ao]);clear O;go_loopw [6,14] (fun _ i wr=>∃k:Nat,k<=L/\i=int i64 k/\Hid (∀j (hj:j<(spl s).length),j<k->okP ((spl s)[j]'hj)=true)/\Hid (Below (w.heap.size+1) (w.alloc (.cells (Wc (spl s)).toArray 9)) wr)) (fun _ i _=>L-(intOf i).toNat);exact vI;obtain⟨k,a3,rfl,bf,ap⟩:=hrel;by_cases aw:k<L
   . have G:k<(spl s).length:=tC;have a7:=(Aa ak) k G wr (Aa ap);have al:=ap.size;have a6:=au _ (WO G);have af:=Ab (WO G);have aj:=Ab (fun h=>(Aa U) _ (Aa af) h);have eo:Hid (okP ((spl s)[k]'G)=true->∀j (hj:j<(spl s).length),j<k+1->okP ((spl s)[j]'hj)=true):=yA;generalize (spl s)[k]'G=q at*;have H:=NR (B q) (by rw[Jp];unfold maxLen;omega) wr;rw[BG]at H;clear af;generalize B q=az at*;have ag:w.heap.size+1<=wr.heap.size:=by simp at al;omega
     cases E:okP q with
     |true=>rw[E]at H;have lr:=Ab E;clear E;go_wp2_with (go_at_call 145;refine H.mono ?_;rintro e ai ⟨rfl,I⟩;have dj:=Ab (ap.trans (I.mono ag));clear I);go_roundw;exact wM;simp[intOf];omega
     |false=>rw[E]at H;have lr:=Ab E;clear E;go_wp2_with (go_at_call 145;refine H.mono ?_;rintro e ai ⟨rfl,I⟩;have dj:=Ab (ap.trans (I.mono ag));clear I);go_ret2;have ah:=(Aa aj) (Aa lr);rw[Rh (by rw[ah];decide),ah];exact⟨_,rfl,SRow.nil _ _,(Oq w _).trans (dj.mono (UI _)),fun _=>rfl⟩
   exact qX
theorem Z2d (s:List UInt8)(w:World)(E:s.length<=maxLen):Calls prog 74 #[.string (B s)] w fun e w'=>e=.returned (int i64 (Ln s:Nat))/\Below w.heap.size w w':=by have c:=TH s w E;generalize B s=t at*;go_enter func74,ntmps74;go_wp2_with (go_at_call 109;refine c.mono ?_;rintro e w' ⟨v,rfl,_,hb,_⟩;have G:=Ab hb;clear hb);go_ret;exact⟨rfl,G⟩
theorem AX {f:Fl}(h:Ln f.name≠0):Lg f=Ln f.name:=by unfold Lg;rw[kac h]
theorem AY {f:Fl}(h:Ln f.name=0)(E:3000<f.bytes.length):Lg f=2:=by unfold Lg;rw[kab (by simp[h]),kac E]
theorem Yw {f:Fl}(h:Ln f.name=0)(E:¬3000<f.bytes.length)(G:f.stamp<0\/1000000<f.stamp\/f.node<0\/3<f.node):Lg f=3:=by unfold Lg;rw[kab (by simp[h]),kab E,kac G]
theorem AW {f:Fl}(h:Ln f.name=0)(E:¬3000<f.bytes.length)(G:¬(f.stamp<0\/1000000<f.stamp\/f.node<0\/3<f.node)):Lg f=if f.gone=true/\0<f.bytes.length then 4 else 0:=by unfold Lg;rw[kab (by simp[h]),kab E,kab G]
theorem J0 (h:FvIn w x):Calls prog 52 #[x.val] w fun e w'=>e=.returned (int i64 (Lg x.f:Nat))/\Below w.heap.size w w':=by
 have hc:=fun W=>Z2d x.f.name W (by have:=h.txt;unfold maxLen;omega);have e0:= @AX x.f;have e1:= @AY x.f;have e2:= @Yw x.f;have e3:= @AW x.f;rw[Db];clear h;obtain⟨⟨nm,bs,st,nd,gn⟩,a,c⟩:=x;simp only at*;have ak:∀W W':World,Below W.heap.size W W'->Below W.heap.size W W':=fun _ _ h=>h;generalize B nm=t at*;generalize bs.length=n at*;have aa:=Ab hc;by_cases I:Ln nm=0
 . replace e1:=e1 I;replace e2:=e2 I;replace e3:=e3 I;rw[I]at aa;clear e0 I hc
   have leaf:∀(E:Nat),Hid (Lg ⟨nm,bs,st,nd,gn⟩=E)->Hid ((E=2/\3000<n)\/ (E=3/\n<=3000/\(st<0\/ (0<=st/\1000000<st)\/ (0<=st/\st<=1000000/\nd<0)\/ (0<=st/\st<=1000000/\0<=nd/\4<=nd)))\/ (E=4/\n<=3000/\0<=st/\st<=1000000/\0<=nd/\nd<4/\gn=true/\0<n)\/ (E=0/\n<=3000/\0<=st/\st<=1000000/\0<=nd/\nd<4/\gn=true/\n=0)\/ (E=0/\n<=3000/\0<=st/\st<=1000000/\0<=nd/\nd<4/\gn=false))->
    Calls prog 52 #[.agg #[.string t,.slice a n c,int i64 st,int i64 nd,.bool gn]] w fun e w'=>e=.returned (int i64 ((Lg ⟨nm,bs,st,nd,gn⟩:Nat):Int))/\Below w.heap.size w w':=by
    intro E ag ah
    rw[Aa ag]
    clear e1 e2 e3 ag
    rcases Aa ah with ⟨rfl,G⟩|⟨rfl,G,O|⟨O,H⟩|⟨O,H,U⟩|⟨O,H,U,af⟩⟩|⟨rfl,G,O,H,U,af,rfl,aj⟩|⟨rfl,G,O,H,U,af,rfl,rfl⟩|⟨rfl,G,O,H,U,af,rfl⟩
    all_goals (
     clear ah
     go_enter func52,ntmps52
     go_wp2_with fail
     refine(aa _).mono ?_
     rintro e w' ⟨rfl,hb⟩
     have c1:=(hb.cell (p:=⟨w.heap.size,1,none⟩) oS).trans (by simp;rfl)
     have c2:=(hb.cell (p:=⟨w.heap.size,2,none⟩) oS).trans (by simp;rfl)
     have al:=(hb.cell (p:=⟨w.heap.size,3,none⟩) oS).trans (by simp;rfl)
     have ap:=(hb.cell (p:=⟨w.heap.size,4,none⟩) oS).trans (by simp;rfl)
     have ac:=sE
     clear hb
     go_wp2
     go_ret
     exact⟨rfl,ac⟩)
   have ao:=Ab (rfl:bs.length=bs.length);by_cases G:3000<n;exact leaf 2 (e1 G) (.inl ⟨rfl,G⟩)
   . by_cases H:st<0\/1000000<st\/nd<0\/3<nd;refine leaf 3 (e2 G H) (.inr (.inl ⟨rfl,om,om⟩))
     . have ae:=e3 G H
       cases gn with
       |true=>by_cases hn:0<n;exact leaf 4 (by rw[ae,kac ⟨rfl,hn⟩];rfl) (.inr (.inr (.inl ⟨rfl,om,om,om,om,om,rfl,hn⟩)));exact leaf 0 (by rw[ae,kab (fun k=>hn k.2)];rfl) (.inr (.inr (.inr (.inl ⟨rfl,om,om,om,om,om,rfl,om⟩))))
       |false=>exact leaf 0 (by rw[ae,kab (fun k=>by cases k.1)];rfl) (.inr (.inr (.inr (.inr ⟨rfl,om,om,om,om,om,rfl⟩))))
 . rw[e0 I];clear e0 e1 e2 e3 hc;obtain⟨k,ai⟩:=exq (Ln nm);rw[ai]at aa I ⊢;go_enter func52,ntmps52;go_wp2_with fail;refine(aa _).mono ?_;rintro e w' ⟨rfl,hb⟩;have ac:=sE;clear hb;go_wp2;go_ret;exact⟨rfl,ac⟩
def ahd (xs:List Fv):Nat->Option Fl
 |0=>none
 |k+1=>(fls xs)[k]?
theorem BA {xs:List Fv}(h:xs[k]? =some x):K7 (ahd xs k) ((fls xs).drop k)=if Lg x.f≠0 then Lg x.f else if behind (ahd xs k) x.f=false then 4 else K7 (ahd xs (k+1)) ((fls xs).drop (k+1)):=by(have E:(fls xs)[k]? =some x.f:=by simp[fls,h]);(have H:k<(fls xs).length:=by rcases YN k (fls xs).length with G|G;exact G;. rw[VZ G]at E;cases E);(have e:(fls xs).drop k=x.f::(fls xs).drop (k+1):=by rw[WX H];congr 1;rw[VP H]at E;exact VK E);rw[e,K7];(show _=if Lg x.f≠0 then Lg x.f else if behind (ahd xs k) x.f=false then 4 else K7 ((fls xs)[k]?) _);rw[E]
theorem Z6v (x y:List UInt8):Op.bytesLess (B x).toList (B y).toList=decide (Dy x y<0):=by rw[Ea,Ea,D8]
theorem Z6w (x y:List UInt8):((B x).toList==(B y).toList)=decide (Dy x y=0):=by rw[Ea,Ea,XU,ka2,ka5,BL]
theorem PG (E:Option Addr)(c:Nat)(w:World)(h:12<n):Calls prog 34 #[.slice E n c] w fun e w'=>e=.returned (int i64 2)/\w'=w:=by go_enter func34,ntmps34;go_wp2;go_ret;exact⟨rfl,rfl⟩
theorem Jf {xs:List Fv}(h:FsIn w ah c xs)(n:Nat)(hn:xs.length=n):Calls prog 34 #[.slice ah n c] w fun e w'=>e=.returned (int i64 (errM (fls xs):Nat))/\Below w.heap.size w w':=by
 have hl:=pA;by_cases hm:12<n;(have e:errM (fls xs)=2:=by unfold errM;rw[kac om]);rw[e];refine(PG ah c w hm).mono ?_;rintro e w' ⟨rfl,rfl⟩;exact⟨rfl,kaa _ _⟩
 . have e:=rW;obtain⟨E,al⟩:=exq (K7 none (fls xs));rw[e,al];obtain⟨av,bf,bh,ay⟩:=ydD h hn al hl;clear h e al hn hl;go_enter func34,ntmps34;go_wp2;go_loopw [3,4,5,11] (fun _ _ _ i wr=>∃k:Nat,k<=n/\i=int i64 (k:Int)/\Hid (K7 (ahd xs k) ((fls xs).drop k)=E)/\Hid (Below w.heap.size w wr)) (fun _ _ _ i _=>n-(intOf i).toNat);exact⟨0,VF _,rfl,bh,kaa _ _⟩;obtain⟨k,bo,rfl,ck,ap⟩:=hrel;by_cases aw:k<n
   . obtain⟨x,ai,a4⟩:=dR;obtain⟨b,o,rfl,hb,c0,c1,c2,bd,bi⟩:=av.get ap ai;have G:=BA ai;rw[Aa ck]at G;have bb:=ap.size;have H:=Ab (fun W (a9:Below w.heap.size w W)=>J0 ((av.all x a4).below a9 (VA _)));have af:=Ab G;rw[Db]at H;unfold Fv.sl at c1;obtain⟨er,az⟩:=exq (Lg x.f);rw[az]at H af;clear G az a4;have bz:=Ab ai;clear ai;obtain⟨I,bk,bv⟩:=x;simp only at*;have ba:∃nm,I.name=nm:=⟨_,rfl⟩;obtain⟨nm,ar⟩:=ba;rw[ar]at c0 H;obtain⟨t,aj⟩:=exq (B nm);rw[aj]at c0 H;have bj:=Ab aj;have bc:=Ab ar;clear aj ar;generalize I.bytes.length=bn at*;generalize I.stamp=st at*;generalize I.node=nd at*;generalize I.gone=gn at*;have ax:∀ag,Below w.heap.size w (wr.alloc ag):=fun ag=>ap.alloc bb ag;have jj:=Ab ax;clear ax;by_cases a5:er=0
     . subst a5
       cases k with
       |zero=>simp only[YU,XS]at c0 c1 c2 bd bi;have G:=Aa af;rw[kab oS,kab (by simp[ahd,behind])]at G;have eo:=Ab G;clear G;go_wp2_with fail;refine(H _ (jj _)).mono ?_;rintro e au ⟨rfl,bu⟩;have dj:=dE;clear bu;go_wp2;go_quiet (fail);go_wp2;go_roundw;exact⟨1,om,by go_num,eo.symm,Ae dj _⟩;simp[intOf];omega
       |succ j=>
        obtain⟨y,ao,bg⟩:=Lm (xs:=xs) (k:=j) (by rw[Aa bf];omega);obtain⟨bm,ag,a8,b0,d0,_⟩:=av.get ap ao;cases a8;have G:=Aa af;rw[kab oS]at G;(have a6:ahd xs (j+1)=some y.f:=by show (fls xs)[j]? =_;simp[fls,ao]);rw[a6]at G;have ac:=Z6v nm y.f.name;have U:=Z6w nm y.f.name;(have a3:behind (some y.f) I=decide (Dy y.f.name nm<0):=by show decide (Dy y.f.name I.name<0)=_;rw[Aa bc]);rw[a3]at G;have aa:=Ew nm y.f.name;rw[Aa bj]at ac U;generalize B y.f.name=r5 at*;generalize y.f.name=ae at*;clear a3 a6 ao bg;have bq:((j+1:Nat):Int)-1=(j:Int):=om;have bw:(j:Int)<n:=om;by_cases ak:Dy nm ae=1;. rw[ak]at ac U aa;rw[kab (by rw[aa];decide)]at G;have eo:=Ab G;simp only[Int.reduceLT,Int.reduceEq,kb0]at ac U;clear G aa ak;go_wp2_with fail;refine(H _ (jj _)).mono ?_;rintro e au ⟨rfl,bu⟩;have dj:=dE;have a7:=bO;have r0:=fD;clear bu;go_wp2;go_quiet (fail);go_wp2;go_roundw;exact⟨j+2,om,by go_num,eo.symm,Ae dj _⟩;simp[intOf];omega
        . (have O:(Dy nm ae= -1\/Dy nm ae=0):=by rcases Bu nm ae with h|h|h<;>omega);rw[kac (by rw[aa];apply kak;omega)]at G;have eo:=Ab G;clear G aa ak;rcases O with O|O
          all_goals (
           rw[O]at ac U
           simp only[Int.reduceLT,Int.reduceEq,Int.reduceNeg,decide_true,kb0]at ac U
           clear O
           go_wp2_with fail
           refine(H _ (jj _)).mono ?_
           rintro e au ⟨rfl,bu⟩
           have dj:=dE
           have a7:=bO
           have r0:=fD
           clear bu
           go_wp2
           go_quiet (fail)
           go_wp2
           go_ret
           exact⟨Bm (by rw[Aa eo];rfl),Ae dj _⟩)
     . have G:=Aa af;rw[kac (by simpa using a5)]at G;have eo:=Ab G;clear G;go_wp2_with fail;refine(H _ (jj _)).mono ?_;rintro e au ⟨rfl,bu⟩;exact vE
   exact zZ
theorem FsIn.new (w:World)(xs:List Fv)(t:TypeId)(A:Array Value)(n:Nat)(I:A=(fcells xs).toArray)(U:xs.length=n)(h:∀x∈xs,FvIn w x)(G:xs.length<=2199023255552):FsIn (w.alloc (.cells A t)) (some ⟨w.heap.size,0,none⟩) n xs:=by subst U;refine⟨.inr ⟨w.heap.size,0,rfl,oS, ?_⟩,VA _,om,G,fun x O=>(h x O).alloc _⟩;intro j x E;(have hc:∀i u,i<5->x.cells[i]? =some u->(w.alloc (.cells A t)).cell? ⟨w.heap.size,0+j*5+i,none⟩=some u:=by intro i u hi H;rw[kar _ _ _ _ rfl,I];have e:=Kk xs j x i E hi;rw[VY];simpa using e.trans H);exact zR
theorem FvIn.bare (w:World)(f:Fl)(E:f.bytes= [])(G:f.name.length<=140737488355328):FvIn w ⟨f,none,0⟩:=⟨.inl ⟨rfl,E,rfl⟩,by rw[E];simp,G⟩
def LIn (w:World)(v:Value)(l:List Fl):Prop:=∃ad c out,v=.slice ad l.length c/\FsIn w ad c out/\fls out=l
theorem Ans.lin {l:List Fl}(h:Ans w w' v l):LIn w' v l:=h.ex
theorem LIn.below {l:List Fl}(h:LIn w v l)(I:Below w.heap.size w w'):LIn w' v l:=by obtain⟨ad,c,out,E,G,H⟩:=h;exact⟨ad,c,out,E,G.below I (VA _),H⟩
theorem LIn.shape {l:List Fl}(h:LIn w v l):∃ad c,v=.slice ad l.length c:=by obtain⟨ad,c,out,E,_⟩:=h;exact⟨ad,c,E⟩
theorem Mc {l:List Fl}(h:fls out=l):out.length=l.length:=by rw[<-h];simp[fls]
theorem Z7d {xs:List Fv}(h:FsIn w ah c xs)(E:xs.length=n):LIn w (.slice ah n c) (fls xs):=⟨ah,c,xs,by rw[<-E];simp[fls],h,rfl⟩
def RdA (w:World)(bs:List Nat)(e:Ending)(w':World):Prop:=∃v,e=.returned (.tuple #[v,int i64 (readE bs:Nat)])/\LIn w' v (readL bs)/\Below w.heap.size w w'
theorem LIn.nil (w:World):LIn w (.slice none 0 0) []:=⟨none,0,[],rfl,FsIn.nil w,rfl⟩
theorem RdA.bad (h:readE bs=k)(E:k≠0)(G:Below w.heap.size w w'):RdA w bs (.returned (.tuple #[.slice none 0 0,int i64 (k:Int)])) w':=by(have hl:readL bs= []:=by unfold readL;rw[kac (by rw[h];exact E)]);exact⟨.slice none 0 0,by rw[h],by rw[hl];exact LIn.nil _,G⟩
theorem JQ (E:List Ev):fls (E.map Ev.fv)=(E.map Ev.e).map En.f:=by simp[fls,Ev.fv,ZM]
theorem QE (n aw:Nat)(a:Option Addr)(bs:List Nat)(w:World)(ae:bs.length=n)(c6:n<=aw)(ar:PkIn w a aw bs)(au:∀x∈bs,x<256)(d7:n<=9223372036854775807)(ac:Zct bs):Calls prog 14 #[.slice a n aw] w fun e w'=>RdA w bs e w':=by
 by_cases hn:12000<n;. have O:=Ab (RdA.bad (w:=w) (w':=w) (bs:=bs) (k:=2) (by unfold readE;rw[kac om]) od (kaa _ _));have c9:(12000:Int)<n:=om;clear ar au ae ac;go_enter func14,ntmps14;go_wp2;go_ret2;exact O
 . have H:readE bs=match Cd (n+1) bs with
    |none=>7
    |some l=>if errM (l.map En.f)≠0\/Ba l≠bs then 7 else if sumsF l=false then 10 else 0:=by
    conv=>lhs;unfold readE
    rw[kab om,ae]
    cases Cd (n+1) bs<;>rfl
   (have I:readL bs=if readE bs≠0 then []else ((Cd (n+1) bs).getD []).map En.f:=by unfold readL;rw[ae]);have c9:¬(12000:Int)<n:=om;obtain⟨cu,dz,bq,bm,b8,bc⟩:=ydF (G5 ae om c6 ar au ac) ar au H I ae;clear ar au H I ae ac;go_enter func14,ntmps14;go_wp2_with fail;refine cu.mono ?_;rintro e dl ⟨ah,(⟨G,rfl⟩|⟨v,es,G,rfl,co,_⟩)⟩;. have O:=Ab (RdA.bad (w:=w) (w':=dl) (bs:=bs) (k:=7) (by rw[Aa bm,G]) od ah);clear ah G;go_wp2;go_ret2;exact O
   . obtain⟨ad,c,rfl,bf⟩:=co.entries;obtain⟨cm,bo⟩:=Ux bq G;have bk:=Uw G bq;have H:=Aa bm;rw[G]at H;dsimp only at H;have I:=Aa b8;rw[G]at I;obtain⟨l,av⟩:=exq (es.map Ev.e);obtain⟨k,af⟩:=exq (es.length);(have cz:l.length=k:=by rw[<-av];simpa using af);rw[av]at bo H I G cm bk;have dm:=Ab bk;rw[af];(have cv:k<=20000:=by have:=Aa bc;omega);obtain⟨cj,cp,aa,U,dh,bn,dt,cn⟩:=ydH (EZ bf af cv) bf av af bo H I ah;clear ah co bf cm bo H I G av af cz bk cu bm b8;go_wp2_with fail;refine cj.mono ?_;rintro e ed ⟨v2,rfl,bw,a8⟩;obtain⟨ao,c2,rfl,a6⟩:=bw.files (by rw[Aa U];omega);rw[Aa U];have a9:=Ab (Jf a6 k (by simpa using Aa U));obtain⟨E,ak⟩:=exq (errM (fls (es.map Ev.fv)));rw[ak]at a9;rw[JQ,Aa aa]at ak;have bg:=Ab ak;have dv:=Ab a6;have dp:=cn.size;have cg:=Ab (cn.trans (a8.mono dp));have ck:=Ab a8;clear bw a6 a8 ak cj;go_wp2_with fail;refine a9.mono ?_;rintro e c7 ⟨rfl,ai⟩;have db:=cg.size;obtain⟨ap,az,b0⟩:=ydC (cg.trans (ai.mono db)) (ck.trans (ai.mono ck.size)) ai;clear ai a9;by_cases d5:E=0
     . subst d5;have a5:=Hf bg;(have ba:∀x∈es,ENum x.e:=fun x a4=>by(have b5:x.e∈l:=by rw[<-Aa aa];exact WZ a4);have bj:=Aa dh x.e b5;have d9:=Oi (a5.2 x.e.f (WZ b5));have d6:=Aa bc;have eb:=bj.pl;exact⟨⟨om,om⟩,⟨om,om⟩,om,om,om,bj.cr,bj.mt⟩);(have du:k<=12:=by have:=a5.1;rw[<-Aa aa]at this;simpa[Aa U]using this);have a7:=Ab (Vu (cp.below az) U du ba);rw[Aa aa]at a7;have cw:Hid (∀x∈es,x.e.f.bytes.length<=12000):=Ab (fun x a4=>by have:=(ba x a4).bl;omega);have dq:Hid (∀y∈Ba l,y<256):=Ab (Se l dm);clear a5 ba;go_wp2_with fail;refine a7.mono ?_;rintro e da ⟨v4,rfl,bv,ag⟩;obtain⟨de,di,rfl,cq,dj,cy,dw⟩:=Tu bv;have cd:=Ab ((dz.below ap).below ag);have c5:=ap.size;obtain⟨bd,df,dx,aj⟩:=ydD (ap.trans (ag.mono c5)) (az.trans (ag.mono az.size)) (b0.trans (ag.mono b0.size)) (Vt de a _ di n aw (Ba l) bs da rfl bc (Cq dq) (Cq bq) cq.1 cd.1);obtain⟨d8,ax⟩:=exq ((Ba l).length);obtain⟨dn,bi⟩:=exq ((Ba l==bs));rw[ax,bi]at aj;rw[ax];have ce:=Ab bi;clear bv ag cq dj cy dw ax bi a7 cd;go_wp2_with fail;refine aj.mono ?_;rintro e dy ⟨rfl,rfl⟩
       cases dn with
       |false=>(have bu:Ba l≠bs:=by have:=Aa ce;rw[kad]at this;exact this);have O:=Ab (RdA.bad (w:=w) (w':=dy) (bs:=bs) (k:=7) (by rw[Aa bn,kac (.inr bu)]) od bd);clear bu aj;go_wp2;go_ret2;exact O
       |true=>
        have ci:Ba l=bs:=eq_of_beq ce;have a3:=Aa bn;rw[kab (by rintro (h|h);exact h (Aa bg);exact h ci)]at a3;have bz:=Ab a3;obtain⟨S,ac⟩:=exq (sumsF l);have bb:=Ab (Q1 (cp.below df) U cv cw S (by rw[Aa aa];exact ac));have ct:=Ab ac;clear ci a3 ac aj;go_wp2_with fail;refine bb.mono ?_;rintro e w6 ⟨rfl,al⟩;have c8:=bd.size;have b7:=Ab (bd.trans (al.mono c8))
        cases S with
        |false=>have O:=Ab (RdA.bad (w:=w) (w':=w6) (bs:=bs) (k:=10) (by rw[Aa bz,kac (Aa ct)]) od b7);clear al bb;go_wp2;go_ret2;exact O
        |true=>(have bh:readE bs=0:=by rw[Aa bz,kab (by rw[Aa ct];decide)]);(have ay:readL bs=l.map En.f:=by have:=Aa dt;rw[kab (by rw[bh];decide)]at this;exact this);have b9:FsIn w6 ao c2 (es.map Ev.fv):=(dv.below dx (VA _)).below (al.mono om) (VA _);have O:Hid (RdA w bs (.returned (.tuple #[.slice ao k c2,int i64 0])) w6):=Ab ⟨.slice ao k c2,by rw[bh];rfl,⟨ao,c2,es.map Ev.fv,by rw[ay,<-Aa aa];simp[Aa U],b9,by rw[JQ,Aa aa,ay]⟩,b7⟩;clear al bb bh ay b9;go_wp2;go_ret2;exact O
     have O:=Ab (RdA.bad (w:=w) (w':=c7) (bs:=bs) (k:=7) (by rw[Aa bn,kac (.inl (by rw[Aa bg];exact d5))]) od ap);exact kC
def Zb2:Go.Shelf.Ren:=⟨fun|160=>59|232=>83|231=>82|227=>84|234=>86|233=>85|236=>88|235=>87|228=>116|271=>119|151=>118|197=>117|120=>157|152=>156|260=>155|137=>191|119=>192|224=>189|225=>188|217=>187|266=>214|n=>n,fun|9=>9|4=>4|3=>3|5=>5|117=>143|116=>142|0=>0|124=>146|21=>21|105=>183|46=>66|119=>261|139=>264|138=>263|n=>n,fun|3=>1|4=>2|n=>n⟩
theorem Z81:Go.Proofs.Lays.n160 prog Zb2:= {
 mixed:=oR
 f119:=func192.trans (congrArg some oR)
 f120:=func157.trans (congrArg some oR)
 f137:=func191.trans (congrArg some oR)
 f151:=func118.trans (congrArg some oR)
 f152:=func156.trans (congrArg some oR)
 f160:=func59.trans (congrArg some oR)
 f197:=func117.trans (congrArg some oR)
 f217:=func187.trans (congrArg some oR)
 f224:=func189.trans (congrArg some oR)
 f225:=func188.trans (congrArg some oR)
 f227:=func84.trans (congrArg some oR)
 f228:=func116.trans (congrArg some oR)
 f231:=func82.trans (congrArg some oR)
 f232:=func83.trans (congrArg some oR)
 f233:=func85.trans (congrArg some oR)
 f234:=func86.trans (congrArg some oR)
 f235:=func87.trans (congrArg some oR)
 f236:=func88.trans (congrArg some oR)
 f260:=func155.trans (congrArg some oR)
 f266:=func214.trans (congrArg some oR)
 f271:=func119.trans (congrArg some oR)
 t0:=underlying0
 a0:=Tryz.isAgg0
 z0:=Tryz.sizeOf0
 v0:=Tryz.zeroValue0
 t3:=underlying3
 a3:=Tryz.isAgg3
 z3:=Tryz.sizeOf3
 v3:=Tryz.zeroValue3
 t4:=underlying4
 a4:=Tryz.isAgg4
 z4:=Tryz.sizeOf4
 v4:=Tryz.zeroValue4
 t5:=underlying5
 a5:=Tryz.isAgg5
 z5:=Tryz.sizeOf5
 v5:=Tryz.zeroValue5
 t9:=underlying9
 a9:=Tryz.isAgg9
 z9:=Tryz.sizeOf9
 v9:=Tryz.zeroValue9
 t21:=underlying21
 a21:=Tryz.isAgg21
 z21:=Tryz.sizeOf21
 v21:=Tryz.zeroValue21
 t46:=underlying66
 a46:=Tryz.isAgg66
 z46:=Tryz.sizeOf66
 v46:=Tryz.zeroValue66
 t105:=underlying183
 a105:=Tryz.isAgg183
 z105:=Tryz.sizeOf183
 v105:=Tryz.zeroValue183
 t116:=underlying142
 a116:=Tryz.isAgg142
 z116:=Tryz.sizeOf142
 t117:=underlying143
 a117:=Tryz.isAgg143
 z117:=Tryz.sizeOf143
 v117:=Tryz.zeroValue143
 t119:=underlying261
 a119:=Tryz.isAgg261
 z119:=Tryz.sizeOf261
 t124:=underlying146
 a124:=Tryz.isAgg146
 z124:=Tryz.sizeOf146
 v124:=Tryz.zeroValue146
 t138:=underlying263
 a138:=Tryz.isAgg263
 z138:=Tryz.sizeOf263
 v138:=Tryz.zeroValue263
 t139:=underlying264
 a139:=Tryz.isAgg264
 z139:=Tryz.sizeOf264
 v139:=Tryz.zeroValue264
 g3:=oR
 g4:=oR}
theorem RI:(prog.info? 142).map (fun i=>(i.zero,i.size))=some (some (.agg (Array.replicate 256 (.bool false))),256):=oR
theorem trimS (p:List UInt8)(w:World)(E:p.length<=maxLen):
 Calls prog 59 #[.string (B p),.string (B Ic)] w fun e w'=>e=.returned (.string (B (Lib.trimS p Ic)))/\Below w.heap.size w w':=
 Any.strings_Trim_laid Z81 RI (B p) (B Ic) w (by rw[Jp];exact E) od (ascii_of_all (l:=Ic) od)
theorem Z4y {p:List UInt8}(H:p≠ [])(E:p≠ [46])(G:p≠ [46,46]):okP p=true↔Lib.trimS p Ic= []:=by rw[Z3w];simp[okP,H,E,G]
theorem MM (s:List UInt8)(w:World)(ah:s.length<=maxLen):Calls prog 37 #[.string (B s)] w fun e w'=>∃v,e=.returned (.tuple #[v,int i64 (Ln s:Nat)])/\SRow w' w.heap.size v (Z8u s)/\Below w.heap.size w w'/\(Ln s≠0->v=.slice none 0 0):=by
 have j9:=Jp s;unfold maxLen at ah;by_cases af:40<s.length;. have ae:=Ab (BB af);have a9:40<(B s).size:=tG;have ba:(B s).size<=9223372036854775807:=tG;clear j9 af ah;generalize B s=t at*;go_enter func37,ntmps37;go_wp2;go_ret2;rw[Rh (by rw[Aa ae];decide),Aa ae];exact⟨_,rfl,SRow.nil _ _,kaa _ _,fun _=>rfl⟩
 . have ac:=Q6 (B s) w (by rw[j9];omega);rw[BG]at ac;have a9:(B s).size<=40:=tG;have a7:=GZ (s:=s) om;obtain⟨ck,ae,gv⟩:=mK;have a8:∀p∈spl s,p.length<=s.length:=Z6z s;obtain⟨L,ag⟩:=exq ((spl s).length);rw[ag]at ac ck a7;have ay:=Ab ag;have az:Hid (∀j (hj:j<(spl s).length) (W:World),Below (w.heap.size+1) (w.alloc (.cells (Wc (spl s)).toArray 9)) W->W.cell? ⟨w.heap.size,j,none⟩=some (.string (B ((spl s)[j]'hj)))):=vF;have bd:s.length<=40:=om;clear ag j9 af ah;generalize B s=t at*;go_enter func37,ntmps37;go_wp2_with (go_at_call 58;refine ac.mono ?_;rintro e w' ⟨rfl,a4⟩;rw[a4]);clear ac;go_loopw [6,14] (fun _ i wr=>∃k:Nat,k<=L/\i=int i64 k/\Hid (∀j (hj:j<(spl s).length),j<k->okP ((spl s)[j]'hj)=true)/\Hid (Below (w.heap.size+1) (w.alloc (.cells (Wc (spl s)).toArray 9)) wr)) (fun _ i _=>L-(intOf i).toNat);exact vI;obtain⟨k,bc,rfl,bf,ap⟩:=hrel;by_cases aw:k<L
   . have I:k<(spl s).length:=tC;have nk:=(Aa az) k I wr (Aa ap);have a3:=ap.size;have bg:=a8 _ (WO I);have ak:=Ab (WO I);have ax:=Ab (fun h=>(Aa ae) _ (Aa ak) h);have eo:Hid (okP ((spl s)[k]'I)=true->∀j (hj:j<(spl s).length),j<k+1->okP ((spl s)[j]'hj)=true):=yA;generalize (spl s)[k]'I=q at*;(have ao:w.heap.size+1<=wr.heap.size:=by simp at a3;omega);clear ak;(have m3:∀W,Hid (Below (w.heap.size+1) (w.alloc (.cells (Wc (spl s)).toArray 9)) W)->Hid (okP q=false)->Hid (SRow W w.heap.size (.slice none 0 0) (Z8u s)/\Ln s=1/\Below w.heap.size w W):=by intro W H E;have ar:=(Aa ax) (Aa E);refine⟨?_,ar,(Oq w _).trans (H.mono (UI _))⟩;rw[Rh (by rw[ar];decide)];exact SRow.nil _ _);by_cases aa:q= [];subst aa;have al:wr.cell? ⟨w.heap.size,k,none⟩=some (.string ⟨#[]⟩):=nk;exact xH;by_cases H:q= [46];subst H;have al:wr.cell? ⟨w.heap.size,k,none⟩=some (.string ⟨#[46]⟩):=nk;exact xH;by_cases E:q= [46,46];subst E;have al:wr.cell? ⟨w.heap.size,k,none⟩=some (.string ⟨#[46,46]⟩):=nk;exact xH;have U:=Ab (Z4y aa H E);have e0:=A9 (B q) aa;have e1:=GX (B q) [46] H;have e2:=GX (B q) [46,46] E;have ai:=trimS q wr ou;clear aa H E;generalize B q=bb at*;by_cases G:Lib.trimS q Ic= [];. have lr:=Ab (U.2 G);(have au:B (Lib.trimS q Ic)=⟨#[]⟩:=by rw[G];rfl);rw[au]at ai;clear G au U m3;go_wp2_with (go_at_call 59;refine ai.mono ?_;rintro e aj ⟨rfl,O⟩;have dj:=Ab (ap.trans (O.mono ao));clear O);go_roundw;exact wM;simp[intOf];omega
     . have lr:Hid (okP q=false):=by
        cases a6:okP q with
        |false=>rfl
        |true=>exact absurd (U.1 a6) G
       have bh:=A9 (B (Lib.trimS q Ic)) G;clear G U;generalize B (Lib.trimS q Ic)=bi at*;have av:=Ab m3;clear m3;go_wp2_with (go_at_call 59;refine ai.mono ?_;rintro e aj ⟨rfl,O⟩;have dj:=Ab (ap.trans (O.mono ao));clear O);go_ret2;obtain⟨x1,x2,x3⟩:=Aa ((Aa av) aj dj lr);rw[x2];exact⟨_,rfl,x1,x3,fun _=>rfl⟩
   exact qX
theorem Z1n {f:Fl}(O:Ln f.name=0)(n:Nat)(H:f.bytes.length=n)(E:Nat)(ac:Lg f=E):(E=2/\3000<n)\/ (E=3/\n<=3000/\(f.stamp<0\/ (0<=f.stamp/\1000000<f.stamp)\/ (0<=f.stamp/\f.stamp<=1000000/\f.node<0)\/ (0<=f.stamp/\f.stamp<=1000000/\0<=f.node/\3<f.node)))\/ (E=4/\n<=3000/\0<=f.stamp/\f.stamp<=1000000/\0<=f.node/\f.node<=3/\f.gone=true/\0<n)\/ (E=0/\n<=3000/\0<=f.stamp/\f.stamp<=1000000/\0<=f.node/\f.node<=3/\f.gone=true/\n=0)\/ (E=0/\n<=3000/\0<=f.stamp/\f.stamp<=1000000/\0<=f.node/\f.node<=3/\f.gone=false):=by
 subst H;subst ac;by_cases I:3000<f.bytes.length;exact .inl ⟨AY O I,I⟩
 . by_cases U:f.stamp<0\/1000000<f.stamp\/f.node<0\/3<f.node;exact .inr (.inl ⟨Yw O I U,om,om⟩)
   . have G:=AW O I U
     cases aa:f.gone with
     |true=>by_cases H:0<f.bytes.length;rw[kac ⟨aa,H⟩]at G;exact .inr (.inr (.inl ⟨G,om,om,om,om,om,rfl,H⟩));rw[kab (fun k=>H k.2)]at G;exact .inr (.inr (.inr (.inl ⟨G,om,om,om,om,om,rfl,om⟩)))
     |false=>rw[kab (fun k=>by rw[aa]at k;cases k.1)]at G;exact .inr (.inr (.inr (.inr ⟨G,om,om,om,om,om,rfl⟩)))
def ahn (xs:List Fv):Nat->List UInt8
 |0=> []
 |k+1=>(((fls xs)[k]?).map Fl.name).getD []
theorem Za8 (E:Option Addr)(c:Nat)(w:World)(h:12<n):Calls prog 8 #[.slice E n c] w fun e w'=>e=.returned (int i64 2)/\w'=w:=by go_enter func8,ntmps8;go_wp2;go_ret;exact⟨rfl,rfl⟩
theorem Xd {xs:List Fv}(h:FsIn w ah c xs)(hn:xs.length=n):Calls prog 8 #[.slice ah n c] w fun e w'=>e=.returned (int i64 (errM (fls xs):Nat))/\Below w.heap.size w w':=by
 have hl:=pA;by_cases hm:12<n;(have e:errM (fls xs)=2:=by unfold errM;rw[kac om]);rw[e];refine(Za8 ah c w hm).mono ?_;rintro e w' ⟨rfl,rfl⟩;exact⟨rfl,kaa _ _⟩
 . have e:=rW;obtain⟨E,a6⟩:=exq (K7 none (fls xs));rw[e,a6];obtain⟨bk,bf,cg,ay⟩:=ydD h hn a6 hl;clear h e a6 hn hl;go_enter func8,ntmps8;go_wp2;go_loopw [3,4,5,6,7,13] (fun bm _ _ _ _ i wr=>∃k:Nat,k<=n/\i=int i64 (k:Int)/\bm=.string (B (ahn xs k))/\Hid (K7 (ahd xs k) ((fls xs).drop k)=E)/\Hid (Below w.heap.size w wr)) (fun _ _ _ _ _ i _=>n-(intOf i).toNat);exact⟨0,VF _,rfl,rfl,cg,kaa _ _⟩;obtain⟨k,cn,rfl,rfl,ck,ap⟩:=hrel;by_cases aw:k<n
   . obtain⟨x,ao,bi⟩:=dR;obtain⟨b,o,rfl,hb,c0,c1,c2,b5,b0⟩:=bk.get ap ao;have a4:=BA ao;rw[Aa ck]at a4;have bz:=ap.size;have k5:=Ab (fun W=>MM x.f.name W (by have:=(bk.all x bi).txt;unfold maxLen;omega));have af:=Ab a4;(have bb:ahn xs (k+1)=x.f.name:=by show (((fls xs)[k]?).map Fl.name).getD []=_;simp[fls,ao]);have bw:=Ab bb;have bd:=nH;rw[bd]at c1;have jj:=Ab (fun cd=>ap.alloc bz cd);obtain⟨a3,ba⟩:=exq (x.f.bytes.length);obtain⟨er,az⟩:=exq (Lg x.f);have aj:=Ab (fun bo=>Z1n (f:=x.f) bo a3 ba er az);have ac:=Ab (@AX x.f);rw[az]at af ac
     have bj:Hid ((k=0/\behind (ahd xs k) x.f=true)\/ (0<k/\behind (ahd xs k) x.f=decide (Dy x.f.name (ahn xs k)=1))):=by
      cases k with
      |zero=>exact .inl ⟨rfl,rfl⟩
      |succ j=>refine .inr ⟨om, ?_⟩;(have ce:j<(fls xs).length:=by rw[Aa ay];omega);show behind ((fls xs)[j]?) x.f=decide (Dy x.f.name ((((fls xs)[j]?).map Fl.name).getD [])=1);rw[VP ce];show decide (Dy (fls xs)[j].name x.f.name<0)=decide (Dy x.f.name (fls xs)[j].name=1);rw[kbk];have co:=Ew x.f.name (fls xs)[j].name;have ak:=Bu x.f.name (fls xs)[j].name;omega
     have ag:=Z6v x.f.name (ahn xs k);have U:=Z6w x.f.name (ahn xs k);have b9:=Bu x.f.name (ahn xs k);obtain⟨aa,ax⟩:=exq (Dy x.f.name (ahn xs k));rw[ax]at ag U b9;(have al:Hid ((k=0/\behind (ahd xs k) x.f=true)\/ (0<k/\behind (ahd xs k) x.f=decide (aa=1))):=by have:=Aa bj;rw[ax]at this;exact this);clear a4 bi ao bd az bb bj ax;rw[ba]at c1;clear ba;obtain⟨b8,ae⟩:=exq (Ln x.f.name);rw[ae]at k5 aj ac;clear ae;obtain⟨t,ak⟩:=exq (B x.f.name);obtain⟨bc,a5⟩:∃bc,B (ahn xs k)=bc:=⟨_,rfl⟩;rw[ak]at k5 c0 ag U;rw[a5]at ag U;rw[a5];have cj:=Ab ak;clear ak a5;generalize x.f.stamp=st at*;generalize x.f.node=nd at*;generalize x.f.gone=gn at*;by_cases a9:b8=0
     . subst a9;have a8:=Aa aj rfl;clear aj ac;have G:=Aa af;clear af;by_cases av:er=0
       . subst av;(have bq:(a3<=3000/\0<=st/\st<=1000000/\0<=nd/\nd<=3)/\((gn=true/\a3=0)\/gn=false):=by(rcases a8 with ⟨h,_⟩|⟨h,_⟩|⟨h,_⟩|⟨_,a1,a2,H,I,O,ar,bn⟩|⟨_,a1,a2,H,I,O,ar⟩);omega;omega;omega;exact⟨⟨a1,a2,H,I,O⟩,.inl ⟨ar,bn⟩⟩;exact⟨⟨a1,a2,H,I,O⟩,.inr ar⟩);obtain⟨⟨a1,a2,H,I,O⟩,bg⟩:=bq;rw[kab oS]at G;clear a8;(have ci:(Hid (behind (ahd xs k) x.f=true)/\(k=0\/ (0<k/\aa=1)))\/ (Hid (behind (ahd xs k) x.f=false)/\0<k/\(aa= -1\/aa=0)):=by(rcases Aa al with ⟨b7,bh⟩|⟨b7,bh⟩);exact .inl ⟨bh,.inl b7⟩;by_cases e1:aa=1;exact .inl ⟨by rw[bh];exact kap e1,.inr ⟨b7,e1⟩⟩;exact .inr ⟨by rw[bh];exact kak e1,b7,om⟩);clear al;rcases ci with ⟨ai,a7⟩|⟨ai,bv,a7⟩
         . rw[kab (by rw[Aa ai];simp)]at G;have eo:=Ab G;clear G ai;rcases bg with ⟨rfl,rfl⟩|rfl
           all_goals (
            rcases a7 with rfl|⟨bv,rfl⟩
            all_goals (
             try simp only[YU,XS]at c0 c1 c2 b5 b0
             try simp only[Int.reduceLT,Int.reduceEq,kb0]at ag U
             go_wp2_with fail
             refine(k5 _).mono ?_
             rintro e au ⟨o7,rfl,_,bu,_⟩
             have dj:=dE
             have q6:=bO
             have b7:=fW
             have bh:=dC
             have cq:=dD
             have i3:=fX
             clear bu
             go_wp2
             go_roundw
             . exact⟨_,om,by go_num,by rw[Aa bw,Aa cj],eo.symm,dj⟩
             simp[intOf];omega))
         . rw[kac (Aa ai)]at G;have eo:=Ab G;clear G ai;have cm:(0:Int)<k:=om;rcases bg with ⟨rfl,rfl⟩|rfl
           all_goals (
            rcases a7 with rfl|rfl
            all_goals (
             try simp only[Int.reduceLT,Int.reduceEq,Int.reduceNeg,decide_true,kb0]at ag U
             go_wp2_with fail
             refine(k5 _).mono ?_
             rintro e au ⟨o7,rfl,_,bu,_⟩
             have dj:=dE
             have q6:=bO
             have b7:=fW
             have bh:=dC
             have cq:=dD
             have i3:=fX
             clear bu
             go_wp2
             go_ret
             exact⟨Bm (by rw[Aa eo];rfl),dj⟩))
       . rw[kac (by simpa using av)]at G;have eo:=Ab G;clear G al;(rcases a8 with ⟨rfl,a1⟩|⟨rfl,a1,a2|⟨a2,H⟩|⟨a2,H,I⟩|⟨a2,H,I,O⟩⟩|⟨rfl,a1,a2,H,I,O,rfl,ar⟩|⟨rfl,_⟩|⟨rfl,_⟩);(. skip;exact qB);(. skip;exact qB);(. skip;exact qB);(. skip;exact qB);(. skip;exact qB);(. skip;exact qB);exact absurd rfl av;exact absurd rfl av
     . have ae:=Aa ac a9;have G:=Aa af;rw[ae,kac (by simpa using a9)]at G;have eo:=Ab G;clear G ae af aj ac al;go_wp2_with fail;refine(k5 _).mono ?_;rintro e au ⟨o7,rfl,_,bu,_⟩;exact vE
   exact zZ
def Z3b (c x k:Nat):Nat:=Jn k (c^^^x%2^k)
theorem Z20 (c x:Nat):Z3b c x 0=c:=by simp[Z3b,Jn,Nat.mod_one]
theorem Z21 (c x k:Nat):Z3b c x (k+1)=lft (Z3b c x k^^^x/2^k%2):=Z0g c x k
theorem Z6f {x:Nat}(U:x<256):Z3b c x 8=Z6e c x:=by unfold Z3b Z6e;rw[ZU uT]
theorem Za4 {x:Nat}(k:Nat)(E:c<4294967296)(G:x<256):Z3b c x k<4294967296:=by unfold Z3b;refine Ud k (ZY (n:=32) E ?_);have:=Nat.mod_le x (2^k);omega
theorem Zdy {x:Nat}(G:m<4294967296)(H:x<256)(I:j<8):bits .xor .u32 (bits .and .u32 (m:Int) 1) (bits .and .u8 ((x:Int)/2^j) 1%4294967296)=(((m%2^^^x/2^j%2):Nat):Int):=by have E:bits .and .u8 ((x/2^j:Nat):Int) ((1:Nat):Int)=((x/2^j&&&1:Nat):Int):=u8_and_nat _ _ (Nat.lt_of_le_of_lt (YW _ _) H) od;rw[Nat.and_one_is_mod]at E;have e:((x/2^j:Nat):Int)=(x:Int)/2^j:=sW;rw[e]at E;rw[Zdo G,show (1:Int)=((1:Nat):Int) from rfl,E,show (((x/2^j%2:Nat):Int))%4294967296=((x/2^j%2:Nat):Int) by omega];exact u32_xor_nat _ _ om om
theorem BI (p:Nat)(a:Option Addr)(n aj:Nat)(bs:List Nat)(w:World)(ac:bs.length=n)(av:n<=12000)(U:p<4294967296)(aa:BytesIn w a bs)(af:∀j,bs.getD j 0<256):Calls prog 12 #[int .u32 (p:Int),.slice a n aj] w fun e w'=>e=.returned (int .u32 (crcN p bs:Nat))/\w'=w:=by obtain⟨ai,ag,ay⟩:=ydC aa af ac;clear aa af ac;go_enter func12,ntmps12;go_wp2;rw[Zcq U];go_loop [5,14] (fun r i=>∃k:Nat,k<=n/\i=int i64 (k:Int)/\r=int .u32 (Vh (p^^^4294967295) (bs.take k):Nat)) (fun _ i=>n-(intOf i).toNat);exact⟨0,om,rfl,rfl⟩;obtain⟨k,au,rfl,rfl⟩:=hrel;have hr:Vh (p^^^4294967295) (bs.take k)<4294967296:=Vf _ _ (fun y al=>by obtain⟨i,hi,rfl⟩:=XP al;have:=Aa ag i;rw[VL]at hi;rw[YV];rw[List.getD,VP om]at this;exact this) (not_lt U);by_cases aw:k<n;(. have k8:=nG;obtain⟨b,o,rfl,hb,hc⟩:=KF ai k8;have G:=Aa ag k;have ak:=fK;generalize Vh (p^^^4294967295) (bs.take k)=r at*;generalize bs.getD k 0=x at*;clear k8;go_wp2;go_loop [5,18] (fun r1 i=>∃j:Nat,j<=8/\i=int i64 (j:Int)/\r1=int .u32 (Z3b r x j:Nat)) (fun _ i=>8-(intOf i).toNat);exact⟨0,om,rfl,by rw[Z20]⟩;obtain⟨j,ax,rfl,rfl⟩:=hrel;by_cases O:j<8;(. have ae:=Ab (Z21 r x j);have hm:=Za4 j hr G;generalize Z3b r x j=m at*;by_cases E:(m%2^^^x/2^j%2)=1;(. (have H:(bits .xor .u32 (bits .and .u32 (m:Int) 1) (bits .and .u8 ((x:Int)/2^j) 1%4294967296)==1)=true:=by rw[Zdy hm G O,E];rfl);have I:Hid (lft (m^^^x/2^j%2)=m/2^^^3988292384):=Ab (by rw[Z0h _ _ (UH _ od),kac E]);have ar:=Ab (Zdt hm);clear E;go_wp2;go_round;exact⟨j+1,om,by go_num,by rw[Aa ae,Aa I,Aa ar]⟩;simp[intOf];omega);. have H:=Zdy hm G O;have ah:((((m%2^^^x/2^j%2):Nat):Int)==1)=false:=sV;rw[<-H]at ah;have I:Hid (lft (m^^^x/2^j%2)=m/2):=Ab (by rw[Z0h _ _ (UH _ od),kab E]);clear E H;go_wp2;go_round;exact⟨j+1,om,by go_num,by rw[Aa ae,Aa I];rfl⟩;simp[intOf];omega);. obtain rfl:j=8:=om;go_wp2;go_round;exact⟨k+1,om,by go_num,by rw[Aa ak,Z6f G]⟩;simp[intOf];omega);. have e:k=n:=om;subst e;have ap:=gE;have ao:=Ab (Zcq hr);clear hr;go_wp2;go_ret;exact⟨by rw[Aa ao,Aa ap];rfl,rfl⟩
structure RdK (bs:List Nat)(es:List Ev)(ok:Bool):Prop where
 few:es.length<=12
 by_:∀x∈es,x.e.f.bytes.length<=12000
 no:ok=false->readE bs=7
 torn:errM ((es.map Ev.e).map En.f)≠0->readE bs=7
 sum:ok=true->errM ((es.map Ev.e).map En.f)=0->sumsF (es.map Ev.e)=false->readE bs=10
 yes:ok=true->errM ((es.map Ev.e).map En.f)=0->sumsF (es.map Ev.e)=true->readE bs=0/\readL bs=(es.map Ev.e).map En.f
theorem EnD.ways {e:Ending}(h:EnD w bs e w')(aj:bs.length<=12000)(U:∀x∈bs,x<256):Below w.heap.size w w'/\∃es ad c ok,e=.returned (.tuple #[.slice ad es.length c,.bool ok])/\RsIn w' ad es/\RdK bs es ok:=by obtain⟨ah,h⟩:=h;obtain⟨d1,af⟩:=Z4j aj U;refine⟨ah, ?_⟩;(rcases h with ⟨G,rfl⟩|⟨es,ad,c,G,rfl,ag⟩);(have ac:readE bs=7:=by rw[<-d1];unfold Ll;rw[G]);exact⟨[],none,0,false,rfl,⟨.inl rfl,fun x E=>by cases E⟩,VF _,(fun x E=>by cases E),fun _=>ac,fun _=>ac,(fun e=>by cases e),(fun e=>by cases e)⟩;have I:=JZ U G;(have H:readE bs=if errM ((es.map Ev.e).map En.f)≠0\/Ba (es.map Ev.e)≠bs then 7 else if sumsF (es.map Ev.e)=false then 10 else 0:=by rw[<-d1];unfold Ll;rw[G]);refine⟨es,ad,c,_,rfl,ag,by simpa using I.1,fun x E=> ?_,fun e=> ?_,fun e=> ?_,fun e e2 e3=> ?_,fun e e2 e3=> ?_⟩;have ai:=(I.2 x.e (WZ E)).ok.un;have aa:=GN (m:=x.e.meth) (pk:=x.e.pk) (ys:=n8 x.e.f.bytes) (by have:=(I.2 x.e (WZ E)).pl;omega) (by rw[Ms];exact ai);rw[Cf]at aa;exact aa;rw[kad]at e;rw[H,kac (.inr e)];rw[H,kac (.inl e)];have O:=eq_of_beq e;rw[H,kab (by rintro (k|k);exact k e2;exact k O),kac e3];have O:=eq_of_beq e;(have ae:readE bs=0:=by rw[H,kab (by rintro (k|k);exact k e2;exact k O),kab (by rw[e3];decide)]);refine⟨ae, ?_⟩;rw[<-af];unfold Yf;rw[kab (by rw[d1,ae];decide),G];rfl
theorem Tp (a:Option Addr)(bn:Nat)(w:World)(cq:bs.length=n)(dw:n<=12000)(de:n<=bn)(ct:PkIn w a bn bs)(bj:∀x∈bs,x<256)(cg:UnC True):Calls prog 16 #[.slice a n bn] w fun e w'=>RdA w bs e w':=by
 have ck:=Ab (FE n cq dw de ct bj True (.inl trivial) cg);have bg:Hid (bs.length<=12000/\∀x∈bs,x<256):=Ab ⟨om,bj⟩;clear ct bj cg cq;go_enter func16,ntmps16;go_wp2_with fail;refine ck.mono ?_;rintro e aa b0;obtain⟨bz,es,ad,c,ok,rfl,cp,hK⟩:=b0.ways bg.1 bg.2;obtain⟨I,a5⟩:=exq (es.length);rw[a5];obtain⟨ar,az⟩:=exq (sumsF (es.map Ev.e));(have dz:I<=12:=by have:=hK.few;omega);obtain⟨bc,ak,ae,bh,a7⟩:=ydE cp hK a5 bz az;clear b0 bz cp hK a5 az ck bg;go_wp2;go_loopw [6,7,9,17] (fun dh da _ i wr=>∃(k:Nat) (S:Bool),k<=I/\i=int i64 (k:Int)/\da=.bool S/\Hid ((S&&sumsF ((es.map Ev.e).drop k))=ar)/\Hid (GR wr aa.heap.size dh (es.take k))/\Hid (Below aa.heap.size aa wr)) (fun _ _ _ i _=>I-(intOf i).toNat);exact⟨0,true,VF _,rfl,rfl,Ab (by rw[ZP];exact Aa a7),Ab (GR.nil _ _),Ab (kaa _ _)⟩;obtain⟨k,S,dy,rfl,rfl,ay,al,ai⟩:=hrel;by_cases df:k<I
 . obtain⟨x,U,a9⟩:∃x,es[k]? =some x/\x∈es:=⟨es[k]'(by rw[Aa ae];exact df),VP _,WO _⟩;obtain⟨b,o,rfl,hb,c0,c1,c2,di,dp,dv,dl,dt⟩:=bc.get ai U;have b8:=ai.size;have aw:=(bc.all x a9).1;have ac:=sB;have ag:=fun(W:World) (af:Below aa.heap.size aa W)=>BI 0 x.fa x.e.f.bytes.length x.fc (n8 x.e.f.bytes) W (Cf _) (ak.by_ x a9) od (aw.below af).fb.1 (Cq (Kb _));have b5:=Ab (Ht U);have cv:=Ab (fun o1 o2:Obj=>(aw.below (ai.trans ((kaa aa.heap.size wr).alloc b8 o1))).below ((kaa _ _).alloc (VA _) o2));have bk:∀g,some g=u6.ownBlock->aa.heap.size<=g/\g<wr.heap.size:=fun g e=>al.own.lt g e.symm;have b7:Hid (x.lies (fun g=>some g≠u6.ownBlock)):=Ab (aw.lt.mono (fun g a4 e=>by have:=(bk g e).1;omega));have c7:=Ab (fun o1 o2:Obj=>(al.below ((kaa _ _).alloc (VA _) o1)).below ((kaa _ _).alloc (VA _) o2));have c5:=Ab (fun o1 o2:Obj=>(ai.alloc b8 o1).alloc oO o2);have cu:Hid ((es.take k).length+1<=100000):=Ab qAM;have ce:Hid (∀o1 o2,o2=Obj.cells x.fv.cells.toArray 30->∀j u,x.fv.cells[j]? =some u->((wr.alloc o1).alloc o2).cell? ⟨wr.heap.size+1,j,none⟩=some u):=Ab (fun o1 o2 e j u db=>by subst e;have c6:=kae (wr.alloc o1) (.cells x.fv.cells.toArray 30);simp only[kaf]at c6;rw[Ac c6];simpa using db);have bw:Hid (∀(o1 o2:Obj) (G:World),((wr.alloc o1).alloc o2).grownBy G u6.ownBlock->G.heap[wr.heap.size]? =some o1/\wr.heap.size<G.heap.size):=Ab (fun o1 o2 G a4=>by have du:=a4.block wr.heap.size oO (fun e=>by have:=(bk _ e).2;omega);rw[du];refine⟨?_,VC oO a4.size⟩;have dm:=((kaa (wr.alloc o1).heap.size (wr.alloc o1)).alloc (VA _) o2).block wr.heap.size oS;rw[dm];exact kae wr o1);have c9:=Ab ac;have c8:=Ab ag;clear U a9 aw bk ac ag;go_wp2_with (at_builtin;refine Jl _ rfl _ _ rfl aa.heap.size _ (es.take k) rfl (c7 _ _) (wr.heap.size+1) x rfl (ce _ _ rfl) (cv _ _) b7 cu oO ?_);intro v' G cn cm ah;have bo:Hid (GR G aa.heap.size v' (es.take (k+1))):=Ab (by rw[Aa b5];exact Aa cn);have H:=Ab ((c5 _ _).trans (Aa ah));obtain⟨bv,ci⟩:=Aa bw _ _ _ (Aa cm);have e1:=Ac (i:=1) bv;have ao:=Ac (i:=7) bv;simp only[WF,VW,WI]at e1 ao;have ac:=Aa c9;obtain⟨m,hm⟩:=exq (crcN 0 (n8 x.e.f.bytes));have ag:=Aa c8;rw[hm]at ac ag;generalize x.e.f.bytes.length=bl at e1 ag;generalize x.e.crc=cr at ao ac;have k1:∀W:World,Below G.heap.size G W->W.cell? ⟨wr.heap.size,1,none⟩=some (.slice x.fa bl x.fc):=fun W af=>(af.cell (p:=⟨wr.heap.size,1,none⟩) ci).trans e1;have cd:∀W:World,Below G.heap.size G W->W.cell? ⟨wr.heap.size,7,none⟩=some (int .u32 (cr:Int)):=fun W af=>(af.cell (p:=⟨wr.heap.size,7,none⟩) ci).trans ao;have bu:=Ab (fun(W:World) (af:Below G.heap.size G W)=>ag W (H.trans (af.mono (oI H.size))));have cw:=H.size;have bd:=Aa ay;rw[ac]at bd;have au:=Ab bd;clear cn ah cm bv ac ag hm bd c0 c1 c2 di dp dv dl dt ay al ai c7 c5 cv b7 cu ce bw c9 c8 b5 e1 ao
   cases S with
   |true=>
    obtain⟨cz,dq⟩:=exq (((m:Int)==cr))
    have a6:Hid ((cz&&sumsF ((es.map Ev.e).drop (k+1)))=ar):=Ab (by
     have h:=Aa au
     rw[ZP]at h
     rw[<-h,<-dq]
     congr 1
     by_cases e:cr=m
     . subst e;rw[kap rfl,beq_self_eq_true]
     . rw[kak e,kad];omega)
    clear au;go_wp2;go_region_held3 (fun W=>Below G.heap.size G W) (first|exact Co (kaa _ _)|exact ax) ((go_at_call 12;refine(bu _ (Co (kaa _ _))).mono ?_;rintro e dx ⟨rfl,cj⟩;have ax:Below G.heap.size G dx:=(by rw[cj];exact Co (kaa _ _));clear cj));all_goals (have bb:=Ab (bo.below ax);have bi:=Ab (H.trans (ax.mono cw));clear k1 cd bu bo H ax;(try go_wp2);go_roundw;exact⟨k+1,cz,om,by go_num,rfl,a6,bb,bi⟩;simp[intOf];omega)
   |false=>have a6:Hid ((false&&sumsF ((es.map Ev.e).drop (k+1)))=ar):=Ab (by have h:=Aa au;rw[Bool.false_and]at h ⊢;exact h);clear au k1 cd bu;go_wp2;go_region;all_goals (have bb:=Ab (bo.below (Co (kaa _ _)));have bi:=Ab (H.trans ((Co (kaa _ _)).mono cw));(try go_wp2);go_roundw;exact⟨k+1,false,om,by go_num,rfl,a6,bb,bi⟩;simp[intOf];omega)
 . obtain rfl:I=k:=om;have av:es.take I=es:=VQ (by rw[Aa ae];exact VA _);have co:(es.map Ev.e).drop I= []:=XE (by simp[Aa ae]);(have az:S=ar:=by have:=Aa ay;rw[co]at this;rw[<-this];cases S<;>rfl);obtain⟨bf,c2,b9,aj⟩:=al.files (by rw[av,Aa ae];omega);rw[av]at aj;rw[av,Aa ae]at b9;subst az b9;(have dn:(es.map Ev.fv).length=I:=by simpa using Aa ae);have a8:=Ab (bh.trans (ai.mono bh.size));have bq:=Ab aj;clear av co ay al bh bc
   cases ok with
   |false=>have O:=Ab (RdA.bad (w:=w) (w':=wr) (bs:=bs) (k:=7) (ak.no rfl) od a8);clear bq aj;go_wp2;go_ret2;exact O
   |true=>
    have ba:=Ab (Xd aj dn);obtain⟨E,ap⟩:=exq (errM (fls (es.map Ev.fv)));rw[ap]at ba;rw[JQ]at ap;have bm:=Ab ap;clear aj ap;go_wp2_with fail;refine ba.mono ?_;rintro e G ⟨rfl,ah⟩;have dj:=Ab (bq.below ah (VA _));have H:=Ab (a8.trans (ah.mono a8.size));clear ah ba bq;by_cases d5:E=0
    . subst d5
      cases S with
      |false=>have O:=Ab (RdA.bad (w:=w) (w':=G) (bs:=bs) (k:=10) (ak.sum rfl bm a7) od H);go_wp2;go_ret2;exact O
      |true=>obtain⟨cy,a3⟩:=ak.yes rfl bm a7;have O:Hid (RdA w bs (.returned (.tuple #[.slice bf I c2,int i64 0])) G):=Ab ⟨.slice bf I c2,by rw[cy];rfl,⟨bf,c2,es.map Ev.fv,by rw[a3];simp[Aa ae],dj,by rw[JQ,a3]⟩,H⟩;clear cy a3;go_wp2;go_ret2;exact O
    have O:=Ab (RdA.bad (w:=w) (w':=G) (bs:=bs) (k:=7) (ak.torn (by rw[Aa bm];exact d5)) od H);exact kC
structure EOf (x:En):Prop where
 cr:x.crc=crcN 0 (n8 x.f.bytes)
 pk:∃out,IsOne (n8 x.f.bytes) (bestP (n8 x.f.bytes) 3) out/\((out.length<x.f.bytes.length/\x.meth=8/\x.pk=out)\/ (x.f.bytes.length<=out.length/\x.meth=0/\x.pk=n8 x.f.bytes))
def EoA (w:World)(x:Fv)(e:Ending)(w':World):Prop:=∃y:Ev,e=.returned y.val/\y.e.f=x.f/\EOf y.e/\EvIn w' y/\Below w.heap.size w w'/\y.fa=x.a/\(∀g o,y.pa=some ⟨g,o,none⟩->y.e.pk≠ []->(x.a=some ⟨g,o,none⟩/\y.e.f.bytes≠ [])\/o=0)
def Z37 (W:World)(X:Nat)(v0 v1 v2 v3 v4 v5 v6 v7:Value)(Wf:World):Prop:=Pl W X v0 v1 v2 v3 v4 v5 v6 v7=Wf
theorem Z7k (W:World)(X:Nat)(O I H E U aa G ac:Value):∃ae,Z37 W X O I H E U aa G ac ae:=⟨Pl W X O I H E U aa G ac,rfl⟩
theorem KM {a:World}(h:Below a.heap.size a w)(G:a.heap.size<=X):Below a.heap.size a (Pl w X E I ay az a3 a4 a5 a6):=by have one:∀ {W:World} (i:Nat) (v:Value),Below a.heap.size a W->Below a.heap.size a (W.setCell ⟨X,i,none⟩ v):=fun {W} i v hW=>hW.grown (Ad W X i v) hW.size (fun g e=>by cases e;exact G);exact one 7 _ (one 6 _ (one 5 _ (one 4 _ (one 3 _ (one 2 _ (one 1 _ (one 0 _ h)))))))
theorem Z2x (E:Below w.drew.heap.size w.drew O):Below w.heap.size w O:=(Co (kaa _ _)).trans E
theorem Z2w {o:Obj}(E:Below (w.alloc o).drew.heap.size (w.alloc o).drew O):Below w.heap.size w O:=(Co (Ar (kaa _ _) _)).trans (E.mono (by simp[World.drew]))
theorem Z2v {o:Obj}(E:Below (w.drew.alloc o).heap.size (w.drew.alloc o) O):Below w.heap.size w O:=(Ar (Co (kaa _ _)) _).trans (E.mono (by rw[kaf];exact UI _))
theorem Z95 {o:Obj}(E:Below (w.alloc o).drew.heap.size (w.alloc o).drew O):O.heap[w.heap.size]? =some o:=(E.block w.heap.size (by simp[World.drew])).trans (kae w o)
def Zdq (fs:List Fl):Prop:=∀f∈fs,f.bytes.length<=3000->Zaq (n8 f.bytes)
theorem FD (h:FvIn w x)(bq:x.f.bytes.length<=3000)(a5:Zaq (n8 x.f.bytes)):Calls prog 35 #[x.val] w fun e w'=>EoA w x e w':=by
 have cd:=Ab h;have aj:=Z2k h.bs;have ay:=J6 h.bs;obtain⟨⟨nml,bys,st,nd,gn⟩,fa,fc⟩:=x;rw[Db];dsimp only at bq aj ay a5 ⊢;have ax:=Cf bys;have bd:=Kb bys;have a3:=Cq bd;obtain⟨bs,a4⟩:=exq (n8 bys);have cw:=a4;rw[a4]at aj ax bd a3 a5;obtain⟨n,bv⟩:=exq (bys.length);rw[bv]at bq ay ax ⊢;obtain⟨nm,bf⟩:=exq (B nml);rw[bf];obtain⟨m,hm⟩:=exq (crcN 0 bs);obtain⟨a6,h4⟩:=exq ((w.alloc (.cells #[.string nm,.slice fa n fc,int i64 st,int i64 nd,.bool gn] 30)).alloc (.cells ez 71));(have bo:a6.heap.size=w.heap.size+2:=by rw[<-h4];simp);have a9:=nY;have av:a6.heap[w.heap.size]? =some (.cells #[.string nm,.slice fa n fc,int i64 st,int i64 nd,.bool gn] 30 (0,0)):=tV;(have b0:a6.heap[w.heap.size+1]? =some (.cells ez 71 (0,0)):=by have:=kae (w.alloc (.cells #[.string nm,.slice fa n fc,int i64 st,int i64 nd,.bool gn] 30)) (.cells ez 71);rw[<-h4];simpa using this);(have ci:∀W:World,Below a6.heap.size a6 W->Calls prog 53 #[.slice fa n fc] W fun e w'=>e=.returned (int .u32 (m:Int))/\Below W.heap.size W w':=fun W O=>by have:=GC fa n fc W ax om (aj.below (a9.trans (O.mono om))).1 a3;rw[hm]at this;exact this);have cj:∀W:World,Below a6.heap.size a6 W->Calls prog 54 #[.slice fa n fc] W fun e w'=>∃g c out,e=.returned (.tuple #[.slice (some ⟨g,0,none⟩) (NC bs (bestP bs 3)) c,int i64 (bestP bs 3:Nat),int i64 0])/\g<w'.heap.size/\Bytes w' g 0 out/\IsOne bs (bestP bs 3) out/\Below W.heap.size W w':=fun W O=>Z6l fa n fc bs W ax ay aj.2 (aj.below (a9.trans (O.mono om))).1 a3 bq a5;have de:∀W:World,Below a6.heap.size a6 W->W.cell? ⟨w.heap.size,0,none⟩=some (.string nm):=fun W O=>(O.cell (p:=⟨w.heap.size,0,none⟩) uP).trans (Ac av);have k1:∀W:World,Below a6.heap.size a6 W->W.cell? ⟨w.heap.size,1,none⟩=some (.slice fa n fc):=fun W O=>(O.cell (p:=⟨w.heap.size,1,none⟩) uP).trans (Ac av);have k2:∀W:World,Below a6.heap.size a6 W->W.cell? ⟨w.heap.size,2,none⟩=some (int i64 st):=fun W O=>(O.cell (p:=⟨w.heap.size,2,none⟩) uP).trans (Ac av);have c5:∀W:World,Below a6.heap.size a6 W->W.cell? ⟨w.heap.size,3,none⟩=some (int i64 nd):=fun W O=>(O.cell (p:=⟨w.heap.size,3,none⟩) uP).trans (Ac av);have c8:∀W:World,Below a6.heap.size a6 W->W.cell? ⟨w.heap.size,4,none⟩=some (.bool gn):=fun W O=>(O.cell (p:=⟨w.heap.size,4,none⟩) uP).trans (Ac av);obtain⟨dp,c7,dm,dn,cm,da,b8,ac,ae,b9,al⟩:=ydK ci cj h4 b0 a9 bo bf bv a4 hm aj;clear a5 h aj ax bd a3 a4 cw bv bf hm h4 a9 av b0 ci cj bo;go_enter func35,ntmps35;go_upto_region 1 with fail;rw[Aa dm];go_cut [3] (fun cq wc=>∃X,cq=.pointer (some ⟨X,0,none⟩)/\Hid (wc.heap[X]? =some (.cells (ec (.string nm) (.slice fa n fc) (int i64 st) (int i64 nd) (.bool gn) (int .u32 0) (.slice fa n fc) (int .u32 (m:Int))) 71 (0,0))/\a6.heap.size<=X/\Below a6.heap.size a6 wc));(. go_region_held3 (fun W=>Below a6.heap.size a6 W) (first|with_reducible exact Co (kaa _ _)|with_reducible exact ap|with_reducible exact Ar ap _|with_reducible exact Co (Ar (kaa _ _) _)|with_reducible exact Ar (Co (kaa _ _)) _|with_reducible exact KM ap (VA _)) ((go_at_call 53;refine(dp _ (by first|with_reducible exact Co (kaa _ _)|with_reducible exact Co (Ar (kaa _ _) _)|with_reducible exact Ar (Co (kaa _ _)) _)).mono ?_;rintro e aa ⟨rfl,bc⟩;have ap:Below a6.heap.size a6 aa:=(by first|with_reducible exact Z2x bc|with_reducible exact Z2w bc|with_reducible exact Z2v bc);try (have G:=(by with_reducible exact Z95 bc:aa.heap[a6.heap.size]? =some (.cells ez 71 (0,0)));have du:=Ac (i:=0) G;have x1:=Ac (i:=1) G;have x2:=Ac (i:=2) G;have x3:=Ac (i:=3) G;have x4:=Ac (i:=4) G;have dy:=Ac (i:=5) G;have eh:=Ac (i:=6) G;have dw:=Ac (i:=7) G;have d9:=kag aa a6.heap.size 0 _ _ G;have y1:=kag aa a6.heap.size 1 _ _ G;have y2:=kag aa a6.heap.size 2 _ _ G;have dq:=kag aa a6.heap.size 3 _ _ G;have eg:=kag aa a6.heap.size 4 _ _ G;have ed:=kag aa a6.heap.size 5 _ _ G;have ee:=kag aa a6.heap.size 6 _ _ G;have d5:=kag aa a6.heap.size 7 _ _ G)));(all_goals go_wp2_with fail);(all_goals go_meet);exact⟨_,rfl,Ab ⟨kae _ _,ap.size,Ar ap _⟩⟩;exact⟨_,rfl,Ab ⟨(Zcp aa a6.heap.size 71 _ _ _ _ _ _ _ _ _ _ _ _ _ _ _ _ G).1,VA _,KM ap (VA _)⟩⟩);obtain⟨X,rfl,bz⟩:=hcut;obtain⟨bw,dv,bu⟩:=Aa bz;have c1:=k1 wc bu;have ck:=Ab bw;have a8:=Ab bu;clear bz bw bu de k1 k2 c5 c8;go_wp2_with fail;refine(c7 wc a8).mono ?_;rintro e w6 ⟨g,c,out,rfl,bi,bb,ao,a7⟩;have ak:=ao.len;have I:w6.heap[X]? =some (.cells (ec (.string nm) (.slice fa n fc) (int i64 st) (int i64 nd) (.bool gn) (int .u32 0) (.slice fa n fc) (int .u32 (m:Int))) 71 (0,0)):=(a7.block X (VD.1 ck).1).trans (Aa ck);have aw:Below a6.heap.size a6 w6:=a8.trans (a7.mono a8.size);have bo:=Aa da;have E:w6.heap[w.heap.size+1]? =some (.cells ez 71 (0,0)):=(aw.block _ om).trans (Aa dn);(have d6:w6.cell? ⟨w.heap.size,1,none⟩=some (.slice fa n fc):=by have:=aw.cell (p:=⟨w.heap.size,1,none⟩) uP;have cz:=a8.cell (p:=⟨w.heap.size,1,none⟩) uP;rw[this,<-cz];exact c1);obtain⟨L,ba⟩:=exq (NC bs (bestP bs 3));obtain⟨K,hK⟩:=exq (bestP bs 3);rw[ba]at ak;rw[ba,hK];have ce:=Ac (i:=0) I;have df:=Ac (i:=1) I;have c9:=Ac (i:=2) I;have co:=Ac (i:=3) I;have dj:=Ac (i:=4) I;have c6:=Ac (i:=5) I;have cu:=Ac (i:=6) I;have cp:=Ac (i:=7) I;have d8:=kag w6 X 5 _ _ I;have dx:=kag w6 X 6 _ _ I;have r0:=Ac (i:=0) E;have r1:=Ac (i:=1) E;have r2:=Ac (i:=2) E;have cy:=Ac (i:=3) E;have db:=Ac (i:=4) E;have di:=Ac (i:=5) E;have cn:=Ac (i:=6) E;have cv:=Ac (i:=7) E;have eb:=kag w6 (w.heap.size+1) 0 _ _ E;have g1:=kag w6 (w.heap.size+1) 1 _ _ E;have g2:=kag w6 (w.heap.size+1) 2 _ _ E;have g3:=kag w6 (w.heap.size+1) 3 _ _ E;have d7:=kag w6 (w.heap.size+1) 4 _ _ E;have dz:=kag w6 (w.heap.size+1) 5 _ _ E;have g6:=kag w6 (w.heap.size+1) 6 _ _ E;have dt:=kag w6 (w.heap.size+1) 7 _ _ E;simp only[WF,VW,WI]at ce df c9 co dj c6 cu cp r0 r1 r2 cy db di cn cv;have b7:w.heap.size+1≠X:=om;have au:Below w.heap.size w w6:=cm.trans (aw.mono om);have cg:=(VD.1 I).1;have b5:=ao.pos;have ag:=bb 0 b5;(have bg:g≠X:=fun e=>by rw[e]at ag;rw[ce]at ag;cases ag);have bm:g≠w.heap.size+1:=fun e=>by rw[e]at ag;rw[r0]at ag;cases ag
 (have bj:bs.length=n:=by rw[<-Aa ae,Cf];exact Aa ac);clear b5 ag;by_cases bh:L<n
 . have dl:(L:Int)<n:=om;have k1:=Ad w6 X 5 (int .u32 8);have k2:=Ad (w6.setCell ⟨X,5,none⟩ (int .u32 8)) X 6 (.slice (some ⟨g,0,none⟩) L c);have kk:=Aj k1 k2;obtain⟨ai,af⟩:=Zcp ((w6.setCell ⟨X,5,none⟩ (int .u32 8)).setCell ⟨X,6,none⟩ (.slice (some ⟨g,0,none⟩) L c)) (w.heap.size+1) 71 _ _ _ _ _ _ _ _ (.string nm) (.slice fa n fc) (int i64 st) (int i64 nd) (.bool gn) (int .u32 8) (.slice (some ⟨g,0,none⟩) L c) (int .u32 (m:Int)) ((kk.block _ om (by simp;exact b7)).trans E);have ar:PkIn (Pl ((w6.setCell ⟨X,5,none⟩ (int .u32 8)).setCell ⟨X,6,none⟩ (.slice (some ⟨g,0,none⟩) L c)) (w.heap.size+1) (.string nm) (.slice fa n fc) (int i64 st) (int i64 nd) (.bool gn) (int .u32 8) (.slice (some ⟨g,0,none⟩) L c) (int .u32 (m:Int))) fa fc bs:=((al.below au).grown kk (fun H o e1 e2=>by have:=C7 al H o e1 e2;simp;omega)).grown af (fun H o e1 e2=>by have:=C7 al H o e1 e2;simp;omega)
   have az:Hid (EoA w ⟨⟨nml,bys,st,nd,gn⟩,fa,fc⟩ (.returned (.agg #[(.string nm),(.slice fa n fc),(int i64 st),(int i64 nd),(.bool gn),(int .u32 8),(.slice (some ⟨g,0,none⟩) L c),(int .u32 (m:Int))])) (Pl ((w6.setCell ⟨X,5,none⟩ (int .u32 8)).setCell ⟨X,6,none⟩ (.slice (some ⟨g,0,none⟩) L c)) (w.heap.size+1) (.string nm) (.slice fa n fc) (int i64 st) (int i64 nd) (.bool gn) (int .u32 8) (.slice (some ⟨g,0,none⟩) L c) (int .u32 (m:Int)))):=Ab (by
    refine⟨⟨⟨⟨nml,bys,st,nd,gn⟩,8,out,m⟩,fa,fc,some ⟨g,0,none⟩,c⟩, ?_,rfl,⟨by dsimp only;rw[Aa ae,Aa b9],out,by dsimp only;rw[Aa ae];exact ao,.inl ⟨by dsimp only;rw[ak,Aa ac];exact bh,rfl,rfl⟩⟩,⟨by dsimp only;rw[Aa ae];exact ar,by dsimp only;rw[Aa ac];exact ay,by dsimp only;rw[Aa ac];omega,cd.txt,((show PkIn w6 (some ⟨g,0,none⟩) c out from ⟨.inr ⟨g,0,rfl,bi,bb⟩,fun e=>by cases e⟩).grown kk (fun H o e _=>by cases e;simp;exact bg)).grown af (fun H o e _=>by cases e;simp;exact bm)⟩, ?_,rfl,fun H o e _=>by cases e;exact .inr rfl⟩
    . unfold Ev.val
      dsimp only
      rw[Aa b8,Aa ac,ak]
      first|done|rfl
    . have ct:=kk.size
      exact(au.grown kk om (fun H e=>by cases e;omega)).grown af om (fun H e=>by cases e;omega))
   obtain⟨bn,ah⟩:=Z7k ((w6.setCell ⟨X,5,none⟩ (int .u32 8)).setCell ⟨X,6,none⟩ (.slice (some ⟨g,0,none⟩) L c)) (w.heap.size+1) (.string nm) (.slice fa n fc) (int i64 st) (int i64 nd) (.bool gn) (int .u32 8) (.slice (some ⟨g,0,none⟩) L c) (int .u32 (m:Int));have U:Pl ((w6.setCell ⟨X,5,none⟩ (int .u32 8)).setCell ⟨X,6,none⟩ (.slice (some ⟨g,0,none⟩) L c)) (w.heap.size+1) (.string nm) (.slice fa n fc) (int i64 st) (int i64 nd) (.bool gn) (int .u32 8) (.slice (some ⟨g,0,none⟩) L c) (int .u32 (m:Int))=bn:=ah;rw[U]at az ai;have bk:=Ab ah;clear ah U;have na:=Ab ai;clear ai af ar I E aw au bb ao a7 ak ba hK bi bg bm cg bh bj k1 k2 kk;go_wp2;have U:=Aa bk;unfold Z37 at U;subst U;refine kal (v:=.agg #[(.string nm),(.slice fa n fc),(int i64 st),(int i64 nd),(.bool gn),(int .u32 8),(.slice (some ⟨g,0,none⟩) L c),(int .u32 (m:Int))]) ?_ rfl (Aa az);exact vM
 . have dl:¬(L:Int)<n:=om;have kk:=Av w6 (some X);obtain⟨ai,af⟩:=Zcp w6 (w.heap.size+1) 71 _ _ _ _ _ _ _ _ (.string nm) (.slice fa n fc) (int i64 st) (int i64 nd) (.bool gn) (int .u32 0) (.slice fa n fc) (int .u32 (m:Int)) ((kk.block _ om (by simp;exact b7)).trans E);have ar:PkIn (Pl w6 (w.heap.size+1) (.string nm) (.slice fa n fc) (int i64 st) (int i64 nd) (.bool gn) (int .u32 0) (.slice fa n fc) (int .u32 (m:Int))) fa fc bs:=((al.below au).grown kk (fun H o e1 e2=>by have:=C7 al H o e1 e2;simp;omega)).grown af (fun H o e1 e2=>by have:=C7 al H o e1 e2;simp;omega)
   have az:Hid (EoA w ⟨⟨nml,bys,st,nd,gn⟩,fa,fc⟩ (.returned (.agg #[(.string nm),(.slice fa n fc),(int i64 st),(int i64 nd),(.bool gn),(int .u32 0),(.slice fa n fc),(int .u32 (m:Int))])) (Pl w6 (w.heap.size+1) (.string nm) (.slice fa n fc) (int i64 st) (int i64 nd) (.bool gn) (int .u32 0) (.slice fa n fc) (int .u32 (m:Int)))):=Ab (by
    refine⟨⟨⟨⟨nml,bys,st,nd,gn⟩,0,bs,m⟩,fa,fc,fa,fc⟩, ?_,rfl,⟨by dsimp only;rw[Aa ae,Aa b9],out,by dsimp only;rw[Aa ae];exact ao,.inr ⟨by dsimp only;rw[ak,Aa ac];omega,rfl,by dsimp only;rw[Aa ae]⟩⟩,⟨by dsimp only;rw[Aa ae];exact ar,by dsimp only;rw[Aa ac];exact ay,by dsimp only;rw[Aa ac];omega,cd.txt,ar⟩, ?_,rfl,fun H o e1 e2=>.inl ⟨e1,fun e=>e2 (by have dh:bys= []:=e;dsimp only;rw[<-Aa ae,dh];rfl)⟩⟩
    . unfold Ev.val
      dsimp only
      rw[Aa b8,Aa ac,bj]
      first|done|rfl
    . have ct:=kk.size
      exact(au.grown kk om (fun H e=>by cases e;omega)).grown af om (fun H e=>by cases e;omega))
   obtain⟨bn,ah⟩:=Z7k w6 (w.heap.size+1) (.string nm) (.slice fa n fc) (int i64 st) (int i64 nd) (.bool gn) (int .u32 0) (.slice fa n fc) (int .u32 (m:Int));have U:Pl w6 (w.heap.size+1) (.string nm) (.slice fa n fc) (int i64 st) (int i64 nd) (.bool gn) (int .u32 0) (.slice fa n fc) (int .u32 (m:Int))=bn:=ah;rw[U]at az ai;have bk:=Ab ah;clear ah U;have na:=Ab ai;clear ai af ar I E aw au bb ao a7 ak ba hK bi bg bm cg bh bj kk;go_wp2;have U:=Aa bk;unfold Z37 at U;subst U;refine kal (v:=.agg #[(.string nm),(.slice fa n fc),(int i64 st),(int i64 nd),(.bool gn),(int .u32 0),(.slice fa n fc),(int .u32 (m:Int))]) ?_ rfl (Aa az);exact vM
def WrA (w:World)(fs:List Fl)(e:Ending)(w':World):Prop:=
 Below w.heap.size w w'/\((errM fs≠0/\e=.returned (.tuple #[.slice none 0 0,int i64 (errM fs:Nat)]))\/ (errM fs=0/\∃l:List En,l.map En.f=fs/\(∀x∈l,EOf x)/\((12000<(Ba l).length/\e=.returned (.tuple #[.slice none 0 0,int i64 11]))\/ ((Ba l).length<=12000/\∃a c,e=.returned (.tuple #[.slice a (Ba l).length c,int i64 0])/\(Ba l).length<=c/\PkIn w' a c (Ba l)))))
theorem MD {xs:List Ev}(h:ERow w ac v xs)(ae:v.ownBlock=some g)(O:xs≠ []):∃s,w.cell? ⟨g,0,none⟩=some (.string s):=by
 obtain⟨ad,c,rfl,I⟩:=h.entries
 cases xs with
 |nil=>exact absurd rfl O
 |cons x r=>rcases I.at_ with E|⟨b,o,rfl,hb,G⟩;(. cases E);. have aa:=G 0 x rfl 0 od;have H:=Ax h.own oS;obtain⟨af,cap,U,_⟩:=H;cases U;cases ae;have E:w.cell? ⟨b,0+0*8+0,none⟩=some (.string (B x.e.f.name)):=aa;exact⟨_,E⟩
theorem EOf.num {x:En}(h:EOf x)(ag:Lg x.f=0):ENum x/\∀y∈x.pk,y<256:=by obtain⟨aa,O,ae,U,ac,H⟩:=Oi ag;(have I:x.crc<4294967296:=by rw[h.cr];exact FI (Kb _) od);obtain⟨out,af,(⟨ah,G,E⟩|⟨ah,G,E⟩)⟩:=h.pk;exact⟨⟨⟨ae,U⟩,⟨ac,H⟩,aa,O,by rw[E];omega,I,by rw[G];decide⟩,by rw[E];exact F9 af.val⟩;exact⟨⟨⟨ae,U⟩,⟨ac,H⟩,aa,O,by rw[E,Cf];omega,I,by rw[G];decide⟩,by rw[E];exact Kb _⟩
theorem KU (c n:Nat){xs:List Fv}(h:FsIn w ah c xs)(bc:xs.length=n)(bj:Zdq (fls xs)):Calls prog 7 #[.slice ah n c] w fun e w'=>WrA w (fls xs) e w':=by
 have bb:=Ab (Jf h n bc);obtain⟨E,a8⟩:=exq (errM (fls xs));rw[a8]at bb;have bz:=Ab h;have c7:=Ab bj;clear bj;have bf:=Ab bc;have ak:=Ab a8;clear h bc a8;go_enter func7,ntmps7;go_wp2_with fail;refine bb.mono ?_;rintro e dy ⟨rfl,ap⟩;by_cases a5:E=0
 . subst a5;have az:=Hf ak;(have de:n<=12:=by have co:=az.1;have b8:=Aa bf;simp[fls]at co;omega);have bi:∀x∈xs,Lg x.f=0:=fun x G=>az.2 x.f (WZ G);have ay:=Ab bi;have dv:=Ab ap;clear ap az bi bb;go_wp2;go_loopw [5,7,16] (fun cu _ i wr=>∃(k:Nat) (es:List Ev),k<=n/\i=int i64 (k:Int)/\Hid (ERow wr w.heap.size cu es/\es.map (fun y=>y.e.f)=(fls xs).take k/\(∀y∈es,EOf y.e)/\(es= []->cu=.slice none 0 0))/\Hid (Below w.heap.size w wr)) (fun _ _ i _=>n-(intOf i).toNat);exact⟨0,[],VF _,rfl,Ab ⟨ERow.nil _ _,oS,(fun y a9=>absurd a9 WS),fun _=>rfl⟩,dv⟩;obtain⟨k,es,ed,rfl,ai,ao⟩:=hrel;(have al:es.length=k:=by have:=congrArg List.length ai.2.1;have b8:=Aa bf;simp[fls]at this;omega);by_cases aw:k<n
   . obtain⟨x,G,aj⟩:=dR;obtain⟨b,o,rfl,hb,c0,c1,c2,ba,ae⟩:=bz.get ao G;have H:=ao.size;have a7:=bz.all x aj;have I:=Ab (fun(W:World) (d5:Below w.heap.size w W)=>FD (a7.below d5 (VA _)) (oI (Oi (ay x aj))) (c7 x.f (WZ aj) (oI (Oi (ay x aj)))));have bo:(fls xs).take (k+1)=(fls xs).take k++ [x.f]:=Ht (by simp[fls,G]);(have cp:∀g o,x.a=some ⟨g,o,none⟩->x.f.bytes≠ []->g<w.heap.size:=fun g o e1 e2=>by have:=C7 (Z2k a7.bs) g o e1 (fun e=>e2 (by rw[<-MT x.f.bytes,e];rfl));exact this);have d8:=Ab cp;have dj:=Ab bo;rw[Db]at I;unfold Fv.sl at c1;clear G aj a7 bo cp;have dl:=Ab al;have bn:∀o1:Obj,Below w.heap.size w (wr.alloc o1):=fun o1=>ao.alloc H o1;have bu:=Ab bn;have di:=Ab (fun o1:Obj=>ai.1.below ((kaa wr.heap.size wr).alloc (VA _) o1));obtain⟨ac,ck,ej⟩:=x;dsimp only at c0 c1 c2 ba ae;have dx:=I;clear bn al;generalize c6:B ac.name=nm at c0 I;generalize dp:ac.bytes.length=bl at c1 I;generalize db:ac.stamp=st at c2 I;generalize d7:ac.node=nd at ba I;generalize cy:ac.gone=gn at ae I;clear c6 dp db d7 cy dx;go_wp2_with fail;refine(I _ (bu _)).mono ?_;rintro e U ⟨y,rfl,af,cj,av,a4,ar,cm⟩;replace af:y.e.f=ac:=af;replace ar:y.fa=ck:=ar;have li:=(bu _).trans (a4.mono oO);have aa:=(di _).below a4;(have bw:y.lies (fun g=>some g≠u5.ownBlock):=by(have hold:∀g o,ck=some ⟨g,o,none⟩->ac.bytes≠ []->some g≠u5.ownBlock:=fun g o e1 e2 e3=>by have co:=Aa d8 g o e1 e2;have b8:=(aa.own.lt g e3.symm).1;omega);constructor;intro g o e1 e2;exact hold g o (ar.symm.trans e1) (by rw[<-af];exact e2);. intro g o e1 e2;(rcases cm g o e1 e2 with ⟨b7,bh⟩|rfl);exact hold g o b7 (by rw[<-af];exact bh);. intro e3;(have cv:es≠ []:=by intro dw;rw[(Aa ai).2.2.2 dw]at e3;cases e3);obtain⟨s,dm⟩:=MD aa e3.symm cv;rcases av.pk.1 with dh|⟨eb,eg,b5,ei,dz⟩;exact e2 dh;. rw[e1]at b5;cases b5;have:=dz 0 (List.length_pos_iff.2 e2);rw[VY,dm]at this;cases this);obtain⟨b9,dn,da,du,d9⟩:=ydE (fun o1:Obj=>aa.below ((kaa U.heap.size U).alloc (VA _) o1)) (fun o1:Obj=>av.below ((kaa U.heap.size U).alloc (VA _) o1)) bw cj af;have dt:=li.size;have d6:=Ab (fun o1:Obj=>li.alloc dt o1);(have cw:es.length+1<=100000:=by rw[Aa dl];omega);have df:Hid (∀o1,o1=Obj.cells y.cells.toArray 71->∀j u,y.cells[j]? =some u->(U.alloc o1).cell? ⟨U.heap.size,j,none⟩=some u):=Ab (fun o1 e j u c5=>by subst e;rw[Ac (kae U _)];simpa using c5);clear a4 li aa bw av cj af ar cm I c0 c1 c2 ba ae;unfold Ev.val;go_wp2_with (at_builtin;refine Gg _ rfl _ _ rfl w.heap.size _ es rfl (b9 _) U.heap.size y rfl (df _ rfl) (dn _) da cw oO ?_);intro v' bk bg bm
     have cz:Hid (ERow bk w.heap.size v' (es++ [y])/\(es++ [y]).map (fun y=>y.e.f)=(fls xs).take (k+1)/\(∀z∈es++ [y],EOf z.e)/\(es++ [y]= []->v'=.slice none 0 0)):=Ab (by
      refine⟨bg, ?_,fun z H=> ?_,fun e=>by simp at e⟩
      . rw[XC,(Aa ai).2.1,Aa dj]
        simp[Aa d9]
      . rcases WG.1 H with H|H
        . exact ai.2.2.1 z H
        . rw[WR.1 H];exact Aa du)
     have c9:Hid (Below w.heap.size w bk):=Ab ((d6 _).grown (Aa bm) oO (fun g e=>((b9 (.cells y.cells.toArray 71)).own.lt g e).1));clear bg bm;go_wp2;go_roundw;exact⟨k+1,es++ [y],om,by go_num,cz,c9⟩;simp[intOf];omega
   . obtain rfl:n=k:=om;obtain⟨aa,a6,bd,_⟩:=Aa ai;have bv:(fls xs).take n=fls xs:=VQ (by simp[fls,Aa bf]);rw[bv]at a6;obtain⟨eh,c2,ci,cg⟩:=aa.entries;rw[al]at ci;subst ci;obtain⟨l,ag⟩:=exq (es.map Ev.e);(have ax:l.map En.f=fls xs:=by rw[<-ag,List.map_map];exact a6);(have a3:∀x∈l,EOf x:=by rw[<-ag];intro x G;obtain⟨y,a9,rfl⟩:=WU.1 G;exact bd y a9);(have cn:∀x∈l,Lg x.f=0:=fun x G=>by(have:x.f∈fls xs:=by rw[<-ax];exact WZ G);obtain⟨z,H,dq⟩:=WU.1 this;rw[<-dq];exact ay z H);have ct:∀x∈es,ENum x.e:=fun x G=>((a3 x.e (by rw[<-ag];exact WZ G)).num (cn x.e (by rw[<-ag];exact WZ G))).1;have pp:=Ab (Vu cg al de ct);rw[ag]at pp;have cd:=Ab ax;have bq:=Ab a3;clear aa a6 bd bv cg ag ax a3 cn ct al;go_wp2_with fail;refine pp.mono ?_;rintro e b0 ⟨v4,rfl,iy,li⟩;obtain⟨ce,ae,rfl,b7,bh,cq,i3⟩:=Tu iy;have p6:=ao.trans (li.mono ao.size);obtain⟨au,ki⟩:=exq ((Ba l).length);rw[ki]at bh;rw[ki];by_cases qx:12000<au;have O:Hid (WrA w (fls xs) (.returned (.tuple #[.slice none 0 0,int i64 11])) b0):=Ab ⟨p6,.inr ⟨ak,l,cd,bq,.inl ⟨by rw[ki];exact qx,rfl⟩⟩⟩;have c8:(12000:Int)<au:=om;exact yY;have O:Hid (WrA w (fls xs) (.returned (.tuple #[.slice ce au ae,int i64 0])) b0):=Ab ⟨p6,.inr ⟨ak,l,cd,bq,.inr ⟨by rw[ki];omega,ce,ae,by rw[ki],by rw[ki];exact bh,b7⟩⟩⟩;have c8:¬(12000:Int)<au:=om;exact yY
 . have O:Hid (WrA w (fls xs) (.returned (.tuple #[.slice none 0 0,int i64 (E:Int)])) dy):=Ab ⟨ap,.inl ⟨by rw[Aa ak];exact a5,by rw[Aa ak]⟩⟩;have h9:=bZ;have ee:=bY;clear ap a5;go_wp2;go_ret2;exact O
theorem Sf:∀(l:List En),(Ba l).length=22+(Au l).length+(Ao 0 l).length:=fun l=>by
 unfold Ba
 rw[VB,VB,G7]
 omega
theorem Zdg (a b:Fl):(a=b)↔(a.name=b.name/\a.bytes=b.bytes/\a.stamp=b.stamp/\a.node=b.node/\a.gone=b.gone):=by cases a;cases b;simp
theorem Z4e (x:Fv)(ag:FvIn w x)(ae:FvIn w y):Calls prog 11 #[x.val,y.val] w fun e w'=>e=.returned (.bool (decide (x.f=y.f)))/\Below w.heap.size w w':=by have a7:=Ab (fun W (aa:Below w.heap.size w W)=>Z67 (ag.bs.below aa (VA _)) (ae.bs.below aa (VA _)));have ac:=Zdg x.f y.f;(have hn:((B x.f.name).toList==(B y.f.name).toList)=decide (x.f.name=y.f.name):=by rw[Ea,Ea,XU,ka2,ka5]);rw[Db,Db];obtain⟨r,hr⟩:=exq (decide (x.f=y.f));(have af:r=decide (x.f.name=y.f.name/\x.f.bytes=y.f.bytes/\x.f.stamp=y.f.stamp/\x.f.node=y.f.node/\x.f.gone=y.f.gone):=by rw[<-hr];exact kbk.2 ac);rw[hr];clear ac hr ag ae;have H:=Ab af;clear af;by_cases I:x.f.name=y.f.name;(. rw[kap I]at hn;by_cases G:x.f.bytes=y.f.bytes;(. by_cases O:x.f.stamp=y.f.stamp;(. by_cases U:x.f.node=y.f.node;(. (have E:r=decide (x.f.gone=y.f.gone):=by rw[Aa H];exact kbk.2 ⟨fun k=>k.2.2.2.2,fun k=>⟨I,G,O,U,k⟩⟩);rw[E];rw[kap G]at a7;clear I G E H;generalize B x.f.name=t at*;generalize B y.f.name=de at*;generalize x.f.bytes.length=n at*;generalize y.f.bytes.length=n2 at*;generalize x.f.stamp=s1 at*;generalize y.f.stamp=ah at*;generalize x.f.node=d1 at*;generalize y.f.node=ai at*;generalize x.f.gone=g1 at*;generalize y.f.gone=g2 at*;subst O;subst U;go_enter func11,ntmps11;go_wp2_with (go_at_call 13;refine(a7 _ (Ar (Ar (kaa _ _) _) _)).mono ?_;rintro e w' ⟨rfl,rfl⟩);go_ret;exact⟨Hc (by cases g1<;>cases g2<;>rfl),Ar (Ar (kaa _ _) _) _⟩);. (have E:r=false:=by rw[Aa H];exact kak (fun k=>U k.2.2.2.1));(have hb:(x.f.node==y.f.node)=false:=by simpa using U);rw[E];rw[kap G]at a7;clear I G E H U;generalize B x.f.name=t at*;generalize B y.f.name=de at*;generalize x.f.bytes.length=n at*;generalize y.f.bytes.length=n2 at*;generalize x.f.stamp=s1 at*;generalize y.f.stamp=ah at*;subst O;exact qT);(have E:r=false:=by rw[Aa H];exact kak (fun k=>O k.2.2.1));(have hb:(x.f.stamp==y.f.stamp)=false:=by simpa using O);rw[E];rw[kap G]at a7;clear I G E H O;exact kD);(have E:r=false:=by rw[Aa H];exact kak (fun k=>G k.2.1));rw[E];rw[kak G]at a7;clear I G E H;exact kD);. (have E:r=false:=by rw[Aa H];exact kak (fun k=>I k.1));rw[E];rw[kak I]at hn;clear I E H a7;generalize B x.f.name=t at*;generalize B y.f.name=de at*;generalize x.f.bytes.length=n at*;generalize y.f.bytes.length=n2 at*;go_enter func11,ntmps11;go_wp2;go_ret;exact⟨rfl,Ar (Ar (kaa _ _) _) _⟩
theorem Z84 {G:Type}{a b:List G}{x y:G}(H:a[k]? =some x)(E:b[k]? =some y)(h:x≠y):a≠b:=by rintro rfl;rw[H]at E;exact h (VK E)
theorem Z85 {E:Type}{a b:List E}{x:E}(h:a.take k=b.take k)(H:a[k]? =some x)(G:b[k]? =some x):a.take (k+1)=b.take (k+1):=by rw[XD,XD,h,H,G]
theorem G4 {xs ys:List Fv}(h:FsIn w ah c xs)(k:FsIn w ap d ys)(hn:xs.length=n)(H:ys.length=m):Calls prog 44 #[.slice ah n c,.slice ap m d,.func (.func 11) #[] #[]] w fun e w'=>e=.returned (.bool (decide (fls xs=fls ys)))/\Below w.heap.size w w':=by
 have I:=pA;(have G:(fls ys).length=m:=by simp[fls,H]);have bn:=h.lim;rw[hn]at bn;by_cases a7:n=m
 . subst a7;obtain⟨r,hr⟩:=exq (decide (fls xs=fls ys));rw[hr];obtain⟨a9,ay,bf,bd,ao,bo,bh⟩:=ydG h k hn H hr I G;have bu:((n:Int)!=n)=false:=oS;clear h k hn H hr I G;go_enter func44,ntmps44;go_wp2;go_loopw [7,8,9,17] (fun _ _ _ i wr=>∃k:Nat,k<=n/\i=int i64 (k:Int)/\Hid ((fls xs).take k=(fls ys).take k)/\Hid (Below w.heap.size w wr)) (fun _ _ _ i _=>n-(intOf i).toNat);exact⟨0,VF _,rfl,by simp;exact trivial,kaa _ _⟩;obtain⟨k,b8,rfl,ba,E⟩:=hrel;by_cases aw:k<n
   . obtain⟨x,ac,a3⟩:=dR;obtain⟨y,U,a6⟩:=Lm (xs:=ys) (k:=k) (by rw[Aa bd];exact aw);obtain⟨b,o,bj,hb,c0,c1,c2,cg,ck⟩:=a9.get E ac;obtain⟨b5,ci,bb,cj,d0,d1,ae,af,a4⟩:=ay.get E U;have cd:=E.size;(have az:(fls xs)[k]? =some x.f:=by simp[fls,ac]);(have av:(fls ys)[k]? =some y.f:=by simp[fls,U]);obtain⟨ag,ar,aa⟩:=ydC az av (fun W (ak:Below w.heap.size w W)=>Z4e x ((a9.all x a3).below ak (VA _)) ((ay.all y a6).below ak (VA _)));rw[Db,Db]at aa;have aj:=nH;have al:y.sl=.slice y.a y.f.bytes.length y.c:=rfl;rw[aj]at c1;rw[al]at d1;obtain⟨q,O⟩:=exq (decide (x.f=y.f));rw[O]at aa;have ai:=Ab O;clear ac U a3 a6 az av aj al O;subst bj;subst bb;generalize B x.f.name=t at*;generalize B y.f.name=bz at*;generalize x.f.bytes.length=b7 at*;generalize y.f.bytes.length=ce at*;generalize x.f.stamp=s1 at*;generalize y.f.stamp=b9 at*;generalize x.f.node=n1 at*;generalize y.f.node=n2 at*;generalize x.f.gone=g1 at*;generalize y.f.gone=g2 at*;have au:=Ab (fun o1 o2=>Ar (Ar E o1) o2);have bm:=fun o=>Qc (o:=o) d0;have bc:=fun o=>Qc (o:=o) d1;have bg:=fun o=>Qc (o:=o) ae;have bi:=fun o=>Qc (o:=o) af;have bv:=fun o=>Qc (o:=o) a4;clear d0 d1 ae af a4;go_wp2_with fail;refine(aa _ (au _ _)).mono ?_;rintro e b0 ⟨rfl,a8⟩;have ax:=Ab ((au _ _).trans (a8.mono oO));clear a8 bm bc bg bi bv
     cases q with
     |false=>(have bk:r=false:=by rw[<-Aa ao];exact kak (Z84 ag ar (kbj ai)));subst bk;go_wp2;go_ret;exact⟨rfl,ax⟩
     |true=>have a5:x.f=y.f:=kax ai;have bw:=Ab (Z85 ba ag (by rw[a5];exact Aa ar));clear a5;go_wp2;go_roundw;exact⟨k+1,om,by go_num,bw,ax⟩;simp[intOf];omega
   . obtain rfl:n=k:=om;(have bq:r=true:=by rw[<-Aa ao];have:=Aa ba;rw[VQ (by rw[Aa bo];exact VA _),VQ (by rw[Aa bh];exact VA _)]at this;exact kap this);subst bq;go_wp2;go_ret;exact⟨rfl,E⟩
 . have e:decide (fls xs=fls ys)=false:=kak (fun h=>a7 (by rw[<-I,<-G,h]));rw[e];have bu:((n:Int)!=m)=true:=oO;clear h k hn H e I G;go_enter func44,ntmps44;go_wp2;go_ret;exact⟨rfl,kaa _ _⟩
theorem B9 {xs ys:List Fv}(h:FsIn w ah c xs)(k:FsIn w ap d ys)(O:xs.length=n)(G:ys.length=m):Calls prog 17 #[.slice ah n c,.slice ap m d] w fun e w'=>e=.returned (.bool (decide (fls xs=fls ys)))/\Below w.heap.size w w':=by have H:=Ab (G4 h k O G);clear h k;generalize decide (fls xs=fls ys)=r at*;go_enter func17,ntmps17;go_wp2_with fail;refine H.mono ?_;rintro e U ⟨rfl,E⟩;have I:=Ab E;clear E;go_wp2;go_ret;exact⟨rfl,I⟩
theorem Zb9 {u:Value}{a b:List Fl}(h:LIn w v a)(k:LIn w u b):Calls prog 17 #[v,u] w fun e w'=>e=.returned (.bool (decide (a=b)))/\Below w.heap.size w w':=by obtain⟨ad,c,out,rfl,I,G⟩:=h;obtain⟨O,d,U,rfl,k2,E⟩:=k;refine(B9 I k2 (Mc G) (Mc E)).mono ?_;rintro e w' ⟨rfl,H⟩;rw[G,E];exact⟨rfl,H⟩
theorem Z4d {u:Value}{a b:List Fl}(h:LIn w v a)(k:LIn w u b)(e:a=b):Calls prog 17 #[v,u] w fun e w'=>e=.returned (.bool true)/\Below w.heap.size w w':=by have:=Zb9 h k;rw[kap e]at this;exact this
end Go.Proofs.YtleocpdblhbimaaGreatDoor
namespace Go.Proofs.YtleocpdblhbimaaGreatDoor
open Go.RowKit Go.Proofs.Tryz Go.ChangeShapes Go.WideShapes Go.ChangeAt Go.Deep
open Go.Value (int)
open Go.IntKind (i64)
variable{ac:Nat}{v:Value}{w:World}
theorem Z32 (b o j:Nat):(⟨b,o,none⟩:Addr).add j=⟨b,o+j,none⟩:=by unfold Addr.add;split<;>simp_all
theorem Zcj:prog.cellsOf 5=1:=oR
theorem Za9:prog.cellsOf 23=1:=oR
theorem Zad:prog.bytesOf 5=1:=oR
theorem DZ {H:Type}{enc:TypeId×Value->H}{x:DataW H×List MemPlace} (h:DataW.trod enc prog w 0 (fun _=>true) true ac 23 [v]=some x) (ai:∀n∈x.1.weights prog 23,n<=140737488351232):∃a c bs,v=.slice a bs.length c/\BsIn w a c bs/\bs.length<=140737488351232:=by(rcases open_ints underlying23 underlying5 Zcj h with ⟨G,_⟩|⟨a,l,c,E,G,_,hl,hm,ah,al,ae,ak⟩);simp at G;subst G;exact⟨none,0,[],rfl,.inl ⟨rfl,rfl,rfl⟩,oS⟩;simp at G;subst G;(have ar:E.length=c:=by simpa using ah);(have hb:∀j,j<E.length->0<=E.getD j 0/\E.getD j 0<=255:=by intro j hj;have ao:E.getD j 0∈E:=tE;have:=ak _ ao;simpa[Lit.wf,IntKind.min,IntKind.max,IntKind.signed,IntKind.bits]using this);have I:((E.take l).map fun n=>UInt8.ofNat n.toNat).length=l:=oO;(have hc:c<=140737488351232:=by apply ai;rw[al];simp only[DataW.weights,underlying23,Zad];refine VV.2 (.inl ?_);simp[lits];omega);refine⟨some a,c,(E.take l).map fun n=>UInt8.ofNat n.toNat,by rw[I], ?_,by rw[I];omega⟩;by_cases af:l=0;subst af;exact .inr (.inl ⟨oS,a,rfl⟩);obtain⟨b,o,ag⟩:=a;have O:=ae 0 om;(have aj:ag=none:=by simpa[Addr.add]using World.cell?_spot O);subst aj;refine .inr (.inr ⟨b,o,rfl, ?_,by rw[I];exact hl, ?_⟩);have:=World.block_lt_of_cell? _ _ O;simpa[Addr.add]using this;intro j hj;rw[I]at hj;have U:=ae j om;rw[Z32]at U;rw[U];have aa:j<E.length:=om;have ap:=hb j aa;(have e:((E.take l).map fun n=>UInt8.ofNat n.toNat).getD j 0=UInt8.ofNat (E.getD j 0).toNat:=by simp[List.getD,hj,aa]);rw[e];(have e2:(UInt8.ofNat (E.getD j 0).toNat).toNat=(E.getD j 0).toNat:=by rw[UInt8.toNat_ofNat'];omega);rw[e2,ZD ap.1]
instance:Inhabited Fv:=⟨⟨⟨[],[],0,0,false⟩,none,0⟩⟩
end Go.Proofs.YtleocpdblhbimaaGreatDoor
