import Derived.Test.YtleocpdblhbimaaGreatDoorQ14
import Derived.Shelf.Strings.Split
set_option linter.unusedSimpArgs false
set_option linter.unusedVariables false
set_option maxRecDepth 100000
set_option maxHeartbeats 8000000
namespace Go.Proofs.YtleocpdblhbimaaGreatDoor
open Go.RowKit
theorem Sz (co:Option Addr)(c n:Nat)(I:List Ev)(w:World)(h:EsIn w co c I)(a2:I.length=n)(dn:n<=12)(bc:∀x∈I,ENum x.e):Calls Tryz.prog 36 #[.slice co n c] w fun e w'=>∃v,e=.returned v/\w'.ownsRow (w.heap.size+1) 5 1 v (Be (I.map Ev.e)).length (u8s (Be (I.map Ev.e)))/\Below w.heap.size w w':=by
 obtain⟨c8,hi,da,de,df⟩:=info_parts OI;obtain⟨l,af⟩:=exq (I.map Ev.e);(have b8:l.length=n:=by rw[<-af];simpa using a2);(have a5:∀x∈l,ENum x:=by rw[<-af];intro x H;obtain⟨y,cv,rfl⟩:=XG.1 H;exact bc y cv);(have cg:∀k,(Av (l.take k)).length<=12081*12:=fun k=>by have bf:=OU (l.take k) (fun x H=>a5 x (VR H));(have bo:(l.take k).length<=12:=by rw[VL];omega);omega);(have bq:∀k,(Ao 0 (l.take k)).length<=97*12:=fun k=>by have bf:=BH (l.take k) 0 (fun x H=>a5 x (VR H));(have bo:(l.take k).length<=12:=by rw[VL];omega);omega);rw[af];(have bn:∀(k:Nat) (x:Ev),I[k]? =some x->l[k]? =some x.e:=fun k x ba=>by rw[<-af];simp[ba]);have di:Hid (AS w w.heap.size w.heap.size (Av (l.take 0)) (.slice none 0 0) (Tl 0 (l.take 0)) (w.alloc (.cells #[.slice none 0 0] 101))):=Ab (by refine⟨⟨.slice none 0 0,VB _,heap_alloc_new w _,World.ownsRow_nil _ _ _ _⟩,World.ownsRow_nil _ _ _ _,(Below.refl _ _).alloc (VB _) _⟩);have aw:=Ab h;have ag:=Ab cg;have bw:=Ab bq;have cj:=Ab bc;have ac:=Ab b8;have bu:=Ab a2;have b4:=Ab bn;clear h cg bq bc b8 a2 bn a5 af;go_enter Tryz.func36,Tryz.ntmps36;go_wp2;go_loopw [4,6,14] (fun c7 _ i wr=>∃k:Nat,k<=n/\i=.int .i64 (k:Int)/\Hid (AS w w.heap.size w.heap.size (Av (l.take k)) c7 (Tl 0 (l.take k)) wr)) (fun _ _ i _=>n-(intOf i).toNat);case atStart=>exact⟨0,VH _,rfl,di⟩
 case round=>
  obtain⟨k,ba,rfl,E⟩:=hrel;by_cases ai:k<n;. obtain⟨x,H,Z⟩:∃x,I[k]? =some x/\x∈I:=⟨I[k]'(by rw[Aa bu];exact ai),VP _,WK _⟩;obtain⟨b,o,rfl,hb,c0,c1,c2,ah,ao,ap,Y,ak⟩:=(Aa aw).get (Aa E).below H;have al:=Aa b4 k x H;have a1:=Ab ((Aa aw).all x Z);have ar:=Aa cj x Z;have G:=Ab (fun(W:World) (U:∃v ps,AS w w.heap.size w.heap.size (Av (l.take k)) v ps W)=>SI w.heap.size w.heap.size x (Av (l.take k)) W (by obtain⟨v,ps,U⟩:=U;exact U.z) ar (by obtain⟨v,ps,U⟩:=U;exact(Aa a1).pk.below U.below) (fun g ct az e2=>Xm (Aa a1).pk g ct az e2) (oI (Aa ag k)));unfold Ev.val at G;have bb:=Ab (Eu al);obtain⟨x,fa,fc,pa,pc⟩:=x;obtain⟨⟨nml,bys,st,nd,gn⟩,mt,pk,cr⟩:=x;dsimp only at c0 c1 c2 ah ao ap Y ak G;generalize B nml=nm at c0 G;generalize bys.length=bl at c1 G;generalize pk.length=pl at Y G;clear H Z al ar;obtain⟨ov,F⟩:=(Aa E).z;obtain⟨d0,ae⟩:=F.new;obtain⟨b9,ck,rfl⟩:=An F.own;have av:=Aa ag k;obtain⟨L,aa⟩:=exq ((Av (l.take k)).length);rw[aa]at d0 av;have ay:=Ab aa;have cy:=F.lt;have cz:∀o1:Obj,(wr.alloc o1).cell? ⟨w.heap.size,0,none⟩=some (.slice b9 L ck):=fun o1=>(World.cell?_alloc_lt wr o1 _ cy).trans d0;have aj:=Ab (fun o1 o2:Obj=>((Aa E).later ((Below.refl _ _).alloc (VB _) o1)).later ((Below.refl _ _).alloc (VB _) o2));(have bh:(Tl 0 (l.take k)).length=k:=by rw[V4,VL,Aa ac];omega);have db:=Ab bh;have bi:=Ab (fun o1 o2:Obj=>(Aa aj o1 o2).p);rw[bh]at bi;clear F aa bh;go_wp2_with (at_builtin;refine wpList_append_own_at _ rfl _ _ 76 rfl (w.heap.size+1) 3 c8 (.int .i64 0) 1 8 Tryz.underlying76 hi da de df rfl od _ k (i64s (Tl 0 (l.take k))) rfl (Aa bi _ _) ⟨wr.heap.size+1,0,none⟩ 1 1 [.int .i64 (L:Int)] rfl rfl (fun j u c5=>Lu (Jo oS) c5) (Bc rfl) ou om oO ?_);intro v' w3 cm a3 _ _;(have M:w3.heap[wr.heap.size]? =some (.cells #[.string nm,.slice fa bl fc,.int .i64 st,.int .i64 nd,.bool gn,.int .u32 (mt:Int),.slice pa pl pc,.int .u32 (cr:Int)] 71 (0,0)):=by refine(a3.block _ oO (fun e=> ?_)).trans ((heap_alloc_old _ _ oS).trans (heap_alloc_new wr _));have:=((Aa E).p.lt _ e.symm).2;omega);have ci:=Ab ((Aa aj _ _).app a3 (by rw[Aa db];exact cm));have e0:=Ac (i:=0) M;have az:=Ac (i:=1) M;have e2:=Ac (i:=2) M;have e3:=Ac (i:=3) M;have cd:=Ac (i:=4) M;have bm:=Ac (i:=5) M;have bj:=Ac (i:=6) M;have b7:=Ac (i:=7) M;simp only[VZ,VY,WI]at e0 az e2 e3 cd bm bj b7;clear cm a3 M c0 c1 c2 ah ao ap Y ak d0 ae cz bi;go_wp2_with fail;refine(Aa G w3 ⟨_,_,Aa ci⟩).mono ?_;rintro e bg ⟨rfl,O⟩;have a4:Hid (AS w w.heap.size w.heap.size (Av (l.take (k+1))) v' (Tl 0 (l.take (k+1))) bg):=Ab (by rw[Aa bb,J3,BQ,WG,Aa ay];exact(Aa ci).up O);clear O e0 az e2 e3 cd bm bj b7;go_wp2;go_roundw;(case rel=>exact⟨k+1,om,by go_num,a4⟩);case measure=>simp[intOf];omega
  . obtain rfl:n=k:=om;have a9:l.take n=l:=VV (by rw[Aa ac];exact VB _);rw[a9]at E;have a7:=Ab a9;clear a9;obtain⟨ov,F⟩:=(Aa E).z;obtain⟨d0,ae⟩:=F.new;obtain⟨b9,ck,rfl⟩:=An F.own;have av:=Aa ag n;rw[Aa a7]at av;obtain⟨L,aa⟩:=exq ((Av l).length);rw[aa]at d0 av;have ay:=Ab aa;clear F aa;go_wp2;go_loopw [8,9,37] (fun _ _ i wr=>∃k:Nat,k<=n/\i=.int .i64 (k:Int)/\Hid (AS w w.heap.size w.heap.size (Av l++Ao 0 (l.take k)) u4 (Tl 0 l) wr)) (fun _ _ i _=>n-(intOf i).toNat);case atStart=>exact⟨0,VH _,rfl,Ab (by simpa[Ao]using Aa E)⟩
    case round=>
     clear d0 ae E ai;obtain⟨k,ba,rfl,E⟩:=hrel;by_cases ai:k<n
     . obtain⟨x,H,Z⟩:∃x,I[k]? =some x/\x∈I:=⟨I[k]'(by rw[Aa bu];exact ai),VP _,WK _⟩;obtain⟨b,o,rfl,hb,c0,c1,c2,ah,ao,ap,Y,ak⟩:=(Aa aw).get (Aa E).below H;have al:=Aa b4 k x H;have a1:=Ab ((Aa aw).all x Z);have ar:=Aa cj x Z;obtain⟨P,b3⟩:=exq ((Av (l.take k)).length);have c9:=Aa ag k;rw[b3]at c9;have b0:=Ab b3;have G:=Ab (fun(W:World) (U:AS w w.heap.size w.heap.size (Av l++Ao 0 (l.take k)) u4 (Tl 0 l) W)=>SH w.heap.size w.heap.size P x (Av l++Ao 0 (l.take k)) W U.z ar om (by rw[VE];have bf:=Aa ag n;have bo:=Aa bw k;rw[VV (by rw[Aa ac];exact VB _)]at bf;omega));unfold Ev.val at G;have bb:=Ab (Eu al);obtain⟨x,fa,fc,pa,pc⟩:=x;obtain⟨⟨nml,bys,st,nd,gn⟩,mt,pk,cr⟩:=x;dsimp only at c0 c1 c2 ah ao ap Y ak G;generalize B nml=nm at c0 G;generalize bys.length=bl at c1 G;generalize pk.length=pl at Y G;clear H Z al ar;(have cn:(Tl 0 l).length=n:=by rw[V4,Aa ac]);have ax:=(Aa E).p;rw[cn]at ax;obtain⟨a8,cq,cu,dd,dh⟩:=Ba ax om;subst cu;(have ce:wr.cell? ⟨a8,k,none⟩=some (.int .i64 (P:Int)):=by rw[ax.cellAt k om,<-Aa b0];have:=Z2j l 0 k (by rw[Aa ac];exact ai);rw[WG]at this;have b5:k<(Tl 0 l).length:=om;simp[List.getD,b5]at this;simp[i64s,b5,this]);have dj:∀o1:Obj,(wr.alloc o1).cell? ⟨a8,k,none⟩=some (.int .i64 (P:Int)):=fun o1=>(World.cell?_alloc_lt wr o1 _ dh).trans ce;have aj:=Ab (fun o1:Obj=>(Aa E).later ((Below.refl _ _).alloc (VB _) o1));clear ax cn dd;go_wp2;go_region_with (go_at_call 56;refine(Aa G _ ((Aa aj _).later (Ae (Below.refl _ _) _))).mono ?_;rintro e bg ⟨rfl,O⟩)
       all_goals
        have a4:Hid (AS w w.heap.size w.heap.size (Av l++Ao 0 (l.take (k+1))) (.slice (some ⟨a8,0,none⟩) n cq) (Tl 0 l) bg):=Ab (by
         rw[Aa bb,Uq,Aa b0,<-VS]
         exact((Aa aj _).later (Ae (Below.refl _ _) _)).up O)
        clear O c0 c1 c2 ah ao ap Y ak ce dj
        go_wp2
        go_roundw
        case rel=>exact⟨k+1,om,by go_num,a4⟩
        case measure=>simp[intOf];omega
     . obtain rfl:n=k:=om;rw[Aa a7]at E;have bv:=Aa bw n;rw[Aa a7]at bv;obtain⟨ov,F⟩:=(Aa E).z;obtain⟨d0,ae⟩:=F.new;obtain⟨dp,dm,rfl⟩:=An F.own;obtain⟨T,au⟩:=exq ((Ao 0 l).length);(have bd:(Av l++Ao 0 l).length=L+T:=by rw[VE,Aa ay,au]);rw[bd]at d0;rw[au]at bv;have cw:=Ab au;have cp:((L:Int)+(T:Int)-(L:Int))=(T:Int):=om;have dc:Hid (Calls Tryz.prog 57 #[.pointer (some ⟨w.heap.size,0,none⟩),.int .i64 (n:Int),.int .i64 ((L:Int)+(T:Int)-(L:Int)),.int .i64 (L:Int)] wr fun e w'=>e=.returned (.tuple #[])/\ZUp w.heap.size wr w.heap.size (Av l++Ao 0 l++Pm n T L) w'):=Ab (by rw[cp];exact SL w.heap.size w.heap.size n T L (Av l++Ao 0 l) wr (Aa E).z om om om (by rw[bd];omega));clear F au bd cp;go_wp2_with fail;refine(Aa dc).mono ?_;rintro e dl ⟨rfl,O⟩;have a6:=(Aa E).up O;obtain⟨ov,F⟩:=a6.z;(have bz:Be l=Av l++Ao 0 l++Pm n T L:=by unfold Be;rw[Aa ac,Aa cw,Aa ay]);have c6:=Ab bz;clear d0 ae O bz;obtain⟨d0,ae⟩:=F.new;have bk:=Ab (And.intro F.own a6.below);clear F a6;go_wp2;go_ret;exact⟨_,rfl,by rw[Aa c6];exact(Aa bk).1,(Aa bk).2⟩
def spn:List (Nat×Nat):= [(97,122),(65,90),(48,57),(46,46),(95,95),(45,45)]
def Ng (c:Nat)(p:Nat×Nat):Bool:=decide (p.1<=c)&&decide (c<=p.2)
theorem NB:∀c:UInt8,okB c=spn.any (Ng c.toNat):=by(have h:∀n:Fin 256,okB (UInt8.ofNat n.val)=spn.any (Ng n.val):=by decide+kernel);intro c;have:=h ⟨c.toNat,c.toNat_lt⟩;simpa using this
theorem Z8a (W:World):(Instr.index 289 (.agg #[.int .u8 97,.int .u8 122,.int .u8 65,.int .u8 90,.int .u8 48,.int .u8 57,.int .u8 46,.int .u8 46,.int .u8 95,.int .u8 95,.int .u8 45,.int .u8 45]) (.int .i64 0)).run Tryz.prog W=.ok (.agg #[.int .u8 97,.int .u8 122]) W:=oR
theorem Z89 (W:World):(Instr.index 289 (.agg #[.int .u8 97,.int .u8 122,.int .u8 65,.int .u8 90,.int .u8 48,.int .u8 57,.int .u8 46,.int .u8 46,.int .u8 95,.int .u8 95,.int .u8 45,.int .u8 45]) (.int .i64 1)).run Tryz.prog W=.ok (.agg #[.int .u8 65,.int .u8 90]) W:=oR
theorem Z88 (W:World):(Instr.index 289 (.agg #[.int .u8 97,.int .u8 122,.int .u8 65,.int .u8 90,.int .u8 48,.int .u8 57,.int .u8 46,.int .u8 46,.int .u8 95,.int .u8 95,.int .u8 45,.int .u8 45]) (.int .i64 2)).run Tryz.prog W=.ok (.agg #[.int .u8 48,.int .u8 57]) W:=oR
theorem Z87 (W:World):(Instr.index 289 (.agg #[.int .u8 97,.int .u8 122,.int .u8 65,.int .u8 90,.int .u8 48,.int .u8 57,.int .u8 46,.int .u8 46,.int .u8 95,.int .u8 95,.int .u8 45,.int .u8 45]) (.int .i64 3)).run Tryz.prog W=.ok (.agg #[.int .u8 46,.int .u8 46]) W:=oR
theorem Z86 (W:World):(Instr.index 289 (.agg #[.int .u8 97,.int .u8 122,.int .u8 65,.int .u8 90,.int .u8 48,.int .u8 57,.int .u8 46,.int .u8 46,.int .u8 95,.int .u8 95,.int .u8 45,.int .u8 45]) (.int .i64 4)).run Tryz.prog W=.ok (.agg #[.int .u8 95,.int .u8 95]) W:=oR
theorem Z85 (W:World):(Instr.index 289 (.agg #[.int .u8 97,.int .u8 122,.int .u8 65,.int .u8 90,.int .u8 48,.int .u8 57,.int .u8 46,.int .u8 46,.int .u8 95,.int .u8 95,.int .u8 45,.int .u8 45]) (.int .i64 5)).run Tryz.prog W=.ok (.agg #[.int .u8 45,.int .u8 45]) W:=oR
theorem Z9e (k:Nat)(E:k<6)(W:World):(Instr.index 289 (.agg #[.int .u8 97,.int .u8 122,.int .u8 65,.int .u8 90,.int .u8 48,.int .u8 57,.int .u8 46,.int .u8 46,.int .u8 95,.int .u8 95,.int .u8 45,.int .u8 45]) (.int .i64 (k:Int))).run Tryz.prog W=.ok (.agg #[.int .u8 ((spn.getD k (0,0)).1:Nat),.int .u8 ((spn.getD k (0,0)).2:Nat)]) W:=by have h:k=0\/k=1\/k=2\/k=3\/k=4\/k=5:=om;rcases h with rfl|rfl|rfl|rfl|rfl|rfl;exact Z8a W;exact Z89 W;exact Z88 W;exact Z87 W;exact Z86 W;exact Z85 W
theorem Z67 (k:Nat):(spn.getD k (0,0)).1<256/\(spn.getD k (0,0)).2<256:=by
 match k with
 |0=>decide
 |1=>decide
 |2=>decide
 |3=>decide
 |4=>decide
 |5=>decide
 |k+6=>simp[spn]
theorem Z3o (n k:Nat)(E:k<6)(F:Ng n (spn.getD k (0,0))=true):spn.any (Ng n)=true:=by rw[List.any_eq_true];refine⟨spn.getD k (0,0), ?_,F⟩;have hl:k<spn.length:=E;simp[List.getD,hl]
theorem TY (n:Nat)(G:∀j,j<6->Ng n (spn.getD j (0,0))=false):spn.any (Ng n)=false:=by rw[List.any_eq_false];intro x F;obtain⟨j,E,rfl⟩:=List.mem_iff_getElem.1 F;have:=G j E;simp[List.getD,E]at this;simp[this]
theorem E8 (n:Nat)(ae:n<256)(w:World):Calls Tryz.prog 175 #[.int .u8 n] w fun e w'=>e=.returned (.bool (spn.any (Ng n)))/\Below w.heap.size w w':=by have M:=Z9e;go_enter Tryz.func175,Tryz.ntmps175;go_wp2;go_loopw [12] (fun i wr=>∃k:Nat,k<=6/\i=.int .i64 k/\Hid (∀j,j<k->Ng n (spn.getD j (0,0))=false)/\Hid (Below w.heap.size w wr)) (fun i _=>6-(intOf i).toNat);(case atStart=>exact⟨0,VH _,rfl,fun j G=>absurd G om,Below.refl _ _⟩);case round=>obtain⟨k,af,rfl,H,E⟩:=hrel;by_cases O:k<6;(. have ac:=M k O;obtain⟨aa,Z⟩:=Z67 k;have I:Hid (Ng n (spn.getD k (0,0))=(decide ((spn.getD k (0,0)).1<=n)&&decide (n<=(spn.getD k (0,0)).2))):=rfl;have U:=Ab (Z3o n k O);generalize (spn.getD k (0,0)).1=lo at*;generalize (spn.getD k (0,0)).2=hi at*;clear M;have Y:=(Aa E).size;by_cases T:lo<=n;(. by_cases hb:n<=hi;(. go_wp2;go_ret;refine⟨Dq ((Aa U) ?_).symm,(Aa E).alloc (Aa E).size _⟩;rw[Aa I];simp[T,hb]);. go_wp2;go_roundw;(case rel=>refine⟨k+1,om,by go_num,fun j G=> ?_,(Aa E).alloc (Aa E).size _⟩;by_cases F:j=k;subst F;rw[Aa I];simp[hb];exact(Aa H) j om);case measure=>simp[intOf];omega);. go_wp2;go_roundw;(case rel=>refine⟨k+1,om,by go_num,fun j G=> ?_,(Aa E).alloc (Aa E).size _⟩;by_cases F:j=k;subst F;rw[Aa I];simp[T];exact(Aa H) j om);case measure=>simp[intOf];omega);. obtain rfl:k=6:=om;go_wp2;go_ret;exact⟨Dq (TY n (Aa H)).symm,Aa E⟩
theorem NA (p:ByteArray)(O:p.data.toList≠ [])(F:p.data.toList≠ [46])(E:p.data.toList≠ [46,46])(I:∀j (h:j<p.size),spn.any (Ng (p[j]'h).toNat)=true):okP p.data.toList=true:=by simp only[okP,ZM,bne_iff_ne];refine⟨⟨⟨O,F⟩,E⟩, ?_⟩;rw[WX];intro x M;obtain⟨j,H,rfl⟩:=List.mem_iff_getElem.1 M;rw[NB];(have G:j<p.size:=by rw[Z00];exact H);exact I j G
theorem Z4e (p:ByteArray)(j:Nat)(E:j<p.size)(F:spn.any (Ng (p[j]'E).toNat)=false):okP p.data.toList=false:=by(have hb:okB (p[j]'E)=false:=by rw[NB];exact F);(have:p.data.toList.all okB=false:=by rw[List.all_eq_false];refine⟨p[j]'E, ?_,by simp[hb]⟩;exact Array.mem_toList_iff.2 (Array.getElem_mem _));simp[okP,this]
theorem BK (p:ByteArray)(l:List UInt8)(E:¬p.data.toList=l):(p.toList==l)=false:=by rw[Lib.toList_data];simpa using E
theorem Xb (p:ByteArray)(E:¬p.data.toList= []):p.toList.isEmpty=false:=by
 rw[Lib.toList_data]
 cases hl:p.data.toList with
 |nil=>exact absurd hl E
 |cons x xs=>rfl
theorem GK (p:ByteArray)(ac:p.size<=maxLen)(w:World):Calls Tryz.prog 145 #[.string p] w fun e w'=>e=.returned (.bool (okP p.data.toList))/\Below w.heap.size w w':=by
 by_cases H:p.data.toList= [];(. (obtain rfl:p=⟨#[]⟩:=by rw[<-DZ p,H];rfl);go_enter Tryz.func145,Tryz.ntmps145;go_wp2;go_ret;exact⟨rfl,Below.refl _ _⟩);by_cases G:p.data.toList= [46];(. (obtain rfl:p=⟨#[46]⟩:=by rw[<-DZ p,G];rfl);go_enter Tryz.func145,Tryz.ntmps145;go_wp2;go_ret;exact⟨rfl,Below.refl _ _⟩);by_cases F:p.data.toList= [46,46];(. (obtain rfl:p=⟨#[46,46]⟩:=by rw[<-DZ p,F];rfl);go_enter Tryz.func145,Tryz.ntmps145;go_wp2;go_ret;exact⟨rfl,Below.refl _ _⟩);have af:=Ab (NA p H G F);have e0:=Xb p H;have aj:=BK p [46] G;have e2:=BK p [46,46] F;clear H G F;have ah:=Ab (Z4e p);go_enter Tryz.func145,Tryz.ntmps145;go_wp2;go_loopw [3,16] (fun _ i wr=>∃k:Nat,k<=p.size/\i=.int .i64 k/\Hid (∀j (h:j<p.size),j<k->spn.any (Ng (p[j]'h).toNat)=true)/\Hid (Below w.heap.size w wr)) (fun _ i _=>p.size-(intOf i).toNat);case atStart=>exact⟨0,VH _,rfl,fun j _ Y=>absurd Y om,Below.refl _ _⟩
 case round=>
  obtain⟨k,ai,rfl,Z,M⟩:=hrel;unfold maxLen at ac;have aa:=(Aa M).size;by_cases O:k<p.size
  . have I:=Ab (fun W=>E8 (p[k]'O).toNat (p[k]'O).toNat_lt W)
    cases hm:spn.any (Ng (p[k]'O).toNat)with
    |true=>rw[hm]at I;have T:=Ab hm;clear hm;go_wp2_with (go_at_call 175;refine((Aa I) _).mono ?_;rintro e ae ⟨rfl,E⟩;have U:=Ab ((Aa M).trans (E.mono aa));clear E);go_roundw;(case rel=>refine⟨k+1,om,by go_num,fun j h Y=> ?_,Aa U⟩;by_cases ag:j=k;subst ag;exact Aa T;exact(Aa Z) j h om);case measure=>simp[intOf];omega
    |false=>rw[hm]at I;have T:=Ab hm;clear hm;go_wp2_with (go_at_call 175;refine((Aa I) _).mono ?_;rintro e ae ⟨rfl,E⟩;have U:=Ab ((Aa M).trans (E.mono aa));clear E);go_ret;exact⟨Dq ((Aa ah) k O (Aa T)).symm,Aa U⟩
  . obtain rfl:k=p.size:=om;go_wp2;go_ret;exact⟨Dq ((Aa af) (fun j h=>(Aa Z) j h h)).symm,Aa M⟩
def B5:Go.Shelf.Ren:=⟨fun|221=>81|268=>113|138=>114|143=>115|195=>152|197=>117|218=>153|219=>154|260=>155|217=>187|225=>188|224=>189|267=>190|266=>214|314=>215|n=>n,fun|9=>9|3=>3|31=>43|4=>4|0=>0|105=>183|21=>21|5=>5|46=>66|119=>261|139=>264|138=>263|146=>266|51=>35|n=>n,fun|1=>0|3=>1|4=>2|n=>n⟩
theorem R9:Go.Proofs.Lays.n221 Tryz.prog B5:= {
 mixed:=oR
 f138:=Tryz.func114.trans (congrArg some oR)
 f143:=Tryz.func115.trans (congrArg some oR)
 f195:=Tryz.func152.trans (congrArg some oR)
 f197:=Tryz.func117.trans (congrArg some oR)
 f217:=Tryz.func187.trans (congrArg some oR)
 f218:=Tryz.func153.trans (congrArg some oR)
 f219:=Tryz.func154.trans (congrArg some oR)
 f221:=Tryz.func81.trans (congrArg some oR)
 f224:=Tryz.func189.trans (congrArg some oR)
 f225:=Tryz.func188.trans (congrArg some oR)
 f260:=Tryz.func155.trans (congrArg some oR)
 f266:=Tryz.func214.trans (congrArg some oR)
 f267:=Tryz.func190.trans (congrArg some oR)
 f268:=Tryz.func113.trans (congrArg some oR)
 f314:=Tryz.func215.trans (congrArg some oR)
 t0:=Tryz.underlying0
 a0:=Tryz.isAgg0
 z0:=Tryz.sizeOf0
 v0:=Tryz.zeroValue0
 t3:=Tryz.underlying3
 a3:=Tryz.isAgg3
 z3:=Tryz.sizeOf3
 v3:=Tryz.zeroValue3
 t4:=Tryz.underlying4
 a4:=Tryz.isAgg4
 z4:=Tryz.sizeOf4
 v4:=Tryz.zeroValue4
 t5:=Tryz.underlying5
 a5:=Tryz.isAgg5
 z5:=Tryz.sizeOf5
 v5:=Tryz.zeroValue5
 t9:=Tryz.underlying9
 a9:=Tryz.isAgg9
 z9:=Tryz.sizeOf9
 v9:=Tryz.zeroValue9
 t21:=Tryz.underlying21
 a21:=Tryz.isAgg21
 z21:=Tryz.sizeOf21
 v21:=Tryz.zeroValue21
 t31:=Tryz.underlying43
 a31:=Tryz.isAgg43
 z31:=Tryz.sizeOf43
 v31:=Tryz.zeroValue43
 t46:=Tryz.underlying66
 a46:=Tryz.isAgg66
 z46:=Tryz.sizeOf66
 v46:=Tryz.zeroValue66
 t51:=Tryz.underlying35
 a51:=Tryz.isAgg35
 z51:=Tryz.sizeOf35
 v51:=Tryz.zeroValue35
 t105:=Tryz.underlying183
 a105:=Tryz.isAgg183
 z105:=Tryz.sizeOf183
 v105:=Tryz.zeroValue183
 t119:=Tryz.underlying261
 a119:=Tryz.isAgg261
 z119:=Tryz.sizeOf261
 t138:=Tryz.underlying263
 a138:=Tryz.isAgg263
 z138:=Tryz.sizeOf263
 v138:=Tryz.zeroValue263
 t139:=Tryz.underlying264
 a139:=Tryz.isAgg264
 z139:=Tryz.sizeOf264
 v139:=Tryz.zeroValue264
 t146:=Tryz.underlying266
 a146:=Tryz.isAgg266
 z146:=Tryz.sizeOf266
 v146:=Tryz.zeroValue266
 g1:=oR
 g3:=oR
 g4:=oR}
def Qj (ps:List (List UInt8)):List Value:=ps.map fun p=>.string (B p)
theorem Z1b:(Tryz.prog.info? 9).map (fun i=>(i.zero,i.size,i.bytes))=some (some (.string ByteArray.empty),1,16):=oR
theorem J8 (s:ByteArray)(w:World)(H:s.size<4294967281):Calls Tryz.prog 81 #[.string s,.string ⟨#[47]⟩,.int .i64 0,.int .i64 (-1)] w fun e w'=>e=.returned (.slice (some ⟨w.heap.size,0,none⟩) (spl s.data.toList).length (spl s.data.toList).length)/\w'=w.alloc (.cells (Qj (spl s.data.toList)).toArray 9):=by have E:(⟨#[47]⟩:ByteArray).size=1:=rfl;have M:=Lib.countB_le ⟨#[47]⟩ (by rw[E];decide) s.size s (VB _);have F:=Lib.splitB_all ⟨#[47]⟩ (by rw[E];decide) 0 _ s rfl;(have G:∀(x:ByteArray) (c:Array Value),x.size<=s.size->Calls Tryz.prog (B5.f 143) #[.string x,.string ⟨#[47]⟩] (w.alloc (.cells c (B5.t 9))) fun e w'=>e=.returned (.int .i64 (Lib.indexB x ⟨#[47]⟩))/\w'=w.alloc (.cells c (B5.t 9)):=by intro x c _;refine(Any.strings_Index_one {R9 with} x 47 _).mono ?_;rintro e w' ⟨rfl,rfl⟩;refine⟨?_,rfl⟩;show _=Ending.returned (Value.int .i64 (Lib.index x.data.toList [47]));rw[Lib.index_one]);(have I:Calls Tryz.prog (B5.f 138) #[.string s,.string ⟨#[47]⟩] w fun e w'=>e=.returned (.int .i64 (Lib.countB s ⟨#[47]⟩))/\w'=w:=by refine(Any.strings_Count_one {R9 with} s 47 w).mono ?_;rintro e w' ⟨rfl,rfl⟩;refine⟨?_,rfl⟩;show _=Ending.returned (Value.int .i64 ((Lib.count s.data.toList [47]:Nat):Int));rw[Lib.count_one];rfl);have c:=Any.strings_genSplit_core R9 Z1b s ⟨#[47]⟩ 0 (-1) (Lib.countB s ⟨#[47]⟩+1) w H (by rw[E];decide) (VH _) G I od od (by rw[if_pos od];omega);rw[YA]at c;(have e2:Lib.cellsOf (Lib.splitB ⟨#[47]⟩ 0 (Lib.countB s ⟨#[47]⟩) s) (Lib.countB s ⟨#[47]⟩+1)=((Lib.splitB ⟨#[47]⟩ 0 (Lib.countB s ⟨#[47]⟩) s).map Value.string).toArray:=by rw[<-F];exact Lib.cellsOf_full _);rw[e2,EZ,IP]at c;refine c.mono ?_;rintro e w' ⟨rfl,rfl⟩;refine⟨oS, ?_⟩;simp only[Qj,ZU];rfl
theorem B3 (s:ByteArray)(w:World)(F:s.size<4294967281):Calls Tryz.prog 58 #[.string s,.string ⟨#[47]⟩] w fun e w'=>e=.returned (.slice (some ⟨w.heap.size,0,none⟩) (spl s.data.toList).length (spl s.data.toList).length)/\w'=w.alloc (.cells (Qj (spl s.data.toList)).toArray 9):=by have c:=J8 s w F;go_enter Tryz.func58,Tryz.ntmps58;go_wp2_with (go_at_call 81;refine c.mono ?_;rintro e w' ⟨rfl,E⟩;rw[E]);go_ret;exact⟨rfl,rfl⟩
def SRow (w:World)(b:Nat)(v:Value)(ps:List (List UInt8)):Prop:=w.ownsRow b 9 1 v ps.length (Qj ps)
theorem Xc (E:List (List UInt8)):(Qj E).length=E.length:=by simp[Qj]
theorem SRow.nil (w:World)(b:Nat):SRow w b (.slice none 0 0) []:=World.ownsRow_nil _ _ _ _
theorem SRow.new (w:World)(E:List (List UInt8))(F:E.length<=maxLen):SRow (w.alloc (.cells (Qj E).toArray 9)) w.heap.size (.slice (some ⟨w.heap.size,0,none⟩) E.length E.length) E:=
 ⟨by rw[Xc];omega,.inr ⟨w.heap.size,E.length,(Qj E).toArray,rfl,VB _,heap_alloc_new w _,VB _,F,by simp[Xc],by simp[<-Xc]⟩⟩
theorem SRow.below {w w':World}{b:Nat}{v:Value}{E:List (List UInt8)}(F:SRow w b v E)(G:Below w.heap.size w w'):SRow w' b v E:=MV F G
theorem SRow.mono {w:World}{b c:Nat}{v:Value}{E:List (List UInt8)}(T:SRow w b v E)(O:c<=b):SRow w c v E:=by obtain⟨H,F⟩:=T;refine⟨H,F.imp id ?_⟩;rintro ⟨g,cap,cur,G,I,M⟩;exact⟨g,cap,cur,G,VU O I,M⟩
theorem SRow.cases {w:World}{b:Nat}{v:Value}{E:List (List UInt8)}(h:SRow w b v E):(v=.slice none 0 0/\E= [])\/∃g cap,v=.slice (some ⟨g,0,none⟩) E.length cap/\b<=g/\g<w.heap.size/\E.length<=cap/\cap<=maxLen/\∀j x,(E.map B)[j]? =some x->w.cell? ⟨g,0+j,none⟩=some (.string x):=by
 obtain⟨ac,I|⟨g,cap,cur,Y,U,M,T,Z,af,O⟩⟩:=h;exact .inl ⟨I.1,ZH.1 I.2⟩
 . (have aa:g<w.heap.size:=by rcases ZQ g w.heap.size with G|G;exact G;simp[ZN G]at M);refine .inr ⟨g,cap,Y,U,aa,T,Z, ?_⟩;intro j x F;(have ae:j<E.length:=by rcases ZQ j E.length with G|G;exact G;rw[WJ (by simpa using G)]at F;exact absurd F oS);rw[WG,Lib.cell_of_heap M];(have e:(cur.toList.take (E.length*1))[j]? =(Qj E)[j]? :=by rw[O]);rw[List.getElem?_take,if_pos om]at e;simp only[Qj,List.getElem?_map]at e F;rw[<-Array.getElem?_toList,e]
   cases H:E[j]? with
   |none=>rw[H]at F;exact absurd F oS
   |some p=>rw[H]at F;simp at F ⊢;exact F
theorem N3 {s:List UInt8}(E:40<s.length):Kg s=2:=by unfold Kg;rw[if_pos E]
theorem DI {s:List UInt8}(H:s.length<=40){p:List UInt8}(E:p∈spl s)(F:okP p=false):Kg s=1:=by unfold Kg;rw[if_neg om,if_neg];intro G;have:=WX.1 G p E;rw[F]at this;exact absurd this oS
theorem BL {s:List UInt8}(E:s.length<=40):(spl s).length<=41:=by have:=YI (a:=(47:UInt8)) (l:=s);rw[LQ];omega
def Z41 (s:List UInt8):List (List UInt8):=if Kg s=0 then spl s else []
theorem MG {s:List UInt8}(E:Kg s=0):Z41 s=spl s:=by unfold Z41;rw[if_pos E]
theorem Ox {s:List UInt8}(E:Kg s≠0):Z41 s= []:=by unfold Z41;rw[if_neg E]
theorem Mv (w:World)(o:Obj):Below w.heap.size w (w.alloc o):=(Below.refl _ _).alloc (VB _) o
theorem MM (s:List UInt8)(w:World)(aa:s.length<=maxLen):Calls Tryz.prog 109 #[.string (B s)] w fun e w'=>∃v,e=.returned (.tuple #[v,.int .i64 (Kg s:Nat)])/\SRow w' w.heap.size v (Z41 s)/\Below w.heap.size w w'/\(Kg s≠0->v=.slice none 0 0):=by
 have F:=Im s;unfold maxLen at aa;by_cases Z:40<s.length;. have U:=Ab (N3 Z);(have ax:40<(B s).size:=by rw[F];omega);(have a6:(B s).size<=9223372036854775807:=by rw[F];omega);clear F Z aa;generalize B s=t at*;go_enter Tryz.func109,Tryz.ntmps109;go_wp2;go_ret2;rw[Ox (by rw[Aa U];decide),Aa U];exact⟨_,rfl,SRow.nil _ _,Below.refl _ _,fun _=>rfl⟩
 . have T:=B3 (B s) w (by rw[F];omega);rw[QE]at T;(have ax:(B s).size<=40:=by rw[F];omega);have ap:=BL (s:=s) om;have ag:=Ab (SRow.new w (spl s) ou);have U:=Ab (fun p Y hb=>DI (s:=s) (p:=p) om Y hb);have a2:=Ab (PV (l:=s) om);have a3:∀p∈spl s,p.length<=s.length:=Z2g s;obtain⟨L,ac⟩:=exq ((spl s).length);rw[ac]at T ag ap;have ah:=Ab ac;(have ay:Hid (∀j (E:j<(spl s).length) (W:World),Below (w.heap.size+1) (w.alloc (.cells (Qj (spl s)).toArray 9)) W->W.cell? ⟨w.heap.size,j,none⟩=some (.string (B ((spl s)[j]'E)))):=by intro j E W aw;rw[aw.cell (p:=⟨w.heap.size,j,none⟩) (Nat.lt_succ_self _),World.cell?_alloc_at _ _ _ _ rfl];simp[Qj,E]);have a7:s.length<=40:=om;clear ac F Z aa;generalize B s=t at*;go_enter Tryz.func109,Tryz.ntmps109;go_wp2_with (go_at_call 58;refine T.mono ?_;rintro e w' ⟨rfl,au⟩;rw[au]);clear T;go_loopw [6,14] (fun _ i wr=>∃k:Nat,k<=L/\i=.int .i64 k/\Hid (∀j (E:j<(spl s).length),j<k->okP ((spl s)[j]'E)=true)/\Hid (Below (w.heap.size+1) (w.alloc (.cells (Qj (spl s)).toArray 9)) wr)) (fun _ i _=>L-(intOf i).toNat);case atStart=>exact⟨0,VH _,rfl,fun j _ E=>absurd E om,Below.refl _ _⟩
   case round=>
    obtain⟨k,bb,rfl,ak,H⟩:=hrel;by_cases a1:k<L
    . (have M:k<(spl s).length:=by rw[Aa ah];exact a1);have a5:=(Aa ay) k M wr (Aa H);have az:=(Aa H).size;have ba:=a3 _ (WK M);have al:=Ab (WK M);have a4:=Ab (fun h=>(Aa U) _ (Aa al) h);(have av:Hid (okP ((spl s)[k]'M)=true->∀j (E:j<(spl s).length),j<k+1->okP ((spl s)[j]'E)=true):=by intro h j E a8;by_cases e:j=k;subst e;exact h;exact(Aa ak) j E om);generalize (spl s)[k]'M=q at*;have O:=GK (B q) (by rw[Im];unfold maxLen;omega) wr;rw[QE]at O;clear al;generalize B q=a9 at*;have ai:w.heap.size+1<=wr.heap.size:=by simp at az;omega
      cases G:okP q with
      |true=>rw[G]at O;have ae:=Ab G;clear G;go_wp2_with (go_at_call 145;refine O.mono ?_;rintro e ar ⟨rfl,I⟩;have af:=Ab ((Aa H).trans (I.mono ai));clear I);go_roundw;(case rel=>exact⟨k+1,om,by go_num,(Aa av) (Aa ae),Aa af⟩);case measure=>simp[intOf];omega
      |false=>rw[G]at O;have ae:=Ab G;clear G;go_wp2_with (go_at_call 145;refine O.mono ?_;rintro e ar ⟨rfl,I⟩;have af:=Ab ((Aa H).trans (I.mono ai));clear I);go_ret2;have ao:=(Aa a4) (Aa ae);rw[Ox (by rw[ao];decide),ao];exact⟨_,rfl,SRow.nil _ _,(Mv w _).trans ((Aa af).mono (Nat.le_succ _)),fun _=>rfl⟩
    . obtain rfl:k=L:=om;have aj:Hid (Kg s=0):=(Aa a2) (by rw[WX];intro p Y;obtain⟨j,E,rfl⟩:=List.mem_iff_getElem.1 Y;exact(Aa ak) j E (by rw[Aa ah]at E;exact E));go_wp2;go_ret2;rw[MG (Aa aj),Aa aj];refine⟨_,rfl, ?_,(Mv w _).trans ((Aa H).mono (Nat.le_succ _)),fun h=>absurd rfl h⟩;exact(Aa ag).below (by simpa using Aa H)
theorem QV (s:List UInt8)(w:World)(E:s.length<=maxLen):Calls Tryz.prog 74 #[.string (B s)] w fun e w'=>e=.returned (.int .i64 (Kg s:Nat))/\Below w.heap.size w w':=by have c:=MM s w E;generalize B s=t at*;go_enter Tryz.func74,Tryz.ntmps74;go_wp2_with (go_at_call 109;refine c.mono ?_;rintro e w' ⟨v,rfl,_,hb,_⟩;have F:=Ab hb;clear hb);go_ret;exact⟨rfl,Aa F⟩
theorem M3 {f:Fl}(E:Kg f.name≠0):Mq f=Kg f.name:=by unfold Mq;rw[if_pos E]
theorem M4 {f:Fl}(F:Kg f.name=0)(E:3000<f.bytes.length):Mq f=2:=by unfold Mq;rw[if_neg (by simp[F]),if_pos E]
theorem Vs {f:Fl}(G:Kg f.name=0)(E:¬3000<f.bytes.length)(F:f.stamp<0\/1000000<f.stamp\/f.node<0\/3<f.node):Mq f=3:=by unfold Mq;rw[if_neg (by simp[G]),if_neg E,if_pos F]
theorem M2 {f:Fl}(G:Kg f.name=0)(E:¬3000<f.bytes.length)(F:¬(f.stamp<0\/1000000<f.stamp\/f.node<0\/3<f.node)):Mq f=if f.gone=true/\0<f.bytes.length then 4 else 0:=by unfold Mq;rw[if_neg (by simp[G]),if_neg E,if_neg F]
theorem Yr (x:Fv)(w:World)(U:FvIn w x):Calls Tryz.prog 52 #[x.val] w fun e w'=>e=.returned (.int .i64 (Mq x.f:Nat))/\Below w.heap.size w w':=by
 have hc:=fun W=>QV x.f.name W (by have:=U.txt;unfold maxLen;omega);have e0:= @M3 x.f;have M:= @M4 x.f;have e2:= @Vs x.f;have e3:= @M2 x.f;rw[Nw];clear U;obtain⟨⟨nm,bs,st,nd,gn⟩,a,c⟩:=x;simp only at*;have ag:∀W W':World,Below W.heap.size W W'->Below W.heap.size W W':=fun _ _ U=>U;generalize B nm=t at*;generalize bs.length=n at*;have T:=Ab hc;by_cases H:Kg nm=0
 . replace M:=M H;replace e2:=e2 H;replace e3:=e3 H;rw[H]at T;clear e0 H hc
   have leaf:∀(G:Nat),Hid (Mq ⟨nm,bs,st,nd,gn⟩=G)->Hid ((G=2/\3000<n)\/ (G=3/\n<=3000/\(st<0\/ (0<=st/\1000000<st)\/ (0<=st/\st<=1000000/\nd<0)\/ (0<=st/\st<=1000000/\0<=nd/\4<=nd)))\/ (G=4/\n<=3000/\0<=st/\st<=1000000/\0<=nd/\nd<4/\gn=true/\0<n)\/ (G=0/\n<=3000/\0<=st/\st<=1000000/\0<=nd/\nd<4/\gn=true/\n=0)\/ (G=0/\n<=3000/\0<=st/\st<=1000000/\0<=nd/\nd<4/\gn=false))->
    Calls Tryz.prog 52 #[.agg #[.string t,.slice a n c,.int .i64 st,.int .i64 nd,.bool gn]] w fun e w'=>e=.returned (.int .i64 ((Mq ⟨nm,bs,st,nd,gn⟩:Nat):Int))/\Below w.heap.size w w':=by
    intro G ae ac
    rw[Aa ae]
    clear M e2 e3 ae
    rcases Aa ac with ⟨rfl,E⟩|⟨rfl,E,I|⟨I,F⟩|⟨I,F,O⟩|⟨I,F,O,aa⟩⟩|⟨rfl,E,I,F,O,aa,rfl,ah⟩|⟨rfl,E,I,F,O,aa,rfl,rfl⟩|⟨rfl,E,I,F,O,aa,rfl⟩
    all_goals (
     clear ac
     go_enter Tryz.func52,Tryz.ntmps52
     go_wp2_with fail
     refine(Aa T _).mono ?_
     rintro e w' ⟨rfl,hb⟩
     have c1:=(hb.cell (p:=⟨w.heap.size,1,none⟩) oS).trans (by simp;rfl)
     have c2:=(hb.cell (p:=⟨w.heap.size,2,none⟩) oS).trans (by simp;rfl)
     have ak:=(hb.cell (p:=⟨w.heap.size,3,none⟩) oS).trans (by simp;rfl)
     have ai:=(hb.cell (p:=⟨w.heap.size,4,none⟩) oS).trans (by simp;rfl)
     have Z:=Ab (((Below.refl w.heap.size w).alloc (VB _) _).trans (hb.mono oS))
     clear hb
     go_wp2
     go_ret
     exact⟨rfl,Aa Z⟩)
   have aj:=Ab (rfl:bs.length=bs.length);by_cases E:3000<n;exact leaf 2 (M E) (.inl ⟨rfl,E⟩)
   . by_cases F:st<0\/1000000<st\/nd<0\/3<nd;refine leaf 3 (e2 E F) (.inr (.inl ⟨rfl,om,om⟩))
     . have Y:=e3 E F
       cases gn with
       |true=>by_cases hn:0<n;exact leaf 4 (by rw[Y,if_pos ⟨rfl,hn⟩];rfl) (.inr (.inr (.inl ⟨rfl,om,om,om,om,om,rfl,hn⟩)));exact leaf 0 (by rw[Y,if_neg (fun k=>hn k.2)];rfl) (.inr (.inr (.inr (.inl ⟨rfl,om,om,om,om,om,rfl,om⟩))))
       |false=>exact leaf 0 (by rw[Y,if_neg (fun k=>by cases k.1)];rfl) (.inr (.inr (.inr (.inr ⟨rfl,om,om,om,om,om,rfl⟩))))
 . rw[e0 H];clear e0 M e2 e3 hc;obtain⟨k,af⟩:=exq (Kg nm);rw[af]at T H ⊢;go_enter Tryz.func52,Tryz.ntmps52;go_wp2_with fail;refine(Aa T _).mono ?_;rintro e w' ⟨rfl,hb⟩;have Z:=Ab (((Below.refl w.heap.size w).alloc (VB _) _).trans (hb.mono oS));clear hb;go_wp2;go_ret;exact⟨rfl,Aa Z⟩
def ahd (xs:List Fv):Nat->Option Fl
 |0=>none
 |k+1=>(fls xs)[k]?
theorem M5 {xs:List Fv}{k:Nat}{x:Fv}(H:xs[k]? =some x):DH (ahd xs k) ((fls xs).drop k)=if Mq x.f≠0 then Mq x.f else if behind (ahd xs k) x.f=false then 4 else DH (ahd xs (k+1)) ((fls xs).drop (k+1)):=by(have E:(fls xs)[k]? =some x.f:=by simp[fls,H]);(have G:k<(fls xs).length:=by rcases ZQ k (fls xs).length with F|F;exact F;. rw[WJ F]at E;cases E);(have e:(fls xs).drop k=x.f::(fls xs).drop (k+1):=by rw[WS G];congr 1;rw[VP G]at E;exact VM E);rw[e,DH];(show _=if Mq x.f≠0 then Mq x.f else if behind (ahd xs k) x.f=false then 4 else DH ((fls xs)[k]?) _);rw[E]
theorem Z2c (x y:List UInt8):Op.bytesLess (B x).toList (B y).toList=decide (Pq x y<0):=by rw[Fh,Fh,CG]
theorem Z2d (x y:List UInt8):((B x).toList==(B y).toList)=decide (Pq x y=0):=by rw[Fh,Fh,XZ,beq_iff_eq,decide_eq_true_iff,QQ]
theorem IZ (E:Option Addr)(n c:Nat)(w:World)(F:12<n):Calls Tryz.prog 34 #[.slice E n c] w fun e w'=>e=.returned (.int .i64 2)/\w'=w:=by go_enter Tryz.func34,Tryz.ntmps34;go_wp2;go_ret;exact⟨rfl,rfl⟩
theorem Sv (au:Option Addr)(c:Nat)(xs:List Fv)(w:World)(h:FsIn w au c xs)(n:Nat)(av:xs.length=n):Calls Tryz.prog 34 #[.slice au n c] w fun e w'=>e=.returned (.int .i64 (errM (fls xs):Nat))/\Below w.heap.size w w':=by
 (have hl:(fls xs).length=n:=by simp[fls,av]);by_cases hm:12<n;(have e:errM (fls xs)=2:=by unfold errM;rw[if_pos om]);rw[e];refine(IZ au n c w hm).mono ?_;rintro e w' ⟨rfl,rfl⟩;exact⟨rfl,Below.refl _ _⟩
 . (have e:errM (fls xs)=DH none (fls xs):=by unfold errM;rw[if_neg om]);obtain⟨E,al⟩:=exq (DH none (fls xs));rw[e,al];have aj:=Ab h;have a3:=Ab av;have bj:=Ab al;have a6:=Ab hl;clear h e al av hl;go_enter Tryz.func34,Tryz.ntmps34;go_wp2;go_loopw [3,4,5,11] (fun _ _ _ i wr=>∃k:Nat,k<=n/\i=.int .i64 (k:Int)/\Hid (DH (ahd xs k) ((fls xs).drop k)=E)/\Hid (Below w.heap.size w wr)) (fun _ _ _ i _=>n-(intOf i).toNat);case atStart=>exact⟨0,VH _,rfl,Aa bj,Below.refl _ _⟩
   case round=>
    obtain⟨k,bu,rfl,aw,ae⟩:=hrel;by_cases bi:k<n
    . obtain⟨x,ah,a4⟩:=Ob (xs:=xs) (k:=k) (by rw[Aa a3];exact bi);obtain⟨b,o,rfl,hb,c0,c1,c2,bh,a8⟩:=(Aa aj).get (Aa ae) ah;have F:=M5 ah;rw[Aa aw]at F;have bf:=(Aa ae).size;have H:=Ab (fun W (ba:Below w.heap.size w W)=>Yr x W (((Aa aj).all x a4).below ba (VB _)));have ag:=Ab F;rw[Nw]at H;unfold Fv.sl at c1;obtain⟨er,ay⟩:=exq (Mq x.f);rw[ay]at H ag;clear F ay a4;have bw:=Ab ah;clear ah;obtain⟨M,bq,bz⟩:=x;simp only at*;have bb:∃nm,M.name=nm:=⟨_,rfl⟩;obtain⟨nm,ak⟩:=bb;rw[ak]at c0 H;obtain⟨t,ar⟩:=exq (B nm);rw[ar]at c0 H;have a9:=Ab ar;have a7:=Ab ak;clear ar ak;generalize M.bytes.length=bm at*;generalize M.stamp=st at*;generalize M.node=nd at*;generalize M.gone=gn at*;have a2:∀af,Below w.heap.size w (wr.alloc af):=fun af=>(Aa ae).alloc bf af;have I:=Ab a2;clear a2;by_cases a5:er=0
      . subst a5
        cases k with
        |zero=>simp only[YJ,XN]at c0 c1 c2 bh a8;have F:=Aa ag;rw[if_neg oS,if_neg (by simp[ahd,behind])]at F;have T:=Ab F;clear F;go_wp2_with fail;refine(Aa H _ (Aa I _)).mono ?_;rintro e O ⟨rfl,G⟩;have U:=Ab ((Aa I _).trans (G.mono oO));clear G;go_wp2;go_quiet (fail);go_wp2;go_roundw;(case rel=>exact⟨1,om,by go_num,(Aa T).symm,Ae (Aa U) _⟩);case measure=>simp[intOf];omega
        |succ j=>
         obtain⟨y,ao,bg⟩:=Ob (xs:=xs) (k:=j) (by rw[Aa a3];omega);obtain⟨bn,af,bc,bv,d0,_⟩:=(Aa aj).get (Aa ae) ao;cases bc;have F:=Aa ag;rw[if_neg oS]at F;(have az:ahd xs (j+1)=some y.f:=by show (fls xs)[j]? =_;simp[fls,ao]);rw[az]at F;have Y:=Z2c nm y.f.name;have ac:=Z2d nm y.f.name;(have a1:behind (some y.f) M=decide (Pq y.f.name nm<0):=by show decide (Pq y.f.name M.name<0)=_;rw[Aa a7]);rw[a1]at F;have aa:=Su nm y.f.name;rw[Aa a9]at Y ac;generalize B y.f.name=ax at*;generalize y.f.name=ai at*;clear a1 az ao bg;have bo:((j+1:Nat):Int)-1=(j:Int):=om;have bk:(j:Int)<(n:Int):=om;by_cases ap:Pq nm ai=1;. rw[ap]at Y ac aa;rw[if_neg (by rw[aa];decide)]at F;have T:=Ab F;simp only[Int.reduceLT,Int.reduceEq,decide_false]at Y ac;clear F aa ap;go_wp2_with fail;refine(Aa H _ (Aa I _)).mono ?_;rintro e O ⟨rfl,G⟩;have U:=Ab ((Aa I _).trans (G.mono oO));have bd:O.cell? ⟨wr.heap.size,0,none⟩=some (.string t):=(G.cell (p:=⟨wr.heap.size,0,none⟩) oS).trans oS;have r0:O.cell? ⟨b,o+j*5,none⟩=some (.string ax):=(G.cell (p:=⟨b,o+j*5,none⟩) oO).trans ((World.cell?_alloc_past _ _ _ (by show b<wr.heap.size;omega)).trans d0);clear G;go_wp2;go_quiet (fail);go_wp2;go_roundw;(case rel=>exact⟨j+2,om,by go_num,(Aa T).symm,Ae (Aa U) _⟩);case measure=>simp[intOf];omega
         . (have Z:(Pq nm ai= -1\/Pq nm ai=0):=by rcases Kd nm ai with h|h|h<;>omega);rw[if_pos (by rw[aa];apply decide_eq_false;omega)]at F;have T:=Ab F;clear F aa ap;rcases Z with Z|Z
           all_goals (
            rw[Z]at Y ac
            simp only[Int.reduceLT,Int.reduceEq,Int.reduceNeg,decide_true,decide_false]at Y ac
            clear Z
            go_wp2_with fail
            refine(Aa H _ (Aa I _)).mono ?_
            rintro e O ⟨rfl,G⟩
            have U:=Ab ((Aa I _).trans (G.mono oO))
            have bd:O.cell? ⟨wr.heap.size,0,none⟩=some (.string t):=(G.cell (p:=⟨wr.heap.size,0,none⟩) oS).trans oS
            have r0:O.cell? ⟨b,o+j*5,none⟩=some (.string ax):=(G.cell (p:=⟨b,o+j*5,none⟩) oO).trans ((World.cell?_alloc_past _ _ _ (by show b<wr.heap.size;omega)).trans d0)
            clear G
            go_wp2
            go_quiet (fail)
            go_wp2
            go_ret
            exact⟨Dd (by rw[Aa T];rfl),Ae (Aa U) _⟩)
      . have F:=Aa ag;rw[if_pos (by simpa using a5)]at F;have T:=Ab F;clear F;go_wp2_with fail;refine(Aa H _ (Aa I _)).mono ?_;rintro e O ⟨rfl,G⟩;have U:=Ab ((Aa I _).trans (G.mono oO));clear G;go_wp2;go_ret;exact⟨Dd (by rw[Aa T]),Aa U⟩
    . obtain rfl:n=k:=om;go_wp2;go_ret;have:=Aa aw;rw[XQ (by rw[Aa a6];exact VB _)]at this;exact⟨Dd (by rw[<-this];rfl),Aa ae⟩
end Go.Proofs.YtleocpdblhbimaaGreatDoor
