import Derived.Test.YtleocpdblhbimaaGreatDoorQ14
import Derived.Shelf.Strings.Split
set_option linter.unusedSimpArgs false
set_option maxHeartbeats 8000000
namespace Go.Proofs.YtleocpdblhbimaaGreatDoor
open Go.RowKit
set_option linter.unusedVariables false
set_option maxRecDepth 100000
theorem Sz (bu:Option Addr)(c n:Nat)(H:List Ev)(w:World)(h:EsIn w bu c H)(bb:H.length=n)(dl:n<=12)(bf:∀x∈H,ENum x.e):
 Calls Tryz.prog 36 #[.slice bu n c] w fun e w'=>∃v,e=.returned v/\w'.ownsRow (w.heap.size+1) 5 1 v (Be (H.map Ev.e)).length (u8s (Be (H.map Ev.e)))/\Below w.heap.size w w':=by
 obtain⟨cy,hi,cw,di,dc⟩:=info_parts OI;obtain⟨l,ar⟩:=exq (H.map Ev.e);have ck:l.length=n:=by rw[<-ar];simpa using bb
 have bg:∀x∈l,ENum x:=by
  rw[<-ar];intro x I;obtain⟨y,ct,rfl⟩:=XG.1 I;exact bf y ct
 have cj:∀k,(Av (l.take k)).length<=12081*12:=fun k=>by
  have a1:=OU (l.take k) (fun x I=>bg x (VR I));have b7:(l.take k).length<=12:=by rw[VL];omega
  omega
 have cg:∀k,(Ao 0 (l.take k)).length<=97*12:=fun k=>by
  have a1:=BH (l.take k) 0 (fun x I=>bg x (VR I));have b7:(l.take k).length<=12:=by rw[VL];omega
  omega
 rw[ar];have bz:∀(k:Nat) (x:Ev),H[k]? =some x->l[k]? =some x.e:=fun k x a7=>by rw[<-ar];simp[a7]
 have c9:Hid (AS w w.heap.size w.heap.size (Av (l.take 0)) (.slice none 0 0) (Tl 0 (l.take 0)) (w.alloc (.cells #[.slice none 0 0] 101))):=Ab (by
  refine⟨⟨.slice none 0 0,VB _,heap_alloc_new w _,World.ownsRow_nil _ _ _ _⟩,World.ownsRow_nil _ _ _ _,(Below.refl _ _).alloc (VB _) _⟩)
 have ay:=Ab h;have ai:=Ab cj;have bj:=Ab cg;have bv:=Ab bf;have ae:=Ab ck;have b9:=Ab bb;have b8:=Ab bz;clear h cj cg bf ck bb bz bg ar;go_enter Tryz.func36,Tryz.ntmps36
 go_wp2;go_loopw [4,6,14] (fun dd _ i wr=>∃k:Nat,k<=n/\i=.int .i64 (k:Int)/\Hid (AS w w.heap.size w.heap.size (Av (l.take k)) dd (Tl 0 (l.take k)) wr)) (fun _ _ i _=>n-(intOf i).toNat)
 case atStart=>exact⟨0,VH _,rfl,c9⟩
 case round=>
  obtain⟨k,a7,rfl,F⟩:=hrel
  by_cases al:k<n
  . obtain⟨x,I,Z⟩:∃x,H[k]? =some x/\x∈H:=⟨H[k]'(by rw[Aa b9];exact al),VP _,WK _⟩
    obtain⟨b,o,rfl,hb,c0,c1,c2,aj,af,ao,aa,ah⟩:=(Aa ay).get (Aa F).below I;have ag:=Aa b8 k x I;have a4:=Ab ((Aa ay).all x Z);have ak:=Aa bv x Z
    have G:=Ab (fun(W:World) (U:∃v ps,AS w w.heap.size w.heap.size (Av (l.take k)) v ps W)=>SI w.heap.size w.heap.size x (Av (l.take k)) W (by obtain⟨v,ps,U⟩:=U;exact U.z) ak (by
     obtain⟨v,ps,U⟩:=U;exact(Aa a4).pk.below U.below) (fun g df ax e2=>Xm (Aa a4).pk g df ax e2) (by have:=Aa ai k;omega))
    unfold Ev.val at G;have ba:=Ab (Eu ag);obtain⟨x,fa,fc,pa,pc⟩:=x;obtain⟨⟨nml,bys,st,nd,gn⟩,mt,pk,cr⟩:=x;dsimp only at c0 c1 c2 aj af ao aa ah G;generalize B nml=nm at c0 G;generalize bys.length=bl at c1 G;generalize pk.length=pl at aa G;clear I Z ag ak;obtain⟨ov,E⟩:=(Aa F).z;obtain⟨d0,ac⟩:=E.new;obtain⟨cp,ce,rfl⟩:=An E.own;have aw:=Aa ai k;obtain⟨L,Y⟩:=exq ((Av (l.take k)).length);rw[Y]at d0 aw;have av:=Ab Y;have dj:=E.lt;have cq:∀o1:Obj,(wr.alloc o1).cell? ⟨w.heap.size,0,none⟩=some (.slice cp L ce):=fun o1=>(World.cell?_alloc_lt wr o1 _ dj).trans d0
    have ap:=Ab (fun o1 o2:Obj=>((Aa F).later ((Below.refl _ _).alloc (VB _) o1)).later ((Below.refl _ _).alloc (VB _) o2));have a5:(Tl 0 (l.take k)).length=k:=by rw[V4,VL,Aa ae];omega
    have c8:=Ab a5;have a8:=Ab (fun o1 o2:Obj=>(Aa ap o1 o2).p);rw[a5]at a8;clear E Y a5;go_wp2_with (at_builtin;refine wpList_append_own_at _ rfl _ _ 76 rfl (w.heap.size+1) 3 cy (.int .i64 0) 1 8 Tryz.underlying76 hi cw di dc rfl (by decide) _ k (i64s (Tl 0 (l.take k))) rfl (Aa a8 _ _) ⟨wr.heap.size+1,0,none⟩ 1 1 [.int .i64 (L:Int)] rfl rfl (fun j u c7=>Lu (Jo (by simp)) c7) (Bc rfl) (by unfold maxLen;omega) (by omega) (by simp;omega) ?_)
    intro v' w3 bn a3 _ _
    have M:w3.heap[wr.heap.size]? =some (.cells #[.string nm,.slice fa bl fc,.int .i64 st,.int .i64 nd,.bool gn,.int .u32 (mt:Int),.slice pa pl pc,.int .u32 (cr:Int)] 71 (0,0)):=by
     refine(a3.block _ (by simp;omega) (fun e=> ?_)).trans ((heap_alloc_old _ _ (by simp)).trans (heap_alloc_new wr _));have:=((Aa F).p.lt _ e.symm).2
     omega
    have bk:=Ab ((Aa ap _ _).app a3 (by rw[Aa c8];exact bn));have e0:=Ac (i:=0) M;have ax:=Ac (i:=1) M;have e2:=Ac (i:=2) M;have e3:=Ac (i:=3) M;have cd:=Ac (i:=4) M;have b3:=Ac (i:=5) M;have b5:=Ac (i:=6) M;have cm:=Ac (i:=7) M;simp only[VZ,VY,WI]at e0 ax e2 e3 cd b3 b5 cm;clear bn a3 M c0 c1 c2 aj af ao aa ah d0 ac cq a8;go_wp2_with fail
    refine(Aa G w3 ⟨_,_,Aa bk⟩).mono ?_;rintro e a6 ⟨rfl,O⟩
    have bc:Hid (AS w w.heap.size w.heap.size (Av (l.take (k+1))) v' (Tl 0 (l.take (k+1))) a6):=Ab (by
     rw[Aa ba,J3,BQ,WG,Aa av];exact(Aa bk).up O)
    clear O e0 ax e2 e3 cd b3 b5 cm;go_wp2;go_roundw
    case rel=>exact⟨k+1,by omega,by go_num,bc⟩
    case measure=>simp[intOf];omega
  . obtain rfl:n=k:=by omega
    have a2:l.take n=l:=VV (by rw[Aa ae];exact VB _);rw[a2]at F;have bd:=Ab a2;clear a2;obtain⟨ov,E⟩:=(Aa F).z;obtain⟨d0,ac⟩:=E.new;obtain⟨cp,ce,rfl⟩:=An E.own;have aw:=Aa ai n;rw[Aa bd]at aw;obtain⟨L,Y⟩:=exq ((Av l).length);rw[Y]at d0 aw;have av:=Ab Y;clear E Y;go_wp2;go_loopw [8,9,37] (fun _ _ i wr=>∃k:Nat,k<=n/\i=.int .i64 (k:Int)/\Hid (AS w w.heap.size w.heap.size (Av l++Ao 0 (l.take k)) u4 (Tl 0 l) wr)) (fun _ _ i _=>n-(intOf i).toNat)
    case atStart=>exact⟨0,VH _,rfl,Ab (by simpa[Ao]using Aa F)⟩
    case round=>
     clear d0 ac F al;obtain⟨k,a7,rfl,F⟩:=hrel
     by_cases al:k<n
     . obtain⟨x,I,Z⟩:∃x,H[k]? =some x/\x∈H:=⟨H[k]'(by rw[Aa b9];exact al),VP _,WK _⟩
       obtain⟨b,o,rfl,hb,c0,c1,c2,aj,af,ao,aa,ah⟩:=(Aa ay).get (Aa F).below I;have ag:=Aa b8 k x I;have a4:=Ab ((Aa ay).all x Z);have ak:=Aa bv x Z;obtain⟨P,b0⟩:=exq ((Av (l.take k)).length);have cu:=Aa ai k;rw[b0]at cu;have cn:=Ab b0;have G:=Ab (fun(W:World) (U:AS w w.heap.size w.heap.size (Av l++Ao 0 (l.take k)) u4 (Tl 0 l) W)=>SH w.heap.size w.heap.size P x (Av l++Ao 0 (l.take k)) W U.z ak (by omega) (by rw[VE];have a1:=Aa ai n;have b7:=Aa bj k;rw[VV (by rw[Aa ae];exact VB _)]at a1;omega));unfold Ev.val at G;have ba:=Ab (Eu ag);obtain⟨x,fa,fc,pa,pc⟩:=x;obtain⟨⟨nml,bys,st,nd,gn⟩,mt,pk,cr⟩:=x;dsimp only at c0 c1 c2 aj af ao aa ah G;generalize B nml=nm at c0 G;generalize bys.length=bl at c1 G;generalize pk.length=pl at aa G;clear I Z ag ak;have co:(Tl 0 l).length=n:=by rw[V4,Aa ae]
       have az:=(Aa F).p;rw[co]at az;obtain⟨a9,c6,da,cv,dh⟩:=Ba az (by omega);subst da
       have bw:wr.cell? ⟨a9,k,none⟩=some (.int .i64 (P:Int)):=by
        rw[az.cellAt k (by omega),<-Aa cn];have:=Z2j l 0 k (by rw[Aa ae];exact al)
        rw[WG]at this;have ci:k<(Tl 0 l).length:=by omega
        simp[List.getD,ci]at this
        simp[i64s,ci,this]
       have c5:∀o1:Obj,(wr.alloc o1).cell? ⟨a9,k,none⟩=some (.int .i64 (P:Int)):=fun o1=>(World.cell?_alloc_lt wr o1 _ dh).trans bw
       have ap:=Ab (fun o1:Obj=>(Aa F).later ((Below.refl _ _).alloc (VB _) o1));clear az co cv;go_wp2;go_region_with (go_at_call 56;refine(Aa G _ ((Aa ap _).later (Ae (Below.refl _ _) _))).mono ?_;rintro e a6 ⟨rfl,O⟩)
       all_goals
        have bc:Hid (AS w w.heap.size w.heap.size (Av l++Ao 0 (l.take (k+1))) (.slice (some ⟨a9,0,none⟩) n c6) (Tl 0 l) a6):=Ab (by
         rw[Aa ba,Uq,Aa cn,<-VS];exact((Aa ap _).later (Ae (Below.refl _ _) _)).up O)
        clear O c0 c1 c2 aj af ao aa ah bw c5;go_wp2;go_roundw
        case rel=>exact⟨k+1,by omega,by go_num,bc⟩
        case measure=>simp[intOf];omega
     . obtain rfl:n=k:=by omega
       rw[Aa bd]at F;have b4:=Aa bj n;rw[Aa bd]at b4;obtain⟨ov,E⟩:=(Aa F).z;obtain⟨d0,ac⟩:=E.new;obtain⟨dp,dn,rfl⟩:=An E.own;obtain⟨T,au⟩:=exq ((Ao 0 l).length);have bh:(Av l++Ao 0 l).length=L+T:=by rw[VE,Aa av,au]
       rw[bh]at d0;rw[au]at b4;have cz:=Ab au;have bq:((L:Int)+(T:Int)-(L:Int))=(T:Int):=by omega
       have de:Hid (Calls Tryz.prog 57 #[.pointer (some ⟨w.heap.size,0,none⟩),.int .i64 (n:Int),.int .i64 ((L:Int)+(T:Int)-(L:Int)),.int .i64 (L:Int)] wr fun e w'=>e=.returned (.tuple #[])/\ZUp w.heap.size wr w.heap.size (Av l++Ao 0 l++Pm n T L) w'):=Ab (by
        rw[bq];exact SL w.heap.size w.heap.size n T L (Av l++Ao 0 l) wr (Aa F).z (by omega) (by omega) (by omega) (by rw[bh];omega))
       clear E au bh bq;go_wp2_with fail
       refine(Aa de).mono ?_;rintro e dm ⟨rfl,O⟩;have bi:=(Aa F).up O;obtain⟨ov,E⟩:=bi.z;have bm:Be l=Av l++Ao 0 l++Pm n T L:=by unfold Be;rw[Aa ae,Aa cz,Aa av]
       have db:=Ab bm;clear d0 ac O bm;obtain⟨d0,ac⟩:=E.new;have bo:=Ab (And.intro E.own bi.below);clear E bi;go_wp2;go_ret;exact⟨_,rfl,by rw[Aa db];exact(Aa bo).1,(Aa bo).2⟩
def spn:List (Nat×Nat):= [(97,122),(65,90),(48,57),(46,46),(95,95),(45,45)]
def Ng (c:Nat)(p:Nat×Nat):Bool:=decide (p.1<=c)&&decide (c<=p.2)
theorem NB:∀c:UInt8,okB c=spn.any (Ng c.toNat):=by
 have h:∀n:Fin 256,okB (UInt8.ofNat n.val)=spn.any (Ng n.val):=by decide+kernel
 intro c;have:=h ⟨c.toNat,c.toNat_lt⟩
 simpa using this
theorem Z8a (W:World):(Instr.index 289 (.agg #[.int .u8 97,.int .u8 122,.int .u8 65,.int .u8 90,.int .u8 48,.int .u8 57,.int .u8 46,.int .u8 46,.int .u8 95,.int .u8 95,.int .u8 45,.int .u8 45]) (.int .i64 0)).run Tryz.prog W=.ok (.agg #[.int .u8 97,.int .u8 122]) W:=by kernel_rfl
theorem Z89 (W:World):(Instr.index 289 (.agg #[.int .u8 97,.int .u8 122,.int .u8 65,.int .u8 90,.int .u8 48,.int .u8 57,.int .u8 46,.int .u8 46,.int .u8 95,.int .u8 95,.int .u8 45,.int .u8 45]) (.int .i64 1)).run Tryz.prog W=.ok (.agg #[.int .u8 65,.int .u8 90]) W:=by kernel_rfl
theorem Z88 (W:World):(Instr.index 289 (.agg #[.int .u8 97,.int .u8 122,.int .u8 65,.int .u8 90,.int .u8 48,.int .u8 57,.int .u8 46,.int .u8 46,.int .u8 95,.int .u8 95,.int .u8 45,.int .u8 45]) (.int .i64 2)).run Tryz.prog W=.ok (.agg #[.int .u8 48,.int .u8 57]) W:=by kernel_rfl
theorem Z87 (W:World):(Instr.index 289 (.agg #[.int .u8 97,.int .u8 122,.int .u8 65,.int .u8 90,.int .u8 48,.int .u8 57,.int .u8 46,.int .u8 46,.int .u8 95,.int .u8 95,.int .u8 45,.int .u8 45]) (.int .i64 3)).run Tryz.prog W=.ok (.agg #[.int .u8 46,.int .u8 46]) W:=by kernel_rfl
theorem Z86 (W:World):(Instr.index 289 (.agg #[.int .u8 97,.int .u8 122,.int .u8 65,.int .u8 90,.int .u8 48,.int .u8 57,.int .u8 46,.int .u8 46,.int .u8 95,.int .u8 95,.int .u8 45,.int .u8 45]) (.int .i64 4)).run Tryz.prog W=.ok (.agg #[.int .u8 95,.int .u8 95]) W:=by kernel_rfl
theorem Z85 (W:World):(Instr.index 289 (.agg #[.int .u8 97,.int .u8 122,.int .u8 65,.int .u8 90,.int .u8 48,.int .u8 57,.int .u8 46,.int .u8 46,.int .u8 95,.int .u8 95,.int .u8 45,.int .u8 45]) (.int .i64 5)).run Tryz.prog W=.ok (.agg #[.int .u8 45,.int .u8 45]) W:=by kernel_rfl
theorem Z9e (k:Nat)(E:k<6)(W:World):(Instr.index 289 (.agg #[.int .u8 97,.int .u8 122,.int .u8 65,.int .u8 90,.int .u8 48,.int .u8 57,.int .u8 46,.int .u8 46,.int .u8 95,.int .u8 95,.int .u8 45,.int .u8 45]) (.int .i64 (k:Int))).run Tryz.prog W=.ok (.agg #[.int .u8 ((spn.getD k (0,0)).1:Nat),.int .u8 ((spn.getD k (0,0)).2:Nat)]) W:=by
 have h:k=0\/k=1\/k=2\/k=3\/k=4\/k=5:=by omega
 rcases h with rfl|rfl|rfl|rfl|rfl|rfl
 . exact Z8a W
 . exact Z89 W
 . exact Z88 W
 . exact Z87 W
 . exact Z86 W
 . exact Z85 W
theorem Z67 (k:Nat):(spn.getD k (0,0)).1<256/\(spn.getD k (0,0)).2<256:=by
 match k with
 |0=>decide
 |1=>decide
 |2=>decide
 |3=>decide
 |4=>decide
 |5=>decide
 |k+6=>simp[spn]
theorem Z3o (n k:Nat)(F:k<6)(E:Ng n (spn.getD k (0,0))=true):spn.any (Ng n)=true:=by
 rw[List.any_eq_true];refine⟨spn.getD k (0,0), ?_,E⟩;have hl:k<spn.length:=F;simp[List.getD,hl]
theorem TY (n:Nat)(F:∀j,j<6->Ng n (spn.getD j (0,0))=false):spn.any (Ng n)=false:=by
 rw[List.any_eq_false];intro x G;obtain⟨j,E,rfl⟩:=List.mem_iff_getElem.1 G;have:=F j E
 simp[List.getD,E]at this
 simp[this]
theorem E8 (n:Nat)(aa:n<256)(w:World):
 Calls Tryz.prog 175 #[.int .u8 n] w fun e w'=>e=.returned (.bool (spn.any (Ng n)))/\Below w.heap.size w w':=by
 have M:=Z9e;go_enter Tryz.func175,Tryz.ntmps175
 go_wp2;go_loopw [12] (fun i wr=>∃k:Nat,k<=6/\i=.int .i64 k/\Hid (∀j,j<k->Ng n (spn.getD j (0,0))=false)/\Hid (Below w.heap.size w wr)) (fun i _=>6-(intOf i).toNat)
 case atStart=>exact⟨0,VH _,rfl,fun j G=>absurd G (by omega),Below.refl _ _⟩
 case round=>
  obtain⟨k,Z,rfl,F,E⟩:=hrel
  by_cases T:k<6
  . have af:=M k T;obtain⟨Y,ac⟩:=Z67 k;have H:Hid (Ng n (spn.getD k (0,0))=(decide ((spn.getD k (0,0)).1<=n)&&decide (n<=(spn.getD k (0,0)).2))):=rfl;have U:=Ab (Z3o n k T);generalize (spn.getD k (0,0)).1=lo at*;generalize (spn.getD k (0,0)).2=hi at*;clear M;have ae:=(Aa E).size
    by_cases O:lo<=n
    . by_cases hb:n<=hi
      . go_wp2;go_ret;refine⟨Dq ((Aa U) ?_).symm,(Aa E).alloc (Aa E).size _⟩;rw[Aa H];simp[O,hb]
      . go_wp2;go_roundw
        case rel=>
         refine⟨k+1,by omega,by go_num,fun j G=> ?_,(Aa E).alloc (Aa E).size _⟩
         by_cases I:j=k
         . subst I;rw[Aa H];simp[hb]
         . exact(Aa F) j (by omega)
        case measure=>simp[intOf];omega
    . go_wp2;go_roundw
      case rel=>
       refine⟨k+1,by omega,by go_num,fun j G=> ?_,(Aa E).alloc (Aa E).size _⟩
       by_cases I:j=k
       . subst I;rw[Aa H];simp[O]
       . exact(Aa F) j (by omega)
      case measure=>simp[intOf];omega
  . obtain rfl:k=6:=by omega
    go_wp2;go_ret;exact⟨Dq (TY n (Aa F)).symm,Aa E⟩
theorem NA (p:ByteArray)(O:p.data.toList≠ [])(F:p.data.toList≠ [46])(M:p.data.toList≠ [46,46])(I:∀j (h:j<p.size),spn.any (Ng (p[j]'h).toNat)=true):okP p.data.toList=true:=by
 simp only[okP,ZM,bne_iff_ne];refine⟨⟨⟨O,F⟩,M⟩, ?_⟩;rw[WX];intro x E;obtain⟨j,H,rfl⟩:=List.mem_iff_getElem.1 E;rw[NB];have G:j<p.size:=by rw[Z00];exact H
 exact I j G
theorem Z4e (p:ByteArray)(j:Nat)(F:j<p.size)(E:spn.any (Ng (p[j]'h).toNat)=false):okP p.data.toList=false:=by
 have hb:okB (p[j]'h)=false:=by rw[NB];exact E
 have:p.data.toList.all okB=false:=by
  rw[List.all_eq_false];refine⟨p[j]'h, ?_,by simp[hb]⟩;exact Array.mem_toList_iff.2 (Array.getElem_mem _)
 simp[okP,this]
theorem BK (p:ByteArray)(l:List UInt8)(E:¬p.data.toList=l):(p.toList==l)=false:=by
 rw[Lib.toList_data];simpa using E
theorem Xb (p:ByteArray)(E:¬p.data.toList= []):p.toList.isEmpty=false:=by
 rw[Lib.toList_data]
 cases hl:p.data.toList with
 |nil=>exact absurd hl E
 |cons x xs=>rfl
theorem GK (p:ByteArray)(ah:p.size<=maxLen)(w:World):
 Calls Tryz.prog 145 #[.string p] w fun e w'=>e=.returned (.bool (okP p.data.toList))/\Below w.heap.size w w':=by
 by_cases G:p.data.toList= []
 . obtain rfl:p=⟨#[]⟩:=by rw[<-DZ p,G];rfl
   go_enter Tryz.func145,Tryz.ntmps145
   go_wp2;go_ret;exact⟨rfl,Below.refl _ _⟩
 by_cases F:p.data.toList= [46]
 . obtain rfl:p=⟨#[46]⟩:=by rw[<-DZ p,F];rfl
   go_enter Tryz.func145,Tryz.ntmps145
   go_wp2;go_ret;exact⟨rfl,Below.refl _ _⟩
 by_cases M:p.data.toList= [46,46]
 . obtain rfl:p=⟨#[46,46]⟩:=by rw[<-DZ p,M];rfl
   go_enter Tryz.func145,Tryz.ntmps145
   go_wp2;go_ret;exact⟨rfl,Below.refl _ _⟩
 have ag:=Ab (NA p G F M);have e0:=Xb p G;have ai:=BK p [46] F;have e2:=BK p [46,46] M;clear G F M;have af:=Ab (Z4e p);go_enter Tryz.func145,Tryz.ntmps145
 go_wp2;go_loopw [3,16] (fun _ i wr=>∃k:Nat,k<=p.size/\i=.int .i64 k/\Hid (∀j (h:j<p.size),j<k->spn.any (Ng (p[j]'h).toNat)=true)/\Hid (Below w.heap.size w wr)) (fun _ i _=>p.size-(intOf i).toNat)
 case atStart=>exact⟨0,VH _,rfl,fun j _ Z=>absurd Z (by omega),Below.refl _ _⟩
 case round=>
  obtain⟨k,aj,rfl,Y,H⟩:=hrel;unfold maxLen at ah;have U:=(Aa H).size
  by_cases ac:k<p.size
  . have I:=Ab (fun W=>E8 (p[k]'hlt).toNat (p[k]'hlt).toNat_lt W)
    cases hm:spn.any (Ng (p[k]'hlt).toNat)with
    |true=>
     rw[hm]at I;have T:=Ab hm;clear hm;go_wp2_with (go_at_call 175;refine((Aa I) _).mono ?_;rintro e aa ⟨rfl,E⟩;have O:=Ab ((Aa H).trans (E.mono U));clear E)
     go_roundw
     case rel=>
      refine⟨k+1,by omega,by go_num,fun j h Z=> ?_,Aa O⟩
      by_cases ae:j=k
      . subst ae;exact Aa T
      . exact(Aa Y) j h (by omega)
     case measure=>simp[intOf];omega
    |false=>
     rw[hm]at I;have T:=Ab hm;clear hm;go_wp2_with (go_at_call 175;refine((Aa I) _).mono ?_;rintro e aa ⟨rfl,E⟩;have O:=Ab ((Aa H).trans (E.mono U));clear E)
     go_ret;exact⟨Dq ((Aa af) k ac (Aa T)).symm,Aa O⟩
  . obtain rfl:k=p.size:=by omega
    go_wp2;go_ret;exact⟨Dq ((Aa ag) (fun j h=>(Aa Y) j h h)).symm,Aa H⟩
def B5:Go.Shelf.Ren:=⟨fun|221=>81|268=>113|138=>114|143=>115|195=>152|197=>117|218=>153|219=>154|260=>155|217=>187|225=>188|224=>189|267=>190|266=>214|314=>215|n=>n,fun|9=>9|3=>3|31=>43|4=>4|0=>0|105=>183|21=>21|5=>5|46=>66|119=>261|139=>264|138=>263|146=>266|51=>35|n=>n,fun|1=>0|3=>1|4=>2|n=>n⟩
theorem R9:Go.Proofs.Lays.n221 Tryz.prog B5:= {
 mixed:=by kernel_rfl
 f138:=Tryz.func114.trans (congrArg some (by kernel_rfl))
 f143:=Tryz.func115.trans (congrArg some (by kernel_rfl))
 f195:=Tryz.func152.trans (congrArg some (by kernel_rfl))
 f197:=Tryz.func117.trans (congrArg some (by kernel_rfl))
 f217:=Tryz.func187.trans (congrArg some (by kernel_rfl))
 f218:=Tryz.func153.trans (congrArg some (by kernel_rfl))
 f219:=Tryz.func154.trans (congrArg some (by kernel_rfl))
 f221:=Tryz.func81.trans (congrArg some (by kernel_rfl))
 f224:=Tryz.func189.trans (congrArg some (by kernel_rfl))
 f225:=Tryz.func188.trans (congrArg some (by kernel_rfl))
 f260:=Tryz.func155.trans (congrArg some (by kernel_rfl))
 f266:=Tryz.func214.trans (congrArg some (by kernel_rfl))
 f267:=Tryz.func190.trans (congrArg some (by kernel_rfl))
 f268:=Tryz.func113.trans (congrArg some (by kernel_rfl))
 f314:=Tryz.func215.trans (congrArg some (by kernel_rfl))
 t0:=Tryz.underlying0
 a0:=Tryz.isAgg0
 z0:=Tryz.sizeOf0
 v0:=Tryz.zeroValue0
 t3:=Tryz.underlying3
 a3:=Tryz.isAgg3
 z3:=Tryz.sizeOf3
 v3:=Tryz.zeroValue3
 t4:=Tryz.underlying4
 a4:=Tryz.isAgg4
 z4:=Tryz.sizeOf4
 v4:=Tryz.zeroValue4
 t5:=Tryz.underlying5
 a5:=Tryz.isAgg5
 z5:=Tryz.sizeOf5
 v5:=Tryz.zeroValue5
 t9:=Tryz.underlying9
 a9:=Tryz.isAgg9
 z9:=Tryz.sizeOf9
 v9:=Tryz.zeroValue9
 t21:=Tryz.underlying21
 a21:=Tryz.isAgg21
 z21:=Tryz.sizeOf21
 v21:=Tryz.zeroValue21
 t31:=Tryz.underlying43
 a31:=Tryz.isAgg43
 z31:=Tryz.sizeOf43
 v31:=Tryz.zeroValue43
 t46:=Tryz.underlying66
 a46:=Tryz.isAgg66
 z46:=Tryz.sizeOf66
 v46:=Tryz.zeroValue66
 t51:=Tryz.underlying35
 a51:=Tryz.isAgg35
 z51:=Tryz.sizeOf35
 v51:=Tryz.zeroValue35
 t105:=Tryz.underlying183
 a105:=Tryz.isAgg183
 z105:=Tryz.sizeOf183
 v105:=Tryz.zeroValue183
 t119:=Tryz.underlying261
 a119:=Tryz.isAgg261
 z119:=Tryz.sizeOf261
 t138:=Tryz.underlying263
 a138:=Tryz.isAgg263
 z138:=Tryz.sizeOf263
 v138:=Tryz.zeroValue263
 t139:=Tryz.underlying264
 a139:=Tryz.isAgg264
 z139:=Tryz.sizeOf264
 v139:=Tryz.zeroValue264
 t146:=Tryz.underlying266
 a146:=Tryz.isAgg266
 z146:=Tryz.sizeOf266
 v146:=Tryz.zeroValue266
 g1:=by kernel_rfl
 g3:=by kernel_rfl
 g4:=by kernel_rfl}
def Qj (ps:List (List UInt8)):List Value:=ps.map fun p=>.string (B p)
theorem Z1b:(Tryz.prog.info? 9).map (fun i=>(i.zero,i.size,i.bytes))=some (some (.string ByteArray.empty),1,16):=by kernel_rfl
theorem J8 (s:ByteArray)(w:World)(H:s.size<4294967281):
 Calls Tryz.prog 81 #[.string s,.string ⟨#[47]⟩,.int .i64 0,.int .i64 (-1)] w fun e w'=>
  e=.returned (.slice (some ⟨w.heap.size,0,none⟩) (spl s.data.toList).length (spl s.data.toList).length)/\w'=w.alloc (.cells (Qj (spl s.data.toList)).toArray 9):=by
 have E:(⟨#[47]⟩:ByteArray).size=1:=rfl;have M:=Lib.countB_le ⟨#[47]⟩ (by rw[E];decide) s.size s (VB _);have I:=Lib.splitB_all ⟨#[47]⟩ (by rw[E];decide) 0 _ s rfl
 have F:∀(x:ByteArray) (c:Array Value),x.size<=s.size->Calls Tryz.prog (B5.f 143) #[.string x,.string ⟨#[47]⟩] (w.alloc (.cells c (B5.t 9))) fun e w'=>e=.returned (.int .i64 (Lib.indexB x ⟨#[47]⟩))/\w'=w.alloc (.cells c (B5.t 9)):=by
  intro x c _;refine(Any.strings_Index_one {R9 with} x 47 _).mono ?_;rintro e w' ⟨rfl,rfl⟩;refine⟨?_,rfl⟩;show _=Ending.returned (Value.int .i64 (Lib.index x.data.toList [47]))
  rw[Lib.index_one]
 have G:Calls Tryz.prog (B5.f 138) #[.string s,.string ⟨#[47]⟩] w fun e w'=>e=.returned (.int .i64 (Lib.countB s ⟨#[47]⟩))/\w'=w:=by
  refine(Any.strings_Count_one {R9 with} s 47 w).mono ?_;rintro e w' ⟨rfl,rfl⟩;refine⟨?_,rfl⟩;show _=Ending.returned (Value.int .i64 ((Lib.count s.data.toList [47]:Nat):Int))
  rw[Lib.count_one];rfl
 have c:=Any.strings_genSplit_core R9 Z1b s ⟨#[47]⟩ 0 (-1) (Lib.countB s ⟨#[47]⟩+1) w H (by rw[E];decide) (VH _) F G (by decide) (by decide) (by rw[if_pos (by decide)];omega);rw[YA]at c;have e2:Lib.cellsOf (Lib.splitB ⟨#[47]⟩ 0 (Lib.countB s ⟨#[47]⟩) s) (Lib.countB s ⟨#[47]⟩+1)=((Lib.splitB ⟨#[47]⟩ 0 (Lib.countB s ⟨#[47]⟩) s).map Value.string).toArray:=by rw[<-I];exact Lib.cellsOf_full _
 rw[e2,EZ,IP]at c;refine c.mono ?_;rintro e w' ⟨rfl,rfl⟩;refine⟨by simp, ?_⟩;simp only[Qj,ZU];rfl
theorem B3 (s:ByteArray)(w:World)(F:s.size<4294967281):
 Calls Tryz.prog 58 #[.string s,.string ⟨#[47]⟩] w fun e w'=>
  e=.returned (.slice (some ⟨w.heap.size,0,none⟩) (spl s.data.toList).length (spl s.data.toList).length)/\w'=w.alloc (.cells (Qj (spl s.data.toList)).toArray 9):=by
 have c:=J8 s w F;go_enter Tryz.func58,Tryz.ntmps58
 go_wp2_with (go_at_call 81;refine c.mono ?_;rintro e w' ⟨rfl,E⟩;rw[E])
 go_ret;exact⟨rfl,rfl⟩
def SRow (w:World)(b:Nat)(v:Value)(ps:List (List UInt8)):Prop:=w.ownsRow b 9 1 v ps.length (Qj ps)
theorem Xc (E:List (List UInt8)):(Qj E).length=E.length:=by simp[Qj]
theorem SRow.nil (w:World)(b:Nat):SRow w b (.slice none 0 0) []:=World.ownsRow_nil _ _ _ _
theorem SRow.new (w:World)(E:List (List UInt8))(F:E.length<=maxLen):SRow (w.alloc (.cells (Qj E).toArray 9)) w.heap.size (.slice (some ⟨w.heap.size,0,none⟩) E.length E.length) E:=
 ⟨by rw[Xc];omega,.inr ⟨w.heap.size,E.length,(Qj E).toArray,rfl,VB _,heap_alloc_new w _,VB _,F,by simp[Xc],by simp[<-Xc]⟩⟩
theorem SRow.below {w w':World}{b:Nat}{v:Value}{E:List (List UInt8)}(F:SRow w b v E)(G:Below w.heap.size w w'):SRow w' b v E:=MV F G
theorem SRow.mono {w:World}{b c:Nat}{v:Value}{E:List (List UInt8)}(O:SRow w b v E)(H:c<=b):SRow w c v E:=by
 obtain⟨F,I⟩:=O;refine⟨F,I.imp id ?_⟩;rintro ⟨g,cap,cur,T,G,M⟩;exact⟨g,cap,cur,T,VU H G,M⟩
theorem SRow.cases {w:World}{b:Nat}{v:Value}{E:List (List UInt8)}(Z:SRow w b v E):(v=.slice none 0 0/\E= [])\/∃g cap,v=.slice (some ⟨g,0,none⟩) E.length cap/\b<=g/\g<w.heap.size/\E.length<=cap/\cap<=maxLen/\∀j x,(E.map B)[j]? =some x->w.cell? ⟨g,0+j,none⟩=some (.string x):=by
 obtain⟨ae,H|⟨g,cap,cur,aa,O,I,ac,T,ag,U⟩⟩:=Z
 . exact .inl ⟨H.1,ZH.1 H.2⟩
 . have Y:g<w.heap.size:=by
    rcases ZQ g w.heap.size with G|G
    . exact G
    . simp[ZN G]at I
   refine .inr ⟨g,cap,aa,O,Y,ac,T, ?_⟩;intro j x F
   have af:j<E.length:=by
    rcases ZQ j E.length with G|G
    . exact G
    . rw[WJ (by simpa using G)]at F;exact absurd F (by simp)
   rw[WG,Lib.cell_of_heap I];have e:(cur.toList.take (E.length*1))[j]? =(Qj E)[j]? :=by rw[U]
   rw[List.getElem?_take,if_pos (by omega)]at e;simp only[Qj,List.getElem?_map]at e F;rw[<-Array.getElem?_toList,e]
   cases M:E[j]? with
   |none=>rw[M]at F;exact absurd F (by simp)
   |some p=>rw[M]at F;simp at F ⊢;exact F
theorem N3 {s:List UInt8}(E:40<s.length):Kg s=2:=by unfold Kg;rw[if_pos E]
theorem DI {s:List UInt8}(H:s.length<=40){p:List UInt8}(E:p∈spl s)(G:okP p=false):Kg s=1:=by
 unfold Kg;rw[if_neg (by omega),if_neg];intro F;have:=WX.1 F p E
 rw[G]at this;exact absurd this (by simp)
theorem BL {s:List UInt8}(E:s.length<=40):(spl s).length<=41:=by
 have:=YI (a:=(47:UInt8)) (l:=s)
 rw[LQ];omega
def Z41 (s:List UInt8):List (List UInt8):=if Kg s=0 then spl s else []
theorem MG {s:List UInt8}(E:Kg s=0):Z41 s=spl s:=by unfold Z41;rw[if_pos E]
theorem Ox {s:List UInt8}(E:Kg s≠0):Z41 s= []:=by unfold Z41;rw[if_neg E]
theorem Mv (w:World)(o:Obj):Below w.heap.size w (w.alloc o):=(Below.refl _ _).alloc (VB _) o
theorem MM (s:List UInt8)(w:World)(Z:s.length<=maxLen):
 Calls Tryz.prog 109 #[.string (B s)] w fun e w'=>∃v,e=.returned (.tuple #[v,.int .i64 (Kg s:Nat)])/\SRow w' w.heap.size v (Z41 s)/\Below w.heap.size w w'/\(Kg s≠0->v=.slice none 0 0):=by
 have F:=Im s;unfold maxLen at Z
 by_cases U:40<s.length
 . have T:=Ab (N3 U);have az:40<(B s).size:=by rw[F];omega
   have a5:(B s).size<=9223372036854775807:=by rw[F];omega
   clear F U Z;generalize B s=t at*;go_enter Tryz.func109,Tryz.ntmps109
   go_wp2;go_ret2;rw[Ox (by rw[Aa T];decide),Aa T];exact⟨_,rfl,SRow.nil _ _,Below.refl _ _,fun _=>rfl⟩
 . have O:=B3 (B s) w (by rw[F];omega);rw[QE]at O;have az:(B s).size<=40:=by rw[F];omega
   have ay:=BL (s:=s) (by omega);have al:=Ab (SRow.new w (spl s) (by unfold maxLen;omega));have T:=Ab (fun p aa hb=>DI (s:=s) (p:=p) (by omega) aa hb);have a2:=Ab (PV (l:=s) (by omega));have av:∀p∈spl s,p.length<=s.length:=Z2g s;obtain⟨L,ae⟩:=exq ((spl s).length);rw[ae]at O al ay;have ag:=Ab ae
   have ap:Hid (∀j (E:j<(spl s).length) (W:World),Below (w.heap.size+1) (w.alloc (.cells (Qj (spl s)).toArray 9)) W->W.cell? ⟨w.heap.size,j,none⟩=some (.string (B ((spl s)[j]'hj)))):=by
    intro j E W aw;rw[aw.cell (p:=⟨w.heap.size,j,none⟩) (Nat.lt_succ_self _),World.cell?_alloc_at _ _ _ _ rfl];simp[Qj,E]
   have ba:s.length<=40:=by omega
   clear ae F U Z;generalize B s=t at*;go_enter Tryz.func109,Tryz.ntmps109
   go_wp2_with (go_at_call 58;refine O.mono ?_;rintro e w' ⟨rfl,a4⟩;rw[a4])
   clear O;go_loopw [6,14] (fun _ i wr=>∃k:Nat,k<=L/\i=.int .i64 k/\Hid (∀j (E:j<(spl s).length),j<k->okP ((spl s)[j]'hj)=true)/\Hid (Below (w.heap.size+1) (w.alloc (.cells (Qj (spl s)).toArray 9)) wr)) (fun _ i _=>L-(intOf i).toNat)
   case atStart=>exact⟨0,VH _,rfl,fun j _ E=>absurd E (by omega),Below.refl _ _⟩
   case round=>
    obtain⟨k,a9,rfl,aj,G⟩:=hrel
    by_cases au:k<L
    . have ac:k<(spl s).length:=by rw[Aa ag];exact au
      have a8:=(Aa ap) k ac wr (Aa G);have ax:=(Aa G).size;have bb:=av _ (WK ac);have ao:=Ab (WK ac);have a1:=Ab (fun h=>(Aa T) _ (Aa ao) h)
      have a3:Hid (okP ((spl s)[k]'hlt')=true->∀j (E:j<(spl s).length),j<k+1->okP ((spl s)[j]'hj)=true):=by
       intro h j E a7
       by_cases e:j=k
       . subst e;exact h
       . exact(Aa aj) j E (by omega)
      generalize (spl s)[k]'hlt'=q at*;have M:=GK (B q) (by rw[Im];unfold maxLen;omega) wr;rw[QE]at M;clear ao;generalize B q=a6 at*;have ah:w.heap.size+1<=wr.heap.size:=by simp at ax;omega
      cases H:okP q with
      |true=>
       rw[H]at M;have af:=Ab H;clear H;go_wp2_with (go_at_call 145;refine M.mono ?_;rintro e ar ⟨rfl,I⟩;have Y:=Ab ((Aa G).trans (I.mono ah));clear I)
       go_roundw
       case rel=>exact⟨k+1,by omega,by go_num,(Aa a3) (Aa af),Aa Y⟩
       case measure=>simp[intOf];omega
      |false=>
       rw[H]at M;have af:=Ab H;clear H;go_wp2_with (go_at_call 145;refine M.mono ?_;rintro e ar ⟨rfl,I⟩;have Y:=Ab ((Aa G).trans (I.mono ah));clear I)
       go_ret2;have ak:=(Aa a1) (Aa af)
       rw[Ox (by rw[ak];decide),ak];exact⟨_,rfl,SRow.nil _ _,(Mv w _).trans ((Aa Y).mono (Nat.le_succ _)),fun _=>rfl⟩
    . obtain rfl:k=L:=by omega
      have ai:Hid (Kg s=0):=(Aa a2) (by
       rw[WX];intro p aa;obtain⟨j,E,rfl⟩:=List.mem_iff_getElem.1 aa;exact(Aa aj) j E (by rw[Aa ag]at E;exact E))
      go_wp2;go_ret2;rw[MG (Aa ai),Aa ai];refine⟨_,rfl, ?_,(Mv w _).trans ((Aa G).mono (Nat.le_succ _)),fun h=>absurd rfl h⟩;exact(Aa al).below (by simpa using Aa G)
theorem QV (s:List UInt8)(w:World)(F:s.length<=maxLen):
 Calls Tryz.prog 74 #[.string (B s)] w fun e w'=>e=.returned (.int .i64 (Kg s:Nat))/\Below w.heap.size w w':=by
 have c:=MM s w F;generalize B s=t at*;go_enter Tryz.func74,Tryz.ntmps74
 go_wp2_with (go_at_call 109;refine c.mono ?_;rintro e w' ⟨v,rfl,_,hb,_⟩;have E:=Ab hb;clear hb)
 go_ret;exact⟨rfl,Aa E⟩
theorem M3 {f:Fl}(E:Kg f.name≠0):Mq f=Kg f.name:=by unfold Mq;rw[if_pos E]
theorem M4 {f:Fl}(E:Kg f.name=0)(F:3000<f.bytes.length):Mq f=2:=by unfold Mq;rw[if_neg (by simp[E]),if_pos F]
theorem Vs {f:Fl}(E:Kg f.name=0)(G:¬3000<f.bytes.length)(F:f.stamp<0\/1000000<f.stamp\/f.node<0\/3<f.node):Mq f=3:=by
 unfold Mq;rw[if_neg (by simp[E]),if_neg G,if_pos F]
theorem M2 {f:Fl}(E:Kg f.name=0)(G:¬3000<f.bytes.length)(F:¬(f.stamp<0\/1000000<f.stamp\/f.node<0\/3<f.node)):Mq f=if f.gone=true/\0<f.bytes.length then 4 else 0:=by
 unfold Mq;rw[if_neg (by simp[E]),if_neg G,if_neg F]
theorem Yr (x:Fv)(w:World)(T:FvIn w x):
 Calls Tryz.prog 52 #[x.val] w fun e w'=>e=.returned (.int .i64 (Mq x.f:Nat))/\Below w.heap.size w w':=by
 have hc:=fun W=>QV x.f.name W (by have:=T.txt;unfold maxLen;omega)
 have e0:= @M3 x.f;have M:= @M4 x.f;have e2:= @Vs x.f;have e3:= @M2 x.f;rw[Nw];clear T;obtain⟨⟨nm,bs,st,nd,gn⟩,a,c⟩:=x;simp only at*
 have ah:∀W W':World,Below W.heap.size W W'->Below W.heap.size W W':=fun _ _ T=>T
 generalize B nm=t at*;generalize bs.length=n at*;have O:=Ab hc
 by_cases G:Kg nm=0
 . replace M:=M G;replace e2:=e2 G;replace e3:=e3 G;rw[G]at O;clear e0 G hc
   have leaf:∀(H:Nat),Hid (Mq ⟨nm,bs,st,nd,gn⟩=H)->Hid ((H=2/\3000<n)\/ (H=3/\n<=3000/\(st<0\/ (0<=st/\1000000<st)\/ (0<=st/\st<=1000000/\nd<0)\/ (0<=st/\st<=1000000/\0<=nd/\4<=nd)))\/ (H=4/\n<=3000/\0<=st/\st<=1000000/\0<=nd/\nd<4/\gn=true/\0<n)\/ (H=0/\n<=3000/\0<=st/\st<=1000000/\0<=nd/\nd<4/\gn=true/\n=0)\/ (H=0/\n<=3000/\0<=st/\st<=1000000/\0<=nd/\nd<4/\gn=false))->
    Calls Tryz.prog 52 #[.agg #[.string t,.slice a n c,.int .i64 st,.int .i64 nd,.bool gn]] w fun e w'=>e=.returned (.int .i64 ((Mq ⟨nm,bs,st,nd,gn⟩:Nat):Int))/\Below w.heap.size w w':=by
    intro H ae ac;rw[Aa ae];clear M e2 e3 ae
    rcases Aa ac with ⟨rfl,E⟩|⟨rfl,E,I|⟨I,F⟩|⟨I,F,U⟩|⟨I,F,U,Z⟩⟩|⟨rfl,E,I,F,U,Z,rfl,ak⟩|⟨rfl,E,I,F,U,Z,rfl,rfl⟩|⟨rfl,E,I,F,U,Z,rfl⟩
    all_goals (
     clear ac;go_enter Tryz.func52,Tryz.ntmps52
     go_wp2_with fail
     refine(Aa O _).mono ?_;rintro e w' ⟨rfl,hb⟩;have c1:=(hb.cell (p:=⟨w.heap.size,1,none⟩) (by simp)).trans (by simp;rfl);have c2:=(hb.cell (p:=⟨w.heap.size,2,none⟩) (by simp)).trans (by simp;rfl);have aj:=(hb.cell (p:=⟨w.heap.size,3,none⟩) (by simp)).trans (by simp;rfl);have ag:=(hb.cell (p:=⟨w.heap.size,4,none⟩) (by simp)).trans (by simp;rfl);have aa:=Ab (((Below.refl w.heap.size w).alloc (VB _) _).trans (hb.mono (by simp)));clear hb;go_wp2;go_ret;exact⟨rfl,Aa aa⟩)
   have ai:=Ab (rfl:bs.length=bs.length)
   by_cases E:3000<n
   . exact leaf 2 (M E) (.inl ⟨rfl,E⟩)
   . by_cases F:st<0\/1000000<st\/nd<0\/3<nd
     . refine leaf 3 (e2 E F) (.inr (.inl ⟨rfl,by omega,by omega⟩))
     . have Y:=e3 E F
       cases gn with
       |true=>
        by_cases hn:0<n
        . exact leaf 4 (by rw[Y,if_pos ⟨rfl,hn⟩];rfl) (.inr (.inr (.inl ⟨rfl,by omega,by omega,by omega,by omega,by omega,rfl,hn⟩)))
        . exact leaf 0 (by rw[Y,if_neg (fun k=>hn k.2)];rfl) (.inr (.inr (.inr (.inl ⟨rfl,by omega,by omega,by omega,by omega,by omega,rfl,by omega⟩))))
       |false=>exact leaf 0 (by rw[Y,if_neg (fun k=>by cases k.1)];rfl) (.inr (.inr (.inr (.inr ⟨rfl,by omega,by omega,by omega,by omega,by omega,rfl⟩))))
 . rw[e0 G];clear e0 M e2 e3 hc;obtain⟨k,af⟩:=exq (Kg nm);rw[af]at O G ⊢;go_enter Tryz.func52,Tryz.ntmps52
   go_wp2_with fail
   refine(Aa O _).mono ?_;rintro e w' ⟨rfl,hb⟩;have aa:=Ab (((Below.refl w.heap.size w).alloc (VB _) _).trans (hb.mono (by simp)));clear hb;go_wp2;go_ret;exact⟨rfl,Aa aa⟩
def ahd (xs:List Fv):Nat->Option Fl
 |0=>none
 |k+1=>(fls xs)[k]?
theorem M5 {xs:List Fv}{k:Nat}{x:Fv}(H:xs[k]? =some x):
 DH (ahd xs k) ((fls xs).drop k)=if Mq x.f≠0 then Mq x.f else if behind (ahd xs k) x.f=false then 4 else DH (ahd xs (k+1)) ((fls xs).drop (k+1)):=by
 have E:(fls xs)[k]? =some x.f:=by simp[fls,H]
 have G:k<(fls xs).length:=by
  rcases ZQ k (fls xs).length with F|F
  . exact F
  . rw[WJ F]at E;cases E
 have e:(fls xs).drop k=x.f::(fls xs).drop (k+1):=by
  rw[WS G]
  congr 1
  rw[VP G]at E;exact VM E
 rw[e,DH];show _=if Mq x.f≠0 then Mq x.f else if behind (ahd xs k) x.f=false then 4 else DH ((fls xs)[k]?) _
 rw[E]
theorem Z2c (x y:List UInt8):Op.bytesLess (B x).toList (B y).toList=decide (Pq x y<0):=by rw[Fh,Fh,CG]
theorem Z2d (x y:List UInt8):((B x).toList==(B y).toList)=decide (Pq x y=0):=by
 rw[Fh,Fh,XZ,beq_iff_eq,decide_eq_true_iff,QQ]
theorem IZ (E:Option Addr)(n c:Nat)(w:World)(F:12<n):Calls Tryz.prog 34 #[.slice E n c] w fun e w'=>e=.returned (.int .i64 2)/\w'=w:=by
 go_enter Tryz.func34,Tryz.ntmps34
 go_wp2;go_ret;exact⟨rfl,rfl⟩
theorem Sv (al:Option Addr)(c:Nat)(xs:List Fv)(w:World)(h:FsIn w al c xs)(n:Nat)(ak:xs.length=n):
 Calls Tryz.prog 34 #[.slice al n c] w fun e w'=>e=.returned (.int .i64 (errM (fls xs):Nat))/\Below w.heap.size w w':=by
 have hl:(fls xs).length=n:=by simp[fls,ak]
 by_cases hm:12<n
 . have e:errM (fls xs)=2:=by unfold errM;rw[if_pos (by omega)]
   rw[e];refine(IZ al n c w hm).mono ?_;rintro e w' ⟨rfl,rfl⟩;exact⟨rfl,Below.refl _ _⟩
 . have e:errM (fls xs)=DH none (fls xs):=by unfold errM;rw[if_neg (by omega)]
   obtain⟨E,ar⟩:=exq (DH none (fls xs));rw[e,ar];have au:=Ab h;have a1:=Ab ak;have bf:=Ab ar;have a6:=Ab hl;clear h e ar ak hl;go_enter Tryz.func34,Tryz.ntmps34
   go_wp2;go_loopw [3,4,5,11] (fun _ _ _ i wr=>∃k:Nat,k<=n/\i=.int .i64 (k:Int)/\Hid (DH (ahd xs k) ((fls xs).drop k)=E)/\Hid (Below w.heap.size w wr)) (fun _ _ _ i _=>n-(intOf i).toNat)
   case atStart=>exact⟨0,VH _,rfl,Aa bf,Below.refl _ _⟩
   case round=>
    obtain⟨k,bq,rfl,a3,aa⟩:=hrel
    by_cases a9:k<n
    . obtain⟨x,ai,az⟩:=Ob (xs:=xs) (k:=k) (by rw[Aa a1];exact a9);obtain⟨b,o,rfl,hb,c0,c1,c2,bg,a7⟩:=(Aa au).get (Aa aa) ai;have F:=M5 ai;rw[Aa a3]at F;have bd:=(Aa aa).size;have I:=Ab (fun W (bc:Below w.heap.size w W)=>Yr x W (((Aa au).all x az).below bc (VB _)));have ah:=Ab F;rw[Nw]at I;unfold Fv.sl at c1;obtain⟨er,aw⟩:=exq (Mq x.f);rw[aw]at I ah;clear F aw az;have bz:=Ab ai;clear ai;obtain⟨T,bm,bw⟩:=x;simp only at*
      have a8:∃nm,T.name=nm:=⟨_,rfl⟩
      obtain⟨nm,ap⟩:=a8;rw[ap]at c0 I;obtain⟨t,av⟩:=exq (B nm);rw[av]at c0 I;have bb:=Ab av;have ba:=Ab ap;clear av ap;generalize T.bytes.length=bu at*;generalize T.stamp=st at*;generalize T.node=nd at*;generalize T.gone=gn at*;have a5:∀ag,Below w.heap.size w (wr.alloc ag):=fun ag=>(Aa aa).alloc bd ag
      have H:=Ab a5;clear a5
      by_cases a2:er=0
      . subst a2
        cases k with
        |zero=>
         simp only[YJ,XN]at c0 c1 c2 bg a7;have F:=Aa ah;rw[if_neg (by simp),if_neg (by simp[ahd,behind])]at F;have U:=Ab F;clear F;go_wp2_with fail
         refine(Aa I _ (Aa H _)).mono ?_;rintro e O ⟨rfl,G⟩;have M:=Ab ((Aa H _).trans (G.mono (by simp;omega)));clear G;go_wp2;go_quiet (fail)
         go_wp2;go_roundw
         case rel=>exact⟨1,by omega,by go_num,(Aa U).symm,Ae (Aa M) _⟩
         case measure=>simp[intOf];omega
        |succ j=>
         obtain⟨y,ao,bi⟩:=Ob (xs:=xs) (k:=j) (by rw[Aa a1];omega);obtain⟨bn,ag,bh,bv,d0,_⟩:=(Aa au).get (Aa aa) ao
         cases bh
         have F:=Aa ah;rw[if_neg (by simp)]at F;have a4:ahd xs (j+1)=some y.f:=by show (fls xs)[j]? =_;simp[fls,ao]
         rw[a4]at F;have ae:=Z2c nm y.f.name;have Z:=Z2d nm y.f.name;have ax:behind (some y.f) T=decide (Pq y.f.name nm<0):=by show decide (Pq y.f.name T.name<0)=_;rw[Aa ba]
         rw[ax]at F;have Y:=Su nm y.f.name;rw[Aa bb]at ae Z;generalize B y.f.name=ay at*;generalize y.f.name=af at*;clear ax a4 ao bi;have bo:((j+1:Nat):Int)-1=(j:Int):=by omega
         have bk:(j:Int)<(n:Int):=by omega
         by_cases aj:Pq nm af=1
         . rw[aj]at ae Z Y;rw[if_neg (by rw[Y];decide)]at F;have U:=Ab F;simp only[Int.reduceLT,Int.reduceEq,decide_false]at ae Z;clear F Y aj;go_wp2_with fail
           refine(Aa I _ (Aa H _)).mono ?_;rintro e O ⟨rfl,G⟩;have M:=Ab ((Aa H _).trans (G.mono (by simp;omega)));have bj:O.cell? ⟨wr.heap.size,0,none⟩=some (.string t):=(G.cell (p:=⟨wr.heap.size,0,none⟩) (by simp)).trans (by simp);have r0:O.cell? ⟨b,o+j*5,none⟩=some (.string ay):=(G.cell (p:=⟨b,o+j*5,none⟩) (by simp;omega)).trans ((World.cell?_alloc_past _ _ _ (by show b<wr.heap.size;omega)).trans d0);clear G;go_wp2;go_quiet (fail)
           go_wp2;go_roundw
           case rel=>exact⟨j+2,by omega,by go_num,(Aa U).symm,Ae (Aa M) _⟩
           case measure=>simp[intOf];omega
         . have ac:(Pq nm af= -1\/Pq nm af=0):=by rcases Kd nm af with h|h|h<;>omega
           rw[if_pos (by rw[Y];apply decide_eq_false;omega)]at F;have U:=Ab F;clear F Y aj
           rcases ac with ac|ac
           all_goals (
            rw[ac]at ae Z;simp only[Int.reduceLT,Int.reduceEq,Int.reduceNeg,decide_true,decide_false]at ae Z;clear ac;go_wp2_with fail
            refine(Aa I _ (Aa H _)).mono ?_;rintro e O ⟨rfl,G⟩;have M:=Ab ((Aa H _).trans (G.mono (by simp;omega)));have bj:O.cell? ⟨wr.heap.size,0,none⟩=some (.string t):=(G.cell (p:=⟨wr.heap.size,0,none⟩) (by simp)).trans (by simp);have r0:O.cell? ⟨b,o+j*5,none⟩=some (.string ay):=(G.cell (p:=⟨b,o+j*5,none⟩) (by simp;omega)).trans ((World.cell?_alloc_past _ _ _ (by show b<wr.heap.size;omega)).trans d0);clear G;go_wp2;go_quiet (fail)
            go_wp2;go_ret;exact⟨Dd (by rw[Aa U];rfl),Ae (Aa M) _⟩)
      . have F:=Aa ah;rw[if_pos (by simpa using a2)]at F;have U:=Ab F;clear F;go_wp2_with fail
        refine(Aa I _ (Aa H _)).mono ?_;rintro e O ⟨rfl,G⟩;have M:=Ab ((Aa H _).trans (G.mono (by simp;omega)));clear G;go_wp2;go_ret;exact⟨Dd (by rw[Aa U]),Aa M⟩
    . obtain rfl:n=k:=by omega
      go_wp2;go_ret;have:=Aa a3
      rw[XQ (by rw[Aa a6];exact VB _)]at this;exact⟨Dd (by rw[<-this];rfl),Aa aa⟩
end Go.Proofs.YtleocpdblhbimaaGreatDoor
