import Derived.Test.YtleocpdblhbimaaGreatDoorQ14
import Derived.Shelf.Strings.Split
set_option linter.unusedSimpArgs false
set_option linter.unusedVariables false
set_option maxRecDepth 100000
set_option maxHeartbeats 8000000
namespace Go.Proofs.YtleocpdblhbimaaGreatDoor
open Go.RowKit
theorem Sz (bw:Option Addr)(c n:Nat)(H:List Ev)(w:World)(h:EsIn w bw c H)(ba:H.length=n)(dl:n<=12)(a3:∀x∈H,ENum x.e):
 Calls Tryz.prog 36 #[.slice bw n c] w fun e w'=>∃v,e=.returned v/\w'.ownsRow (w.heap.size+1) 5 1 v (Be (H.map Ev.e)).length (u8s (Be (H.map Ev.e)))/\Below w.heap.size w w':=by
 obtain⟨cq,hi,cw,c5,cy⟩:=info_parts OI;obtain⟨l,af⟩:=exq (H.map Ev.e);have b5:l.length=n:=by rw[<-af];simpa using ba
 have a8:∀x∈l,ENum x:=by
  rw[<-af];intro x I;obtain⟨y,cv,rfl⟩:=XG.1 I;exact a3 y cv
 have b7:∀k,(Av (l.take k)).length<=12081*12:=fun k=>by
  have bh:=OU (l.take k) (fun x I=>a8 x (VR I));have bn:(l.take k).length<=12:=by rw[VL];omega
  omega
 have b8:∀k,(Ao 0 (l.take k)).length<=97*12:=fun k=>by
  have bh:=BH (l.take k) 0 (fun x I=>a8 x (VR I));have bn:(l.take k).length<=12:=by rw[VL];omega
  omega
 rw[af];have cd:∀(k:Nat) (x:Ev),H[k]? =some x->l[k]? =some x.e:=fun k x bf=>by rw[<-af];simp[bf]
 have di:Hid (AS w w.heap.size w.heap.size (Av (l.take 0)) (.slice none 0 0) (Tl 0 (l.take 0)) (w.alloc (.cells #[.slice none 0 0] 101))):=Ab (by
  refine⟨⟨.slice none 0 0,VB _,heap_alloc_new w _,World.ownsRow_nil _ _ _ _⟩,World.ownsRow_nil _ _ _ _,(Below.refl _ _).alloc (VB _) _⟩)
 have az:=Ab h;have ah:=Ab b7;have bv:=Ab b8;have bm:=Ab a3;have ae:=Ab b5;have bz:=Ab ba;have cn:=Ab cd;clear h b7 b8 a3 b5 ba cd a8 af;go_enter Tryz.func36,Tryz.ntmps36
 go_wp2;go_loopw [4,6,14] (fun dc _ i wr=>∃k:Nat,k<=n/\i=.int .i64 (k:Int)/\Hid (AS w w.heap.size w.heap.size (Av (l.take k)) dc (Tl 0 (l.take k)) wr)) (fun _ _ i _=>n-(intOf i).toNat)
 case atStart=>exact⟨0,VH _,rfl,di⟩
 case round=>
  obtain⟨k,bf,rfl,E⟩:=hrel
  by_cases aj:k<n
  . obtain⟨x,I,aa⟩:∃x,H[k]? =some x/\x∈H:=⟨H[k]'(by rw[Aa bz];exact aj),VP _,WK _⟩
    obtain⟨b,o,rfl,hb,c0,c1,c2,ak,ai,ap,Y,ao⟩:=(Aa az).get (Aa E).below I;have al:=Aa cn k x I;have a7:=Ab ((Aa az).all x aa);have ag:=Aa bm x aa
    have G:=Ab (fun(W:World) (O:∃v ps,AS w w.heap.size w.heap.size (Av (l.take k)) v ps W)=>SI w.heap.size w.heap.size x (Av (l.take k)) W (by obtain⟨v,ps,O⟩:=O;exact O.z) ag (by
     obtain⟨v,ps,O⟩:=O;exact(Aa a7).pk.below O.below) (fun g ct ay e2=>Xm (Aa a7).pk g ct ay e2) (by have:=Aa ah k;omega))
    unfold Ev.val at G;have a6:=Ab (Eu al);obtain⟨x,fa,fc,pa,pc⟩:=x;obtain⟨⟨nml,bys,st,nd,gn⟩,mt,pk,cr⟩:=x;dsimp only at c0 c1 c2 ak ai ap Y ao G;generalize B nml=nm at c0 G;generalize bys.length=bl at c1 G;generalize pk.length=pl at Y G;clear I aa al ag;obtain⟨ov,F⟩:=(Aa E).z;obtain⟨d0,ac⟩:=F.new;obtain⟨ci,b0,rfl⟩:=An F.own;have au:=Aa ah k;obtain⟨L,Z⟩:=exq ((Av (l.take k)).length);rw[Z]at d0 au;have aw:=Ab Z;have dd:=F.lt;have de:∀o1:Obj,(wr.alloc o1).cell? ⟨w.heap.size,0,none⟩=some (.slice ci L b0):=fun o1=>(World.cell?_alloc_lt wr o1 _ dd).trans d0
    have ar:=Ab (fun o1 o2:Obj=>((Aa E).later ((Below.refl _ _).alloc (VB _) o1)).later ((Below.refl _ _).alloc (VB _) o2));have a1:(Tl 0 (l.take k)).length=k:=by rw[V4,VL,Aa ae];omega
    have c6:=Ab a1;have bd:=Ab (fun o1 o2:Obj=>(Aa ar o1 o2).p);rw[a1]at bd;clear F Z a1;go_wp2_with (at_builtin;refine wpList_append_own_at _ rfl _ _ 76 rfl (w.heap.size+1) 3 cq (.int .i64 0) 1 8 Tryz.underlying76 hi cw c5 cy rfl (by decide) _ k (i64s (Tl 0 (l.take k))) rfl (Aa bd _ _) ⟨wr.heap.size+1,0,none⟩ 1 1 [.int .i64 (L:Int)] rfl rfl (fun j u cu=>Lu (Jo (by simp)) cu) (Bc rfl) (by unfold maxLen;omega) (by omega) (by simp;omega) ?_)
    intro v' w3 co bb _ _
    have M:w3.heap[wr.heap.size]? =some (.cells #[.string nm,.slice fa bl fc,.int .i64 st,.int .i64 nd,.bool gn,.int .u32 (mt:Int),.slice pa pl pc,.int .u32 (cr:Int)] 71 (0,0)):=by
     refine(bb.block _ (by simp;omega) (fun e=> ?_)).trans ((heap_alloc_old _ _ (by simp)).trans (heap_alloc_new wr _));have:=((Aa E).p.lt _ e.symm).2
     omega
    have ce:=Ab ((Aa ar _ _).app bb (by rw[Aa c6];exact co));have e0:=Ac (i:=0) M;have ay:=Ac (i:=1) M;have e2:=Ac (i:=2) M;have e3:=Ac (i:=3) M;have cj:=Ac (i:=4) M;have bu:=Ac (i:=5) M;have ck:=Ac (i:=6) M;have cg:=Ac (i:=7) M;simp only[VZ,VY,WI]at e0 ay e2 e3 cj bu ck cg;clear co bb M c0 c1 c2 ak ai ap Y ao d0 ac de bd;go_wp2_with fail
    refine(Aa G w3 ⟨_,_,Aa ce⟩).mono ?_;rintro e bg ⟨rfl,U⟩
    have a9:Hid (AS w w.heap.size w.heap.size (Av (l.take (k+1))) v' (Tl 0 (l.take (k+1))) bg):=Ab (by
     rw[Aa a6,J3,BQ,WG,Aa aw];exact(Aa ce).up U)
    clear U e0 ay e2 e3 cj bu ck cg;go_wp2;go_roundw
    case rel=>exact⟨k+1,by omega,by go_num,a9⟩
    case measure=>simp[intOf];omega
  . obtain rfl:n=k:=by omega
    have a4:l.take n=l:=VV (by rw[Aa ae];exact VB _);rw[a4]at E;have a5:=Ab a4;clear a4;obtain⟨ov,F⟩:=(Aa E).z;obtain⟨d0,ac⟩:=F.new;obtain⟨ci,b0,rfl⟩:=An F.own;have au:=Aa ah n;rw[Aa a5]at au;obtain⟨L,Z⟩:=exq ((Av l).length);rw[Z]at d0 au;have aw:=Ab Z;clear F Z;go_wp2;go_loopw [8,9,37] (fun _ _ i wr=>∃k:Nat,k<=n/\i=.int .i64 (k:Int)/\Hid (AS w w.heap.size w.heap.size (Av l++Ao 0 (l.take k)) u4 (Tl 0 l) wr)) (fun _ _ i _=>n-(intOf i).toNat)
    case atStart=>exact⟨0,VH _,rfl,Ab (by simpa[Ao]using Aa E)⟩
    case round=>
     clear d0 ac E aj;obtain⟨k,bf,rfl,E⟩:=hrel
     by_cases aj:k<n
     . obtain⟨x,I,aa⟩:∃x,H[k]? =some x/\x∈H:=⟨H[k]'(by rw[Aa bz];exact aj),VP _,WK _⟩
       obtain⟨b,o,rfl,hb,c0,c1,c2,ak,ai,ap,Y,ao⟩:=(Aa az).get (Aa E).below I;have al:=Aa cn k x I;have a7:=Ab ((Aa az).all x aa);have ag:=Aa bm x aa;obtain⟨P,bq⟩:=exq ((Av (l.take k)).length);have df:=Aa ah k;rw[bq]at df;have cp:=Ab bq;have G:=Ab (fun(W:World) (O:AS w w.heap.size w.heap.size (Av l++Ao 0 (l.take k)) u4 (Tl 0 l) W)=>SH w.heap.size w.heap.size P x (Av l++Ao 0 (l.take k)) W O.z ag (by omega) (by rw[VE];have bh:=Aa ah n;have bn:=Aa bv k;rw[VV (by rw[Aa ae];exact VB _)]at bh;omega));unfold Ev.val at G;have a6:=Ab (Eu al);obtain⟨x,fa,fc,pa,pc⟩:=x;obtain⟨⟨nml,bys,st,nd,gn⟩,mt,pk,cr⟩:=x;dsimp only at c0 c1 c2 ak ai ap Y ao G;generalize B nml=nm at c0 G;generalize bys.length=bl at c1 G;generalize pk.length=pl at Y G;clear I aa al ag;have bj:(Tl 0 l).length=n:=by rw[V4,Aa ae]
       have ax:=(Aa E).p;rw[bj]at ax;obtain⟨a2,c8,db,cz,dj⟩:=Ba ax (by omega);subst db
       have bk:wr.cell? ⟨a2,k,none⟩=some (.int .i64 (P:Int)):=by
        rw[ax.cellAt k (by omega),<-Aa cp];have:=Z2j l 0 k (by rw[Aa ae];exact aj)
        rw[WG]at this;have bo:k<(Tl 0 l).length:=by omega
        simp[List.getD,bo]at this
        simp[i64s,bo,this]
       have da:∀o1:Obj,(wr.alloc o1).cell? ⟨a2,k,none⟩=some (.int .i64 (P:Int)):=fun o1=>(World.cell?_alloc_lt wr o1 _ dj).trans bk
       have ar:=Ab (fun o1:Obj=>(Aa E).later ((Below.refl _ _).alloc (VB _) o1));clear ax bj cz;go_wp2;go_region_with (go_at_call 56;refine(Aa G _ ((Aa ar _).later (Ae (Below.refl _ _) _))).mono ?_;rintro e bg ⟨rfl,U⟩)
       all_goals
        have a9:Hid (AS w w.heap.size w.heap.size (Av l++Ao 0 (l.take (k+1))) (.slice (some ⟨a2,0,none⟩) n c8) (Tl 0 l) bg):=Ab (by
         rw[Aa a6,Uq,Aa cp,<-VS];exact((Aa ar _).later (Ae (Below.refl _ _) _)).up U)
        clear U c0 c1 c2 ak ai ap Y ao bk da;go_wp2;go_roundw
        case rel=>exact⟨k+1,by omega,by go_num,a9⟩
        case measure=>simp[intOf];omega
     . obtain rfl:n=k:=by omega
       rw[Aa a5]at E;have cm:=Aa bv n;rw[Aa a5]at cm;obtain⟨ov,F⟩:=(Aa E).z;obtain⟨d0,ac⟩:=F.new;obtain⟨dp,dm,rfl⟩:=An F.own;obtain⟨T,av⟩:=exq ((Ao 0 l).length);have bc:(Av l++Ao 0 l).length=L+T:=by rw[VE,Aa aw,av]
       rw[bc]at d0;rw[av]at cm;have c9:=Ab av;have b4:((L:Int)+(T:Int)-(L:Int))=(T:Int):=by omega
       have dh:Hid (Calls Tryz.prog 57 #[.pointer (some ⟨w.heap.size,0,none⟩),.int .i64 (n:Int),.int .i64 ((L:Int)+(T:Int)-(L:Int)),.int .i64 (L:Int)] wr fun e w'=>e=.returned (.tuple #[])/\ZUp w.heap.size wr w.heap.size (Av l++Ao 0 l++Pm n T L) w'):=Ab (by
        rw[b4];exact SL w.heap.size w.heap.size n T L (Av l++Ao 0 l) wr (Aa E).z (by omega) (by omega) (by omega) (by rw[bc];omega))
       clear F av bc b4;go_wp2_with fail
       refine(Aa dh).mono ?_;rintro e dn ⟨rfl,U⟩;have bi:=(Aa E).up U;obtain⟨ov,F⟩:=bi.z;have b3:Be l=Av l++Ao 0 l++Pm n T L:=by unfold Be;rw[Aa ae,Aa c9,Aa aw]
       have c7:=Ab b3;clear d0 ac U b3;obtain⟨d0,ac⟩:=F.new;have b9:=Ab (And.intro F.own bi.below);clear F bi;go_wp2;go_ret;exact⟨_,rfl,by rw[Aa c7];exact(Aa b9).1,(Aa b9).2⟩
def spn:List (Nat×Nat):= [(97,122),(65,90),(48,57),(46,46),(95,95),(45,45)]
def Ng (c:Nat)(p:Nat×Nat):Bool:=decide (p.1<=c)&&decide (c<=p.2)
theorem NB:∀c:UInt8,okB c=spn.any (Ng c.toNat):=by
 have h:∀n:Fin 256,okB (UInt8.ofNat n.val)=spn.any (Ng n.val):=by decide+kernel
 intro c;have:=h ⟨c.toNat,c.toNat_lt⟩
 simpa using this
theorem Z8a (W:World):(Instr.index 289 (.agg #[.int .u8 97,.int .u8 122,.int .u8 65,.int .u8 90,.int .u8 48,.int .u8 57,.int .u8 46,.int .u8 46,.int .u8 95,.int .u8 95,.int .u8 45,.int .u8 45]) (.int .i64 0)).run Tryz.prog W=.ok (.agg #[.int .u8 97,.int .u8 122]) W:=by kernel_rfl
theorem Z89 (W:World):(Instr.index 289 (.agg #[.int .u8 97,.int .u8 122,.int .u8 65,.int .u8 90,.int .u8 48,.int .u8 57,.int .u8 46,.int .u8 46,.int .u8 95,.int .u8 95,.int .u8 45,.int .u8 45]) (.int .i64 1)).run Tryz.prog W=.ok (.agg #[.int .u8 65,.int .u8 90]) W:=by kernel_rfl
theorem Z88 (W:World):(Instr.index 289 (.agg #[.int .u8 97,.int .u8 122,.int .u8 65,.int .u8 90,.int .u8 48,.int .u8 57,.int .u8 46,.int .u8 46,.int .u8 95,.int .u8 95,.int .u8 45,.int .u8 45]) (.int .i64 2)).run Tryz.prog W=.ok (.agg #[.int .u8 48,.int .u8 57]) W:=by kernel_rfl
theorem Z87 (W:World):(Instr.index 289 (.agg #[.int .u8 97,.int .u8 122,.int .u8 65,.int .u8 90,.int .u8 48,.int .u8 57,.int .u8 46,.int .u8 46,.int .u8 95,.int .u8 95,.int .u8 45,.int .u8 45]) (.int .i64 3)).run Tryz.prog W=.ok (.agg #[.int .u8 46,.int .u8 46]) W:=by kernel_rfl
theorem Z86 (W:World):(Instr.index 289 (.agg #[.int .u8 97,.int .u8 122,.int .u8 65,.int .u8 90,.int .u8 48,.int .u8 57,.int .u8 46,.int .u8 46,.int .u8 95,.int .u8 95,.int .u8 45,.int .u8 45]) (.int .i64 4)).run Tryz.prog W=.ok (.agg #[.int .u8 95,.int .u8 95]) W:=by kernel_rfl
theorem Z85 (W:World):(Instr.index 289 (.agg #[.int .u8 97,.int .u8 122,.int .u8 65,.int .u8 90,.int .u8 48,.int .u8 57,.int .u8 46,.int .u8 46,.int .u8 95,.int .u8 95,.int .u8 45,.int .u8 45]) (.int .i64 5)).run Tryz.prog W=.ok (.agg #[.int .u8 45,.int .u8 45]) W:=by kernel_rfl
theorem Z9e (k:Nat)(E:k<6)(W:World):(Instr.index 289 (.agg #[.int .u8 97,.int .u8 122,.int .u8 65,.int .u8 90,.int .u8 48,.int .u8 57,.int .u8 46,.int .u8 46,.int .u8 95,.int .u8 95,.int .u8 45,.int .u8 45]) (.int .i64 (k:Int))).run Tryz.prog W=.ok (.agg #[.int .u8 ((spn.getD k (0,0)).1:Nat),.int .u8 ((spn.getD k (0,0)).2:Nat)]) W:=by
 have h:k=0\/k=1\/k=2\/k=3\/k=4\/k=5:=by omega
 rcases h with rfl|rfl|rfl|rfl|rfl|rfl
 . exact Z8a W
 . exact Z89 W
 . exact Z88 W
 . exact Z87 W
 . exact Z86 W
 . exact Z85 W
theorem Z67 (k:Nat):(spn.getD k (0,0)).1<256/\(spn.getD k (0,0)).2<256:=by
 match k with
 |0=>decide
 |1=>decide
 |2=>decide
 |3=>decide
 |4=>decide
 |5=>decide
 |k+6=>simp[spn]
theorem Z3o (n k:Nat)(F:k<6)(E:Ng n (spn.getD k (0,0))=true):spn.any (Ng n)=true:=by
 rw[List.any_eq_true];refine⟨spn.getD k (0,0), ?_,E⟩;have hl:k<spn.length:=F;simp[List.getD,hl]
theorem TY (n:Nat)(F:∀j,j<6->Ng n (spn.getD j (0,0))=false):spn.any (Ng n)=false:=by
 rw[List.any_eq_false];intro x G;obtain⟨j,E,rfl⟩:=List.mem_iff_getElem.1 G;have:=F j E
 simp[List.getD,E]at this
 simp[this]
theorem E8 (n:Nat)(af:n<256)(w:World):
 Calls Tryz.prog 175 #[.int .u8 n] w fun e w'=>e=.returned (.bool (spn.any (Ng n)))/\Below w.heap.size w w':=by
 have M:=Z9e;go_enter Tryz.func175,Tryz.ntmps175
 go_wp2;go_loopw [12] (fun i wr=>∃k:Nat,k<=6/\i=.int .i64 k/\Hid (∀j,j<k->Ng n (spn.getD j (0,0))=false)/\Hid (Below w.heap.size w wr)) (fun i _=>6-(intOf i).toNat)
 case atStart=>exact⟨0,VH _,rfl,fun j H=>absurd H (by omega),Below.refl _ _⟩
 case round=>
  obtain⟨k,ac,rfl,G,E⟩:=hrel
  by_cases T:k<6
  . have aa:=M k T;obtain⟨ae,Y⟩:=Z67 k;have F:Hid (Ng n (spn.getD k (0,0))=(decide ((spn.getD k (0,0)).1<=n)&&decide (n<=(spn.getD k (0,0)).2))):=rfl;have U:=Ab (Z3o n k T);generalize (spn.getD k (0,0)).1=lo at*;generalize (spn.getD k (0,0)).2=hi at*;clear M;have Z:=(Aa E).size
    by_cases O:lo<=n
    . by_cases hb:n<=hi
      . go_wp2;go_ret;refine⟨Dq ((Aa U) ?_).symm,(Aa E).alloc (Aa E).size _⟩;rw[Aa F];simp[O,hb]
      . go_wp2;go_roundw
        case rel=>
         refine⟨k+1,by omega,by go_num,fun j H=> ?_,(Aa E).alloc (Aa E).size _⟩
         by_cases I:j=k
         . subst I;rw[Aa F];simp[hb]
         . exact(Aa G) j (by omega)
        case measure=>simp[intOf];omega
    . go_wp2;go_roundw
      case rel=>
       refine⟨k+1,by omega,by go_num,fun j H=> ?_,(Aa E).alloc (Aa E).size _⟩
       by_cases I:j=k
       . subst I;rw[Aa F];simp[O]
       . exact(Aa G) j (by omega)
      case measure=>simp[intOf];omega
  . obtain rfl:k=6:=by omega
    go_wp2;go_ret;exact⟨Dq (TY n (Aa G)).symm,Aa E⟩
theorem NA (p:ByteArray)(O:p.data.toList≠ [])(G:p.data.toList≠ [46])(E:p.data.toList≠ [46,46])(I:∀j (h:j<p.size),spn.any (Ng (p[j]'h).toNat)=true):okP p.data.toList=true:=by
 simp only[okP,ZM,bne_iff_ne];refine⟨⟨⟨O,G⟩,E⟩, ?_⟩;rw[WX];intro x M;obtain⟨j,H,rfl⟩:=List.mem_iff_getElem.1 M;rw[NB];have F:j<p.size:=by rw[Z00];exact H
 exact I j F
theorem Z4e (p:ByteArray)(j:Nat)(E:j<p.size)(F:spn.any (Ng (p[j]'E).toNat)=false):okP p.data.toList=false:=by
 have hb:okB (p[j]'E)=false:=by rw[NB];exact F
 have:p.data.toList.all okB=false:=by
  rw[List.all_eq_false];refine⟨p[j]'E, ?_,by simp[hb]⟩;exact Array.mem_toList_iff.2 (Array.getElem_mem _)
 simp[okP,this]
theorem BK (p:ByteArray)(l:List UInt8)(E:¬p.data.toList=l):(p.toList==l)=false:=by
 rw[Lib.toList_data];simpa using E
theorem Xb (p:ByteArray)(E:¬p.data.toList= []):p.toList.isEmpty=false:=by
 rw[Lib.toList_data]
 cases hl:p.data.toList with
 |nil=>exact absurd hl E
 |cons x xs=>rfl
theorem GK (p:ByteArray)(ac:p.size<=maxLen)(w:World):
 Calls Tryz.prog 145 #[.string p] w fun e w'=>e=.returned (.bool (okP p.data.toList))/\Below w.heap.size w w':=by
 by_cases H:p.data.toList= []
 . obtain rfl:p=⟨#[]⟩:=by rw[<-DZ p,H];rfl
   go_enter Tryz.func145,Tryz.ntmps145
   go_wp2;go_ret;exact⟨rfl,Below.refl _ _⟩
 by_cases I:p.data.toList= [46]
 . obtain rfl:p=⟨#[46]⟩:=by rw[<-DZ p,I];rfl
   go_enter Tryz.func145,Tryz.ntmps145
   go_wp2;go_ret;exact⟨rfl,Below.refl _ _⟩
 by_cases G:p.data.toList= [46,46]
 . obtain rfl:p=⟨#[46,46]⟩:=by rw[<-DZ p,G];rfl
   go_enter Tryz.func145,Tryz.ntmps145
   go_wp2;go_ret;exact⟨rfl,Below.refl _ _⟩
 have af:=Ab (NA p H I G);have e0:=Xb p H;have ai:=BK p [46] I;have e2:=BK p [46,46] G;clear H I G;have ag:=Ab (Z4e p);go_enter Tryz.func145,Tryz.ntmps145
 go_wp2;go_loopw [3,16] (fun _ i wr=>∃k:Nat,k<=p.size/\i=.int .i64 k/\Hid (∀j (h:j<p.size),j<k->spn.any (Ng (p[j]'h).toNat)=true)/\Hid (Below w.heap.size w wr)) (fun _ i _=>p.size-(intOf i).toNat)
 case atStart=>exact⟨0,VH _,rfl,fun j _ Z=>absurd Z (by omega),Below.refl _ _⟩
 case round=>
  obtain⟨k,aj,rfl,Y,O⟩:=hrel;unfold maxLen at ac;have aa:=(Aa O).size
  by_cases F:k<p.size
  . have M:=Ab (fun W=>E8 (p[k]'F).toNat (p[k]'F).toNat_lt W)
    cases hm:spn.any (Ng (p[k]'F).toNat)with
    |true=>
     rw[hm]at M;have U:=Ab hm;clear hm;go_wp2_with (go_at_call 175;refine((Aa M) _).mono ?_;rintro e ae ⟨rfl,E⟩;have T:=Ab ((Aa O).trans (E.mono aa));clear E)
     go_roundw
     case rel=>
      refine⟨k+1,by omega,by go_num,fun j h Z=> ?_,Aa T⟩
      by_cases ah:j=k
      . subst ah;exact Aa U
      . exact(Aa Y) j h (by omega)
     case measure=>simp[intOf];omega
    |false=>
     rw[hm]at M;have U:=Ab hm;clear hm;go_wp2_with (go_at_call 175;refine((Aa M) _).mono ?_;rintro e ae ⟨rfl,E⟩;have T:=Ab ((Aa O).trans (E.mono aa));clear E)
     go_ret;exact⟨Dq ((Aa ag) k F (Aa U)).symm,Aa T⟩
  . obtain rfl:k=p.size:=by omega
    go_wp2;go_ret;exact⟨Dq ((Aa af) (fun j h=>(Aa Y) j h h)).symm,Aa O⟩
def B5:Go.Shelf.Ren:=⟨fun|221=>81|268=>113|138=>114|143=>115|195=>152|197=>117|218=>153|219=>154|260=>155|217=>187|225=>188|224=>189|267=>190|266=>214|314=>215|n=>n,fun|9=>9|3=>3|31=>43|4=>4|0=>0|105=>183|21=>21|5=>5|46=>66|119=>261|139=>264|138=>263|146=>266|51=>35|n=>n,fun|1=>0|3=>1|4=>2|n=>n⟩
theorem R9:Go.Proofs.Lays.n221 Tryz.prog B5:= {
 mixed:=by kernel_rfl
 f138:=Tryz.func114.trans (congrArg some (by kernel_rfl))
 f143:=Tryz.func115.trans (congrArg some (by kernel_rfl))
 f195:=Tryz.func152.trans (congrArg some (by kernel_rfl))
 f197:=Tryz.func117.trans (congrArg some (by kernel_rfl))
 f217:=Tryz.func187.trans (congrArg some (by kernel_rfl))
 f218:=Tryz.func153.trans (congrArg some (by kernel_rfl))
 f219:=Tryz.func154.trans (congrArg some (by kernel_rfl))
 f221:=Tryz.func81.trans (congrArg some (by kernel_rfl))
 f224:=Tryz.func189.trans (congrArg some (by kernel_rfl))
 f225:=Tryz.func188.trans (congrArg some (by kernel_rfl))
 f260:=Tryz.func155.trans (congrArg some (by kernel_rfl))
 f266:=Tryz.func214.trans (congrArg some (by kernel_rfl))
 f267:=Tryz.func190.trans (congrArg some (by kernel_rfl))
 f268:=Tryz.func113.trans (congrArg some (by kernel_rfl))
 f314:=Tryz.func215.trans (congrArg some (by kernel_rfl))
 t0:=Tryz.underlying0
 a0:=Tryz.isAgg0
 z0:=Tryz.sizeOf0
 v0:=Tryz.zeroValue0
 t3:=Tryz.underlying3
 a3:=Tryz.isAgg3
 z3:=Tryz.sizeOf3
 v3:=Tryz.zeroValue3
 t4:=Tryz.underlying4
 a4:=Tryz.isAgg4
 z4:=Tryz.sizeOf4
 v4:=Tryz.zeroValue4
 t5:=Tryz.underlying5
 a5:=Tryz.isAgg5
 z5:=Tryz.sizeOf5
 v5:=Tryz.zeroValue5
 t9:=Tryz.underlying9
 a9:=Tryz.isAgg9
 z9:=Tryz.sizeOf9
 v9:=Tryz.zeroValue9
 t21:=Tryz.underlying21
 a21:=Tryz.isAgg21
 z21:=Tryz.sizeOf21
 v21:=Tryz.zeroValue21
 t31:=Tryz.underlying43
 a31:=Tryz.isAgg43
 z31:=Tryz.sizeOf43
 v31:=Tryz.zeroValue43
 t46:=Tryz.underlying66
 a46:=Tryz.isAgg66
 z46:=Tryz.sizeOf66
 v46:=Tryz.zeroValue66
 t51:=Tryz.underlying35
 a51:=Tryz.isAgg35
 z51:=Tryz.sizeOf35
 v51:=Tryz.zeroValue35
 t105:=Tryz.underlying183
 a105:=Tryz.isAgg183
 z105:=Tryz.sizeOf183
 v105:=Tryz.zeroValue183
 t119:=Tryz.underlying261
 a119:=Tryz.isAgg261
 z119:=Tryz.sizeOf261
 t138:=Tryz.underlying263
 a138:=Tryz.isAgg263
 z138:=Tryz.sizeOf263
 v138:=Tryz.zeroValue263
 t139:=Tryz.underlying264
 a139:=Tryz.isAgg264
 z139:=Tryz.sizeOf264
 v139:=Tryz.zeroValue264
 t146:=Tryz.underlying266
 a146:=Tryz.isAgg266
 z146:=Tryz.sizeOf266
 v146:=Tryz.zeroValue266
 g1:=by kernel_rfl
 g3:=by kernel_rfl
 g4:=by kernel_rfl}
def Qj (ps:List (List UInt8)):List Value:=ps.map fun p=>.string (B p)
theorem Z1b:(Tryz.prog.info? 9).map (fun i=>(i.zero,i.size,i.bytes))=some (some (.string ByteArray.empty),1,16):=by kernel_rfl
theorem J8 (s:ByteArray)(w:World)(I:s.size<4294967281):
 Calls Tryz.prog 81 #[.string s,.string ⟨#[47]⟩,.int .i64 0,.int .i64 (-1)] w fun e w'=>
  e=.returned (.slice (some ⟨w.heap.size,0,none⟩) (spl s.data.toList).length (spl s.data.toList).length)/\w'=w.alloc (.cells (Qj (spl s.data.toList)).toArray 9):=by
 have E:(⟨#[47]⟩:ByteArray).size=1:=rfl;have M:=Lib.countB_le ⟨#[47]⟩ (by rw[E];decide) s.size s (VB _);have F:=Lib.splitB_all ⟨#[47]⟩ (by rw[E];decide) 0 _ s rfl
 have H:∀(x:ByteArray) (c:Array Value),x.size<=s.size->Calls Tryz.prog (B5.f 143) #[.string x,.string ⟨#[47]⟩] (w.alloc (.cells c (B5.t 9))) fun e w'=>e=.returned (.int .i64 (Lib.indexB x ⟨#[47]⟩))/\w'=w.alloc (.cells c (B5.t 9)):=by
  intro x c _;refine(Any.strings_Index_one {R9 with} x 47 _).mono ?_;rintro e w' ⟨rfl,rfl⟩;refine⟨?_,rfl⟩;show _=Ending.returned (Value.int .i64 (Lib.index x.data.toList [47]))
  rw[Lib.index_one]
 have G:Calls Tryz.prog (B5.f 138) #[.string s,.string ⟨#[47]⟩] w fun e w'=>e=.returned (.int .i64 (Lib.countB s ⟨#[47]⟩))/\w'=w:=by
  refine(Any.strings_Count_one {R9 with} s 47 w).mono ?_;rintro e w' ⟨rfl,rfl⟩;refine⟨?_,rfl⟩;show _=Ending.returned (Value.int .i64 ((Lib.count s.data.toList [47]:Nat):Int))
  rw[Lib.count_one];rfl
 have c:=Any.strings_genSplit_core R9 Z1b s ⟨#[47]⟩ 0 (-1) (Lib.countB s ⟨#[47]⟩+1) w I (by rw[E];decide) (VH _) H G (by decide) (by decide) (by rw[if_pos (by decide)];omega);rw[YA]at c;have e2:Lib.cellsOf (Lib.splitB ⟨#[47]⟩ 0 (Lib.countB s ⟨#[47]⟩) s) (Lib.countB s ⟨#[47]⟩+1)=((Lib.splitB ⟨#[47]⟩ 0 (Lib.countB s ⟨#[47]⟩) s).map Value.string).toArray:=by rw[<-F];exact Lib.cellsOf_full _
 rw[e2,EZ,IP]at c;refine c.mono ?_;rintro e w' ⟨rfl,rfl⟩;refine⟨by simp, ?_⟩;simp only[Qj,ZU];rfl
theorem B3 (s:ByteArray)(w:World)(F:s.size<4294967281):
 Calls Tryz.prog 58 #[.string s,.string ⟨#[47]⟩] w fun e w'=>
  e=.returned (.slice (some ⟨w.heap.size,0,none⟩) (spl s.data.toList).length (spl s.data.toList).length)/\w'=w.alloc (.cells (Qj (spl s.data.toList)).toArray 9):=by
 have c:=J8 s w F;go_enter Tryz.func58,Tryz.ntmps58
 go_wp2_with (go_at_call 81;refine c.mono ?_;rintro e w' ⟨rfl,E⟩;rw[E])
 go_ret;exact⟨rfl,rfl⟩
def SRow (w:World)(b:Nat)(v:Value)(ps:List (List UInt8)):Prop:=w.ownsRow b 9 1 v ps.length (Qj ps)
theorem Xc (E:List (List UInt8)):(Qj E).length=E.length:=by simp[Qj]
theorem SRow.nil (w:World)(b:Nat):SRow w b (.slice none 0 0) []:=World.ownsRow_nil _ _ _ _
theorem SRow.new (w:World)(E:List (List UInt8))(F:E.length<=maxLen):SRow (w.alloc (.cells (Qj E).toArray 9)) w.heap.size (.slice (some ⟨w.heap.size,0,none⟩) E.length E.length) E:=
 ⟨by rw[Xc];omega,.inr ⟨w.heap.size,E.length,(Qj E).toArray,rfl,VB _,heap_alloc_new w _,VB _,F,by simp[Xc],by simp[<-Xc]⟩⟩
theorem SRow.below {w w':World}{b:Nat}{v:Value}{E:List (List UInt8)}(F:SRow w b v E)(G:Below w.heap.size w w'):SRow w' b v E:=MV F G
theorem SRow.mono {w:World}{b c:Nat}{v:Value}{E:List (List UInt8)}(G:SRow w b v E)(O:c<=b):SRow w c v E:=by
 obtain⟨I,F⟩:=G;refine⟨I,F.imp id ?_⟩;rintro ⟨g,cap,cur,H,T,M⟩;exact⟨g,cap,cur,H,VU O T,M⟩
theorem SRow.cases {w:World}{b:Nat}{v:Value}{E:List (List UInt8)}(T:SRow w b v E):(v=.slice none 0 0/\E= [])\/∃g cap,v=.slice (some ⟨g,0,none⟩) E.length cap/\b<=g/\g<w.heap.size/\E.length<=cap/\cap<=maxLen/\∀j x,(E.map B)[j]? =some x->w.cell? ⟨g,0+j,none⟩=some (.string x):=by
 obtain⟨af,I|⟨g,cap,cur,Y,U,M,ac,aa,ae,O⟩⟩:=T
 . exact .inl ⟨I.1,ZH.1 I.2⟩
 . have Z:g<w.heap.size:=by
    rcases ZQ g w.heap.size with G|G
    . exact G
    . simp[ZN G]at M
   refine .inr ⟨g,cap,Y,U,Z,ac,aa, ?_⟩;intro j x F
   have ag:j<E.length:=by
    rcases ZQ j E.length with G|G
    . exact G
    . rw[WJ (by simpa using G)]at F;exact absurd F (by simp)
   rw[WG,Lib.cell_of_heap M];have e:(cur.toList.take (E.length*1))[j]? =(Qj E)[j]? :=by rw[O]
   rw[List.getElem?_take,if_pos (by omega)]at e;simp only[Qj,List.getElem?_map]at e F;rw[<-Array.getElem?_toList,e]
   cases H:E[j]? with
   |none=>rw[H]at F;exact absurd F (by simp)
   |some p=>rw[H]at F;simp at F ⊢;exact F
theorem N3 {s:List UInt8}(E:40<s.length):Kg s=2:=by unfold Kg;rw[if_pos E]
theorem DI {s:List UInt8}(H:s.length<=40){p:List UInt8}(F:p∈spl s)(E:okP p=false):Kg s=1:=by
 unfold Kg;rw[if_neg (by omega),if_neg];intro G;have:=WX.1 G p F
 rw[E]at this;exact absurd this (by simp)
theorem BL {s:List UInt8}(E:s.length<=40):(spl s).length<=41:=by
 have:=YI (a:=(47:UInt8)) (l:=s)
 rw[LQ];omega
def Z41 (s:List UInt8):List (List UInt8):=if Kg s=0 then spl s else []
theorem MG {s:List UInt8}(E:Kg s=0):Z41 s=spl s:=by unfold Z41;rw[if_pos E]
theorem Ox {s:List UInt8}(E:Kg s≠0):Z41 s= []:=by unfold Z41;rw[if_neg E]
theorem Mv (w:World)(o:Obj):Below w.heap.size w (w.alloc o):=(Below.refl _ _).alloc (VB _) o
theorem MM (s:List UInt8)(w:World)(af:s.length<=maxLen):
 Calls Tryz.prog 109 #[.string (B s)] w fun e w'=>∃v,e=.returned (.tuple #[v,.int .i64 (Kg s:Nat)])/\SRow w' w.heap.size v (Z41 s)/\Below w.heap.size w w'/\(Kg s≠0->v=.slice none 0 0):=by
 have F:=Im s;unfold maxLen at af
 by_cases aa:40<s.length
 . have U:=Ab (N3 aa);have ar:40<(B s).size:=by rw[F];omega
   have a5:(B s).size<=9223372036854775807:=by rw[F];omega
   clear F aa af;generalize B s=t at*;go_enter Tryz.func109,Tryz.ntmps109
   go_wp2;go_ret2;rw[Ox (by rw[Aa U];decide),Aa U];exact⟨_,rfl,SRow.nil _ _,Below.refl _ _,fun _=>rfl⟩
 . have T:=B3 (B s) w (by rw[F];omega);rw[QE]at T;have ar:(B s).size<=40:=by rw[F];omega
   have az:=BL (s:=s) (by omega);have ao:=Ab (SRow.new w (spl s) (by unfold maxLen;omega));have U:=Ab (fun p Y hb=>DI (s:=s) (p:=p) (by omega) Y hb);have a1:=Ab (PV (l:=s) (by omega));have ay:∀p∈spl s,p.length<=s.length:=Z2g s;obtain⟨L,ae⟩:=exq ((spl s).length);rw[ae]at T ao az;have ak:=Ab ae
   have av:Hid (∀j (E:j<(spl s).length) (W:World),Below (w.heap.size+1) (w.alloc (.cells (Qj (spl s)).toArray 9)) W->W.cell? ⟨w.heap.size,j,none⟩=some (.string (B ((spl s)[j]'E)))):=by
    intro j E W a4;rw[a4.cell (p:=⟨w.heap.size,j,none⟩) (Nat.lt_succ_self _),World.cell?_alloc_at _ _ _ _ rfl];simp[Qj,E]
   have a6:s.length<=40:=by omega
   clear ae F aa af;generalize B s=t at*;go_enter Tryz.func109,Tryz.ntmps109
   go_wp2_with (go_at_call 58;refine T.mono ?_;rintro e w' ⟨rfl,ax⟩;rw[ax])
   clear T;go_loopw [6,14] (fun _ i wr=>∃k:Nat,k<=L/\i=.int .i64 k/\Hid (∀j (E:j<(spl s).length),j<k->okP ((spl s)[j]'E)=true)/\Hid (Below (w.heap.size+1) (w.alloc (.cells (Qj (spl s)).toArray 9)) wr)) (fun _ i _=>L-(intOf i).toNat)
   case atStart=>exact⟨0,VH _,rfl,fun j _ E=>absurd E (by omega),Below.refl _ _⟩
   case round=>
    obtain⟨k,a8,rfl,ag,H⟩:=hrel
    by_cases au:k<L
    . have O:k<(spl s).length:=by rw[Aa ak];exact au
      have ba:=(Aa av) k O wr (Aa H);have a2:=(Aa H).size;have a7:=ay _ (WK O);have al:=Ab (WK O);have aw:=Ab (fun h=>(Aa U) _ (Aa al) h)
      have a3:Hid (okP ((spl s)[k]'O)=true->∀j (E:j<(spl s).length),j<k+1->okP ((spl s)[j]'E)=true):=by
       intro h j E bb
       by_cases e:j=k
       . subst e;exact h
       . exact(Aa ag) j E (by omega)
      generalize (spl s)[k]'O=q at*;have M:=GK (B q) (by rw[Im];unfold maxLen;omega) wr;rw[QE]at M;clear al;generalize B q=a9 at*;have ai:w.heap.size+1<=wr.heap.size:=by simp at a2;omega
      cases G:okP q with
      |true=>
       rw[G]at M;have ac:=Ab G;clear G;go_wp2_with (go_at_call 145;refine M.mono ?_;rintro e ap ⟨rfl,I⟩;have Z:=Ab ((Aa H).trans (I.mono ai));clear I)
       go_roundw
       case rel=>exact⟨k+1,by omega,by go_num,(Aa a3) (Aa ac),Aa Z⟩
       case measure=>simp[intOf];omega
      |false=>
       rw[G]at M;have ac:=Ab G;clear G;go_wp2_with (go_at_call 145;refine M.mono ?_;rintro e ap ⟨rfl,I⟩;have Z:=Ab ((Aa H).trans (I.mono ai));clear I)
       go_ret2;have ah:=(Aa aw) (Aa ac)
       rw[Ox (by rw[ah];decide),ah];exact⟨_,rfl,SRow.nil _ _,(Mv w _).trans ((Aa Z).mono (Nat.le_succ _)),fun _=>rfl⟩
    . obtain rfl:k=L:=by omega
      have aj:Hid (Kg s=0):=(Aa a1) (by
       rw[WX];intro p Y;obtain⟨j,E,rfl⟩:=List.mem_iff_getElem.1 Y;exact(Aa ag) j E (by rw[Aa ak]at E;exact E))
      go_wp2;go_ret2;rw[MG (Aa aj),Aa aj];refine⟨_,rfl, ?_,(Mv w _).trans ((Aa H).mono (Nat.le_succ _)),fun h=>absurd rfl h⟩;exact(Aa ao).below (by simpa using Aa H)
theorem QV (s:List UInt8)(w:World)(F:s.length<=maxLen):
 Calls Tryz.prog 74 #[.string (B s)] w fun e w'=>e=.returned (.int .i64 (Kg s:Nat))/\Below w.heap.size w w':=by
 have c:=MM s w F;generalize B s=t at*;go_enter Tryz.func74,Tryz.ntmps74
 go_wp2_with (go_at_call 109;refine c.mono ?_;rintro e w' ⟨v,rfl,_,hb,_⟩;have E:=Ab hb;clear hb)
 go_ret;exact⟨rfl,Aa E⟩
theorem M3 {f:Fl}(E:Kg f.name≠0):Mq f=Kg f.name:=by unfold Mq;rw[if_pos E]
theorem M4 {f:Fl}(E:Kg f.name=0)(F:3000<f.bytes.length):Mq f=2:=by unfold Mq;rw[if_neg (by simp[E]),if_pos F]
theorem Vs {f:Fl}(E:Kg f.name=0)(F:¬3000<f.bytes.length)(G:f.stamp<0\/1000000<f.stamp\/f.node<0\/3<f.node):Mq f=3:=by
 unfold Mq;rw[if_neg (by simp[E]),if_neg F,if_pos G]
theorem M2 {f:Fl}(E:Kg f.name=0)(F:¬3000<f.bytes.length)(G:¬(f.stamp<0\/1000000<f.stamp\/f.node<0\/3<f.node)):Mq f=if f.gone=true/\0<f.bytes.length then 4 else 0:=by
 unfold Mq;rw[if_neg (by simp[E]),if_neg F,if_neg G]
theorem Yr (x:Fv)(w:World)(U:FvIn w x):
 Calls Tryz.prog 52 #[x.val] w fun e w'=>e=.returned (.int .i64 (Mq x.f:Nat))/\Below w.heap.size w w':=by
 have hc:=fun W=>QV x.f.name W (by have:=U.txt;unfold maxLen;omega)
 have e0:= @M3 x.f;have M:= @M4 x.f;have e2:= @Vs x.f;have e3:= @M2 x.f;rw[Nw];clear U;obtain⟨⟨nm,bs,st,nd,gn⟩,a,c⟩:=x;simp only at*
 have ak:∀W W':World,Below W.heap.size W W'->Below W.heap.size W W':=fun _ _ U=>U
 generalize B nm=t at*;generalize bs.length=n at*;have O:=Ab hc
 by_cases H:Kg nm=0
 . replace M:=M H;replace e2:=e2 H;replace e3:=e3 H;rw[H]at O;clear e0 H hc
   have leaf:∀(G:Nat),Hid (Mq ⟨nm,bs,st,nd,gn⟩=G)->Hid ((G=2/\3000<n)\/ (G=3/\n<=3000/\(st<0\/ (0<=st/\1000000<st)\/ (0<=st/\st<=1000000/\nd<0)\/ (0<=st/\st<=1000000/\0<=nd/\4<=nd)))\/ (G=4/\n<=3000/\0<=st/\st<=1000000/\0<=nd/\nd<4/\gn=true/\0<n)\/ (G=0/\n<=3000/\0<=st/\st<=1000000/\0<=nd/\nd<4/\gn=true/\n=0)\/ (G=0/\n<=3000/\0<=st/\st<=1000000/\0<=nd/\nd<4/\gn=false))->
    Calls Tryz.prog 52 #[.agg #[.string t,.slice a n c,.int .i64 st,.int .i64 nd,.bool gn]] w fun e w'=>e=.returned (.int .i64 ((Mq ⟨nm,bs,st,nd,gn⟩:Nat):Int))/\Below w.heap.size w w':=by
    intro G ac ae;rw[Aa ac];clear M e2 e3 ac
    rcases Aa ae with ⟨rfl,E⟩|⟨rfl,E,I|⟨I,F⟩|⟨I,F,T⟩|⟨I,F,T,Y⟩⟩|⟨rfl,E,I,F,T,Y,rfl,ai⟩|⟨rfl,E,I,F,T,Y,rfl,rfl⟩|⟨rfl,E,I,F,T,Y,rfl⟩
    all_goals (
     clear ae;go_enter Tryz.func52,Tryz.ntmps52
     go_wp2_with fail
     refine(Aa O _).mono ?_;rintro e w' ⟨rfl,hb⟩;have c1:=(hb.cell (p:=⟨w.heap.size,1,none⟩) (by simp)).trans (by simp;rfl);have c2:=(hb.cell (p:=⟨w.heap.size,2,none⟩) (by simp)).trans (by simp;rfl);have ah:=(hb.cell (p:=⟨w.heap.size,3,none⟩) (by simp)).trans (by simp;rfl);have aj:=(hb.cell (p:=⟨w.heap.size,4,none⟩) (by simp)).trans (by simp;rfl);have aa:=Ab (((Below.refl w.heap.size w).alloc (VB _) _).trans (hb.mono (by simp)));clear hb;go_wp2;go_ret;exact⟨rfl,Aa aa⟩)
   have ag:=Ab (rfl:bs.length=bs.length)
   by_cases E:3000<n
   . exact leaf 2 (M E) (.inl ⟨rfl,E⟩)
   . by_cases F:st<0\/1000000<st\/nd<0\/3<nd
     . refine leaf 3 (e2 E F) (.inr (.inl ⟨rfl,by omega,by omega⟩))
     . have Z:=e3 E F
       cases gn with
       |true=>
        by_cases hn:0<n
        . exact leaf 4 (by rw[Z,if_pos ⟨rfl,hn⟩];rfl) (.inr (.inr (.inl ⟨rfl,by omega,by omega,by omega,by omega,by omega,rfl,hn⟩)))
        . exact leaf 0 (by rw[Z,if_neg (fun k=>hn k.2)];rfl) (.inr (.inr (.inr (.inl ⟨rfl,by omega,by omega,by omega,by omega,by omega,rfl,by omega⟩))))
       |false=>exact leaf 0 (by rw[Z,if_neg (fun k=>by cases k.1)];rfl) (.inr (.inr (.inr (.inr ⟨rfl,by omega,by omega,by omega,by omega,by omega,rfl⟩))))
 . rw[e0 H];clear e0 M e2 e3 hc;obtain⟨k,af⟩:=exq (Kg nm);rw[af]at O H ⊢;go_enter Tryz.func52,Tryz.ntmps52
   go_wp2_with fail
   refine(Aa O _).mono ?_;rintro e w' ⟨rfl,hb⟩;have aa:=Ab (((Below.refl w.heap.size w).alloc (VB _) _).trans (hb.mono (by simp)));clear hb;go_wp2;go_ret;exact⟨rfl,Aa aa⟩
def ahd (xs:List Fv):Nat->Option Fl
 |0=>none
 |k+1=>(fls xs)[k]?
theorem M5 {xs:List Fv}{k:Nat}{x:Fv}(H:xs[k]? =some x):
 DH (ahd xs k) ((fls xs).drop k)=if Mq x.f≠0 then Mq x.f else if behind (ahd xs k) x.f=false then 4 else DH (ahd xs (k+1)) ((fls xs).drop (k+1)):=by
 have E:(fls xs)[k]? =some x.f:=by simp[fls,H]
 have G:k<(fls xs).length:=by
  rcases ZQ k (fls xs).length with F|F
  . exact F
  . rw[WJ F]at E;cases E
 have e:(fls xs).drop k=x.f::(fls xs).drop (k+1):=by
  rw[WS G]
  congr 1
  rw[VP G]at E;exact VM E
 rw[e,DH];show _=if Mq x.f≠0 then Mq x.f else if behind (ahd xs k) x.f=false then 4 else DH ((fls xs)[k]?) _
 rw[E]
theorem Z2c (x y:List UInt8):Op.bytesLess (B x).toList (B y).toList=decide (Pq x y<0):=by rw[Fh,Fh,CG]
theorem Z2d (x y:List UInt8):((B x).toList==(B y).toList)=decide (Pq x y=0):=by
 rw[Fh,Fh,XZ,beq_iff_eq,decide_eq_true_iff,QQ]
theorem IZ (E:Option Addr)(n c:Nat)(w:World)(F:12<n):Calls Tryz.prog 34 #[.slice E n c] w fun e w'=>e=.returned (.int .i64 2)/\w'=w:=by
 go_enter Tryz.func34,Tryz.ntmps34
 go_wp2;go_ret;exact⟨rfl,rfl⟩
theorem Sv (au:Option Addr)(c:Nat)(xs:List Fv)(w:World)(h:FsIn w au c xs)(n:Nat)(av:xs.length=n):
 Calls Tryz.prog 34 #[.slice au n c] w fun e w'=>e=.returned (.int .i64 (errM (fls xs):Nat))/\Below w.heap.size w w':=by
 have hl:(fls xs).length=n:=by simp[fls,av]
 by_cases hm:12<n
 . have e:errM (fls xs)=2:=by unfold errM;rw[if_pos (by omega)]
   rw[e];refine(IZ au n c w hm).mono ?_;rintro e w' ⟨rfl,rfl⟩;exact⟨rfl,Below.refl _ _⟩
 . have e:errM (fls xs)=DH none (fls xs):=by unfold errM;rw[if_neg (by omega)]
   obtain⟨E,aj⟩:=exq (DH none (fls xs));rw[e,aj];have ao:=Ab h;have aw:=Ab av;have bf:=Ab aj;have bj:=Ab hl;clear h e aj av hl;go_enter Tryz.func34,Tryz.ntmps34
   go_wp2;go_loopw [3,4,5,11] (fun _ _ _ i wr=>∃k:Nat,k<=n/\i=.int .i64 (k:Int)/\Hid (DH (ahd xs k) ((fls xs).drop k)=E)/\Hid (Below w.heap.size w wr)) (fun _ _ _ i _=>n-(intOf i).toNat)
   case atStart=>exact⟨0,VH _,rfl,Aa bf,Below.refl _ _⟩
   case round=>
    obtain⟨k,bw,rfl,a5,ae⟩:=hrel
    by_cases a7:k<n
    . obtain⟨x,ai,a4⟩:=Ob (xs:=xs) (k:=k) (by rw[Aa aw];exact a7);obtain⟨b,o,rfl,hb,c0,c1,c2,a8,bb⟩:=(Aa ao).get (Aa ae) ai;have F:=M5 ai;rw[Aa a5]at F;have bg:=(Aa ae).size;have I:=Ab (fun W (bi:Below w.heap.size w W)=>Yr x W (((Aa ao).all x a4).below bi (VB _)));have ag:=Ab F;rw[Nw]at I;unfold Fv.sl at c1;obtain⟨er,a1⟩:=exq (Mq x.f);rw[a1]at I ag;clear F a1 a4;have bk:=Ab ai;clear ai;obtain⟨T,bv,bq⟩:=x;simp only at*
      have a9:∃nm,T.name=nm:=⟨_,rfl⟩
      obtain⟨nm,ak⟩:=a9;rw[ak]at c0 I;obtain⟨t,ap⟩:=exq (B nm);rw[ap]at c0 I;have ba:=Ab ap;have bh:=Ab ak;clear ap ak;generalize T.bytes.length=bo at*;generalize T.stamp=st at*;generalize T.node=nd at*;generalize T.gone=gn at*;have a2:∀af,Below w.heap.size w (wr.alloc af):=fun af=>(Aa ae).alloc bg af
      have H:=Ab a2;clear a2
      by_cases ay:er=0
      . subst ay
        cases k with
        |zero=>
         simp only[YJ,XN]at c0 c1 c2 a8 bb;have F:=Aa ag;rw[if_neg (by simp),if_neg (by simp[ahd,behind])]at F;have U:=Ab F;clear F;go_wp2_with fail
         refine(Aa I _ (Aa H _)).mono ?_;rintro e O ⟨rfl,G⟩;have M:=Ab ((Aa H _).trans (G.mono (by simp;omega)));clear G;go_wp2;go_quiet (fail)
         go_wp2;go_roundw
         case rel=>exact⟨1,by omega,by go_num,(Aa U).symm,Ae (Aa M) _⟩
         case measure=>simp[intOf];omega
        |succ j=>
         obtain⟨y,al,a6⟩:=Ob (xs:=xs) (k:=j) (by rw[Aa aw];omega);obtain⟨bm,af,bc,bu,d0,_⟩:=(Aa ao).get (Aa ae) al
         cases bc
         have F:=Aa ag;rw[if_neg (by simp)]at F;have a3:ahd xs (j+1)=some y.f:=by show (fls xs)[j]? =_;simp[fls,al]
         rw[a3]at F;have Y:=Z2c nm y.f.name;have aa:=Z2d nm y.f.name;have ax:behind (some y.f) T=decide (Pq y.f.name nm<0):=by show decide (Pq y.f.name T.name<0)=_;rw[Aa bh]
         rw[ax]at F;have ac:=Su nm y.f.name;rw[Aa ba]at Y aa;generalize B y.f.name=az at*;generalize y.f.name=ah at*;clear ax a3 al a6;have bz:((j+1:Nat):Int)-1=(j:Int):=by omega
         have bn:(j:Int)<(n:Int):=by omega
         by_cases ar:Pq nm ah=1
         . rw[ar]at Y aa ac;rw[if_neg (by rw[ac];decide)]at F;have U:=Ab F;simp only[Int.reduceLT,Int.reduceEq,decide_false]at Y aa;clear F ac ar;go_wp2_with fail
           refine(Aa I _ (Aa H _)).mono ?_;rintro e O ⟨rfl,G⟩;have M:=Ab ((Aa H _).trans (G.mono (by simp;omega)));have bd:O.cell? ⟨wr.heap.size,0,none⟩=some (.string t):=(G.cell (p:=⟨wr.heap.size,0,none⟩) (by simp)).trans (by simp);have r0:O.cell? ⟨b,o+j*5,none⟩=some (.string az):=(G.cell (p:=⟨b,o+j*5,none⟩) (by simp;omega)).trans ((World.cell?_alloc_past _ _ _ (by show b<wr.heap.size;omega)).trans d0);clear G;go_wp2;go_quiet (fail)
           go_wp2;go_roundw
           case rel=>exact⟨j+2,by omega,by go_num,(Aa U).symm,Ae (Aa M) _⟩
           case measure=>simp[intOf];omega
         . have Z:(Pq nm ah= -1\/Pq nm ah=0):=by rcases Kd nm ah with h|h|h<;>omega
           rw[if_pos (by rw[ac];apply decide_eq_false;omega)]at F;have U:=Ab F;clear F ac ar
           rcases Z with Z|Z
           all_goals (
            rw[Z]at Y aa;simp only[Int.reduceLT,Int.reduceEq,Int.reduceNeg,decide_true,decide_false]at Y aa;clear Z;go_wp2_with fail
            refine(Aa I _ (Aa H _)).mono ?_;rintro e O ⟨rfl,G⟩;have M:=Ab ((Aa H _).trans (G.mono (by simp;omega)));have bd:O.cell? ⟨wr.heap.size,0,none⟩=some (.string t):=(G.cell (p:=⟨wr.heap.size,0,none⟩) (by simp)).trans (by simp);have r0:O.cell? ⟨b,o+j*5,none⟩=some (.string az):=(G.cell (p:=⟨b,o+j*5,none⟩) (by simp;omega)).trans ((World.cell?_alloc_past _ _ _ (by show b<wr.heap.size;omega)).trans d0);clear G;go_wp2;go_quiet (fail)
            go_wp2;go_ret;exact⟨Dd (by rw[Aa U];rfl),Ae (Aa M) _⟩)
      . have F:=Aa ag;rw[if_pos (by simpa using ay)]at F;have U:=Ab F;clear F;go_wp2_with fail
        refine(Aa I _ (Aa H _)).mono ?_;rintro e O ⟨rfl,G⟩;have M:=Ab ((Aa H _).trans (G.mono (by simp;omega)));clear G;go_wp2;go_ret;exact⟨Dd (by rw[Aa U]),Aa M⟩
    . obtain rfl:n=k:=by omega
      go_wp2;go_ret;have:=Aa a5
      rw[XQ (by rw[Aa bj];exact VB _)]at this;exact⟨Dd (by rw[<-this];rfl),Aa ae⟩
end Go.Proofs.YtleocpdblhbimaaGreatDoor
