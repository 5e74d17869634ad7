import Derived.Deep.RegionHeld3
import Derived.Test.YtleocpdblhbimaaGreatDoorQ15
import Derived.Shelf.Strings.Split
set_option linter.unusedSimpArgs false
set_option maxHeartbeats 8000000
namespace Go.Proofs.YtleocpdblhbimaaGreatDoor
open Go.RowKit
set_option linter.unusedVariables false
set_option maxRecDepth 100000
theorem Ck {a w:World}(E:Below a.heap.size a w)(o:Obj):Below a.heap.size a (w.alloc o):=E.alloc E.size o
theorem Ea {B:Nat}{a w:World}(E:Below B a w):Below B a w.drew:=Ae E 1
theorem Sw {W:World}{p:Addr}{v:Value}{o:Obj}(E:W.cell? p=some v):(W.alloc o).cell? p=some v:=(World.cell?_alloc_some W p o (by rw[E];rfl)).trans E
theorem A6 {l:List En}{k:Nat}{x:En}(F:l[k]? =some x):sumsF (l.drop k)=(decide (x.crc=crcN 0 (n8 x.f.bytes))&&sumsF (l.drop (k+1))):=by
 obtain⟨E,e⟩:=XT.1 F;rw[WS E,e];rfl
theorem A7 (an:Option Addr)(c n:Nat)(G:List Ev)(w:World)(h:EsIn w an c G)(a0:G.length=n)(ba:n<=20000)(af:∀x∈G,x.e.f.bytes.length<=12000)(S:Bool)(ax:sumsF (G.map Ev.e)=S):
 Calls Tryz.prog 43 #[.slice an n c] w fun e w'=>e=.returned (.bool S)/\Below w.heap.size w w':=by
 have aq:=Ab h;have ar:=Ab a0;have a5:=Ab af;have a6:=Ab ax;clear h a0 af ax;go_enter Tryz.func43,Tryz.ntmps43
 go_wp2;go_loopw [4,7] (fun _ i wr=>∃k:Nat,k<=n/\i=.int .i64 (k:Int)/\Hid (sumsF ((G.map Ev.e).drop k)=S)/\Hid (Below w.heap.size w wr)) (fun _ i _=>n-(intOf i).toNat)
 case atStart=>exact⟨0,VH _,rfl,Ab (Aa a6),Ab (Below.refl _ _)⟩
 case round=>
  obtain⟨k,a8,rfl,as,U⟩:=hrel
  by_cases a4:k<n
  . obtain⟨x,aj,ag⟩:∃x,G[k]? =some x/\x∈G:=⟨G[k]'(by rw[Aa ar];exact a4),VP _,WK _⟩
    obtain⟨b,o,rfl,af,c0,c1,c2,al,am,ai,aa,ah⟩:=(Aa aq).get (Aa U) aj;have a7:=(Aa U).size;have ao:=(Aa aq).all x ag;have F:=A6 (l:=G.map Ev.e) (k:=k) (x:=x.e) (by simp[aj]);rw[Aa as]at F;have M:=fun(W:World) (I:Below w.heap.size w W)=>AQ x.fa x.e.f.bytes.length x.fc (n8 x.e.f.bytes) W (Da _) (Aa a5 x ag) (ao.below I).fb.1 (Er (Lv _))
    obtain⟨x,fa,fc,pa,pc⟩:=x;obtain⟨⟨nml,bys,st,nd,gn⟩,mt,pk,cr⟩:=x;dsimp only at c0 c1 c2 al am ai aa ah F M;obtain⟨m,hm⟩:=exq (crcN 0 (n8 bys));rw[hm]at F M;generalize B nml=nm at c0;generalize bys.length=bl at c1 M;generalize pk.length=pl at aa;obtain⟨E,Y⟩:=exq (wr.alloc (.cells #[.string nm,.slice fa bl fc,.int .i64 st,.int .i64 nd,.bool gn,.int .u32 (mt:Int),.slice pa pl pc,.int .u32 (cr:Int)] 71));have T:E.heap[wr.heap.size]? =some (.cells #[.string nm,.slice fa bl fc,.int .i64 st,.int .i64 nd,.bool gn,.int .u32 (mt:Int),.slice pa pl pc,.int .u32 (cr:Int)] 71 (0,0)):=by rw[<-Y];exact heap_alloc_new _ _
    have Z:Below w.heap.size w E:=by rw[<-Y];exact(Aa U).alloc a7 _
    have a1:wr.heap.size<E.heap.size:=(VK.1 T).1;have ac:=Ac (i:=1) T;have ae:=Ac (i:=7) T;simp only[VZ,VY,WI]at ac ae;have k1:∀W:World,Below E.heap.size E W->W.cell? ⟨wr.heap.size,1,none⟩=some (.slice fa bl fc):=fun W I=>(I.cell (p:=⟨wr.heap.size,1,none⟩) a1).trans ac
    have ap:∀W:World,Below E.heap.size E W->W.cell? ⟨wr.heap.size,7,none⟩=some (.int .u32 (cr:Int)):=fun W I=>(I.cell (p:=⟨wr.heap.size,7,none⟩) a1).trans ae
    have av:=Ab (fun(W:World) (I:Below E.heap.size E W)=>M W (Z.trans (I.mono (by omega))));have az:=Ab Y;have aw:=Ab Z;have au:=Z.size;clear aj ag ao M hm Y T Z ac ae
    by_cases hc:cr=m
    . subst hc;rw[decide_eq_true rfl,ZF]at F;have a3:=Ab F;clear F;go_wp2;rw[Aa az];go_region_held3 (fun W=>Below E.heap.size E W) (first|exact Ea (Below.refl _ _)|exact H) ((go_at_call 53;refine(Aa av _ (Ea (Below.refl _ _))).mono ?_;rintro e ak ⟨rfl,O⟩;have H:Below E.heap.size E ak:=(Ea (Below.refl _ _)).trans O;clear O))
      clear k1 ap c0 c1 c2 al am ai aa ah;have ab:=Ab H;clear H;go_wp2;go_roundw
      case rel=>exact⟨k+1,by omega,by go_num,Ab (Aa a3).symm,Ab ((Aa aw).trans ((Aa ab).mono au))⟩
      case measure=>simp[intOf];omega
    . rw[decide_eq_false hc,Bool.false_and]at F;subst F;have a9:((cr:Int)==(m:Int))=false:=by rw[beq_eq_false_iff_ne];omega
      have bb:¬(cr:Int)=(m:Int):=by omega
      go_wp2;rw[Aa az];go_region_held3 (fun W=>Below E.heap.size E W) (first|exact Ea (Below.refl _ _)|exact H) ((go_at_call 53;refine(Aa av _ (Ea (Below.refl _ _))).mono ?_;rintro e ak ⟨rfl,O⟩;have H:Below E.heap.size E ak:=(Ea (Below.refl _ _)).trans O;clear O))
      clear k1 ap c0 c1 c2 al am ai aa ah;have ab:=Ab H;clear H;go_wp2;go_ret;exact⟨rfl,(Aa aw).trans ((Aa ab).mono au)⟩
  . obtain rfl:n=k:=by omega
    have ay:(G.map Ev.e).drop n= []:=XQ (by simp[Aa ar]);have F:=Aa as;rw[ay]at F;have a2:S=true:=F.symm;subst a2;clear ay F;go_wp2;go_ret;exact⟨rfl,Aa U⟩
theorem Sz (bd:Option Addr)(c n:Nat)(I:List Ev)(w:World)(h:EsIn w bd c I)(a9:I.length=n)(c8:n<=12)(aw:∀x∈I,ENum x.e):
 Calls Tryz.prog 36 #[.slice bd n c] w fun e w'=>∃v,e=.returned v/\w'.ownsRow (w.heap.size+1) 5 1 v (Be (I.map Ev.e)).length (u8s (Be (I.map Ev.e)))/\Below w.heap.size w w':=by
 obtain⟨ct,hi,cv,cu,c3⟩:=info_parts OI;obtain⟨l,al⟩:=exq (I.map Ev.e);have bm:l.length=n:=by rw[<-al];simpa using a9
 have a8:∀x∈l,ENum x:=by
  rw[<-al];intro x H;obtain⟨y,ck,rfl⟩:=XG.1 H;exact aw y ck
 have b7:∀k,(Av (l.take k)).length<=12081*12:=fun k=>by
  have ax:=OU (l.take k) (fun x H=>a8 x (VR H));have bh:(l.take k).length<=12:=by rw[VL];omega
  omega
 have be:∀k,(Ao 0 (l.take k)).length<=97*12:=fun k=>by
  have ax:=BH (l.take k) 0 (fun x H=>a8 x (VR H));have bh:(l.take k).length<=12:=by rw[VL];omega
  omega
 rw[al];have bk:∀(k:Nat) (x:Ev),I[k]? =some x->l[k]? =some x.e:=fun k x a1=>by rw[<-al];simp[a1]
 have cp:Hid (AS w w.heap.size w.heap.size (Av (l.take 0)) (.slice none 0 0) (Tl 0 (l.take 0)) (w.alloc (.cells #[.slice none 0 0] 101))):=Ab (by
  refine⟨⟨.slice none 0 0,VB _,heap_alloc_new w _,World.ownsRow_nil _ _ _ _⟩,World.ownsRow_nil _ _ _ _,(Below.refl _ _).alloc (VB _) _⟩)
 have as:=Ab h;have ae:=Ab b7;have bq:=Ab be;have bw:=Ab aw;have ac:=Ab bm;have b3:=Ab a9;have bn:=Ab bk;clear h b7 be aw bm a9 bk a8 al;go_enter Tryz.func36,Tryz.ntmps36
 go_wp2;go_loopw [4,6,14] (fun cg _ i wr=>∃k:Nat,k<=n/\i=.int .i64 (k:Int)/\Hid (AS w w.heap.size w.heap.size (Av (l.take k)) cg (Tl 0 (l.take k)) wr)) (fun _ _ i _=>n-(intOf i).toNat)
 case atStart=>exact⟨0,VH _,rfl,cp⟩
 case round=>
  obtain⟨k,a1,rfl,F⟩:=hrel
  by_cases aj:k<n
  . obtain⟨x,H,Y⟩:∃x,I[k]? =some x/\x∈I:=⟨I[k]'(by rw[Aa b3];exact aj),VP _,WK _⟩
    obtain⟨b,o,rfl,hb,c0,c1,c2,ah,ai,ak,aa,af⟩:=(Aa as).get (Aa F).below H;have am:=Aa bn k x H;have ba:=Ab ((Aa as).all x Y);have ag:=Aa bw x Y
    have G:=Ab (fun(W:World) (U:∃v ps,AS w w.heap.size w.heap.size (Av (l.take k)) v ps W)=>SI w.heap.size w.heap.size x (Av (l.take k)) W (by obtain⟨v,ps,U⟩:=U;exact U.z) ag (by
     obtain⟨v,ps,U⟩:=U;exact(Aa ba).pk.below U.below) (fun g cq ao e2=>Xm (Aa ba).pk g cq ao e2) (by have:=Aa ae k;omega))
    unfold Ev.val at G;have a6:=Ab (Eu am);obtain⟨x,fa,fc,pa,pc⟩:=x;obtain⟨⟨nml,bys,st,nd,gn⟩,mt,pk,cr⟩:=x;dsimp only at c0 c1 c2 ah ai ak aa af G;generalize B nml=nm at c0 G;generalize bys.length=bl at c1 G;generalize pk.length=pl at aa G;clear H Y am ag;obtain⟨ov,E⟩:=(Aa F).z;obtain⟨d0,ab⟩:=E.new;obtain⟨bf,b8,rfl⟩:=An E.own;have ap:=Aa ae k;obtain⟨L,Z⟩:=exq ((Av (l.take k)).length);rw[Z]at d0 ap;have aq:=Ab Z;have cy:=E.lt;have c6:∀o1:Obj,(wr.alloc o1).cell? ⟨w.heap.size,0,none⟩=some (.slice bf L b8):=fun o1=>(World.cell?_alloc_lt wr o1 _ cy).trans d0
    have an:=Ab (fun o1 o2:Obj=>((Aa F).later ((Below.refl _ _).alloc (VB _) o1)).later ((Below.refl _ _).alloc (VB _) o2));have a0:(Tl 0 (l.take k)).length=k:=by rw[V4,VL,Aa ac];omega
    have ci:=Ab a0;have av:=Ab (fun o1 o2:Obj=>(Aa an o1 o2).p);rw[a0]at av;clear E Z a0;go_wp2_with (at_builtin;refine wpList_append_own_at _ rfl _ _ 76 rfl (w.heap.size+1) 3 ct (.int .i64 0) 1 8 Tryz.underlying76 hi cv cu c3 rfl (by decide) _ k (i64s (Tl 0 (l.take k))) rfl (Aa av _ _) ⟨wr.heap.size+1,0,none⟩ 1 1 [.int .i64 (L:Int)] rfl rfl (fun j u cz=>Lu (Jo (by simp)) cz) (Bc rfl) (by unfold maxLen;omega) (by omega) (by simp;omega) ?_)
    intro v' w3 ce a5 _ _
    have M:w3.heap[wr.heap.size]? =some (.cells #[.string nm,.slice fa bl fc,.int .i64 st,.int .i64 nd,.bool gn,.int .u32 (mt:Int),.slice pa pl pc,.int .u32 (cr:Int)] 71 (0,0)):=by
     refine(a5.block _ (by simp;omega) (fun e=> ?_)).trans ((heap_alloc_old _ _ (by simp)).trans (heap_alloc_new wr _));have:=((Aa F).p.lt _ e.symm).2
     omega
    have bj:=Ab ((Aa an _ _).app a5 (by rw[Aa ci];exact ce));have e0:=Ac (i:=0) M;have ao:=Ac (i:=1) M;have e2:=Ac (i:=2) M;have e3:=Ac (i:=3) M;have bg:=Ac (i:=4) M;have bv:=Ac (i:=5) M;have b5:=Ac (i:=6) M;have bz:=Ac (i:=7) M;simp only[VZ,VY,WI]at e0 ao e2 e3 bg bv b5 bz;clear ce a5 M c0 c1 c2 ah ai ak aa af d0 ab c6 av;go_wp2_with fail
    refine(Aa G w3 ⟨_,_,Aa bj⟩).mono ?_;rintro e a7 ⟨rfl,O⟩
    have a4:Hid (AS w w.heap.size w.heap.size (Av (l.take (k+1))) v' (Tl 0 (l.take (k+1))) a7):=Ab (by
     rw[Aa a6,J3,BQ,WG,Aa aq];exact(Aa bj).up O)
    clear O e0 ao e2 e3 bg bv b5 bz;go_wp2;go_roundw
    case rel=>exact⟨k+1,by omega,by go_num,a4⟩
    case measure=>simp[intOf];omega
  . obtain rfl:n=k:=by omega
    have az:l.take n=l:=VV (by rw[Aa ac];exact VB _);rw[az]at F;have a3:=Ab az;clear az;obtain⟨ov,E⟩:=(Aa F).z;obtain⟨d0,ab⟩:=E.new;obtain⟨bf,b8,rfl⟩:=An E.own;have ap:=Aa ae n;rw[Aa a3]at ap;obtain⟨L,Z⟩:=exq ((Av l).length);rw[Z]at d0 ap;have aq:=Ab Z;clear E Z;go_wp2;go_loopw [8,9,37] (fun _ _ i wr=>∃k:Nat,k<=n/\i=.int .i64 (k:Int)/\Hid (AS w w.heap.size w.heap.size (Av l++Ao 0 (l.take k)) u4 (Tl 0 l) wr)) (fun _ _ i _=>n-(intOf i).toNat)
    case atStart=>exact⟨0,VH _,rfl,Ab (by simpa[Ao]using Aa F)⟩
    case round=>
     clear d0 ab F aj;obtain⟨k,a1,rfl,F⟩:=hrel
     by_cases aj:k<n
     . obtain⟨x,H,Y⟩:∃x,I[k]? =some x/\x∈I:=⟨I[k]'(by rw[Aa b3];exact aj),VP _,WK _⟩
       obtain⟨b,o,rfl,hb,c0,c1,c2,ah,ai,ak,aa,af⟩:=(Aa as).get (Aa F).below H;have am:=Aa bn k x H;have ba:=Ab ((Aa as).all x Y);have ag:=Aa bw x Y;obtain⟨P,bo⟩:=exq ((Av (l.take k)).length);have cm:=Aa ae k;rw[bo]at cm;have bu:=Ab bo;have G:=Ab (fun(W:World) (U:AS w w.heap.size w.heap.size (Av l++Ao 0 (l.take k)) u4 (Tl 0 l) W)=>SH w.heap.size w.heap.size P x (Av l++Ao 0 (l.take k)) W U.z ag (by omega) (by rw[VE];have ax:=Aa ae n;have bh:=Aa bq k;rw[VV (by rw[Aa ac];exact VB _)]at ax;omega));unfold Ev.val at G;have a6:=Ab (Eu am);obtain⟨x,fa,fc,pa,pc⟩:=x;obtain⟨⟨nml,bys,st,nd,gn⟩,mt,pk,cr⟩:=x;dsimp only at c0 c1 c2 ah ai ak aa af G;generalize B nml=nm at c0 G;generalize bys.length=bl at c1 G;generalize pk.length=pl at aa G;clear H Y am ag;have bc:(Tl 0 l).length=n:=by rw[V4,Aa ac]
       have au:=(Aa F).p;rw[bc]at au;obtain⟨ay,c4,co,cw,ch⟩:=Ba au (by omega);subst co
       have bt:wr.cell? ⟨ay,k,none⟩=some (.int .i64 (P:Int)):=by
        rw[au.cellAt k (by omega),<-Aa bu];have:=Z2j l 0 k (by rw[Aa ac];exact aj)
        rw[WG]at this;have bi:k<(Tl 0 l).length:=by omega
        simp[List.getD,bi]at this
        simp[i64s,bi,this]
       have cn:∀o1:Obj,(wr.alloc o1).cell? ⟨ay,k,none⟩=some (.int .i64 (P:Int)):=fun o1=>(World.cell?_alloc_lt wr o1 _ ch).trans bt
       have an:=Ab (fun o1:Obj=>(Aa F).later ((Below.refl _ _).alloc (VB _) o1));clear au bc cw;go_wp2;go_region_with (go_at_call 56;refine(Aa G _ ((Aa an _).later (Ae (Below.refl _ _) _))).mono ?_;rintro e a7 ⟨rfl,O⟩)
       all_goals
        have a4:Hid (AS w w.heap.size w.heap.size (Av l++Ao 0 (l.take (k+1))) (.slice (some ⟨ay,0,none⟩) n c4) (Tl 0 l) a7):=Ab (by
         rw[Aa a6,Uq,Aa bu,<-VS];exact((Aa an _).later (Ae (Below.refl _ _) _)).up O)
        clear O c0 c1 c2 ah ai ak aa af bt cn;go_wp2;go_roundw
        case rel=>exact⟨k+1,by omega,by go_num,a4⟩
        case measure=>simp[intOf];omega
     . obtain rfl:n=k:=by omega
       rw[Aa a3]at F;have cd:=Aa bq n;rw[Aa a3]at cd;obtain⟨ov,E⟩:=(Aa F).z;obtain⟨d0,ab⟩:=E.new;obtain⟨c7,c9,rfl⟩:=An E.own;obtain⟨T,ar⟩:=exq ((Ao 0 l).length);have a2:(Av l++Ao 0 l).length=L+T:=by rw[VE,Aa aq,ar]
       rw[a2]at d0;rw[ar]at cd;have c5:=Ab ar;have b4:((L:Int)+(T:Int)-(L:Int))=(T:Int):=by omega
       have cj:Hid (Calls Tryz.prog 57 #[.pointer (some ⟨w.heap.size,0,none⟩),.int .i64 (n:Int),.int .i64 ((L:Int)+(T:Int)-(L:Int)),.int .i64 (L:Int)] wr fun e w'=>e=.returned (.tuple #[])/\ZUp w.heap.size wr w.heap.size (Av l++Ao 0 l++Pm n T L) w'):=Ab (by
        rw[b4];exact SL w.heap.size w.heap.size n T L (Av l++Ao 0 l) wr (Aa F).z (by omega) (by omega) (by omega) (by rw[a2];omega))
       clear E ar a2 b4;go_wp2_with fail
       refine(Aa cj).mono ?_;rintro e da ⟨rfl,O⟩;have bb:=(Aa F).up O;obtain⟨ov,E⟩:=bb.z;have b9:Be l=Av l++Ao 0 l++Pm n T L:=by unfold Be;rw[Aa ac,Aa c5,Aa aq]
       have cl:=Ab b9;clear d0 ab O b9;obtain⟨d0,ab⟩:=E.new;have b0:=Ab (And.intro E.own bb.below);clear E bb;go_wp2;go_ret;exact⟨_,rfl,by rw[Aa cl];exact(Aa b0).1,(Aa b0).2⟩
def spn:List (Nat×Nat):= [(97,122),(65,90),(48,57),(46,46),(95,95),(45,45)]
def Ng (c:Nat)(p:Nat×Nat):Bool:=decide (p.1<=c)&&decide (c<=p.2)
theorem NB:∀c:UInt8,okB c=spn.any (Ng c.toNat):=by
 have h:∀n:Fin 256,okB (UInt8.ofNat n.val)=spn.any (Ng n.val):=by decide+kernel
 intro c;have:=h ⟨c.toNat,c.toNat_lt⟩
 simpa using this
theorem Z8a (W:World):(Instr.index 289 (.agg #[.int .u8 97,.int .u8 122,.int .u8 65,.int .u8 90,.int .u8 48,.int .u8 57,.int .u8 46,.int .u8 46,.int .u8 95,.int .u8 95,.int .u8 45,.int .u8 45]) (.int .i64 0)).run Tryz.prog W=.ok (.agg #[.int .u8 97,.int .u8 122]) W:=by kernel_rfl
theorem Z89 (W:World):(Instr.index 289 (.agg #[.int .u8 97,.int .u8 122,.int .u8 65,.int .u8 90,.int .u8 48,.int .u8 57,.int .u8 46,.int .u8 46,.int .u8 95,.int .u8 95,.int .u8 45,.int .u8 45]) (.int .i64 1)).run Tryz.prog W=.ok (.agg #[.int .u8 65,.int .u8 90]) W:=by kernel_rfl
theorem Z88 (W:World):(Instr.index 289 (.agg #[.int .u8 97,.int .u8 122,.int .u8 65,.int .u8 90,.int .u8 48,.int .u8 57,.int .u8 46,.int .u8 46,.int .u8 95,.int .u8 95,.int .u8 45,.int .u8 45]) (.int .i64 2)).run Tryz.prog W=.ok (.agg #[.int .u8 48,.int .u8 57]) W:=by kernel_rfl
theorem Z87 (W:World):(Instr.index 289 (.agg #[.int .u8 97,.int .u8 122,.int .u8 65,.int .u8 90,.int .u8 48,.int .u8 57,.int .u8 46,.int .u8 46,.int .u8 95,.int .u8 95,.int .u8 45,.int .u8 45]) (.int .i64 3)).run Tryz.prog W=.ok (.agg #[.int .u8 46,.int .u8 46]) W:=by kernel_rfl
theorem Z86 (W:World):(Instr.index 289 (.agg #[.int .u8 97,.int .u8 122,.int .u8 65,.int .u8 90,.int .u8 48,.int .u8 57,.int .u8 46,.int .u8 46,.int .u8 95,.int .u8 95,.int .u8 45,.int .u8 45]) (.int .i64 4)).run Tryz.prog W=.ok (.agg #[.int .u8 95,.int .u8 95]) W:=by kernel_rfl
theorem Z85 (W:World):(Instr.index 289 (.agg #[.int .u8 97,.int .u8 122,.int .u8 65,.int .u8 90,.int .u8 48,.int .u8 57,.int .u8 46,.int .u8 46,.int .u8 95,.int .u8 95,.int .u8 45,.int .u8 45]) (.int .i64 5)).run Tryz.prog W=.ok (.agg #[.int .u8 45,.int .u8 45]) W:=by kernel_rfl
theorem Z9e (k:Nat)(E:k<6)(W:World):(Instr.index 289 (.agg #[.int .u8 97,.int .u8 122,.int .u8 65,.int .u8 90,.int .u8 48,.int .u8 57,.int .u8 46,.int .u8 46,.int .u8 95,.int .u8 95,.int .u8 45,.int .u8 45]) (.int .i64 (k:Int))).run Tryz.prog W=.ok (.agg #[.int .u8 ((spn.getD k (0,0)).1:Nat),.int .u8 ((spn.getD k (0,0)).2:Nat)]) W:=by
 have h:k=0\/k=1\/k=2\/k=3\/k=4\/k=5:=by omega
 rcases h with rfl|rfl|rfl|rfl|rfl|rfl
 . exact Z8a W
 . exact Z89 W
 . exact Z88 W
 . exact Z87 W
 . exact Z86 W
 . exact Z85 W
theorem Z67 (k:Nat):(spn.getD k (0,0)).1<256/\(spn.getD k (0,0)).2<256:=by
 match k with
 |0=>decide
 |1=>decide
 |2=>decide
 |3=>decide
 |4=>decide
 |5=>decide
 |k+6=>simp[spn]
theorem Z3o (n k:Nat)(E:k<6)(F:Ng n (spn.getD k (0,0))=true):spn.any (Ng n)=true:=by
 rw[List.any_eq_true];refine⟨spn.getD k (0,0), ?_,F⟩;have hl:k<spn.length:=E;simp[List.getD,hl]
theorem TY (n:Nat)(G:∀j,j<6->Ng n (spn.getD j (0,0))=false):spn.any (Ng n)=false:=by
 rw[List.any_eq_false];intro x F;obtain⟨j,E,rfl⟩:=List.mem_iff_getElem.1 F;have:=G j E
 simp[List.getD,E]at this
 simp[this]
theorem E8 (n:Nat)(Y:n<256)(w:World):
 Calls Tryz.prog 175 #[.int .u8 n] w fun e w'=>e=.returned (.bool (spn.any (Ng n)))/\Below w.heap.size w w':=by
 have T:=Z9e;go_enter Tryz.func175,Tryz.ntmps175
 go_wp2;go_loopw [12] (fun i wr=>∃k:Nat,k<=6/\i=.int .i64 k/\Hid (∀j,j<k->Ng n (spn.getD j (0,0))=false)/\Hid (Below w.heap.size w wr)) (fun i _=>6-(intOf i).toNat)
 case atStart=>exact⟨0,VH _,rfl,fun j H=>absurd H (by omega),Below.refl _ _⟩
 case round=>
  obtain⟨k,aa,rfl,F,E⟩:=hrel
  by_cases O:k<6
  . have ac:=T k O;obtain⟨ae,Z⟩:=Z67 k;have I:Hid (Ng n (spn.getD k (0,0))=(decide ((spn.getD k (0,0)).1<=n)&&decide (n<=(spn.getD k (0,0)).2))):=rfl;have U:=Ab (Z3o n k O);generalize (spn.getD k (0,0)).1=lo at*;generalize (spn.getD k (0,0)).2=hi at*;clear T;have ab:=(Aa E).size
    by_cases M:lo<=n
    . by_cases hb:n<=hi
      . go_wp2;go_ret;refine⟨Dq ((Aa U) ?_).symm,(Aa E).alloc (Aa E).size _⟩;rw[Aa I];simp[M,hb]
      . go_wp2;go_roundw
        case rel=>
         refine⟨k+1,by omega,by go_num,fun j H=> ?_,(Aa E).alloc (Aa E).size _⟩
         by_cases G:j=k
         . subst G;rw[Aa I];simp[hb]
         . exact(Aa F) j (by omega)
        case measure=>simp[intOf];omega
    . go_wp2;go_roundw
      case rel=>
       refine⟨k+1,by omega,by go_num,fun j H=> ?_,(Aa E).alloc (Aa E).size _⟩
       by_cases G:j=k
       . subst G;rw[Aa I];simp[M]
       . exact(Aa F) j (by omega)
      case measure=>simp[intOf];omega
  . obtain rfl:k=6:=by omega
    go_wp2;go_ret;exact⟨Dq (TY n (Aa F)).symm,Aa E⟩
theorem NA (p:ByteArray)(F:p.data.toList≠ [])(M:p.data.toList≠ [46])(G:p.data.toList≠ [46,46])(I:∀j (h:j<p.size),spn.any (Ng (p[j]'h).toNat)=true):okP p.data.toList=true:=by
 simp only[okP,ZM,bne_iff_ne];refine⟨⟨⟨F,M⟩,G⟩, ?_⟩;rw[WX];intro x E;obtain⟨j,H,rfl⟩:=List.mem_iff_getElem.1 E;rw[NB];have O:j<p.size:=by rw[Z00];exact H
 exact I j O
theorem Z4e (p:ByteArray)(j:Nat)(F:j<p.size)(E:spn.any (Ng (p[j]'h).toNat)=false):okP p.data.toList=false:=by
 have hb:okB (p[j]'h)=false:=by rw[NB];exact E
 have:p.data.toList.all okB=false:=by
  rw[List.all_eq_false];refine⟨p[j]'h, ?_,by simp[hb]⟩;exact Array.mem_toList_iff.2 (Array.getElem_mem _)
 simp[okP,this]
theorem BK (p:ByteArray)(l:List UInt8)(E:¬p.data.toList=l):(p.toList==l)=false:=by
 rw[Lib.toList_data];simpa using E
theorem Xb (p:ByteArray)(E:¬p.data.toList= []):p.toList.isEmpty=false:=by
 rw[Lib.toList_data]
 cases hl:p.data.toList with
 |nil=>exact absurd hl E
 |cons x xs=>rfl
theorem GK (p:ByteArray)(ab:p.size<=maxLen)(w:World):
 Calls Tryz.prog 145 #[.string p] w fun e w'=>e=.returned (.bool (okP p.data.toList))/\Below w.heap.size w w':=by
 by_cases F:p.data.toList= []
 . obtain rfl:p=⟨#[]⟩:=by rw[<-DZ p,F];rfl
   go_enter Tryz.func145,Tryz.ntmps145
   go_wp2;go_ret;exact⟨rfl,Below.refl _ _⟩
 by_cases G:p.data.toList= [46]
 . obtain rfl:p=⟨#[46]⟩:=by rw[<-DZ p,G];rfl
   go_enter Tryz.func145,Tryz.ntmps145
   go_wp2;go_ret;exact⟨rfl,Below.refl _ _⟩
 by_cases I:p.data.toList= [46,46]
 . obtain rfl:p=⟨#[46,46]⟩:=by rw[<-DZ p,I];rfl
   go_enter Tryz.func145,Tryz.ntmps145
   go_wp2;go_ret;exact⟨rfl,Below.refl _ _⟩
 have ag:=Ab (NA p F G I);have e0:=Xb p F;have ai:=BK p [46] G;have e2:=BK p [46,46] I;clear F G I;have af:=Ab (Z4e p);go_enter Tryz.func145,Tryz.ntmps145
 go_wp2;go_loopw [3,16] (fun _ i wr=>∃k:Nat,k<=p.size/\i=.int .i64 k/\Hid (∀j (h:j<p.size),j<k->spn.any (Ng (p[j]'h).toNat)=true)/\Hid (Below w.heap.size w wr)) (fun _ i _=>p.size-(intOf i).toNat)
 case atStart=>exact⟨0,VH _,rfl,fun j _ U=>absurd U (by omega),Below.refl _ _⟩
 case round=>
  obtain⟨k,ah,rfl,Y,M⟩:=hrel;unfold maxLen at ab;have Z:=(Aa M).size
  by_cases aa:k<p.size
  . have H:=Ab (fun W=>E8 (p[k]'hlt).toNat (p[k]'hlt).toNat_lt W)
    cases hm:spn.any (Ng (p[k]'hlt).toNat)with
    |true=>
     rw[hm]at H;have O:=Ab hm;clear hm;go_wp2_with (go_at_call 175;refine((Aa H) _).mono ?_;rintro e ae ⟨rfl,E⟩;have T:=Ab ((Aa M).trans (E.mono Z));clear E)
     go_roundw
     case rel=>
      refine⟨k+1,by omega,by go_num,fun j h U=> ?_,Aa T⟩
      by_cases ac:j=k
      . subst ac;exact Aa O
      . exact(Aa Y) j h (by omega)
     case measure=>simp[intOf];omega
    |false=>
     rw[hm]at H;have O:=Ab hm;clear hm;go_wp2_with (go_at_call 175;refine((Aa H) _).mono ?_;rintro e ae ⟨rfl,E⟩;have T:=Ab ((Aa M).trans (E.mono Z));clear E)
     go_ret;exact⟨Dq ((Aa af) k aa (Aa O)).symm,Aa T⟩
  . obtain rfl:k=p.size:=by omega
    go_wp2;go_ret;exact⟨Dq ((Aa ag) (fun j h=>(Aa Y) j h h)).symm,Aa M⟩
def B5:Go.Shelf.Ren:=⟨fun|221=>81|268=>113|138=>114|143=>115|195=>152|197=>117|218=>153|219=>154|260=>155|217=>187|225=>188|224=>189|267=>190|266=>214|314=>215|n=>n,fun|9=>9|3=>3|31=>43|4=>4|0=>0|105=>183|21=>21|5=>5|46=>66|119=>261|139=>264|138=>263|146=>266|51=>35|n=>n,fun|1=>0|3=>1|4=>2|n=>n⟩
theorem R9:Go.Proofs.Lays.n221 Tryz.prog B5:= {
 mixed:=by kernel_rfl
 f138:=Tryz.func114.trans (congrArg some (by kernel_rfl))
 f143:=Tryz.func115.trans (congrArg some (by kernel_rfl))
 f195:=Tryz.func152.trans (congrArg some (by kernel_rfl))
 f197:=Tryz.func117.trans (congrArg some (by kernel_rfl))
 f217:=Tryz.func187.trans (congrArg some (by kernel_rfl))
 f218:=Tryz.func153.trans (congrArg some (by kernel_rfl))
 f219:=Tryz.func154.trans (congrArg some (by kernel_rfl))
 f221:=Tryz.func81.trans (congrArg some (by kernel_rfl))
 f224:=Tryz.func189.trans (congrArg some (by kernel_rfl))
 f225:=Tryz.func188.trans (congrArg some (by kernel_rfl))
 f260:=Tryz.func155.trans (congrArg some (by kernel_rfl))
 f266:=Tryz.func214.trans (congrArg some (by kernel_rfl))
 f267:=Tryz.func190.trans (congrArg some (by kernel_rfl))
 f268:=Tryz.func113.trans (congrArg some (by kernel_rfl))
 f314:=Tryz.func215.trans (congrArg some (by kernel_rfl))
 t0:=Tryz.underlying0
 a0:=Tryz.isAgg0
 z0:=Tryz.sizeOf0
 v0:=Tryz.zeroValue0
 t3:=Tryz.underlying3
 a3:=Tryz.isAgg3
 z3:=Tryz.sizeOf3
 v3:=Tryz.zeroValue3
 t4:=Tryz.underlying4
 a4:=Tryz.isAgg4
 z4:=Tryz.sizeOf4
 v4:=Tryz.zeroValue4
 t5:=Tryz.underlying5
 a5:=Tryz.isAgg5
 z5:=Tryz.sizeOf5
 v5:=Tryz.zeroValue5
 t9:=Tryz.underlying9
 a9:=Tryz.isAgg9
 z9:=Tryz.sizeOf9
 v9:=Tryz.zeroValue9
 t21:=Tryz.underlying21
 a21:=Tryz.isAgg21
 z21:=Tryz.sizeOf21
 v21:=Tryz.zeroValue21
 t31:=Tryz.underlying43
 a31:=Tryz.isAgg43
 z31:=Tryz.sizeOf43
 v31:=Tryz.zeroValue43
 t46:=Tryz.underlying66
 a46:=Tryz.isAgg66
 z46:=Tryz.sizeOf66
 v46:=Tryz.zeroValue66
 t51:=Tryz.underlying35
 a51:=Tryz.isAgg35
 z51:=Tryz.sizeOf35
 v51:=Tryz.zeroValue35
 t105:=Tryz.underlying183
 a105:=Tryz.isAgg183
 z105:=Tryz.sizeOf183
 v105:=Tryz.zeroValue183
 t119:=Tryz.underlying261
 a119:=Tryz.isAgg261
 z119:=Tryz.sizeOf261
 t138:=Tryz.underlying263
 a138:=Tryz.isAgg263
 z138:=Tryz.sizeOf263
 v138:=Tryz.zeroValue263
 t139:=Tryz.underlying264
 a139:=Tryz.isAgg264
 z139:=Tryz.sizeOf264
 v139:=Tryz.zeroValue264
 t146:=Tryz.underlying266
 a146:=Tryz.isAgg266
 z146:=Tryz.sizeOf266
 v146:=Tryz.zeroValue266
 g1:=by kernel_rfl
 g3:=by kernel_rfl
 g4:=by kernel_rfl}
def Qj (ps:List (List UInt8)):List Value:=ps.map fun p=>.string (B p)
theorem Z1b:(Tryz.prog.info? 9).map (fun i=>(i.zero,i.size,i.bytes))=some (some (.string ByteArray.empty),1,16):=by kernel_rfl
theorem J8 (s:ByteArray)(w:World)(I:s.size<4294967281):
 Calls Tryz.prog 81 #[.string s,.string ⟨#[47]⟩,.int .i64 0,.int .i64 (-1)] w fun e w'=>
  e=.returned (.slice (some ⟨w.heap.size,0,none⟩) (spl s.data.toList).length (spl s.data.toList).length)/\w'=w.alloc (.cells (Qj (spl s.data.toList)).toArray 9):=by
 have E:(⟨#[47]⟩:ByteArray).size=1:=rfl;have M:=Lib.countB_le ⟨#[47]⟩ (by rw[E];decide) s.size s (VB _);have F:=Lib.splitB_all ⟨#[47]⟩ (by rw[E];decide) 0 _ s rfl
 have H:∀(x:ByteArray) (c:Array Value),x.size<=s.size->Calls Tryz.prog (B5.f 143) #[.string x,.string ⟨#[47]⟩] (w.alloc (.cells c (B5.t 9))) fun e w'=>e=.returned (.int .i64 (Lib.indexB x ⟨#[47]⟩))/\w'=w.alloc (.cells c (B5.t 9)):=by
  intro x c _;refine(Any.strings_Index_one {R9 with} x 47 _).mono ?_;rintro e w' ⟨rfl,rfl⟩;refine⟨?_,rfl⟩;show _=Ending.returned (Value.int .i64 (Lib.index x.data.toList [47]))
  rw[Lib.index_one]
 have G:Calls Tryz.prog (B5.f 138) #[.string s,.string ⟨#[47]⟩] w fun e w'=>e=.returned (.int .i64 (Lib.countB s ⟨#[47]⟩))/\w'=w:=by
  refine(Any.strings_Count_one {R9 with} s 47 w).mono ?_;rintro e w' ⟨rfl,rfl⟩;refine⟨?_,rfl⟩;show _=Ending.returned (Value.int .i64 ((Lib.count s.data.toList [47]:Nat):Int))
  rw[Lib.count_one];rfl
 have c:=Any.strings_genSplit_core R9 Z1b s ⟨#[47]⟩ 0 (-1) (Lib.countB s ⟨#[47]⟩+1) w I (by rw[E];decide) (VH _) H G (by decide) (by decide) (by rw[if_pos (by decide)];omega);rw[YA]at c;have e2:Lib.cellsOf (Lib.splitB ⟨#[47]⟩ 0 (Lib.countB s ⟨#[47]⟩) s) (Lib.countB s ⟨#[47]⟩+1)=((Lib.splitB ⟨#[47]⟩ 0 (Lib.countB s ⟨#[47]⟩) s).map Value.string).toArray:=by rw[<-F];exact Lib.cellsOf_full _
 rw[e2,EZ,IP]at c;refine c.mono ?_;rintro e w' ⟨rfl,rfl⟩;refine⟨by simp, ?_⟩;simp only[Qj,ZU];rfl
theorem B3 (s:ByteArray)(w:World)(F:s.size<4294967281):
 Calls Tryz.prog 58 #[.string s,.string ⟨#[47]⟩] w fun e w'=>
  e=.returned (.slice (some ⟨w.heap.size,0,none⟩) (spl s.data.toList).length (spl s.data.toList).length)/\w'=w.alloc (.cells (Qj (spl s.data.toList)).toArray 9):=by
 have c:=J8 s w F;go_enter Tryz.func58,Tryz.ntmps58
 go_wp2_with (go_at_call 81;refine c.mono ?_;rintro e w' ⟨rfl,E⟩;rw[E])
 go_ret;exact⟨rfl,rfl⟩
def SRow (w:World)(b:Nat)(v:Value)(ps:List (List UInt8)):Prop:=w.ownsRow b 9 1 v ps.length (Qj ps)
theorem Xc (E:List (List UInt8)):(Qj E).length=E.length:=by simp[Qj]
theorem SRow.nil (w:World)(b:Nat):SRow w b (.slice none 0 0) []:=World.ownsRow_nil _ _ _ _
theorem SRow.new (w:World)(E:List (List UInt8))(F:E.length<=maxLen):SRow (w.alloc (.cells (Qj E).toArray 9)) w.heap.size (.slice (some ⟨w.heap.size,0,none⟩) E.length E.length) E:=
 ⟨by rw[Xc];omega,.inr ⟨w.heap.size,E.length,(Qj E).toArray,rfl,VB _,heap_alloc_new w _,VB _,F,by simp[Xc],by simp[<-Xc]⟩⟩
theorem SRow.below {w w':World}{b:Nat}{v:Value}{E:List (List UInt8)}(G:SRow w b v E)(F:Below w.heap.size w w'):SRow w' b v E:=MV G F
theorem SRow.mono {w:World}{b c:Nat}{v:Value}{E:List (List UInt8)}(G:SRow w b v E)(O:c<=b):SRow w c v E:=by
 obtain⟨T,F⟩:=G;refine⟨T,F.imp id ?_⟩;rintro ⟨g,cap,cur,H,I,M⟩;exact⟨g,cap,cur,H,VU O I,M⟩
theorem SRow.cases {w:World}{b:Nat}{v:Value}{E:List (List UInt8)}(U:SRow w b v E):(v=.slice none 0 0/\E= [])\/∃g cap,v=.slice (some ⟨g,0,none⟩) E.length cap/\b<=g/\g<w.heap.size/\E.length<=cap/\cap<=maxLen/\∀j x,(E.map B)[j]? =some x->w.cell? ⟨g,0+j,none⟩=some (.string x):=by
 obtain⟨af,H|⟨g,cap,cur,ab,Y,I,aa,O,ac,Z⟩⟩:=U
 . exact .inl ⟨H.1,ZH.1 H.2⟩
 . have T:g<w.heap.size:=by
    rcases ZQ g w.heap.size with G|G
    . exact G
    . simp[ZN G]at I
   refine .inr ⟨g,cap,ab,Y,T,aa,O, ?_⟩;intro j x F
   have ae:j<E.length:=by
    rcases ZQ j E.length with G|G
    . exact G
    . rw[WJ (by simpa using G)]at F;exact absurd F (by simp)
   rw[WG,Lib.cell_of_heap I];have e:(cur.toList.take (E.length*1))[j]? =(Qj E)[j]? :=by rw[Z]
   rw[List.getElem?_take,if_pos (by omega)]at e;simp only[Qj,List.getElem?_map]at e F;rw[<-Array.getElem?_toList,e]
   cases M:E[j]? with
   |none=>rw[M]at F;exact absurd F (by simp)
   |some p=>rw[M]at F;simp at F ⊢;exact F
theorem N3 {s:List UInt8}(E:40<s.length):Kg s=2:=by unfold Kg;rw[if_pos E]
theorem DI {s:List UInt8}(H:s.length<=40){p:List UInt8}(F:p∈spl s)(E:okP p=false):Kg s=1:=by
 unfold Kg;rw[if_neg (by omega),if_neg];intro G;have:=WX.1 G p F
 rw[E]at this;exact absurd this (by simp)
theorem BL {s:List UInt8}(E:s.length<=40):(spl s).length<=41:=by
 have:=YI (a:=(47:UInt8)) (l:=s)
 rw[LQ];omega
def Z41 (s:List UInt8):List (List UInt8):=if Kg s=0 then spl s else []
theorem MG {s:List UInt8}(E:Kg s=0):Z41 s=spl s:=by unfold Z41;rw[if_pos E]
theorem Ox {s:List UInt8}(E:Kg s≠0):Z41 s= []:=by unfold Z41;rw[if_neg E]
theorem Mv (w:World)(o:Obj):Below w.heap.size w (w.alloc o):=(Below.refl _ _).alloc (VB _) o
theorem MM (s:List UInt8)(w:World)(U:s.length<=maxLen):
 Calls Tryz.prog 109 #[.string (B s)] w fun e w'=>∃v,e=.returned (.tuple #[v,.int .i64 (Kg s:Nat)])/\SRow w' w.heap.size v (Z41 s)/\Below w.heap.size w w'/\(Kg s≠0->v=.slice none 0 0):=by
 have F:=Im s;unfold maxLen at U
 by_cases Z:40<s.length
 . have T:=Ab (N3 Z);have ap:40<(B s).size:=by rw[F];omega
   have a4:(B s).size<=9223372036854775807:=by rw[F];omega
   clear F Z U;generalize B s=t at*;go_enter Tryz.func109,Tryz.ntmps109
   go_wp2;go_ret2;rw[Ox (by rw[Aa T];decide),Aa T];exact⟨_,rfl,SRow.nil _ _,Below.refl _ _,fun _=>rfl⟩
 . have O:=B3 (B s) w (by rw[F];omega);rw[QE]at O;have ap:(B s).size<=40:=by rw[F];omega
   have ax:=BL (s:=s) (by omega);have af:=Ab (SRow.new w (spl s) (by unfold maxLen;omega));have T:=Ab (fun p Y hb=>DI (s:=s) (p:=p) (by omega) Y hb);have am:=Ab (PV (l:=s) (by omega));have ao:∀p∈spl s,p.length<=s.length:=Z2g s;obtain⟨L,ac⟩:=exq ((spl s).length);rw[ac]at O af ax;have aj:=Ab ac
   have ar:Hid (∀j (E:j<(spl s).length) (W:World),Below (w.heap.size+1) (w.alloc (.cells (Qj (spl s)).toArray 9)) W->W.cell? ⟨w.heap.size,j,none⟩=some (.string (B ((spl s)[j]'hj)))):=by
    intro j E W ay;rw[ay.cell (p:=⟨w.heap.size,j,none⟩) (Nat.lt_succ_self _),World.cell?_alloc_at _ _ _ _ rfl];simp[Qj,E]
   have a5:s.length<=40:=by omega
   clear ac F Z U;generalize B s=t at*;go_enter Tryz.func109,Tryz.ntmps109
   go_wp2_with (go_at_call 58;refine O.mono ?_;rintro e w' ⟨rfl,an⟩;rw[an])
   clear O;go_loopw [6,14] (fun _ i wr=>∃k:Nat,k<=L/\i=.int .i64 k/\Hid (∀j (E:j<(spl s).length),j<k->okP ((spl s)[j]'hj)=true)/\Hid (Below (w.heap.size+1) (w.alloc (.cells (Qj (spl s)).toArray 9)) wr)) (fun _ i _=>L-(intOf i).toNat)
   case atStart=>exact⟨0,VH _,rfl,fun j _ E=>absurd E (by omega),Below.refl _ _⟩
   case round=>
    obtain⟨k,a1,rfl,ai,G⟩:=hrel
    by_cases aq:k<L
    . have aa:k<(spl s).length:=by rw[Aa aj];exact aq
      have a3:=(Aa ar) k aa wr (Aa G);have aw:=(Aa G).size;have az:=ao _ (WK aa);have ag:=Ab (WK aa);have av:=Ab (fun h=>(Aa T) _ (Aa ag) h)
      have as:Hid (okP ((spl s)[k]'hlt')=true->∀j (E:j<(spl s).length),j<k+1->okP ((spl s)[j]'hj)=true):=by
       intro h j E a2
       by_cases e:j=k
       . subst e;exact h
       . exact(Aa ai) j E (by omega)
      generalize (spl s)[k]'hlt'=q at*;have M:=GK (B q) (by rw[Im];unfold maxLen;omega) wr;rw[QE]at M;clear ag;generalize B q=a0 at*;have ah:w.heap.size+1<=wr.heap.size:=by simp at aw;omega
      cases H:okP q with
      |true=>
       rw[H]at M;have ae:=Ab H;clear H;go_wp2_with (go_at_call 145;refine M.mono ?_;rintro e au ⟨rfl,I⟩;have ab:=Ab ((Aa G).trans (I.mono ah));clear I)
       go_roundw
       case rel=>exact⟨k+1,by omega,by go_num,(Aa as) (Aa ae),Aa ab⟩
       case measure=>simp[intOf];omega
      |false=>
       rw[H]at M;have ae:=Ab H;clear H;go_wp2_with (go_at_call 145;refine M.mono ?_;rintro e au ⟨rfl,I⟩;have ab:=Ab ((Aa G).trans (I.mono ah));clear I)
       go_ret2;have al:=(Aa av) (Aa ae)
       rw[Ox (by rw[al];decide),al];exact⟨_,rfl,SRow.nil _ _,(Mv w _).trans ((Aa ab).mono (Nat.le_succ _)),fun _=>rfl⟩
    . obtain rfl:k=L:=by omega
      have ak:Hid (Kg s=0):=(Aa am) (by
       rw[WX];intro p Y;obtain⟨j,E,rfl⟩:=List.mem_iff_getElem.1 Y;exact(Aa ai) j E (by rw[Aa aj]at E;exact E))
      go_wp2;go_ret2;rw[MG (Aa ak),Aa ak];refine⟨_,rfl, ?_,(Mv w _).trans ((Aa G).mono (Nat.le_succ _)),fun h=>absurd rfl h⟩;exact(Aa af).below (by simpa using Aa G)
theorem QV (s:List UInt8)(w:World)(F:s.length<=maxLen):
 Calls Tryz.prog 74 #[.string (B s)] w fun e w'=>e=.returned (.int .i64 (Kg s:Nat))/\Below w.heap.size w w':=by
 have c:=MM s w F;generalize B s=t at*;go_enter Tryz.func74,Tryz.ntmps74
 go_wp2_with (go_at_call 109;refine c.mono ?_;rintro e w' ⟨v,rfl,_,hb,_⟩;have E:=Ab hb;clear hb)
 go_ret;exact⟨rfl,Aa E⟩
end Go.Proofs.YtleocpdblhbimaaGreatDoor
