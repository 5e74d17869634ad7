import Derived.Test.YtcjbgpacnkilnagGreatDoorQ19
import Derived.Test.YtcjbgpacnkilnagGreatDoorQ14
import Derived.Test.YtcjbgpacnkilnagGreatDoorQ13
import Derived.Test.YtcjbgpacnkilnagGreatDoorQ0
import Derived.Laws.BytesArg
import Derived.Lib.Strings
import Derived.Test.YtcjbgpacnkilnagGreatDoorQ27
import Derived.Test.YtcjbgpacnkilnagGreatDoorQ25
set_option maxHeartbeats 8000000
namespace Go.Proofs.YtcjbgpacnkilnagGreatDoor
open Go.RowKit
set_option linter.unusedVariables false
set_option maxRecDepth 100000
theorem Rx (ad:Option Addr)(c n:Nat)(es:List Ev)(w:World)(h:EsIn w ad c es)(hl:es.length=n)(hn:n<=12)(hE:∀x∈es,ENum x.e):
 Calls Tryz.prog 28 #[.slice ad n c] w fun e w'=>∃v,e=.returned v/\w'.ownsRow (w.heap.size+1) 5 1 v (Ca (es.map Ev.e)).length (u8s (Ca (es.map Ev.e)))/\Below w.heap.size w w':=by
 obtain⟨i0,hi,hz0,hz1,hz2⟩:=info_parts Zc0;obtain⟨l,hle⟩:∃l,es.map Ev.e=l:=⟨_,rfl⟩
 have hll:l.length=n:=by rw[<-hle];simpa using hl
 have hEl:∀x∈l,ENum x:=by
  rw[<-hle];intro x hx;obtain⟨y,hy,rfl⟩:=List.mem_map.1 hx;exact hE y hy
 have hbnd:∀k,(Bh (l.take k)).length<=12081*12:=fun k=>by
  have h1:=Zcb (l.take k) (fun x hx=>hEl x (List.mem_of_mem_take hx));have h2:(l.take k).length<=12:=by rw[List.length_take];omega
  omega
 have hbnd2:∀k,(Bj 0 (l.take k)).length<=97*12:=fun k=>by
  have h1:=Z4h (l.take k) 0 (fun x hx=>hEl x (List.mem_of_mem_take hx));have h2:(l.take k).length<=12:=by rw[List.length_take];omega
  omega
 rw[hle];have HG:∀(k:Nat) (x:Ev),es[k]? =some x->l[k]? =some x.e:=fun k x hk=>by rw[<-hle];simp[hk]
 have HS0:Hid (AS w w.heap.size w.heap.size (Bh (l.take 0)) (.slice none 0 0) (Sk 0 (l.take 0)) (w.alloc (.cells #[.slice none 0 0] 80))):=Ab (by
  refine⟨⟨.slice none 0 0,Nat.le_refl _,heap_alloc_new w _,World.ownsRow_nil _ _ _ _⟩,World.ownsRow_nil _ _ _ _,(Below.refl _ _).alloc (Nat.le_refl _) _⟩)
 have HI:=Ab h;have HBN:=Ab hbnd;have HBN2:=Ab hbnd2;have HEE:=Ab hE;have HLL:=Ab hll;have HL:=Ab hl;have HGG:=Ab HG;clear h hbnd hbnd2 hE hll hl HG hEl hle;go_enter Tryz.func28,Tryz.ntmps28
 go_wp2;go_loopw [4,6,14] (fun v4 _ i wr=>∃k:Nat,k<=n/\i=.int .i64 (k:Int)/\Hid (AS w w.heap.size w.heap.size (Bh (l.take k)) v4 (Sk 0 (l.take k)) wr)) (fun _ _ i _=>n-(intOf i).toNat)
 case atStart=>exact⟨0,Nat.zero_le _,rfl,HS0⟩
 case round=>
  obtain⟨k,hk,rfl,HA⟩:=hrel
  by_cases hlt:k<n
  . obtain⟨x,hx,hxm⟩:∃x,es[k]? =some x/\x∈es:=⟨es[k]'(by rw[Aa HL];exact hlt),List.getElem?_eq_getElem _,List.getElem_mem _⟩
    obtain⟨b,o,rfl,hb,c0,c1,c2,c3,c4,c5,c6,c7⟩:=(Aa HI).get (Aa HA).below hx;have hgl:=Aa HGG k x hx;have HIN:=Ab ((Aa HI).all x hxm);have hnum:=Aa HEE x hxm
    have HF:=Ab (fun(W:World) (hA:∃v ps,AS w w.heap.size w.heap.size (Bh (l.take k)) v ps W)=>Ze7 w.heap.size w.heap.size x (Bh (l.take k)) W (by obtain⟨v,ps,hA⟩:=hA;exact hA.z) hnum (by
     obtain⟨v,ps,hA⟩:=hA;exact(Aa HIN).pk.below hA.below) (fun g o' e1 e2=>Vr (Aa HIN).pk g o' e1 e2) (by have:=Aa HBN k;omega))
    unfold Ev.val at HF;have HTK:=Ab (Ks hgl);obtain⟨x,fa,fc,pa,pc⟩:=x;obtain⟨⟨nml,bys,st,nd,gn⟩,mt,pk,cr⟩:=x;dsimp only at c0 c1 c2 c3 c4 c5 c6 c7 HF;generalize B nml=nm at c0 HF;generalize bys.length=bl at c1 HF;generalize pk.length=pl at c6 HF;clear hx hxm hgl hnum;obtain⟨ov,hC⟩:=(Aa HA).z;obtain⟨d0,g0⟩:=hC.new;obtain⟨oa,oc,rfl⟩:=Ao hC.own;have hlb:=Aa HBN k;obtain⟨L,hL⟩:∃L,(Bh (l.take k)).length=L:=⟨_,rfl⟩
    rw[hL]at d0 hlb;have HLE:=Ab hL;have hbl:=hC.lt;have d0':∀o1:Obj,(wr.alloc o1).cell? ⟨w.heap.size,0,none⟩=some (.slice oa L oc):=fun o1=>(World.cell?_alloc_lt wr o1 _ hbl).trans d0
    have HA1:=Ab (fun o1 o2:Obj=>((Aa HA).later ((Below.refl _ _).alloc (Nat.le_refl _) o1)).later ((Below.refl _ _).alloc (Nat.le_refl _) o2));have hpl2:(Sk 0 (l.take k)).length=k:=by rw[Z2n,List.length_take,Aa HLL];omega
    have HPL:=Ab hpl2;have HO:=Ab (fun o1 o2:Obj=>(Aa HA1 o1 o2).p);rw[hpl2]at HO;clear hC hL hpl2;go_wp2_with (at_builtin;refine wpList_append_own_at _ rfl _ _ 81 rfl (w.heap.size+1) 3 i0 (.int .i64 0) 1 8 Tryz.underlying81 hi hz0 hz1 hz2 rfl (by decide) _ k (i64s (Sk 0 (l.take k))) rfl (Aa HO _ _) ⟨wr.heap.size+1,0,none⟩ 1 1 [.int .i64 (L:Int)] rfl rfl (fun j u hj=>Z5a (Z1d (by simp)) hj) (Bf rfl) (by unfold maxLen;omega) (by omega) (by simp;omega) ?_)
    intro v' w3 hO3 hg3 _ _
    have hX:w3.heap[wr.heap.size]? =some (.cells #[.string nm,.slice fa bl fc,.int .i64 st,.int .i64 nd,.bool gn,.int .u32 (mt:Int),.slice pa pl pc,.int .u32 (cr:Int)] 62 (0,0)):=by
     refine(hg3.block _ (by simp;omega) (fun e=> ?_)).trans ((heap_alloc_old _ _ (by simp)).trans (heap_alloc_new wr _));have:=((Aa HA).p.lt _ e.symm).2
     omega
    have HA3:=Ab ((Aa HA1 _ _).app hg3 (by rw[Aa HPL];exact hO3));have e0:=Ac (i:=0) hX;have e1:=Ac (i:=1) hX;have e2:=Ac (i:=2) hX;have e3:=Ac (i:=3) hX;have e4:=Ac (i:=4) hX;have e5:=Ac (i:=5) hX;have e6:=Ac (i:=6) hX;have e7:=Ac (i:=7) hX;simp only[List.getElem?_toArray,List.getElem?_cons_zero,List.getElem?_cons_succ]at e0 e1 e2 e3 e4 e5 e6 e7;clear hO3 hg3 hX c0 c1 c2 c3 c4 c5 c6 c7 d0 g0 d0' HO;go_wp2_with fail
    refine(Aa HF w3 ⟨_,_,Aa HA3⟩).mono ?_;rintro e w4 ⟨rfl,hU⟩
    have HA4:Hid (AS w w.heap.size w.heap.size (Bh (l.take (k+1))) v' (Sk 0 (l.take (k+1))) w4):=Ab (by
     rw[Aa HTK,Zca,Z4t,Nat.zero_add,Aa HLE];exact(Aa HA3).up hU)
    clear hU e0 e1 e2 e3 e4 e5 e6 e7;go_wp2;go_roundw
    case rel=>exact⟨k+1,by omega,by go_num,HA4⟩
    case measure=>simp[intOf];omega
  . obtain rfl:n=k:=by omega
    have hta:l.take n=l:=List.take_of_length_le (by rw[Aa HLL];exact Nat.le_refl _);rw[hta]at HA;have HTA:=Ab hta;clear hta;obtain⟨ov,hC⟩:=(Aa HA).z;obtain⟨d0,g0⟩:=hC.new;obtain⟨oa,oc,rfl⟩:=Ao hC.own;have hlb:=Aa HBN n;rw[Aa HTA]at hlb;obtain⟨L,hL⟩:∃L,(Bh l).length=L:=⟨_,rfl⟩
    rw[hL]at d0 hlb;have HLE:=Ab hL;clear hC hL;go_wp2;go_loopw [8,9,37] (fun _ _ i wr=>∃k:Nat,k<=n/\i=.int .i64 (k:Int)/\Hid (AS w w.heap.size w.heap.size (Bh l++Bj 0 (l.take k)) u4 (Sk 0 l) wr)) (fun _ _ i _=>n-(intOf i).toNat)
    case atStart=>exact⟨0,Nat.zero_le _,rfl,Ab (by simpa[Bj]using Aa HA)⟩
    case round=>
     clear d0 g0 HA hlt;obtain⟨k,hk,rfl,HA⟩:=hrel
     by_cases hlt:k<n
     . obtain⟨x,hx,hxm⟩:∃x,es[k]? =some x/\x∈es:=⟨es[k]'(by rw[Aa HL];exact hlt),List.getElem?_eq_getElem _,List.getElem_mem _⟩
       obtain⟨b,o,rfl,hb,c0,c1,c2,c3,c4,c5,c6,c7⟩:=(Aa HI).get (Aa HA).below hx;have hgl:=Aa HGG k x hx;have HIN:=Ab ((Aa HI).all x hxm);have hnum:=Aa HEE x hxm;obtain⟨P,hP⟩:∃P,(Bh (l.take k)).length=P:=⟨_,rfl⟩
       have hPb:=Aa HBN k;rw[hP]at hPb;have HPE:=Ab hP;have HF:=Ab (fun(W:World) (hA:AS w w.heap.size w.heap.size (Bh l++Bj 0 (l.take k)) u4 (Sk 0 l) W)=>Ze6 w.heap.size w.heap.size P x (Bh l++Bj 0 (l.take k)) W hA.z hnum (by omega) (by rw[List.length_append];have h1:=Aa HBN n;have h2:=Aa HBN2 k;rw[List.take_of_length_le (by rw[Aa HLL];exact Nat.le_refl _)]at h1;omega));unfold Ev.val at HF;have HTK:=Ab (Ks hgl);obtain⟨x,fa,fc,pa,pc⟩:=x;obtain⟨⟨nml,bys,st,nd,gn⟩,mt,pk,cr⟩:=x;dsimp only at c0 c1 c2 c3 c4 c5 c6 c7 HF;generalize B nml=nm at c0 HF;generalize bys.length=bl at c1 HF;generalize pk.length=pl at c6 HF;clear hx hxm hgl hnum;have hplen:(Sk 0 l).length=n:=by rw[Z2n,Aa HLL]
       have hown:=(Aa HA).p;rw[hplen]at hown;obtain⟨pg,pcap,hu4,hpg1,hpg2⟩:=Bt hown (by omega);subst hu4
       have hpk:wr.cell? ⟨pg,k,none⟩=some (.int .i64 (P:Int)):=by
        rw[hown.cellAt k (by omega),<-Aa HPE];have:=Zhm l 0 k (by rw[Aa HLL];exact hlt)
        rw[Nat.zero_add]at this;have hk2:k<(Sk 0 l).length:=by omega
        simp[List.getD,hk2]at this
        simp[i64s,hk2,this]
       have hpk':∀o1:Obj,(wr.alloc o1).cell? ⟨pg,k,none⟩=some (.int .i64 (P:Int)):=fun o1=>(World.cell?_alloc_lt wr o1 _ hpg2).trans hpk
       have HA1:=Ab (fun o1:Obj=>(Aa HA).later ((Below.refl _ _).alloc (Nat.le_refl _) o1));clear hown hplen hpg1;go_wp2;go_region_with (go_at_call 39;refine(Aa HF _ ((Aa HA1 _).later (Af (Below.refl _ _) _))).mono ?_;rintro e w4 ⟨rfl,hU⟩)
       all_goals
        have HA4:Hid (AS w w.heap.size w.heap.size (Bh l++Bj 0 (l.take (k+1))) (.slice (some ⟨pg,0,none⟩) n pcap) (Sk 0 l) w4):=Ab (by
         rw[Aa HTK,Z6n,Aa HPE,<-List.append_assoc];exact((Aa HA1 _).later (Af (Below.refl _ _) _)).up hU)
        clear hU c0 c1 c2 c3 c4 c5 c6 c7 hpk hpk';go_wp2;go_roundw
        case rel=>exact⟨k+1,by omega,by go_num,HA4⟩
        case measure=>simp[intOf];omega
     . obtain rfl:n=k:=by omega
       rw[Aa HTA]at HA;have hb2:=Aa HBN2 n;rw[Aa HTA]at hb2;obtain⟨ov,hC⟩:=(Aa HA).z;obtain⟨d0,g0⟩:=hC.new;obtain⟨oa2,oc2,rfl⟩:=Ao hC.own;obtain⟨T,hT⟩:∃T,(Bj 0 l).length=T:=⟨_,rfl⟩
       have hLT:(Bh l++Bj 0 l).length=L+T:=by rw[List.length_append,Aa HLE,hT]
       rw[hLT]at d0;rw[hT]at hb2;have HTE:=Ab hT;have hsub:((L:Int)+(T:Int)-(L:Int))=(T:Int):=by omega
       have HEND:Hid (Calls Tryz.prog 40 #[.pointer (some ⟨w.heap.size,0,none⟩),.int .i64 (n:Int),.int .i64 ((L:Int)+(T:Int)-(L:Int)),.int .i64 (L:Int)] wr fun e w'=>e=.returned (.tuple #[])/\ZUp w.heap.size wr w.heap.size (Bh l++Bj 0 l++Z8w n T L) w'):=Ab (by
        rw[hsub];exact Ze9 w.heap.size w.heap.size n T L (Bh l++Bj 0 l) wr (Aa HA).z (by omega) (by omega) (by omega) (by rw[hLT];omega))
       clear hC hT hLT hsub;go_wp2_with fail
       refine(Aa HEND).mono ?_;rintro e w5 ⟨rfl,hU⟩;have hA5:=(Aa HA).up hU;obtain⟨ov,hC⟩:=hA5.z;have har:Ca l=Bh l++Bj 0 l++Z8w n T L:=by unfold Ca;rw[Aa HLL,Aa HTE,Aa HLE]
       have HAR:=Ab har;clear d0 g0 hU har;obtain⟨d0,g0⟩:=hC.new;have HFIN:=Ab (And.intro hC.own hA5.below);clear hC hA5;go_wp2;go_ret;exact⟨_,rfl,by rw[Aa HAR];exact(Aa HFIN).1,(Aa HFIN).2⟩
theorem FsIn.new (w:World)(xs:List Fv)(t:TypeId)(A:Array Value)(n:Nat)(hA:A=(fcells xs).toArray)(hn:xs.length=n)(h:∀x∈xs,FvIn w x)(hl:xs.length<=2199023255552):FsIn (w.alloc (.cells A t)) (some ⟨w.heap.size,0,none⟩) n xs:=by
 subst hn;refine⟨.inr ⟨w.heap.size,0,rfl,by simp, ?_⟩,Nat.le_refl _,by omega,hl,fun x hx=>(h x hx).alloc _⟩;intro j x hj
 have hc:∀i u,i<5->x.cells[i]? =some u->(w.alloc (.cells A t)).cell? ⟨w.heap.size,0+j*5+i,none⟩=some u:=by
  intro i u hi hu;rw[World.cell?_alloc_at _ _ _ _ rfl,hA];have e:=Lx xs j x i hj hi;rw[Nat.zero_add];simpa using e.trans hu
 exact⟨hc 0 _ (by decide) rfl,hc 1 _ (by decide) rfl,hc 2 _ (by decide) rfl,hc 3 _ (by decide) rfl,hc 4 _ (by decide) rfl⟩
theorem FvIn.bare (w:World)(f:Fl)(hb:f.bytes= [])(hn:f.name.length<=140737488355328):FvIn w ⟨f,none,0⟩:=⟨.inl ⟨rfl,hb,rfl⟩,by rw[hb];simp,hn⟩
def LIn (w:World)(v:Value)(l:List Fl):Prop:=∃ad c out,v=.slice ad l.length c/\FsIn w ad c out/\fls out=l
theorem Ans.lin {w w':World}{v:Value}{l:List Fl}(h:Ans w w' v l):LIn w' v l:=h.ex
theorem LIn.below {w w':World}{v:Value}{l:List Fl}(h:LIn w v l)(hB:Below w.heap.size w w'):LIn w' v l:=by
 obtain⟨ad,c,out,h1,h2,h3⟩:=h;exact⟨ad,c,out,h1,h2.below hB (Nat.le_refl _),h3⟩
theorem LIn.shape {w:World}{v:Value}{l:List Fl}(h:LIn w v l):∃ad c,v=.slice ad l.length c:=by
 obtain⟨ad,c,out,h1,_⟩:=h;exact⟨ad,c,h1⟩
theorem Qy {out:List Fv}{l:List Fl}(h:fls out=l):out.length=l.length:=by rw[<-h];simp[fls]
theorem Zm6 {w:World}{ad:Option Addr}{c n:Nat}{xs:List Fv}(h:FsIn w ad c xs)(hn:xs.length=n):LIn w (.slice ad n c) (fls xs):=⟨ad,c,xs,by rw[<-hn];simp[fls],h,rfl⟩
theorem Z3r (v1 v2:Value)(s1 s2:ByteArray)(w:World)(h1:(convert 22 9 v1).run Tryz.prog w=.ok (.string s1) w)(h2:(convert 22 9 v2).run Tryz.prog w=.ok (.string s2) w):
 Calls Tryz.prog 16 #[v1,v2] w fun e w'=>e=.returned (.bool (s1.toList==s2.toList))/\w'=w:=by
 go_enter Tryz.func16,Tryz.ntmps16
 go_wp2;go_ret;exact⟨rfl,rfl⟩
def Zl5 (xs:List Nat):ByteArray:=⟨(xs.map UInt8.ofNat).toArray⟩
theorem Pv (xs:List Nat):(Zl5 xs).toList=xs.map UInt8.ofNat:=by
 rw[Lib.toList_data];rfl
theorem Zd9 (a:Option Addr)(len cap:Nat)(xs:List Nat)(w:World)(hl:xs.length=len)(hB:BytesIn w a xs):
 (convert 22 9 (.slice a len cap)).run Tryz.prog w=.ok (.string (Zl5 xs)) w:=by
 rcases hB with rfl|⟨b,o,rfl,_,hB⟩
 . obtain rfl:len=0:=by simp at hl;omega
   rw[run_convert_bytes_string w 22 9 5 _ 0 cap Tryz.underlying22 Tryz.underlying5 Tryz.underlying9]
   cases a<;>simp[Conv.bytesToString,loadCells,Zl5]
   all_goals rfl
 . have h:=run_convert_bytes_arg (P:=Tryz.prog) w 22 5 Tryz.underlying22 Tryz.underlying5 b o len cap (xs.map fun x:Nat=>(x:Int)) (by simpa using hl) (by
    intro i hi;rw[hB i (by omega)];have:i<xs.length:=by omega
    simp[List.getD,this]) 9 Tryz.underlying9
   rw[h];simp[strOfNums,Zl5,Function.comp_def]
theorem Zb7 {xs ys:List Nat}(hx:∀j,xs.getD j 0<256)(hy:∀j,ys.getD j 0<256)(h:xs.map UInt8.ofNat=ys.map UInt8.ofNat):xs=ys:=by
 have hl:xs.length=ys.length:=by have:=congrArg List.length h;simpa using this
 apply List.ext_getElem hl
 intro j h1 h2;have e:=congrArg (fun l:List UInt8=>l[j]?) h;simp[h1,h2]at e
 have a1:=hx j;have a2:=hy j;simp[List.getD,h1]at a1
 simp[List.getD,h2]at a2
 have e2:=congrArg UInt8.toNat e;simp only[UInt8.toNat_ofNat']at e2;omega
theorem Z1h (a1 a2:Option Addr)(l1 c1 l2 c2:Nat)(xs ys:List Nat)(w:World)(h1:xs.length=l1)(h2:ys.length=l2)(hx:∀j,xs.getD j 0<256)(hy:∀j,ys.getD j 0<256)(hB1:BytesIn w a1 xs)(hB2:BytesIn w a2 ys):
 Calls Tryz.prog 16 #[.slice a1 l1 c1,.slice a2 l2 c2] w fun e w'=>e=.returned (.bool (xs==ys))/\w'=w:=by
 refine(Z3r _ _ (Zl5 xs) (Zl5 ys) w (Zd9 a1 l1 c1 xs w h1 hB1) (Zd9 a2 l2 c2 ys w h2 hB2)).mono ?_;rintro e w' ⟨rfl,rfl⟩;refine⟨Hi ?_,rfl⟩;rw[Pv,Pv,Bool.eq_iff_iff,beq_iff_eq,beq_iff_eq];exact⟨Zb7 hx hy,fun h=>by rw[h]⟩
theorem Z5v:∀ {l:List Fl} {p:Option Fl},Z3c p l=0->∀f∈l,Ju f=0
 | [],p,h,f,hf=>by cases hf
 |g::r,p,h,f,hf=>by
  unfold Z3c at h
  by_cases e:Ju g=0
  . rw[if_neg (by rw[e];decide)]at h
    split at h
    . cases h
    . rcases List.mem_cons.1 hf with rfl|hf
      . exact e
      . exact Z5v h f hf
  . rw[if_pos e]at h;exact absurd h e
theorem Hs {l:List Fl}(h:Ej l=0):l.length<=12/\∀f∈l,Ju f=0:=by
 unfold Ej at h
 split at h
 . cases h
 . exact⟨by omega,Z5v h⟩
theorem Ma {f:Fl}(h:Ju f=0):f.name.length<=40/\f.bytes.length<=3000/\0<=f.stamp/\f.stamp<=1000000/\0<=f.node/\f.node<=3:=by
 unfold Ju at h
 split at h
 . rename_i h1;exact absurd h h1
 . rename_i h1
   have h1':Nr f.name=0:=by
    by_cases e:Nr f.name=0
    . exact e
    . exact absurd e h1
   split at h
   . cases h
   . split at h
     . cases h
     . have:=(Zkg h1').1
       omega
structure ENd (n:Nat)(x:En):Prop where
 mt:x.meth<65536
 cr:x.crc<4294967296
 pl:x.pk.length<=n
 st:0<=x.f.stamp/\x.f.stamp<4294967296
 nd:0<=x.f.node/\x.f.node<65536
 nm:x.f.name.length<=n/\x.f.name.length<65536
 un:∃ys,unpF x.meth x.pk=some ys/\x.f.bytes=o8 ys
theorem ENd.mono {n m:Nat}{x:En}(h:ENd n x)(hm:n<=m):ENd m x:=⟨h.mt,h.cr,Nat.le_trans h.pl hm,h.st,h.nd,⟨Nat.le_trans h.nm.1 hm,h.nm.2⟩,h.un⟩
theorem Zz {l:List Nat}{k:Nat}(hl:l.length=k)(hv:∀x∈l,x<256):Ai l<256^k:=by rw[<-hl];exact Lf l hv
theorem Zgu {r q:List Nat}{x:En}(hv:∀y∈r,y<256)(h:Fp r=some (x,q)):ENd r.length x:=by
 unfold Fp at h;obtain⟨a1,r1,rfl,l1,h⟩:=Al h;dsimp only at h;obtain⟨a2,r2,rfl,l2,h⟩:=Al h;dsimp only at h;obtain⟨a3,r3,rfl,l3,h⟩:=Al h;dsimp only at h;obtain⟨a4,r4,rfl,l4,h⟩:=Al h;dsimp only at h;obtain⟨a5,r5,rfl,l5,h⟩:=Al h;dsimp only at h;obtain⟨a6,r6,rfl,l6,h⟩:=Al h;dsimp only at h;obtain⟨a7,r7,rfl,l7,h⟩:=Al h;dsimp only at h;obtain⟨a8,r8,rfl,l8,h⟩:=Al h;dsimp only at h;obtain⟨a9,r9,rfl,l9,h⟩:=Al h;dsimp only at h;obtain⟨a10,r10,rfl,l10,h⟩:=Al h;dsimp only at h;obtain⟨a11,r11,rfl,l11,h⟩:=Al h;dsimp only at h;obtain⟨a12,r12,rfl,l12,h⟩:=Al h;dsimp only at h;obtain⟨a13,r13,rfl,l13,h⟩:=Al h;dsimp only at h;obtain⟨a14,r14,rfl,l14,h⟩:=Al h;dsimp only at h
 cases hu:unpF (Ai a2) a14 with
 |none=>rw[hu]at h;cases h
 |some b=>
  rw[hu]at h;simp only[Option.bind_some,Option.some.injEq,Prod.mk.injEq]at h;obtain⟨rfl,rfl⟩:=h;have v2:=Zz l2 (fun z hz=>hv z (by simp[hz]));have v4:=Zz l4 (fun z hz=>hv z (by simp[hz]));have v7:=Zz l7 (fun z hz=>hv z (by simp[hz]));have v11:=Zz l11 (fun z hz=>hv z (by simp[hz]));have v12:=Zz l12 (fun z hz=>hv z (by simp[hz]));simp only[Nat.reducePow]at v2 v4 v7 v11 v12;refine⟨v2,v4,by simp only[List.length_append];omega,⟨by dsimp only;omega,by dsimp only;omega⟩,⟨by dsimp only;omega,by dsimp only;omega⟩,⟨by dsimp only;rw[Lg];simp only[List.length_append];omega,by dsimp only;rw[Lg];omega⟩,b,hu,rfl⟩
theorem Z0y:∀ {F:Nat} {r:List Nat} {l:List En},(∀y∈r,y<256)->Ce F r=some l->l.length*41<=r.length/\∀x∈l,ENd r.length x
 |0,r,l,_,h=>by cases h
 |F+1,r,l,hv,h=>by
  unfold Ce at h;obtain⟨m,q,rfl,hl,h⟩:=Al h;dsimp only at h
  split at h
  . cases he:Fp q with
    |none=>rw[he]at h;cases h
    |some p=>
     rw[he]at h;simp only[Option.bind_some,Option.map_eq_some_iff]at h;obtain⟨l2,h1,rfl⟩:=h;have hm:=Rl (x:=p.1) (q:=p.2) he;have hvq:∀y∈q,y<256:=fun y hy=>hv y (by simp[hy])
     have ih:=Z0y (hm.2.1 hvq).2 h1;have h3:=hm.1;refine⟨by rw[List.length_cons,List.length_append];omega,fun x hx=> ?_⟩
     rcases List.mem_cons.1 hx with rfl|hx
     . exact(Zgu hvq he).mono (by rw[List.length_append];omega)
     . exact(ih.2 x hx).mono (by rw[List.length_append];omega)
  . cases h
    exact⟨Nat.zero_le _,fun x hx=>by cases hx⟩
def RdA (w:World)(bs:List Nat)(e:Ending)(w':World):Prop:=∃v,e=.returned (.tuple #[v,.int .i64 (Fc bs:Nat)])/\LIn w' v (Dp bs)/\Below w.heap.size w w'
theorem LIn.nil (w:World):LIn w (.slice none 0 0) []:=⟨none,0,[],rfl,FsIn.nil w,rfl⟩
theorem RdA.bad {w w':World}{bs:List Nat}{k:Nat}(h:Fc bs=k)(hk:k≠0)(hB:Below w.heap.size w w'):RdA w bs (.returned (.tuple #[.slice none 0 0,.int .i64 (k:Int)])) w':=by
 have hl:Dp bs= []:=by unfold Dp;rw[if_pos (by rw[h];exact hk)]
 exact⟨.slice none 0 0,by rw[h],by rw[hl];exact LIn.nil _,hB⟩
theorem Zhz (es:List Ev):fls (es.map Ev.fv)=(es.map Ev.e).map En.f:=by simp[fls,Ev.fv,Function.comp_def]
theorem Z8x (n cap:Nat)(a:Option Addr)(bs:List Nat)(w:World)(hl:bs.length=n)(hc:n<=cap)(hP:PkIn w a cap bs)(hv:∀x∈bs,x<256)(hm:n<=9223372036854775807):
 Calls Tryz.prog 34 #[.slice a n cap] w fun e w'=>RdA w bs e w':=by
 by_cases hn:12000<n
 . have HF:=Ab (RdA.bad (w:=w) (w':=w) (bs:=bs) (k:=2) (by unfold Fc;rw[if_pos (by omega)]) (by decide) (Below.refl _ _));have hnI:(12000:Int)<(n:Int):=by omega
   clear hP hv hl;go_enter Tryz.func34,Tryz.ntmps34
   go_wp2;go_ret2;exact Aa HF
 . have hre:Fc bs=match Ce (n+1) bs with
    |none=>7
    |some l=>if Ej (l.map En.f)≠0\/Ca l≠bs then 7 else if Mq l=false then 10 else 0:=by
    conv=>lhs;unfold Fc
    rw[if_neg (by omega),hl]
    cases Ce (n+1) bs<;>rfl
   have hrl:Dp bs=if Fc bs≠0 then []else ((Ce (n+1) bs).getD []).map En.f:=by unfold Dp;rw[hl]
   have hnI:¬(12000:Int)<(n:Int):=by omega
   have HC:=Ab (Wv n cap a bs w hl (by omega) hc hP hv);have HP:=Ab hP;have HV:=Ab hv;have HRE:=Ab hre;have HRL:=Ab hrl;have HL:=Ab hl;clear hP hv hre hrl hl;go_enter Tryz.func34,Tryz.ntmps34
   go_wp2_with fail
   refine(Aa HC).mono ?_;rintro e w1 ⟨hB1,(⟨he,rfl⟩|⟨v,es,he,rfl,hrow,_⟩)⟩
   . have HF:=Ab (RdA.bad (w:=w) (w':=w1) (bs:=bs) (k:=7) (by rw[Aa HRE,he]) (by decide) hB1);clear hB1 he;go_wp2;go_ret2;exact Aa HF
   . obtain⟨ad,c,rfl,hes⟩:=hrow.entries;obtain⟨hel,hnum⟩:=Z0y (Aa HV) he;have hpv:=Z0x he (Aa HV);have hre:=Aa HRE;rw[he]at hre;dsimp only at hre;have hrl:=Aa HRL;rw[he]at hrl;obtain⟨l,hll⟩:∃l,es.map Ev.e=l:=⟨_,rfl⟩
     obtain⟨k,hk⟩:∃k,es.length=k:=⟨_,rfl⟩
     have hlk:l.length=k:=by rw[<-hll];simpa using hk
     rw[hll]at hnum hre hrl he hel hpv;have HPV:=Ab hpv;rw[hk];have hk20:k<=20000:=by have:=Aa HL;omega
     have HCF:=Ab (Z3b ad c k es w1 hes hk hk20);have HES:=Ab hes;have HLL:=Ab hll;have HK:=Ab hk;have HNUM:=Ab hnum;have HRE2:=Ab hre;have HRL2:=Ab hrl;have HB1:=Ab hB1;clear hB1 hrow hes hel hnum hre hrl he hll hk hlk hpv HC HRE HRL;go_wp2_with fail
     refine(Aa HCF).mono ?_;rintro e w2 ⟨v2,rfl,hG,hB2⟩;obtain⟨ad2,c2,rfl,hfs⟩:=hG.files (by rw[Aa HK];omega);rw[Aa HK];have HCC:=Ab (Ht ad2 c2 (es.map Ev.fv) w2 hfs k (by simpa using Aa HK));obtain⟨E,hE⟩:∃E,Ej (fls (es.map Ev.fv))=E:=⟨_,rfl⟩
     rw[hE]at HCC;rw[Zhz,Aa HLL]at hE;have HEE:=Ab hE;have HFS:=Ab hfs;have hz1:=(Aa HB1).size;have HB2:=Ab ((Aa HB1).trans (hB2.mono hz1));have HB12:=Ab hB2;clear hG hfs hB2 hE HCF;go_wp2_with fail
     refine(Aa HCC).mono ?_;rintro e w3 ⟨rfl,hB3⟩;have hz2:=(Aa HB2).size;have HB3:=Ab ((Aa HB2).trans (hB3.mono hz2));have HB13:=Ab ((Aa HB12).trans (hB3.mono (Aa HB12).size));have HB23:=Ab hB3;clear hB3 HCC
     by_cases hE0:E=0
     . subst hE0;have hok:=Hs (Aa HEE)
       have hENum:∀x∈es,ENum x.e:=fun x hx=>by
        have hxl:x.e∈l:=by rw[<-Aa HLL];exact List.mem_map_of_mem hx
        have h1:=Aa HNUM x.e hxl;have h2:=Ma (hok.2 x.e.f (List.mem_map_of_mem hxl));have h3:=Aa HL;have h4:=h1.pl;exact⟨⟨by omega,by omega⟩,⟨by omega,by omega⟩,by omega,by omega,by omega,h1.cr,h1.mt⟩
       have hk12:k<=12:=by
        have:=hok.1
        rw[<-Aa HLL]at this;simpa[Aa HK]using this
       have HCA:=Ab (Rx ad c k es w3 ((Aa HES).below (Aa HB13)) (Aa HK) hk12 hENum);rw[Aa HLL]at HCA;have HBY:Hid (∀x∈es,x.e.f.bytes.length<=12000):=Ab (fun x hx=>by have:=(hENum x hx).bl;omega);have HVL:Hid (∀y∈Ca l,y<256):=Ab (Xk l (Aa HPV));clear hok hENum;go_wp2_with fail
       refine(Aa HCA).mono ?_;rintro e w4 ⟨v4,rfl,ho,hB4⟩;obtain⟨a4,c4,rfl,q1,q2,q3,q4⟩:=Zn ho;have HPK:=Ab (((Aa HP).below (Aa HB3)).below hB4);have hz3:=(Aa HB3).size;have HB4:=Ab ((Aa HB3).trans (hB4.mono hz3));have HB14:=Ab ((Aa HB13).trans (hB4.mono (Aa HB13).size));have HB24:=Ab ((Aa HB23).trans (hB4.mono (Aa HB23).size));have HEQ:=Ab (Z1h a4 a _ c4 n cap (Ca l) bs w4 rfl (Aa HL) (Dk (Aa HVL)) (Dk (Aa HV)) q1.1 (Aa HPK).1);obtain⟨AL,hAL⟩:∃AL,(Ca l).length=AL:=⟨_,rfl⟩
       obtain⟨bq,hbq⟩:∃bq,(Ca l==bs)=bq:=⟨_,rfl⟩
       rw[hAL,hbq]at HEQ;rw[hAL];have HBQ:=Ab hbq;clear ho hB4 q1 q2 q3 q4 hAL hbq HCA HPK;go_wp2_with fail
       refine(Aa HEQ).mono ?_;rintro e w5 ⟨rfl,rfl⟩
       cases bq with
       |false=>
        have hne:Ca l≠bs:=by
         have:=Aa HBQ
         rw[beq_eq_false_iff_ne]at this;exact this
        have HF:=Ab (RdA.bad (w:=w) (w':=w5) (bs:=bs) (k:=7) (by rw[Aa HRE2,if_pos (.inr hne)]) (by decide) (Aa HB4));clear hne HEQ;go_wp2;go_ret2;exact Aa HF
       |true=>
        have heq:Ca l=bs:=eq_of_beq (Aa HBQ);have hre2:=Aa HRE2;rw[if_neg (by rintro (h|h);exact h (Aa HEE);exact h heq)]at hre2;have HRE3:=Ab hre2;obtain⟨S,hS⟩:∃S,Mq l=S:=⟨_,rfl⟩
        have HCS:=Ab (Yq ad c k es w5 ((Aa HES).below (Aa HB14)) (Aa HK) hk20 (Aa HBY) S (by rw[Aa HLL];exact hS));have HSS:=Ab hS;clear heq hre2 hS HEQ;go_wp2_with fail
        refine(Aa HCS).mono ?_;rintro e w6 ⟨rfl,hB6⟩;have hz5:=(Aa HB4).size;have HB6:=Ab ((Aa HB4).trans (hB6.mono hz5))
        cases S with
        |false=>
         have HF:=Ab (RdA.bad (w:=w) (w':=w6) (bs:=bs) (k:=10) (by rw[Aa HRE3,if_pos (Aa HSS)]) (by decide) (Aa HB6));clear hB6 HCS;go_wp2;go_ret2;exact Aa HF
        |true=>
         have h0:Fc bs=0:=by rw[Aa HRE3,if_neg (by rw[Aa HSS];decide)]
         have hl0:Dp bs=l.map En.f:=by
          have:=Aa HRL2
          rw[if_neg (by rw[h0];decide)]at this;exact this
         have hfs6:FsIn w6 ad2 c2 (es.map Ev.fv):=((Aa HFS).below (Aa HB24) (Nat.le_refl _)).below (hB6.mono (by omega)) (Nat.le_refl _);have HF:Hid (RdA w bs (.returned (.tuple #[.slice ad2 k c2,.int .i64 0])) w6):=Ab ⟨.slice ad2 k c2,by rw[h0];rfl,⟨ad2,c2,es.map Ev.fv,by rw[hl0,<-Aa HLL];simp[Aa HK],hfs6,by rw[Zhz,Aa HLL,hl0]⟩,Aa HB6⟩;clear hB6 HCS h0 hl0 hfs6;go_wp2;go_ret2;exact Aa HF
     . have HF:=Ab (RdA.bad (w:=w) (w':=w3) (bs:=bs) (k:=7) (by rw[Aa HRE2,if_pos (.inl (by rw[Aa HEE];exact hE0))]) (by decide) (Aa HB3));have hEb:((E:Int)==0)=false:=by rw[beq_eq_false_iff_ne];omega
       have hEc:((E:Int)!=0)=true:=by rw[bne,hEb];rfl
       clear hE0;go_wp2;go_ret2;exact Aa HF
theorem Zi6 {w:World}{v u:Value}{a b:List Fl}(h:LIn w v a)(k:LIn w u b):
 Calls Tryz.prog 18 #[v,u] w fun e w'=>∃x,e=.returned (.tuple #[x,.int .i64 (Cw a b:Nat)])/\LIn w' x (Gw a b)/\Below w.heap.size w w':=by
 obtain⟨ad,c,out,rfl,h2,h3⟩:=h;obtain⟨bd,d,out',rfl,k2,k3⟩:=k;refine(Zh2 ad bd c d out out' w h2 k2 _ _ (Qy h3) (Qy k3)).mono ?_;rintro e w' ⟨x,rfl,ha⟩;rw[h3,k3]at ha ⊢;exact⟨x,rfl,ha.lin,ha.bel⟩
end Go.Proofs.YtcjbgpacnkilnagGreatDoor
namespace Go.Proofs.YtcjbgpacnkilnagGreatDoor
open Go.RowKit
set_option linter.unusedVariables false
set_option linter.unusedSimpArgs false
set_option maxRecDepth 100000
def WaA (w:World)(fs:List Fl)(ar:List Nat)(e:Ending)(w':World):Prop:=
 Below w.heap.size w w'/\((Fc ar=0/\Cw fs (Dp ar)=0/\∃v,e=.returned (.tuple #[v,.bool true])/\LIn w' v (Gw fs (Dp ar)))\/ (¬(Fc ar=0/\Cw fs (Dp ar)=0)/\∃v,e=.returned (.tuple #[v,.bool false])))
theorem Pj (v:Value)(fs:List Fl)(x:Option Addr)(m z:Nat)(ar:List Nat)(w:World)(hf:LIn w v fs)(hl:ar.length=m)(hc:m<=z)(hP:PkIn w x z ar)(hv:∀y∈ar,y<256)(hm:m<=12000):
 Calls Tryz.prog 24 #[v,.slice x m z] w fun e w'=>WaA w fs ar e w':=by
 have HRD:=Ab (Z8x m z x ar w hl hc hP hv (by omega));unfold RdA at HRD;obtain⟨E,hE⟩:∃E,Fc ar=E:=⟨_,rfl⟩
 obtain⟨gs,hgs⟩:∃gs,Dp ar=gs:=⟨_,rfl⟩
 rw[hE,hgs]at HRD;have HLF:=Ab hf;have HE:=Ab hE;have HG:=Ab hgs;clear hE hgs hf hP hv hl;go_enter Tryz.func24,Tryz.ntmps24
 go_wp2_with fail
 refine(Aa HRD).mono ?_;rintro e w1 ⟨v1,rfl,hL1,hB1⟩
 by_cases hE0:E=0
 . subst hE0;have HBO:=Ab (Zi6 ((Aa HLF).below hB1) hL1);have HB1:=Ab hB1;clear hL1 hB1 HRD;go_wp2_with fail
   refine(Aa HBO).mono ?_;rintro e w2 ⟨v2,rfl,hl2,hb2⟩;have HB2:=Ab ((Aa HB1).trans (hb2.mono (Aa HB1).size));have HL2:=Ab hl2;obtain⟨F,hF⟩:∃F,Cw fs gs=F:=⟨_,rfl⟩
   rw[hF];have HFF:=Ab hF;clear hl2 hb2 HBO hF
   by_cases hF0:F=0
   . subst hF0;have HF:Hid (WaA w fs ar (.returned (.tuple #[v2,.bool true])) w2):=Ab ⟨Aa HB2,.inl ⟨Aa HE,by rw[Aa HG];exact Aa HFF,_,rfl,by rw[Aa HG];exact Aa HL2⟩⟩;go_wp2;go_ret2;exact Aa HF
   . have hFb:((F:Int)==0)=false:=by rw[beq_eq_false_iff_ne];omega
     have HF:Hid (WaA w fs ar (.returned (.tuple #[v2,.bool false])) w2):=Ab ⟨Aa HB2,.inr ⟨fun h=>hF0 (by rw[<-Aa HFF,<-Aa HG];exact h.2),_,rfl⟩⟩;clear hF0;go_wp2;go_ret2;exact Aa HF
 . have hEb:((E:Int)==0)=false:=by rw[beq_eq_false_iff_ne];omega
   have hEc:((E:Int)!=0)=true:=by rw[bne,hEb];rfl
   have HF:Hid (WaA w fs ar (.returned (.tuple #[.slice none 0 0,.bool false])) w1):=Ab ⟨hB1,.inr ⟨fun h=>hE0 (by rw[<-Aa HE];exact h.1),_,rfl⟩⟩;clear hE0 hL1 hB1;go_wp2;go_ret2;exact Aa HF
def ToA (w:World)(bs:List Nat)(e:Ending)(w':World):Prop:=∃v fs m,e=.returned (.tuple #[v,.int .i64 ((m:Nat):Int)])/\LIn w' v fs/\Recs [] bs fs m/\Below w.heap.size w w'
theorem Hg (a:Option Addr)(n cap:Nat)(bs:List Nat)(w:World)(hl:bs.length=n)(hc:n<=cap)(hP:PkIn w a cap bs)(hv:∀x∈bs,x<256)(hm:n<=140737488355328):
 Calls Tryz.prog 12 #[.slice a n cap] w fun e w'=>ToA w bs e w':=by
 have HP:=Ab hP;have HV:=Ab hv;have HL:=Ab hl;clear hP hv hl;go_enter Tryz.func12,Tryz.ntmps12
 go_wp2;go_loopw [2,3] (fun v2 v3 wr=>∃(fs:List Fl) (q:Nat),v3=.int .i64 (q:Int)/\q<=n/\Hid (LIn wr v2 fs/\Below w.heap.size w wr/\∀f m,Recs fs (bs.drop q) f m->Recs [] bs f (q+m))) (fun _ v3 _=>n-(intOf v3).toNat)
 case atStart=>exact⟨[],0,rfl,Nat.zero_le _,Ab ⟨LIn.nil _,Below.refl _ _,fun f m h=>by rw[Nat.zero_add];exact h⟩⟩
 case round=>
  obtain⟨fs,q,rfl,hq,hst⟩:=hrel;obtain⟨hLr,hBr,hRr⟩:=Aa hst;obtain⟨a',hsl,ha1,ha2⟩:=Z2d a q n cap hq hc (Aa HP).2;have hPr:=(Aa HP).below hBr;have hdl:(bs.drop q).length=n-q:=by rw[List.length_drop,Aa HL]
  have hdp:∀W,PkIn W a cap bs->PkIn W a' (cap-q) (bs.drop q):=fun W hW=>Zat hW (Aa HL) ha1 ha2
  have hdv:=Zd0 (Aa HV) q;have HFA:=Ab (Oe a' (n-q) (cap-q) (bs.drop q) wr hdl (by omega) (hdp wr hPr) hdv (by omega));unfold FaA at HFA
  have HWA:Hid (∀(W:World) (ar:List Nat) (x:Option Addr) (z:Nat),Below wr.heap.size wr W->Tq (bs.drop q)=some ar->ar.length<=z->PkIn W x z ar->Calls Tryz.prog 24 #[u2,.slice x ar.length z] W fun e w'=>WaA W fs ar e w'):=Ab (fun W ar x z hW hr hz hp=>by
   obtain⟨_,r2,_,r4,_⟩:=La hr;refine Pj u2 fs x ar.length z ar W (hLr.below hW) rfl hz hp (fun y hy=> ?_) r2;rw[r4]at hy;exact hdv y (List.mem_of_mem_drop (List.mem_of_mem_take hy)))
  obtain⟨d,hd⟩:∃d,n-q=d:=⟨_,rfl⟩
  obtain⟨k,hk⟩:∃k,cap-q=k:=⟨_,rfl⟩
  rw[hd,hk]at hsl HFA;have HPR:=Ab (fun W (hW:Below wr.heap.size wr W)=>hdp W (hPr.below hW));rw[hk]at HPR;have HLr:=Ab hLr;have HBr:=Ab hBr;have HRr:=Ab hRr;have HD:=Ab hd;clear hLr hBr hRr hst ha1 ha2 hPr hdl hdp hdv hd hk;go_wp2_with fail
  refine(Aa HFA).mono ?_;rintro e w1 ⟨hB1,(⟨hr,x,y,z,rfl⟩|⟨ar,x,z,hr,rfl,hz,hpk⟩)⟩
  . have HF:Hid (ToA w bs (.returned (.tuple #[u2,.int .i64 (q:Int)])) w1):=Ab ⟨u2,fs,q,rfl,(Aa HLr).below hB1,by
     have h1:Recs fs (bs.drop q) fs 0:=.stop (by unfold stepF;rw[hr];rfl);exact Aa HRr _ _ h1,(Aa HBr).trans (hB1.mono (Aa HBr).size)⟩
    clear hB1 hr HFA;go_wp2;go_ret2;exact Aa HF
  . have HW2:=Ab (Aa HWA w1 ar x z hB1 hr hz (hpk w1 (Aa HPR w1 hB1)));unfold WaA at HW2;obtain⟨m,hma⟩:∃m,ar.length=m:=⟨_,rfl⟩
    have hrs:=La hr;have hmq:8+m<=n-q:=by have h2:=hrs.1;rw[List.length_drop,Aa HL,hma]at h2;exact h2
    rw[hma]at HW2 ⊢;have HB1:=Ab ((Aa HBr).trans (hB1.mono (Aa HBr).size));have HB1r:=Ab hB1;have HRC:=Ab hr;have HMA:=Ab hma;clear hB1 hr hz hpk HFA HWA hma hrs;go_wp2_with fail
    refine(Aa HW2).mono ?_;rintro e w2 ⟨hB2,(⟨h1,h2,v',rfl,hL2⟩|⟨h1,v',rfl⟩)⟩
    . have hs1:((q:Int)+8)=((q+8:Nat):Int):=by omega
      have hs2:(((q+8:Nat):Int)+(m:Int))=((q+8+m:Nat):Int):=by omega
      have hw1:IntKind.i64.wrap ((q:Int)+8)=(q:Int)+8:=by simp[IntKind.wrap,IntKind.signed,IntKind.bits];omega
      have hw2:IntKind.i64.wrap ((q:Int)+8+(m:Int))=(q:Int)+8+(m:Int):=by simp[IntKind.wrap,IntKind.signed,IntKind.bits];omega
      have HF:Hid (LIn w2 v' (Gw fs (Dp ar))/\Below w.heap.size w w2/\∀f m',Recs (Gw fs (Dp ar)) (bs.drop (q+8+m)) f m'->Recs [] bs f (q+8+m+m')):=Ab ⟨hL2,(Aa HB1).trans (hB2.mono (Aa HB1).size),fun f m' hf=>by
       have h3:=Vg (fs:=fs) (Aa HRC) h1 h2;rw[Aa HMA]at h3;have h4:Recs fs (bs.drop q) f (8+m+m'):=.more h3 (by rw[List.drop_drop];rw[show q+(8+m)=q+8+m by omega];exact hf);have:=Aa HRr _ _ h4
       rw[show q+(8+m+m')=q+8+m+m' by omega]at this;exact this⟩
      have HS:=Ab (show ((q:Int)+8+(m:Int))=((q+8+m:Nat):Int) by omega);clear h1 h2 hL2 hB2 HW2 hs1 hs2;go_wp2;refine⟨⟨Gw fs (Dp ar),q+8+m,by rw[Aa HS],by omega,Aa HF|>Ab⟩, ?_⟩;simp[intOf]
      omega
    . have HF:Hid (ToA w bs (.returned (.tuple #[u2,.int .i64 (q:Int)])) w2):=Ab ⟨u2,fs,q,rfl,((Aa HLr).below (Aa HB1r)).below hB2,by
       have h3:Recs fs (bs.drop q) fs 0:=.stop (by unfold stepF;rw[Aa HRC,Option.bind_some,if_neg h1]);exact Aa HRr _ _ h3,(Aa HB1).trans (hB2.mono (Aa HB1).size)⟩
      clear h1 hB2 HW2;go_wp2;go_ret2;exact Aa HF
end Go.Proofs.YtcjbgpacnkilnagGreatDoor
