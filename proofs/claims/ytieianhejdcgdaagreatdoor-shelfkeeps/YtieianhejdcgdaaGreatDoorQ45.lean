import Derived.Test.YtieianhejdcgdaaGreatDoorQ44
import Derived.Deep.DeepCutAuto
set_option linter.unusedSimpArgs false
set_option maxHeartbeats 4000000
namespace Go.Proofs.YtieianhejdcgdaaGreatDoor
open Go.RowKit
set_option linter.unusedVariables false
set_option maxRecDepth 100000
def Z4w:Value->Nat
 | .slice _ n _=>n
 |_=>0
structure TSt (w:World)(T:List Fl)(N:Nat)(A C:Option Addr×Nat)(pa pb:List Fv)(v:Value)(out:List Fv)(wr:World):Prop where
 fa:FsIn w A.1 A.2 pa
 fb:FsIn w C.1 C.2 pb
 row:FRow wr w.heap.size v out
 bel:Below w.heap.size w wr
 all:fls out++tog (fls pa) (fls pb)=T
 cnt:out.length+pa.length+pb.length<=N
theorem TSt.lt {w:World}{T:List Fl}{N b o cA:Nat}{C:Option Addr×Nat}{x y z:Fv}{pa pb out:List Fv}{v v':Value}{wr w':World}(h:TSt w T N (some ⟨b,o,none⟩,cA) C (x::pa) (y::pb) v out wr)(hc:Fd x.f.name y.f.name<0)(hz:z.f=x.f)(hr:FRow w' w.heap.size v' (out++ [z]))(hb:Below w.heap.size w w'):
 TSt w T N (some (tlA b o cA),cA-1) C pa (y::pb) v' (out++ [z]) w':=by
 have ha:=h.all;have hn:=h.cnt;simp only[fls,WG]at ha;rw[Z3 hc]at ha;refine⟨h.fa.tail,h.fb,hr,hb, ?_, ?_⟩
 . rw[Lv,hz,<-ha];simp[fls]
 . simp only[VB,VH,VQ]at hn ⊢;omega
theorem TSt.gt {w:World}{T:List Fl}{N b o cC:Nat}{A:Option Addr×Nat}{x y z:Fv}{pa pb out:List Fv}{v v':Value}{wr w':World}(h:TSt w T N A (some ⟨b,o,none⟩,cC) (x::pa) (y::pb) v out wr)(hc:0<Fd x.f.name y.f.name)(hz:z.f=y.f)(hr:FRow w' w.heap.size v' (out++ [z]))(hb:Below w.heap.size w w'):
 TSt w T N A (some (tlA b o cC),cC-1) (x::pa) pb v' (out++ [z]) w':=by
 have ha:=h.all;have hn:=h.cnt;simp only[fls,WG]at ha;rw[JD hc]at ha;refine⟨h.fa,h.fb.tail,hr,hb, ?_, ?_⟩
 . rw[Lv,hz,<-ha];simp[fls]
 . simp only[VB,VH,VQ]at hn ⊢;omega
theorem TSt.eq {w:World}{T:List Fl}{N b o cA b' o' cC:Nat}{x y z:Fv}{pa pb out:List Fv}{v v':Value}{wr w':World}(h:TSt w T N (some ⟨b,o,none⟩,cA) (some ⟨b',o',none⟩,cC) (x::pa) (y::pb) v out wr)(hc:Fd x.f.name y.f.name=0)(hz:z.f=Wl x.f y.f)(hr:FRow w' w.heap.size v' (out++ [z]))(hb:Below w.heap.size w w'):
 TSt w T N (some (tlA b o cA),cA-1) (some (tlA b' o' cC),cC-1) pa pb v' (out++ [z]) w':=by
 have ha:=h.all;have hn:=h.cnt;simp only[fls,WG]at ha;rw[JE hc]at ha;refine⟨h.fa.tail,h.fb.tail,hr,hb, ?_, ?_⟩
 . rw[Lv,hz,<-ha];simp[fls]
 . simp only[VB,VH,VQ]at hn ⊢;omega
theorem Zc (ad bd:Option Addr)(c d:Nat)(xs ys:List Fv)(w:World)(h:FsIn w ad c xs)(k:FsIn w bd d ys)(n m:Nat)(hn:xs.length=n)(hm:ys.length=m)(hN:n+m<=1000):
 Calls Tryz.prog 77 #[.slice ad n c,.slice bd m d] w fun e w'=>∃v out,e=.returned v/\FRow w' w.heap.size v out/\fls out=tog (fls xs) (fls ys)/\Below w.heap.size w w':=by
 obtain⟨T,hT⟩:∃T,tog (fls xs) (fls ys)=T:=⟨_,rfl⟩
 rw[hT];have HS:=Ab (TSt.mk (T:=T) (N:=n+m) (A:=(ad,c)) (C:=(bd,d)) h k (FRow.nil w w.heap.size) (Below.refl _ _) (by simpa using hT) (by simp[hn,hm]));have HN:=Ab hn;have HM:=Ab hm;clear h k hT hn hm;go_enter Tryz.func77,Tryz.ntmps77
 go_wp2;go_loopw [0,1,5,6,7] (fun v0 v1 v5 _ _ wr=>∃A C pa pb out,v0=.slice A.1 pa.length A.2/\v1=.slice C.1 pb.length C.2/\Hid (TSt w T (n+m) A C pa pb v5 out wr)) (fun v0 v1 _ _ _ _=>Z4w v0+Z4w v1)
 case atStart=>exact⟨(ad,c),(bd,d),xs,ys,[],by rw[Aa HN],by rw[Aa HM],HS⟩
 case round=>
  obtain⟨⟨A,cA⟩,⟨C,cC⟩,pa,pb,out,rfl,rfl,HT⟩:=hrel;simp only at*
  by_cases hend:pa= []\/pb= []
  . have hfin:fls out++(fls pa++fls pb)=T:=by
     have h0:=(Aa HT).all
     rcases hend with rfl|rfl
     . simpa[fls,Kc]using h0
     . simpa[fls,Kt]using h0
    have HFA:=Ab (Aa HT).fa;have HFB:=Ab (Aa HT).fb;have hcnt:=(Aa HT).cnt;have HO0:=Ab (And.intro (Aa HT).row (And.intro (Aa HT).bel (by omega:out.length+pa.length+pb.length<=1000)));have HFIN:=Ab hfin
    have hfork:pa.length=0\/ (0<pa.length/\pb.length=0):=by
     rcases hend with rfl|rfl
     . exact .inl rfl
     . rcases Nat.eq_zero_or_pos pa.length with h|h
       . exact .inl h
       . exact .inr ⟨h,rfl⟩
    simp only at HFA HFB
    clear hend hfin HT;have i0:=Z5p A C pa.length pb.length cA cC;have i1:=Z5o A C pa.length pb.length cA cC;have HCPY:=Ab (fun(z:Fv) (W:World) (h:FvIn W z)=>Vc z W h);have HNA:Hid (∃na,pa.length=na):=⟨_,rfl⟩
    obtain⟨na,hna⟩:=Aa HNA;obtain⟨nb,hnb⟩:∃nb,pb.length=nb:=⟨_,rfl⟩
    have HLA:=Ab hna;have HLB:=Ab hnb;rw[hna,hnb]at i0 i1 hfork hcnt HO0;rw[hna,hnb];clear hna hnb HNA;have hfork2:(¬(0<na)/\¬((0:Int)<(na:Int)))\/ ((0<na/\(0:Int)<(na:Int))/\(¬(0<nb)/\¬((0:Int)<(nb:Int)))):=by omega
    clear hfork
    rcases hfork2 with ⟨hf,hfi⟩|⟨⟨hf,hfi⟩,hf2,hf2i⟩
    all_goals (
     go_wp2;clear hf hfi
     try clear hf2 hf2i
     go_loopw [5,9,11,65] (fun v5 _ _ i wr=>∃out',Hid (FRow wr w.heap.size v5 out'/\Below w.heap.size w wr)/\((i=.int .i64 0/\Hid (fls out'++(fls pa++fls pb)=T/\out'.length+pa.length+pb.length<=1000))\/ (i=.int .i64 1/\Hid (fls out'++fls pb=T/\out'.length+pb.length<=1000))\/ (i=.int .i64 2/\Hid (fls out'=T)))) (fun _ _ _ i _=>2-(intOf i).toNat)
     case atStart=>exact⟨out,⟨(Aa HO0).1,(Aa HO0).2.1⟩,.inl ⟨rfl,Aa HFIN,by rw[Aa HLA,Aa HLB];exact(Aa HO0).2.2⟩⟩
     case round=>
      obtain⟨out',HO,⟨rfl,HI⟩|⟨rfl,HI⟩|⟨rfl,HI⟩⟩:=hrel
      . have HOL:=Ab (Aa HI).2;go_wp2;go_loopw [5,11,70] (fun v5 _ j wr'=>∃(k:Nat) (o2:List Fv),k<=na/\j=.int .i64 (k:Int)/\Hid (FRow wr' w.heap.size v5 o2/\Below w.heap.size w wr'/\fls o2=fls out'++(fls pa).take k/\o2.length=out'.length+k)) (fun _ _ j _=>na-(intOf j).toNat)
        case atStart=>exact⟨0,out',VM _,rfl,(Aa HO).1,(Aa HO).2,by simp,rfl⟩
        case round=>
         obtain⟨k,o2,hk,rfl,HS2⟩:=hrel
         by_cases hlt:k<na
         . obtain⟨z,hz,hzm⟩:=Rj (xs:=pa) (k:=k) (by rw[Aa HLA];exact hlt);obtain⟨h1,h2,h3,h4⟩:=Aa HS2;obtain⟨b,o,hA,hb,c0,c1,c2,c3,c4⟩:=(Aa HFA).get h2 hz;have hzw:=h2.size;have hzin:=((Aa HFA).all z hzm).below h2 (VC _);have HCP:=Ab (Aa HCPY z _ (hzin.alloc (.cells z.cells.toArray 30)));have HROW:=Ab (h1.below (Aw (Below.refl _ _) (.cells z.cells.toArray 30)));have HBW:=Ab (Aw h2 (.cells z.cells.toArray 30))
           have hzf:fls o2++ [z.f]=fls out'++(fls pa).take (k+1):=by
            have hk2:(fls pa)[k]? =some z.f:=by simp[fls,hz]
            have hk3:k<(fls pa).length:=by simp[fls];rw[Aa HLA];exact hlt
            rw[h3,XH,hk2];simp
           have HZF:=Ab hzf;clear hzf;have hzc:z.cells.toArray= #[.string (B z.f.name),.slice z.a z.f.bytes.length z.c,.int .i64 z.f.stamp,.int .i64 z.f.node,.bool z.f.gone]:=rfl;rw[Dz,hzc]at HCP;rw[hzc]at HROW HBW;have hzs:z.sl=.slice z.a z.f.bytes.length z.c:=rfl;rw[hzs]at c1;have HV:Hid (∀a c,Fv.val ⟨z.f,a,c⟩=.agg #[.string (B z.f.name),.slice a z.f.bytes.length c,.int .i64 z.f.stamp,.int .i64 z.f.node,.bool z.f.gone]/\Fv.cells ⟨z.f,a,c⟩= [.string (B z.f.name),.slice a z.f.bytes.length c,.int .i64 z.f.stamp,.int .i64 z.f.node,.bool z.f.gone]):=fun a c=>⟨rfl,rfl⟩
           have hol:=Aa HOL;have hlen:=h4;rw[Aa HLA]at hol;clear hzc hzs hzin hzm hz h1 h2 h3 h4 HS2;subst hA;have HZ4:=Ab hlen;generalize B z.f.name=zt at*;generalize z.f.bytes.length=zn at*;generalize z.f.stamp=zs at*;generalize z.f.node=zd at*;generalize z.f.gone=zg at*;go_wp2_with fail
           refine(Aa HCP).mono ?_;rintro e w6 ⟨a6,c6,rfl,hv6,hb6,hl6⟩;obtain⟨hv,hvc⟩:=Aa HV a6 c6;rw[hv];have hz6:=hb6.size;simp only[World.size_alloc]at hz6;have HR6:=Ab (((Aa HROW).below hb6).below ((Below.refl w6.heap.size w6).alloc (VC _) (.cells #[.string zt,.slice a6 zn c6,.int .i64 zs,.int .i64 zd,.bool zg] 30)));have HV6:=Ab (hv6.alloc (.cells #[.string zt,.slice a6 zn c6,.int .i64 zs,.int .i64 zd,.bool zg] 30));have HB6:=Ab (Aw ((Aa HBW).trans (hb6.mono (Aa HBW).size)) (.cells #[.string zt,.slice a6 zn c6,.int .i64 zs,.int .i64 zd,.bool zg] 30))
           have HL6:Hid (∀b o,a6=some ⟨b,o,none⟩->some b≠u5.ownBlock/\b<(w6.alloc (.cells #[.string zt,.slice a6 zn c6,.int .i64 zs,.int .i64 zd,.bool zg] 30)).heap.size):=by
            intro b o e;have h1:=hl6 b o e;refine⟨fun e2=> ?_,by simp;omega⟩;have:=((Aa HROW).lt e2.symm).2
            omega
           have HC6:Hid (∀j u,(Fv.cells ⟨z.f,a6,c6⟩)[j]? =some u->(w6.alloc (.cells #[.string zt,.slice a6 zn c6,.int .i64 zs,.int .i64 zd,.bool zg] 30)).cell? ⟨w6.heap.size,j,none⟩=some u):=by
            intro j u hj;rw[hvc]at hj;rw[World.cell?_alloc_at _ _ _ _ rfl];simpa using hj
           clear hv hvc hv6 hb6 hl6;go_wp2_with (at_builtin;refine Dy _ rfl _ _ rfl w.heap.size _ o2 rfl (Aa HR6) w6.heap.size ⟨z.f,a6,c6⟩ rfl (Aa HC6) (Aa HV6) (Aa HL6) (by omega) (by simp;omega) ?_)
           intro v' w7 hR7 hB7;have HB7:=Ab ((Aa HB6).trans (Aa hB7));clear HR6 HV6 HB6 HL6 HC6 hB7 HCP HROW HBW;go_wp2;go_roundw
           case rel=>exact⟨k+1,_,by omega,by go_num,Aa hR7,Aa HB7,by rw[Lv];exact Aa HZF,by rw[VB];simp;omega⟩
           case measure=>simp[intOf];omega
         . obtain rfl:na=k:=by omega
           have HE2:Hid (fls o2++fls pb=T/\o2.length+pb.length<=1000):=by
            have h3:=(Aa HS2).2.2.1;have h4:=(Aa HS2).2.2.2;have h5:=Aa HI;rw[VP (by simp[fls];rw[Aa HLA];exact VC _)]at h3;exact⟨by rw[h3,VJ];exact h5.1,by have:=h5.2;rw[Aa HLA]at this;omega⟩
           go_wp2;go_roundw
           case rel=>exact⟨o2,⟨(Aa HS2).1,(Aa HS2).2.1⟩,.inr (.inl ⟨rfl,Aa HE2⟩)⟩
           case measure=>simp[intOf]
      . have HOL:=Ab (Aa HI).2;go_wp2;go_loopw [5,11,70] (fun v5 _ j wr'=>∃(k:Nat) (o2:List Fv),k<=nb/\j=.int .i64 (k:Int)/\Hid (FRow wr' w.heap.size v5 o2/\Below w.heap.size w wr'/\fls o2=fls out'++(fls pb).take k/\o2.length=out'.length+k)) (fun _ _ j _=>nb-(intOf j).toNat)
        case atStart=>exact⟨0,out',VM _,rfl,(Aa HO).1,(Aa HO).2,by simp,rfl⟩
        case round=>
         obtain⟨k,o2,hk,rfl,HS2⟩:=hrel
         by_cases hlt:k<nb
         . obtain⟨z,hz,hzm⟩:=Rj (xs:=pb) (k:=k) (by rw[Aa HLB];exact hlt);obtain⟨h1,h2,h3,h4⟩:=Aa HS2;obtain⟨b,o,hA,hb,c0,c1,c2,c3,c4⟩:=(Aa HFB).get h2 hz;have hzw:=h2.size;have hzin:=((Aa HFB).all z hzm).below h2 (VC _);have HCP:=Ab (Aa HCPY z _ (hzin.alloc (.cells z.cells.toArray 30)));have HROW:=Ab (h1.below (Aw (Below.refl _ _) (.cells z.cells.toArray 30)));have HBW:=Ab (Aw h2 (.cells z.cells.toArray 30))
           have hzf:fls o2++ [z.f]=fls out'++(fls pb).take (k+1):=by
            have hk2:(fls pb)[k]? =some z.f:=by simp[fls,hz]
            have hk3:k<(fls pb).length:=by simp[fls];rw[Aa HLB];exact hlt
            rw[h3,XH,hk2];simp
           have HZF:=Ab hzf;clear hzf;have hzc:z.cells.toArray= #[.string (B z.f.name),.slice z.a z.f.bytes.length z.c,.int .i64 z.f.stamp,.int .i64 z.f.node,.bool z.f.gone]:=rfl;rw[Dz,hzc]at HCP;rw[hzc]at HROW HBW;have hzs:z.sl=.slice z.a z.f.bytes.length z.c:=rfl;rw[hzs]at c1;have HV:Hid (∀a c,Fv.val ⟨z.f,a,c⟩=.agg #[.string (B z.f.name),.slice a z.f.bytes.length c,.int .i64 z.f.stamp,.int .i64 z.f.node,.bool z.f.gone]/\Fv.cells ⟨z.f,a,c⟩= [.string (B z.f.name),.slice a z.f.bytes.length c,.int .i64 z.f.stamp,.int .i64 z.f.node,.bool z.f.gone]):=fun a c=>⟨rfl,rfl⟩
           have hol:=Aa HOL;have hlen:=h4;rw[Aa HLB]at hol;clear hzc hzs hzin hzm hz h1 h2 h3 h4 HS2;subst hA;have HZ4:=Ab hlen;generalize B z.f.name=zt at*;generalize z.f.bytes.length=zn at*;generalize z.f.stamp=zs at*;generalize z.f.node=zd at*;generalize z.f.gone=zg at*;go_wp2_with fail
           refine(Aa HCP).mono ?_;rintro e w6 ⟨a6,c6,rfl,hv6,hb6,hl6⟩;obtain⟨hv,hvc⟩:=Aa HV a6 c6;rw[hv];have hz6:=hb6.size;simp only[World.size_alloc]at hz6;have HR6:=Ab (((Aa HROW).below hb6).below ((Below.refl w6.heap.size w6).alloc (VC _) (.cells #[.string zt,.slice a6 zn c6,.int .i64 zs,.int .i64 zd,.bool zg] 30)));have HV6:=Ab (hv6.alloc (.cells #[.string zt,.slice a6 zn c6,.int .i64 zs,.int .i64 zd,.bool zg] 30));have HB6:=Ab (Aw ((Aa HBW).trans (hb6.mono (Aa HBW).size)) (.cells #[.string zt,.slice a6 zn c6,.int .i64 zs,.int .i64 zd,.bool zg] 30))
           have HL6:Hid (∀b o,a6=some ⟨b,o,none⟩->some b≠u5.ownBlock/\b<(w6.alloc (.cells #[.string zt,.slice a6 zn c6,.int .i64 zs,.int .i64 zd,.bool zg] 30)).heap.size):=by
            intro b o e;have h1:=hl6 b o e;refine⟨fun e2=> ?_,by simp;omega⟩;have:=((Aa HROW).lt e2.symm).2
            omega
           have HC6:Hid (∀j u,(Fv.cells ⟨z.f,a6,c6⟩)[j]? =some u->(w6.alloc (.cells #[.string zt,.slice a6 zn c6,.int .i64 zs,.int .i64 zd,.bool zg] 30)).cell? ⟨w6.heap.size,j,none⟩=some u):=by
            intro j u hj;rw[hvc]at hj;rw[World.cell?_alloc_at _ _ _ _ rfl];simpa using hj
           clear hv hvc hv6 hb6 hl6;go_wp2_with (at_builtin;refine Dy _ rfl _ _ rfl w.heap.size _ o2 rfl (Aa HR6) w6.heap.size ⟨z.f,a6,c6⟩ rfl (Aa HC6) (Aa HV6) (Aa HL6) (by omega) (by simp;omega) ?_)
           intro v' w7 hR7 hB7;have HB7:=Ab ((Aa HB6).trans (Aa hB7));clear HR6 HV6 HB6 HL6 HC6 hB7 HCP HROW HBW;go_wp2;go_roundw
           case rel=>exact⟨k+1,_,by omega,by go_num,Aa hR7,Aa HB7,by rw[Lv];exact Aa HZF,by rw[VB];simp;omega⟩
           case measure=>simp[intOf];omega
         . obtain rfl:nb=k:=by omega
           have HE2:Hid (fls o2=T):=by
            have h3:=(Aa HS2).2.2.1;have h4:=(Aa HS2).2.2.2;have h5:=Aa HI;rw[VP (by simp[fls];rw[Aa HLB];exact VC _)]at h3;rw[h3];exact h5.1
           go_wp2;go_roundw
           case rel=>exact⟨o2,⟨(Aa HS2).1,(Aa HS2).2.1⟩,.inr (.inr ⟨rfl,Aa HE2⟩)⟩
           case measure=>simp[intOf]
      . go_wp2;go_ret;exact⟨_,out',rfl,(Aa HO).1,Aa HI,(Aa HO).2⟩)
  . obtain⟨x,pa,rfl⟩:∃x pa',pa=x::pa':=by
     cases pa with
     |nil=>exact absurd (.inl rfl) hend
     |cons x p=>exact⟨x,p,rfl⟩
    obtain⟨y,pb,rfl⟩:∃y pb',pb=y::pb':=by
     cases pb with
     |nil=>exact absurd (.inr rfl) hend
     |cons y p=>exact⟨y,p,rfl⟩
    clear hend
    ·
     have hT:=Aa HT;obtain⟨b,o,hA,hb,c0,c1,c2,c3,c4⟩:=hT.fa.head hT.bel;obtain⟨b',o',hC,hb',d0,d1,d2,d3,d4⟩:=hT.fb.head hT.bel;simp only at hA hC
     subst hA;subst hC;have hz:=hT.bel.size;have hfx:FvIn w x:=hT.fa.all x (by simp);have hfy:FvIn w y:=hT.fb.all y (by simp);have HNC:=Ab (fun W=>LN x y W);have HNW:=Ab (fun W (hW:Below w.heap.size w W)=>LM y x W (hfy.below hW (VC _)) (hfx.below hW (VC _)));have HX:=Ab hfx;have HY:=Ab hfy;rw[Dz,Dz]at HNC HNW;have hxs:x.sl=.slice x.a x.f.bytes.length x.c:=rfl;have hys:y.sl=.slice y.a y.f.bytes.length y.c:=rfl;have HXC:Hid (x.cells.toArray= #[.string (B x.f.name),.slice x.a x.f.bytes.length x.c,.int .i64 x.f.stamp,.int .i64 x.f.node,.bool x.f.gone]):=rfl;have HYC:Hid (y.cells.toArray= #[.string (B y.f.name),.slice y.a y.f.bytes.length y.c,.int .i64 y.f.stamp,.int .i64 y.f.node,.bool y.f.gone]):=rfl;rw[Aa HXC,Aa HYC]at HNC;rw[hxs]at c1;rw[hys]at d1;obtain⟨od,hod⟩:∃od,Fd x.f.name y.f.name=od:=⟨_,rfl⟩
     obtain⟨nw,hnw⟩:∃nw,nwr y.f x.f=nw:=⟨_,rfl⟩
     rw[hod]at HNC;rw[hnw]at HNW;have HOD:=Ab hod;have HNWR:=Ab hnw;clear hT hfx hfy hxs hys hod hnw;obtain⟨t,ht⟩:∃t,B x.f.name=t:=⟨_,rfl⟩
     obtain⟨t2,ht2⟩:∃t2,B y.f.name=t2:=⟨_,rfl⟩
     obtain⟨nb,hnb⟩:∃nb,x.f.bytes.length=nb:=⟨_,rfl⟩
     obtain⟨nb2,hnb2⟩:∃nb,y.f.bytes.length=nb:=⟨_,rfl⟩
     rw[ht]at HNC HNW HXC c0;rw[ht2]at HNC HNW HYC d0;rw[hnb]at HNC HNW HXC c1;rw[hnb2]at HNC HNW HYC d1;clear ht ht2 hnb hnb2;generalize x.f.stamp=st at*;generalize x.f.node=nd at*;generalize x.f.gone=gn at*;generalize y.f.stamp=st2 at*;generalize y.f.node=nd2 at*;generalize y.f.gone=gn2 at*;have hla:(0:Int)<((pa.length+1:Nat):Int):=by omega
     have hlb:(0:Int)<((pb.length+1:Nat):Int):=by omega
     simp only[VH];go_upto_region 3 with fail
     go_cut [6,7] (fun v6 v7 wc=>∃g,v6=.pointer (some ⟨g,0,none⟩)/\v7=.int .i64 od/\Hid (wc.heap[g]? =some (.cells #[.string t,.slice x.a nb x.c,.int .i64 st,.int .i64 nd,.bool gn] 30 (0,0))/\wr.heap.size<=g/\Below wr.heap.size wr wc))
     case first=>
      go_region_held3 (fun W=>W.cell? ⟨b,o,none⟩=some (.string t)/\W.cell? ⟨b,o+1,none⟩=some (.slice x.a nb x.c)/\W.cell? ⟨b,o+2,none⟩=some (.int .i64 st)/\W.cell? ⟨b,o+3,none⟩=some (.int .i64 nd)/\W.cell? ⟨b,o+4,none⟩=some (.bool gn)/\W.cell? ⟨b',o',none⟩=some (.string t2)/\W.cell? ⟨b',o'+1,none⟩=some (.slice y.a nb2 y.c)/\W.cell? ⟨b',o'+2,none⟩=some (.int .i64 st2)/\W.cell? ⟨b',o'+3,none⟩=some (.int .i64 nd2)/\W.cell? ⟨b',o'+4,none⟩=some (.bool gn2)) (refine⟨?_, ?_, ?_, ?_, ?_, ?_, ?_, ?_, ?_, ?_⟩<;>(repeat first|assumption|apply Z3z|apply Nh)) ((go_at_call 111;refine(Aa HNC _).mono ?_;rintro e w' ⟨rfl,rfl⟩))
      all_goals go_wp2_with fail
      all_goals go_meet
      . exact⟨_,rfl,rfl,Z7l wr _ _ _ _⟩
      . exact⟨_,rfl,rfl,Z7m wr _ _ _ _⟩
     case rest=>
      rename World=>wq
      obtain⟨g,rfl,rfl,HC⟩:=hcut;obtain⟨z,hz0⟩:∃z:Fv,z=(if 0<od\/ (od=0/\0<nw)then y else x):=⟨_,rfl⟩
      have HZ:=Ab hz0;have hod3:od= -1\/od=0\/od=1:=by rw[<-Aa HOD];exact Ep _ _
      have hzw:=(Aa HC).2.2.size;have hgw:=(Aa HC).2.1;have hbr:b<wr.heap.size:=by omega
      have hbr':b'<wr.heap.size:=by omega
      have hBC:=(Aa HC).2.2;have c0':wq.cell? ⟨b,o,none⟩=some (.string t):=(hBC.cell (p:=⟨b,o,none⟩) hbr).trans c0;have c1':wq.cell? ⟨b,o+1,none⟩=some (.slice x.a nb x.c):=(hBC.cell (p:=⟨b,o+1,none⟩) hbr).trans c1;have c2':wq.cell? ⟨b,o+2,none⟩=some (.int .i64 st):=(hBC.cell (p:=⟨b,o+2,none⟩) hbr).trans c2;have c3':wq.cell? ⟨b,o+3,none⟩=some (.int .i64 nd):=(hBC.cell (p:=⟨b,o+3,none⟩) hbr).trans c3;have c4':wq.cell? ⟨b,o+4,none⟩=some (.bool gn):=(hBC.cell (p:=⟨b,o+4,none⟩) hbr).trans c4;have d0':wq.cell? ⟨b',o',none⟩=some (.string t2):=(hBC.cell (p:=⟨b',o',none⟩) hbr').trans d0;have d1':wq.cell? ⟨b',o'+1,none⟩=some (.slice y.a nb2 y.c):=(hBC.cell (p:=⟨b',o'+1,none⟩) hbr').trans d1;have d2':wq.cell? ⟨b',o'+2,none⟩=some (.int .i64 st2):=(hBC.cell (p:=⟨b',o'+2,none⟩) hbr').trans d2;have d3':wq.cell? ⟨b',o'+3,none⟩=some (.int .i64 nd2):=(hBC.cell (p:=⟨b',o'+3,none⟩) hbr').trans d3;have d4':wq.cell? ⟨b',o'+4,none⟩=some (.bool gn2):=(hBC.cell (p:=⟨b',o'+4,none⟩) hbr').trans d4;clear c0 c1 c2 c3 c4 d0 d1 d2 d3 d4 hBC hz0;obtain⟨sel,hsel⟩:∃sel:Bool,sel=decide (0<od\/ (od=0/\0<nw)):=⟨_,rfl⟩
      have HSEL:=Ab hsel;have HB0:=Ab ((Aa HT).bel.trans ((Aa HC).2.2.mono hz));clear hsel;go_upto_region 4 with fail
      go_cut [45] (fun v wd=>v=.bool sel/\Hid (Below wq.heap.size wq wd))
      case first=>
       rcases hod3 with rfl|rfl|rfl
       . have hs0:sel=false:=(Aa HSEL).trans (decide_eq_false (by omega));subst hs0;go_wp2_with fail
         go_quiet (fail)
         go_wp2_with fail
         go_meet
         exact⟨rfl,Af (Below.refl _ _) _⟩
       . have hs0:sel=decide (0<nw):=(Aa HSEL).trans (decide_eq_decide.2 (by omega));subst hs0;have hb1:b<wq.heap.size:=by omega
         have hb2:b'<wq.heap.size:=by omega
         have kc0:∀W:World,Below wq.heap.size wq W->W.cell? ⟨b,o,none⟩=some (.string t):=fun W hW=>(hW.cell (p:=⟨b,o,none⟩) hb1).trans c0'
         have kc1:∀W:World,Below wq.heap.size wq W->W.cell? ⟨b,o+1,none⟩=some (.slice x.a nb x.c):=fun W hW=>(hW.cell (p:=⟨b,o+1,none⟩) hb1).trans c1'
         have kc2:∀W:World,Below wq.heap.size wq W->W.cell? ⟨b,o+2,none⟩=some (.int .i64 st):=fun W hW=>(hW.cell (p:=⟨b,o+2,none⟩) hb1).trans c2'
         have kc3:∀W:World,Below wq.heap.size wq W->W.cell? ⟨b,o+3,none⟩=some (.int .i64 nd):=fun W hW=>(hW.cell (p:=⟨b,o+3,none⟩) hb1).trans c3'
         have kc4:∀W:World,Below wq.heap.size wq W->W.cell? ⟨b,o+4,none⟩=some (.bool gn):=fun W hW=>(hW.cell (p:=⟨b,o+4,none⟩) hb1).trans c4'
         have kd0:∀W:World,Below wq.heap.size wq W->W.cell? ⟨b',o',none⟩=some (.string t2):=fun W hW=>(hW.cell (p:=⟨b',o',none⟩) hb2).trans d0'
         have kd1:∀W:World,Below wq.heap.size wq W->W.cell? ⟨b',o'+1,none⟩=some (.slice y.a nb2 y.c):=fun W hW=>(hW.cell (p:=⟨b',o'+1,none⟩) hb2).trans d1'
         have kd2:∀W:World,Below wq.heap.size wq W->W.cell? ⟨b',o'+2,none⟩=some (.int .i64 st2):=fun W hW=>(hW.cell (p:=⟨b',o'+2,none⟩) hb2).trans d2'
         have kd3:∀W:World,Below wq.heap.size wq W->W.cell? ⟨b',o'+3,none⟩=some (.int .i64 nd2):=fun W hW=>(hW.cell (p:=⟨b',o'+3,none⟩) hb2).trans d3'
         have kd4:∀W:World,Below wq.heap.size wq W->W.cell? ⟨b',o'+4,none⟩=some (.bool gn2):=fun W hW=>(hW.cell (p:=⟨b',o'+4,none⟩) hb2).trans d4'
         clear hb1 hb2;go_wp2_with fail
         go_region_held3 (fun W=>Below wq.heap.size wq W) (first|exact Co (Below.refl _ _)|exact hb6) ((go_at_call 112;refine(Aa HNW _ (Co (Aa HB0))).mono ?_;rintro e w5 ⟨rfl,hb5⟩;have hb6:Below wq.heap.size wq w5:=(Co (Below.refl _ _)).trans hb5;clear hb5))
         go_wp2_with fail
         go_meet
         exact⟨rfl,hb6⟩
       . have hs0:sel=true:=(Aa HSEL).trans (decide_eq_true (by omega));subst hs0;go_wp2_with fail
         go_quiet (fail)
         go_wp2_with fail
         go_meet
         exact⟨rfl,Af (Below.refl _ _) _⟩
      case rest=>
       rename World=>wp
       obtain⟨rfl,HWP⟩:=hcut;have hbp:=Aa HWP;obtain⟨hgh,hgw2,hgB⟩:=Aa HC
       have hgl:g<wq.heap.size:=by
        rcases YO g wq.heap.size with h'|h'
        . exact h'
        . rw[XX h']at hgh;cases hgh
       have hgp:wp.heap[g]? =some (.cells #[.string t,.slice x.a nb x.c,.int .i64 st,.int .i64 nd,.bool gn] 30 (0,0)):=(hbp.block g hgl).trans hgh;have hBp:Below wr.heap.size wr wp:=hgB.trans (hbp.mono hgB.size);have HGP:=Ab hgp;have HBP:=Ab hBp;have hb2:b'<wq.heap.size:=by omega
       have q0:wp.cell? ⟨b',o',none⟩=some (.string t2):=(hbp.cell (p:=⟨b',o',none⟩) hb2).trans d0';have q1:wp.cell? ⟨b',o'+1,none⟩=some (.slice y.a nb2 y.c):=(hbp.cell (p:=⟨b',o'+1,none⟩) hb2).trans d1';have q2:wp.cell? ⟨b',o'+2,none⟩=some (.int .i64 st2):=(hbp.cell (p:=⟨b',o'+2,none⟩) hb2).trans d2';have q3:wp.cell? ⟨b',o'+3,none⟩=some (.int .i64 nd2):=(hbp.cell (p:=⟨b',o'+3,none⟩) hb2).trans d3';have q4:wp.cell? ⟨b',o'+4,none⟩=some (.bool gn2):=(hbp.cell (p:=⟨b',o'+4,none⟩) hb2).trans d4';obtain⟨p1,p2⟩:=Z76 wp g 30 _ _ _ _ _ (.string t2) (.slice y.a nb2 y.c) (.int .i64 st2) (.int .i64 nd2) (.bool gn2) hgp;have P1:=Ab p1;have P2:=Ab (hBp.grown p2 hBp.size (fun k e=>by cases e;exact hgw2));have e0:wp.cell? ⟨g,0,none⟩=some (.string t):=Ac hgp;have e1:wp.cell? ⟨g,1,none⟩=some (.slice x.a nb x.c):=Ac hgp;have e2:wp.cell? ⟨g,2,none⟩=some (.int .i64 st):=Ac hgp;have e3:wp.cell? ⟨g,3,none⟩=some (.int .i64 nd):=Ac hgp;have e4:wp.cell? ⟨g,4,none⟩=some (.bool gn):=Ac hgp;have f0:=frozen_of_row wp g 0 _ _ hgp;have f1:=frozen_of_row wp g 1 _ _ hgp;have f2:=frozen_of_row wp g 2 _ _ hgp;have f3:=frozen_of_row wp g 3 _ _ hgp;have f4:=frozen_of_row wp g 4 _ _ hgp;clear hgp hBp hbp hb2 p1 p2 hgh hgw2 hgB hgl c0' c1' c2' c3' c4' d0' d1' d2' d3' d4';go_upto_if 45 with (fail)
       go_cut [] (fun wd=>Hid (wd.heap[g]? =some (.cells z.cells.toArray 30 (0,0))/\Below wr.heap.size wr wd))
       case first=>
        cases sel with
        |false=>
         have hs0:z=x:=by rw[Aa HZ,if_neg (of_decide_eq_false (Aa HSEL).symm)]
         go_wp2_with fail
         go_meet
         rw[hs0,Aa HXC];exact⟨Aa HGP,Aa HBP⟩
        |true=>
         have hs0:z=y:=by rw[Aa HZ,if_pos (of_decide_eq_true (Aa HSEL).symm)]
         go_wp2_with fail
         go_meet
         rw[hs0,Aa HYC];exact⟨Aa P1,Aa P2⟩
       case rest=>
        clear e0 e1 e2 e3 e4 f0 f1 f2 f3 f4 q0 q1 q2 q3 q4 P1 P2 HGP HBP;obtain⟨hgz,hbz⟩:=Aa hcut
        have hzin:FvIn w z:=by
         rw[Aa HZ]
         split
         . exact Aa HY
         . exact Aa HX
        have hBw:=(Aa HT).bel.trans (hbz.mono hz);have HCP:=Ab (Vc z wc (hzin.below hBw (VC _)));have HROW:=Ab ((Aa HT).row.below hbz);have hzs:=hbz.size;have HBW:=Ab hBw;rw[Dz]at HCP;have hzc:z.cells.toArray= #[.string (B z.f.name),.slice z.a z.f.bytes.length z.c,.int .i64 z.f.stamp,.int .i64 z.f.node,.bool z.f.gone]:=rfl;rw[hzc]at hgz;obtain⟨zt,hzt⟩:∃t,B z.f.name=t:=⟨_,rfl⟩
        obtain⟨zn,hzn⟩:∃n,z.f.bytes.length=n:=⟨_,rfl⟩
        have HV:Hid (∀a c,Fv.val ⟨z.f,a,c⟩=.agg #[.string zt,.slice a zn c,.int .i64 z.f.stamp,.int .i64 z.f.node,.bool z.f.gone]/\Fv.cells ⟨z.f,a,c⟩= [.string zt,.slice a zn c,.int .i64 z.f.stamp,.int .i64 z.f.node,.bool z.f.gone]):=by
         intro a c;rw[<-hzt,<-hzn];exact⟨rfl,rfl⟩
        rw[hzt,hzn]at hgz HCP;have HZF:=Ab (congrArg Fv.f (Aa HZ));clear hzt hzn hzc hzin hBw hbz hcut;have HZQ:Hid (∀v',v'=z->z.f=v'.f):=fun v' e=>by rw[e]
        generalize z.f.stamp=zs at*;generalize z.f.node=zd at*;generalize z.f.gone=zg at*;have r0:wc.cell? ⟨g,0,none⟩=some (.string zt):=Ac hgz;have r1:wc.cell? ⟨g,1,none⟩=some (.slice z.a zn z.c):=Ac hgz;have r2:wc.cell? ⟨g,2,none⟩=some (.int .i64 zs):=Ac hgz;have r3:wc.cell? ⟨g,3,none⟩=some (.int .i64 zd):=Ac hgz;have r4:wc.cell? ⟨g,4,none⟩=some (.bool zg):=Ac hgz;have hsA:=KB b o pa.length cA;have hsC:=KB b' o' pb.length cC;have hcA:=(Aa HT).fa.cap;have hcC:=(Aa HT).fb.cap;simp only[VH]at hcA hcC;have hsA':=fun W=>hsA W hcA
        have hsC':=fun W=>hsC W hcC
        have hcnt:=(Aa HT).cnt;simp only[VH]at hcnt;clear hgz hsA hsC HNC HNW HYC HXC;go_wp2_with fail
        refine(Aa HCP).mono ?_;rintro e w6 ⟨a6,c6,rfl,hv6,hb6,hl6⟩;obtain⟨hv,hvc⟩:=Aa HV a6 c6;rw[hv];have hz6:=hb6.size;have HR6:=Ab (((Aa HROW).below hb6).below ((Below.refl w6.heap.size w6).alloc (VC _) (.cells #[.string zt,.slice a6 zn c6,.int .i64 zs,.int .i64 zd,.bool zg] 30)));have HV6:=Ab (hv6.alloc (.cells #[.string zt,.slice a6 zn c6,.int .i64 zs,.int .i64 zd,.bool zg] 30));have HB6:=Ab (Aw ((Aa HBW).trans (hb6.mono (Aa HBW).size)) (.cells #[.string zt,.slice a6 zn c6,.int .i64 zs,.int .i64 zd,.bool zg] 30))
        have HL6:Hid (∀b o,a6=some ⟨b,o,none⟩->some b≠u5.ownBlock/\b<(w6.alloc (.cells #[.string zt,.slice a6 zn c6,.int .i64 zs,.int .i64 zd,.bool zg] 30)).heap.size):=by
         intro b o e;have h1:=hl6 b o e;refine⟨fun e2=> ?_,by simp;omega⟩;have:=((Aa HROW).lt e2.symm).2
         omega
        have HC6:Hid (∀j u,(Fv.cells ⟨z.f,a6,c6⟩)[j]? =some u->(w6.alloc (.cells #[.string zt,.slice a6 zn c6,.int .i64 zs,.int .i64 zd,.bool zg] 30)).cell? ⟨w6.heap.size,j,none⟩=some u):=by
         intro j u hj;rw[hvc]at hj;rw[World.cell?_alloc_at _ _ _ _ rfl];simpa using hj
        clear hv hvc hv6 hb6 hl6;go_wp2_with (at_builtin;refine Dy _ rfl _ _ rfl w.heap.size _ out rfl (Aa HR6) w6.heap.size ⟨z.f,a6,c6⟩ rfl (Aa HC6) (Aa HV6) (Aa HL6) (by omega) (by simp;omega) ?_)
        intro v' w7 hR7 hB7;have HB7:=Ab ((Aa HB6).trans (Aa hB7));have HTT:=HT;clear HR6 HV6 HB6 HL6 HC6 hB7 HCP HROW HBW r0 r1 r2 r3 r4
        rcases hod3 with rfl|rfl|rfl
        . have hzf:z.f=x.f:=by rw[Aa HZF,if_neg (by omega)]
          have HF:=Ab ((Aa HT).lt (z:=⟨z.f,a6,c6⟩) (by rw[Aa HOD];decide) hzf (Aa hR7) (Aa HB7));clear hzf;go_wp2;go_roundw
          case rel=>exact⟨_,_,pa,y::pb,_,rfl,by simp,HF⟩
          case measure=>simp[Z4w]
        . have hzf:z.f=Wl x.f y.f:=by
           rw[Aa HZF];unfold Wl;rw[Aa HNWR]
           by_cases hp:0<nw
           . rw[if_pos (by omega),if_pos hp]
           . rw[if_neg (by omega),if_neg hp]
          have HF:=Ab ((Aa HT).eq (z:=⟨z.f,a6,c6⟩) (by rw[Aa HOD]) hzf (Aa hR7) (Aa HB7));clear hzf;go_wp2;go_roundw
          case rel=>exact⟨_,_,pa,pb,_,rfl,rfl,HF⟩
          case measure=>simp[Z4w];omega
        . have hzf:z.f=y.f:=by rw[Aa HZF,if_pos (by omega)]
          have HF:=Ab ((Aa HT).gt (z:=⟨z.f,a6,c6⟩) (by rw[Aa HOD];decide) hzf (Aa hR7) (Aa HB7));clear hzf;go_wp2;go_roundw
          case rel=>exact⟨_,_,x::pa,pb,_,by simp,rfl,HF⟩
          case measure=>simp[Z4w]
def Ct (a b:List Fl):Nat:=if I9 a b≠0 then I9 a b else if 12<(tog a b).length then 11 else 0
def Gz (a b:List Fl):List Fl:=if Ct a b=0 then tog a b else []
theorem M0 {a b:List Fl}(h:I9 a b≠0):Ct a b=I9 a b:=by unfold Ct;rw[if_pos h]
theorem Vf {a b:List Fl}(h:I9 a b=0)(h2:12<(tog a b).length):Ct a b=11:=by unfold Ct;rw[if_neg (by simp[h]),if_pos h2]
theorem CJ {a b:List Fl}(h:I9 a b=0)(h2:¬12<(tog a b).length):Ct a b=0:=by unfold Ct;rw[if_neg (by simp[h]),if_neg h2]
theorem L9 {a b:List Fl}(h:Ct a b≠0):Gz a b= []:=by unfold Gz;rw[if_neg h]
theorem Pq {a b:List Fl}(h:Ct a b=0):Gz a b=tog a b:=by unfold Gz;rw[if_pos h]
theorem Z0b (ad bd:Option Addr)(c d:Nat)(xs ys:List Fv)(w:World)(h:FsIn w ad c xs)(k:FsIn w bd d ys)(n m:Nat)(hn:xs.length=n)(hm:ys.length=m):
 Calls Tryz.prog 55 #[.slice ad n c,.slice bd m d] w fun e w'=>∃v,e=.returned (.tuple #[v,.int .i64 (Ct (fls xs) (fls ys):Nat)])/\Ans w w' v (Gz (fls xs) (fls ys)):=by
 have HC:=Ab (Xx ad bd c d xs ys w h k n m hn hm)
 by_cases he:I9 (fls xs) (fls ys)=0
 . have hz:=Rw.1 he;have hl1:=Pn hz.1;have hl2:=Pn hz.2;simp only[fls,WN]at hl1 hl2;have HT:=Ab (fun(W:World) (hW:Below w.heap.size w W)=>Zc ad bd c d xs ys W (h.below hW (VC _)) (k.below hW (VC _)) n m hn hm (by omega));have HF:=Ab (@Vf (fls xs) (fls ys) he);have HO:=Ab (@CJ (fls xs) (fls ys) he);have HLB:=Ab (@L9 (fls xs) (fls ys));have HLO:=Ab (@Pq (fls xs) (fls ys));rw[he]at HC;have hlen:(tog (fls xs) (fls ys)).length<=1000\/True:=.inr trivial;clear h k hn hm he hz hl1 hl2 hlen;go_enter Tryz.func55,Tryz.ntmps55
   go_wp2_with fail
   refine(Aa HC).mono ?_;rintro e w1 ⟨rfl,hb1⟩;have HB1:=Ab hb1;clear hb1;go_wp2_with fail
   refine(Aa HT w1 (Aa HB1)).mono ?_;rintro e w2 ⟨v,out,rfl,hrow,hout,hb2⟩
   have hvs:∃ad2 c2,v=.slice ad2 out.length c2:=by
    obtain⟨a,c,e⟩:=Ao hrow.own;exact⟨a,c,e⟩
   obtain⟨ad2,c2,rfl⟩:=hvs;have HR:=Ab hrow;have HOUT:=Ab hout;have HB2:=Ab ((Aa HB1).trans (hb2.mono (Aa HB1).size));have hll:out.length=(tog (fls xs) (fls ys)).length:=by rw[<-hout];simp[fls]
   have HLL:=Ab hll;obtain⟨L,hL⟩:∃L,out.length=L:=⟨_,rfl⟩
   have HL:=Ab hL;rw[hL];clear hrow hout hb2 hll hL
   by_cases hfull:12<L
   . go_wp2;go_ret2;have e1:=Aa HF (by rw[<-Aa HLL,Aa HL];exact hfull);rw[Aa HLB (by rw[e1];decide),e1];exact⟨_,rfl,Ans.nil (Aa HB2)⟩
   . go_wp2;go_ret2;have e1:=Aa HO (by rw[<-Aa HLL,Aa HL];exact hfull);rw[Aa HLO e1,e1,<-Aa HOUT,<-Aa HL];exact⟨_,rfl,Ans.row (Aa HR) (by rw[Aa HL];omega) (Aa HB2)⟩
 . have e1:=M0 he;have e2:=L9 (a:=fls xs) (b:=fls ys) (by rw[e1];exact he);rw[e1,e2];clear e1 e2 h k;generalize I9 (fls xs) (fls ys)=E at*;go_enter Tryz.func55,Tryz.ntmps55
   go_wp2_with fail
   refine(Aa HC).mono ?_;rintro e w1 ⟨rfl,hb1⟩;have HB1:=Ab hb1;clear hb1;go_wp2;go_ret2;exact⟨_,rfl,Ans.nil (Aa HB1)⟩
def On (l:List Fl):Prop:=∀(i j:Nat) (x y:Fl),l[i]? =some x->l[j]? =some y->i<j->Fd x.name y.name<0
def Tb (n:List UInt8)(l:List Fl):Option Fl:=l.find? fun y=>y.name==n
theorem I8:∀(l:List Fl) (p:Option Fl),U7 p l=0->(∀f∈l,Jx f=0)/\On l/\(∀x,p=some x->∀f∈l,Fd x.name f.name<0)
 | [],p,_=>⟨fun f hf=>absurd hf WV,fun i j x y h=>by simp at h,fun x _ f hf=>absurd hf WV⟩
 |f::r,p,h=>by
  rw[U7]at h
  split at h
  . rename_i h1;omega
  . rename_i h1
    split at h
    . omega
    . rename_i h2
      obtain⟨k1,k2,k3⟩:=I8 r (some f) h;have hv:Jx f=0:=by omega
      refine⟨?_, ?_, ?_⟩
      . intro g hg
        rcases VW.1 hg with rfl|hg
        . exact hv
        . exact k1 g hg
      . intro i j x y hx hy hij
        match i,j,hij with
        |0,j+1,_=>
         simp at hx hy
         subst hx;exact k3 f rfl y (YF hy)
        |i+1,j+1,hij=>
         simp at hx hy
         exact k2 i j x y hx hy (by omega)
      . intro x hp g hg;subst hp
        have hxf:Fd x.name f.name<0:=by
         have:behind (some x) f=true:=by simpa using h2
         exact of_decide_eq_true this
        rcases VW.1 hg with rfl|hg
        . exact hxf
        . exact Fp hxf (k3 f rfl g hg)
theorem Il {f:Fl}{r:List Fl}(h:On (f::r)):On r/\∀g∈r,Fd f.name g.name<0:=by
 constructor
 . intro i j x y hx hy hij;exact h (i+1) (j+1) x y (by simpa using hx) (by simpa using hy) (by omega)
 . intro g hg;obtain⟨j,hj,he⟩:=XC hg;exact h 0 (j+1) f g rfl (by simp[VR hj,he]) (by omega)
theorem NW:∀(l:List Fl) (p:Option Fl),(∀f∈l,Jx f=0)->On l->(∀x,p=some x->∀f∈l,Fd x.name f.name<0)->U7 p l=0
 | [],p,_,_,_=>rfl
 |f::r,p,h1,h2,h3=>by
  rw[U7];obtain⟨k1,k2⟩:=Il h2;rw[if_neg (by simp[h1 f (by simp)]),if_neg ?_]
  . exact NW r (some f) (fun g hg=>h1 g (WF _ hg)) k1 (fun x hx g hg=>by cases hx;exact k2 g hg)
  . cases p with
    |none=>simp[behind]
    |some x=>simp[behind];exact h3 x rfl f (by simp)
theorem Rv {l:List Fl}:Eh l=0↔l.length<=12/\(∀f∈l,Jx f=0)/\On l:=by
 constructor
 . intro h;have hl:=Pn h;unfold Eh at h;rw[if_neg (by omega)]at h;obtain⟨k1,k2,_⟩:=I8 l none h;exact⟨hl,k1,k2⟩
 . rintro ⟨h1,h2,h3⟩;unfold Eh;rw[if_neg (by omega)];exact NW l none h2 h3 (fun x hx=>by cases hx)
end Go.Proofs.YtieianhejdcgdaaGreatDoor
