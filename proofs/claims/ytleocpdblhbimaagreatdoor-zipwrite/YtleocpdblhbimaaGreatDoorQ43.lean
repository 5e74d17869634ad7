import Derived.Maps.AppendAt
import Derived.Deep.DeepAppendRoom
import Derived.OwnWalk
import Derived.Maps.Own
import Derived.Lib.ConvBytes
import Derived.Deep.RegionHeld3
set_option linter.unusedSimpArgs false
set_option maxHeartbeats 2000000
namespace Go.Proofs.YtleocpdblhbimaaGreatDoor
open Go.RowKit
set_option linter.unusedVariables false
set_option maxRecDepth 100000
theorem Z1q (n size:Nat)(w:World)(hn:n<=9223372036854775807)(hs:size<=100):
 Calls Tryz.prog 62 #[.int .i64 (n:Int),.int .i64 (size:Int)] w fun e w'=>∃v,e=.returned v/\w'.ownsRow w.heap.size 5 1 v size (u8s (Ag n size))/\Below w.heap.size w w':=by
 obtain⟨i0,hi,hz0,hz1,hz2⟩:=info_parts Kl;go_enter Tryz.func62,Tryz.ntmps62
 go_wp2;go_loopw [0,5,7] (fun v0 v5 i wr=>∃k:Nat,k<=size/\i=.int .i64 (k:Int)/\v0=.int .i64 ((n/256^k:Nat):Int)/\Hid (wr.ownsRow w.heap.size 5 1 v5 k (u8s (Ag n k))/\Below w.heap.size w wr)) (fun _ _ i _=>size-(intOf i).toNat)
 case atStart=>exact⟨0,VK _,rfl,by simp,World.ownsRow_nil _ _ _ _,Below.refl _ _⟩
 case round=>
  obtain⟨k,hk,rfl,rfl,HS⟩:=hrel
  by_cases hlt:k<size
  . obtain⟨q,hq⟩:∃q,n/256^k=q:=⟨_,rfl⟩
    have hqn:q<=n:=by rw[<-hq];exact YY _ _
    have hnx:n/256^(k+1)=q/256:=by rw[XE,<-ZJ,hq]
    have hsn:=Qx k n;rw[hq]at hsn ⊢;have HNX:=Ab hnx;have HSN:=Ab hsn;have hz:=(Aa HS).2.size;have hr:((q:Int)).tmod 256=((q%256:Nat):Int):=by rw[Int.tmod_eq_emod_of_nonneg (by omega)];omega
    have hd:((q:Int)).tdiv 256=((q/256:Nat):Int):=by rw[Int.tdiv_eq_ediv_of_nonneg (by omega)];omega
    have hw:IntKind.u8.wrap ((q%256:Nat):Int)=((q%256:Nat):Int):=by
     simp[IntKind.wrap,IntKind.bits,IntKind.signed]
     try omega
    have HO:=Ab ((Aa HS).1.alloc (.cells #[.int .u8 ((q%256:Nat):Int)] 5));have HB:=Ab ((Aa HS).2.alloc hz (.cells #[.int .u8 ((q%256:Nat):Int)] 5));have HC:=Ab (Mk (w:=wr) (x:=.int .u8 ((q%256:Nat):Int)) (t:=5) rfl);clear hq hnx hsn;go_wp2_with (at_builtin;refine wpList_append_own_at _ rfl _ _ 23 rfl w.heap.size 5 i0 (.int .u8 0) 1 1 Tryz.underlying23 hi hz0 hz1 hz2 rfl (by decide) _ k (u8s (Ag n k)) rfl (Aa HO) ⟨wr.heap.size,0,none⟩ 1 1 [.int .u8 ((q%256:Nat):Int)] rfl rfl (fun j u hj=>Pa (Aa HC) hj) (Fd rfl) (by unfold maxLen;omega) (by omega) (by simp;omega) ?_)
    intro v' w3 hO3 hg3 _ _;have HB3:=Ab ((Aa HB).grown hg3 (by simp;omega) (fun g e=>((Aa HS).1.lt g e).1))
    have HO3:Hid (w3.ownsRow w.heap.size 5 1 v' (k+1) (u8s (Ag n (k+1)))):=by
     rw[Aa HSN,K1];exact hO3
    clear hO3 hg3;go_wp2;go_roundw
    case rel=>exact⟨k+1,by omega,by go_num,by rw[Aa HNX,Int.natCast_ediv];rfl,Aa HO3,Aa HB3⟩
    case measure=>simp[intOf];omega
  . obtain rfl:size=k:=by omega
    go_wp2;go_ret;exact⟨_,rfl,(Aa HS).1,(Aa HS).2⟩
theorem JK (a:Option Addr)(n c:Nat)(bs:List Nat)(w:World)(hl:bs.length=n)(hn:n<=7)(h:BytesIn w a bs)(hv:∀x∈bs,x<256):
 Calls Tryz.prog 38 #[.slice a n c] w fun e w'=>e=.returned (.int .i64 ((Al bs:Nat):Int))/\w'=w:=by
 have HB:=Ab h;have HL:=Ab hl
 have hbd:∀k,1<=k->k<=n->Al (bs.drop k)<256^6:=by
  intro k hk1 hk;have h1:=Jp (bs.drop k) (fun x hx=>hv x (VY hx));refine VG h1 (VU (by decide) ?_);rw[VN];omega
 have HBD:=Ab hbd;have hst:∀k,k<n->Al (bs.drop k)=256*Al (bs.drop (k+1))+bs.getD k 0:=fun k hk=>CU (by omega)
 have HST:=Ab hst
 have hv2:∀k,bs.getD k 0<256:=by
  intro k
  by_cases hk:k<bs.length
  . have e:bs.getD k 0=bs[k]:=by simp[List.getD,hk]
    rw[e];exact hv _ (WK hk)
  . simp[List.getD,hk]
 have HV2:=Ab hv2;clear h hl hbd hst hv hv2;go_enter Tryz.func38,Tryz.ntmps38
 go_wp2;go_loopw [3,4] (fun v3 v4 wr=>∃k:Nat,k<=n/\v4=.int .i64 ((k:Int)-1)/\v3=.int .i64 ((Al (bs.drop k):Nat):Int)/\Hid (wr=w)) (fun _ v4 _=>(intOf v4+1).toNat)
 case atStart=>exact⟨n,VC _,rfl,by rw[XV (by rw[Aa HL];exact VC _)];rfl,Ab rfl⟩
 case round=>
  obtain⟨k,hk,rfl,rfl,hwr⟩:=hrel;have hwr':wr=w:=Aa hwr;subst hwr';clear hwr
  cases k with
  |zero=>
   go_wp2;go_ret;exact⟨rfl,rfl⟩
  |succ j=>
   obtain⟨b,o,rfl,hb,hB⟩:=Eu (Aa HB) (by rw[Aa HL];omega);have hc:=hB j (by rw[Aa HL];omega);have hstep:=Aa HST j (by omega);have hbnd:=Aa HBD (j+1) (by omega) hk;have hbj:=Aa HV2 j;have HSTP:=Ab hstep;obtain⟨q,hq⟩:∃q,Al (bs.drop (j+1))=q:=⟨_,rfl⟩
   obtain⟨y,hy⟩:∃y,bs.getD j 0=y:=⟨_,rfl⟩
   rw[hq,hy]at HSTP;rw[hq]at hbnd ⊢;rw[hy]at hc hbj;clear hq hy hstep hB;have hj1:((j+1:Nat):Int)-1=(j:Int):=by omega
   rw[hj1];have hjn:(j:Int)<(n:Int):=by omega
   simp only[Nat.reducePow]at hbnd;go_wp2;go_roundw
   case rel=>exact⟨j,by omega,by go_num,by rw[Aa HSTP];go_num,by first|exact Ab rfl|exact Ab trivial⟩
   case measure=>simp[intOf]
end Go.Proofs.YtleocpdblhbimaaGreatDoor
namespace Go.Proofs.YtleocpdblhbimaaGreatDoor
set_option linter.unusedVariables false
set_option maxRecDepth 100000
def Ia (s:Nat):Nat×Nat:=if s=285 then (258,0)else (3+((s-257)-4*((s-257)/4-1))*2^((s-257)/4-1),(s-257)/4-1)
def A6 (s:Nat):Nat×Nat:=(1+(s-2*(s/2-1))*2^(s/2-1),s/2-1)
theorem A4 (s:Nat)(h1:257<=s)(h2:s<=285):Ia s=samesL.getD (s-257) (0,0):=by
 have:∀k∈List.range 29,Ia (k+257)=samesL.getD k (0,0):=by decide+kernel
 have:=this (s-257) (by simp;omega)
 rwa [Nat.sub_add_cancel h1]at this
theorem A5 (s:Nat)(h2:s<=29):A6 s=farsL.getD s (0,0):=by
 have:∀k∈List.range 30,A6 k=farsL.getD k (0,0):=by decide+kernel
 exact this s (by simp;omega)
def Df (row:List Bool)(u:US):Nat×US:=
 let n:=uget row 16 {u with p:=(u.p+7)/8*8}
 let t:=uget row 16 n.2
 (n.1,if t.2.e=0/\n.1+t.1≠65535 then Ck 4 t.2 else t.2)
def Ey (row:List Bool)(u:US):US:=
 let x:=Df row u
 if x.2.e=0/\3000<x.2.out.length+x.1 then Ck 2 x.2 else ustore row x.1 x.2
theorem Gu (row:List Bool)(k:Nat)(u:US)(h:u.e≠0):ustore row k u=u:=by
 cases k with
 |zero=>rfl
 |succ k=>unfold ustore;rw[if_neg h]
theorem AD (row:List Bool)(n:Nat)(u:US)(h:u.p<=row.length):(uget row n u).2.p<=row.length:=by
 unfold uget
 split
 . split
   . exact h
   . show u.p+n<=row.length;omega
 . exact h
theorem Eg (row:List Bool)(n:Nat)(u:US):(uget row n u).2.out=u.out:=by
 unfold uget
 split
 . split<;>rfl
 . rfl
theorem DH (row:List Bool)(u v1 v2:US)(p' r1 r2:Nat)(hp:(u.p+7)/8*8=p')(h1:uget row 16 {u with p:=p'}=(r1,v1))(h2:uget row 16 v1=(r2,v2)):
 Ey row u=if v2.e≠0 then v2 else if r1+r2≠65535 then {v2 with e:=4}else if 3000<v2.out.length+r1 then {v2 with e:=2}else ustore row r1 v2:=by
 have hx:Df row u=(r1,if v2.e=0/\r1+r2≠65535 then Ck 4 v2 else v2):=by
  simp only[Df,hp,h1,h2]
 unfold Ey;simp only[hx]
 by_cases e:v2.e=0
 . by_cases e2:r1+r2=65535
   . by_cases e3:3000<v2.out.length+r1
     . simp[e,e2,e3,Ck]
     . simp[e,e2,e3]
   . simp[e,e2,Ck,Gu]
 . simp[e,Gu]
theorem KS (row:List Bool)(n:Nat)(u:US):(uget row n u).2.ks=u.ks:=by
 unfold uget
 split
 . split<;>rfl
 . rfl
def Sw (d k:Nat)(u:US):US:=if u.out.length<d then {u with e:=9}else if 3000<u.out.length+k then {u with e:=2}else ucopy d k u
theorem Re (row:List Bool):∀(k:Nat) (x:US),x.out.length<=3000->3000<x.out.length+k->(ustore row k x).e≠0
 |0,x,h1,h2=>by omega
 |k+1,x,h1,h2=>by
  by_cases e:x.e=0
  . unfold ustore;rw[if_pos e];obtain⟨c,y,hg⟩:∃c y,uget row 8 x=(c,y):=⟨_,_,rfl⟩
    have ho:y.out=x.out:=by have:=Eg row 8 x;rw[hg]at this;exact this
    rw[hg];show (ustore row k (Hy c y)).e≠0
    by_cases e2:y.e=0
    . by_cases e3:y.out.length=3000
      . have:Hy c y= {y with e:=2}:=by unfold Hy;rw[if_pos e2,if_pos e3]
        rw[this,Gu _ _ _ (show (2:Int)≠0 by decide)];exact(by decide:(2:Int)≠0)
      . have:Hy c y= {y with out:=y.out++ [c]}:=by unfold Hy;rw[if_pos e2,if_neg e3]
        rw[this];refine Re row k _ ?_ ?_
        . show (y.out++ [c]).length<=3000
          rw[VB,ho];rw[ho]at e3;simp only[VJ,WO];omega
        . show 3000<(y.out++ [c]).length+k
          rw[VB,ho];simp only[VJ,WO];omega
    . have:Hy c y=y:=by unfold Hy;rw[if_neg e2]
      rw[this,Gu _ _ _ e2];exact e2
  . rw[Gu _ _ _ e];exact e
theorem DG (row:List Bool)(u:US)(ho:u.out.length<=3000)(h:(ustored row u).e=0):Ey row u=ustored row u:=by
 have hx:ustored row u=ustore row (Df row u).1 (Df row u).2:=rfl
 have h1:(Df row u).2.out=u.out:=by
  unfold Df;dsimp only
  split
  . unfold Ck
    split
    . show (uget row 16 _).2.out=_
      rw[Eg,Eg]
    . rw[Eg,Eg]
  . rw[Eg,Eg]
 unfold Ey;dsimp only;rw[if_neg,hx];rintro ⟨_,h3⟩;rw[hx]at h;exact Re row _ _ (by rw[h1];exact ho) h3 h
def US0:US:= {p:=0,out:= [],ks:= [],e:=0}
def Wp (row:List Bool)(lb:List Int)(u:US):Nat×US:=
 if (uplace lb row u).2.e≠0 then (0,(uplace lb row u).2)
 else if 29<(uplace lb row u).1 then (0,{(uplace lb row u).2 with e:=8})
 else ((A6 (uplace lb row u).1).1+(uget row (A6 (uplace lb row u).1).2 (uplace lb row u).2).1,(uget row (A6 (uplace lb row u).1).2 (uplace lb row u).2).2)
theorem Z0 (l:List Int)(row:List Bool)(p:Nat)(hp:p<=row.length):∀f n,p+(Gm l row p f n).2.1<=row.length
 |0,n=>by simpa[Gm]using hp
 |f+1,n=>by
  unfold Gm
  split
  . simpa using hp
  . split
    . show p+n<=row.length
      omega
    . exact Z0 l row p hp f (n+1)
theorem Xw (l:List Int)(row:List Bool)(u:US)(hp:u.p<=row.length):(uplace l row u).2.p<=row.length:=by
 unfold uplace
 split
 . exact Z0 l row u.p hp 15 1
 . exact hp
def Fu (row:List Bool)(lb:List Int)(k:Nat)(u:US):US:=
 if k<256 then (if 3000<u.out.length+1 then {u with e:=2}else {u with out:=u.out++ [k]})
 else if 285<k then {u with e:=8}
 else if (uget row (Ia k).2 u).2.e≠0 then (uget row (Ia k).2 u).2
 else if (Wp row lb (uget row (Ia k).2 u).2).2.e≠0 then (Wp row lb (uget row (Ia k).2 u).2).2
 else Sw (Wp row lb (uget row (Ia k).2 u).2).1 ((Ia k).1+(uget row (Ia k).2 u).1) (Wp row lb (uget row (Ia k).2 u).2).2
def Z4x (row:List Bool)(la lb:List Int):Nat->Nat->US->US
 |0,_,u=>u
 |f+1,k,u=>if k=256 then u
  else if (Fu row lb k u).e≠0 then Fu row lb k u
  else if (uplace la row (Fu row lb k u)).2.e≠0 then (uplace la row (Fu row lb k u)).2
  else Z4x row la lb f (uplace la row (Fu row lb k u)).1 (uplace la row (Fu row lb k u)).2
def Nf (row:List Bool)(la lb:List Int)(f:Nat)(u:US):US:=
 if (uplace la row u).2.e≠0 then (uplace la row u).2 else Z4x row la lb f (uplace la row u).1 (uplace la row u).2
theorem Ii (l:List Int)(row:List Bool)(u:US):(uplace l row u).2.out=u.out/\(uplace l row u).2.ks=u.ks/\u.p<=(uplace l row u).2.p:=by
 unfold uplace
 split
 . exact⟨rfl,rfl,Nat.le_add_right _ _⟩
 . exact⟨rfl,rfl,VC _⟩
theorem FY (row:List Bool)(n:Nat)(u:US):u.p<=(uget row n u).2.p:=by
 unfold uget
 split
 . split
   . exact VC _
   . exact Nat.le_add_right _ _
 . exact VC _
theorem DL (row:List Bool)(l:List Int)(u:US)(hp:u.p<=row.length):(Wp row l u).2.out=u.out/\(Wp row l u).2.ks=u.ks/\u.p<=(Wp row l u).2.p/\(Wp row l u).2.p<=row.length:=by
 obtain⟨h1,h2,h3⟩:=Ii l row u;have h4:=Xw l row u hp;unfold Wp
 split
 . exact⟨h1,h2,h3,h4⟩
 . split
   . exact⟨h1,h2,h3,h4⟩
   . exact⟨(Eg row _ _).trans h1,(KS row _ _).trans h2,WC h3 (FY _ _ _),AD row _ _ h4⟩
theorem P4 (d k:Nat)(u:US)(h:(Sw d k u).e=0):(Sw d k u).p=u.p/\(Sw d k u).ks=u.ks/\(u.out.length<=3000->(Sw d k u).out.length<=3000):=by
 unfold Sw at h ⊢
 split
 . rename_i hc
   rw[if_pos hc]at h;exact absurd (show (9:Int)=0 from h) (by decide)
 . rename_i hc
   rw[if_neg hc]at h
   split
   . rename_i hd
     rw[if_pos hd]at h;exact absurd (show (2:Int)=0 from h) (by decide)
   . rename_i hd
     rw[if_neg hd]at h;exact J9 h
end Go.Proofs.YtleocpdblhbimaaGreatDoor
namespace Go.Proofs.YtleocpdblhbimaaGreatDoor
open Go.RowKit
set_option linter.unusedVariables false
set_option maxRecDepth 100000
theorem Uh {w:World}{B n:Nat}{v:Value}{ys:List Nat}(h:w.ownsRow B 5 1 v n (u8s ys)):∃a c,v=.slice a n c/\PkIn w a c ys/\n<=c/\ys.length=n/\∀g o,a=some ⟨g,o,none⟩->B<=g:=by
 have hl:ys.length=n:=by have:=h.1;simpa using this
 obtain⟨_,a,c,hv,hB⟩:=BytesIn.ofOwn h;subst hv
 rcases h.2 with ⟨h1,h2⟩|⟨g,cap,cur,h1,h2,h3,h4,_⟩
 . cases h1
   exact⟨none,0,rfl,⟨hB,fun _=>rfl⟩,by omega,hl,fun g o e=>by cases e⟩
 . cases h1
   exact⟨_,_,rfl,⟨hB,fun e=>by cases e⟩,h4,hl,fun g' o e=>by cases e;exact h2⟩
theorem Z0s (a:Option Addr)(p n cap:Nat)(h:p<=n)(hn:n<=cap)(hnil:a=none->cap=0):
 ∃a',(∀W:World,(Instr.slice 23 (.slice a n cap) (some (.int .i64 (p:Int))) none none).run Tryz.prog W=.ok (.slice a' (n-p) (cap-p)) W)/\(∀b o,a=some ⟨b,o,none⟩->p<n->a'=some ⟨b,o+p,none⟩)/\(a'=none->cap-p=0):=by
 have hs:=Tryz.sizeOf5;have ht:=Tryz.underlying23;have h1:(p:Int)<=(n:Int):=by omega
 cases a with
 |none=>
  have:=hnil rfl
  subst this;obtain rfl:n=0:=by omega
  obtain rfl:p=0:=by omega
  exact⟨none,fun W=>by simp[go_sem,ht],fun b o e=>(by cases e),fun _=>rfl⟩
 |some ad=>
  by_cases hp:cap=p
  . subst hp;obtain rfl:n=cap:=by omega
    refine⟨some ad,fun W=> ?_,fun b o e hlt=>by omega,fun e=>by cases e⟩;simp[go_sem,ht,hs]
  . have h2:(p:Int)<(cap:Int):=by omega
    refine⟨some (ad.add p),fun W=> ?_,fun b o e hlt=> ?_,fun e=>by cases e⟩
    . simp[go_sem,ht,hs,h1,hp]
      try omega
    . cases e
      unfold Addr.add
      split<;>simp_all
def PIn (w:World)(v:Value)(bs:List Nat):Prop:=∃a c,v=.slice a bs.length c/\bs.length<=c/\PkIn w a c bs
theorem PIn.below {w w':World}{v:Value}{bs:List Nat}(h:PIn w v bs)(hB:Below w.heap.size w w'):PIn w' v bs:=by
 obtain⟨a,c,h1,h2,h3⟩:=h;exact⟨a,c,h1,h2,h3.below hB⟩
theorem PIn.nil (w:World):PIn w (.slice none 0 0) []:=⟨none,0,rfl,VC _,.inl rfl,fun _=>rfl⟩
theorem S6 (n:Nat):(Builtin.zeroCells (Value.int .u8 0).cells n).toList=u8s (List.replicate n 0):=by
 show (Builtin.zeroCells #[Value.int .u8 0] n).toList=_
 unfold Builtin.zeroCells;apply List.ext_getElem?
 intro i
 by_cases h:i<n
 . simp[h,Nat.mod_one]
 . simp[h]
theorem Od (w:World)(ty:TypeId)(n:Nat)(h0:0<n)(hn:n<=281474976710656):
 ∃c w',(Builtin.append_ #[23,3] ty #[.slice none 0 0,.int .i64 (n:Int)]).run Tryz.prog w=.ok (.slice (some ⟨w.heap.size,0,none⟩) n c) w'/\n<=c/\c<=maxLen/\w'.heap[w.heap.size]? =some (.cells (u8s (List.replicate c 0)).toArray 5 (0,0))/\w.grownBy w' none:=by
 obtain⟨i0,hi,hz0,hz1,hz2⟩:=info_parts Kl;have hge:=grownCap_ge w n 0 5;have hle:=grownCap_le_maxLen w n 0 5 (by unfold maxLen;omega);have hnz:n≠0:=by omega
 have h63':¬(9223372036854775807<(n:Int)):=by omega
 have hneg:¬((n:Int)<0):=by omega
 have h48:¬(281474976710656<(n:Int)):=by omega
 have h48':¬(281474976710656<Builtin.nextslicecap n 0):=by rw[nextslicecap_zero h0];omega
 have hw:IntKind.i64.wrap (n:Int)=(n:Int):=by simp[IntKind.wrap,IntKind.signed,IntKind.bits];omega
 refine⟨grownCap w n 0 5,w.drew.alloc (.cells (Builtin.zeroCells (Value.int .u8 0).cells n++Builtin.zeroCells (Value.int .u8 0).cells (grownCap w n 0 5-n)) 5), ?_,hge,hle, ?_, ?_⟩
 . simp[Builtin.append_,run_underlying Tryz.underlying23,run_underlying Tryz.underlying3,sizeOf,typeInfo,zeroValue,hi,hz0,hz1,hz2,asInt,asIntOf,hw,hneg,h48,hnz,h63',h48',Question.forced,run_firstCells_none,newRow,grownCap]
 . have:=heap_alloc_new w.drew (.cells (Builtin.zeroCells (Value.int .u8 0).cells n++Builtin.zeroCells (Value.int .u8 0).cells (grownCap w n 0 5-n)) 5)
   rw[show w.drew.heap.size=w.heap.size from rfl]at this;rw[this]
   congr 2
   apply Array.ext'
   rw[Array.toList_append,S6,S6];show _=u8s (List.replicate (grownCap w n 0 5) 0)
   unfold u8s;rw[<-WS,XY]
   congr 2
   omega
 . exact⟨rfl,rfl,rfl,by simp,fun k hk _=>Below.heap_alloc w.drew _ k hk⟩
theorem Kb (w:World){ops:Array Oper}{rest:List Oper}{o:Oper}{a:Act}{Q:Exit->Act->World->Prop}(hgd:o.guard=none)(s x:Operand)
 (ho:o.op=.call {callee:=.builtin .append,args:= #[s,x],argTypes:= #[23,3]}) (n:Nat) (hs:a.eval s=.slice none 0 0) (hx:a.eval x=.int .i64 (n:Int)) (h0:0<n) (hn:n<=281474976710656)
 (h:∀c w',n<=c->c<=maxLen->w'.heap[w.heap.size]? =some (.cells (u8s (List.replicate c 0)).toArray 5 (0,0))->w.grownBy w' none->wpList Tryz.prog ops Q rest (a.put o.dst (.slice (some ⟨w.heap.size,0,none⟩) n c)) w'):
 wpList Tryz.prog ops Q (o::rest) a w:=by
 refine wpList_plain hgd fun K hK=> ?_
 obtain⟨c,w',hr,h2,h3,h4,h5⟩:=Od w o.type n h0 hn;unfold Oper.wp execOp;simp only[ho,resolve,invoke,builtin,Sem.run_bind,Sem.run_pure,Result.andThen_ok,ZI,WP,ZF,hs,hx,hr];exact hK _ _ (h c w' h2 h3 h4 h5)
theorem LC (n:Nat)(w:World)(h0:0<n)(hn:n<=281474976710656):Calls Tryz.prog 47 #[.slice none 0 0,.int .i64 (n:Int)] w fun e w'=>∃c,n<=c/\e=.returned (.slice (some ⟨w.heap.size,0,none⟩) 0 c)/\w'.ownsRow w.heap.size 5 1 (.slice (some ⟨w.heap.size,0,none⟩) 0 c) 0 (u8s [])/\Below w.heap.size w w':=by
 go_enter Tryz.func47,Tryz.ntmps47
 go_wp2_with (refine Kb w rfl (.tmp 20) (.tmp 21) rfl n rfl rfl h0 hn ?_)
 intro c w2 hc1 hc2 hg hgr;have HB:=Ab (Gz (Below.refl w.heap.size w) hgr (VC _));have HO:Hid (w2.ownsRow w.heap.size 5 1 (.slice (some ⟨w.heap.size,0,none⟩) 0 c) 0 (u8s [])):=⟨rfl,.inr ⟨w.heap.size,c,_,rfl,VC _,hg,VK _,hc2,by simp,rfl⟩⟩
 clear hg hgr;go_wp2;go_ret;exact⟨c,hc1,rfl,Aa HO,Aa HB⟩
theorem Vu (w:World)(ty:TypeId)(base x:Option Addr)(n cap c:Nat)(h:n<=cap):
 (Builtin.append_ #[23,23] ty #[.slice base n cap,.slice x 0 c]).run Tryz.prog w=.ok (.slice base n cap) w:=by
 obtain⟨i0,hi,hz0,hz1,hz2⟩:=info_parts Kl
 have hf:(Builtin.firstCells i0.size 0 (.slice x 0 c)).run Tryz.prog w=.ok #[] w:=by
  cases x with
  |none=>exact run_firstCells_none w i0.size 0 0 c
  |some b=>exact run_firstCells_some w i0.size 0 b 0 c [] (by simp) (by simp)
 rw[hz1]at hf
 cases base<;>simp[Builtin.append_,run_underlying Tryz.underlying23,sizeOf,typeInfo,hi,hz1,Builtin.lenOf,hf,h,storeCells]
theorem Hw (w:World){ops:Array Oper}{rest:List Oper}{o:Oper}{a:Act}{Q:Exit->Act->World->Prop}(hgd:o.guard=none)(s x:Operand)
 (ho:o.op=.call {callee:=.builtin .append,args:= #[s,x],argTypes:= #[23,23]}) (base y:Option Addr) (n cap c:Nat) (hs:a.eval s=.slice base n cap) (hx:a.eval x=.slice y 0 c) (hn:n<=cap)
 (h:wpList Tryz.prog ops Q rest (a.put o.dst (.slice base n cap)) w):wpList Tryz.prog ops Q (o::rest) a w:=by
 refine wpList_plain hgd fun K hK=> ?_
 unfold Oper.wp execOp;simp only[ho,resolve,invoke,builtin,Sem.run_bind,Sem.run_pure,Result.andThen_ok,ZI,WP,ZF,hs,hx,Vu w o.type base y n cap c hn];exact hK _ _ h
theorem KZ (w:World):Calls Tryz.prog 47 #[.slice none 0 0,.int .i64 0] w fun e w'=>e=.returned (.slice none 0 0)/\w'=w:=by
 go_enter Tryz.func47,Tryz.ntmps47
 go_wp2;go_ret
 trivial
def Ig (ps:List (Option Addr×Nat×List Nat)):Nat->List Nat
 |0=> []
 |k+1=>Ig ps k++(ps.getD k (none,0,[])).2.2
theorem Z2j (ps:List (Option Addr×Nat×List Nat)){j k:Nat}(h:j<=k):(Ig ps j).length<=(Ig ps k).length:=by
 induction k with
 |zero=>rw[show j=0 by omega];exact VC _
 |succ k ih=>
  by_cases e:j=k+1
  . rw[e];exact VC _
  . have:=ih (by omega)
    rw[Ig,VB];omega
theorem R0 {w:World}{b o:Nat}{xs:List Nat}(h:Bytes w b o xs):∀j u,(u8s xs)[j]? =some u->w.cell? ((⟨b,o,none⟩:Addr).add j)=some u:=by
 intro j u hj;have e:(⟨b,o,none⟩:Addr).add j=⟨b,o+j,none⟩:=by unfold Addr.add;split<;>simp_all
 have hj2:j<xs.length:=by
  by_cases c:j<xs.length
  . exact c
  . rw[WN (by simp[u8s];omega)]at hj;cases hj
 have:=h j hj2
 rw[e,this];simp[u8s,hj2]at hj
 subst hj;simp[List.getD,hj2]
theorem Z0f (xs:List Nat):∀u∈u8s xs,u.oneCell'=true:=by intro u hu;obtain⟨x,_,rfl⟩:=XC.1 hu;rfl
theorem EX (b o len cap:Nat)(ps:List (Option Addr×Nat×List Nat))(w:World)(hb:b<w.heap.size)(hc:∀j,j<len->w.cell? ⟨b,o+j,none⟩=some (.slice (ps.getD j (none,0,[])).1 (ps.getD j (none,0,[])).2.2.length (ps.getD j (none,0,[])).2.1))
 (hr:∀j,j<len->BytesIn w (ps.getD j (none,0,[])).1 (ps.getD j (none,0,[])).2.2) (hsum:(Ig ps len).length<=281474976710656) (hlen:len<=100):
 Calls Tryz.prog 29 #[.slice (some ⟨b,o,none⟩) len cap] w fun e w'=>∃a c,(Ig ps len).length<=c/\e=.returned (.slice a (Ig ps len).length c)/\BytesIn w' a (Ig ps len)/\Below w.heap.size w w'/\(a=none->c=0):=by
 obtain⟨i0,hi,hz0,hz1,hz2⟩:=info_parts Kl;have HC:=Ab hc;have HR:=Ab hr;obtain⟨T,hT⟩:∃T,(Ig ps len).length=T:=⟨_,rfl⟩
 rw[hT]at hsum;have HTT:=Ab hT;have HS:Hid (∀k,k<=len->(Ig ps k).length<=T):=Ab (fun k hk=>by rw[<-hT];exact Z2j ps hk);clear hc hr hT;go_enter Tryz.func29,Tryz.ntmps29
 go_wp2;go_loop [3,11] (fun v3 v11=>∃k:Nat,k<=len/\v11=.int .i64 (k:Int)/\v3=.int .i64 ((Ig ps k).length:Int)) (fun _ v11=>len-(intOf v11).toNat)
 case atStart=>exact⟨0,VK _,rfl,rfl⟩
 case round=>
  obtain⟨k,hk,rfl,rfl⟩:=hrel
  by_cases hlt:k<len
  . have c1:=Aa HC k hlt;have hs:=Aa HS (k+1) (by omega);have HN:Hid ((Ig ps (k+1)).length=(Ig ps k).length+(ps.getD k (none,0,[])).2.2.length):=Ab (by rw[Ig,VB]);rw[Aa HN]at hs;generalize (ps.getD k (none,0,[])).2.2.length=m at*;generalize (ps.getD k (none,0,[])).2.1=mc at*;generalize (ps.getD k (none,0,[])).1=g at*;generalize (Ig ps k).length=L at*;go_wp2;go_round
    case rel=>exact⟨k+1,by omega,by go_num,by rw[Aa HN];go_num⟩
    case measure=>simp[intOf];omega
  . obtain rfl:len=k:=by omega
    rw[Aa HTT]
    by_cases hT0:T=0
    . subst hT0;go_wp2_with fail
      refine(KZ w).mono ?_;rintro e w2 ⟨rfl,rfl⟩;go_wp2;go_loop [6,27] (fun v6 v27=>∃k:Nat,k<=len/\v27=.int .i64 (k:Int)/\v6=.slice none 0 0) (fun _ v27=>len-(intOf v27).toNat)
      case atStart=>exact⟨0,VK _,rfl,rfl⟩
      case round=>
       obtain⟨k,hk2,rfl,rfl⟩:=hrel
       by_cases hlt2:k<len
       . have c1:=Aa HC k hlt2;have hs:=Aa HS (k+1) (by omega);rw[Ig,VB]at hs;have h0:(ps.getD k (none,0,[])).2.2.length=0:=by omega
         rw[h0]at c1;generalize (ps.getD k (none,0,[])).2.1=mc at*;generalize (ps.getD k (none,0,[])).1=g at*;clear hs h0;go_wp2_with (at_builtin;refine Hw _ rfl (.tmp 31) (.tmp 32) rfl none g 0 0 mc rfl rfl (VC _) ?_)
         go_round
         case rel=>exact⟨k+1,by omega,by go_num,rfl⟩
         case measure=>simp[intOf];omega
       . obtain rfl:len=k:=by omega
         go_wp2;go_ret;exact⟨none,0,by rw[Aa HTT];exact VC _,by rw[Aa HTT];rfl,.inl (ZG.1 (Aa HTT)),Below.refl _ _,fun _=>rfl⟩
    . go_wp2_with fail
      refine(LC T w (by omega) hsum).mono ?_;rintro e w2 ⟨c,hTc,rfl,hO2,hB2⟩;have HO2:=Ab hO2;have HB2:=Ab hB2;clear hO2 hB2;go_wp2;go_loopw [6,27] (fun v6 v27 wr=>∃k:Nat,k<=len/\v27=.int .i64 (k:Int)/\v6=.slice (some ⟨w.heap.size,0,none⟩) (Ig ps k).length c/\Hid (wr.ownsRow w.heap.size 5 1 (.slice (some ⟨w.heap.size,0,none⟩) (Ig ps k).length c) (Ig ps k).length (u8s (Ig ps k)))/\Hid (Below w.heap.size w wr)) (fun _ v27 _=>len-(intOf v27).toNat)
      case atStart=>exact⟨0,VK _,rfl,rfl,HO2,HB2⟩
      case round=>
       obtain⟨k,hk2,rfl,rfl,HO,HBr⟩:=hrel
       by_cases hlt2:k<len
       . have c1:=((Aa HBr).cell (p:=⟨b,o+k,none⟩) hb).trans (Aa HC k hlt2);have hrow:=(Aa HR k hlt2).below (Aa HBr) (VC _);have hs:=Aa HS (k+1) (by omega);have HN:Hid (Ig ps (k+1)=Ig ps k++(ps.getD k (none,0,[])).2.2):=Ab rfl;rw[Aa HN,VB]at hs;generalize (ps.getD k (none,0,[])).2.2=xs at*;generalize (ps.getD k (none,0,[])).1=g at*;generalize (ps.getD k (none,0,[])).2.1=mc at*
         rcases hrow with rfl|⟨gb,go,rfl,hgb,hrow⟩
         . have HN2:Hid (Ig ps (k+1)=Ig ps k):=Ab (by rw[Aa HN,WZ]);simp only[WO]at c1 hs;generalize hL:(Ig ps k).length=L at*;clear HN;go_wp2_with (at_builtin;refine Hw _ rfl (.tmp 31) (.tmp 32) rfl _ g L c mc rfl rfl (by omega) ?_)
           go_roundw
           case rel=>exact⟨k+1,by omega,by go_num,by rw[Aa HN2,hL],Ab (by rw[Aa HN2,hL];exact Aa HO),HBr⟩
           case measure=>simp[intOf];omega
         . have HRC:=Ab (R0 hrow);obtain⟨m,hm⟩:∃m,xs.length=m:=⟨_,rfl⟩
           obtain⟨L,hL⟩:∃L,(Ig ps k).length=L:=⟨_,rfl⟩
           rw[hm]at c1 hs;rw[hL]at hs HO ⊢;have HM:=Ab hm;have HLL:=Ab hL;clear hrow hm hL;go_wp2_with (at_builtin;refine wpList_append_own_spare _ rfl (.tmp 31) (.tmp 32) 23 rfl w.heap.size 5 i0 1 Tryz.underlying23 hi hz1 w.heap.size L c (u8s (Ig ps k)) rfl (Aa HO) ⟨gb,go,none⟩ m mc (u8s xs) rfl (by simp[u8s,Aa HM]) (Aa HRC) (Z0f xs) (by omega) ?_)
           intro w4 hO4 hgrow
           have HO4:Hid (w4.ownsRow w.heap.size 5 1 (.slice (some ⟨w.heap.size,0,none⟩) (Ig ps (k+1)).length c) (Ig ps (k+1)).length (u8s (Ig ps (k+1)))):=by
            rw[Aa HN,VB,Aa HLL,Aa HM];show w4.ownsRow w.heap.size 5 1 _ (L+m) (List.map _ (Ig ps k++xs))
            rw[WS];exact hO4
           have HB4:=Ab ((Aa HBr).grown hgrow (Aa HBr).size (fun g e=>by cases e;exact VC _));have HLN:Hid ((Ig ps (k+1)).length=L+m):=Ab (by rw[Aa HN,VB,Aa HLL,Aa HM]);clear hO4 hgrow c1 HRC;go_wp2;go_roundw
           case rel=>exact⟨k+1,by omega,by go_num,by rw[Aa HLN],HO4,HB4⟩
           case measure=>simp[intOf];omega
       . obtain rfl:len=k:=by omega
         rw[Aa HTT]at HO ⊢;go_wp2;go_ret;exact⟨_,c,by rw[Aa HTT];exact hTc,by rw[Aa HTT];rfl,BytesIn.own (Aa HO),Aa HBr,fun e=>by cases e⟩
theorem Ao (n size:Nat)(w:World)(hn:n<=9223372036854775807)(hs:size<=100):
 Calls Tryz.prog 62 #[.int .i64 (n:Int),.int .i64 (size:Int)] w fun e w'=>∃a l c,e=.returned (.slice a l c)/\PIn w' (.slice a l c) (Ag n size)/\Below w.heap.size w w':=by
 refine(Z1q n size w hn hs).mono ?_;rintro e w' ⟨v,rfl,h1,h2⟩;obtain⟨a,c,rfl,k1,k2,k3,_⟩:=Uh h1;exact⟨a,size,c,rfl,⟨a,c,by rw[k3],by rw[k3];exact k2,k1⟩,h2⟩
inductive PIns (w:World):List Value->List (List Nat)->Prop
 |nil:PIns w [] []
 |cons {v:Value} {b:List Nat} {vs:List Value} {bs:List (List Nat)}:PIn w v b->PIns w vs bs->PIns w (v::vs) (b::bs)
theorem PIns.rows {w:World}{vs:List Value}{bs:List (List Nat)}(h:PIns w vs bs):∃ps:List (Option Addr×Nat×List Nat),vs=ps.map (fun p=>.slice p.1 p.2.2.length p.2.1)/\bs=ps.map (fun p=>p.2.2)/\∀p∈ps,BytesIn w p.1 p.2.2:=by
 induction h with
 |nil=>exact⟨[],rfl,rfl,fun p hp=>by cases hp⟩
 |cons h1 _ ih=>
  obtain⟨a,c,rfl,_,h2⟩:=h1;obtain⟨ps,rfl,rfl,h3⟩:=ih;refine⟨(a,c,_)::ps,rfl,rfl,fun p hp=> ?_⟩
  rcases WE.1 hp with rfl|hp
  . exact h2.1
  . exact h3 p hp
theorem F7:∀(ps:List (Option Addr×Nat×List Nat)) (k:Nat),k<=ps.length->Ig ps k=((ps.take k).map (fun p=>p.2.2)).flatten
 |ps,0,_=>by simp[Ig]
 |ps,k+1,h=>by
  rw[Ig,F7 ps k (by omega),ZA,WS,List.flatten_append];simp[List.getD,VR (show k<ps.length by omega)]
theorem Cq (w:World)(vs:List Value)(bs:List (List Nat))(A:Array Value)(t:TypeId)(n cap:Nat)(h:PIns w vs bs)(hA:A=vs.toArray)(hn:vs.length=n)(hl:n<=100)(hb:bs.flatten.length<=281474976710656):
 Calls Tryz.prog 29 #[.slice (some ⟨w.heap.size,0,none⟩) n cap] (w.alloc (.cells A t)) fun e w'=>∃a l c,e=.returned (.slice a l c)/\PIn w' (.slice a l c) bs.flatten/\Below w.heap.size w w':=by
 obtain⟨ps,rfl,rfl,h3⟩:=h.rows;have hpl:ps.length=n:=by simpa using hn
 subst hpl;have e:Ig ps ps.length=(ps.map (fun p=>p.2.2)).flatten:=by rw[F7 ps _ (VC _),VP (VC _)]
 refine(EX w.heap.size 0 ps.length cap ps _ (by simp) (fun j hj=> ?_) (fun j hj=> ?_) (by rw[e];exact hb) hl).mono ?_
 . rw[WI,cell_of_row _ _ _ _ _ _ (heap_alloc_new w _),hA];simp[List.getD,hj]
 . have hm:ps.getD j (none,0,[])∈ps:=by simp[List.getD,hj]
   exact(h3 _ hm).alloc _
 . rintro e' w' ⟨a,c,h1,rfl,h2,h4,h5⟩;rw[e]at h1 h2 ⊢;exact⟨a,_,c,rfl,⟨a,c,rfl,h1,h2,h5⟩,((Below.refl w.heap.size w).alloc (VC _) _).trans (h4.mono (by simp))⟩
abbrev N9:Array MapEntry:= #[{key:=.bool true,val:=.int .i64 1,born:=0}]
theorem Z1o (X:World):(Instr.mapUpdate 111 (.map (some X.heap.size)) (.bool true) (.int .i64 1)).run Tryz.prog (X.alloc (.map #[] 0))=.ok () (X.alloc (.map N9 1)):=by
 have hb:(X.alloc (.map #[] 0)).heap[X.heap.size]? =some (.map #[] 0):=heap_alloc_new X _;have hk:=Tryz.underlying4;have hf:Instr.findNow .bool (.bool true) ([]:List MapEntry) 0=some none:=rfl;have hc:(Instr.checkKey false 10000 4 (.bool true)).run Tryz.prog (X.alloc (.map #[] 0))=.ok () (X.alloc (.map #[] 0)):=MapKept.run_checkKey (k:=.bool true) hk (by simp[MapKept.IsKey]) false 9999
 have he: {X.alloc (.map #[] 0)with heap:=(X.alloc (.map #[] 0)).heap.setIfInBounds X.heap.size (.map N9 1)}=X.alloc (.map N9 1):=by
  have e1:(X.alloc (.map #[] 0)).heap.setIfInBounds X.heap.size (.map N9 1)=(X.alloc (.map N9 1)).heap:=by
   show (X.heap.push (.map #[] 0)).setIfInBounds X.heap.size (.map N9 1)=X.heap.push (.map N9 1)
   apply Array.ext
   . simp
   . intro i h1 h2;simp only[Array.size_setIfInBounds,YS]at h1;rw[Array.getElem_setIfInBounds]
     by_cases hi:X.heap.size=i
     . subst hi;simp
     . rw[if_neg hi,Array.getElem_push_lt (by omega),Array.getElem_push_lt (by omega)]
     . simpa using h1
  rw[e1];rfl
 simp only[Instr.mapUpdate,Sem.run_bind,run_underlying Tryz.underlying111,MapKept.run_getObj_map hb,hc,MapKept.run_findKey hk hf,MapKept.run_setObj_map _ hb,Result.andThen];exact congrArg (Result.ok ()) he
theorem QT (W:World)(r:Nat)(g:Bool)(hb:W.heap[r]? =some (.map N9 1)):(Instr.lookup 111 (.map (some r)) (.bool g) false).run Tryz.prog W=.ok (.int .i64 (if g then 1 else 0)) W:=by
 have hk:=Tryz.underlying4;have hc:(Instr.checkKey false 10000 4 (.bool g)).run Tryz.prog W=.ok () W:=MapKept.run_checkKey (k:=.bool g) hk (by simp[MapKept.IsKey]) false 9999;have hf:Instr.findNow .bool (.bool g) N9.toList 0=some (if g then some (0,.int .i64 1)else none):=by cases g<;>rfl
 have hz:(zeroValue 3).run Tryz.prog W=.ok (.int .i64 0) W:=Tryz.zeroValue3 W
 cases g
 . simp[Instr.lookup,run_underlying Tryz.underlying111,MapKept.run_getObj_map hb,hc,MapKept.run_findKey hk hf,hz,Result.andThen]
 . simp[Instr.lookup,run_underlying Tryz.underlying111,MapKept.run_getObj_map hb,hc,MapKept.run_findKey hk hf,Result.andThen]
end Go.Proofs.YtleocpdblhbimaaGreatDoor
namespace Go.Proofs.YtleocpdblhbimaaGreatDoor
open Go.RowKit
set_option linter.unusedVariables false
set_option maxRecDepth 100000
structure EWd (x:En):Prop where
 st:0<=x.f.stamp/\x.f.stamp<4294967296
 nd:0<=x.f.node/\x.f.node<65536
 nm:x.f.name.length<=12000
 bl:x.f.bytes.length<=12000
 pl:x.pk.length<=12000
 cr:x.crc<4294967296
 mt:x.meth<65536
theorem AH:∀(l:List En),(∀x∈l,EWd x)->(Ar l).length<=24041*l.length
 | [],_=>by simp[Ar]
 |x::r,h=>by
  have h1:=AH r (fun y hy=>h y (WM _ hy));have h2:=(h x (by simp)).nm;have h3:=(h x (by simp)).pl;rw[Ar,VB,Gc,VJ];omega
theorem Yf:∀(l:List En) (p:Nat),(∀x∈l,EWd x)->(Am p l).length<=12057*l.length
 | [],p,_=>by simp[Am]
 |x::r,p,h=>by
  have h1:=Yf r (p+(Sy x).length) (fun y hy=>h y (WM _ hy));have h2:=(h x (by simp)).nm;rw[Am,VB,Jk,VJ];omega
def Ev.rcells (x:Ev):List Value:= [.string (B x.e.f.name),.slice x.fa x.e.f.bytes.length x.fc,.int .i64 x.e.f.stamp,.int .i64 x.e.f.node,.bool x.e.f.gone,.int .i64 (x.e.meth:Int),.slice x.pa x.e.pk.length x.pc,.int .u32 (x.e.crc:Int)]
def Rs (w:World)(b o:Nat)(xs:List Ev):Prop:=∀j x,xs[j]? =some x->∀i,i<8->w.cell? ⟨b,o+j*8+i,none⟩=x.rcells[i]?
structure RsIn (w:World)(ad:Option Addr)(xs:List Ev):Prop where
 at_:xs= []\/∃b o,ad=some ⟨b,o,none⟩/\b<w.heap.size/\Rs w b o xs
 all:∀x∈xs,EvIn w x/\x.e.pk.length<=x.pc
theorem RsIn.get {w w':World}{ad:Option Addr}{k:Nat}{xs:List Ev}{x:Ev}(h:RsIn w ad xs)(hB:Below w.heap.size w w')(hk:xs[k]? =some x):
 ∃b o,ad=some ⟨b,o,none⟩/\b<w.heap.size/\w'.cell? ⟨b,o+k*8,none⟩=some (.string (B x.e.f.name))/\w'.cell? ⟨b,o+k*8+1,none⟩=some (.slice x.fa x.e.f.bytes.length x.fc)/\w'.cell? ⟨b,o+k*8+2,none⟩=some (.int .i64 x.e.f.stamp)/\w'.cell? ⟨b,o+k*8+3,none⟩=some (.int .i64 x.e.f.node)/\w'.cell? ⟨b,o+k*8+4,none⟩=some (.bool x.e.f.gone)/\w'.cell? ⟨b,o+k*8+5,none⟩=some (.int .i64 (x.e.meth:Int))/\w'.cell? ⟨b,o+k*8+6,none⟩=some (.slice x.pa x.e.pk.length x.pc)/\w'.cell? ⟨b,o+k*8+7,none⟩=some (.int .u32 (x.e.crc:Int)):=by
 rcases h.at_ with h1|⟨b,o,e,hb,hE⟩
 . subst h1;simp at hk
 . have hE2:∀i,i<8->w'.cell? ⟨b,o+k*8+i,none⟩=x.rcells[i]? :=fun i hi=>(World.cell?_of_block (w:=w) (a:=⟨b,_,none⟩) (hB.block b hb)).trans (hE k x hk i hi)
   exact⟨b,o,e,hb,hE2 0 (by decide),hE2 1 (by decide),hE2 2 (by decide),hE2 3 (by decide),hE2 4 (by decide),hE2 5 (by decide),hE2 6 (by decide),hE2 7 (by decide)⟩
theorem PIn.sized {w:World}{v:Value}{bs:List Nat}(h:PIn w v bs):∃a l c,v=.slice a l c/\bs.length=l:=by
 obtain⟨a,c,e,_⟩:=h;exact⟨a,_,c,e,rfl⟩
theorem NN (w:World)(e:TypeId)(s:ByteArray):Below w.heap.size w (Lib.bytesWorld w e s):=by
 refine⟨?_, ?_, ?_,by rw[Lib.bytesWorld_size];omega,fun k hk=>Lib.bytesWorld_at_old w e s k hk⟩
 . simp[Lib.bytesWorld,World.freeze];rfl
 . simp[Lib.bytesWorld,World.freeze]
 . simp[Lib.bytesWorld,World.freeze];rfl
theorem NC (w:World)(l:List UInt8):PIn (Lib.bytesWorld w 5 (B l)) (.slice (some ⟨w.heap.size,0,none⟩) (B l).size (grownCap w (B l).size 0 5)) (n8 l):=by
 refine⟨some ⟨w.heap.size,0,none⟩,_,by rw[Cd,Ha],by rw[Cd];exact WC (ZM (Ha l).symm) (grownCap_ge _ _ _ _),.inr ⟨_,_,rfl,by rw[Lib.bytesWorld_size];omega,fun j hj=> ?_⟩,fun e=>by cases e⟩;rw[Cd]at hj;rw[WI,Lib.bytesWorld_cell w _ _ j (by rw[Ha];exact hj)];simp[B,n8,List.getD,hj]
def cvW (w:World)(nm:ByteArray):World:=Lib.bytesWorld w 5 nm
def cvA (w:World):Option Addr:=some ⟨w.heap.size,0,none⟩
def cvL (nm:ByteArray):Nat:=nm.size
def cvC (w:World)(nm:ByteArray):Nat:=grownCap w nm.size 0 5
theorem Z00 (nm:ByteArray):∀W:World,(convert 9 23 (.string nm)).run Tryz.prog W=.ok (.slice (cvA W) (cvL nm) (cvC W nm)) (cvW W nm):=fun W=>
 Lib.run_convert_string_bytes (P:=Tryz.prog) W 9 23 5 nm Tryz.underlying9 Tryz.underlying23 Tryz.underlying5
theorem Rw (W:World)(nm:ByteArray)(nml:List UInt8)(hn:B nml=nm):PIn (cvW W nm) (.slice (cvA W) (cvL nm) (cvC W nm)) (n8 nml)/\Below W.heap.size W (cvW W nm):=by
 subst hn;exact⟨NC W nml,NN W _ _⟩
theorem PIn.slice {w:World}{v:Value}{bs:List Nat}(h:PIn w v bs):∃a l c,v=.slice a l c:=by
 obtain⟨a,c,e,_⟩:=h;exact⟨a,_,c,e⟩
theorem Zf {k:Nat}{l:List En}{nml bys:List UInt8}{st nd:Nat}{gn:Bool}{mt:Nat}{pk:List Nat}{cr nl bl pl lH:Nat}(h:l.take (k+1)=l.take k++ [⟨⟨nml,bys,(st:Int),(nd:Int),gn⟩,mt,pk,cr⟩])(h1:nml.length=nl)(h2:bys.length=bl)(h3:pk.length=pl)(h4:(Ar (l.take k)).length=lH):
 Ar (l.take (k+1))=([Ar (l.take k),Ag 67324752 4,([Ag 20 2,Ag 0 2,Ag mt 2,Ag 0 4,Ag cr 4,Ag pl 4,Ag bl 4,Ag nl 2,Ag 11 2]:List (List Nat)).flatten,n8 nml,([Ag 29297 2,Ag 7 2,Ag st 4,Ag nd 2,Ag (Dp gn) 1]:List (List Nat)).flatten,pk]:List (List Nat)).flatten/\
 Am 0 (l.take (k+1))=([Am 0 (l.take k),Ag 33639248 4,Ag 20 2,([Ag 20 2,Ag 0 2,Ag mt 2,Ag 0 4,Ag cr 4,Ag pl 4,Ag bl 4,Ag nl 2,Ag 11 2]:List (List Nat)).flatten,Ag 0 10,Ag lH 4,n8 nml,([Ag 29297 2,Ag 7 2,Ag st 4,Ag nd 2,Ag (Dp gn) 1]:List (List Nat)).flatten]:List (List Nat)).flatten:=by
 subst h1 h2 h3 h4;rw[h,B6,Tv]
 constructor
 . simp[Sy,Sv,Jb]
 . simp[Qe,Sv,Jb]
theorem Z68 (th:List Nat)(nml:List UInt8)(mt cr pl bl nl st nd:Nat)(gn:Bool)(lH:Nat)(h:th.length<=12057*12)(hn:nml.length<=12000):([th,Ag 33639248 4,Ag 20 2,([Ag 20 2,Ag 0 2,Ag mt 2,Ag 0 4,Ag cr 4,Ag pl 4,Ag bl 4,Ag nl 2,Ag 11 2]:List (List Nat)).flatten,Ag 0 10,Ag lH 4,n8 nml,([Ag 29297 2,Ag 7 2,Ag st 4,Ag nd 2,Ag (Dp gn) 1]:List (List Nat)).flatten]:List (List Nat)).flatten.length<=281474976710656:=by
 simp[Aj,Cd]
 omega
theorem Z67 (he pk:List Nat)(nml:List UInt8)(mt cr pl bl nl st nd:Nat)(gn:Bool)(h:he.length<=24041*12)(hn:nml.length<=12000)(hp:pk.length<=12000):([he,Ag 67324752 4,([Ag 20 2,Ag 0 2,Ag mt 2,Ag 0 4,Ag cr 4,Ag pl 4,Ag bl 4,Ag nl 2,Ag 11 2]:List (List Nat)).flatten,n8 nml,([Ag 29297 2,Ag 7 2,Ag st 4,Ag nd 2,Ag (Dp gn) 1]:List (List Nat)).flatten,pk]:List (List Nat)).flatten.length<=281474976710656:=by
 simp[Aj,Cd]
 omega
theorem Z58 (he th:List Nat)(n lT lH:Nat)(h1:he.length<=24041*12)(h2:th.length<=12057*12):([he,th,Ag 101010256 4,Ag 0 4,Ag n 2,Ag n 2,Ag lT 4,Ag lH 4,Ag 0 2]:List (List Nat)).flatten.length<=281474976710656:=by
 simp[Aj]
 omega
theorem SN {n lH lT:Nat}{l:List En}(h:l.take n=l)(hn:l.length=n)(h1:(Ar (l.take n)).length=lH)(h2:(Am 0 (l.take n)).length=lT):Ba l=([Ar (l.take n),Am 0 (l.take n),Ag 101010256 4,Ag 0 4,Ag n 2,Ag n 2,Ag lT 4,Ag lH 4,Ag 0 2]:List (List Nat)).flatten:=by
 subst h1 h2 hn;rw[h];simp[Ba,Pm]
end Go.Proofs.YtleocpdblhbimaaGreatDoor
namespace Go.Proofs.YtleocpdblhbimaaGreatDoor
set_option linter.unusedVariables false
def unpD (m:Nat)(pk:List Nat):Option (List Nat):=
 if m=0 then some pk
 else if m=8 then (if (Mp (rowB pk pk.length)).e=0/\((Mp (rowB pk pk.length)).p+7)/8=pk.length/\pk.length<=6000 then some (Mp (rowB pk pk.length)).out else none)
 else none
def Ec (r:List Nat)(i j:Nat):Nat:=Al ((r.drop i).take (j-i))
theorem Gq {r:List Nat}(hv:∀y∈r,y<256){i j k:Nat}(hk:j-i=k):Ec r i j<256^k:=by
 unfold Ec;rw[hk];have h1:=Jp ((r.drop i).take k) (fun y hy=>hv y (VY (VO hy)));exact VG h1 (VU (by decide) (by rw[VM];omega))
def RU (b:List Nat)(at_:Nat)(r:List Nat):Option (En×List Nat):=
 if r.length<46 then none
 else if r.length<46+Ec r 28 30+11\/at_<Ec r 42 46+30+Ec r 28 30+11+Ec r 20 24 then none
 else (unpD (Ec r 10 12) ((b.drop (Ec r 42 46+30+Ec r 28 30+11)).take (Ec r 20 24))).bind fun ys=>
  some (⟨⟨o8 ((r.drop 46).take (Ec r 28 30)),o8 ys,(Ec ((r.drop (46+Ec r 28 30)).take 11) 4 8:Nat),(Ec ((r.drop (46+Ec r 28 30)).take 11) 8 10:Nat),decide (((r.drop (46+Ec r 28 30)).take 11).getD 10 0=1)⟩,Ec r 10 12,(b.drop (Ec r 42 46+30+Ec r 28 30+11)).take (Ec r 20 24),Ec r 16 20⟩,r.drop (46+Ec r 28 30+11))
def Ru (b:List Nat)(at_:Nat):Nat->List Nat->Option (List En)
 |0,_=>some []
 |k+1,r=>(RU b at_ r).bind fun x=>(Ru b at_ k x.2).map (x.1:: ·)
def Q2 (b:List Nat):Option (List En):=
 if b.length<22 then none
 else if 12<Ec (b.drop (b.length-22)) 8 10\/Ec (b.drop (b.length-22)) 16 20+Ec (b.drop (b.length-22)) 12 16+22≠b.length then none
 else Ru b (Ec (b.drop (b.length-22)) 16 20) (Ec (b.drop (b.length-22)) 8 10) ((b.drop (Ec (b.drop (b.length-22)) 16 20)).take (Ec (b.drop (b.length-22)) 12 16))
theorem Z45 (p x q:List Nat){i j:Nat}(hi:p.length=i)(hj:x.length=j-i):Ec (p++(x++q)) i j=Al x:=by
 unfold Ec;rw[YQ hi,YP hj]
theorem Gp {n k i j:Nat}(p q:List Nat)(hi:p.length=i)(hk:k=j-i)(hn:n<256^k):Ec (p++(Ag n k++q)) i j=n:=by
 rw[Z45 p _ q hi (by rw[Aj];exact hk),Cm k n hn]
structure EOkD (x:En):Prop where
 st:0<=x.f.stamp/\x.f.stamp<4294967296
 nd:0<=x.f.node/\x.f.node<65536
 nm:x.f.name.length<65536
 pl:x.pk.length<4294967296
 cr:x.crc<4294967296
 mt:x.meth<65536
 un:unpD x.meth x.pk=some (n8 x.f.bytes)
theorem RT (b:List Nat)(at_ p:Nat)(x:En)(t:List Nat)(h:EOkD x)(hp:p<4294967296)(hat:p+41+x.f.name.length+x.pk.length<=at_)
 (hb:(b.drop (p+30+x.f.name.length+11)).take x.pk.length=x.pk):RU b at_ (Qe x p++t)=some (x,t):=by
 obtain⟨⟨st0,st1⟩,⟨nd0,nd1⟩,nm,pl,cr,mt,un⟩:=h
 have e:Qe x p++t=Ag 33639248 4++(Ag 20 2++(Ag 20 2++(Ag 0 2++(Ag x.meth 2++(Ag 0 4++(Ag x.crc 4++(Ag x.pk.length 4++(Ag x.f.bytes.length 4++(Ag x.f.name.length 2++(Ag 11 2++(Ag 0 10++(Ag p 4++(n8 x.f.name++(Jb x++t)))))))))))))):=by
  simp only[Qe,Sv,VH]
 have c1:Ec (Qe x p++t) 10 12=x.meth:=by
  rw[e,show ∀a b c d r:List Nat,a++(b++(c++(d++r)))=(a++(b++(c++d)))++r from fun a b c d r=>by simp];exact Gp _ _ (by simp[Aj]) rfl mt
 have c2:Ec (Qe x p++t) 16 20=x.crc:=by
  rw[e,show ∀a b c d f g r:List Nat,a++(b++(c++(d++(f++(g++r)))))=(a++(b++(c++(d++(f++g)))))++r from fun a b c d f g r=>by simp];exact Gp _ _ (by simp[Aj]) rfl cr
 have c3:Ec (Qe x p++t) 20 24=x.pk.length:=by
  rw[e,show ∀a b c d f g h r:List Nat,a++(b++(c++(d++(f++(g++(h++r))))))=(a++(b++(c++(d++(f++(g++h))))))++r from fun a b c d f g h r=>by simp];exact Gp _ _ (by simp[Aj]) rfl pl
 have c4:Ec (Qe x p++t) 28 30=x.f.name.length:=by
  rw[e,show ∀a b c d f g h i j r:List Nat,a++(b++(c++(d++(f++(g++(h++(i++(j++r))))))))=(a++(b++(c++(d++(f++(g++(h++(i++j))))))))++r from fun a b c d f g h i j r=>by simp];exact Gp _ _ (by simp[Aj]) rfl nm
 have c5:Ec (Qe x p++t) 42 46=p:=by
  rw[e,show ∀a b c d f g h i j k l m r:List Nat,a++(b++(c++(d++(f++(g++(h++(i++(j++(k++(l++(m++r)))))))))))=(a++(b++(c++(d++(f++(g++(h++(i++(j++(k++(l++m)))))))))))++r from fun a b c d f g h i j k l m r=>by simp];exact Gp _ _ (by simp[Aj]) rfl hp
 have d46:(Qe x p++t).drop 46=n8 x.f.name++(Jb x++t):=by
  rw[e,show ∀a b c d f g h i j k l m n r:List Nat,a++(b++(c++(d++(f++(g++(h++(i++(j++(k++(l++(m++(n++r))))))))))))=(a++(b++(c++(d++(f++(g++(h++(i++(j++(k++(l++(m++n))))))))))))++r from fun a b c d f g h i j k l m n r=>by simp];exact YQ (by simp[Aj])
 have dx:(Qe x p++t).drop (46+x.f.name.length)=Jb x++t:=by
  rw[<-YA,d46,YQ (Cd _)]
 have dt:(Qe x p++t).drop (46+x.f.name.length+11)=t:=by
  rw[<-YA,dx,YQ (Ht x)]
 have tx:(Jb x++t).take 11=Jb x:=YP (Ht x);have hl:(Qe x p++t).length=57+x.f.name.length+t.length:=by rw[VB,Jk]
 unfold RU;rw[if_neg (by rw[hl];omega),c4,c5,c3,if_neg (by rw[hl];omega),c1,hb,un,VF,c2,dx,tx,dt,d46,YP (Cd _),CW,CW]
 have x1:Ec (Jb x) 4 8=x.f.stamp.toNat:=by
  have e2:Jb x=(Ag 29297 2++Ag 7 2)++(Ag x.f.stamp.toNat 4++(Ag x.f.node.toNat 2++Ag (Dp x.f.gone) 1)):=by simp[Jb]
  rw[e2];exact Gp _ _ (by simp[Aj]) rfl (by show _<4294967296;omega)
 have x2:Ec (Jb x) 8 10=x.f.node.toNat:=by
  have e2:Jb x=(Ag 29297 2++(Ag 7 2++Ag x.f.stamp.toNat 4))++(Ag x.f.node.toNat 2++Ag (Dp x.f.gone) 1):=by simp[Jb]
  rw[e2];exact Gp _ _ (by simp[Aj]) rfl (by show _<65536;omega)
 have v3:(Jb x).getD 10 0=Dp x.f.gone:=by
  have e2:Jb x=(Ag 29297 2++(Ag 7 2++(Ag x.f.stamp.toNat 4++Ag x.f.node.toNat 2)))++Ag (Dp x.f.gone) 1:=by simp[Jb]
  rw[e2,WY,VS (by simp[Aj])]
  cases x.f.gone<;>simp[Ag,Dp]
 have x3:decide ((Jb x).getD 10 0=1)=x.f.gone:=by
  rw[v3]
  cases x.f.gone<;>rfl
 have y1:((x.f.stamp.toNat:Nat):Int)=x.f.stamp:=XX st0;have y2:((x.f.node.toNat:Nat):Int)=x.f.node:=XX nd0;rw[x1,x2,x3,y1,y2]
theorem Rt (b:List Nat)(at_:Nat):∀(l:List En) (pre:List Nat) (t:List Nat),(∀x∈l,EOkD x)->b=pre++(Ar l++t)->at_=pre.length+(Ar l).length->at_<4294967296->∀s,Ru b at_ l.length (Am pre.length l++s)=some l
 | [],pre,t,_,_,_,_,s=>rfl
 |x::l,pre,t,h,hb,ha,hlt,s=>by
  have hx:=h x (by simp);have hfl:=Gc x;rw[Ar,VB]at ha;have e1:Am pre.length (x::l)++s=Qe x pre.length++(Am (pre++Sy x).length l++s):=by rw[Am,VH,VB]
  have e2:b=(pre++Sy x)++(Ar l++t):=by rw[hb,Ar];simp
  have e3:(b.drop (pre.length+30+x.f.name.length+11)).take x.pk.length=x.pk:=by
   have e4:b=(pre++(Ag 67324752 4++Sv x++n8 x.f.name++Jb x))++(x.pk++(Ar l++t)):=by rw[e2,Sy];simp
   rw[e4,YQ (by simp[Aj,Lr,Ht,Cd];omega),YP rfl]
  rw[VJ,Ru,e1,RT b at_ pre.length x _ hx (by omega) (by omega) e3,VF];dsimp only;rw[Rt b at_ l (pre++Sy x) t (fun y hy=>h y (WM _ hy)) e2 (by rw[VB];omega) hlt s];rfl
theorem LY (l:List En)(h:∀x∈l,EOkD x)(hn:l.length<=12)(hlt:(Ba l).length<4294967296):Q2 (Ba l)=some l:=by
 have hlen:(Ba l).length=(Ar l).length+(Am 0 l).length+22:=by unfold Ba;rw[VB,VB,Mg]
 have hd:(Ba l).drop ((Ba l).length-22)=Pm l.length (Am 0 l).length (Ar l).length:=by
  have:(Ba l).length-22=(Ar l++Am 0 l).length:=by rw[hlen,VB];omega
  rw[this];unfold Ba;rw[List.drop_left]
 have c1:Ec (Pm l.length (Am 0 l).length (Ar l).length) 8 10=l.length:=by
  have e:Pm l.length (Am 0 l).length (Ar l).length=(Ag 101010256 4++Ag 0 4)++(Ag l.length 2++(Ag l.length 2++(Ag (Am 0 l).length 4++(Ag (Ar l).length 4++Ag 0 2)))):=by simp[Pm]
  rw[e];exact Gp _ _ (by simp[Aj]) rfl (by show _<65536;omega)
 have c2:Ec (Pm l.length (Am 0 l).length (Ar l).length) 12 16=(Am 0 l).length:=by
  have e:Pm l.length (Am 0 l).length (Ar l).length=(Ag 101010256 4++(Ag 0 4++(Ag l.length 2++Ag l.length 2)))++(Ag (Am 0 l).length 4++(Ag (Ar l).length 4++Ag 0 2)):=by simp[Pm]
  rw[e];exact Gp _ _ (by simp[Aj]) rfl (by show _<4294967296;omega)
 have c3:Ec (Pm l.length (Am 0 l).length (Ar l).length) 16 20=(Ar l).length:=by
  have e:Pm l.length (Am 0 l).length (Ar l).length=(Ag 101010256 4++(Ag 0 4++(Ag l.length 2++(Ag l.length 2++Ag (Am 0 l).length 4))))++(Ag (Ar l).length 4++Ag 0 2):=by simp[Pm]
  rw[e];exact Gp _ _ (by simp[Aj]) rfl (by show _<4294967296;omega)
 unfold Q2;rw[if_neg (by omega),hd,c1,c2,c3,if_neg (by omega)]
 have e5:((Ba l).drop (Ar l).length).take (Am 0 l).length=Am 0 l:=by
  unfold Ba;rw[VH,YQ rfl,YP rfl]
 rw[e5];have:=Rt (Ba l) (Ar l).length l [] (Am 0 l++Pm l.length (Am 0 l).length (Ar l).length) h (by unfold Ba;simp) (by simp) (by omega) []
 rw[WZ]at this;exact this
end Go.Proofs.YtleocpdblhbimaaGreatDoor
namespace Go.Proofs.YtleocpdblhbimaaGreatDoor
open Go.RowKit
set_option linter.unusedVariables false
set_option maxRecDepth 100000
def rcellsL (xs:List Ev):List Value:=xs.flatMap Ev.rcells
theorem M0 (xs:List Ev):(rcellsL xs).length=xs.length*8:=by
 induction xs with
 |nil=>rfl
 |cons x r ih=>
  have:rcellsL (x::r)=x.rcells++rcellsL r:=rfl
  rw[this,VB,ih,VJ];show 8+_=_
  omega
theorem M1 (xs ys:List Ev):rcellsL (xs++ys)=rcellsL xs++rcellsL ys:=by simp[rcellsL]
theorem L9 (y:Ev):rcellsL [y]=y.rcells:=by simp[rcellsL]
theorem Uf:∀(xs:List Ev) (j:Nat) (x:Ev) (i:Nat),xs[j]? =some x->i<8->(rcellsL xs)[j*8+i]? =x.rcells[i]?
 | [],j,x,i,h,_=>by simp at h
 |y::r,0,x,i,h,hi=>by
  have:rcellsL (y::r)=y.rcells++rcellsL r:=rfl
  simp at h
  subst h;rw[this,YI,WI,WL (show i<8 from hi)]
 |y::r,j+1,x,i,h,hi=>by
  have e:rcellsL (y::r)=y.rcells++rcellsL r:=rfl;have hl:y.rcells.length=8:=rfl;have ih:=Uf r j x i (by simpa using h) hi;rw[e,VS (by rw[hl];omega),hl,show (j+1)*8+i-8=j*8+i by omega,ih]
theorem L8 (y:Ev):∀u∈y.rcells,u.oneCell'=true:=by
 intro u hu;simp only[Ev.rcells,WE,XB,or_false]at hu
 rcases hu with rfl|rfl|rfl|rfl|rfl|rfl|rfl|rfl<;>rfl
def EvR (w:World)(x:Ev):Prop:=EvIn w x/\x.e.pk.length<=x.pc
theorem EvR.below {w w':World}{x:Ev}(h:EvR w x)(hB:Below w.heap.size w w'):EvR w' x:=⟨h.1.below hB,h.2⟩
structure RRow (w:World)(B:Nat)(v:Value)(xs:List Ev):Prop where
 own:w.ownsRow B 37 8 v xs.length (rcellsL xs)
 all:∀x∈xs,EvR w x
 apart:∀x∈xs,x.lies (fun g=>some g≠v.ownBlock)
theorem RRow.nil (w:World)(B:Nat):RRow w B (.slice none 0 0) []:=⟨World.ownsRow_nil _ _ _ _,(fun x hx=>absurd hx XB),(fun x hx=>absurd hx XB)⟩
theorem RRow.below {w w':World}{B:Nat}{v:Value}{xs:List Ev}(h:RRow w B v xs)(hB:Below w.heap.size w w'):RRow w' B v xs:=
 ⟨Dj h.own (fun g hg=>hB.block g (h.own.lt g hg).2),fun x hx=>(h.all x hx).below hB,h.apart⟩
theorem KG:(Tryz.prog.info? 37).map (fun i=>(i.zero,i.size,i.bytes))=some (some (.agg #[.string ⟨#[]⟩,.slice none 0 0,.int .i64 0,.int .i64 0,.bool false,.int .i64 0,.slice none 0 0,.int .u32 0]),8,104):=by kernel_rfl
theorem Kt (w:World){ops:Array Oper}{rest:List Oper}{o:Oper}{a:Act}{Q:Exit->Act->World->Prop}(hgd:o.guard=none)(s x:Operand)
 (ho:o.op=.call {callee:=.builtin .append,args:= #[s,x],argTypes:= #[31,31]}) (base:Nat) (v:Value) (xs:List Ev) (hs:a.eval s=v) (hown:RRow w base v xs)
 (g:Nat) (y:Ev) (hx:a.eval x=.slice (some ⟨g,0,none⟩) 1 1) (hc:∀j u,y.rcells[j]? =some u->w.cell? ⟨g,j,none⟩=some u) (hy:EvR w y) (hyb:y.lies (fun g=>some g≠v.ownBlock)) (hsz:xs.length+1<=100000) (hbase:base<=w.heap.size)
 (h:∀v' w',Hid (RRow w' base v' (xs++ [y]))->Hid (w.grownBy w' v.ownBlock)->wpList Tryz.prog ops Q rest (a.put o.dst v') w'):wpList Tryz.prog ops Q (o::rest) a w:=by
 obtain⟨i0,hi,hz0,hz1,hz2⟩:=info_parts KG;refine wpList_append_own_at w hgd s x 31 ho base 37 i0 _ 8 104 Tryz.underlying31 hi hz0 hz1 hz2 rfl (by decide) v xs.length (rcellsL xs) hs hown.own ⟨g,0,none⟩ 1 1 y.rcells hx rfl ?_ (L8 y) (by unfold maxLen;omega) (by omega) hbase ?_
 . intro j u hj;have e2:(⟨g,0,none⟩:Addr).add j=⟨g,j,none⟩:=by unfold Addr.add;split<;>simp_all
   rw[e2];exact hc j u hj
 . intro v' w' h1 h2 _ h4
   have hne:∀z∈xs++ [y],z.lies (fun g=>some g≠v.ownBlock):=by
    intro z hz
    rcases WJ.1 hz with hz|hz
    . exact hown.apart z hz
    . rw[WQ.1 hz];exact hyb
   have hin:∀z∈xs++ [y],EvR w z:=by
    intro z hz
    rcases WJ.1 hz with hz|hz
    . exact hown.all z hz
    . rw[WQ.1 hz];exact hy
   refine h v' w' (Ab ⟨?_,fun z hz=>⟨(hin z hz).1.grown h2 (hne z hz),(hin z hz).2⟩,fun z hz=> ?_⟩) (Ab h2)
   . rw[M1,L9,VB];exact h1
   . have hl:=(hin z hz).1.lt;have hn:=hne z hz
     rcases h4 with h4|h4
     . rw[h4];exact hn
     . rw[h4];exact hl.mono (fun g hg e=>by have:=VQ e;omega)
theorem RRow.entries {w:World}{B:Nat}{v:Value}{xs:List Ev}(h:RRow w B v xs):∃ad c,v=.slice ad xs.length c/\RsIn w ad xs:=by
 rcases h.own.2 with ⟨h1,h2⟩|⟨g,cap,cur,h1,h2,h3,h4,h5⟩
 . exact⟨none,0,by rw[h1,h2],.inl (WX h2),h.all⟩
 . refine⟨some ⟨g,0,none⟩,cap,h1,.inr ⟨g,0,rfl,(h.own.lt g (by rw[h1];rfl)).2,fun j x hj i hi=> ?_⟩,h.all⟩;have hown:=h.own;rw[h1]at hown;have hl:=M0 xs;have hj2:=(XO.1 hj).1;rw[WI,hown.cellAt _ (by omega)];exact Uf xs j x i hj hi
theorem Z3a (g o n cap i j:Nat)(hi:i<=j)(hj:j<=n)(hn:n<=cap)(hic:i<cap)(W:World):(Instr.slice 23 (.slice (some ⟨g,o,none⟩) n cap) (some (.int .i64 (i:Int))) (some (.int .i64 (j:Int))) none).run Tryz.prog W=.ok (.slice (some ⟨g,o+i,none⟩) (j-i) (cap-i)) W:=by
 have hs:=Tryz.sizeOf5;have ht:=Tryz.underlying23;have h1:(i:Int)<=(j:Int):=by omega
 have h2:(j:Int)<=(cap:Int):=by omega
 have h3:¬cap=i:=by omega
 simp[go_sem,ht,hs,h1,h2,h3]
theorem Gb (g o n cap i j:Nat)(I J:Int)(L:Nat)(hI:I=(i:Int))(hJ:J=(j:Int))(hi:i<=j)(hj:j<=n)(hn:n<=cap)(hic:i<cap)(hL:j-i=L)(W:World):(Instr.slice 23 (.slice (some ⟨g,o,none⟩) n cap) (some (.int .i64 I)) (some (.int .i64 J)) none).run Tryz.prog W=.ok (.slice (some ⟨g,o+i,none⟩) L (cap-i)) W:=by
 subst hI hJ hL;exact Z3a g o n cap i j hi hj hn hic W
theorem Rx {w:World}{g o:Nat}{bs:List Nat}(hg:g<w.heap.size)(hB:∀j,j<bs.length->w.cell? ⟨g,o+j,none⟩=some (.int .u8 ((bs.getD j 0:Nat):Int)))(i k:Nat):BytesIn w (some ⟨g,o+i,none⟩) ((bs.drop i).take k):=by
 refine .inr ⟨g,o+i,rfl,hg,fun j hj=> ?_⟩
 have hj2:j<k/\i+j<bs.length:=by
  rw[VM,VN]at hj;omega
 have e2:((bs.drop i).take k).getD j 0=bs.getD (i+j) 0:=by
  simp only[List.getD];rw[YE hj2.1,YF]
 rw[e2,WH];exact hB (i+j) hj2.2
theorem TB (g o n cap i:Nat)(I:Int)(L:Nat)(hI:I=(i:Int))(hi:i<=n)(hn:n<=cap)(hic:i<cap)(hL:n-i=L)(W:World):(Instr.slice 23 (.slice (some ⟨g,o,none⟩) n cap) (some (.int .i64 I)) none none).run Tryz.prog W=.ok (.slice (some ⟨g,o+i,none⟩) L (cap-i)) W:=by
 subst hI hL;have hs:=Tryz.sizeOf5;have ht:=Tryz.underlying23;have h1:(i:Int)<=(n:Int):=by omega
 have h3:¬cap=i:=by omega
 simp[go_sem,ht,hs,h1,h3]
theorem Cp {w:World}{g o:Nat}{bs:List Nat}(hg:g<w.heap.size)(hB:∀j,j<bs.length->w.cell? ⟨g,o+j,none⟩=some (.int .u8 ((bs.getD j 0:Nat):Int)))(hv:∀x∈bs,x<256)(i j L c:Nat)(hL:j-i=L)(hj:j<=bs.length)(h7:L<=7)(hij:i<=j):
 ∀W:World,Below w.heap.size w W->Calls Tryz.prog 38 #[.slice (some ⟨g,o+i,none⟩) L c] W fun e w'=>e=.returned (.int .i64 ((Ec bs i j:Nat):Int))/\w'=W:=by
 intro W hW;subst hL;have hb:=Rx hg hB i (j-i)
 have hb2:BytesIn W (some ⟨g,o+i,none⟩) ((bs.drop i).take (j-i)):=by
  rcases hb with h0|⟨b,o',e,h1,h2⟩
  . exact .inl h0
  . exact .inr ⟨b,o',e,VG h1 hW.size,fun k hk=>(hW.cell (p:=⟨b,_,none⟩) h1).trans (h2 k hk)⟩
 exact JK _ (j-i) c _ W (by rw[VM,VN];omega) h7 hb2 (fun x hx=>hv x (VY (VO hx)))
theorem Z5i (W:World)(X:Nat)(T:TypeId)(o0 o1 o2 o3 o4 o5 o6 o7 v0 v1 v2 v3 v4:Value)(h:W.heap[X]? =some (.cells #[o0,o1,o2,o3,o4,o5,o6,o7] T (0,0))):
 (W.setCells X 0 [v0,v1,v2,v3,v4]).heap[X]? =some (.cells #[v0,v1,v2,v3,v4,o5,o6,o7] T (0,0))/\W.grownBy (W.setCells X 0 [v0,v1,v2,v3,v4]) (some X):=by
 have h0:=heap_setCell_same W X 0 _ _ v0 h;have h1:=heap_setCell_same _ X 1 _ _ v1 h0;have h2:=heap_setCell_same _ X 2 _ _ v2 h1;have h3:=heap_setCell_same _ X 3 _ _ v3 h2;have h4:=heap_setCell_same _ X 4 _ _ v4 h3;exact⟨h4,Ak (Ak (Ak (Ak (Ad _ _ _ _) (Ad _ _ _ _)) (Ad _ _ _ _)) (Ad _ _ _ _)) (Ad _ _ _ _)⟩
theorem NH {W:World}{X:Nat}{T:TypeId}{o0 o1 o2 o3 o4 o5 o6 o7:Value}(h:W.heap[X]? =some (.cells #[o0,o1,o2,o3,o4,o5,o6,o7] T (0,0))):W.there X 0 5:=by
 intro j hj;refine⟨?_,frozen_of_row W X _ _ _ h⟩;rw[WI,Ac h]
 rcases(by omega:j=0\/j=1\/j=2\/j=3\/j=4)with rfl|rfl|rfl|rfl|rfl<;>rfl
theorem Xg {B:Nat}{a w:World}(h:Below B a w){g:Nat}(hg:B<=g)(cs:Array Value):Below B a (w.setRow g cs):=
 ⟨h.os,h.tape,h.output,by simp;exact h.size,fun k hk=>(Go.setRow_other w g k cs (by omega)).trans (h.block k hk)⟩
theorem Tb (bs:List Nat)(p m k:Nat)(h:k<=m):((bs.drop p).take m).drop k=(bs.drop (p+k)).take (m-k):=by
 rw[List.drop_take,YA]
end Go.Proofs.YtleocpdblhbimaaGreatDoor
