import Derived.Test.YtleocpdblhbimaaGreatDoorQ31
set_option linter.unusedSimpArgs false
set_option maxHeartbeats 1000000
namespace Go.Proofs.YtleocpdblhbimaaGreatDoor
open Go.RowKit
set_option linter.unusedVariables false
theorem Lw:∀xs ys:List Int,((mrg xs ys).filter Prod.snd).length=xs.length
 | [],ys=>by
  rw[Kn];simp
 |x::xs,[]=>by
  rw[Nj,List.filter_cons_of_pos (by simp),VJ,Lw xs []];simp
 |x::xs,y::ys=>by
  rw[Jc]
  split
  . rw[List.filter_cons_of_pos (by simp),VJ,Lw xs (y::ys)];simp
  . rw[List.filter_cons_of_neg (by simp),Lw (x::xs) ys]
termination_by xs ys=>xs.length+ys.length
theorem Gt (r:List (Int×Bool))(t:Nat):Bz r t<=(r.filter Prod.snd).length:=by
 unfold Bz;have h:=((List.take_sublist t r).filter Prod.snd).length_le;exact h
theorem Mw (r:List (Int×Bool))(t:Nat):Bz r t<=t:=by
 unfold Bz;have h:=List.length_filter_le Prod.snd (r.take t);have h2:(r.take t).length<=t:=by simp;omega
 omega
theorem Ls (r:List (Int×Bool))(t:Nat)(ht:t<=r.length):t-Bz r t<=r.length-(r.filter Prod.snd).length:=by
 have h1:(r.filter Prod.snd).length=((r.take t).filter Prod.snd).length+((r.drop t).filter Prod.snd).length:=by
  rw[<-VE,<-List.filter_append,YW]
 have h2:=List.length_filter_le Prod.snd (r.drop t);have h3:(r.drop t).length=r.length-t:=by simp
 have h4:=Mw r t;unfold Bz at*;omega
theorem Gw (W:List Int)(k:Nat):(rowAt W (k+1)).length=W.length+(rowAt W k).length/2:=by
 rw[rowAt,Bo,Eo,WL]
theorem Dj (W:List Int):∀k,((rowAt W k).filter Prod.snd).length=W.length
 |0=>by rw[rowAt,Lw]
 |k+1=>by rw[rowAt,Lw]
theorem Uy (W:List Int)(hW:1<=W.length):∀k,2*W.length<=(rowAt W k).length+1+(W.length-1)/2^k
 |0=>by rw[rowAt,Bo];simp;omega
 |k+1=>by
  have ih:=Uy W hW k;have e:(W.length-1)/2^(k+1)=(W.length-1)/2^k/2:=by rw[XC,Nat.div_div_eq_div_mul]
  rw[Gw,e];generalize (W.length-1)/2^k=x at*;omega
theorem Ux (W:List Int)(m:Nat)(hW:1<=W.length)(hm:1<=m)(hr:W.length<=2^m):2*(W.length-1)<=(rowAt W (m-1)).length:=by
 have h:=Uy W hW (m-1)
 have h2:(W.length-1)/2^(m-1)<2:=by
  rw[Nat.div_lt_iff_lt_mul (Nat.pow_pos (by decide))]
  have:2*2^(m-1)=2^m:=by
   obtain⟨q,rfl⟩:∃q,m=q+1:=⟨m-1,by omega⟩
   rw[YA,XC,YF]
  omega
 omega
theorem Lg (W:List Int)(m:Nat)(hW:1<=W.length)(hm:1<=m)(hr:W.length<=2^m):∀i,i<m->Cr W m i<=(rowAt W (m-1-i)).length
 |0,_=>by rw[Cr];exact Ux W m hW hm hr
 |i+1,hi=>by
  have ih:=Lg W m hW hm hr i (by omega);have hp:=Ls _ _ ih;obtain⟨q,hq⟩:∃q,m-1-i=q+1:=⟨m-1-i-1,by omega⟩
  have hq2:m-1-(i+1)=q:=by omega
  rw[Dj,hq,Gw]at hp;rw[Cr,hq2,hq];omega
theorem Wh (W:List Int)(m i:Nat):Bi W m i<=W.length:=by
 have:=Gt (rowAt W (m-1-i)) (Cr W m i)
 rw[Dj]at this;exact this
theorem Oe (W:List Int)(m i:Nat):Bi W m i<=Cr W m i:=Mw _ _
theorem Qi (W:List Int)(m i:Nat):Cr W m (i+1)=2*(Cr W m i-Bi W m i):=rfl
theorem Ek (n:Nat)(P:List Nat)(W:List Int)(m:Nat):∀i,(Ez n P W m i).length=n
 |0=>by simp[Ez]
 |i+1=>by rw[Ez,Ca,Ek n P W m i]
theorem Ny (n:Nat)(P:List Nat)(W:List Int)(m:Nat)(hP:P.length<=288):∀i,∀j,0<=(Ez n P W m i).getD j 0/\(Ez n P W m i).getD j 0<=288*i
 |0,j=>by
  simp only[Ez]
  by_cases h:j<n
  . simp[List.getD,h]
  . simp[List.getD,h]
 |i+1,j=>by
  have h:=Kv (P.take (Bi W m i)) (Ny n P W m hP i) j;have h2:(P.take (Bi W m i)).length<=288:=by simp;omega
  rw[Ez];omega
theorem RiseOf.lt {l:List Int}{P:List Nat}(h:RiseOf l P):∀p∈P,p<l.length:=fun p hp=>JY l _ p (h.perm.mem_iff.1 hp)
theorem RiseOf.length {l:List Int}{P:List Nat}(h:RiseOf l P):P.length=(wpl l l.length).length:=h.perm.length_eq
def Z7i:List Int->Int
 | []=>0
 |x::xs=>x+Z7i xs
theorem Wg (r:List (Int×Bool)):Bz r 0=0:=by simp[Bz]
theorem Nv (x:Int)(r:List (Int×Bool))(t:Nat):Bz ((x,true)::r) (t+1)=Bz r t+1:=by simp[Bz]
theorem Kx (x:Int)(r:List (Int×Bool))(t:Nat):Bz ((x,false)::r) (t+1)=Bz r t:=by simp[Bz]
theorem AJ (ys:List Int):∀t,Bz (ys.map fun y=>(y,false)) t=0:=by
 induction ys with
 |nil=>intro t;simp[Bz]
 |cons y ys ih=>
  intro t
  cases t with
  |zero=>exact Wg _
  |succ t=>rw[WQ,Kx,ih]
theorem Lx:∀(xs ys:List Int) (t:Nat),(((mrg xs ys).take t).map Prod.fst).Perm (xs.take (Bz (mrg xs ys) t)++ys.take (t-Bz (mrg xs ys) t))
 |xs,ys,0=>by rw[Wg];simp
 | [],ys,t+1=>by
  rw[Kn,AJ];simp[ZA]
 |x::xs,[],t+1=>by
  have ih:=Lx xs [] t;rw[Nj,XU,WQ,Nv,XU];simp only[List.take_nil,XA]at*;exact List.Perm.cons x ih
 |x::xs,y::ys,t+1=>by
  rw[Jc]
  split
  . have ih:=Lx xs (y::ys) t;rw[XU,WQ,Nv,XU,show t+1-(Bz (mrg xs (y::ys)) t+1)=t-Bz (mrg xs (y::ys)) t by omega];exact List.Perm.cons x ih
  . have ih:=Lx (x::xs) ys t;have hle:=Mw (mrg (x::xs) ys) t;rw[XU,WQ,Kx,show t+1-Bz (mrg (x::xs) ys) t=(t-Bz (mrg (x::xs) ys) t)+1 by omega,XU];exact(List.Perm.cons y ih).trans List.perm_middle.symm
termination_by xs ys=>xs.length+ys.length
abbrev Up (xs:List Int):Prop:=xs.Pairwise (· <= ·)
theorem E7:∀xs ys:List Int,Up xs->Up ys->Up ((mrg xs ys).map Prod.fst)
 | [],ys,_,h=>by rw[Kn,ZU];simpa[ZA]using h
 |x::xs,[],h,h2=>by
  have h:=XH.1 h;rw[Nj,WQ];refine XH.2 ⟨fun z hz=> ?_,E7 xs [] h.2 h2⟩
  rcases Gy xs [] z hz with hz|hz
  . exact h.1 z hz
  . cases hz
 |x::xs,y::ys,h,h2=>by
  have h':=XH.1 h;have h2':=XH.1 h2;rw[Jc]
  split
  . rename_i hxy
    rw[WQ];refine XH.2 ⟨fun z hz=> ?_,E7 xs (y::ys) h'.2 h2⟩
    rcases Gy xs (y::ys) z hz with hz|hz
    . exact h'.1 z hz
    . rcases WH.1 hz with rfl|hz
      . exact hxy
      . exact Int.le_trans hxy (h2'.1 z hz)
  . rename_i hxy
    rw[WQ];refine XH.2 ⟨fun z hz=> ?_,E7 (x::xs) ys h h2'.2⟩;show y<=z
    rcases Gy (x::xs) ys z hz with hz|hz
    . rcases WH.1 hz with rfl|hz
      . omega
      . have:=h'.1 z hz;omega
    . exact h2'.1 z hz
termination_by xs ys=>xs.length+ys.length
theorem Z2i:∀xs:List Int,Up xs->Up (prs xs)
 | [],_=>by simp[prs]
 | [x],_=>by simp[prs]
 |x::y::t,h=>by
  have h1:=XH.1 h;have h2:=XH.1 h1.2;rw[prs];refine XH.2 ⟨fun z hz=> ?_,Z2i t h2.2⟩;obtain⟨a,b,ha,hb,rfl⟩:=Xr t z hz;have e1:=h1.1 a (by simp[ha]);have e2:=h2.1 b hb;show x+y<=a+b
  omega
theorem Xj (W:List Int)(h:Up W):∀k,Up ((rowAt W k).map Prod.fst)
 |0=>by rw[rowAt];exact E7 W [] h .nil
 |k+1=>by rw[rowAt];exact E7 W _ h (Z2i _ (Xj W h k))
theorem Lm (W:List Int)(h:∀x∈W,0<x):∀k,∀x∈(rowAt W k).map Prod.fst,0<x
 |0,x,hx=>by
  rw[rowAt]at hx
  rcases Gy W [] x hx with h1|h1
  . exact h x h1
  . cases h1
 |k+1,x,hx=>by
  rw[rowAt]at hx
  rcases Gy W _ x hx with h1|h1
  . exact h x h1
  . obtain⟨a,b,ha,hb,rfl⟩:=Xr _ x h1;have e1:=Lm W h k a ha;have e2:=Lm W h k b hb;omega
def Dl (W:List Int):Nat->List Int
 |0=> []
 |k+1=>prs ((rowAt W k).map Prod.fst)
theorem Ew (W:List Int):∀k,rowAt W k=mrg W (Dl W k)
 |0=>rfl
 |k+1=>rfl
theorem Z27 {xs:List Int}(h:Up xs){i j:Nat}(hij:i<=j)(hj:j<xs.length):xs.getD i 0<=xs.getD j 0:=by
 by_cases e:i=j
 . subst e;exact Int.le_refl _
 . have:=(YE.1 h) i j (by omega) hj (by omega)
   simpa[List.getD,hj,show i<xs.length by omega]using this
theorem Hz {xs:List Int}{i t:Nat}(hi:i<t)(hx:i<xs.length):xs.getD i 0∈xs.take t:=by
 have:(xs.take t).getD i 0=xs.getD i 0:=by simp[List.getD,hi]
 rw[<-this];have h2:i<(xs.take t).length:=by simp;omega
 simp only[List.getD,VP h2,YH];exact WK _
theorem L7 (W:List Int)(hW:Up W)(hp:∀x∈W,0<x)(hn:2<=W.length):∀k,W.length-1<=(Dl W k).length->(Dl W k).getD (W.length-2) 0<W.getD (W.length-1) 0->False
 |0,h,_=>by simp[Dl]at h;omega
 |k+1,h,h2=>by
  have hlen:(Dl W (k+1)).length=(rowAt W k).length/2:=by rw[Dl,Eo,WL]
  rw[hlen]at h;have hL:2*W.length-3<((rowAt W k).map Prod.fst).length:=by rw[WL];omega
  have hg:(Dl W (k+1)).getD (W.length-2) 0=((rowAt W k).map Prod.fst).getD (2*(W.length-2)) 0+((rowAt W k).map Prod.fst).getD (2*(W.length-2)+1) 0:=Ow _ _ (by rw[WL];omega)
  have hpos:0<((rowAt W k).map Prod.fst).getD (2*(W.length-2)) 0:=Lm W hp k _ (by
   have h3:2*(W.length-2)<((rowAt W k).map Prod.fst).length:=by omega
   simp only[List.getD,VP h3,YH];exact WK _)
  have hlast:((rowAt W k).map Prod.fst).getD (2*W.length-3) 0<W.getD (W.length-1) 0:=by
   rw[show 2*W.length-3=2*(W.length-2)+1 by omega];omega
  have hall:∀z∈((rowAt W k).take (2*W.length-2)).map Prod.fst,z<W.getD (W.length-1) 0:=by
   intro z hz;rw[List.map_take]at hz;obtain⟨i,hi,rfl⟩:=XI hz;have hi2:i<2*W.length-2:=by simp at hi;omega
   have hi3:i<((rowAt W k).map Prod.fst).length:=by simp at hi;simp;omega
   have:=Z27 (Xj W hW k) (i:=i) (j:=2*W.length-3) (by omega) hL
   have e:((rowAt W k).map Prod.fst).getD i 0=(((rowAt W k).map Prod.fst).take (2*W.length-2))[i]:=by simp only[List.getD,VP hi3,YH,YN]
   rw[e]at this;omega
  have hperm:=Lx W (Dl W k) (2*W.length-2);rw[<-Ew]at hperm;have hle:Bz (rowAt W k) (2*W.length-2)<=W.length:=by have:=Gt (rowAt W k) (2*W.length-2);rw[Dj]at this;exact this
  have hpl:2*W.length-2-Bz (rowAt W k) (2*W.length-2)<=(Dl W k).length:=by
   have h4:=Ls (rowAt W k) (2*W.length-2) (by rw[WL]at hL;omega);have h5:(rowAt W k).length=W.length+(Dl W k).length:=by rw[Ew,Bo]
   rw[Dj]at h4;omega
  by_cases ha:Bz (rowAt W k) (2*W.length-2)=W.length
  . have:W.getD (W.length-1) 0<W.getD (W.length-1) 0:=hall _ (hperm.mem_iff.2 (List.mem_append_left _ (by rw[ha];exact Hz (by omega) (by omega))))
    omega
  . have hq:W.length-1<=2*W.length-2-Bz (rowAt W k) (2*W.length-2):=by omega
    exact L7 W hW hp hn k (by omega) (hall _ (hperm.mem_iff.2 (List.mem_append_right _ (Hz (by omega) (by omega)))))
theorem Yw:∀(xs ys:List Int) (t i j:Nat),Up xs->Bz (mrg xs ys) t<=i->i<xs.length->j<t-Bz (mrg xs ys) t->j<ys.length->ys.getD j 0<xs.getD i 0
 |xs,ys,0,i,j,_,_,_,h,_=>by omega
 | [],ys,t+1,i,j,_,_,h,_,_=>by simp at h
 |x::xs,[],t+1,i,j,_,_,_,_,h=>by simp at h
 |x::xs,y::ys,t+1,i,j,hu,h1,h2,h3,h4=>by
  have hu':=XH.1 hu;rw[Jc]at h1 h3
  by_cases hxy:x<=y
  . rw[if_pos hxy,Nv]at h1 h3;obtain⟨i',rfl⟩:∃i',i=i'+1:=⟨i-1,by omega⟩
    have:=Yw xs (y::ys) t i' j hu'.2 (by omega) (by simpa using h2) (by omega) h4
    simpa using this
  . rw[if_neg hxy,Kx]at h1 h3
    have hx:x<=(x::xs).getD i 0:=by
     cases i with
     |zero=>simp
     |succ i=>
      have hi:i<xs.length:=by simpa using h2
      have:(x::xs).getD (i+1) 0=xs[i]:=by simp[List.getD,hi]
      rw[this];exact hu'.1 _ (WK _)
    cases j with
    |zero=>
     have:(y::ys).getD 0 0=y:=by simp
     omega
    |succ j=>
     have hle:=Mw (mrg (x::xs) ys) t;have:=Yw (x::xs) ys t i j hu h1 h2 (by omega) (by simpa using h4)
     simpa using this
termination_by xs ys=>xs.length+ys.length
theorem RU (W:List Int)(hW:Up W)(hp:∀x∈W,0<x)(hn:2<=W.length)(k:Nat)(hk:2*W.length-2<=(rowAt W k).length):Bz (rowAt W k) (2*W.length-2)=W.length:=by
 have hle:Bz (rowAt W k) (2*W.length-2)<=W.length:=by have:=Gt (rowAt W k) (2*W.length-2);rw[Dj]at this;exact this
 rcases ZQ (Bz (rowAt W k) (2*W.length-2)) W.length with ha|ha
 . exfalso
   have h5:(rowAt W k).length=W.length+(Dl W k).length:=by rw[Ew,Bo]
   have h4:=Ls (rowAt W k) (2*W.length-2) hk;rw[Dj]at h4;have hq:W.length-1<=2*W.length-2-Bz (rowAt W k) (2*W.length-2):=by omega
   exact L7 W hW hp hn k (by omega) (Yw W (Dl W k) (2*W.length-2) (W.length-1) (W.length-2) hW (by rw[<-Ew];omega) (by omega) (by rw[<-Ew];omega) (by omega))
 . omega
theorem Q7 (a:Option Addr)(len cap:Nat)(most:Int)(w:World)(hm:288<len)(hM:len<=9223372036854775807):
 Calls Tryz.prog 257 #[.slice a len cap,.int .i64 most] w fun e w'=>e=.returned (.int .i64 2)/\w'=w:=by
 have h:(288:Int)<(len:Int):=by omega
 go_enter Tryz.func257,Tryz.ntmps257
 go_wp2;go_ret;exact⟨rfl,rfl⟩
theorem QU (a:Option Addr)(len cap:Nat)(l:List Int)(most:Int)(w:World)(hl:l.length=len)(hm:len<=288)(hR:RowIn .i64 w a l)(j0:Nat)(hj0:j0<len)(hbad:okW (l.getD j0 0)=false)(hf:∀j,j<j0->okW (l.getD j 0)=true):
 Calls Tryz.prog 257 #[.slice a len cap,.int .i64 most] w fun e w'=>e=.returned (.int .i64 3)/\w'=w:=by
 obtain⟨b,o,rfl,hb,hR⟩:∃b o,a=some ⟨b,o,none⟩/\b<w.heap.size/\Row .i64 w b o l:=by
  rcases hR with rfl|h
  . simp at hl;omega
  . exact h
 have HR:=Ab hR;have HF:=Ab hf;clear hR hf;go_enter Tryz.func257,Tryz.ntmps257
 go_wp2;go_loop [5,7,13] (fun u y i=>∃k:Nat,k<=j0/\i=.int .i64 (k:Int)/\u=.int .i64 (((wpl l k).length:Nat):Int)) (fun _ _ i=>len-(intOf i).toNat)
 case atStart=>exact⟨0,VH _,rfl,rfl⟩
 case round=>
  obtain⟨k,hk,rfl,rfl⟩:=hrel;have hle:=Pt l k;have c1:=Aa HR k (by omega)
  by_cases hlt:k<j0
  . have hx:=BX (Aa HF k hlt);have HU:Hid ((wpl l (k+1)).length=(wpl l k).length+(if 0<l.getD k 0 then 1 else 0)):=by rw[wpl,VE];unfold Hid;split<;>simp
    generalize l.getD k 0=x at*;generalize (wpl l k).length=u at*;obtain⟨hx1,hx2⟩:=hx
    by_cases h0:0<x
    . rw[if_pos h0]at HU;go_wp2;go_round
      case rel=>exact⟨k+1,by omega,by go_num,by rw[Aa HU];go_num⟩
      case measure=>simp[intOf];omega
    . rw[if_neg h0]at HU;go_wp2;go_round
      case rel=>exact⟨k+1,by omega,by go_num,by rw[Aa HU];rfl⟩
      case measure=>simp[intOf];omega
  . obtain rfl:k=j0:=by omega
    generalize l.getD k 0=x at*;generalize (wpl l k).length=u at*;have hno:=D6 hbad;have hg:x<0\/1000000<x:=by omega
    clear hno hbad
    rcases hg with hg|hg
    . go_wp2;go_ret;exact⟨rfl,rfl⟩
    . have hg0:¬(x<0):=by omega
      go_wp2;go_ret;exact⟨rfl,rfl⟩
theorem JA (a:Option Addr)(len cap:Nat)(l:List Int)(most:Int)(w:World)(hl:l.length=len)(hm:len<=288)(hR:RowIn .i64 w a l)(hf:∀j,j<len->okW (l.getD j 0)=true)(r:Int)(hr:Hid (r=if ¬(1<=most/\most<=15)then 3 else if 2^most.toNat<(wpl l len).length then 11 else 0)):
 Calls Tryz.prog 257 #[.slice a len cap,.int .i64 most] w fun e w'=>e=.returned (.int .i64 r)/\w'=w:=by
 have HR:=Ab hR;have HF:=Ab hf;clear hR hf;go_enter Tryz.func257,Tryz.ntmps257
 go_wp2;go_loop [5,7,13] (fun u y i=>∃k:Nat,k<=len/\i=.int .i64 (k:Int)/\u=.int .i64 (((wpl l k).length:Nat):Int)) (fun _ _ i=>len-(intOf i).toNat)
 case atStart=>exact⟨0,VH _,rfl,rfl⟩
 case round=>
  obtain⟨k,hk,rfl,rfl⟩:=hrel;have hle:=Pt l k
  by_cases hlt:k<len
  . have hlk:k<l.length:=by omega
    obtain⟨b,o,rfl,hb,hRw⟩:∃b o,a=some ⟨b,o,none⟩/\b<w.heap.size/\Row .i64 w b o l:=by
     rcases Aa HR with rfl|h
     . simp at hlk
     . exact h
    have c1:=hRw k hlk;have hx:=BX (Aa HF k hlt);have HU:Hid ((wpl l (k+1)).length=(wpl l k).length+(if 0<l.getD k 0 then 1 else 0)):=by rw[wpl,VE];unfold Hid;split<;>simp
    clear hRw;generalize l.getD k 0=x at*;generalize (wpl l k).length=u at*;obtain⟨hx1,hx2⟩:=hx
    by_cases h0:0<x
    . rw[if_pos h0]at HU;go_wp2;go_round
      case rel=>exact⟨k+1,by omega,by go_num,by rw[Aa HU];go_num⟩
      case measure=>simp[intOf];omega
    . rw[if_neg h0]at HU;go_wp2;go_round
      case rel=>exact⟨k+1,by omega,by go_num,by rw[Aa HU];rfl⟩
      case measure=>simp[intOf];omega
  . obtain rfl:k=len:=by omega
    generalize (wpl l k).length=u at*
    by_cases hlo:most<1
    . have HE:Hid (r=3):=by rw[Aa hr,if_pos (by omega)];exact rfl
      go_wp2;go_ret;exact⟨by rw[Aa HE];rfl,rfl⟩
    . by_cases hhi:15<most
      . have HE:Hid (r=3):=by rw[Aa hr,if_pos (by omega)];exact rfl
        go_wp2;go_ret;exact⟨by rw[Aa HE];rfl,rfl⟩
      . obtain⟨m,rfl⟩:=WF (show 0<=most by omega);rw[if_neg (by omega)]at hr
        have HW:Hid (wrap64 (2^m)=((2^m:Nat):Int)):=by
         have h1:2^m<=2^15:=VO (by decide) (by omega);have h2:((2:Int)^m)=((2^m:Nat):Int):=by push_cast;rfl
         unfold Hid;rw[h2];generalize 2^m=q at*;unfold wrap64;omega
        go_wp2
        . have h5:wrap64 (2^m)<(u:Int):=by assumption
          rw[Aa HW]at h5;have HE:r=11:=by rw[Aa hr,if_pos (by simp;omega)]
          go_ret;exact⟨by rw[HE];rfl,rfl⟩
        . have h5:(u:Int)<=wrap64 (2^m):=by assumption
          rw[Aa HW]at h5;have HE:r=0:=by rw[Aa hr,if_neg (by simp;omega)]
          go_ret;exact⟨by rw[HE];rfl,rfl⟩
theorem ED (a:Option Addr)(len cap:Nat)(l:List Int)(most:Int)(w:World)(hl:l.length=len)(hM:len<=9223372036854775807)(hR:RowIn .i64 w a l):
 Calls Tryz.prog 257 #[.slice a len cap,.int .i64 most] w fun e w'=>e=.returned (.int .i64 (Z2x l most))/\w'=w:=by
 by_cases hm:288<len
 . have e:Z2x l most=2:=by unfold Z2x;rw[if_pos (by omega)]
   rw[e];exact Q7 a len cap most w hm hM
 . rcases Ml (fun j=>okW (l.getD j 0)) len with hf|⟨j0,hj0,hbad,hf⟩
   . have hn:¬ ∃j,j<l.length/\okW (l.getD j 0)=false:=by
      rintro ⟨j,hj,e⟩;have:=hf j (by omega)
      simp only[e]at this
      cases this
     exact JA a len cap l most w hl (by omega) hR hf _ (by unfold Z2x;rw[if_neg (by omega),if_neg hn,hl];exact rfl)
   . have e:Z2x l most=3:=by unfold Z2x;rw[if_neg (by omega),if_pos ⟨j0,by omega,hbad⟩]
     rw[e];exact QU a len cap l most w hl (by omega) hR j0 hj0 hbad hf
def IW (l s:List Int):Nat->Int
 |0=>0
 |k+1=>IW l s k+l.getD k 0*s.getD k 0
theorem IV (l xs:List Int)(p:Nat)(hp:p<xs.length):∀k,IW l (Tb xs p) k=IW l xs k+(if p<k then l.getD p 0 else 0)
 |0=>by simp[IW]
 |k+1=>by
  rw[IW,IW,IV l xs p hp k]
  have e:(Tb xs p).getD k 0=if p=k then xs.getD p 0+1 else xs.getD k 0:=by
   unfold Tb;rw[Mg]
   by_cases h:p=k
   . rw[if_pos ⟨h,hp⟩,if_pos h]
   . rw[if_neg (fun h2=>h h2.1),if_neg h]
  rw[e]
  by_cases h:p=k
  . subst h;rw[if_pos rfl,if_neg (by omega),if_pos (by omega),Int.mul_add,Int.mul_one];omega
  . rw[if_neg h]
    by_cases h2:p<k
    . rw[if_pos h2,if_pos (by omega)];omega
    . rw[if_neg h2,if_neg (by omega)];omega
def Z66 (W:List Int)(m:Nat):Nat->Int
 |0=>0
 |i+1=>Z66 W m i+Z7i (W.take (Bi W m i))
def Z94 (W:List Int)(k t:Nat):Int:=Z7i (((rowAt W k).take t).map Prod.fst)
def least (W:List Int)(m:Nat):Int:=if W.length<2 then Z7i W else Z94 W (m-1) (2*(W.length-1))
theorem Nu (p:Nat):∀(ps:List Nat) (xs:List Int),ps.Nodup->(∀q∈ps,q<xs.length)->(Cq xs ps).getD p 0=xs.getD p 0+(if p∈ps then 1 else 0)
 | [],xs,_,_=>by simp[Cq]
 |q::ps,xs,hn,h=>by
  have hn':=List.nodup_cons.1 hn;have ih:=Nu p ps (Tb xs q) hn'.2 (fun r hr=>by rw[Kw];exact h r (WR _ hr));show (Cq (Tb xs q) ps).getD p 0=_
  rw[ih];unfold Tb;rw[Mg];have hq:=h q XP
  by_cases e:q=p
  . subst e;rw[if_pos ⟨rfl,hq⟩,if_neg hn'.1,if_pos XP];omega
  . rw[if_neg (fun h2=>e h2.1)]
    have:(p∈q::ps)↔p∈ps:=by
     rw[WH];exact⟨fun h=>h.resolve_left (fun h=>e h.symm),.inr⟩
    simp only[this]
theorem RiseOf.nodup {l:List Int}{P:List Nat}(h:RiseOf l P):P.Nodup:=by
 refine h.srt.imp ?_;intro a b hab e;subst e;omega
theorem RiseOf.mem {l:List Int}{P:List Nat}(h:RiseOf l P)(p:Nat):p∈P↔p<l.length/\0<l.getD p 0:=by rw[h.perm.mem_iff,X6]
theorem RiseOf.up {l:List Int}{P:List Nat}(h:RiseOf l P):Up (P.map fun p=>l.getD p 0):=by
 rw[Up,List.pairwise_map];exact h.srt.imp (fun {a b} hab=>by omega)
theorem RiseOf.pos {l:List Int}{P:List Nat}(h:RiseOf l P):∀x∈(P.map fun p=>l.getD p 0),0<x:=by
 intro x hx;obtain⟨p,hp,rfl⟩:=XG.1 hx;exact((h.mem p).1 hp).2
def J1 (P:List Nat)(W:List Int)(m p:Nat):Nat->Nat
 |0=>0
 |i+1=>J1 P W m p i+(if p∈P.take (Bi W m i)then 1 else 0)
theorem OT (P:List Nat)(W:List Int)(m p:Nat):∀i,J1 P W m p i<=i
 |0=>VB _
 |i+1=>by
  have:=OT P W m p i
  rw[J1]
  split<;>omega
theorem J0 (P:List Nat)(W:List Int)(m p:Nat)(h:p ∉ P):∀i,J1 P W m p i=0
 |0=>rfl
 |i+1=>by rw[J1,J0 P W m p h i,if_neg (fun h2=>h (VR h2))]
theorem CQ (P:List Nat)(W:List Int)(m p:Nat)(h:p∈P.take (Bi W m 0)):∀i,1<=i->1<=J1 P W m p i
 |0,h0=>by omega
 |1,_=>by rw[J1,J1,if_pos h];omega
 |i+2,_=>by
  have:=CQ P W m p h (i+1) (by omega)
  rw[J1];omega
theorem Kq (n:Nat)(P:List Nat)(W:List Int)(m p:Nat)(hn:P.Nodup)(hP:∀q∈P,q<n):∀i,(Ez n P W m i).getD p 0=(J1 P W m p i:Nat)
 |0=>by
  simp only[Ez,J1]
  by_cases h:p<n<;>simp[List.getD,h]
 |i+1=>by
  rw[Ez,Nu p _ _ (hn.sublist (List.take_sublist _ _)) (fun q hq=>by rw[Ek];exact hP q (VR hq)),Kq n P W m p hn hP i,J1]
  split<;>simp
theorem P8 {W:List Int}{m:Nat}(hW:Up W)(hp:∀x∈W,0<x)(hn:2<=W.length)(hm:1<=m)(hr:W.length<=2^m):Bi W m 0=W.length:=by
 have h:=Ux W m (by omega) hm hr;unfold Bi;rw[Cr,show m-1-0=m-1 by omega,show 2*(W.length-1)=2*W.length-2 by omega];exact RU W hW hp hn (m-1) (by omega)
theorem Xt {l:List Int}{P:List Nat}{m:Nat}(hG:GoodW l m)(hP:RiseOf l P)(p:Nat):0<=(Cs l P m).getD p 0/\(Cs l P m).getD p 0<=m/\(0<(Cs l P m).getD p 0↔p∈P):=by
 have hlo:=hG.lo;have hW:(P.map fun p=>l.getD p 0).length=P.length:=by simp
 unfold Cs
 by_cases h:P.length<2
 . rw[if_pos h,Nu p P _ hP.nodup (fun q hq=>by simpa using hP.lt q hq)];have e:(List.replicate l.length (0:Int)).getD p 0=0:=by by_cases h:p<l.length<;>simp[List.getD,h]
   rw[e]
   by_cases hp:p∈P
   . simp[hp];omega
   . simp[hp]
 . rw[if_neg h,Kq _ _ _ _ _ hP.nodup hP.lt];have h1:=OT P (P.map fun p=>l.getD p 0) m p m;refine⟨by omega,by omega, ?_⟩
   by_cases hp:p∈P
   . have h2:=CQ P (P.map fun p=>l.getD p 0) m p (by rw[P8 hP.up hP.pos (by omega) hlo (by rw[hW,hP.length];exact hG.room),hW,ZK];exact hp) m hlo;exact⟨fun _=>hp,fun _=>by omega⟩
   . rw[J0 P _ m p hp];simp[hp]
theorem Ia (l:List Int)(P:List Nat)(m:Nat):(Cs l P m).length=l.length:=by
 unfold Cs
 split
 . rw[Ca];simp
 . exact Ek _ _ _ _ _
variable (l:List Int) (c:Nat->Nat) (m:Nat)
def Gx:List Nat->Nat
 | []=>0
 |x::xs=>x+Gx xs
theorem NH {xs ys:List Nat}(h:xs.Perm ys):Gx xs=Gx ys:=by
 induction h with
 |nil=>rfl
 |cons x _ ih=>rw[Gx,Gx,ih]
 |swap x y l=>simp only[Gx];omega
 |trans _ _ h1 h2=>exact h1.trans h2
theorem Z0s (P:List Nat)(f g:Nat->Nat):Gx (P.map f)+Gx (P.map g)=Gx (P.map fun p=>f p+g p):=by
 induction P with
 |nil=>rfl
 |cons p P ih=>simp only[WQ,Gx];omega
theorem FV (P:List Nat)(k:Nat):Gx (P.map fun _=>k)=P.length*k:=by
 induction P with
 |nil=>simp[Gx]
 |cons p P ih=>rw[WQ,Gx,ih,VJ,ZD];omega
theorem Z0r (P:List Nat)(f:Nat->Nat)(k:Nat):Gx (P.map fun p=>k*f p)=k*Gx (P.map f):=by
 induction P with
 |nil=>simp[Gx]
 |cons p P ih=>simp only[WQ,Gx];rw[ih,Nat.mul_add]
def up (d k:Nat):Nat:=if m-d<=k then 2^(d+1)-2^(m-k)else 0
end Go.Proofs.YtleocpdblhbimaaGreatDoor
