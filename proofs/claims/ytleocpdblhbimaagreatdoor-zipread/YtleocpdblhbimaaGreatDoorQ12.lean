import Derived.OwnWalk
import Derived.Laws.CopyOwn
import Derived.Laws.BitsAllLaws
import Derived.Deep.RegionHeld3
import Derived.Test.YtleocpdblhbimaaGreatDoorQ4
set_option linter.unusedSimpArgs false
set_option maxHeartbeats 2000000
namespace Go.Proofs.YtleocpdblhbimaaGreatDoor
open Go.RowKit
set_option linter.unusedVariables false
def CutAt (d:Nat->Int×Int)(n c:Nat):Prop:=∀i j,i<c->c<=j->j<n->(d i).2<(d j).2
theorem CutAt.moved {d d':Nat->Int×Int}{n c p q:Nat}(h:CutAt d n c)(hm:Stab.Moved p q d d')(hq:q<=n)(hc:c<=p\/q<=c):CutAt d' n c:=by
 intro i j hi hj hn
 have hi':∃i',i'<c/\d i'=d' i:=by
  by_cases e:p<=i/\i<q
  . obtain⟨k,k1,k2,k3⟩:=hm.mem e.1 e.2;exact⟨k,by omega,k3⟩
  . exact⟨i,hi,(hm.out i (by omega)).symm⟩
 have hj':∃j',c<=j'/\j'<n/\d j'=d' j:=by
  by_cases e:p<=j/\j<q
  . obtain⟨k,k1,k2,k3⟩:=hm.mem e.1 e.2;exact⟨k,by omega,by omega,k3⟩
  . exact⟨j,hj,hn,(hm.out j (by omega)).symm⟩
 obtain⟨i',h1,h2⟩:=hi';obtain⟨j',h3,h4,h5⟩:=hj';rw[<-h2,<-h5];exact h i' j' h1 h3 h4
def RW (d:Nat->Int×Int)(a b:Nat):Prop:=∀i j,a<=i->i<j->j<b->(d i).2<(d j).2
def Jq (d:Nat->Int×Int)(n B:Nat):Prop:=∀s,Stab.Srt Stab.lx d (s*B) (min (s*B+B) n)
def Cuts (d:Nat->Int×Int)(n B:Nat):Prop:=∀s,CutAt d n (s*B)
structure Part (d dk:Nat->Int×Int)(n X t:Nat):Prop where
 srt:∀s,s<t->Stab.Srt Stab.lx d (s*X) (s*X+X)
 rest:∀k,t*X<=k->d k=dk k
 cuts:Cuts d n X
theorem DW {s t:Nat}(X:Nat)(h:s<t):s*X+X<=t*X:=by
 have:=YZ X (show s+1<=t from h)
 rwa [ZD]at this
theorem Z7b {s t:Nat}(X:Nat)(h:s<=t):s*X<=t*X:=YZ X h
theorem DL (s t X n:Nat):s*X<=t*X\/t*X+X<=s*X:=by
 by_cases h:s<=t
 . exact .inl (Z7b X h)
 . exact .inr (DW X (by omega))
theorem Part.step {d dk d':Nat->Int×Int}{n X t:Nat}(h:Part d dk n X t)(hn:t*X+X<=n)(hm:Stab.Moved (t*X) (t*X+X) d d')(hs:Stab.Srt Stab.lx d' (t*X) (t*X+X)):Part d' dk n X (t+1):=by
 refine⟨fun s hst=> ?_,fun k hk=> ?_,fun s=>(h.cuts s).moved hm hn (DL s t X n)⟩
 . by_cases e:s=t
   . subst e;exact hs
   . have:=DW X (show s<t by omega)
     exact(h.srt s (by omega)).congr (fun k h1 h2=>hm.out k (by omega))
 . rw[ZD]at hk;rw[hm.out k (by omega)];exact h.rest k (by omega)
theorem Part.last {d dk d':Nat->Int×Int}{n X t:Nat}(h:Part d dk n X t)(h1:t*X<=n)(h2:n<=t*X+X)(hm:Stab.Moved (t*X) n d d')(hs:Stab.Srt Stab.lx d' (t*X) n):Jq d' n X/\Cuts d' n X:=by
 refine⟨fun s=> ?_,fun s=> ?_⟩
 . rcases ZR s t with e|e|e
   . have:=DW X e
     rw[YP (by omega)];exact(h.srt s e).congr (fun k h1 h2=>hm.out k (by omega))
   . subst e;rw[YG h2];exact hs
   . have:=DW X e
     intro i j hi hij hj;have:j<n:=VG hj (Nat.min_le_right _ _)
     omega
 . rcases DL s t X n with e|e
   . exact(h.cuts s).moved hm (VB _) (.inl e)
   . exact(h.cuts s).moved hm (VB _) (.inr (by omega))
theorem On {d dk:Nat->Int×Int}{n B t e:Nat}(hb:Jq dk n B)(hc:Cuts dk n B)(hr:∀k,t*(2*B)<=k->d k=dk k)(h1:t*(2*B)+B<e)(h2:e<=t*(2*B)+2*B)(h3:e<=n)(h4:e=n\/e=t*(2*B)+2*B):
 Stab.Srt Stab.lx d (t*(2*B)) (t*(2*B)+B)/\Stab.Srt Stab.lx d (t*(2*B)+B) e/\Stab.Cross d (t*(2*B)) (t*(2*B)+B) e:=by
 have e1:(2*t)*B=t*(2*B):=by rw[YF 2 t,XY]
 have e2:(2*t+1)*B=t*(2*B)+B:=by rw[ZD,e1]
 have b1:=hb (2*t);have b2:=hb (2*t+1);have c:=hc (2*t+1);rw[e1,YP (by omega)]at b1;rw[e2]at b2 c;generalize t*(2*B)=a at*;refine⟨b1.congr (fun k h _=>hr k h), ?_,fun i j hi hi2 hj hj2=> ?_⟩
 . refine Stab.Srt.congr (d:=dk) (b2.sub (VB _) ?_) (fun k h _=>hr k (by omega))
   rcases h4 with rfl|rfl
   . exact Nat.le_min.2 ⟨by omega,VB _⟩
   . exact Nat.le_min.2 ⟨by omega,h3⟩
 . rw[hr i hi,hr j (by omega)];exact c i j hi2 hj (by omega)
theorem MY {d dk:Nat->Int×Int}{n B t:Nat}(hb:Jq dk n B)(hr:∀k,t*(2*B)<=k->d k=dk k)(h:n<=t*(2*B)+B):Stab.Srt Stab.lx d (t*(2*B)) n:=by
 have e1:(2*t)*B=t*(2*B):=by rw[YF 2 t,XY]
 have b1:=hb (2*t);rw[e1,YG h]at b1;exact b1.congr (fun k h _=>hr k h)
theorem Cuts.double {d:Nat->Int×Int}{n B:Nat}(h:Cuts d n B):Cuts d n (2*B):=fun s=>by
 have e:s*(2*B)=(2*s)*B:=by rw[YF 2 s,XY]
 rw[e];exact h (2*s)
end Go.Proofs.YtleocpdblhbimaaGreatDoor
namespace Go.Proofs.YtleocpdblhbimaaGreatDoor
open Go.RowKit
set_option linter.unusedVariables false
set_option maxRecDepth 100000
def Kl (l:List Int):Nat->Nat
 |0=>0
 |k+1=>Kl l k+(if 0<l.getD k 0 then 2^(15-(l.getD k 0).toNat)else 0)
theorem BN (l:List Int):∀k,Kl l k<=32768*k
 |0=>by simp[Kl]
 |k+1=>by
  have ih:=BN l k
  have:2^(15-(l.getD k 0).toNat)<=32768:=by
   have:=VO (n:=2) (by decide) (show 15-(l.getD k 0).toNat<=15 by omega)
   omega
  rw[Kl]
  split<;>omega
theorem Ht (l:List Int)(hok:∀j,j<l.length->0<=l.getD j 0/\l.getD j 0<=15):∀k,k<=l.length->Kl l k=takenN (cnt (l.take k)) 15
 |0,_=>by
  show 0=takenN (cnt []) 15
  decide
 |k+1,hk=>by
  have ih:=Ht l hok k (by omega);have hkl:k<l.length:=by omega
  obtain⟨m,hm⟩:=WF (hok k hkl).1;have h15:=(hok k hkl).2;rw[Kl,ih,<-Ih l hkl hm,hm];rw[hm]at h15
  by_cases h0:m=0
  . subst h0;rw[Nd];simp
  . rw[Qg _ m (by omega) (by omega) 15 (by omega),if_pos (show (0:Int)<(m:Int) by omega),if_pos (by omega),WM]
theorem Z01 (m:Nat)(hm:m<=15):(32768:Int)/2^m=((2^(15-m):Nat):Int):=by
 have h:(2:Nat)^(15-m)*2^m=32768:=by rw[<-Nat.pow_add,show 15-m+m=15 by omega]
 have h2:((2^(15-m):Nat):Int)*((2^m:Nat):Int)=32768:=by exact_mod_cast h
 have hp:(0:Int)<((2^m:Nat):Int):=by exact_mod_cast Nat.pow_pos (n:=m) (show 0<2 by decide)
 have e:(2:Int)^m=((2^m:Nat):Int):=by push_cast;rfl
 rw[e,<-h2,Int.mul_ediv_cancel _ (by omega)]
theorem Z05 (a:Option Addr)(len cap:Nat)(l:List Int)(w:World)(hl:l.length=len)(hlen:len<=288)(hR:RowIn .i64 w a l)(hok:∀j,j<l.length->0<=l.getD j 0/\l.getD j 0<=15):
 Calls Tryz.prog 161 #[.slice a len cap] w fun e w'=>e=.returned (.int .i64 ((takenN (cnt l) 15:Nat):Int))/\w'=w:=by
 have HR:=Ab hR;have HOK:=Ab hok
 have HF:Hid (Kl l len=takenN (cnt l) 15):=by
  have:=Ht l hok l.length (VB _)
  rw[ZK]at this;rw[<-hl];exact this
 clear hR hok;go_enter Tryz.func161,Tryz.ntmps161
 go_wp2;go_loop [3,8] (fun s i=>∃k:Nat,k<=len/\i=.int .i64 (k:Int)/\s=.int .i64 ((Kl l k:Nat):Int)) (fun _ i=>len-(intOf i).toNat)
 case atStart=>exact⟨0,VH _,rfl,rfl⟩
 case round=>
  obtain⟨k,hk,rfl,rfl⟩:=hrel
  by_cases hlt:k<len
  . have hlk:k<l.length:=by omega
    obtain⟨b,o,rfl,hb,hRw⟩:∃b o,a=some ⟨b,o,none⟩/\b<w.heap.size/\Row .i64 w b o l:=by
     rcases Aa HR with rfl|h
     . simp at hlk
     . exact h
    have c1:=hRw k hlk;obtain⟨m,hm⟩:=WF (Aa HOK k hlk).1;have h15:=(Aa HOK k hlk).2;have HU:Hid (Kl l (k+1)=Kl l k+(if 0<l.getD k 0 then 2^(15-(l.getD k 0).toNat)else 0)):=rfl;have hle:=BN l k;rw[hm]at c1 h15 HU;rw[WM]at HU;have hm15:m<=15:=by omega
    have hsh:=Z01 m hm15
    have hp15:2^(15-m)<=32768:=by
     have:=VO (n:=2) (by decide) (show 15-m<=15 by omega)
     omega
    clear hRw hm;generalize Kl l k=u at*;generalize 2^(15-m)=z at*
    by_cases hx0:(0:Int)<(m:Int)
    . rw[if_pos hx0]at HU;go_wp2;go_round
      case rel=>exact⟨k+1,by omega,by go_num,by rw[Aa HU];go_num⟩
      case measure=>simp[intOf];omega
    . rw[if_neg hx0]at HU;go_wp2;go_round
      case rel=>exact⟨k+1,by omega,by go_num,by rw[Aa HU];rfl⟩
      case measure=>simp[intOf];omega
  . obtain rfl:k=len:=by omega
    go_wp2;go_ret;exact⟨Dd (by rw[Aa HF]),rfl⟩
theorem Ff (a:Option Addr)(len cap:Nat)(l:List Int)(w:World)(hl:l.length=len)(hM:len<=9223372036854775807)(hR:RowIn .i64 w a l):
 Calls Tryz.prog 124 #[.slice a len cap] w fun e w'=>e=.returned (.int .i64 (errL l))/\w'=w:=by
 by_cases hm:288<len
 . have e:errL l=2:=by unfold errL;rw[if_pos (by omega)]
   rw[e];clear e hR;go_enter Tryz.func124,Tryz.ntmps124
   go_wp2;go_ret;exact⟨rfl,rfl⟩
 . rcases Ml (fun j=>Rc (l.getD j 0)) len with hf|⟨j0,hj0,hbad,hf⟩
   . have hn:¬ ∃j,j<l.length/\Rc (l.getD j 0)=false:=by
      rintro ⟨j,hj,e⟩;have:=hf j (by omega)
      simp only[e]at this
      cases this
     have e:errL l=if 32768<takenN (cnt l) 15 then 8 else 0:=by unfold errL;rw[if_neg (by omega),if_neg hn]
     have HRoom:=Ab (Z05 a len cap l w hl (by omega) hR (fun j hj=>Dw (hf j (by omega))));have HR:=Ab hR;have HOK:Hid (∀j,j<len->0<=l.getD j 0/\l.getD j 0<=15):=fun j hj=>Dw (hf j hj)
     rw[e];clear hR hf hn e;go_enter Tryz.func124,Tryz.ntmps124
     go_wp2;go_loop [10] (fun i=>∃k:Nat,k<=len/\i=.int .i64 (k:Int)) (fun i=>len-(intOf i).toNat)
     case atStart=>exact⟨0,VH _,rfl⟩
     case round=>
      obtain⟨k,hk,rfl⟩:=hrel
      by_cases hlt:k<len
      . have hlk:k<l.length:=by omega
        obtain⟨b,o,rfl,hb,hRw⟩:∃b o,a=some ⟨b,o,none⟩/\b<w.heap.size/\Row .i64 w b o l:=by
         rcases Aa HR with rfl|h
         . simp at hlk
         . exact h
        have c1:=hRw k hlk;obtain⟨h1,h2⟩:=Aa HOK k hlt;clear hRw;generalize l.getD k 0=x at*;have h1':¬x<0:=by omega
        have h2':¬15<x:=by omega
        go_wp2;go_round
        case rel=>exact⟨k+1,by omega,by go_num⟩
        case measure=>simp[intOf];omega
      . obtain rfl:k=len:=by omega
        go_wp2_with fail
        refine(Aa HRoom).mono ?_;rintro e w1 ⟨rfl,rfl⟩
        by_cases ht:32768<takenN (cnt l) 15
        . go_wp2;go_ret;exact⟨by first|rfl|(rw[if_pos ht];rfl),rfl⟩
        . go_wp2;go_ret;exact⟨by first|rfl|(rw[if_neg ht];rfl),rfl⟩
   . have e:errL l=3:=by unfold errL;rw[if_neg (by omega),if_pos ⟨j0,by omega,hbad⟩]
     rw[e]
     obtain⟨b,o,rfl,hb,hRw⟩:∃b o,a=some ⟨b,o,none⟩/\b<w.heap.size/\Row .i64 w b o l:=by
      rcases hR with rfl|h
      . simp at hl;omega
      . exact h
     have HRw:=Ab hRw;have HF:Hid (∀j,j<j0->0<=l.getD j 0/\l.getD j 0<=15):=fun j hj=>Dw (hf j hj)
     have HBad:=Ab (Hw hbad);clear hR hf hbad e hRw;go_enter Tryz.func124,Tryz.ntmps124
     go_wp2;go_loop [10] (fun i=>∃k:Nat,k<=j0/\i=.int .i64 (k:Int)) (fun i=>len-(intOf i).toNat)
     case atStart=>exact⟨0,VH _,rfl⟩
     case round=>
      obtain⟨k,hk,rfl⟩:=hrel;have c1:=Aa HRw k (by omega)
      by_cases hlt:k<j0
      . obtain⟨h1,h2⟩:=Aa HF k hlt;generalize l.getD k 0=x at*;have h1':¬x<0:=by omega
        have h2':¬15<x:=by omega
        go_wp2;go_round
        case rel=>exact⟨k+1,by omega,by go_num⟩
        case measure=>simp[intOf];omega
      . obtain rfl:k=j0:=by omega
        have hb2:=Aa HBad;generalize l.getD k 0=x at*
        by_cases h1:x<0
        . clear hb2;go_wp2;go_ret;exact⟨rfl,rfl⟩
        . have h2:15<x:=by omega
          clear hb2;go_wp2;go_ret;exact⟨rfl,rfl⟩
end Go.Proofs.YtleocpdblhbimaaGreatDoor
namespace Go.Proofs.YtleocpdblhbimaaGreatDoor
set_option linter.unusedVariables false
set_option maxRecDepth 100000
theorem CX:∀n c c',c<2^n->c'<2^n->hb c n=hb c' n->c=c'
 |0,c,c',h,h',_=>by simp at h h';omega
 |n+1,c,c',h,h',e=>by
  rw[XC]at h h';rw[hb,hb]at e;have e1:=List.append_inj e (by rw[Bd,Bd]);have e2:=CX n (c/2) (c'/2) (by omega) (by omega) e1.1;have e3:decide (c%2=1)=decide (c'%2=1):=by simpa using e1.2
  have e4:(c%2=1↔c'%2=1):=by simpa using e3
  omega
theorem Sr (l:List Int)(hG:Good l)(s:List Bool)(hs:s≠ [])(q q':Nat)(hq:q<l.length)(hq':q'<l.length)(e:codeT l q=s)(e':codeT l q'=s):q=q':=by
 obtain⟨m,hm⟩:=WF (hG.ok q hq).1;obtain⟨m',hm'⟩:=WF (hG.ok q' hq').1;have hl:=congrArg List.length (e.trans e'.symm)
 have hs0:0<m:=by
  by_cases h:m=0
  . subst h;unfold codeT at e;rw[hm]at e;exact absurd e.symm hs
  . omega
 have ee:=e.trans e'.symm;unfold codeT at hl ee;rw[hm,hm',WM,WM]at hl ee;rw[Bd,Bd]at hl;subst hl
 by_cases h:q=q'
 . exact h
 . have c3:=(Ig l hG hq hm hs0).2.2;have c3':=(Ig l hG hq' hm' hs0).2.2;have:=V1 l hG hq hq' hm hm' h hs0 (VB _)
   rw[XW,Nat.pow_zero,Nat.div_one]at this;exact absurd (CX m _ _ c3' c3 ee.symm) this
theorem Pc (l:List Int)(row:List Bool)(p:Nat):∀k f,(∀j,1<=j->j<=k->¬row.length<p+j/\Ok l ((row.drop p).take j)=none)->∀n,n+k=k+1->Ej l row p (k+f) n=Ej l row p f (n+k)
 |0,f,_,n,_=>by simp
 |k+1,f,h,n,hn=>by
  have e:=Pc l row p k (f+1) (fun j h1 h2=>h j h1 (by omega)) n (by omega);rw[show k+1+f=k+(f+1) by omega,e];obtain rfl:n=1:=by omega
  obtain⟨a1,a2⟩:=h (k+1) (by omega) (VB _);rw[Ej,show 1+k=k+1 by omega,if_neg a1,a2,show 1+(k+1)=k+1+1 by omega]
end Go.Proofs.YtleocpdblhbimaaGreatDoor
namespace Go.Proofs.YtleocpdblhbimaaGreatDoor
open Go.RowKit
set_option linter.unusedVariables false
set_option maxRecDepth 100000
theorem Za (n:Nat):(Builtin.zeroCells (Value.int .i64 0).cells n).toList=iv (List.replicate n 0):=by
 show (Builtin.zeroCells #[Value.int .i64 0] n).toList=_
 unfold Builtin.zeroCells;apply List.ext_getElem?
 intro i
 by_cases h:i<n
 . simp[h,Nat.mod_one]
 . simp[h]
theorem Qq (w:World)(ty:TypeId)(n:Nat)(h0:0<n)(hn:n<=100000):
 ∃c w',(Builtin.append_ #[76,3] ty #[.slice none 0 0,.int .i64 (n:Int)]).run Tryz.prog w=.ok (.slice (some ⟨w.heap.size,0,none⟩) n c) w'/\n<=c/\c<=maxLen/\w'.heap[w.heap.size]? =some (.cells (iv (List.replicate c 0)).toArray 3 (0,0))/\w.grownBy w' none:=by
 obtain⟨i0,hi,hz0,hz1,hz2⟩:=info_parts Bv;have hge:=grownCap_ge w n 0 3;have hle:=grownCap_le_maxLen w n 0 3 (by unfold maxLen;omega);have hnz:n≠0:=by omega
 have h63':¬(9223372036854775807<(n:Int)):=by omega
 have hneg:¬((n:Int)<0):=by omega
 have h48:¬(281474976710656<(n:Int)*8):=by omega
 have h48':¬(281474976710656<Builtin.nextslicecap n 0*8):=by rw[nextslicecap_zero h0];omega
 have hw:IntKind.i64.wrap (n:Int)=(n:Int):=by simp[IntKind.wrap,IntKind.signed,IntKind.bits];omega
 refine⟨grownCap w n 0 3,w.drew.alloc (.cells (Builtin.zeroCells (Value.int .i64 0).cells n++Builtin.zeroCells (Value.int .i64 0).cells (grownCap w n 0 3-n)) 3), ?_,hge,hle, ?_, ?_⟩
 . simp[Builtin.append_,run_underlying Tryz.underlying76,run_underlying Tryz.underlying3,sizeOf,typeInfo,zeroValue,hi,hz0,hz1,hz2,asInt,asIntOf,hw,hneg,h48,hnz,h63',h48',Question.forced,run_firstCells_none,newRow,grownCap]
 . have:=heap_alloc_new w.drew (.cells (Builtin.zeroCells (Value.int .i64 0).cells n++Builtin.zeroCells (Value.int .i64 0).cells (grownCap w n 0 3-n)) 3)
   rw[show w.drew.heap.size=w.heap.size from rfl]at this;rw[this]
   congr 2
   apply Array.ext'
   rw[Array.toList_append,Za,Za];show _=iv (List.replicate (grownCap w n 0 3) 0)
   unfold iv;rw[<-WU,List.replicate_append_replicate]
   congr 2
   omega
 . exact⟨rfl,rfl,rfl,by simp,fun k hk _=>Below.heap_alloc w.drew _ k hk⟩
theorem La (w:World){ops:Array Oper}{rest:List Oper}{o:Oper}{a:Act}{Q:Exit->Act->World->Prop}(hgd:o.guard=none)(s x:Operand)
 (ho:o.op=.call {callee:=.builtin .append,args:= #[s,x],argTypes:= #[76,3]}) (n:Nat) (hs:a.eval s=.slice none 0 0) (hx:a.eval x=.int .i64 (n:Int)) (h0:0<n) (hn:n<=100000)
 (h:∀c w',n<=c->c<=maxLen->w'.heap[w.heap.size]? =some (.cells (iv (List.replicate c 0)).toArray 3 (0,0))->w.grownBy w' none->wpList Tryz.prog ops Q rest (a.put o.dst (.slice (some ⟨w.heap.size,0,none⟩) n c)) w'):
 wpList Tryz.prog ops Q (o::rest) a w:=by
 refine wpList_plain hgd fun K hK=> ?_
 obtain⟨c,w',hr,h2,h3,h4,h5⟩:=Qq w o.type n h0 hn;unfold Oper.wp execOp;simp only[ho,resolve,invoke,builtin,Sem.run_bind,Sem.run_pure,Result.andThen_ok,ZL,WQ,ZE,hs,hx,hr];exact hK _ _ (h c w' h2 h3 h4 h5)
theorem Z1i (n:Nat)(w:World)(h0:0<n)(hn:n<=100000):Calls Tryz.prog 159 #[.slice none 0 0,.int .i64 (n:Int)] w fun e w'=>∃c,e=.returned (.slice (some ⟨w.heap.size,0,none⟩) 0 c)/\w'.ownsRow w.heap.size 3 1 (.slice (some ⟨w.heap.size,0,none⟩) 0 c) 0 (iv [])/\Below w.heap.size w w':=by
 go_enter Tryz.func159,Tryz.ntmps159
 go_wp2_with (refine La w rfl (.tmp 20) (.tmp 21) rfl n rfl rfl h0 hn ?_)
 intro c w2 hc1 hc2 hg hgr;have HB:=Ab (Hq (Below.refl w.heap.size w) hgr (VB _));have HO:Hid (w2.ownsRow w.heap.size 3 1 (.slice (some ⟨w.heap.size,0,none⟩) 0 c) 0 (iv [])):=⟨rfl,.inr ⟨w.heap.size,c,_,rfl,VB _,hg,VH _,hc2,by simp,rfl⟩⟩
 clear hg hgr;go_wp2;go_ret;exact⟨c,rfl,Aa HO,Aa HB⟩
def Jp (ps:List (Nat×List Int)):Nat->List Int
 |0=> []
 |k+1=>Jp ps k++(ps.getD k (0,[])).2
theorem C2 {w:World}{g:Nat}{xs:List Int}(h:RowIn .i64 w (some ⟨g,0,none⟩) xs):∀j u,(iv xs)[j]? =some u->w.cell? ((⟨g,0,none⟩:Addr).add j)=some u:=by
 intro j u hj;have e:(⟨g,0,none⟩:Addr).add j=⟨g,j,none⟩:=by unfold Addr.add;split<;>simp_all
 rcases h with rfl|⟨b,o,e1,_,h⟩
 . simp at hj
 . cases e1
   have hj2:j<xs.length:=by
    by_cases c:j<xs.length
    . exact c
    . rw[WJ (by simp;omega)]at hj;cases hj
   have:=h j hj2
   rw[e];simp[hj2]at hj
   subst hj;simpa[List.getD,hj2]using this
theorem OC (xs:List Int):∀u∈iv xs,u.oneCell'=true:=by intro u hu;obtain⟨x,_,rfl⟩:=XG.1 hu;rfl
theorem Vx (b o len cap:Nat)(cp:Nat->Nat)(ps:List (Nat×List Int))(w:World)(hb:b<w.heap.size)(hc:∀j,j<len->w.cell? ⟨b,o+j,none⟩=some (.slice (some ⟨(ps.getD j (0,[])).1,0,none⟩) (ps.getD j (0,[])).2.length (cp j)))(hr:∀j,j<len->RowIn .i64 w (some ⟨(ps.getD j (0,[])).1,0,none⟩) (ps.getD j (0,[])).2)
 (hsum:∀k,k<=len->(Jp ps k).length<=1000) (hpos:0<(Jp ps len).length) (hlen:len<=100):
 Calls Tryz.prog 122 #[.slice (some ⟨b,o,none⟩) len cap] w fun e w'=>∃v,e=.returned v/\w'.ownsRow w.heap.size 3 1 v (Jp ps len).length (iv (Jp ps len))/\Below w.heap.size w w':=by
 obtain⟨i0,hi,hz0,hz1,hz2⟩:=info_parts Bv;have HC:=Ab hc;have HR:=Ab hr;have HS:=Ab hsum;obtain⟨T,hT⟩:∃T,(Jp ps len).length=T:=⟨_,rfl⟩
 have hT1:0<T/\T<=1000:=by have:=hsum len (VB _);omega
 obtain⟨hT0,hT1⟩:=hT1;have HTT:=Ab hT;clear hc hr hsum hpos hT;go_enter Tryz.func122,Tryz.ntmps122
 go_wp2;go_loop [3,11] (fun v3 v11=>∃k:Nat,k<=len/\v11=.int .i64 (k:Int)/\v3=.int .i64 ((Jp ps k).length:Int)) (fun _ v11=>len-(intOf v11).toNat)
 case atStart=>exact⟨0,VH _,rfl,rfl⟩
 case round=>
  obtain⟨k,hk,rfl,rfl⟩:=hrel
  by_cases hlt:k<len
  . have c1:=Aa HC k hlt;have hs:=Aa HS (k+1) (by omega);have HN:Hid ((Jp ps (k+1)).length=(Jp ps k).length+(ps.getD k (0,[])).2.length):=Ab (by rw[Jp,VE]);rw[Aa HN]at hs;generalize (ps.getD k (0,[])).2.length=m at*;generalize cp k=mc at*;generalize (ps.getD k (0,[])).1=g at*;generalize (Jp ps k).length=L at*;go_wp2;go_round
    case rel=>exact⟨k+1,by omega,by go_num,by rw[Aa HN];go_num⟩
    case measure=>simp[intOf];omega
  . obtain rfl:len=k:=by omega
    rw[Aa HTT];go_wp2_with fail
    refine(Z1i T w hT0 (by omega)).mono ?_;rintro e w2 ⟨c,rfl,hO2,hB2⟩;have HO2:=Ab hO2;have HB2:=Ab hB2;clear hO2 hB2;go_wp2;go_loopw [6,27] (fun v6 v27 wr=>∃k:Nat,k<=len/\v27=.int .i64 (k:Int)/\wr.ownsRow w.heap.size 3 1 v6 (Jp ps k).length (iv (Jp ps k))/\Below w.heap.size w wr) (fun _ v27 _=>len-(intOf v27).toNat)
    case atStart=>exact⟨0,VH _,rfl,Aa HO2,Aa HB2⟩
    case round=>
     obtain⟨k,hk2,rfl,hO,hBr⟩:=hrel;have HO:=Ab hO;have HBr:=Ab hBr;have hzr:=hBr.size
     by_cases hlt2:k<len
     . have c1:=(hBr.cell (p:=⟨b,o+k,none⟩) hb).trans (Aa HC k hlt2);have hrow:=(Aa HR k hlt2).below hBr (VB _);have HRC:=Ab (C2 hrow);have hs:=Aa HS (k+1) (by omega);have HN:Hid (Jp ps (k+1)=Jp ps k++(ps.getD k (0,[])).2):=Ab rfl;rw[Aa HN,VE]at hs;generalize (ps.getD k (0,[])).2=xs at*;generalize (ps.getD k (0,[])).1=g at*;generalize cp k=mc at*;obtain⟨m,hm⟩:∃m,xs.length=m:=⟨_,rfl⟩
       obtain⟨L,hL⟩:∃L,(Jp ps k).length=L:=⟨_,rfl⟩
       rw[hm]at c1 hs;rw[hL]at hs HO;have HM:=Ab hm;have HLL:=Ab hL;clear hO hBr hrow hm hL;go_wp2_with (at_builtin;refine wpList_append_own_at _ rfl _ _ 76 rfl w.heap.size 3 i0 (.int .i64 0) 1 8 Tryz.underlying76 hi hz0 hz1 hz2 rfl (by decide) u6 L (iv (Jp ps k)) rfl (Aa HO) ⟨g,0,none⟩ m mc (iv xs) rfl (by rw[WL,Aa HM,Nat.mul_one]) (Aa HRC) (OC xs) (by unfold maxLen;omega) (by omega) (by omega) ?_)
       intro v' w4 hO4 hgrow _ hspot
       have HO4:Hid (w4.ownsRow w.heap.size 3 1 v' (Jp ps (k+1)).length (iv (Jp ps (k+1)))):=by
        rw[Aa HN,VE,Aa HLL,Aa HM];show w4.ownsRow w.heap.size 3 1 v' (L+m) (List.map (Value.int .i64) (Jp ps k++xs))
        rw[WU];exact hO4
       have HB4:=Ab ((Aa HBr).grown hgrow (by omega) (fun g e=>((Aa HO).lt g e).1));clear hO4 hgrow hspot c1 HRC;go_wp2;go_roundw
       case rel=>exact⟨k+1,by omega,by go_num,Aa HO4,Aa HB4⟩
       case measure=>simp[intOf];omega
     . obtain rfl:len=k:=by omega
       clear hO hBr;go_wp2;go_ret;exact⟨u6,rfl,Aa HO,Aa HBr⟩
theorem IX (b o len cap:Nat)(ps:List (Nat×List Int))(w:World)(hb:b<w.heap.size)(hc:∀j,j<len->w.cell? ⟨b,o+j,none⟩=some (.slice (some ⟨(ps.getD j (0,[])).1,0,none⟩) (ps.getD j (0,[])).2.length (ps.getD j (0,[])).2.length))(hr:∀j,j<len->RowIn .i64 w (some ⟨(ps.getD j (0,[])).1,0,none⟩) (ps.getD j (0,[])).2)
 (hsum:∀k,k<=len->(Jp ps k).length<=1000) (hpos:0<(Jp ps len).length) (hlen:len<=100):
 Calls Tryz.prog 122 #[.slice (some ⟨b,o,none⟩) len cap] w fun e w'=>∃v,e=.returned v/\w'.ownsRow w.heap.size 3 1 v (Jp ps len).length (iv (Jp ps len))/\Below w.heap.size w w':=Vx b o len cap (fun j=>(ps.getD j (0,[])).2.length) ps w hb hc hr hsum hpos hlen
theorem NQ (n:Nat)(hn:n<4294967296):bits .and .u64 (n:Int) 4294967295=(n:Int):=by
 have h:=u64_and_nat n 4294967295 (by omega) (by omega)
 have e:n&&&4294967295=n:=by
  rw[show (4294967295:Nat)=2^32-1 by rfl,Nat.and_two_pow_sub_one_eq_mod];exact ZJ hn
 rw[e]at h;simpa using h
theorem NN (n:Nat)(w:World)(hn:n<4294967296):Calls Tryz.prog 194 #[.int .u64 1,.int .u64 (n:Int)] w fun e w'=>e=.returned (.tuple #[.int .u64 0,.int .u64 (n:Int)])/\w'=w:=by
 have hA:bits .and .u64 1 4294967295=1:=by simpa using NQ 1 (by omega)
 have hC:bits .and .u64 0 4294967295=0:=by simpa using NQ 0 (by omega)
 have hB:=NQ n hn;have hD:(n:Int)/4294967296=0:=by omega
 have hW:IntKind.u64.wrap (n:Int)=(n:Int):=by simp[IntKind.wrap,IntKind.signed,IntKind.bits];omega
 have hW0:IntKind.u64.wrap 0=0:=by decide
 go_enter Tryz.func194,Tryz.ntmps194
 go_wp2;go_ret2;exact⟨rfl,rfl⟩
theorem mul_one (n:Nat)(w:World)(hn:n<4294967296):Calls Tryz.prog 160 #[.int .u64 1,.int .u64 (n:Int)] w fun e w'=>e=.returned (.tuple #[.int .u64 0,.int .u64 (n:Int)])/\w'=w:=by
 go_enter Tryz.func160,Tryz.ntmps160
 go_wp2_with fail
 refine(NN n w hn).mono ?_;rintro e w' ⟨rfl,rfl⟩;go_wp2;go_ret2;exact⟨rfl,rfl⟩
def Uw (x:Int)(c n:Nat):List Value:=iv (List.replicate c x++List.replicate (n-c) 0)
theorem Qv (x:Int)(c n:Nat)(h:c<=n):(Uw x c n).length=n:=by simp[Uw];omega
theorem Qu (x:Int)(c d n:Nat)(h:c+d<=n):splice (Uw x c n) c (iv (List.replicate d x))=Uw x (c+d) n:=by
 unfold splice Uw iv;rw[WU,YS (by simp),WL,XD]
 have e:List.drop (c+d) (List.map (Value.int .i64) (List.replicate c x)++List.map (Value.int .i64) (List.replicate (n-c) 0))=List.map (Value.int .i64) (List.replicate (n-(c+d)) 0):=by
  rw[List.drop_append];simp
  omega
 rw[e,<-VS,<-WU,<-WU]
 congr 2
 rw[List.replicate_append_replicate]
theorem LY {w:World}{g n c:Nat}{x:Int}(h:w.heap[g]? =some (.cells (Uw x c n).toArray 3 (0,0)))(d:Nat)(hd:d<=c):∀j v,(iv (List.replicate d x))[j]? =some v->w.cell? ((⟨g,0,none⟩:Addr).add j)=some v:=by
 intro j v hj;have e:(⟨g,0,none⟩:Addr).add j=⟨g,j,none⟩:=by unfold Addr.add;split<;>simp_all
 rw[e,cell_of_row w g j _ _ _ h]
 have hj2:j<d:=by
  by_cases c':j<d
  . exact c'
  . rw[WJ (by simp;omega)]at hj;cases hj
 simp[hj2]at hj
 subst hj;simp[Uw,List.getElem?_append,show j<c by omega]
theorem FK (b o cc:Nat)(x:Int)(n:Nat)(w:World)(hb:b<w.heap.size)(hc:w.cell? ⟨b,o,none⟩=some (.int .i64 x))(h1:1<=n)(hn:n<=1000):
 Calls Tryz.prog 123 #[.slice (some ⟨b,o,none⟩) 1 cc,.int .i64 (n:Int)] w fun e w'=>e=.returned (.slice (some ⟨w.heap.size,0,none⟩) n n)/\w'.heap[w.heap.size]? =some (.cells (Uw x n n).toArray 3 (0,0))/\Below w.heap.size w w':=by
 obtain⟨i0,hi,hz0,hz1,hz2⟩:=info_parts Bv;have hsz:(Tryz.prog.info? 3).map (·.size)=some 1:=by rw[hi];simp[hz1]
 have hW:IntKind.u64.wrap (n:Int)=(n:Int):=by simp[IntKind.wrap,IntKind.signed,IntKind.bits];omega
 have hW1:IntKind.u64.wrap 1=1:=by decide
 go_enter Tryz.func123,Tryz.ntmps123
 go_wp2_with fail
 refine(mul_one n w (by omega)).mono ?_;rintro e w1 ⟨rfl,rfl⟩;go_wp2_with (at_make;refine wpList_make_full _ rfl _ _ 76 rfl w1.heap.size 3 i0 (.int .i64 0) 1 Tryz.underlying76 hi hz0 hz1 _ _ _ _ n rfl rfl rfl rfl (by rw[hz2];omega) (by unfold maxLen;omega) (VB _) ?_)
 intro w2 hO2 hg2
 have hg2':w2.heap[w1.heap.size]? =some (.cells (Uw x 0 n).toArray 3 (0,0)):=by
  rcases hO2.2 with ⟨h,_⟩|⟨g,cap,cur,h,_,h3,h4,h5,h6,h7⟩
  . cases h
  . simp only[Value.slice.injEq,YB,Addr.mk.injEq]at h;obtain⟨⟨rfl,_⟩,_,rfl⟩:=h;rw[h3]
    congr 2
    have e1:cur.toList.take (n*1)=cur.toList:=VV (by simp[h6]);rw[e1]at h7
    have e2:cur.toList=Uw x 0 n:=by
     rw[h7];show (madeCells #[Value.int .i64 0] n).toList=_
     rw[toList_madeCells_one];simp[Uw]
    rw[<-e2]
 have HG2:=Ab hg2';have HB2:=Ab (Hq (Below.refl w1.heap.size w1) hg2 (VB _));have hc2:w2.cell? ⟨b,o,none⟩=some (.int .i64 x):=hg2.cell hc (by simp);have hz2':=hg2.size;clear hO2 hg2 hg2' hc
 have hs1:∀j v,(iv (List.replicate 1 x))[j]? =some v->w2.cell? ((⟨b,o,none⟩:Addr).add j)=some v:=by
  intro j v hj
  match j,hj with
  |0,hj=>
   simp at hj
   subst hj;simpa[Addr.add]using hc2
 have hs2:(iv (List.replicate 1 x)).length=Nat.min 1 n:=by
  show 1=min 1 n
  omega
 have hs3:0+(iv (List.replicate 1 x)).length<=(Uw x 0 n).length:=by
  rw[Qv x 0 n (VH _)];show 0+1<=n
  omega
 have hs4:∀v∈iv (List.replicate 1 x),v.oneCell'=true:=by intro v hv;simp at hv;subst hv;rfl
 have HS1:=Ab hs1;have HS2:=Ab hs2;have HS3:=Ab hs3;have HS4:=Ab hs4;clear hs1 hs2 hs3 hs4;go_wp2_with (refine wpList_copy_splice rfl (.tmp 31) (.tmp 32) 76 76 rfl 3 Tryz.underlying76 hsz (some ⟨w1.heap.size,0,none⟩) (some ⟨b,o,none⟩) n n 1 cc rfl rfl w1.heap.size 0 (Uw x 0 n) 3 (Aa HG2) (iv (List.replicate 1 x)) (Aa HS2) (fun _=>⟨rfl,_,rfl,Aa HS1⟩) (Aa HS3) (Aa HS4) w1.heap.size w1 (Aa HB2) (VB _) ?_)
 intro w3 hg3 hb3
 have HG3:Hid (w3.heap[w1.heap.size]? =some (.cells (Uw x 1 n).toArray 3 (0,0))):=by
  have e:=Qu x 0 1 n (by omega);rw[WG]at e;rw[<-e];exact hg3
 have HB3:=Ab hb3;clear hg3 hb3 hc2;go_wp2;go_loopw [8] (fun v8 wr=>∃c:Nat,1<=c/\c<=n/\v8=.int .i64 (c:Int)/\wr.heap[w1.heap.size]? =some (.cells (Uw x c n).toArray 3 (0,0))/\Below w1.heap.size w1 wr) (fun v8 _=>n-(intOf v8).toNat)
 case atStart=>exact⟨1,VB _,h1,rfl,Aa HG3,Aa HB3⟩
 case round=>
  obtain⟨c,hc1,hcn,rfl,hG,hBr⟩:=hrel;have HG:=Ab hG;have HBr:=Ab hBr;clear hG hBr
  by_cases hlt:c<n
  . obtain⟨d,hd⟩:∃d,d=Nat.min c (n-c):=⟨_,rfl⟩
    have hd1:d<=c/\c+d<=n/\1<=d:=by
     have hd':d=min c (n-c):=hd;omega
    obtain⟨hd1,hd2,hd3⟩:=hd1;have hcn2:¬n=c:=by omega
    have hn0:¬n=0:=by omega
    have HD:=Ab hd;have ht2:(iv (List.replicate d x)).length=Nat.min c (n-c):=by simp[hd]
    have ht3:c+(iv (List.replicate d x)).length<=(Uw x c n).length:=by rw[Qv x c n hcn];simp;omega
    have ht4:∀v∈iv (List.replicate d x),v.oneCell'=true:=by intro v hv;simp at hv;obtain⟨_,rfl⟩:=hv;rfl
    have HT2:=Ab ht2;have HT3:=Ab ht3;have HT4:=Ab ht4;clear hd ht2 ht3 ht4;go_wp2;go_region_held3 (fun _=>True) (trivial) (first|(refine step_copy_splice rfl (.tmp 41) (.tmp 44) 76 76 rfl 3 Tryz.underlying76 hsz (some ⟨w1.heap.size,c,none⟩) (some ⟨w1.heap.size,0,none⟩) (n-c) (n-c) c n (by simp[Act.eval]) (by simp[Act.eval]) w1.heap.size c (Uw x c n) 3 (Aa HG) (iv (List.replicate d x)) (Aa HT2) (fun _=>⟨rfl,_,rfl,LY (Aa HG) d hd1⟩) (Aa HT3) (Aa HT4) w1.heap.size w1 (Ae (Aa HBr) 1) (VB _) ?_;intro w4 hg4 hb4))
    have HG4:Hid (w4.heap[w1.heap.size]? =some (.cells (Uw x (c+d) n).toArray 3 (0,0))):=by
     rw[<-Qu x c d n hd2];exact hg4
    have HB4:=Ab hb4;clear hg4 hb4
    have hwr:IntKind.i64.wrap ((c:Int)+(d:Int))=((c+d:Nat):Int):=by
     simp[IntKind.wrap,IntKind.signed,IntKind.bits];omega
    go_wp2;go_roundw
    case rel=>exact⟨c+d,by omega,by omega,by rw[hwr],Aa HG4,Aa HB4⟩
    case measure=>rw[hwr];simp[intOf];omega
  . obtain rfl:n=c:=by omega
    go_wp2;go_ret;exact⟨rfl,Aa HG,Aa HBr⟩
theorem FF {w:World}{g n:Nat}{x:Int}(h:w.heap[g]? =some (.cells (Uw x n n).toArray 3 (0,0))):RowIn .i64 w (some ⟨g,0,none⟩) (List.replicate n x):=by
 refine .inr ⟨g,0,rfl,(VK.1 h).1, ?_⟩;intro j hj;rw[WG,cell_of_row w g j _ _ _ h];have hj':j<n:=by simpa using hj
 simp[Uw,List.getD,hj']
theorem Fp (x:Int)(n:Nat)(w:World)(h1:1<=n)(hn:n<=1000):
 Calls Tryz.prog 123 #[.slice (some ⟨w.heap.size,0,none⟩) 1 1,.int .i64 (n:Int)] (w.alloc (.cells #[.int .i64 x] 3)) fun e w'=>e=.returned (.slice (some ⟨w.heap.size+1,0,none⟩) n n)/\RowIn .i64 w' (some ⟨w.heap.size+1,0,none⟩) (List.replicate n x)/\Below w.heap.size w w'/\w.heap.size+1<w'.heap.size:=by
 refine(FK w.heap.size 0 1 x n _ (by simp) (by simp) h1 hn).mono ?_;rintro e w' ⟨rfl,hg,hB⟩;rw[World.size_alloc]at hg hB;exact⟨by rw[World.size_alloc],FF hg,((Below.refl w.heap.size w).alloc (VB _) _).trans (hB.mono (by omega)),(VK.1 hg).1⟩
def PG (g1 g2 g3 g4:Nat):List (Nat×List Int):= [(g1,List.replicate 144 8),(g2,List.replicate 112 9),(g3,List.replicate 24 7),(g4,List.replicate 8 8)]
theorem DQ (g1 g2 g3 g4:Nat):Jp (PG g1 g2 g3 g4) 4=Ky:=rfl
theorem Z5f (g1 g2 g3 g4:Nat):∀k,k<=4->(Jp (PG g1 g2 g3 g4) k).length<=1000:=by
 intro k hk
 match k,hk with
 |0,_=>simp[Jp]
 |1,_=>simp[Jp,PG]
 |2,_=>simp[Jp,PG]
 |3,_=>simp[Jp,PG]
 |4,_=>simp[Jp,PG]
theorem PI (w:World):Calls Tryz.prog 94 #[] w fun e w'=>∃g1 c1 g2,e=.returned (.tuple #[.slice (some ⟨g1,0,none⟩) 288 c1,.slice (some ⟨g2,0,none⟩) 32 32])/\w.heap.size<=g1/\w.heap.size<=g2/\RowIn .i64 w' (some ⟨g1,0,none⟩) Ky/\RowIn .i64 w' (some ⟨g2,0,none⟩) Ir/\Below w.heap.size w w':=by
 go_enter Tryz.func94,Tryz.ntmps94
 go_wp2_with fail
 refine(Fp 8 144 w (by omega) (by omega)).mono ?_;rintro e w1 ⟨rfl,hR1,hB1,hs1⟩;have HR1:=Ab hR1;have HB1:=Ab hB1;have hz1:=hB1.size;clear hR1 hB1;go_wp2_with fail
 refine(Fp 9 112 w1 (by omega) (by omega)).mono ?_;rintro e w2 ⟨rfl,hR2,hB2,hs2⟩;have HRa2:=Ab ((Aa HR1).below hB2 (VB _));have HRb2:=Ab hR2;have HB2:=Ab ((Aa HB1).trans (hB2.mono hz1));have hz2:=VU hz1 hB2.size;have hz12:=hB2.size;clear hR2 hB2 HR1 HB1;go_wp2_with fail
 refine(Fp 7 24 w2 (by omega) (by omega)).mono ?_;rintro e w3 ⟨rfl,hR3,hB3,hs3⟩;have HRa3:=Ab ((Aa HRa2).below hB3 (VB _));have HRb3:=Ab ((Aa HRb2).below hB3 (VB _));have HRc3:=Ab hR3;have HB3:=Ab ((Aa HB2).trans (hB3.mono hz2));have hz3:=VU hz2 hB3.size;have hz23:=hB3.size;clear hR3 hB3 HRa2 HRb2 HB2;go_wp2_with fail
 refine(Fp 8 8 w3 (by omega) (by omega)).mono ?_;rintro e w4 ⟨rfl,hR4,hB4,hs4⟩;have HRa4:=Ab ((Aa HRa3).below hB4 (VB _));have HRb4:=Ab ((Aa HRb3).below hB4 (VB _));have HRc4:=Ab ((Aa HRc3).below hB4 (VB _));have HRd4:=Ab hR4;have HB4:=Ab ((Aa HB3).trans (hB4.mono hz3));have hz4:=VU hz3 hB4.size;clear hR4 hB4 HRa3 HRb3 HRc3 HB3;generalize hg1:w.heap.size+1=g1 at*;generalize hg2:w1.heap.size+1=g2 at*;generalize hg3:w2.heap.size+1=g3 at*;generalize hg4:w3.heap.size+1=g4 at*;have HBc:=Ab ((Aa HB4).alloc hz4 (.cells #[.slice (some ⟨g1,0,none⟩) 144 144,.slice (some ⟨g2,0,none⟩) 112 112,.slice (some ⟨g3,0,none⟩) 24 24,.slice (some ⟨g4,0,none⟩) 8 8] 76))
 have HC:=Ab (IX w4.heap.size 0 4 4 (PG g1 g2 g3 g4) (w4.alloc (.cells #[.slice (some ⟨g1,0,none⟩) 144 144,.slice (some ⟨g2,0,none⟩) 112 112,.slice (some ⟨g3,0,none⟩) 24 24,.slice (some ⟨g4,0,none⟩) 8 8] 76)) (by simp) (by
  intro j hj
  match j,hj with
  |0,_=>simp[PG]
  |1,_=>simp[PG]
  |2,_=>simp[PG]
  |3,_=>simp[PG]) (by
  intro j hj
  match j,hj with
  |0,_=>exact(Aa HRa4).alloc _
  |1,_=>exact(Aa HRb4).alloc _
  |2,_=>exact(Aa HRc4).alloc _
  |3,_=>exact(Aa HRd4).alloc _) (Z5f g1 g2 g3 g4) (by rw[DQ];simp[Ky]) (by omega))
 rw[DQ]at HC;have hlenA:Ky.length=288:=by simp[Ky]
 rw[hlenA]at HC;clear hg1 hg2 hg3 hg4;go_wp2_with fail
 refine(Aa HC).mono ?_;rintro e w5 ⟨v5,rfl,hO5,hB5⟩;obtain⟨g5,c5,rfl,hg5,hg5'⟩:=Ba hO5 (by omega);have HR5:=Ab (RowIn.iv hO5);have HB5:=Ab ((Aa HBc).trans (hB5.mono (by simp;omega)));have hz5:=hB5.size;simp only[World.size_alloc]at hz5 hg5;clear hO5 hB5 HC HBc HRa4 HRb4 HRc4 HRd4 HB4;go_wp2_with fail
 refine(Fp 5 32 w5 (by omega) (by omega)).mono ?_;rintro e w6 ⟨rfl,hR6,hB6,hs6⟩;have HRa6:=Ab ((Aa HR5).below hB6 (VB _));have HRb6:Hid (RowIn .i64 w6 (some ⟨w5.heap.size+1,0,none⟩) Ir):=hR6;have HB6:=Ab ((Aa HB5).trans (hB6.mono (by omega)));clear hR6 hB6 HR5 HB5;go_wp2;go_ret2;exact⟨g5,c5,w5.heap.size+1,rfl,by omega,by omega,Aa HRa6,Aa HRb6,Aa HB6⟩
abbrev Z31:Ending:=.panicked [{v:=.iface 165 (.agg #[]),recovered:=false}]
structure ZT (w:World)(b:Nat)(R:Value)(p:Nat)(w':World):Prop where
 is:w'.heap[b]? =some (.cells #[R,.int .i64 (p:Int)] 116 (0,0))
 below:Below b w w'
 keep:∀g,g≠b->g<w.heap.size->w'.heap[g]? =w.heap[g]?
theorem ZT.trans {w w1 w2:World}{b p q:Nat}{R:Value}(h:ZT w b R p w1)(k:ZT w1 b R q w2):ZT w b R q w2:=
 ⟨k.is,h.below.trans k.below,fun g h1 h2=>(k.keep g h1 (VG h2 h.below.size)).trans (h.keep g h1 h2)⟩
theorem ZT.drewN {w w1:World}{b p:Nat}{R:Value}(h:ZT w b R p w1)(q:Nat):ZT w b R p (w1.drewN q):=⟨h.is,Ae h.below q,h.keep⟩
structure ZRow (w:World)(b:Nat)(a:Option Addr)(n cap:Nat)(bs:List Nat):Prop where
 len:bs.length=n
 few:n<=12000
 room:n<=cap
 nil:a=none->cap=0
 byt:BytesIn w a bs
 val:∀x∈bs,x<256
 apart:∀g o,a=some ⟨g,o,none⟩->bs≠ []->g≠b
theorem ZRow.keep {w w':World}{b n cap:Nat}{a:Option Addr}{bs:List Nat}(h:ZRow w b a n cap bs)(hs:w.heap.size<=w'.heap.size)(hk:∀g,g≠b->g<w.heap.size->w'.heap[g]? =w.heap[g]?):ZRow w' b a n cap bs:=by
 refine⟨h.len,h.few,h.room,h.nil, ?_,h.val,h.apart⟩
 by_cases e:bs= []
 . exact .inl e
 . rcases h.byt with h1|⟨g,o,e1,hb,hB⟩
   . exact absurd h1 e
   . exact .inr ⟨g,o,e1,by omega,fun j hj=>(World.cell?_of_block (w:=w) (a:=⟨g,_,none⟩) (hk g (h.apart g o e1 e) hb)).trans (hB j hj)⟩
theorem ZRow.after {w w':World}{b n cap p:Nat}{a:Option Addr}{bs:List Nat}{R:Value}(h:ZRow w b a n cap bs)(hT:ZT w b R p w'):ZRow w' b a n cap bs:=h.keep hT.below.size hT.keep
theorem Z7k (a:Option Addr)(m n cap:Nat)(h:m<=n)(hn:n<=cap)(W:World):(Instr.slice 23 (.slice a n cap) none (some (.int .u32 (m:Int))) none).run Tryz.prog W=.ok (.slice a m cap) W:=by
 have hs:=Tryz.sizeOf5;have ht:=Tryz.underlying23;have h2:(m:Int)<=(cap:Int):=by omega
 cases a<;>simp[go_sem,ht,hs,h2]
theorem AW {n:Nat}(h:n<18446744073709551616):IntKind.u64.wrap (n:Int)=(n:Int):=by
 simp[IntKind.wrap,IntKind.bits,IntKind.signed]
 omega
theorem ZT.set {w:World}{b p q:Nat}{R:Value}(h:w.heap[b]? =some (.cells #[R,.int .i64 (p:Int)] 116 (0,0))):ZT w b R q (w.setCell ⟨b,1,none⟩ (.int .i64 (q:Int))):=by
 have hb:=(VK.1 h).1;have hg:=Ad w b 1 (.int .i64 (q:Int));refine⟨by rw[heap_setCell_same w b 1 _ _ _ h];rfl,(Below.refl b w).grown hg (by omega) (fun g e=>by cases e;exact VB _),fun g hne hlt=>hg.block g hlt (fun e=>hne (VM e))⟩
theorem Z6d {w:World}{b p many n cap k:Nat}{a a':Option Addr}{bs:List Nat}(hR:ZRow w b a n cap bs)(hp:p<=n)(hq:p+many<=n)(h1:∀b o,a=some ⟨b,o,none⟩->p<n->a'=some ⟨b,o+p,none⟩)(h2:a'=none->k=0):PkIn w a' k ((bs.drop p).take many):=by
 refine⟨?_,h2⟩
 by_cases h0:many=0
 . subst h0;exact .inl (by simp)
 . have hb:bs≠ []:=by
    intro e;have:=hR.len
    rw[e]at this;simp at this
    omega
   rcases hR.byt with e|⟨g,o,e,hg,hB⟩
   . exact absurd e hb
   . refine .inr ⟨g,o+p,h1 g o e (by omega),hg,fun j hj=> ?_⟩
     have hj2:j<many/\p+j<bs.length:=by
      rw[VL,VQ]at hj;omega
     have e2:((bs.drop p).take many).getD j 0=bs.getD (p+j) 0:=by
      simp only[List.getD];rw[XX hj2.1,XJ]
     rw[e2,WT];exact hB (p+j) hj2.2
theorem Dv (b p many n cap:Nat)(a:Option Addr)(bs:List Nat)(w:World)(hI:w.heap[b]? =some (.cells #[.slice a n cap,.int .i64 (p:Int)] 116 (0,0)))(hp:p<=n)(hR:ZRow w b a n cap bs)(hm:many<4294967296):
 Calls Tryz.prog 127 #[.pointer (some ⟨b,0,none⟩),.int .u32 (many:Int)] w fun e w'=>(n<p+many/\e=Z31/\ZT w b (.slice a n cap) p w')\/ (p+many<=n/\(∃a' c',e=.returned (.slice a' many c')/\many<=c'/\∀W,ZRow W b a n cap bs->PkIn W a' c' ((bs.drop p).take many))/\ZT w b (.slice a n cap) (p+many) w'):=by
 obtain⟨a',hsl,ha1,ha2⟩:=Z3q a p n cap hp hR.room hR.nil;have hfew:=hR.few;have hrm:=hR.room;have c0:=Ac (i:=0) hI;have c1:=Ac (i:=1) hI;simp only[VZ,VY,WI]at c0 c1;have f1:=frozen_of_row w b 1 _ _ hI;obtain⟨d,hd⟩:∃d,n-p=d:=⟨_,rfl⟩
 obtain⟨k,hk⟩:∃k,cap-p=k:=⟨_,rfl⟩
 rw[hd,hk]at hsl;have hwd:=AW (n:=d) (by omega);have hwm:=AW (n:=many) (by omega);have HI:=Ab hI;have HA1:=Ab ha1;have HA2:=Ab ha2;have HK:=Ab hk;clear hI hR ha1 ha2
 by_cases hq:n<p+many
 . have hlt:(d:Int)<(many:Int):=by omega
   have HF:Hid (n<p+many/\∀q,ZT w b (.slice a n cap) p (w.drewN q)):=Ab ⟨hq,fun q=>(⟨Aa HI,Below.refl _ _,fun g _ _=>rfl⟩:ZT w b (.slice a n cap) p w).drewN q⟩;clear hd hk hq;go_enter Tryz.func127,Tryz.ntmps127
   go_wp2;go_quiet (fail)
   go_wp2;exact⟨rfl,.inl ⟨(Aa HF).1,rfl,(Aa HF).2 _⟩⟩
 . have hlt:¬(d:Int)<(many:Int):=by omega
   have hto:=Z7k a' many d k (by omega) (by omega);have hsum:((p:Int)+(many:Int))=((p+many:Nat):Int):=by omega
   have HQ:=Ab (show p+many<=n by omega);have HD:=Ab hd;have HS:=Ab hsum;have hmk:many<=k:=by omega
   have HT:∀q,ZT w b (.slice a n cap) (p+many) ((w.drewN q).setCell ⟨b,1,none⟩ (.int .i64 ((p:Int)+(many:Int)))):=fun q=>by
    have h1:ZT w b (.slice a n cap) p (w.drewN q):=(⟨Aa HI,Below.refl _ _,fun g _ _=>rfl⟩:ZT w b (.slice a n cap) p w).drewN q;rw[hsum];exact h1.trans (ZT.set h1.is)
   clear hd hk hq hsum;go_enter Tryz.func127,Tryz.ntmps127
   go_wp2;go_quiet (fail)
   go_wp2;go_ret;refine .inr ⟨Aa HQ,⟨a',k,rfl,hmk,fun W hW=>Z6d hW hp (Aa HQ) (Aa HA1) (fun e=>by rw[<-Aa HK];exact Aa HA2 e)⟩,HT _⟩
end Go.Proofs.YtleocpdblhbimaaGreatDoor
