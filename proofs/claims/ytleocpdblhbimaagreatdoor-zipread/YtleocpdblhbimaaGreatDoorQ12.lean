import Derived.OwnWalk
import Derived.Laws.CopyOwn
import Derived.Laws.BitsAllLaws
import Derived.Deep.RegionHeld3
import Derived.Test.YtleocpdblhbimaaGreatDoorQ4
set_option linter.unusedSimpArgs false
set_option maxHeartbeats 2000000
namespace Go.Proofs.YtleocpdblhbimaaGreatDoor
open Go.RowKit
set_option linter.unusedVariables false
def CutAt (d:Nat->Int×Int)(n c:Nat):Prop:=∀i j,i<c->c<=j->j<n->(d i).2<(d j).2
theorem CutAt.moved {d d':Nat->Int×Int}{n c p q:Nat}(U:CutAt d n c)(F:Stab.Moved p q d d')(ac:q<=n)(ae:c<=p\/q<=c):CutAt d' n c:=by
 intro i j hi Y hn
 have Z:∃G,G<c/\d G=d' i:=by
  by_cases e:p<=i/\i<q
  . obtain⟨k,k1,k2,H⟩:=F.mem e.1 e.2;exact⟨k,by omega,H⟩
  . exact⟨i,hi,(F.out i (by omega)).symm⟩
 have T:∃E,c<=E/\E<n/\d E=d' j:=by
  by_cases e:p<=j/\j<q
  . obtain⟨k,k1,k2,H⟩:=F.mem e.1 e.2;exact⟨k,by omega,by omega,H⟩
  . exact⟨j,Y,hn,(F.out j (by omega)).symm⟩
 obtain⟨G,ab,O⟩:=Z;obtain⟨E,I,aa,M⟩:=T;rw[<-O,<-M];exact U G E ab I aa
def RW (d:Nat->Int×Int)(a b:Nat):Prop:=∀i j,a<=i->i<j->j<b->(d i).2<(d j).2
def Jq (d:Nat->Int×Int)(n B:Nat):Prop:=∀s,Stab.Srt Stab.lx d (s*B) (min (s*B+B) n)
def Cuts (d:Nat->Int×Int)(n B:Nat):Prop:=∀s,CutAt d n (s*B)
structure Part (d dk:Nat->Int×Int)(n X t:Nat):Prop where
 srt:∀s,s<t->Stab.Srt Stab.lx d (s*X) (s*X+X)
 rest:∀k,t*X<=k->d k=dk k
 cuts:Cuts d n X
theorem DW {s t:Nat}(X:Nat)(E:s<t):s*X+X<=t*X:=by
 have:=YZ X (show s+1<=t from E)
 rwa [ZD]at this
theorem Z7b {s t:Nat}(X:Nat)(E:s<=t):s*X<=t*X:=YZ X E
theorem DL (s t X n:Nat):s*X<=t*X\/t*X+X<=s*X:=by
 by_cases h:s<=t
 . exact .inl (Z7b X h)
 . exact .inr (DW X (by omega))
theorem Part.step {d G d':Nat->Int×Int}{n X t:Nat}(F:Part d G n X t)(H:t*X+X<=n)(E:Stab.Moved (t*X) (t*X+X) d d')(M:Stab.Srt Stab.lx d' (t*X) (t*X+X)):Part d' G n X (t+1):=by
 refine⟨fun s T=> ?_,fun k I=> ?_,fun s=>(F.cuts s).moved E H (DL s t X n)⟩
 . by_cases e:s=t
   . subst e;exact M
   . have:=DW X (show s<t by omega)
     exact(F.srt s (by omega)).congr (fun k U O=>E.out k (by omega))
 . rw[ZD]at I;rw[E.out k (by omega)];exact F.rest k (by omega)
theorem Part.last {d H d':Nat->Int×Int}{n X t:Nat}(F:Part d H n X t)(M:t*X<=n)(G:n<=t*X+X)(E:Stab.Moved (t*X) n d d')(O:Stab.Srt Stab.lx d' (t*X) n):Jq d' n X/\Cuts d' n X:=by
 refine⟨fun s=> ?_,fun s=> ?_⟩
 . rcases ZR s t with e|e|e
   . have:=DW X e
     rw[YP (by omega)];exact(F.srt s e).congr (fun k M G=>E.out k (by omega))
   . subst e;rw[YG G];exact O
   . have:=DW X e
     intro i j hi T I;have:j<n:=VG I (Nat.min_le_right _ _)
     omega
 . rcases DL s t X n with e|e
   . exact(F.cuts s).moved E (VB _) (.inl e)
   . exact(F.cuts s).moved E (VB _) (.inr (by omega))
theorem On {d E:Nat->Int×Int}{n B t e:Nat}(G:Jq E n B)(M:Cuts E n B)(F:∀k,t*(2*B)<=k->d k=E k)(aa:t*(2*B)+B<e)(Y:e<=t*(2*B)+2*B)(I:e<=n)(U:e=n\/e=t*(2*B)+2*B):
 Stab.Srt Stab.lx d (t*(2*B)) (t*(2*B)+B)/\Stab.Srt Stab.lx d (t*(2*B)+B) e/\Stab.Cross d (t*(2*B)) (t*(2*B)+B) e:=by
 have H:(2*t)*B=t*(2*B):=by rw[YF 2 t,XY]
 have e2:(2*t+1)*B=t*(2*B)+B:=by rw[ZD,H]
 have b1:=G (2*t);have b2:=G (2*t+1);have c:=M (2*t+1);rw[H,YP (by omega)]at b1;rw[e2]at b2 c;generalize t*(2*B)=a at*;refine⟨b1.congr (fun k h _=>F k h), ?_,fun i j hi T O Z=> ?_⟩
 . refine Stab.Srt.congr (d:=E) (b2.sub (VB _) ?_) (fun k h _=>F k (by omega))
   rcases U with rfl|rfl
   . exact Nat.le_min.2 ⟨by omega,VB _⟩
   . exact Nat.le_min.2 ⟨by omega,I⟩
 . rw[F i hi,F j (by omega)];exact c i j T O (by omega)
theorem MY {d F:Nat->Int×Int}{n B t:Nat}(G:Jq F n B)(H:∀k,t*(2*B)<=k->d k=F k)(E:n<=t*(2*B)+B):Stab.Srt Stab.lx d (t*(2*B)) n:=by
 have I:(2*t)*B=t*(2*B):=by rw[YF 2 t,XY]
 have b1:=G (2*t);rw[I,YG E]at b1;exact b1.congr (fun k E _=>H k E)
theorem Cuts.double {d:Nat->Int×Int}{n B:Nat}(E:Cuts d n B):Cuts d n (2*B):=fun s=>by
 have e:s*(2*B)=(2*s)*B:=by rw[YF 2 s,XY]
 rw[e];exact E (2*s)
end Go.Proofs.YtleocpdblhbimaaGreatDoor
namespace Go.Proofs.YtleocpdblhbimaaGreatDoor
open Go.RowKit
set_option linter.unusedVariables false
set_option maxRecDepth 100000
def Kl (l:List Int):Nat->Nat
 |0=>0
 |k+1=>Kl l k+(if 0<l.getD k 0 then 2^(15-(l.getD k 0).toNat)else 0)
theorem BN (l:List Int):∀k,Kl l k<=32768*k
 |0=>by simp[Kl]
 |k+1=>by
  have ih:=BN l k
  have:2^(15-(l.getD k 0).toNat)<=32768:=by
   have:=VO (n:=2) (by decide) (show 15-(l.getD k 0).toNat<=15 by omega)
   omega
  rw[Kl]
  split<;>omega
theorem Ht (l:List Int)(F:∀j,j<l.length->0<=l.getD j 0/\l.getD j 0<=15):∀k,k<=l.length->Kl l k=takenN (cnt (l.take k)) 15
 |0,_=>by
  show 0=takenN (cnt []) 15
  decide
 |k+1,hk=>by
  have ih:=Ht l F k (by omega);have E:k<l.length:=by omega
  obtain⟨m,hm⟩:=WF (F k E).1;have H:=(F k E).2;rw[Kl,ih,<-Ih l E hm,hm];rw[hm]at H
  by_cases G:m=0
  . subst G;rw[Nd];simp
  . rw[Qg _ m (by omega) (by omega) 15 (by omega),if_pos (show (0:Int)<(m:Int) by omega),if_pos (by omega),WM]
theorem Z01 (m:Nat)(G:m<=15):(32768:Int)/2^m=((2^(15-m):Nat):Int):=by
 have h:(2:Nat)^(15-m)*2^m=32768:=by rw[<-Nat.pow_add,show 15-m+m=15 by omega]
 have E:((2^(15-m):Nat):Int)*((2^m:Nat):Int)=32768:=by exact_mod_cast h
 have F:(0:Int)<((2^m:Nat):Int):=by exact_mod_cast Nat.pow_pos (n:=m) (show 0<2 by decide)
 have e:(2:Int)^m=((2^m:Nat):Int):=by push_cast;rfl
 rw[e,<-E,Int.mul_ediv_cancel _ (by omega)]
theorem Z05 (a:Option Addr)(E Y:Nat)(l:List Int)(w:World)(ab:l.length=E)(ae:E<=288)(T:RowIn .i64 w a l)(H:∀j,j<l.length->0<=l.getD j 0/\l.getD j 0<=15):
 Calls Tryz.prog 161 #[.slice a E Y] w fun e w'=>e=.returned (.int .i64 ((takenN (cnt l) 15:Nat):Int))/\w'=w:=by
 have U:=Ab T;have I:=Ab H
 have Z:Hid (Kl l E=takenN (cnt l) 15):=by
  have:=Ht l H l.length (VB _)
  rw[ZK]at this;rw[<-ab];exact this
 clear T H;go_enter Tryz.func161,Tryz.ntmps161
 go_wp2;go_loop [3,8] (fun s i=>∃k:Nat,k<=E/\i=.int .i64 (k:Int)/\s=.int .i64 ((Kl l k:Nat):Int)) (fun _ i=>E-(intOf i).toNat)
 case atStart=>exact⟨0,VH _,rfl,rfl⟩
 case round=>
  obtain⟨k,af,rfl,rfl⟩:=hrel
  by_cases ah:k<E
  . have G:k<l.length:=by omega
    obtain⟨b,o,rfl,hb,O⟩:∃b o,a=some ⟨b,o,none⟩/\b<w.heap.size/\Row .i64 w b o l:=by
     rcases Aa U with rfl|h
     . simp at G
     . exact h
    have c1:=O k G;obtain⟨m,hm⟩:=WF (Aa I k G).1;have ac:=(Aa I k G).2;have F:Hid (Kl l (k+1)=Kl l k+(if 0<l.getD k 0 then 2^(15-(l.getD k 0).toNat)else 0)):=rfl;have ai:=BN l k;rw[hm]at c1 ac F;rw[WM]at F;have aa:m<=15:=by omega
    have aj:=Z01 m aa
    have ag:2^(15-m)<=32768:=by
     have:=VO (n:=2) (by decide) (show 15-m<=15 by omega)
     omega
    clear O hm;generalize Kl l k=u at*;generalize 2^(15-m)=z at*
    by_cases M:(0:Int)<(m:Int)
    . rw[if_pos M]at F;go_wp2;go_round
      case rel=>exact⟨k+1,by omega,by go_num,by rw[Aa F];go_num⟩
      case measure=>simp[intOf];omega
    . rw[if_neg M]at F;go_wp2;go_round
      case rel=>exact⟨k+1,by omega,by go_num,by rw[Aa F];rfl⟩
      case measure=>simp[intOf];omega
  . obtain rfl:k=E:=by omega
    go_wp2;go_ret;exact⟨Dd (by rw[Aa Z]),rfl⟩
theorem Ff (a:Option Addr)(E U:Nat)(l:List Int)(w:World)(ae:l.length=E)(ao:E<=9223372036854775807)(G:RowIn .i64 w a l):
 Calls Tryz.prog 124 #[.slice a E U] w fun e w'=>e=.returned (.int .i64 (errL l))/\w'=w:=by
 by_cases hm:288<E
 . have e:errL l=2:=by unfold errL;rw[if_pos (by omega)]
   rw[e];clear e G;go_enter Tryz.func124,Tryz.ntmps124
   go_wp2;go_ret;exact⟨rfl,rfl⟩
 . rcases Ml (fun j=>Rc (l.getD j 0)) E with F|⟨H,ap,T,F⟩
   . have hn:¬ ∃j,j<l.length/\Rc (l.getD j 0)=false:=by
      rintro ⟨j,I,e⟩;have:=F j (by omega)
      simp only[e]at this
      cases this
     have e:errL l=if 32768<takenN (cnt l) 15 then 8 else 0:=by unfold errL;rw[if_neg (by omega),if_neg hn]
     have an:=Ab (Z05 a E U l w ae (by omega) G (fun j I=>Dw (F j (by omega))));have af:=Ab G;have ai:Hid (∀j,j<E->0<=l.getD j 0/\l.getD j 0<=15):=fun j I=>Dw (F j I)
     rw[e];clear G F hn e;go_enter Tryz.func124,Tryz.ntmps124
     go_wp2;go_loop [10] (fun i=>∃k:Nat,k<=E/\i=.int .i64 (k:Int)) (fun i=>E-(intOf i).toNat)
     case atStart=>exact⟨0,VH _,rfl⟩
     case round=>
      obtain⟨k,ag,rfl⟩:=hrel
      by_cases O:k<E
      . have ab:k<l.length:=by omega
        obtain⟨b,o,rfl,hb,M⟩:∃b o,a=some ⟨b,o,none⟩/\b<w.heap.size/\Row .i64 w b o l:=by
         rcases Aa af with rfl|h
         . simp at ab
         . exact h
        have c1:=M k ab;obtain⟨Y,aa⟩:=Aa ai k O;clear M;generalize l.getD k 0=x at*;have am:¬x<0:=by omega
        have ah:¬15<x:=by omega
        go_wp2;go_round
        case rel=>exact⟨k+1,by omega,by go_num⟩
        case measure=>simp[intOf];omega
      . obtain rfl:k=E:=by omega
        go_wp2_with fail
        refine(Aa an).mono ?_;rintro e aq ⟨rfl,rfl⟩
        by_cases Z:32768<takenN (cnt l) 15
        . go_wp2;go_ret;exact⟨by first|rfl|(rw[if_pos Z];rfl),rfl⟩
        . go_wp2;go_ret;exact⟨by first|rfl|(rw[if_neg Z];rfl),rfl⟩
   . have e:errL l=3:=by unfold errL;rw[if_neg (by omega),if_pos ⟨H,by omega,T⟩]
     rw[e]
     obtain⟨b,o,rfl,hb,M⟩:∃b o,a=some ⟨b,o,none⟩/\b<w.heap.size/\Row .i64 w b o l:=by
      rcases G with rfl|h
      . simp at ae;omega
      . exact h
     have aj:=Ab M;have ak:Hid (∀j,j<H->0<=l.getD j 0/\l.getD j 0<=15):=fun j I=>Dw (F j I)
     have al:=Ab (Hw T);clear G F T e M;go_enter Tryz.func124,Tryz.ntmps124
     go_wp2;go_loop [10] (fun i=>∃k:Nat,k<=H/\i=.int .i64 (k:Int)) (fun i=>E-(intOf i).toNat)
     case atStart=>exact⟨0,VH _,rfl⟩
     case round=>
      obtain⟨k,ag,rfl⟩:=hrel;have c1:=Aa aj k (by omega)
      by_cases O:k<H
      . obtain⟨Y,aa⟩:=Aa ak k O;generalize l.getD k 0=x at*;have am:¬x<0:=by omega
        have ah:¬15<x:=by omega
        go_wp2;go_round
        case rel=>exact⟨k+1,by omega,by go_num⟩
        case measure=>simp[intOf];omega
      . obtain rfl:k=H:=by omega
        have ac:=Aa al;generalize l.getD k 0=x at*
        by_cases Y:x<0
        . clear ac;go_wp2;go_ret;exact⟨rfl,rfl⟩
        . have aa:15<x:=by omega
          clear ac;go_wp2;go_ret;exact⟨rfl,rfl⟩
end Go.Proofs.YtleocpdblhbimaaGreatDoor
namespace Go.Proofs.YtleocpdblhbimaaGreatDoor
set_option linter.unusedVariables false
set_option maxRecDepth 100000
theorem CX:∀n c E,c<2^n->E<2^n->hb c n=hb E n->c=E
 |0,c,E,h,h',_=>by simp at h h';omega
 |n+1,c,E,h,h',e=>by
  rw[XC]at h h';rw[hb,hb]at e;have F:=List.append_inj e (by rw[Bd,Bd]);have e2:=CX n (c/2) (E/2) (by omega) (by omega) F.1;have e3:decide (c%2=1)=decide (E%2=1):=by simpa using F.2
  have G:(c%2=1↔E%2=1):=by simpa using e3
  omega
theorem Sr (l:List Int)(E:Good l)(s:List Bool)(Y:s≠ [])(q q':Nat)(H:q<l.length)(F:q'<l.length)(e:codeT l q=s)(O:codeT l q'=s):q=q':=by
 obtain⟨m,hm⟩:=WF (E.ok q H).1;obtain⟨Z,G⟩:=WF (E.ok q' F).1;have hl:=congrArg List.length (e.trans O.symm)
 have I:0<m:=by
  by_cases h:m=0
  . subst h;unfold codeT at e;rw[hm]at e;exact absurd e.symm Y
  . omega
 have M:=e.trans O.symm;unfold codeT at hl M;rw[hm,G,WM,WM]at hl M;rw[Bd,Bd]at hl;subst hl
 by_cases h:q=q'
 . exact h
 . have U:=(Ig l E H hm I).2.2;have T:=(Ig l E F G I).2.2;have:=V1 l E H F hm G h I (VB _)
   rw[XW,Nat.pow_zero,Nat.div_one]at this;exact absurd (CX m _ _ T U M.symm) this
theorem Pc (l:List Int)(row:List Bool)(p:Nat):∀k f,(∀j,1<=j->j<=k->¬row.length<p+j/\Ok l ((row.drop p).take j)=none)->∀n,n+k=k+1->Ej l row p (k+f) n=Ej l row p f (n+k)
 |0,f,_,n,_=>by simp
 |k+1,f,h,n,hn=>by
  have e:=Pc l row p k (f+1) (fun j F H=>h j F (by omega)) n (by omega);rw[show k+1+f=k+(f+1) by omega,e];obtain rfl:n=1:=by omega
  obtain⟨G,E⟩:=h (k+1) (by omega) (VB _);rw[Ej,show 1+k=k+1 by omega,if_neg G,E,show 1+(k+1)=k+1+1 by omega]
end Go.Proofs.YtleocpdblhbimaaGreatDoor
namespace Go.Proofs.YtleocpdblhbimaaGreatDoor
open Go.RowKit
set_option linter.unusedVariables false
set_option maxRecDepth 100000
theorem Za (n:Nat):(Builtin.zeroCells (Value.int .i64 0).cells n).toList=iv (List.replicate n 0):=by
 show (Builtin.zeroCells #[Value.int .i64 0] n).toList=_
 unfold Builtin.zeroCells;apply List.ext_getElem?
 intro i
 by_cases h:i<n
 . simp[h,Nat.mod_one]
 . simp[h]
theorem Qq (w:World)(O:TypeId)(n:Nat)(H:0<n)(ae:n<=100000):
 ∃c w',(Builtin.append_ #[76,3] O #[.slice none 0 0,.int .i64 (n:Int)]).run Tryz.prog w=.ok (.slice (some ⟨w.heap.size,0,none⟩) n c) w'/\n<=c/\c<=maxLen/\w'.heap[w.heap.size]? =some (.cells (iv (List.replicate c 0)).toArray 3 (0,0))/\w.grownBy w' none:=by
 obtain⟨af,hi,F,T,aa⟩:=info_parts Bv;have E:=grownCap_ge w n 0 3;have ac:=grownCap_le_maxLen w n 0 3 (by unfold maxLen;omega);have M:n≠0:=by omega
 have G:¬(9223372036854775807<(n:Int)):=by omega
 have Z:¬((n:Int)<0):=by omega
 have U:¬(281474976710656<(n:Int)*8):=by omega
 have Y:¬(281474976710656<Builtin.nextslicecap n 0*8):=by rw[nextslicecap_zero H];omega
 have ab:IntKind.i64.wrap (n:Int)=(n:Int):=by simp[IntKind.wrap,IntKind.signed,IntKind.bits];omega
 refine⟨grownCap w n 0 3,w.drew.alloc (.cells (Builtin.zeroCells (Value.int .i64 0).cells n++Builtin.zeroCells (Value.int .i64 0).cells (grownCap w n 0 3-n)) 3), ?_,E,ac, ?_, ?_⟩
 . simp[Builtin.append_,run_underlying Tryz.underlying76,run_underlying Tryz.underlying3,sizeOf,typeInfo,zeroValue,hi,F,T,aa,asInt,asIntOf,ab,Z,U,M,G,Y,Question.forced,run_firstCells_none,newRow,grownCap]
 . have:=heap_alloc_new w.drew (.cells (Builtin.zeroCells (Value.int .i64 0).cells n++Builtin.zeroCells (Value.int .i64 0).cells (grownCap w n 0 3-n)) 3)
   rw[show w.drew.heap.size=w.heap.size from rfl]at this;rw[this]
   congr 2
   apply Array.ext'
   rw[Array.toList_append,Za,Za];show _=iv (List.replicate (grownCap w n 0 3) 0)
   unfold iv;rw[<-WU,List.replicate_append_replicate]
   congr 2
   omega
 . exact⟨rfl,rfl,rfl,by simp,fun k I _=>Below.heap_alloc w.drew _ k I⟩
theorem La (w:World){E:Array Oper}{F:List Oper}{o:Oper}{a:Act}{Q:Exit->Act->World->Prop}(Z:o.guard=none)(s x:Operand)
 (U:o.op=.call {callee:=.builtin .append,args:= #[s,x],argTypes:= #[76,3]}) (n:Nat) (ab:a.eval s=.slice none 0 0) (G:a.eval x=.int .i64 (n:Int)) (O:0<n) (H:n<=100000)
 (Y:∀c w',n<=c->c<=maxLen->w'.heap[w.heap.size]? =some (.cells (iv (List.replicate c 0)).toArray 3 (0,0))->w.grownBy w' none->wpList Tryz.prog E Q F (a.put o.dst (.slice (some ⟨w.heap.size,0,none⟩) n c)) w'):
 wpList Tryz.prog E Q (o::F) a w:=by
 refine wpList_plain Z fun K hK=> ?_
 obtain⟨c,w',hr,T,M,aa,I⟩:=Qq w o.type n O H;unfold Oper.wp execOp;simp only[U,resolve,invoke,builtin,Sem.run_bind,Sem.run_pure,Result.andThen_ok,ZL,WQ,ZE,ab,G,hr];exact hK _ _ (Y c w' T M aa I)
theorem Z1i (n:Nat)(w:World)(M:0<n)(G:n<=100000):Calls Tryz.prog 159 #[.slice none 0 0,.int .i64 (n:Int)] w fun e w'=>∃c,e=.returned (.slice (some ⟨w.heap.size,0,none⟩) 0 c)/\w'.ownsRow w.heap.size 3 1 (.slice (some ⟨w.heap.size,0,none⟩) 0 c) 0 (iv [])/\Below w.heap.size w w':=by
 go_enter Tryz.func159,Tryz.ntmps159
 go_wp2_with (refine La w rfl (.tmp 20) (.tmp 21) rfl n rfl rfl M G ?_)
 intro c T U I E F;have O:=Ab (Hq (Below.refl w.heap.size w) F (VB _));have H:Hid (T.ownsRow w.heap.size 3 1 (.slice (some ⟨w.heap.size,0,none⟩) 0 c) 0 (iv [])):=⟨rfl,.inr ⟨w.heap.size,c,_,rfl,VB _,E,VH _,I,by simp,rfl⟩⟩
 clear E F;go_wp2;go_ret;exact⟨c,rfl,Aa H,Aa O⟩
def Jp (ps:List (Nat×List Int)):Nat->List Int
 |0=> []
 |k+1=>Jp ps k++(ps.getD k (0,[])).2
theorem C2 {w:World}{F:Nat}{xs:List Int}(G:RowIn .i64 w (some ⟨F,0,none⟩) xs):∀j u,(iv xs)[j]? =some u->w.cell? ((⟨F,0,none⟩:Addr).add j)=some u:=by
 intro j u E;have e:(⟨F,0,none⟩:Addr).add j=⟨F,j,none⟩:=by unfold Addr.add;split<;>simp_all
 rcases G with rfl|⟨b,o,I,_,G⟩
 . simp at E
 . cases I
   have H:j<xs.length:=by
    by_cases c:j<xs.length
    . exact c
    . rw[WJ (by simp;omega)]at E;cases E
   have:=G j H
   rw[e];simp[H]at E
   subst E;simpa[List.getD,H]using this
theorem OC (xs:List Int):∀u∈iv xs,u.oneCell'=true:=by intro u E;obtain⟨x,_,rfl⟩:=XG.1 E;rfl
theorem Vx (b o F ay:Nat)(O:Nat->Nat)(E:List (Nat×List Int))(w:World)(a1:b<w.heap.size)(au:∀j,j<F->w.cell? ⟨b,o+j,none⟩=some (.slice (some ⟨(E.getD j (0,[])).1,0,none⟩) (E.getD j (0,[])).2.length (O j)))(aq:∀j,j<F->RowIn .i64 w (some ⟨(E.getD j (0,[])).1,0,none⟩) (E.getD j (0,[])).2)
 (Y:∀k,k<=F->(Jp E k).length<=1000) (az:0<(Jp E F).length) (be:F<=100):
 Calls Tryz.prog 122 #[.slice (some ⟨b,o,none⟩) F ay] w fun e w'=>∃v,e=.returned v/\w'.ownsRow w.heap.size 3 1 v (Jp E F).length (iv (Jp E F))/\Below w.heap.size w w':=by
 obtain⟨a5,hi,ba,a6,a4⟩:=info_parts Bv;have aj:=Ab au;have av:=Ab aq;have an:=Ab Y;obtain⟨T,ai⟩:=exq ((Jp E F).length);have af:0<T/\T<=1000:=by have:=Y F (VB _);omega
 obtain⟨bc,af⟩:=af;have a9:=Ab ai;clear au aq Y az ai;go_enter Tryz.func122,Tryz.ntmps122
 go_wp2;go_loop [3,11] (fun a0 ab=>∃k:Nat,k<=F/\ab=.int .i64 (k:Int)/\a0=.int .i64 ((Jp E k).length:Int)) (fun _ ab=>F-(intOf ab).toNat)
 case atStart=>exact⟨0,VH _,rfl,rfl⟩
 case round=>
  obtain⟨k,bf,rfl,rfl⟩:=hrel
  by_cases a2:k<F
  . have c1:=Aa aj k a2;have H:=Aa an (k+1) (by omega);have I:Hid ((Jp E (k+1)).length=(Jp E k).length+(E.getD k (0,[])).2.length):=Ab (by rw[Jp,VE]);rw[Aa I]at H;generalize (E.getD k (0,[])).2.length=m at*;generalize O k=am at*;generalize (E.getD k (0,[])).1=g at*;generalize (Jp E k).length=L at*;go_wp2;go_round
    case rel=>exact⟨k+1,by omega,by go_num,by rw[Aa I];go_num⟩
    case measure=>simp[intOf];omega
  . obtain rfl:F=k:=by omega
    rw[Aa a9];go_wp2_with fail
    refine(Z1i T w bc (by omega)).mono ?_;rintro e bg ⟨c,rfl,ao,ac⟩;have bb:=Ab ao;have aw:=Ab ac;clear ao ac;go_wp2;go_loopw [6,27] (fun bd U wr=>∃k:Nat,k<=F/\U=.int .i64 (k:Int)/\wr.ownsRow w.heap.size 3 1 bd (Jp E k).length (iv (Jp E k))/\Below w.heap.size w wr) (fun _ U _=>F-(intOf U).toNat)
    case atStart=>exact⟨0,VH _,rfl,Aa bb,Aa aw⟩
    case round=>
     obtain⟨k,bh,rfl,aa,G⟩:=hrel;have M:=Ab aa;have ag:=Ab G;have bi:=G.size
     by_cases al:k<F
     . have c1:=(G.cell (p:=⟨b,o+k,none⟩) a1).trans (Aa aj k al);have as:=(Aa av k al).below G (VB _);have ar:=Ab (C2 as);have H:=Aa an (k+1) (by omega);have I:Hid (Jp E (k+1)=Jp E k++(E.getD k (0,[])).2):=Ab rfl;rw[Aa I,VE]at H;generalize (E.getD k (0,[])).2=xs at*;generalize (E.getD k (0,[])).1=g at*;generalize O k=am at*;obtain⟨m,hm⟩:=exq (xs.length);obtain⟨L,Z⟩:=exq ((Jp E k).length);rw[hm]at c1 H;rw[Z]at H M;have ah:=Ab hm;have a8:=Ab Z;clear aa G as hm Z;go_wp2_with (at_builtin;refine wpList_append_own_at _ rfl _ _ 76 rfl w.heap.size 3 a5 (.int .i64 0) 1 8 Tryz.underlying76 hi ba a6 a4 rfl (by decide) u6 L (iv (Jp E k)) rfl (Aa M) ⟨g,0,none⟩ m am (iv xs) rfl (by rw[WL,Aa ah,Nat.mul_one]) (Aa ar) (OC xs) (by unfold maxLen;omega) (by omega) (by omega) ?_)
       intro v' ak ae ap _ a3
       have a7:Hid (ak.ownsRow w.heap.size 3 1 v' (Jp E (k+1)).length (iv (Jp E (k+1)))):=by
        rw[Aa I,VE,Aa a8,Aa ah];show ak.ownsRow w.heap.size 3 1 v' (L+m) (List.map (Value.int .i64) (Jp E k++xs))
        rw[WU];exact ae
       have ax:=Ab ((Aa ag).grown ap (by omega) (fun g e=>((Aa M).lt g e).1));clear ae ap a3 c1 ar;go_wp2;go_roundw
       case rel=>exact⟨k+1,by omega,by go_num,Aa a7,Aa ax⟩
       case measure=>simp[intOf];omega
     . obtain rfl:F=k:=by omega
       clear aa G;go_wp2;go_ret;exact⟨u6,rfl,Aa M,Aa ag⟩
theorem IX (b o F G:Nat)(E:List (Nat×List Int))(w:World)(I:b<w.heap.size)(T:∀j,j<F->w.cell? ⟨b,o+j,none⟩=some (.slice (some ⟨(E.getD j (0,[])).1,0,none⟩) (E.getD j (0,[])).2.length (E.getD j (0,[])).2.length))(M:∀j,j<F->RowIn .i64 w (some ⟨(E.getD j (0,[])).1,0,none⟩) (E.getD j (0,[])).2)
 (U:∀k,k<=F->(Jp E k).length<=1000) (O:0<(Jp E F).length) (H:F<=100):
 Calls Tryz.prog 122 #[.slice (some ⟨b,o,none⟩) F G] w fun e w'=>∃v,e=.returned v/\w'.ownsRow w.heap.size 3 1 v (Jp E F).length (iv (Jp E F))/\Below w.heap.size w w':=Vx b o F G (fun j=>(E.getD j (0,[])).2.length) E w I T M U O H
theorem NQ (n:Nat)(E:n<4294967296):bits .and .u64 (n:Int) 4294967295=(n:Int):=by
 have h:=u64_and_nat n 4294967295 (by omega) (by omega)
 have e:n&&&4294967295=n:=by
  rw[show (4294967295:Nat)=2^32-1 by rfl,Nat.and_two_pow_sub_one_eq_mod];exact ZJ E
 rw[e]at h;simpa using h
theorem NN (n:Nat)(w:World)(E:n<4294967296):Calls Tryz.prog 194 #[.int .u64 1,.int .u64 (n:Int)] w fun e w'=>e=.returned (.tuple #[.int .u64 0,.int .u64 (n:Int)])/\w'=w:=by
 have F:bits .and .u64 1 4294967295=1:=by simpa using NQ 1 (by omega)
 have H:bits .and .u64 0 4294967295=0:=by simpa using NQ 0 (by omega)
 have M:=NQ n E;have G:(n:Int)/4294967296=0:=by omega
 have O:IntKind.u64.wrap (n:Int)=(n:Int):=by simp[IntKind.wrap,IntKind.signed,IntKind.bits];omega
 have I:IntKind.u64.wrap 0=0:=by decide
 go_enter Tryz.func194,Tryz.ntmps194
 go_wp2;go_ret2;exact⟨rfl,rfl⟩
theorem mul_one (n:Nat)(w:World)(E:n<4294967296):Calls Tryz.prog 160 #[.int .u64 1,.int .u64 (n:Int)] w fun e w'=>e=.returned (.tuple #[.int .u64 0,.int .u64 (n:Int)])/\w'=w:=by
 go_enter Tryz.func160,Tryz.ntmps160
 go_wp2_with fail
 refine(NN n w E).mono ?_;rintro e w' ⟨rfl,rfl⟩;go_wp2;go_ret2;exact⟨rfl,rfl⟩
def Uw (x:Int)(c n:Nat):List Value:=iv (List.replicate c x++List.replicate (n-c) 0)
theorem Qv (x:Int)(c n:Nat)(E:c<=n):(Uw x c n).length=n:=by simp[Uw];omega
theorem Qu (x:Int)(c d n:Nat)(E:c+d<=n):splice (Uw x c n) c (iv (List.replicate d x))=Uw x (c+d) n:=by
 unfold splice Uw iv;rw[WU,YS (by simp),WL,XD]
 have e:List.drop (c+d) (List.map (Value.int .i64) (List.replicate c x)++List.map (Value.int .i64) (List.replicate (n-c) 0))=List.map (Value.int .i64) (List.replicate (n-(c+d)) 0):=by
  rw[List.drop_append];simp
  omega
 rw[e,<-VS,<-WU,<-WU]
 congr 2
 rw[List.replicate_append_replicate]
theorem LY {w:World}{E n c:Nat}{x:Int}(G:w.heap[E]? =some (.cells (Uw x c n).toArray 3 (0,0)))(d:Nat)(M:d<=c):∀j v,(iv (List.replicate d x))[j]? =some v->w.cell? ((⟨E,0,none⟩:Addr).add j)=some v:=by
 intro j v F;have e:(⟨E,0,none⟩:Addr).add j=⟨E,j,none⟩:=by unfold Addr.add;split<;>simp_all
 rw[e,cell_of_row w E j _ _ _ G]
 have H:j<d:=by
  by_cases I:j<d
  . exact I
  . rw[WJ (by simp;omega)]at F;cases F
 simp[H]at F
 subst F;simp[Uw,List.getElem?_append,show j<c by omega]
theorem FK (b o af:Nat)(x:Int)(n:Nat)(w:World)(bm:b<w.heap.size)(am:w.cell? ⟨b,o,none⟩=some (.int .i64 x))(a3:1<=n)(bv:n<=1000):
 Calls Tryz.prog 123 #[.slice (some ⟨b,o,none⟩) 1 af,.int .i64 (n:Int)] w fun e w'=>e=.returned (.slice (some ⟨w.heap.size,0,none⟩) n n)/\w'.heap[w.heap.size]? =some (.cells (Uw x n n).toArray 3 (0,0))/\Below w.heap.size w w':=by
 obtain⟨bb,hi,bg,ap,a7⟩:=info_parts Bv;have Z:(Tryz.prog.info? 3).map (·.size)=some 1:=by rw[hi];simp[ap]
 have b4:IntKind.u64.wrap (n:Int)=(n:Int):=by simp[IntKind.wrap,IntKind.signed,IntKind.bits];omega
 have bz:IntKind.u64.wrap 1=1:=by decide
 go_enter Tryz.func123,Tryz.ntmps123
 go_wp2_with fail
 refine(mul_one n w (by omega)).mono ?_;rintro e E ⟨rfl,rfl⟩;go_wp2_with (at_make;refine wpList_make_full _ rfl _ _ 76 rfl E.heap.size 3 bb (.int .i64 0) 1 Tryz.underlying76 hi bg ap _ _ _ _ n rfl rfl rfl rfl (by rw[a7];omega) (by unfold maxLen;omega) (VB _) ?_)
 intro O ar G
 have ak:O.heap[E.heap.size]? =some (.cells (Uw x 0 n).toArray 3 (0,0)):=by
  rcases ar.2 with ⟨h,_⟩|⟨g,cap,cur,h,_,be,b3,bk,bi,aa⟩
  . cases h
  . simp only[Value.slice.injEq,YB,Addr.mk.injEq]at h;obtain⟨⟨rfl,_⟩,_,rfl⟩:=h;rw[be]
    congr 2
    have a2:cur.toList.take (n*1)=cur.toList:=VV (by simp[bi]);rw[a2]at aa
    have e2:cur.toList=Uw x 0 n:=by
     rw[aa];show (madeCells #[Value.int .i64 0] n).toList=_
     rw[toList_madeCells_one];simp[Uw]
    rw[<-e2]
 have ba:=Ab ak;have aw:=Ab (Hq (Below.refl E.heap.size E) G (VB _));have Y:O.cell? ⟨b,o,none⟩=some (.int .i64 x):=G.cell am (by simp);have bu:=G.size;clear ar G ak am
 have ab:∀j v,(iv (List.replicate 1 x))[j]? =some v->O.cell? ((⟨b,o,none⟩:Addr).add j)=some v:=by
  intro j v H
  match j,H with
  |0,H=>
   simp at H
   subst H;simpa[Addr.add]using Y
 have aj:(iv (List.replicate 1 x)).length=Nat.min 1 n:=by
  show 1=min 1 n
  omega
 have ah:0+(iv (List.replicate 1 x)).length<=(Uw x 0 n).length:=by
  rw[Qv x 0 n (VH _)];show 0+1<=n
  omega
 have hs4:∀v∈iv (List.replicate 1 x),v.oneCell'=true:=by intro v F;simp at F;subst F;rfl
 have a1:=Ab ab;have az:=Ab aj;have a6:=Ab ah;have bd:=Ab hs4;clear ab aj ah hs4;go_wp2_with (refine wpList_copy_splice rfl (.tmp 31) (.tmp 32) 76 76 rfl 3 Tryz.underlying76 Z (some ⟨E.heap.size,0,none⟩) (some ⟨b,o,none⟩) n n 1 af rfl rfl E.heap.size 0 (Uw x 0 n) 3 (Aa ba) (iv (List.replicate 1 x)) (Aa az) (fun _=>⟨rfl,_,rfl,Aa a1⟩) (Aa a6) (Aa bd) E.heap.size E (Aa aw) (VB _) ?_)
 intro w3 ai ac
 have a8:Hid (w3.heap[E.heap.size]? =some (.cells (Uw x 1 n).toArray 3 (0,0))):=by
  have e:=Qu x 0 1 n (by omega);rw[WG]at e;rw[<-e];exact ai
 have bf:=Ab ac;clear ai ac Y;go_wp2;go_loopw [8] (fun M wr=>∃c:Nat,1<=c/\c<=n/\M=.int .i64 (c:Int)/\wr.heap[E.heap.size]? =some (.cells (Uw x c n).toArray 3 (0,0))/\Below E.heap.size E wr) (fun M _=>n-(intOf M).toNat)
 case atStart=>exact⟨1,VB _,a3,rfl,Aa a8,Aa bf⟩
 case round=>
  obtain⟨c,bw,bh,rfl,an,al⟩:=hrel;have T:=Ab an;have ae:=Ab al;clear an al
  by_cases bq:c<n
  . obtain⟨d,I⟩:∃d,d=Nat.min c (n-c):=⟨_,rfl⟩
    have U:d<=c/\c+d<=n/\1<=d:=by
     have bt:d=min c (n-c):=I;omega
    obtain⟨U,a0,b0⟩:=U;have bo:¬n=c:=by omega
    have bn:¬n=0:=by omega
    have bj:=Ab I;have ag:(iv (List.replicate d x)).length=Nat.min c (n-c):=by simp[I]
    have au:c+(iv (List.replicate d x)).length<=(Uw x c n).length:=by rw[Qv x c n bh];simp;omega
    have as:∀v∈iv (List.replicate d x),v.oneCell'=true:=by intro v F;simp at F;obtain⟨_,rfl⟩:=F;rfl
    have a5:=Ab ag;have bc:=Ab au;have a4:=Ab as;clear I ag au as;go_wp2;go_region_held3 (fun _=>True) (trivial) (first|(refine step_copy_splice rfl (.tmp 41) (.tmp 44) 76 76 rfl 3 Tryz.underlying76 Z (some ⟨E.heap.size,c,none⟩) (some ⟨E.heap.size,0,none⟩) (n-c) (n-c) c n (by simp[Act.eval]) (by simp[Act.eval]) E.heap.size c (Uw x c n) 3 (Aa T) (iv (List.replicate d x)) (Aa a5) (fun _=>⟨rfl,_,rfl,LY (Aa T) d U⟩) (Aa bc) (Aa a4) E.heap.size E (Ae (Aa ae) 1) (VB _) ?_;intro a9 aq ao))
    have ay:Hid (a9.heap[E.heap.size]? =some (.cells (Uw x (c+d) n).toArray 3 (0,0))):=by
     rw[<-Qu x c d n a0];exact aq
    have ax:=Ab ao;clear aq ao
    have av:IntKind.i64.wrap ((c:Int)+(d:Int))=((c+d:Nat):Int):=by
     simp[IntKind.wrap,IntKind.signed,IntKind.bits];omega
    go_wp2;go_roundw
    case rel=>exact⟨c+d,by omega,by omega,by rw[av],Aa ay,Aa ax⟩
    case measure=>rw[av];simp[intOf];omega
  . obtain rfl:n=c:=by omega
    go_wp2;go_ret;exact⟨rfl,Aa T,Aa ae⟩
theorem FF {w:World}{E n:Nat}{x:Int}(F:w.heap[E]? =some (.cells (Uw x n n).toArray 3 (0,0))):RowIn .i64 w (some ⟨E,0,none⟩) (List.replicate n x):=by
 refine .inr ⟨E,0,rfl,(VK.1 F).1, ?_⟩;intro j H;rw[WG,cell_of_row w E j _ _ _ F];have G:j<n:=by simpa using H
 simp[Uw,List.getD,G]
theorem Fp (x:Int)(n:Nat)(w:World)(H:1<=n)(G:n<=1000):
 Calls Tryz.prog 123 #[.slice (some ⟨w.heap.size,0,none⟩) 1 1,.int .i64 (n:Int)] (w.alloc (.cells #[.int .i64 x] 3)) fun e w'=>e=.returned (.slice (some ⟨w.heap.size+1,0,none⟩) n n)/\RowIn .i64 w' (some ⟨w.heap.size+1,0,none⟩) (List.replicate n x)/\Below w.heap.size w w'/\w.heap.size+1<w'.heap.size:=by
 refine(FK w.heap.size 0 1 x n _ (by simp) (by simp) H G).mono ?_;rintro e w' ⟨rfl,E,F⟩;rw[World.size_alloc]at E F;exact⟨by rw[World.size_alloc],FF E,((Below.refl w.heap.size w).alloc (VB _) _).trans (F.mono (by omega)),(VK.1 E).1⟩
def PG (g1 g2 g3 g4:Nat):List (Nat×List Int):= [(g1,List.replicate 144 8),(g2,List.replicate 112 9),(g3,List.replicate 24 7),(g4,List.replicate 8 8)]
theorem DQ (g1 g2 E F:Nat):Jp (PG g1 g2 E F) 4=Ky:=rfl
theorem Z5f (g1 g2 E G:Nat):∀k,k<=4->(Jp (PG g1 g2 E G) k).length<=1000:=by
 intro k F
 match k,F with
 |0,_=>simp[Jp]
 |1,_=>simp[Jp,PG]
 |2,_=>simp[Jp,PG]
 |3,_=>simp[Jp,PG]
 |4,_=>simp[Jp,PG]
theorem PI (w:World):Calls Tryz.prog 94 #[] w fun e w'=>∃g1 c1 g2,e=.returned (.tuple #[.slice (some ⟨g1,0,none⟩) 288 c1,.slice (some ⟨g2,0,none⟩) 32 32])/\w.heap.size<=g1/\w.heap.size<=g2/\RowIn .i64 w' (some ⟨g1,0,none⟩) Ky/\RowIn .i64 w' (some ⟨g2,0,none⟩) Ir/\Below w.heap.size w w':=by
 go_enter Tryz.func94,Tryz.ntmps94
 go_wp2_with fail
 refine(Fp 8 144 w (by omega) (by omega)).mono ?_;rintro e au ⟨rfl,ax,U,bj⟩;have ao:=Ab ax;have av:=Ab U;have as:=U.size;clear ax U;go_wp2_with fail
 refine(Fp 9 112 au (by omega) (by omega)).mono ?_;rintro e ag ⟨rfl,a2,G,bo⟩;have ar:=Ab ((Aa ao).below G (VB _));have ay:=Ab a2;have ab:=Ab ((Aa av).trans (G.mono as));have an:=VU as G.size;have bn:=G.size;clear a2 G ao av;go_wp2_with fail
 refine(Fp 7 24 ag (by omega) (by omega)).mono ?_;rintro e w3 ⟨rfl,a3,E,bm⟩;have a1:=Ab ((Aa ar).below E (VB _));have aj:=Ab ((Aa ay).below E (VB _));have ai:=Ab a3;have aw:=Ab ((Aa ab).trans (E.mono an));have ak:=VU an E.size;have bk:=E.size;clear a3 E ar ay ab;go_wp2_with fail
 refine(Fp 8 8 w3 (by omega) (by omega)).mono ?_;rintro e aq ⟨rfl,az,F,hs4⟩;have ap:=Ab ((Aa a1).below F (VB _));have a0:=Ab ((Aa aj).below F (VB _));have al:=Ab ((Aa ai).below F (VB _));have am:=Ab az;have ae:=Ab ((Aa aw).trans (F.mono ak));have a6:=VU ak F.size;clear az F a1 aj ai aw;generalize bc:w.heap.size+1=g1 at*;generalize bg:au.heap.size+1=g2 at*;generalize a8:ag.heap.size+1=g3 at*;generalize ba:w3.heap.size+1=I at*;have ah:=Ab ((Aa ae).alloc a6 (.cells #[.slice (some ⟨g1,0,none⟩) 144 144,.slice (some ⟨g2,0,none⟩) 112 112,.slice (some ⟨g3,0,none⟩) 24 24,.slice (some ⟨I,0,none⟩) 8 8] 76))
 have H:=Ab (IX aq.heap.size 0 4 4 (PG g1 g2 g3 I) (aq.alloc (.cells #[.slice (some ⟨g1,0,none⟩) 144 144,.slice (some ⟨g2,0,none⟩) 112 112,.slice (some ⟨g3,0,none⟩) 24 24,.slice (some ⟨I,0,none⟩) 8 8] 76)) (by simp) (by
  intro j M
  match j,M with
  |0,_=>simp[PG]
  |1,_=>simp[PG]
  |2,_=>simp[PG]
  |3,_=>simp[PG]) (by
  intro j M
  match j,M with
  |0,_=>exact(Aa ap).alloc _
  |1,_=>exact(Aa a0).alloc _
  |2,_=>exact(Aa al).alloc _
  |3,_=>exact(Aa am).alloc _) (Z5f g1 g2 g3 I) (by rw[DQ];simp[Ky]) (by omega))
 rw[DQ]at H;have a5:Ky.length=288:=by simp[Ky]
 rw[a5]at H;clear bc bg a8 ba;go_wp2_with fail
 refine(Aa H).mono ?_;rintro e Y ⟨bh,rfl,O,T⟩;obtain⟨a9,a7,rfl,bd,bi⟩:=Ba O (by omega);have aa:=Ab (RowIn.iv O);have af:=Ab ((Aa ah).trans (T.mono (by simp;omega)));have bf:=T.size;simp only[World.size_alloc]at bf bd;clear O T H ah ap a0 al am ae;go_wp2_with fail
 refine(Fp 5 32 Y (by omega) (by omega)).mono ?_;rintro e w6 ⟨rfl,ac,Z,bq⟩;have be:=Ab ((Aa aa).below Z (VB _));have bb:Hid (RowIn .i64 w6 (some ⟨Y.heap.size+1,0,none⟩) Ir):=ac;have a4:=Ab ((Aa af).trans (Z.mono (by omega)));clear ac Z aa af;go_wp2;go_ret2;exact⟨a9,a7,Y.heap.size+1,rfl,by omega,by omega,Aa be,Aa bb,Aa a4⟩
abbrev Z31:Ending:=.panicked [{v:=.iface 165 (.agg #[]),recovered:=false}]
structure ZT (w:World)(b:Nat)(R:Value)(p:Nat)(w':World):Prop where
 is:w'.heap[b]? =some (.cells #[R,.int .i64 (p:Int)] 116 (0,0))
 below:Below b w w'
 keep:∀g,g≠b->g<w.heap.size->w'.heap[g]? =w.heap[g]?
theorem ZT.trans {w H G:World}{b p q:Nat}{R:Value}(E:ZT w b R p H)(k:ZT H b R q G):ZT w b R q G:=
 ⟨k.is,E.below.trans k.below,fun g I F=>(k.keep g I (VG F E.below.size)).trans (E.keep g I F)⟩
theorem ZT.drewN {w F:World}{b p:Nat}{R:Value}(E:ZT w b R p F)(q:Nat):ZT w b R p (F.drewN q):=⟨E.is,Ae E.below q,E.keep⟩
structure ZRow (w:World)(b:Nat)(a:Option Addr)(n cap:Nat)(bs:List Nat):Prop where
 len:bs.length=n
 few:n<=12000
 room:n<=cap
 nil:a=none->cap=0
 byt:BytesIn w a bs
 val:∀x∈bs,x<256
 apart:∀g o,a=some ⟨g,o,none⟩->bs≠ []->g≠b
theorem ZRow.keep {w w':World}{b n F:Nat}{a:Option Addr}{bs:List Nat}(E:ZRow w b a n F bs)(T:w.heap.size<=w'.heap.size)(H:∀g,g≠b->g<w.heap.size->w'.heap[g]? =w.heap[g]?):ZRow w' b a n F bs:=by
 refine⟨E.len,E.few,E.room,E.nil, ?_,E.val,E.apart⟩
 by_cases e:bs= []
 . exact .inl e
 . rcases E.byt with O|⟨g,o,G,hb,M⟩
   . exact absurd O e
   . exact .inr ⟨g,o,G,by omega,fun j I=>(World.cell?_of_block (w:=w) (a:=⟨g,_,none⟩) (H g (E.apart g o G e) hb)).trans (M j I)⟩
theorem ZRow.after {w w':World}{b n F p:Nat}{a:Option Addr}{bs:List Nat}{R:Value}(G:ZRow w b a n F bs)(E:ZT w b R p w'):ZRow w' b a n F bs:=G.keep E.below.size E.keep
theorem Z7k (a:Option Addr)(m n E:Nat)(M:m<=n)(I:n<=E)(W:World):(Instr.slice 23 (.slice a n E) none (some (.int .u32 (m:Int))) none).run Tryz.prog W=.ok (.slice a m E) W:=by
 have H:=Tryz.sizeOf5;have G:=Tryz.underlying23;have F:(m:Int)<=(E:Int):=by omega
 cases a<;>simp[go_sem,G,H,F]
theorem AW {n:Nat}(E:n<18446744073709551616):IntKind.u64.wrap (n:Int)=(n:Int):=by
 simp[IntKind.wrap,IntKind.bits,IntKind.signed]
 omega
theorem ZT.set {w:World}{b p q:Nat}{R:Value}(F:w.heap[b]? =some (.cells #[R,.int .i64 (p:Int)] 116 (0,0))):ZT w b R q (w.setCell ⟨b,1,none⟩ (.int .i64 (q:Int))):=by
 have hb:=(VK.1 F).1;have E:=Ad w b 1 (.int .i64 (q:Int));refine⟨by rw[heap_setCell_same w b 1 _ _ _ F];rfl,(Below.refl b w).grown E (by omega) (fun g e=>by cases e;exact VB _),fun g H G=>E.block g G (fun e=>H (VM e))⟩
theorem Z6d {w:World}{b p E n U k:Nat}{a F:Option Addr}{bs:List Nat}(G:ZRow w b a n U bs)(ab:p<=n)(aa:p+E<=n)(Z:∀b o,a=some ⟨b,o,none⟩->p<n->F=some ⟨b,o+p,none⟩)(O:F=none->k=0):PkIn w F k ((bs.drop p).take E):=by
 refine⟨?_,O⟩
 by_cases I:E=0
 . subst I;exact .inl (by simp)
 . have hb:bs≠ []:=by
    intro e;have:=G.len
    rw[e]at this;simp at this
    omega
   rcases G.byt with e|⟨g,o,e,M,Y⟩
   . exact absurd e hb
   . refine .inr ⟨g,o+p,Z g o e (by omega),M,fun j T=> ?_⟩
     have H:j<E/\p+j<bs.length:=by
      rw[VL,VQ]at T;omega
     have e2:((bs.drop p).take E).getD j 0=bs.getD (p+j) 0:=by
      simp only[List.getD];rw[XX H.1,XJ]
     rw[e2,WT];exact Y (p+j) H.2
theorem Dv (b p E n F:Nat)(a:Option Addr)(bs:List Nat)(w:World)(I:w.heap[b]? =some (.cells #[.slice a n F,.int .i64 (p:Int)] 116 (0,0)))(ac:p<=n)(H:ZRow w b a n F bs)(aq:E<4294967296):
 Calls Tryz.prog 127 #[.pointer (some ⟨b,0,none⟩),.int .u32 (E:Int)] w fun e w'=>(n<p+E/\e=Z31/\ZT w b (.slice a n F) p w')\/ (p+E<=n/\(∃G T,e=.returned (.slice G E T)/\E<=T/\∀W,ZRow W b a n F bs->PkIn W G T ((bs.drop p).take E))/\ZT w b (.slice a n F) (p+E) w'):=by
 obtain⟨G,ai,aa,ag⟩:=Z3q a p n F ac H.room H.nil;have ax:=H.few;have au:=H.room;have c0:=Ac (i:=0) I;have c1:=Ac (i:=1) I;simp only[VZ,VY,WI]at c0 c1;have f1:=frozen_of_row w b 1 _ _ I;obtain⟨d,O⟩:=exq (n-p);obtain⟨k,M⟩:=exq (F-p);rw[O,M]at ai;have ar:=AW (n:=d) (by omega);have as:=AW (n:=E) (by omega);have ae:=Ab I;have an:=Ab aa;have ak:=Ab ag;have ah:=Ab M;clear I H aa ag
 by_cases U:n<p+E
 . have aj:(d:Int)<(E:Int):=by omega
   have ab:Hid (n<p+E/\∀q,ZT w b (.slice a n F) p (w.drewN q)):=Ab ⟨U,fun q=>(⟨Aa ae,Below.refl _ _,fun g _ _=>rfl⟩:ZT w b (.slice a n F) p w).drewN q⟩;clear O M U;go_enter Tryz.func127,Tryz.ntmps127
   go_wp2;go_quiet (fail)
   go_wp2;exact⟨rfl,.inl ⟨(Aa ab).1,rfl,(Aa ab).2 _⟩⟩
 . have aj:¬(d:Int)<(E:Int):=by omega
   have aw:=Z7k G E d k (by omega) (by omega);have Y:((p:Int)+(E:Int))=((p+E:Nat):Int):=by omega
   have af:=Ab (show p+E<=n by omega);have ap:=Ab O;have av:=Ab Y;have am:E<=k:=by omega
   have al:∀q,ZT w b (.slice a n F) (p+E) ((w.drewN q).setCell ⟨b,1,none⟩ (.int .i64 ((p:Int)+(E:Int)))):=fun q=>by
    have Z:ZT w b (.slice a n F) p (w.drewN q):=(⟨Aa ae,Below.refl _ _,fun g _ _=>rfl⟩:ZT w b (.slice a n F) p w).drewN q;rw[Y];exact Z.trans (ZT.set Z.is)
   clear O M U Y;go_enter Tryz.func127,Tryz.ntmps127
   go_wp2;go_quiet (fail)
   go_wp2;go_ret;refine .inr ⟨Aa af,⟨G,k,rfl,am,fun W ao=>Z6d ao ac (Aa af) (Aa an) (fun e=>by rw[<-Aa ah];exact Aa ak e)⟩,al _⟩
end Go.Proofs.YtleocpdblhbimaaGreatDoor
