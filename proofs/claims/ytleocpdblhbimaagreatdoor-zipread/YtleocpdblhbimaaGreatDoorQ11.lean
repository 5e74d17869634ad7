import Derived.OwnWalk
import Derived.Laws.CopyOwn
import Derived.Laws.BitsAllLaws
import Derived.Deep.RegionHeld3
import Derived.Test.YtleocpdblhbimaaGreatDoorQ4
set_option linter.unusedSimpArgs false
set_option maxHeartbeats 2000000
namespace Go.Proofs.YtleocpdblhbimaaGreatDoor
open Go.RowKit
set_option linter.unusedVariables false
def CutAt (d:Nat->Int×Int)(n c:Nat):Prop:=∀i j,i<c->c<=j->j<n->(d i).2<(d j).2
theorem CutAt.moved {d d':Nat->Int×Int}{n c p q:Nat}(Z:CutAt d n c)(G:Stab.Moved p q d d')(af:q<=n)(ae:c<=p\/q<=c):CutAt d' n c:=by
 intro i j hi O hn
 have aa:∃F,F<c/\d F=d' i:=by
  by_cases e:p<=i/\i<q
  . obtain⟨k,k1,k2,H⟩:=G.mem e.1 e.2;exact⟨k,by omega,H⟩
  . exact⟨i,hi,(G.out i (by omega)).symm⟩
 have ac:∃E,c<=E/\E<n/\d E=d' j:=by
  by_cases e:p<=j/\j<q
  . obtain⟨k,k1,k2,H⟩:=G.mem e.1 e.2;exact⟨k,by omega,by omega,H⟩
  . exact⟨j,O,hn,(G.out j (by omega)).symm⟩
 obtain⟨F,M,U⟩:=aa;obtain⟨E,T,I,Y⟩:=ac;rw[<-U,<-Y];exact Z F E M T I
def RW (d:Nat->Int×Int)(a b:Nat):Prop:=∀i j,a<=i->i<j->j<b->(d i).2<(d j).2
def Jq (d:Nat->Int×Int)(n B:Nat):Prop:=∀s,Stab.Srt Stab.lx d (s*B) (min (s*B+B) n)
def Cuts (d:Nat->Int×Int)(n B:Nat):Prop:=∀s,CutAt d n (s*B)
structure Part (d dk:Nat->Int×Int)(n X t:Nat):Prop where
 srt:∀s,s<t->Stab.Srt Stab.lx d (s*X) (s*X+X)
 rest:∀k,t*X<=k->d k=dk k
 cuts:Cuts d n X
theorem DW {s t:Nat}(X:Nat)(E:s<t):s*X+X<=t*X:=by
 have:=YZ X (show s+1<=t from E)
 rwa [ZD]at this
theorem Z7b {s t:Nat}(X:Nat)(E:s<=t):s*X<=t*X:=YZ X E
theorem DL (s t X n:Nat):s*X<=t*X\/t*X+X<=s*X:=by
 by_cases h:s<=t
 . exact .inl (Z7b X h)
 . exact .inr (DW X (by omega))
theorem Part.step {d G d':Nat->Int×Int}{n X t:Nat}(E:Part d G n X t)(I:t*X+X<=n)(F:Stab.Moved (t*X) (t*X+X) d d')(H:Stab.Srt Stab.lx d' (t*X) (t*X+X)):Part d' G n X (t+1):=by
 refine⟨fun s T=> ?_,fun k M=> ?_,fun s=>(E.cuts s).moved F I (DL s t X n)⟩
 . by_cases e:s=t
   . subst e;exact H
   . have:=DW X (show s<t by omega)
     exact(E.srt s (by omega)).congr (fun k O U=>F.out k (by omega))
 . rw[ZD]at M;rw[F.out k (by omega)];exact E.rest k (by omega)
theorem Part.last {d O d':Nat->Int×Int}{n X t:Nat}(E:Part d O n X t)(H:t*X<=n)(G:n<=t*X+X)(F:Stab.Moved (t*X) n d d')(I:Stab.Srt Stab.lx d' (t*X) n):Jq d' n X/\Cuts d' n X:=by
 refine⟨fun s=> ?_,fun s=> ?_⟩
 . rcases ZR s t with e|e|e
   . have:=DW X e
     rw[YP (by omega)];exact(E.srt s e).congr (fun k H G=>F.out k (by omega))
   . subst e;rw[YG G];exact I
   . have:=DW X e
     intro i j hi T M;have:j<n:=VG M (Nat.min_le_right _ _)
     omega
 . rcases DL s t X n with e|e
   . exact(E.cuts s).moved F (VB _) (.inl e)
   . exact(E.cuts s).moved F (VB _) (.inr (by omega))
theorem On {d E:Nat->Int×Int}{n B t e:Nat}(G:Jq E n B)(M:Cuts E n B)(F:∀k,t*(2*B)<=k->d k=E k)(Y:t*(2*B)+B<e)(Z:e<=t*(2*B)+2*B)(T:e<=n)(I:e=n\/e=t*(2*B)+2*B):
 Stab.Srt Stab.lx d (t*(2*B)) (t*(2*B)+B)/\Stab.Srt Stab.lx d (t*(2*B)+B) e/\Stab.Cross d (t*(2*B)) (t*(2*B)+B) e:=by
 have H:(2*t)*B=t*(2*B):=by rw[YF 2 t,XY]
 have e2:(2*t+1)*B=t*(2*B)+B:=by rw[ZD,H]
 have b1:=G (2*t);have b2:=G (2*t+1);have c:=M (2*t+1);rw[H,YP (by omega)]at b1;rw[e2]at b2 c;generalize t*(2*B)=a at*;refine⟨b1.congr (fun k h _=>F k h), ?_,fun i j hi U O aa=> ?_⟩
 . refine Stab.Srt.congr (d:=E) (b2.sub (VB _) ?_) (fun k h _=>F k (by omega))
   rcases I with rfl|rfl
   . exact Nat.le_min.2 ⟨by omega,VB _⟩
   . exact Nat.le_min.2 ⟨by omega,T⟩
 . rw[F i hi,F j (by omega)];exact c i j U O (by omega)
theorem MY {d F:Nat->Int×Int}{n B t:Nat}(G:Jq F n B)(I:∀k,t*(2*B)<=k->d k=F k)(E:n<=t*(2*B)+B):Stab.Srt Stab.lx d (t*(2*B)) n:=by
 have H:(2*t)*B=t*(2*B):=by rw[YF 2 t,XY]
 have b1:=G (2*t);rw[H,YG E]at b1;exact b1.congr (fun k E _=>I k E)
theorem Cuts.double {d:Nat->Int×Int}{n B:Nat}(E:Cuts d n B):Cuts d n (2*B):=fun s=>by
 have e:s*(2*B)=(2*s)*B:=by rw[YF 2 s,XY]
 rw[e];exact E (2*s)
end Go.Proofs.YtleocpdblhbimaaGreatDoor
namespace Go.Proofs.YtleocpdblhbimaaGreatDoor
open Go.RowKit
set_option linter.unusedVariables false
set_option maxRecDepth 100000
def Kl (l:List Int):Nat->Nat
 |0=>0
 |k+1=>Kl l k+(if 0<l.getD k 0 then 2^(15-(l.getD k 0).toNat)else 0)
theorem BN (l:List Int):∀k,Kl l k<=32768*k
 |0=>by simp[Kl]
 |k+1=>by
  have ih:=BN l k
  have:2^(15-(l.getD k 0).toNat)<=32768:=by
   have:=VO (n:=2) (by decide) (show 15-(l.getD k 0).toNat<=15 by omega)
   omega
  rw[Kl]
  split<;>omega
theorem Ht (l:List Int)(F:∀j,j<l.length->0<=l.getD j 0/\l.getD j 0<=15):∀k,k<=l.length->Kl l k=takenN (cnt (l.take k)) 15
 |0,_=>by
  show 0=takenN (cnt []) 15
  decide
 |k+1,hk=>by
  have ih:=Ht l F k (by omega);have E:k<l.length:=by omega
  obtain⟨m,hm⟩:=WF (F k E).1;have G:=(F k E).2;rw[Kl,ih,<-Ih l E hm,hm];rw[hm]at G
  by_cases H:m=0
  . subst H;rw[Nd];simp
  . rw[Qg _ m (by omega) (by omega) 15 (by omega),if_pos (show (0:Int)<(m:Int) by omega),if_pos (by omega),WM]
theorem Z01 (m:Nat)(G:m<=15):(32768:Int)/2^m=((2^(15-m):Nat):Int):=by
 have h:(2:Nat)^(15-m)*2^m=32768:=by rw[<-Nat.pow_add,show 15-m+m=15 by omega]
 have E:((2^(15-m):Nat):Int)*((2^m:Nat):Int)=32768:=by exact_mod_cast h
 have F:(0:Int)<((2^m:Nat):Int):=by exact_mod_cast Nat.pow_pos (n:=m) (show 0<2 by decide)
 have e:(2:Int)^m=((2^m:Nat):Int):=by push_cast;rfl
 rw[e,<-E,Int.mul_ediv_cancel _ (by omega)]
theorem Z05 (a:Option Addr)(E ac:Nat)(l:List Int)(w:World)(ae:l.length=E)(aj:E<=288)(T:RowIn .i64 w a l)(H:∀j,j<l.length->0<=l.getD j 0/\l.getD j 0<=15):
 Calls Tryz.prog 161 #[.slice a E ac] w fun e w'=>e=.returned (.int .i64 ((takenN (cnt l) 15:Nat):Int))/\w'=w:=by
 have aa:=Ab T;have I:=Ab H
 have Z:Hid (Kl l E=takenN (cnt l) 15):=by
  have:=Ht l H l.length (VB _)
  rw[ZK]at this;rw[<-ae];exact this
 clear T H;go_enter Tryz.func161,Tryz.ntmps161
 go_wp2;go_loop [3,8] (fun s i=>∃k:Nat,k<=E/\i=.int .i64 (k:Int)/\s=.int .i64 ((Kl l k:Nat):Int)) (fun _ i=>E-(intOf i).toNat)
 case atStart=>exact⟨0,VH _,rfl,rfl⟩
 case round=>
  obtain⟨k,ag,rfl,rfl⟩:=hrel
  by_cases af:k<E
  . have G:k<l.length:=by omega
    obtain⟨b,o,rfl,hb,M⟩:∃b o,a=some ⟨b,o,none⟩/\b<w.heap.size/\Row .i64 w b o l:=by
     rcases Aa aa with rfl|h
     . simp at G
     . exact h
    have c1:=M k G;obtain⟨m,hm⟩:=WF (Aa I k G).1;have Y:=(Aa I k G).2;have F:Hid (Kl l (k+1)=Kl l k+(if 0<l.getD k 0 then 2^(15-(l.getD k 0).toNat)else 0)):=rfl;have ak:=BN l k;rw[hm]at c1 Y F;rw[WM]at F;have U:m<=15:=by omega
    have ai:=Z01 m U
    have ah:2^(15-m)<=32768:=by
     have:=VO (n:=2) (by decide) (show 15-m<=15 by omega)
     omega
    clear M hm;generalize Kl l k=u at*;generalize 2^(15-m)=z at*
    by_cases O:(0:Int)<(m:Int)
    . rw[if_pos O]at F;go_wp2;go_round
      case rel=>exact⟨k+1,by omega,by go_num,by rw[Aa F];go_num⟩
      case measure=>simp[intOf];omega
    . rw[if_neg O]at F;go_wp2;go_round
      case rel=>exact⟨k+1,by omega,by go_num,by rw[Aa F];rfl⟩
      case measure=>simp[intOf];omega
  . obtain rfl:k=E:=by omega
    go_wp2;go_ret;exact⟨Dd (by rw[Aa Z]),rfl⟩
theorem Ff (a:Option Addr)(E Z:Nat)(l:List Int)(w:World)(ac:l.length=E)(av:E<=9223372036854775807)(G:RowIn .i64 w a l):
 Calls Tryz.prog 124 #[.slice a E Z] w fun e w'=>e=.returned (.int .i64 (errL l))/\w'=w:=by
 by_cases hm:288<E
 . have e:errL l=2:=by unfold errL;rw[if_pos (by omega)]
   rw[e];clear e G;go_enter Tryz.func124,Tryz.ntmps124
   go_wp2;go_ret;exact⟨rfl,rfl⟩
 . rcases Ml (fun j=>Rc (l.getD j 0)) E with F|⟨I,aw,T,F⟩
   . have hn:¬ ∃j,j<l.length/\Rc (l.getD j 0)=false:=by
      rintro ⟨j,M,e⟩;have:=F j (by omega)
      simp only[e]at this
      cases this
     have e:errL l=if 32768<takenN (cnt l) 15 then 8 else 0:=by unfold errL;rw[if_neg (by omega),if_neg hn]
     have aj:=Ab (Z05 a E Z l w ac (by omega) G (fun j M=>Dw (F j (by omega))));have al:=Ab G;have ag:Hid (∀j,j<E->0<=l.getD j 0/\l.getD j 0<=15):=fun j M=>Dw (F j M)
     rw[e];clear G F hn e;go_enter Tryz.func124,Tryz.ntmps124
     go_wp2;go_loop [10] (fun i=>∃k:Nat,k<=E/\i=.int .i64 (k:Int)) (fun i=>E-(intOf i).toNat)
     case atStart=>exact⟨0,VH _,rfl⟩
     case round=>
      obtain⟨k,ak,rfl⟩:=hrel
      by_cases O:k<E
      . have Y:k<l.length:=by omega
        obtain⟨b,o,rfl,hb,H⟩:∃b o,a=some ⟨b,o,none⟩/\b<w.heap.size/\Row .i64 w b o l:=by
         rcases Aa al with rfl|h
         . simp at Y
         . exact h
        have c1:=H k Y;obtain⟨U,ae⟩:=Aa ag k O;clear H;generalize l.getD k 0=x at*;have ao:¬x<0:=by omega
        have ar:¬15<x:=by omega
        go_wp2;go_round
        case rel=>exact⟨k+1,by omega,by go_num⟩
        case measure=>simp[intOf];omega
      . obtain rfl:k=E:=by omega
        go_wp2_with fail
        refine(Aa aj).mono ?_;rintro e au ⟨rfl,rfl⟩
        by_cases af:32768<takenN (cnt l) 15
        . go_wp2;go_ret;exact⟨by first|rfl|(rw[if_pos af];rfl),rfl⟩
        . go_wp2;go_ret;exact⟨by first|rfl|(rw[if_neg af];rfl),rfl⟩
   . have e:errL l=3:=by unfold errL;rw[if_neg (by omega),if_pos ⟨I,by omega,T⟩]
     rw[e]
     obtain⟨b,o,rfl,hb,H⟩:∃b o,a=some ⟨b,o,none⟩/\b<w.heap.size/\Row .i64 w b o l:=by
      rcases G with rfl|h
      . simp at ac;omega
      . exact h
     have ap:=Ab H;have ah:Hid (∀j,j<I->0<=l.getD j 0/\l.getD j 0<=15):=fun j M=>Dw (F j M)
     have ai:=Ab (Hw T);clear G F T e H;go_enter Tryz.func124,Tryz.ntmps124
     go_wp2;go_loop [10] (fun i=>∃k:Nat,k<=I/\i=.int .i64 (k:Int)) (fun i=>E-(intOf i).toNat)
     case atStart=>exact⟨0,VH _,rfl⟩
     case round=>
      obtain⟨k,ak,rfl⟩:=hrel;have c1:=Aa ap k (by omega)
      by_cases O:k<I
      . obtain⟨U,ae⟩:=Aa ah k O;generalize l.getD k 0=x at*;have ao:¬x<0:=by omega
        have ar:¬15<x:=by omega
        go_wp2;go_round
        case rel=>exact⟨k+1,by omega,by go_num⟩
        case measure=>simp[intOf];omega
      . obtain rfl:k=I:=by omega
        have aa:=Aa ai;generalize l.getD k 0=x at*
        by_cases U:x<0
        . clear aa;go_wp2;go_ret;exact⟨rfl,rfl⟩
        . have ae:15<x:=by omega
          clear aa;go_wp2;go_ret;exact⟨rfl,rfl⟩
end Go.Proofs.YtleocpdblhbimaaGreatDoor
namespace Go.Proofs.YtleocpdblhbimaaGreatDoor
set_option linter.unusedVariables false
set_option maxRecDepth 100000
theorem CX:∀n c E,c<2^n->E<2^n->hb c n=hb E n->c=E
 |0,c,E,h,h',_=>by simp at h h';omega
 |n+1,c,E,h,h',e=>by
  rw[XC]at h h';rw[hb,hb]at e;have F:=List.append_inj e (by rw[Bd,Bd]);have e2:=CX n (c/2) (E/2) (by omega) (by omega) F.1;have e3:decide (c%2=1)=decide (E%2=1):=by simpa using F.2
  have G:(c%2=1↔E%2=1):=by simpa using e3
  omega
theorem Sr (l:List Int)(E:Good l)(s:List Bool)(T:s≠ [])(q q':Nat)(H:q<l.length)(G:q'<l.length)(e:codeT l q=s)(O:codeT l q'=s):q=q':=by
 obtain⟨m,hm⟩:=WF (E.ok q H).1;obtain⟨Z,F⟩:=WF (E.ok q' G).1;have hl:=congrArg List.length (e.trans O.symm)
 have I:0<m:=by
  by_cases h:m=0
  . subst h;unfold codeT at e;rw[hm]at e;exact absurd e.symm T
  . omega
 have M:=e.trans O.symm;unfold codeT at hl M;rw[hm,F,WM,WM]at hl M;rw[Bd,Bd]at hl;subst hl
 by_cases h:q=q'
 . exact h
 . have U:=(Ig l E H hm I).2.2;have Y:=(Ig l E G F I).2.2;have:=V1 l E H G hm F h I (VB _)
   rw[XW,Nat.pow_zero,Nat.div_one]at this;exact absurd (CX m _ _ Y U M.symm) this
theorem Pc (l:List Int)(row:List Bool)(p:Nat):∀k f,(∀j,1<=j->j<=k->¬row.length<p+j/\Ok l ((row.drop p).take j)=none)->∀n,n+k=k+1->Ej l row p (k+f) n=Ej l row p f (n+k)
 |0,f,_,n,_=>by simp
 |k+1,f,h,n,hn=>by
  have e:=Pc l row p k (f+1) (fun j E H=>h j E (by omega)) n (by omega);rw[show k+1+f=k+(f+1) by omega,e];obtain rfl:n=1:=by omega
  obtain⟨F,G⟩:=h (k+1) (by omega) (VB _);rw[Ej,show 1+k=k+1 by omega,if_neg F,G,show 1+(k+1)=k+1+1 by omega]
end Go.Proofs.YtleocpdblhbimaaGreatDoor
namespace Go.Proofs.YtleocpdblhbimaaGreatDoor
open Go.RowKit
set_option linter.unusedVariables false
set_option maxRecDepth 100000
theorem Za (n:Nat):(Builtin.zeroCells (Value.int .i64 0).cells n).toList=iv (List.replicate n 0):=by
 show (Builtin.zeroCells #[Value.int .i64 0] n).toList=_
 unfold Builtin.zeroCells;apply List.ext_getElem?
 intro i
 by_cases h:i<n
 . simp[h,Nat.mod_one]
 . simp[h]
theorem Qq (w:World)(H:TypeId)(n:Nat)(ae:0<n)(af:n<=100000):
 ∃c w',(Builtin.append_ #[76,3] H #[.slice none 0 0,.int .i64 (n:Int)]).run Tryz.prog w=.ok (.slice (some ⟨w.heap.size,0,none⟩) n c) w'/\n<=c/\c<=maxLen/\w'.heap[w.heap.size]? =some (.cells (iv (List.replicate c 0)).toArray 3 (0,0))/\w.grownBy w' none:=by
 obtain⟨ag,hi,I,F,aa⟩:=info_parts Bv;have Y:=grownCap_ge w n 0 3;have ac:=grownCap_le_maxLen w n 0 3 (by unfold maxLen;omega);have U:n≠0:=by omega
 have G:¬(9223372036854775807<(n:Int)):=by omega
 have M:¬((n:Int)<0):=by omega
 have T:¬(281474976710656<(n:Int)*8):=by omega
 have E:¬(281474976710656<Builtin.nextslicecap n 0*8):=by rw[nextslicecap_zero ae];omega
 have Z:IntKind.i64.wrap (n:Int)=(n:Int):=by simp[IntKind.wrap,IntKind.signed,IntKind.bits];omega
 refine⟨grownCap w n 0 3,w.drew.alloc (.cells (Builtin.zeroCells (Value.int .i64 0).cells n++Builtin.zeroCells (Value.int .i64 0).cells (grownCap w n 0 3-n)) 3), ?_,Y,ac, ?_, ?_⟩
 . simp[Builtin.append_,run_underlying Tryz.underlying76,run_underlying Tryz.underlying3,sizeOf,typeInfo,zeroValue,hi,I,F,aa,asInt,asIntOf,Z,M,T,U,G,E,Question.forced,run_firstCells_none,newRow,grownCap]
 . have:=heap_alloc_new w.drew (.cells (Builtin.zeroCells (Value.int .i64 0).cells n++Builtin.zeroCells (Value.int .i64 0).cells (grownCap w n 0 3-n)) 3)
   rw[show w.drew.heap.size=w.heap.size from rfl]at this;rw[this]
   congr 2
   apply Array.ext'
   rw[Array.toList_append,Za,Za];show _=iv (List.replicate (grownCap w n 0 3) 0)
   unfold iv;rw[<-WU,List.replicate_append_replicate]
   congr 2
   omega
 . exact⟨rfl,rfl,rfl,by simp,fun k O _=>Below.heap_alloc w.drew _ k O⟩
theorem La (w:World){E:Array Oper}{F:List Oper}{o:Oper}{a:Act}{Q:Exit->Act->World->Prop}(ac:o.guard=none)(s x:Operand)
 (Z:o.op=.call {callee:=.builtin .append,args:= #[s,x],argTypes:= #[76,3]}) (n:Nat) (I:a.eval s=.slice none 0 0) (G:a.eval x=.int .i64 (n:Int)) (aa:0<n) (M:n<=100000)
 (Y:∀c w',n<=c->c<=maxLen->w'.heap[w.heap.size]? =some (.cells (iv (List.replicate c 0)).toArray 3 (0,0))->w.grownBy w' none->wpList Tryz.prog E Q F (a.put o.dst (.slice (some ⟨w.heap.size,0,none⟩) n c)) w'):
 wpList Tryz.prog E Q (o::F) a w:=by
 refine wpList_plain ac fun K hK=> ?_
 obtain⟨c,w',hr,T,O,H,U⟩:=Qq w o.type n aa M;unfold Oper.wp execOp;simp only[Z,resolve,invoke,builtin,Sem.run_bind,Sem.run_pure,Result.andThen_ok,ZL,WQ,ZE,I,G,hr];exact hK _ _ (Y c w' T O H U)
theorem Z1i (n:Nat)(w:World)(T:0<n)(I:n<=100000):Calls Tryz.prog 159 #[.slice none 0 0,.int .i64 (n:Int)] w fun e w'=>∃c,e=.returned (.slice (some ⟨w.heap.size,0,none⟩) 0 c)/\w'.ownsRow w.heap.size 3 1 (.slice (some ⟨w.heap.size,0,none⟩) 0 c) 0 (iv [])/\Below w.heap.size w w':=by
 go_enter Tryz.func159,Tryz.ntmps159
 go_wp2_with (refine La w rfl (.tmp 20) (.tmp 21) rfl n rfl rfl T I ?_)
 intro c G U H E F;have M:=Ab (Hq (Below.refl w.heap.size w) F (VB _));have O:Hid (G.ownsRow w.heap.size 3 1 (.slice (some ⟨w.heap.size,0,none⟩) 0 c) 0 (iv [])):=⟨rfl,.inr ⟨w.heap.size,c,_,rfl,VB _,E,VH _,H,by simp,rfl⟩⟩
 clear E F;go_wp2;go_ret;exact⟨c,rfl,Aa O,Aa M⟩
def Jp (ps:List (Nat×List Int)):Nat->List Int
 |0=> []
 |k+1=>Jp ps k++(ps.getD k (0,[])).2
theorem C2 {w:World}{F:Nat}{xs:List Int}(H:RowIn .i64 w (some ⟨F,0,none⟩) xs):∀j u,(iv xs)[j]? =some u->w.cell? ((⟨F,0,none⟩:Addr).add j)=some u:=by
 intro j u E;have e:(⟨F,0,none⟩:Addr).add j=⟨F,j,none⟩:=by unfold Addr.add;split<;>simp_all
 rcases H with rfl|⟨b,o,I,_,H⟩
 . simp at E
 . cases I
   have G:j<xs.length:=by
    by_cases c:j<xs.length
    . exact c
    . rw[WJ (by simp;omega)]at E;cases E
   have:=H j G
   rw[e];simp[G]at E
   subst E;simpa[List.getD,G]using this
theorem OC (xs:List Int):∀u∈iv xs,u.oneCell'=true:=by intro u E;obtain⟨x,_,rfl⟩:=XG.1 E;rfl
theorem Vx (b o F bb:Nat)(Y:Nat->Nat)(E:List (Nat×List Int))(w:World)(a3:b<w.heap.size)(ai:∀j,j<F->w.cell? ⟨b,o+j,none⟩=some (.slice (some ⟨(E.getD j (0,[])).1,0,none⟩) (E.getD j (0,[])).2.length (Y j)))(ax:∀j,j<F->RowIn .i64 w (some ⟨(E.getD j (0,[])).1,0,none⟩) (E.getD j (0,[])).2)
 (U:∀k,k<=F->(Jp E k).length<=1000) (a4:0<(Jp E F).length) (bu:F<=100):
 Calls Tryz.prog 122 #[.slice (some ⟨b,o,none⟩) F bb] w fun e w'=>∃v,e=.returned v/\w'.ownsRow w.heap.size 3 1 v (Jp E F).length (iv (Jp E F))/\Below w.heap.size w w':=by
 obtain⟨a9,hi,a8,bd,a6⟩:=info_parts Bv;have ag:=Ab ai;have ba:=Ab ax;have aw:=Ab U;obtain⟨T,ak⟩:=exq ((Jp E F).length);have ar:0<T/\T<=1000:=by have:=U F (VB _);omega
 obtain⟨bg,ar⟩:=ar;have bh:=Ab ak;clear ai ax U a4 ak;go_enter Tryz.func122,Tryz.ntmps122
 go_wp2;go_loop [3,11] (fun a5 O=>∃k:Nat,k<=F/\O=.int .i64 (k:Int)/\a5=.int .i64 ((Jp E k).length:Int)) (fun _ O=>F-(intOf O).toNat)
 case atStart=>exact⟨0,VH _,rfl,rfl⟩
 case round=>
  obtain⟨k,bo,rfl,rfl⟩:=hrel
  by_cases a2:k<F
  . have c1:=Aa ag k a2;have I:=Aa aw (k+1) (by omega);have H:Hid ((Jp E (k+1)).length=(Jp E k).length+(E.getD k (0,[])).2.length):=Ab (by rw[Jp,VE]);rw[Aa H]at I;generalize (E.getD k (0,[])).2.length=m at*;generalize Y k=av at*;generalize (E.getD k (0,[])).1=g at*;generalize (Jp E k).length=L at*;go_wp2;go_round
    case rel=>exact⟨k+1,by omega,by go_num,by rw[Aa H];go_num⟩
    case measure=>simp[intOf];omega
  . obtain rfl:F=k:=by omega
    rw[Aa bh];go_wp2_with fail
    refine(Z1i T w bg (by omega)).mono ?_;rintro e bq ⟨c,rfl,ae,ao⟩;have bf:=Ab ae;have bc:=Ab ao;clear ae ao;go_wp2;go_loopw [6,27] (fun bk ac wr=>∃k:Nat,k<=F/\ac=.int .i64 (k:Int)/\wr.ownsRow w.heap.size 3 1 bk (Jp E k).length (iv (Jp E k))/\Below w.heap.size w wr) (fun _ ac _=>F-(intOf ac).toNat)
    case atStart=>exact⟨0,VH _,rfl,Aa bf,Aa bc⟩
    case round=>
     obtain⟨k,bm,rfl,aa,G⟩:=hrel;have M:=Ab aa;have ay:=Ab G;have bn:=G.size
     by_cases af:k<F
     . have c1:=(G.cell (p:=⟨b,o+k,none⟩) a3).trans (Aa ag k af);have aj:=(Aa ba k af).below G (VB _);have ap:=Ab (C2 aj);have I:=Aa aw (k+1) (by omega);have H:Hid (Jp E (k+1)=Jp E k++(E.getD k (0,[])).2):=Ab rfl;rw[Aa H,VE]at I;generalize (E.getD k (0,[])).2=xs at*;generalize (E.getD k (0,[])).1=g at*;generalize Y k=av at*;obtain⟨m,hm⟩:=exq (xs.length);obtain⟨L,Z⟩:=exq ((Jp E k).length);rw[hm]at c1 I;rw[Z]at I M;have az:=Ab hm;have bi:=Ab Z;clear aa G aj hm Z;go_wp2_with (at_builtin;refine wpList_append_own_at _ rfl _ _ 76 rfl w.heap.size 3 a9 (.int .i64 0) 1 8 Tryz.underlying76 hi a8 bd a6 rfl (by decide) u6 L (iv (Jp E k)) rfl (Aa M) ⟨g,0,none⟩ m av (iv xs) rfl (by rw[WL,Aa az,Nat.mul_one]) (Aa ap) (OC xs) (by unfold maxLen;omega) (by omega) (by omega) ?_)
       intro v' au ah al _ a1
       have a7:Hid (au.ownsRow w.heap.size 3 1 v' (Jp E (k+1)).length (iv (Jp E (k+1)))):=by
        rw[Aa H,VE,Aa bi,Aa az];show au.ownsRow w.heap.size 3 1 v' (L+m) (List.map (Value.int .i64) (Jp E k++xs))
        rw[WU];exact ah
       have bj:=Ab ((Aa ay).grown al (by omega) (fun g e=>((Aa M).lt g e).1));clear ah al a1 c1 ap;go_wp2;go_roundw
       case rel=>exact⟨k+1,by omega,by go_num,Aa a7,Aa bj⟩
       case measure=>simp[intOf];omega
     . obtain rfl:F=k:=by omega
       clear aa G;go_wp2;go_ret;exact⟨u6,rfl,Aa M,Aa ay⟩
theorem IX (b o F G:Nat)(E:List (Nat×List Int))(w:World)(H:b<w.heap.size)(I:∀j,j<F->w.cell? ⟨b,o+j,none⟩=some (.slice (some ⟨(E.getD j (0,[])).1,0,none⟩) (E.getD j (0,[])).2.length (E.getD j (0,[])).2.length))(U:∀j,j<F->RowIn .i64 w (some ⟨(E.getD j (0,[])).1,0,none⟩) (E.getD j (0,[])).2)
 (M:∀k,k<=F->(Jp E k).length<=1000) (O:0<(Jp E F).length) (T:F<=100):
 Calls Tryz.prog 122 #[.slice (some ⟨b,o,none⟩) F G] w fun e w'=>∃v,e=.returned v/\w'.ownsRow w.heap.size 3 1 v (Jp E F).length (iv (Jp E F))/\Below w.heap.size w w':=Vx b o F G (fun j=>(E.getD j (0,[])).2.length) E w H I U M O T
theorem NQ (n:Nat)(E:n<4294967296):bits .and .u64 (n:Int) 4294967295=(n:Int):=by
 have h:=u64_and_nat n 4294967295 (by omega) (by omega)
 have e:n&&&4294967295=n:=by
  rw[show (4294967295:Nat)=2^32-1 by rfl,Nat.and_two_pow_sub_one_eq_mod];exact ZJ E
 rw[e]at h;simpa using h
theorem NN (n:Nat)(w:World)(E:n<4294967296):Calls Tryz.prog 194 #[.int .u64 1,.int .u64 (n:Int)] w fun e w'=>e=.returned (.tuple #[.int .u64 0,.int .u64 (n:Int)])/\w'=w:=by
 have H:bits .and .u64 1 4294967295=1:=by simpa using NQ 1 (by omega)
 have F:bits .and .u64 0 4294967295=0:=by simpa using NQ 0 (by omega)
 have O:=NQ n E;have M:(n:Int)/4294967296=0:=by omega
 have G:IntKind.u64.wrap (n:Int)=(n:Int):=by simp[IntKind.wrap,IntKind.signed,IntKind.bits];omega
 have I:IntKind.u64.wrap 0=0:=by decide
 go_enter Tryz.func194,Tryz.ntmps194
 go_wp2;go_ret2;exact⟨rfl,rfl⟩
theorem mul_one (n:Nat)(w:World)(E:n<4294967296):Calls Tryz.prog 160 #[.int .u64 1,.int .u64 (n:Int)] w fun e w'=>e=.returned (.tuple #[.int .u64 0,.int .u64 (n:Int)])/\w'=w:=by
 go_enter Tryz.func160,Tryz.ntmps160
 go_wp2_with fail
 refine(NN n w E).mono ?_;rintro e w' ⟨rfl,rfl⟩;go_wp2;go_ret2;exact⟨rfl,rfl⟩
def Uw (x:Int)(c n:Nat):List Value:=iv (List.replicate c x++List.replicate (n-c) 0)
theorem Qv (x:Int)(c n:Nat)(E:c<=n):(Uw x c n).length=n:=by simp[Uw];omega
theorem Qu (x:Int)(c d n:Nat)(E:c+d<=n):splice (Uw x c n) c (iv (List.replicate d x))=Uw x (c+d) n:=by
 unfold splice Uw iv;rw[WU,YS (by simp),WL,XD]
 have e:List.drop (c+d) (List.map (Value.int .i64) (List.replicate c x)++List.map (Value.int .i64) (List.replicate (n-c) 0))=List.map (Value.int .i64) (List.replicate (n-(c+d)) 0):=by
  rw[List.drop_append];simp
  omega
 rw[e,<-VS,<-WU,<-WU]
 congr 2
 rw[List.replicate_append_replicate]
theorem LY {w:World}{E n c:Nat}{x:Int}(I:w.heap[E]? =some (.cells (Uw x c n).toArray 3 (0,0)))(d:Nat)(M:d<=c):∀j v,(iv (List.replicate d x))[j]? =some v->w.cell? ((⟨E,0,none⟩:Addr).add j)=some v:=by
 intro j v F;have e:(⟨E,0,none⟩:Addr).add j=⟨E,j,none⟩:=by unfold Addr.add;split<;>simp_all
 rw[e,cell_of_row w E j _ _ _ I]
 have H:j<d:=by
  by_cases G:j<d
  . exact G
  . rw[WJ (by simp;omega)]at F;cases F
 simp[H]at F
 subst F;simp[Uw,List.getElem?_append,show j<c by omega]
theorem FK (b o az:Nat)(x:Int)(n:Nat)(w:World)(b4:b<w.heap.size)(ak:w.cell? ⟨b,o,none⟩=some (.int .i64 x))(a2:1<=n)(bz:n<=1000):
 Calls Tryz.prog 123 #[.slice (some ⟨b,o,none⟩) 1 az,.int .i64 (n:Int)] w fun e w'=>e=.returned (.slice (some ⟨w.heap.size,0,none⟩) n n)/\w'.heap[w.heap.size]? =some (.cells (Uw x n n).toArray 3 (0,0))/\Below w.heap.size w w':=by
 obtain⟨bj,hi,bh,ax,bg⟩:=info_parts Bv;have Y:(Tryz.prog.info? 3).map (·.size)=some 1:=by rw[hi];simp[ax]
 have b5:IntKind.u64.wrap (n:Int)=(n:Int):=by simp[IntKind.wrap,IntKind.signed,IntKind.bits];omega
 have b0:IntKind.u64.wrap 1=1:=by decide
 go_enter Tryz.func123,Tryz.ntmps123
 go_wp2_with fail
 refine(mul_one n w (by omega)).mono ?_;rintro e E ⟨rfl,rfl⟩;go_wp2_with (at_make;refine wpList_make_full _ rfl _ _ 76 rfl E.heap.size 3 bj (.int .i64 0) 1 Tryz.underlying76 hi bh ax _ _ _ _ n rfl rfl rfl rfl (by rw[bg];omega) (by unfold maxLen;omega) (VB _) ?_)
 intro U ac H
 have ae:U.heap[E.heap.size]? =some (.cells (Uw x 0 n).toArray 3 (0,0)):=by
  rcases ac.2 with ⟨h,_⟩|⟨g,cap,cur,h,_,bm,b8,b7,bo,av⟩
  . cases h
  . simp only[Value.slice.injEq,YB,Addr.mk.injEq]at h;obtain⟨⟨rfl,_⟩,_,rfl⟩:=h;rw[bm]
    congr 2
    have a5:cur.toList.take (n*1)=cur.toList:=VV (by simp[bo]);rw[a5]at av
    have e2:cur.toList=Uw x 0 n:=by
     rw[av];show (madeCells #[Value.int .i64 0] n).toList=_
     rw[toList_madeCells_one];simp[Uw]
    rw[<-e2]
 have bd:=Ab ae;have bn:=Ab (Hq (Below.refl E.heap.size E) H (VB _));have ao:U.cell? ⟨b,o,none⟩=some (.int .i64 x):=H.cell ak (by simp);have bw:=H.size;clear ac H ae ak
 have au:∀j v,(iv (List.replicate 1 x))[j]? =some v->U.cell? ((⟨b,o,none⟩:Addr).add j)=some v:=by
  intro j v I
  match j,I with
  |0,I=>
   simp at I
   subst I;simpa[Addr.add]using ao
 have Z:(iv (List.replicate 1 x)).length=Nat.min 1 n:=by
  show 1=min 1 n
  omega
 have ar:0+(iv (List.replicate 1 x)).length<=(Uw x 0 n).length:=by
  rw[Qv x 0 n (VH _)];show 0+1<=n
  omega
 have hs4:∀v∈iv (List.replicate 1 x),v.oneCell'=true:=by intro v F;simp at F;subst F;rfl
 have a7:=Ab au;have bc:=Ab Z;have a6:=Ab ar;have a4:=Ab hs4;clear au Z ar hs4;go_wp2_with (refine wpList_copy_splice rfl (.tmp 31) (.tmp 32) 76 76 rfl 3 Tryz.underlying76 Y (some ⟨E.heap.size,0,none⟩) (some ⟨b,o,none⟩) n n 1 az rfl rfl E.heap.size 0 (Uw x 0 n) 3 (Aa bd) (iv (List.replicate 1 x)) (Aa bc) (fun _=>⟨rfl,_,rfl,Aa a7⟩) (Aa a6) (Aa a4) E.heap.size E (Aa bn) (VB _) ?_)
 intro w3 ai aa
 have a9:Hid (w3.heap[E.heap.size]? =some (.cells (Uw x 1 n).toArray 3 (0,0))):=by
  have e:=Qu x 0 1 n (by omega);rw[WG]at e;rw[<-e];exact ai
 have a8:=Ab aa;clear ai aa ao;go_wp2;go_loopw [8] (fun T wr=>∃c:Nat,1<=c/\c<=n/\T=.int .i64 (c:Int)/\wr.heap[E.heap.size]? =some (.cells (Uw x c n).toArray 3 (0,0))/\Below E.heap.size E wr) (fun T _=>n-(intOf T).toNat)
 case atStart=>exact⟨1,VB _,a2,rfl,Aa a9,Aa a8⟩
 case round=>
  obtain⟨c,cd,a3,rfl,aj,aw⟩:=hrel;have O:=Ab aj;have ay:=Ab aw;clear aj aw
  by_cases b3:c<n
  . obtain⟨d,G⟩:∃d,d=Nat.min c (n-c):=⟨_,rfl⟩
    have M:d<=c/\c+d<=n/\1<=d:=by
     have ce:d=min c (n-c):=G;omega
    obtain⟨M,bk,cg⟩:=M;have bv:¬n=c:=by omega
    have ci:¬n=0:=by omega
    have b9:=Ab G;have a1:(iv (List.replicate d x)).length=Nat.min c (n-c):=by simp[G]
    have al:c+(iv (List.replicate d x)).length<=(Uw x c n).length:=by rw[Qv x c n a3];simp;omega
    have ap:∀v∈iv (List.replicate d x),v.oneCell'=true:=by intro v F;simp at F;obtain⟨_,rfl⟩:=F;rfl
    have bb:=Ab a1;have bu:=Ab al;have bf:=Ab ap;clear G a1 al ap;go_wp2;go_region_held3 (fun _=>True) (trivial) (first|(refine step_copy_splice rfl (.tmp 41) (.tmp 44) 76 76 rfl 3 Tryz.underlying76 Y (some ⟨E.heap.size,c,none⟩) (some ⟨E.heap.size,0,none⟩) (n-c) (n-c) c n (by simp[Act.eval]) (by simp[Act.eval]) E.heap.size c (Uw x c n) 3 (Aa O) (iv (List.replicate d x)) (Aa bb) (fun _=>⟨rfl,_,rfl,LY (Aa O) d M⟩) (Aa bu) (Aa bf) E.heap.size E (Ae (Aa ay) 1) (VB _) ?_;intro bi af ah))
    have ba:Hid (bi.heap[E.heap.size]? =some (.cells (Uw x (c+d) n).toArray 3 (0,0))):=by
     rw[<-Qu x c d n bk];exact af
    have bq:=Ab ah;clear af ah
    have ag:IntKind.i64.wrap ((c:Int)+(d:Int))=((c+d:Nat):Int):=by
     simp[IntKind.wrap,IntKind.signed,IntKind.bits];omega
    go_wp2;go_roundw
    case rel=>exact⟨c+d,by omega,by omega,by rw[ag],Aa ba,Aa bq⟩
    case measure=>rw[ag];simp[intOf];omega
  . obtain rfl:n=c:=by omega
    go_wp2;go_ret;exact⟨rfl,Aa O,Aa ay⟩
theorem FF {w:World}{E n:Nat}{x:Int}(F:w.heap[E]? =some (.cells (Uw x n n).toArray 3 (0,0))):RowIn .i64 w (some ⟨E,0,none⟩) (List.replicate n x):=by
 refine .inr ⟨E,0,rfl,(VK.1 F).1, ?_⟩;intro j G;rw[WG,cell_of_row w E j _ _ _ F];have H:j<n:=by simpa using G
 simp[Uw,List.getD,H]
theorem Fp (x:Int)(n:Nat)(w:World)(G:1<=n)(H:n<=1000):
 Calls Tryz.prog 123 #[.slice (some ⟨w.heap.size,0,none⟩) 1 1,.int .i64 (n:Int)] (w.alloc (.cells #[.int .i64 x] 3)) fun e w'=>e=.returned (.slice (some ⟨w.heap.size+1,0,none⟩) n n)/\RowIn .i64 w' (some ⟨w.heap.size+1,0,none⟩) (List.replicate n x)/\Below w.heap.size w w'/\w.heap.size+1<w'.heap.size:=by
 refine(FK w.heap.size 0 1 x n _ (by simp) (by simp) G H).mono ?_;rintro e w' ⟨rfl,E,F⟩;rw[World.size_alloc]at E F;exact⟨by rw[World.size_alloc],FF E,((Below.refl w.heap.size w).alloc (VB _) _).trans (F.mono (by omega)),(VK.1 E).1⟩
def PG (g1 g2 g3 g4:Nat):List (Nat×List Int):= [(g1,List.replicate 144 8),(g2,List.replicate 112 9),(g3,List.replicate 24 7),(g4,List.replicate 8 8)]
theorem DQ (g1 g2 F E:Nat):Jp (PG g1 g2 F E) 4=Ky:=rfl
theorem Z5f (g1 g2 F G:Nat):∀k,k<=4->(Jp (PG g1 g2 F G) k).length<=1000:=by
 intro k E
 match k,E with
 |0,_=>simp[Jp]
 |1,_=>simp[Jp,PG]
 |2,_=>simp[Jp,PG]
 |3,_=>simp[Jp,PG]
 |4,_=>simp[Jp,PG]
theorem PI (w:World):Calls Tryz.prog 94 #[] w fun e w'=>∃g1 c1 g2,e=.returned (.tuple #[.slice (some ⟨g1,0,none⟩) 288 c1,.slice (some ⟨g2,0,none⟩) 32 32])/\w.heap.size<=g1/\w.heap.size<=g2/\RowIn .i64 w' (some ⟨g1,0,none⟩) Ky/\RowIn .i64 w' (some ⟨g2,0,none⟩) Ir/\Below w.heap.size w w':=by
 go_enter Tryz.func94,Tryz.ntmps94
 go_wp2_with fail
 refine(Fp 8 144 w (by omega) (by omega)).mono ?_;rintro e ag ⟨rfl,a3,Z,b0⟩;have ay:=Ab a3;have aa:=Ab Z;have az:=Z.size;clear a3 Z;go_wp2_with fail
 refine(Fp 9 112 ag (by omega) (by omega)).mono ?_;rintro e a1 ⟨rfl,a7,G,bq⟩;have a8:=Ab ((Aa ay).below G (VB _));have aj:=Ab a7;have ax:=Ab ((Aa aa).trans (G.mono az));have al:=VU az G.size;have bz:=G.size;clear a7 G ay aa;go_wp2_with fail
 refine(Fp 7 24 a1 (by omega) (by omega)).mono ?_;rintro e w3 ⟨rfl,ap,F,bw⟩;have ao:=Ab ((Aa a8).below F (VB _));have ae:=Ab ((Aa aj).below F (VB _));have af:=Ab ap;have ak:=Ab ((Aa ax).trans (F.mono al));have a5:=VU al F.size;have bu:=F.size;clear ap F a8 aj ax;go_wp2_with fail
 refine(Fp 8 8 w3 (by omega) (by omega)).mono ?_;rintro e ar ⟨rfl,a2,E,hs4⟩;have a9:=Ab ((Aa ao).below E (VB _));have ai:=Ab ((Aa ae).below E (VB _));have aw:=Ab ((Aa af).below E (VB _));have av:=Ab a2;have a4:=Ab ((Aa ak).trans (E.mono a5));have bg:=VU a5 E.size;clear a2 E ao ae af ak;generalize ba:w.heap.size+1=g1 at*;generalize bj:ag.heap.size+1=g2 at*;generalize bd:a1.heap.size+1=g3 at*;generalize bc:w3.heap.size+1=I at*;have au:=Ab ((Aa a4).alloc bg (.cells #[.slice (some ⟨g1,0,none⟩) 144 144,.slice (some ⟨g2,0,none⟩) 112 112,.slice (some ⟨g3,0,none⟩) 24 24,.slice (some ⟨I,0,none⟩) 8 8] 76))
 have H:=Ab (IX ar.heap.size 0 4 4 (PG g1 g2 g3 I) (ar.alloc (.cells #[.slice (some ⟨g1,0,none⟩) 144 144,.slice (some ⟨g2,0,none⟩) 112 112,.slice (some ⟨g3,0,none⟩) 24 24,.slice (some ⟨I,0,none⟩) 8 8] 76)) (by simp) (by
  intro j U
  match j,U with
  |0,_=>simp[PG]
  |1,_=>simp[PG]
  |2,_=>simp[PG]
  |3,_=>simp[PG]) (by
  intro j U
  match j,U with
  |0,_=>exact(Aa a9).alloc _
  |1,_=>exact(Aa ai).alloc _
  |2,_=>exact(Aa aw).alloc _
  |3,_=>exact(Aa av).alloc _) (Z5f g1 g2 g3 I) (by rw[DQ];simp[Ky]) (by omega))
 rw[DQ]at H;have bb:Ky.length=288:=by simp[Ky]
 rw[bb]at H;clear ba bj bd bc;go_wp2_with fail
 refine(Aa H).mono ?_;rintro e O ⟨bv,rfl,Y,M⟩;obtain⟨bi,bh,rfl,bm,b3⟩:=Ba Y (by omega);have ac:=Ab (RowIn.iv Y);have a6:=Ab ((Aa au).trans (M.mono (by simp;omega)));have bk:=M.size;simp only[World.size_alloc]at bk bm;clear Y M H au a9 ai aw av a4;go_wp2_with fail
 refine(Fp 5 32 O (by omega) (by omega)).mono ?_;rintro e w6 ⟨rfl,ah,T,b4⟩;have bo:=Ab ((Aa ac).below T (VB _));have bf:Hid (RowIn .i64 w6 (some ⟨O.heap.size+1,0,none⟩) Ir):=ah;have bn:=Ab ((Aa a6).trans (T.mono (by omega)));clear ah T ac a6;go_wp2;go_ret2;exact⟨bi,bh,O.heap.size+1,rfl,by omega,by omega,Aa bo,Aa bf,Aa bn⟩
abbrev Z31:Ending:=.panicked [{v:=.iface 165 (.agg #[]),recovered:=false}]
structure ZT (w:World)(b:Nat)(R:Value)(p:Nat)(w':World):Prop where
 is:w'.heap[b]? =some (.cells #[R,.int .i64 (p:Int)] 116 (0,0))
 below:Below b w w'
 keep:∀g,g≠b->g<w.heap.size->w'.heap[g]? =w.heap[g]?
theorem ZT.trans {w I G:World}{b p q:Nat}{R:Value}(E:ZT w b R p I)(k:ZT I b R q G):ZT w b R q G:=
 ⟨k.is,E.below.trans k.below,fun g F H=>(k.keep g F (VG H E.below.size)).trans (E.keep g F H)⟩
theorem ZT.drewN {w F:World}{b p:Nat}{R:Value}(E:ZT w b R p F)(q:Nat):ZT w b R p (F.drewN q):=⟨E.is,Ae E.below q,E.keep⟩
structure ZRow (w:World)(b:Nat)(a:Option Addr)(n cap:Nat)(bs:List Nat):Prop where
 len:bs.length=n
 few:n<=12000
 room:n<=cap
 nil:a=none->cap=0
 byt:BytesIn w a bs
 val:∀x∈bs,x<256
 apart:∀g o,a=some ⟨g,o,none⟩->bs≠ []->g≠b
theorem ZRow.keep {w w':World}{b n G:Nat}{a:Option Addr}{bs:List Nat}(E:ZRow w b a n G bs)(T:w.heap.size<=w'.heap.size)(I:∀g,g≠b->g<w.heap.size->w'.heap[g]? =w.heap[g]?):ZRow w' b a n G bs:=by
 refine⟨E.len,E.few,E.room,E.nil, ?_,E.val,E.apart⟩
 by_cases e:bs= []
 . exact .inl e
 . rcases E.byt with H|⟨g,o,F,hb,O⟩
   . exact absurd H e
   . exact .inr ⟨g,o,F,by omega,fun j M=>(World.cell?_of_block (w:=w) (a:=⟨g,_,none⟩) (I g (E.apart g o F e) hb)).trans (O j M)⟩
theorem ZRow.after {w w':World}{b n F p:Nat}{a:Option Addr}{bs:List Nat}{R:Value}(G:ZRow w b a n F bs)(E:ZT w b R p w'):ZRow w' b a n F bs:=G.keep E.below.size E.keep
theorem Z7k (a:Option Addr)(m n E:Nat)(M:m<=n)(I:n<=E)(W:World):(Instr.slice 23 (.slice a n E) none (some (.int .u32 (m:Int))) none).run Tryz.prog W=.ok (.slice a m E) W:=by
 have F:=Tryz.sizeOf5;have H:=Tryz.underlying23;have G:(m:Int)<=(E:Int):=by omega
 cases a<;>simp[go_sem,H,F,G]
theorem AW {n:Nat}(E:n<18446744073709551616):IntKind.u64.wrap (n:Int)=(n:Int):=by
 simp[IntKind.wrap,IntKind.bits,IntKind.signed]
 omega
theorem ZT.set {w:World}{b p q:Nat}{R:Value}(E:w.heap[b]? =some (.cells #[R,.int .i64 (p:Int)] 116 (0,0))):ZT w b R q (w.setCell ⟨b,1,none⟩ (.int .i64 (q:Int))):=by
 have hb:=(VK.1 E).1;have F:=Ad w b 1 (.int .i64 (q:Int));refine⟨by rw[heap_setCell_same w b 1 _ _ _ E];rfl,(Below.refl b w).grown F (by omega) (fun g e=>by cases e;exact VB _),fun g G H=>F.block g H (fun e=>G (VM e))⟩
theorem Z6d {w:World}{b p E n Y k:Nat}{a F:Option Addr}{bs:List Nat}(H:ZRow w b a n Y bs)(ac:p<=n)(aa:p+E<=n)(I:∀b o,a=some ⟨b,o,none⟩->p<n->F=some ⟨b,o+p,none⟩)(T:F=none->k=0):PkIn w F k ((bs.drop p).take E):=by
 refine⟨?_,T⟩
 by_cases O:E=0
 . subst O;exact .inl (by simp)
 . have hb:bs≠ []:=by
    intro e;have:=H.len
    rw[e]at this;simp at this
    omega
   rcases H.byt with e|⟨g,o,e,U,Z⟩
   . exact absurd e hb
   . refine .inr ⟨g,o+p,I g o e (by omega),U,fun j M=> ?_⟩
     have G:j<E/\p+j<bs.length:=by
      rw[VL,VQ]at M;omega
     have e2:((bs.drop p).take E).getD j 0=bs.getD (p+j) 0:=by
      simp only[List.getD];rw[XX G.1,XJ]
     rw[e2,WT];exact Z (p+j) G.2
theorem Dv (b p E n F:Nat)(a:Option Addr)(bs:List Nat)(w:World)(H:w.heap[b]? =some (.cells #[.slice a n F,.int .i64 (p:Int)] 116 (0,0)))(ah:p<=n)(I:ZRow w b a n F bs)(a2:E<4294967296):
 Calls Tryz.prog 127 #[.pointer (some ⟨b,0,none⟩),.int .u32 (E:Int)] w fun e w'=>(n<p+E/\e=Z31/\ZT w b (.slice a n F) p w')\/ (p+E<=n/\(∃G T,e=.returned (.slice G E T)/\E<=T/\∀W,ZRow W b a n F bs->PkIn W G T ((bs.drop p).take E))/\ZT w b (.slice a n F) (p+E) w'):=by
 obtain⟨G,aj,ae,ag⟩:=Z3q a p n F ah I.room I.nil;have aw:=I.few;have ax:=I.room;have c0:=Ac (i:=0) H;have c1:=Ac (i:=1) H;simp only[VZ,VY,WI]at c0 c1;have f1:=frozen_of_row w b 1 _ _ H;obtain⟨d,M⟩:=exq (n-p);obtain⟨k,O⟩:=exq (F-p);rw[M,O]at aj;have av:=AW (n:=d) (by omega);have a1:=AW (n:=E) (by omega);have af:=Ab H;have au:=Ab ae;have ar:=Ab ag;have ai:=Ab O;clear H I ae ag
 by_cases Y:n<p+E
 . have ak:(d:Int)<(E:Int):=by omega
   have aa:Hid (n<p+E/\∀q,ZT w b (.slice a n F) p (w.drewN q)):=Ab ⟨Y,fun q=>(⟨Aa af,Below.refl _ _,fun g _ _=>rfl⟩:ZT w b (.slice a n F) p w).drewN q⟩;clear M O Y;go_enter Tryz.func127,Tryz.ntmps127
   go_wp2;go_quiet (fail)
   go_wp2;exact⟨rfl,.inl ⟨(Aa aa).1,rfl,(Aa aa).2 _⟩⟩
 . have ak:¬(d:Int)<(E:Int):=by omega
   have a3:=Z7k G E d k (by omega) (by omega);have U:((p:Int)+(E:Int))=((p+E:Nat):Int):=by omega
   have ac:=Ab (show p+E<=n by omega);have ay:=Ab M;have az:=Ab U;have ap:E<=k:=by omega
   have al:∀q,ZT w b (.slice a n F) (p+E) ((w.drewN q).setCell ⟨b,1,none⟩ (.int .i64 ((p:Int)+(E:Int)))):=fun q=>by
    have Z:ZT w b (.slice a n F) p (w.drewN q):=(⟨Aa af,Below.refl _ _,fun g _ _=>rfl⟩:ZT w b (.slice a n F) p w).drewN q;rw[U];exact Z.trans (ZT.set Z.is)
   clear M O Y U;go_enter Tryz.func127,Tryz.ntmps127
   go_wp2;go_quiet (fail)
   go_wp2;go_ret;refine .inr ⟨Aa ac,⟨G,k,rfl,ap,fun W ao=>Z6d ao ah (Aa ac) (Aa au) (fun e=>by rw[<-Aa ai];exact Aa ar e)⟩,al _⟩
theorem Vf:∀(l:List Nat) (y:Nat),Ak (l++ [y])=Ak l+256^l.length*y
 | [],y=>by simp[Ak]
 |x::r,y=>by
  rw[XL,Ak,Vf r y,Ak,VJ,XC,Nat.mul_add,WT,<-XY,YF 256 (256^r.length)]
theorem Z3s (y k:Nat)(F:k<=3)(M:y<256)(W:World):(Op.shift .shl .u32 (y:Int) .i64 (IntKind.i64.wrap (8*(k:Int)))).run Tryz.prog W=.ok (.int .u32 ((256^k*y:Nat):Int)) W:=by
 have e:IntKind.i64.wrap (8*(k:Int))=((8*k:Nat):Int):=by
  simp[IntKind.wrap,IntKind.bits,IntKind.signed]
  omega
 rw[e];have E:(256:Nat)^k=2^(8*k):=by rw[Nat.pow_mul]
 have I:256^k<=256^3:=VO (by decide) F;have hm:256^k*y<=256^3*255:=Nat.mul_le_mul I (by omega)
 have H:IntKind.u32.wrap ((y:Int)*2^min (8*k) 32)=((256^k*y:Nat):Int):=by
  rw[YP (by omega)];have G:(y:Int)*2^(8*k)=((256^k*y:Nat):Int):=by rw[E];push_cast;rw[Int.mul_comm]
  rw[G,IntKind.wrap_u32'];have:(256:Nat)^3=16777216:=by decide
  omega
 unfold Op.shift;rw[if_neg (by omega),WM];show Result.ok (Value.int .u32 (IntKind.u32.wrap ((y:Int)*2^min (8*k) 32))) W=_
 rw[H]
theorem Z6h (m k y:Nat)(E:m<256^k)(G:k<=3)(M:y<256):bits .or .u32 (m:Int) ((256^k*y:Nat):Int)=((m+256^k*y:Nat):Int):=by
 have H:256^k<=256^3:=VO (by decide) G;have I:(256:Nat)^3=16777216:=by decide
 have O:256^k*y<=256^3*255:=Nat.mul_le_mul H (by omega);rw[u32_or_nat _ _ (by omega) (by omega)];have F:(256:Nat)^k=2^(8*k):=by rw[Nat.pow_mul]
 rw[F]at E ⊢;have:=Nat.two_pow_add_eq_or_of_lt (i:=8*k) (b:=m) E y
 rw[Nat.or_comm,<-this,Nat.add_comm]
theorem Et (b p E n H:Nat)(a:Option Addr)(bs:List Nat)(w:World)(a1:w.heap[b]? =some (.cells #[.slice a n H,.int .i64 (p:Int)] 116 (0,0)))(U:p<=n)(M:ZRow w b a n H bs)(bj:E<=4):
 Calls Tryz.prog 100 #[.pointer (some ⟨b,0,none⟩),.int .u32 (E:Int)] w fun e w'=>(n<p+E/\e=Z31/\ZT w b (.slice a n H) p w')\/ (p+E<=n/\e=.returned (.int .u32 (Ak ((bs.drop p).take E):Nat))/\ZT w b (.slice a n H) (p+E) w'):=by
 have ak:=Ab (Dv b p E n H a bs w a1 U M (by omega));have ai:∀x∈(bs.drop p).take E,x<256:=fun x ah=>M.val x (VW (VR ah))
 have hl:p+E<=n->((bs.drop p).take E).length=E:=fun h=>by rw[VL,VQ,M.len];omega
 obtain⟨xs,al⟩:=exq ((bs.drop p).take E);rw[al]at ak ai hl ⊢;have ay:=Ab ai;have a4:=Ab hl;have a8:=Ab M;clear a1 M ai hl al U;go_enter Tryz.func100,Tryz.ntmps100
 go_wp2_with fail
 refine(Aa ak).mono ?_;rintro e Z (⟨O,rfl,G⟩|⟨O,⟨bc,ba,rfl,bi,aw⟩,G⟩)
 . have ac:=Ab G;clear G;go_wp2;exact⟨rfl,.inl ⟨O,rfl,Aa ac⟩⟩
 . have ac:=Ab G;have a7:=Ab (aw Z ((Aa a8).after G));have ar:=Aa a4 O;have I:=Ab ar;clear G aw ar;go_wp2;go_loopw [5,6,7,12] (fun a6 _ _ i wr=>∃k:Nat,k<=E/\i=.int .i64 (k:Int)/\a6=.int .u32 (Ak (xs.take k):Nat)/\Hid (wr=Z)) (fun _ _ _ i _=>E-(intOf i).toNat)
   case atStart=>exact⟨0,VH _,rfl,by simp[Ak],Ab rfl⟩
   case round=>
    obtain⟨k,bg,rfl,rfl,a2⟩:=hrel;have a5:wr=Z:=Aa a2;subst a5;clear a2
    by_cases ap:k<E
    . obtain⟨g,o,rfl,bf,au⟩:=Dz (Aa a7).1 (by rw[Aa I];omega);have hc:=au k (by rw[Aa I];exact ap);have ag:=Er (Aa ay) k;obtain⟨y,aj⟩:=exq (xs.getD k 0);rw[aj]at hc ag;have T:=Jx (xs.take k) (fun x ah=>Aa ay x (VR ah));have aa:(xs.take k).length=k:=by rw[VL,Aa I];omega
      rw[aa]at T
      have Y:Ak (xs.take (k+1))=Ak (xs.take k)+256^k*y:=by
       have ao:k<xs.length:=by rw[Aa I];exact ap
       have e:xs.take (k+1)=xs.take k++ [y]:=by
        rw[XB ao,<-aj];simp[List.getD,ao]
       rw[e,Vf,aa]
      obtain⟨m,F⟩:∃m,Ak (xs.take k)=m:=⟨_,rfl⟩
      rw[F]at T Y ⊢;have az:=Z3s y k (by omega) ag;have ae:=Z6h m k y T (by omega) ag;obtain⟨z,af⟩:=exq (256^k*y);rw[af]at az ae Y
      have av:bits .or .u32 (m:Int) ((y:Int)*2^(8*k)%4294967296)=((m+z:Nat):Int):=by
       have a3:(y:Int)*2^(8*k)=(z:Int):=by rw[<-af,show (256:Nat)^k=2^(8*k) by rw[Nat.pow_mul]];push_cast;rw[Int.mul_comm]
       have U:256^k<=256^3:=VO (by decide) (by omega);have bh:(256:Nat)^3=16777216:=by decide
       have bd:256^k*y<=256^3*255:=Nat.mul_le_mul U (by omega);rw[a3,<-ae]
       congr 1
       omega
      have ax:=Ab (And.intro Y av);clear av ae az;have bb:IntKind.u32.wrap (y:Int)=(y:Int):=by rw[IntKind.wrap_u32'];omega
      clear au aj T aa Y F af;go_wp2;go_roundw
      case rel=>exact⟨k+1,by omega,by go_num,by rw[(Aa ax).1,(Aa ax).2],by first|exact Ab rfl|exact Ab trivial⟩
      case measure=>simp[intOf];omega
    . obtain rfl:E=k:=by omega
      have e:xs.take E=xs:=VV (by rw[Aa I];exact VB _);rw[e];obtain⟨m,F⟩:∃m,Ak xs=m:=⟨_,rfl⟩
      rw[F];have a9:=Ab F;clear F e;go_wp2;go_ret;exact .inr ⟨O,by rw[Aa a9];rfl,Aa ac⟩
end Go.Proofs.YtleocpdblhbimaaGreatDoor
namespace Go.Proofs.YtleocpdblhbimaaGreatDoor
open Go.RowKit
set_option linter.unusedVariables false
def Z8h (w:World)(bs:List Nat)(n:Nat)(e:Ending)(w':World):Prop:=
 Below w.heap.size w w'/\(((Dk (rowB bs n)).e=0/\∃ov kv,e=.returned (.tuple #[ov,.int .i64 ((((Dk (rowB bs n)).p+7)/8:Nat):Int),kv,.int .i64 0])/\w'.ownsRow (w.heap.size+1) 5 1 ov (Dk (rowB bs n)).out.length (u8s (Dk (rowB bs n)).out)/\w'.ownsRow (w.heap.size+1) 3 1 kv (Dk (rowB bs n)).ks.length (i64s (Dk (rowB bs n)).ks))\/ ((Dk (rowB bs n)).e≠0/\e=.returned (.tuple #[.slice none 0 0,.int .i64 0,.slice none 0 0,.int .i64 (Dk (rowB bs n)).e])))
def Z5u:Prop:=
 (∀(a:Option Addr) (n cap:Nat) (bs:List Nat) (w:World),bs.length=n->n<=6000->BytesIn w a bs->(∀j,bs.getD j 0<256)->Calls Tryz.prog 166 #[.slice a n cap] w fun e w'=>Z8h w bs n e w')/\
 (∀(a:Option Addr) (n cap:Nat) (w:World),6000<n->n<=9223372036854775807->Calls Tryz.prog 166 #[.slice a n cap] w fun e w'=>e=.returned (.tuple #[.slice none 0 0,.int .i64 0,.slice none 0 0,.int .i64 2])/\w'=w)
end Go.Proofs.YtleocpdblhbimaaGreatDoor
