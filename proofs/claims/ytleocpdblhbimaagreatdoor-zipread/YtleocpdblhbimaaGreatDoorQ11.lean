import Derived.OwnWalk
import Derived.Laws.CopyOwn
import Derived.Laws.BitsAllLaws
import Derived.Deep.RegionHeld3
import Derived.Test.YtleocpdblhbimaaGreatDoorQ4
set_option linter.unusedSimpArgs false
set_option linter.unusedVariables false
set_option maxRecDepth 100000
set_option maxHeartbeats 2000000
namespace Go.Proofs.YtleocpdblhbimaaGreatDoor
open Go.RowKit
def CutAt (d:Nat->Int×Int)(n c:Nat):Prop:=∀i j,i<c->c<=j->j<n->(d i).2<(d j).2
theorem CutAt.moved {d d':Nat->Int×Int}{n c p q:Nat}(O:CutAt d n c)(F:Stab.Moved p q d d')(ae:q<=n)(af:c<=p\/q<=c):CutAt d' n c:=by
 intro i j hi Z hn
 have aa:∃G,G<c/\d G=d' i:=by
  by_cases e:p<=i/\i<q
  . obtain⟨k,k1,k2,H⟩:=F.mem e.1 e.2;exact⟨k,by omega,H⟩
  . exact⟨i,hi,(F.out i (by omega)).symm⟩
 have M:∃E,c<=E/\E<n/\d E=d' j:=by
  by_cases e:p<=j/\j<q
  . obtain⟨k,k1,k2,H⟩:=F.mem e.1 e.2;exact⟨k,by omega,by omega,H⟩
  . exact⟨j,Z,hn,(F.out j (by omega)).symm⟩
 obtain⟨G,U,I⟩:=aa;obtain⟨E,ac,Y,T⟩:=M;rw[<-I,<-T];exact O G E U ac Y
def RW (d:Nat->Int×Int)(a b:Nat):Prop:=∀i j,a<=i->i<j->j<b->(d i).2<(d j).2
def Jq (d:Nat->Int×Int)(n B:Nat):Prop:=∀s,Stab.Srt Stab.lx d (s*B) (min (s*B+B) n)
def Cuts (d:Nat->Int×Int)(n B:Nat):Prop:=∀s,CutAt d n (s*B)
structure Part (d dk:Nat->Int×Int)(n X t:Nat):Prop where
 srt:∀s,s<t->Stab.Srt Stab.lx d (s*X) (s*X+X)
 rest:∀k,t*X<=k->d k=dk k
 cuts:Cuts d n X
theorem DW {s t:Nat}(X:Nat)(E:s<t):s*X+X<=t*X:=by
 have:=YZ X (show s+1<=t from E)
 rwa [ZD]at this
theorem Z7b {s t:Nat}(X:Nat)(E:s<=t):s*X<=t*X:=YZ X E
theorem DL (s t X n:Nat):s*X<=t*X\/t*X+X<=s*X:=by
 by_cases h:s<=t
 . exact .inl (Z7b X h)
 . exact .inr (DW X (by omega))
theorem Part.step {d G d':Nat->Int×Int}{n X t:Nat}(E:Part d G n X t)(M:t*X+X<=n)(F:Stab.Moved (t*X) (t*X+X) d d')(I:Stab.Srt Stab.lx d' (t*X) (t*X+X)):Part d' G n X (t+1):=by
 refine⟨fun s T=> ?_,fun k H=> ?_,fun s=>(E.cuts s).moved F M (DL s t X n)⟩
 . by_cases e:s=t
   . subst e;exact I
   . have:=DW X (show s<t by omega)
     exact(E.srt s (by omega)).congr (fun k U O=>F.out k (by omega))
 . rw[ZD]at H;rw[F.out k (by omega)];exact E.rest k (by omega)
theorem Part.last {d O d':Nat->Int×Int}{n X t:Nat}(E:Part d O n X t)(I:t*X<=n)(G:n<=t*X+X)(F:Stab.Moved (t*X) n d d')(H:Stab.Srt Stab.lx d' (t*X) n):Jq d' n X/\Cuts d' n X:=by
 refine⟨fun s=> ?_,fun s=> ?_⟩
 . rcases ZR s t with e|e|e
   . have:=DW X e
     rw[YP (by omega)];exact(E.srt s e).congr (fun k I G=>F.out k (by omega))
   . subst e;rw[YG G];exact H
   . have:=DW X e
     intro i j hi T M;have:j<n:=VG M (Nat.min_le_right _ _)
     omega
 . rcases DL s t X n with e|e
   . exact(E.cuts s).moved F (VB _) (.inl e)
   . exact(E.cuts s).moved F (VB _) (.inr (by omega))
theorem On {d F:Nat->Int×Int}{n B t e:Nat}(G:Jq F n B)(T:Cuts F n B)(E:∀k,t*(2*B)<=k->d k=F k)(Z:t*(2*B)+B<e)(Y:e<=t*(2*B)+2*B)(U:e<=n)(O:e=n\/e=t*(2*B)+2*B):
 Stab.Srt Stab.lx d (t*(2*B)) (t*(2*B)+B)/\Stab.Srt Stab.lx d (t*(2*B)+B) e/\Stab.Cross d (t*(2*B)) (t*(2*B)+B) e:=by
 have H:(2*t)*B=t*(2*B):=by rw[YF 2 t,XY]
 have e2:(2*t+1)*B=t*(2*B)+B:=by rw[ZD,H]
 have b1:=G (2*t);have b2:=G (2*t+1);have c:=T (2*t+1);rw[H,YP (by omega)]at b1;rw[e2]at b2 c;generalize t*(2*B)=a at*;refine⟨b1.congr (fun k h _=>E k h), ?_,fun i j hi I M aa=> ?_⟩
 . refine Stab.Srt.congr (d:=F) (b2.sub (VB _) ?_) (fun k h _=>E k (by omega))
   rcases O with rfl|rfl
   . exact Nat.le_min.2 ⟨by omega,VB _⟩
   . exact Nat.le_min.2 ⟨by omega,U⟩
 . rw[E i hi,E j (by omega)];exact c i j I M (by omega)
theorem MY {d F:Nat->Int×Int}{n B t:Nat}(G:Jq F n B)(H:∀k,t*(2*B)<=k->d k=F k)(E:n<=t*(2*B)+B):Stab.Srt Stab.lx d (t*(2*B)) n:=by
 have I:(2*t)*B=t*(2*B):=by rw[YF 2 t,XY]
 have b1:=G (2*t);rw[I,YG E]at b1;exact b1.congr (fun k E _=>H k E)
theorem Cuts.double {d:Nat->Int×Int}{n B:Nat}(E:Cuts d n B):Cuts d n (2*B):=fun s=>by
 have e:s*(2*B)=(2*s)*B:=by rw[YF 2 s,XY]
 rw[e];exact E (2*s)
def Kl (l:List Int):Nat->Nat
 |0=>0
 |k+1=>Kl l k+(if 0<l.getD k 0 then 2^(15-(l.getD k 0).toNat)else 0)
theorem BN (l:List Int):∀k,Kl l k<=32768*k
 |0=>by simp[Kl]
 |k+1=>by
  have ih:=BN l k
  have:2^(15-(l.getD k 0).toNat)<=32768:=by
   have:=VO (n:=2) (by decide) (show 15-(l.getD k 0).toNat<=15 by omega)
   omega
  rw[Kl]
  split<;>omega
theorem Ht (l:List Int)(E:∀j,j<l.length->0<=l.getD j 0/\l.getD j 0<=15):∀k,k<=l.length->Kl l k=takenN (cnt (l.take k)) 15
 |0,_=>by
  show 0=takenN (cnt []) 15
  decide
 |k+1,hk=>by
  have ih:=Ht l E k (by omega);have F:k<l.length:=by omega
  obtain⟨m,hm⟩:=WF (E k F).1;have H:=(E k F).2;rw[Kl,ih,<-Ih l F hm,hm];rw[hm]at H
  by_cases G:m=0
  . subst G;rw[Nd];simp
  . rw[Qg _ m (by omega) (by omega) 15 (by omega),if_pos (show (0:Int)<(m:Int) by omega),if_pos (by omega),WM]
theorem Z01 (m:Nat)(G:m<=15):(32768:Int)/2^m=((2^(15-m):Nat):Int):=by
 have h:(2:Nat)^(15-m)*2^m=32768:=by rw[<-Nat.pow_add,show 15-m+m=15 by omega]
 have E:((2^(15-m):Nat):Int)*((2^m:Nat):Int)=32768:=by exact_mod_cast h
 have F:(0:Int)<((2^m:Nat):Int):=by exact_mod_cast Nat.pow_pos (n:=m) (show 0<2 by decide)
 have e:(2:Int)^m=((2^m:Nat):Int):=by push_cast;rfl
 rw[e,<-E,Int.mul_ediv_cancel _ (by omega)]
theorem Z05 (a:Option Addr)(E Z:Nat)(l:List Int)(w:World)(Y:l.length=E)(aj:E<=288)(T:RowIn .i64 w a l)(H:∀j,j<l.length->0<=l.getD j 0/\l.getD j 0<=15):
 Calls Tryz.prog 161 #[.slice a E Z] w fun e w'=>e=.returned (.int .i64 ((takenN (cnt l) 15:Nat):Int))/\w'=w:=by
 have ae:=Ab T;have O:=Ab H
 have U:Hid (Kl l E=takenN (cnt l) 15):=by
  have:=Ht l H l.length (VB _)
  rw[ZK]at this;rw[<-Y];exact this
 clear T H;go_enter Tryz.func161,Tryz.ntmps161
 go_wp2;go_loop [3,8] (fun s i=>∃k:Nat,k<=E/\i=.int .i64 (k:Int)/\s=.int .i64 ((Kl l k:Nat):Int)) (fun _ i=>E-(intOf i).toNat)
 case atStart=>exact⟨0,VH _,rfl,rfl⟩
 case round=>
  obtain⟨k,ak,rfl,rfl⟩:=hrel
  by_cases ag:k<E
  . have G:k<l.length:=by omega
    obtain⟨b,o,rfl,hb,M⟩:∃b o,a=some ⟨b,o,none⟩/\b<w.heap.size/\Row .i64 w b o l:=by
     rcases Aa ae with rfl|h
     . simp at G
     . exact h
    have c1:=M k G;obtain⟨m,hm⟩:=WF (Aa O k G).1;have aa:=(Aa O k G).2;have F:Hid (Kl l (k+1)=Kl l k+(if 0<l.getD k 0 then 2^(15-(l.getD k 0).toNat)else 0)):=rfl;have af:=BN l k;rw[hm]at c1 aa F;rw[WM]at F;have ac:m<=15:=by omega
    have ai:=Z01 m ac
    have ah:2^(15-m)<=32768:=by
     have:=VO (n:=2) (by decide) (show 15-m<=15 by omega)
     omega
    clear M hm;generalize Kl l k=u at*;generalize 2^(15-m)=z at*
    by_cases I:(0:Int)<(m:Int)
    . rw[if_pos I]at F;go_wp2;go_round
      case rel=>exact⟨k+1,by omega,by go_num,by rw[Aa F];go_num⟩
      case measure=>simp[intOf];omega
    . rw[if_neg I]at F;go_wp2;go_round
      case rel=>exact⟨k+1,by omega,by go_num,by rw[Aa F];rfl⟩
      case measure=>simp[intOf];omega
  . obtain rfl:k=E:=by omega
    go_wp2;go_ret;exact⟨Dd (by rw[Aa U]),rfl⟩
theorem Ff (a:Option Addr)(E Y:Nat)(l:List Int)(w:World)(U:l.length=E)(av:E<=9223372036854775807)(G:RowIn .i64 w a l):
 Calls Tryz.prog 124 #[.slice a E Y] w fun e w'=>e=.returned (.int .i64 (errL l))/\w'=w:=by
 by_cases hm:288<E
 . have e:errL l=2:=by unfold errL;rw[if_pos (by omega)]
   rw[e];clear e G;go_enter Tryz.func124,Tryz.ntmps124
   go_wp2;go_ret;exact⟨rfl,rfl⟩
 . rcases Ml (fun j=>Rc (l.getD j 0)) E with F|⟨M,aw,T,F⟩
   . have hn:¬ ∃j,j<l.length/\Rc (l.getD j 0)=false:=by
      rintro ⟨j,H,e⟩;have:=F j (by omega)
      simp only[e]at this
      cases this
     have e:errL l=if 32768<takenN (cnt l) 15 then 8 else 0:=by unfold errL;rw[if_neg (by omega),if_neg hn]
     have aj:=Ab (Z05 a E Y l w U (by omega) G (fun j H=>Dw (F j (by omega))));have ar:=Ab G;have al:Hid (∀j,j<E->0<=l.getD j 0/\l.getD j 0<=15):=fun j H=>Dw (F j H)
     rw[e];clear G F hn e;go_enter Tryz.func124,Tryz.ntmps124
     go_wp2;go_loop [10] (fun i=>∃k:Nat,k<=E/\i=.int .i64 (k:Int)) (fun i=>E-(intOf i).toNat)
     case atStart=>exact⟨0,VH _,rfl⟩
     case round=>
      obtain⟨k,ao,rfl⟩:=hrel
      by_cases O:k<E
      . have ac:k<l.length:=by omega
        obtain⟨b,o,rfl,hb,I⟩:∃b o,a=some ⟨b,o,none⟩/\b<w.heap.size/\Row .i64 w b o l:=by
         rcases Aa ar with rfl|h
         . simp at ac
         . exact h
        have c1:=I k ac;obtain⟨ae,Z⟩:=Aa al k O;clear I;generalize l.getD k 0=x at*;have ak:¬x<0:=by omega
        have ai:¬15<x:=by omega
        go_wp2;go_round
        case rel=>exact⟨k+1,by omega,by go_num⟩
        case measure=>simp[intOf];omega
      . obtain rfl:k=E:=by omega
        go_wp2_with fail
        refine(Aa aj).mono ?_;rintro e au ⟨rfl,rfl⟩
        by_cases aa:32768<takenN (cnt l) 15
        . go_wp2;go_ret;exact⟨by first|rfl|(rw[if_pos aa];rfl),rfl⟩
        . go_wp2;go_ret;exact⟨by first|rfl|(rw[if_neg aa];rfl),rfl⟩
   . have e:errL l=3:=by unfold errL;rw[if_neg (by omega),if_pos ⟨M,by omega,T⟩]
     rw[e]
     obtain⟨b,o,rfl,hb,I⟩:∃b o,a=some ⟨b,o,none⟩/\b<w.heap.size/\Row .i64 w b o l:=by
      rcases G with rfl|h
      . simp at U;omega
      . exact h
     have ah:=Ab I;have ag:Hid (∀j,j<M->0<=l.getD j 0/\l.getD j 0<=15):=fun j H=>Dw (F j H)
     have ap:=Ab (Hw T);clear G F T e I;go_enter Tryz.func124,Tryz.ntmps124
     go_wp2;go_loop [10] (fun i=>∃k:Nat,k<=M/\i=.int .i64 (k:Int)) (fun i=>E-(intOf i).toNat)
     case atStart=>exact⟨0,VH _,rfl⟩
     case round=>
      obtain⟨k,ao,rfl⟩:=hrel;have c1:=Aa ah k (by omega)
      by_cases O:k<M
      . obtain⟨ae,Z⟩:=Aa ag k O;generalize l.getD k 0=x at*;have ak:¬x<0:=by omega
        have ai:¬15<x:=by omega
        go_wp2;go_round
        case rel=>exact⟨k+1,by omega,by go_num⟩
        case measure=>simp[intOf];omega
      . obtain rfl:k=M:=by omega
        have af:=Aa ap;generalize l.getD k 0=x at*
        by_cases ae:x<0
        . clear af;go_wp2;go_ret;exact⟨rfl,rfl⟩
        . have Z:15<x:=by omega
          clear af;go_wp2;go_ret;exact⟨rfl,rfl⟩
theorem CX:∀n c E,c<2^n->E<2^n->hb c n=hb E n->c=E
 |0,c,E,h,h',_=>by simp at h h';omega
 |n+1,c,E,h,h',e=>by
  rw[XC]at h h';rw[hb,hb]at e;have F:=List.append_inj e (by rw[Bd,Bd]);have e2:=CX n (c/2) (E/2) (by omega) (by omega) F.1;have e3:decide (c%2=1)=decide (E%2=1):=by simpa using F.2
  have G:(c%2=1↔E%2=1):=by simpa using e3
  omega
theorem Sr (l:List Int)(E:Good l)(s:List Bool)(T:s≠ [])(q q':Nat)(G:q<l.length)(H:q'<l.length)(e:codeT l q=s)(O:codeT l q'=s):q=q':=by
 obtain⟨m,hm⟩:=WF (E.ok q G).1;obtain⟨Z,I⟩:=WF (E.ok q' H).1;have hl:=congrArg List.length (e.trans O.symm)
 have F:0<m:=by
  by_cases h:m=0
  . subst h;unfold codeT at e;rw[hm]at e;exact absurd e.symm T
  . omega
 have M:=e.trans O.symm;unfold codeT at hl M;rw[hm,I,WM,WM]at hl M;rw[Bd,Bd]at hl;subst hl
 by_cases h:q=q'
 . exact h
 . have Y:=(Ig l E G hm F).2.2;have U:=(Ig l E H I F).2.2;have:=V1 l E G H hm I h F (VB _)
   rw[XW,Nat.pow_zero,Nat.div_one]at this;exact absurd (CX m _ _ U Y M.symm) this
theorem Pc (l:List Int)(row:List Bool)(p:Nat):∀k f,(∀j,1<=j->j<=k->¬row.length<p+j/\Ok l ((row.drop p).take j)=none)->∀n,n+k=k+1->Ej l row p (k+f) n=Ej l row p f (n+k)
 |0,f,_,n,_=>by simp
 |k+1,f,h,n,hn=>by
  have e:=Pc l row p k (f+1) (fun j E H=>h j E (by omega)) n (by omega);rw[show k+1+f=k+(f+1) by omega,e];obtain rfl:n=1:=by omega
  obtain⟨G,F⟩:=h (k+1) (by omega) (VB _);rw[Ej,show 1+k=k+1 by omega,if_neg G,F,show 1+(k+1)=k+1+1 by omega]
theorem Za (n:Nat):(Builtin.zeroCells (Value.int .i64 0).cells n).toList=iv (List.replicate n 0):=by
 show (Builtin.zeroCells #[Value.int .i64 0] n).toList=_
 unfold Builtin.zeroCells;apply List.ext_getElem?
 intro i
 by_cases h:i<n
 . simp[h,Nat.mod_one]
 . simp[h]
theorem Qq (w:World)(I:TypeId)(n:Nat)(U:0<n)(ag:n<=100000):
 ∃c w',(Builtin.append_ #[76,3] I #[.slice none 0 0,.int .i64 (n:Int)]).run Tryz.prog w=.ok (.slice (some ⟨w.heap.size,0,none⟩) n c) w'/\n<=c/\c<=maxLen/\w'.heap[w.heap.size]? =some (.cells (iv (List.replicate c 0)).toArray 3 (0,0))/\w.grownBy w' none:=by
 obtain⟨af,hi,T,O,Z⟩:=info_parts Bv;have ae:=grownCap_ge w n 0 3;have aa:=grownCap_le_maxLen w n 0 3 (by unfold maxLen;omega);have M:n≠0:=by omega
 have F:¬(9223372036854775807<(n:Int)):=by omega
 have ac:¬((n:Int)<0):=by omega
 have E:¬(281474976710656<(n:Int)*8):=by omega
 have H:¬(281474976710656<Builtin.nextslicecap n 0*8):=by rw[nextslicecap_zero U];omega
 have Y:IntKind.i64.wrap (n:Int)=(n:Int):=by simp[IntKind.wrap,IntKind.signed,IntKind.bits];omega
 refine⟨grownCap w n 0 3,w.drew.alloc (.cells (Builtin.zeroCells (Value.int .i64 0).cells n++Builtin.zeroCells (Value.int .i64 0).cells (grownCap w n 0 3-n)) 3), ?_,ae,aa, ?_, ?_⟩
 . simp[Builtin.append_,run_underlying Tryz.underlying76,run_underlying Tryz.underlying3,sizeOf,typeInfo,zeroValue,hi,T,O,Z,asInt,asIntOf,Y,ac,E,M,F,H,Question.forced,run_firstCells_none,newRow,grownCap]
 . have:=heap_alloc_new w.drew (.cells (Builtin.zeroCells (Value.int .i64 0).cells n++Builtin.zeroCells (Value.int .i64 0).cells (grownCap w n 0 3-n)) 3)
   rw[show w.drew.heap.size=w.heap.size from rfl]at this;rw[this]
   congr 2
   apply Array.ext'
   rw[Array.toList_append,Za,Za];show _=iv (List.replicate (grownCap w n 0 3) 0)
   unfold iv;rw[<-WU,List.replicate_append_replicate]
   congr 2
   omega
 . exact⟨rfl,rfl,rfl,by simp,fun k G _=>Below.heap_alloc w.drew _ k G⟩
theorem La (w:World){E:Array Oper}{F:List Oper}{o:Oper}{a:Act}{Q:Exit->Act->World->Prop}(Y:o.guard=none)(s x:Operand)
 (G:o.op=.call {callee:=.builtin .append,args:= #[s,x],argTypes:= #[76,3]}) (n:Nat) (O:a.eval s=.slice none 0 0) (U:a.eval x=.int .i64 (n:Int)) (aa:0<n) (ac:n<=100000)
 (I:∀c w',n<=c->c<=maxLen->w'.heap[w.heap.size]? =some (.cells (iv (List.replicate c 0)).toArray 3 (0,0))->w.grownBy w' none->wpList Tryz.prog E Q F (a.put o.dst (.slice (some ⟨w.heap.size,0,none⟩) n c)) w'):
 wpList Tryz.prog E Q (o::F) a w:=by
 refine wpList_plain Y fun K hK=> ?_
 obtain⟨c,w',hr,H,Z,T,M⟩:=Qq w o.type n aa ac;unfold Oper.wp execOp;simp only[G,resolve,invoke,builtin,Sem.run_bind,Sem.run_pure,Result.andThen_ok,ZL,WQ,ZE,O,U,hr];exact hK _ _ (I c w' H Z T M)
theorem Z1i (n:Nat)(w:World)(M:0<n)(T:n<=100000):Calls Tryz.prog 159 #[.slice none 0 0,.int .i64 (n:Int)] w fun e w'=>∃c,e=.returned (.slice (some ⟨w.heap.size,0,none⟩) 0 c)/\w'.ownsRow w.heap.size 3 1 (.slice (some ⟨w.heap.size,0,none⟩) 0 c) 0 (iv [])/\Below w.heap.size w w':=by
 go_enter Tryz.func159,Tryz.ntmps159
 go_wp2_with (refine La w rfl (.tmp 20) (.tmp 21) rfl n rfl rfl M T ?_)
 intro c H U G F E;have I:=Ab (Hq (Below.refl w.heap.size w) E (VB _));have O:Hid (H.ownsRow w.heap.size 3 1 (.slice (some ⟨w.heap.size,0,none⟩) 0 c) 0 (iv [])):=⟨rfl,.inr ⟨w.heap.size,c,_,rfl,VB _,F,VH _,G,by simp,rfl⟩⟩
 clear F E;go_wp2;go_ret;exact⟨c,rfl,Aa O,Aa I⟩
def Jp (ps:List (Nat×List Int)):Nat->List Int
 |0=> []
 |k+1=>Jp ps k++(ps.getD k (0,[])).2
theorem C2 {w:World}{F:Nat}{xs:List Int}(G:RowIn .i64 w (some ⟨F,0,none⟩) xs):∀j u,(iv xs)[j]? =some u->w.cell? ((⟨F,0,none⟩:Addr).add j)=some u:=by
 intro j u E;have e:(⟨F,0,none⟩:Addr).add j=⟨F,j,none⟩:=by unfold Addr.add;split<;>simp_all
 rcases G with rfl|⟨b,o,I,_,G⟩
 . simp at E
 . cases I
   have H:j<xs.length:=by
    by_cases c:j<xs.length
    . exact c
    . rw[WJ (by simp;omega)]at E;cases E
   have:=G j H
   rw[e];simp[H]at E
   subst E;simpa[List.getD,H]using this
theorem OC (xs:List Int):∀u∈iv xs,u.oneCell'=true:=by intro u E;obtain⟨x,_,rfl⟩:=XG.1 E;rfl
theorem Vx (b o F a3:Nat)(U:Nat->Nat)(E:List (Nat×List Int))(w:World)(a9:b<w.heap.size)(az:∀j,j<F->w.cell? ⟨b,o+j,none⟩=some (.slice (some ⟨(E.getD j (0,[])).1,0,none⟩) (E.getD j (0,[])).2.length (U j)))(ax:∀j,j<F->RowIn .i64 w (some ⟨(E.getD j (0,[])).1,0,none⟩) (E.getD j (0,[])).2)
 (Y:∀k,k<=F->(Jp E k).length<=1000) (bg:0<(Jp E F).length) (bo:F<=100):
 Calls Tryz.prog 122 #[.slice (some ⟨b,o,none⟩) F a3] w fun e w'=>∃v,e=.returned v/\w'.ownsRow w.heap.size 3 1 v (Jp E F).length (iv (Jp E F))/\Below w.heap.size w w':=by
 obtain⟨a2,hi,bc,bh,bf⟩:=info_parts Bv;have ah:=Ab az;have bk:=Ab ax;have ai:=Ab Y;obtain⟨T,ak⟩:=exq ((Jp E F).length);have af:0<T/\T<=1000:=by have:=Y F (VB _);omega
 obtain⟨bj,af⟩:=af;have bi:=Ab ak;clear az ax Y bg ak;go_enter Tryz.func122,Tryz.ntmps122
 go_wp2;go_loop [3,11] (fun a5 O=>∃k:Nat,k<=F/\O=.int .i64 (k:Int)/\a5=.int .i64 ((Jp E k).length:Int)) (fun _ O=>F-(intOf O).toNat)
 case atStart=>exact⟨0,VH _,rfl,rfl⟩
 case round=>
  obtain⟨k,bu,rfl,rfl⟩:=hrel
  by_cases a6:k<F
  . have c1:=Aa ah k a6;have I:=Aa ai (k+1) (by omega);have H:Hid ((Jp E (k+1)).length=(Jp E k).length+(E.getD k (0,[])).2.length):=Ab (by rw[Jp,VE]);rw[Aa H]at I;generalize (E.getD k (0,[])).2.length=m at*;generalize U k=al at*;generalize (E.getD k (0,[])).1=g at*;generalize (Jp E k).length=L at*;go_wp2;go_round
    case rel=>exact⟨k+1,by omega,by go_num,by rw[Aa H];go_num⟩
    case measure=>simp[intOf];omega
  . obtain rfl:F=k:=by omega
    rw[Aa bi];go_wp2_with fail
    refine(Z1i T w bj (by omega)).mono ?_;rintro e bm ⟨c,rfl,ay,ao⟩;have a8:=Ab ay;have a7:=Ab ao;clear ay ao;go_wp2;go_loopw [6,27] (fun ba aa wr=>∃k:Nat,k<=F/\aa=.int .i64 (k:Int)/\wr.ownsRow w.heap.size 3 1 ba (Jp E k).length (iv (Jp E k))/\Below w.heap.size w wr) (fun _ aa _=>F-(intOf aa).toNat)
    case atStart=>exact⟨0,VH _,rfl,Aa a8,Aa a7⟩
    case round=>
     obtain⟨k,bn,rfl,ac,G⟩:=hrel;have M:=Ab ac;have ap:=Ab G;have bq:=G.size
     by_cases ae:k<F
     . have c1:=(G.cell (p:=⟨b,o+k,none⟩) a9).trans (Aa ah k ae);have au:=(Aa bk k ae).below G (VB _);have ag:=Ab (C2 au);have I:=Aa ai (k+1) (by omega);have H:Hid (Jp E (k+1)=Jp E k++(E.getD k (0,[])).2):=Ab rfl;rw[Aa H,VE]at I;generalize (E.getD k (0,[])).2=xs at*;generalize (E.getD k (0,[])).1=g at*;generalize U k=al at*;obtain⟨m,hm⟩:=exq (xs.length);obtain⟨L,Z⟩:=exq ((Jp E k).length);rw[hm]at c1 I;rw[Z]at I M;have aj:=Ab hm;have a1:=Ab Z;clear ac G au hm Z;go_wp2_with (at_builtin;refine wpList_append_own_at _ rfl _ _ 76 rfl w.heap.size 3 a2 (.int .i64 0) 1 8 Tryz.underlying76 hi bc bh bf rfl (by decide) u6 L (iv (Jp E k)) rfl (Aa M) ⟨g,0,none⟩ m al (iv xs) rfl (by rw[WL,Aa aj,Nat.mul_one]) (Aa ag) (OC xs) (by unfold maxLen;omega) (by omega) (by omega) ?_)
       intro v' av aw ar _ bb
       have bd:Hid (av.ownsRow w.heap.size 3 1 v' (Jp E (k+1)).length (iv (Jp E (k+1)))):=by
        rw[Aa H,VE,Aa a1,Aa aj];show av.ownsRow w.heap.size 3 1 v' (L+m) (List.map (Value.int .i64) (Jp E k++xs))
        rw[WU];exact aw
       have a4:=Ab ((Aa ap).grown ar (by omega) (fun g e=>((Aa M).lt g e).1));clear aw ar bb c1 ag;go_wp2;go_roundw
       case rel=>exact⟨k+1,by omega,by go_num,Aa bd,Aa a4⟩
       case measure=>simp[intOf];omega
     . obtain rfl:F=k:=by omega
       clear ac G;go_wp2;go_ret;exact⟨u6,rfl,Aa M,Aa ap⟩
theorem IX (b o F G:Nat)(E:List (Nat×List Int))(w:World)(I:b<w.heap.size)(T:∀j,j<F->w.cell? ⟨b,o+j,none⟩=some (.slice (some ⟨(E.getD j (0,[])).1,0,none⟩) (E.getD j (0,[])).2.length (E.getD j (0,[])).2.length))(M:∀j,j<F->RowIn .i64 w (some ⟨(E.getD j (0,[])).1,0,none⟩) (E.getD j (0,[])).2)
 (O:∀k,k<=F->(Jp E k).length<=1000) (U:0<(Jp E F).length) (H:F<=100):
 Calls Tryz.prog 122 #[.slice (some ⟨b,o,none⟩) F G] w fun e w'=>∃v,e=.returned v/\w'.ownsRow w.heap.size 3 1 v (Jp E F).length (iv (Jp E F))/\Below w.heap.size w w':=Vx b o F G (fun j=>(E.getD j (0,[])).2.length) E w I T M O U H
theorem NQ (n:Nat)(E:n<4294967296):bits .and .u64 (n:Int) 4294967295=(n:Int):=by
 have h:=u64_and_nat n 4294967295 (by omega) (by omega)
 have e:n&&&4294967295=n:=by
  rw[show (4294967295:Nat)=2^32-1 by rfl,Nat.and_two_pow_sub_one_eq_mod];exact ZJ E
 rw[e]at h;simpa using h
theorem NN (n:Nat)(w:World)(E:n<4294967296):Calls Tryz.prog 194 #[.int .u64 1,.int .u64 (n:Int)] w fun e w'=>e=.returned (.tuple #[.int .u64 0,.int .u64 (n:Int)])/\w'=w:=by
 have M:bits .and .u64 1 4294967295=1:=by simpa using NQ 1 (by omega)
 have F:bits .and .u64 0 4294967295=0:=by simpa using NQ 0 (by omega)
 have H:=NQ n E;have G:(n:Int)/4294967296=0:=by omega
 have I:IntKind.u64.wrap (n:Int)=(n:Int):=by simp[IntKind.wrap,IntKind.signed,IntKind.bits];omega
 have O:IntKind.u64.wrap 0=0:=by decide
 go_enter Tryz.func194,Tryz.ntmps194
 go_wp2;go_ret2;exact⟨rfl,rfl⟩
theorem mul_one (n:Nat)(w:World)(E:n<4294967296):Calls Tryz.prog 160 #[.int .u64 1,.int .u64 (n:Int)] w fun e w'=>e=.returned (.tuple #[.int .u64 0,.int .u64 (n:Int)])/\w'=w:=by
 go_enter Tryz.func160,Tryz.ntmps160
 go_wp2_with fail
 refine(NN n w E).mono ?_;rintro e w' ⟨rfl,rfl⟩;go_wp2;go_ret2;exact⟨rfl,rfl⟩
def Uw (x:Int)(c n:Nat):List Value:=iv (List.replicate c x++List.replicate (n-c) 0)
theorem Qv (x:Int)(c n:Nat)(E:c<=n):(Uw x c n).length=n:=by simp[Uw];omega
theorem Qu (x:Int)(c d n:Nat)(E:c+d<=n):splice (Uw x c n) c (iv (List.replicate d x))=Uw x (c+d) n:=by
 unfold splice Uw iv;rw[WU,YS (by simp),WL,XD]
 have e:List.drop (c+d) (List.map (Value.int .i64) (List.replicate c x)++List.map (Value.int .i64) (List.replicate (n-c) 0))=List.map (Value.int .i64) (List.replicate (n-(c+d)) 0):=by
  rw[List.drop_append];simp
  omega
 rw[e,<-VS,<-WU,<-WU]
 congr 2
 rw[List.replicate_append_replicate]
theorem LY {w:World}{E n c:Nat}{x:Int}(H:w.heap[E]? =some (.cells (Uw x c n).toArray 3 (0,0)))(d:Nat)(M:d<=c):∀j v,(iv (List.replicate d x))[j]? =some v->w.cell? ((⟨E,0,none⟩:Addr).add j)=some v:=by
 intro j v F;have e:(⟨E,0,none⟩:Addr).add j=⟨E,j,none⟩:=by unfold Addr.add;split<;>simp_all
 rw[e,cell_of_row w E j _ _ _ H]
 have I:j<d:=by
  by_cases G:j<d
  . exact G
  . rw[WJ (by simp;omega)]at F;cases F
 simp[I]at F
 subst F;simp[Uw,List.getElem?_append,show j<c by omega]
theorem FK (b o ag:Nat)(x:Int)(n:Nat)(w:World)(b4:b<w.heap.size)(az:w.cell? ⟨b,o,none⟩=some (.int .i64 x))(bn:1<=n)(ci:n<=1000):
 Calls Tryz.prog 123 #[.slice (some ⟨b,o,none⟩) 1 ag,.int .i64 (n:Int)] w fun e w'=>e=.returned (.slice (some ⟨w.heap.size,0,none⟩) n n)/\w'.heap[w.heap.size]? =some (.cells (Uw x n n).toArray 3 (0,0))/\Below w.heap.size w w':=by
 obtain⟨a2,hi,bf,ax,bh⟩:=info_parts Bv;have Y:(Tryz.prog.info? 3).map (·.size)=some 1:=by rw[hi];simp[ax]
 have cg:IntKind.u64.wrap (n:Int)=(n:Int):=by simp[IntKind.wrap,IntKind.signed,IntKind.bits];omega
 have bw:IntKind.u64.wrap 1=1:=by decide
 go_enter Tryz.func123,Tryz.ntmps123
 go_wp2_with fail
 refine(mul_one n w (by omega)).mono ?_;rintro e E ⟨rfl,rfl⟩;go_wp2_with (at_make;refine wpList_make_full _ rfl _ _ 76 rfl E.heap.size 3 a2 (.int .i64 0) 1 Tryz.underlying76 hi bf ax _ _ _ _ n rfl rfl rfl rfl (by rw[bh];omega) (by unfold maxLen;omega) (VB _) ?_)
 intro M ay I
 have ao:M.heap[E.heap.size]? =some (.cells (Uw x 0 n).toArray 3 (0,0)):=by
  rcases ay.2 with ⟨h,_⟩|⟨g,cap,cur,h,_,bu,b9,bz,ba,ai⟩
  . cases h
  . simp only[Value.slice.injEq,YB,Addr.mk.injEq]at h;obtain⟨⟨rfl,_⟩,_,rfl⟩:=h;rw[bu]
    congr 2
    have bb:cur.toList.take (n*1)=cur.toList:=VV (by simp[ba]);rw[bb]at ai
    have e2:cur.toList=Uw x 0 n:=by
     rw[ai];show (madeCells #[Value.int .i64 0] n).toList=_
     rw[toList_madeCells_one];simp[Uw]
    rw[<-e2]
 have a8:=Ab ao;have a9:=Ab (Hq (Below.refl E.heap.size E) I (VB _));have aa:M.cell? ⟨b,o,none⟩=some (.int .i64 x):=I.cell az (by simp);have bv:=I.size;clear ay I ao az
 have al:∀j v,(iv (List.replicate 1 x))[j]? =some v->M.cell? ((⟨b,o,none⟩:Addr).add j)=some v:=by
  intro j v G
  match j,G with
  |0,G=>
   simp at G
   subst G;simpa[Addr.add]using aa
 have aj:(iv (List.replicate 1 x)).length=Nat.min 1 n:=by
  show 1=min 1 n
  omega
 have ah:0+(iv (List.replicate 1 x)).length<=(Uw x 0 n).length:=by
  rw[Qv x 0 n (VH _)];show 0+1<=n
  omega
 have hs4:∀v∈iv (List.replicate 1 x),v.oneCell'=true:=by intro v F;simp at F;subst F;rfl
 have bc:=Ab al;have bo:=Ab aj;have a6:=Ab ah;have bd:=Ab hs4;clear al aj ah hs4;go_wp2_with (refine wpList_copy_splice rfl (.tmp 31) (.tmp 32) 76 76 rfl 3 Tryz.underlying76 Y (some ⟨E.heap.size,0,none⟩) (some ⟨b,o,none⟩) n n 1 ag rfl rfl E.heap.size 0 (Uw x 0 n) 3 (Aa a8) (iv (List.replicate 1 x)) (Aa bo) (fun _=>⟨rfl,_,rfl,Aa bc⟩) (Aa a6) (Aa bd) E.heap.size E (Aa a9) (VB _) ?_)
 intro w3 ae aw
 have bj:Hid (w3.heap[E.heap.size]? =some (.cells (Uw x 1 n).toArray 3 (0,0))):=by
  have e:=Qu x 0 1 n (by omega);rw[WG]at e;rw[<-e];exact ae
 have bi:=Ab aw;clear ae aw aa;go_wp2;go_loopw [8] (fun O wr=>∃c:Nat,1<=c/\c<=n/\O=.int .i64 (c:Int)/\wr.heap[E.heap.size]? =some (.cells (Uw x c n).toArray 3 (0,0))/\Below E.heap.size E wr) (fun O _=>n-(intOf O).toNat)
 case atStart=>exact⟨1,VB _,bn,rfl,Aa bj,Aa bi⟩
 case round=>
  obtain⟨c,cd,bq,rfl,ar,au⟩:=hrel;have T:=Ab ar;have av:=Ab au;clear ar au
  by_cases b0:c<n
  . obtain⟨d,H⟩:∃d,d=Nat.min c (n-c):=⟨_,rfl⟩
    have U:d<=c/\c+d<=n/\1<=d:=by
     have b8:d=min c (n-c):=H;omega
    obtain⟨U,bg,b7⟩:=U;have b3:¬n=c:=by omega
    have b5:¬n=0:=by omega
    have ce:=Ab H;have af:(iv (List.replicate d x)).length=Nat.min c (n-c):=by simp[H]
    have ac:c+(iv (List.replicate d x)).length<=(Uw x c n).length:=by rw[Qv x c n bq];simp;omega
    have ak:∀v∈iv (List.replicate d x),v.oneCell'=true:=by intro v F;simp at F;obtain⟨_,rfl⟩:=F;rfl
    have a7:=Ab af;have bk:=Ab ac;have a5:=Ab ak;clear H af ac ak;go_wp2;go_region_held3 (fun _=>True) (trivial) (first|(refine step_copy_splice rfl (.tmp 41) (.tmp 44) 76 76 rfl 3 Tryz.underlying76 Y (some ⟨E.heap.size,c,none⟩) (some ⟨E.heap.size,0,none⟩) (n-c) (n-c) c n (by simp[Act.eval]) (by simp[Act.eval]) E.heap.size c (Uw x c n) 3 (Aa T) (iv (List.replicate d x)) (Aa a7) (fun _=>⟨rfl,_,rfl,LY (Aa T) d U⟩) (Aa bk) (Aa a5) E.heap.size E (Ae (Aa av) 1) (VB _) ?_;intro bm a1 ap))
    have a3:Hid (bm.heap[E.heap.size]? =some (.cells (Uw x (c+d) n).toArray 3 (0,0))):=by
     rw[<-Qu x c d n bg];exact a1
    have a4:=Ab ap;clear a1 ap
    have Z:IntKind.i64.wrap ((c:Int)+(d:Int))=((c+d:Nat):Int):=by
     simp[IntKind.wrap,IntKind.signed,IntKind.bits];omega
    go_wp2;go_roundw
    case rel=>exact⟨c+d,by omega,by omega,by rw[Z],Aa a3,Aa a4⟩
    case measure=>rw[Z];simp[intOf];omega
  . obtain rfl:n=c:=by omega
    go_wp2;go_ret;exact⟨rfl,Aa T,Aa av⟩
theorem FF {w:World}{E n:Nat}{x:Int}(F:w.heap[E]? =some (.cells (Uw x n n).toArray 3 (0,0))):RowIn .i64 w (some ⟨E,0,none⟩) (List.replicate n x):=by
 refine .inr ⟨E,0,rfl,(VK.1 F).1, ?_⟩;intro j H;rw[WG,cell_of_row w E j _ _ _ F];have G:j<n:=by simpa using H
 simp[Uw,List.getD,G]
theorem Fp (x:Int)(n:Nat)(w:World)(G:1<=n)(H:n<=1000):
 Calls Tryz.prog 123 #[.slice (some ⟨w.heap.size,0,none⟩) 1 1,.int .i64 (n:Int)] (w.alloc (.cells #[.int .i64 x] 3)) fun e w'=>e=.returned (.slice (some ⟨w.heap.size+1,0,none⟩) n n)/\RowIn .i64 w' (some ⟨w.heap.size+1,0,none⟩) (List.replicate n x)/\Below w.heap.size w w'/\w.heap.size+1<w'.heap.size:=by
 refine(FK w.heap.size 0 1 x n _ (by simp) (by simp) G H).mono ?_;rintro e w' ⟨rfl,E,F⟩;rw[World.size_alloc]at E F;exact⟨by rw[World.size_alloc],FF E,((Below.refl w.heap.size w).alloc (VB _) _).trans (F.mono (by omega)),(VK.1 E).1⟩
def PG (g1 g2 g3 g4:Nat):List (Nat×List Int):= [(g1,List.replicate 144 8),(g2,List.replicate 112 9),(g3,List.replicate 24 7),(g4,List.replicate 8 8)]
theorem DQ (g1 g2 E F:Nat):Jp (PG g1 g2 E F) 4=Ky:=rfl
theorem Z5f (g1 g2 F E:Nat):∀k,k<=4->(Jp (PG g1 g2 F E) k).length<=1000:=by
 intro k G
 match k,G with
 |0,_=>simp[Jp]
 |1,_=>simp[Jp,PG]
 |2,_=>simp[Jp,PG]
 |3,_=>simp[Jp,PG]
 |4,_=>simp[Jp,PG]
theorem PI (w:World):Calls Tryz.prog 94 #[] w fun e w'=>∃g1 c1 g2,e=.returned (.tuple #[.slice (some ⟨g1,0,none⟩) 288 c1,.slice (some ⟨g2,0,none⟩) 32 32])/\w.heap.size<=g1/\w.heap.size<=g2/\RowIn .i64 w' (some ⟨g1,0,none⟩) Ky/\RowIn .i64 w' (some ⟨g2,0,none⟩) Ir/\Below w.heap.size w w':=by
 go_enter Tryz.func94,Tryz.ntmps94
 go_wp2_with fail
 refine(Fp 8 144 w (by omega) (by omega)).mono ?_;rintro e ac ⟨rfl,a2,Y,b0⟩;have ak:=Ab a2;have aa:=Ab Y;have a3:=Y.size;clear a2 Y;go_wp2_with fail
 refine(Fp 9 112 ac (by omega) (by omega)).mono ?_;rintro e ae ⟨rfl,aw,G,bv⟩;have ah:=Ab ((Aa ak).below G (VB _));have ap:=Ab aw;have a8:=Ab ((Aa aa).trans (G.mono a3));have ay:=VU a3 G.size;have bz:=G.size;clear aw G ak aa;go_wp2_with fail
 refine(Fp 7 24 ae (by omega) (by omega)).mono ?_;rintro e w3 ⟨rfl,av,F,bu⟩;have a6:=Ab ((Aa ah).below F (VB _));have ax:=Ab ((Aa ap).below F (VB _));have aj:=Ab av;have a1:=Ab ((Aa a8).trans (F.mono ay));have az:=VU ay F.size;have b4:=F.size;clear av F ah ap a8;go_wp2_with fail
 refine(Fp 8 8 w3 (by omega) (by omega)).mono ?_;rintro e a7 ⟨rfl,af,E,hs4⟩;have al:=Ab ((Aa a6).below E (VB _));have a4:=Ab ((Aa ax).below E (VB _));have au:=Ab ((Aa aj).below E (VB _));have ar:=Ab af;have ag:=Ab ((Aa a1).trans (E.mono az));have bh:=VU az E.size;clear af E a6 ax aj a1;generalize bd:w.heap.size+1=g1 at*;generalize bk:ac.heap.size+1=g2 at*;generalize ba:ae.heap.size+1=g3 at*;generalize bo:w3.heap.size+1=H at*;have a9:=Ab ((Aa ag).alloc bh (.cells #[.slice (some ⟨g1,0,none⟩) 144 144,.slice (some ⟨g2,0,none⟩) 112 112,.slice (some ⟨g3,0,none⟩) 24 24,.slice (some ⟨H,0,none⟩) 8 8] 76))
 have I:=Ab (IX a7.heap.size 0 4 4 (PG g1 g2 g3 H) (a7.alloc (.cells #[.slice (some ⟨g1,0,none⟩) 144 144,.slice (some ⟨g2,0,none⟩) 112 112,.slice (some ⟨g3,0,none⟩) 24 24,.slice (some ⟨H,0,none⟩) 8 8] 76)) (by simp) (by
  intro j M
  match j,M with
  |0,_=>simp[PG]
  |1,_=>simp[PG]
  |2,_=>simp[PG]
  |3,_=>simp[PG]) (by
  intro j M
  match j,M with
  |0,_=>exact(Aa al).alloc _
  |1,_=>exact(Aa a4).alloc _
  |2,_=>exact(Aa au).alloc _
  |3,_=>exact(Aa ar).alloc _) (Z5f g1 g2 g3 H) (by rw[DQ];simp[Ky]) (by omega))
 rw[DQ]at I;have bn:Ky.length=288:=by simp[Ky]
 rw[bn]at I;clear bd bk ba bo;go_wp2_with fail
 refine(Aa I).mono ?_;rintro e Z ⟨b3,rfl,U,O⟩;obtain⟨bm,bj,rfl,bg,bw⟩:=Ba U (by omega);have a5:=Ab (RowIn.iv U);have ao:=Ab ((Aa a9).trans (O.mono (by simp;omega)));have bf:=O.size;simp only[World.size_alloc]at bf bg;clear U O I a9 al a4 au ar ag;go_wp2_with fail
 refine(Fp 5 32 Z (by omega) (by omega)).mono ?_;rintro e w6 ⟨rfl,ai,T,bq⟩;have bc:=Ab ((Aa a5).below T (VB _));have bb:Hid (RowIn .i64 w6 (some ⟨Z.heap.size+1,0,none⟩) Ir):=ai;have bi:=Ab ((Aa ao).trans (T.mono (by omega)));clear ai T a5 ao;go_wp2;go_ret2;exact⟨bm,bj,Z.heap.size+1,rfl,by omega,by omega,Aa bc,Aa bb,Aa bi⟩
abbrev Z31:Ending:=.panicked [{v:=.iface 165 (.agg #[]),recovered:=false}]
structure ZT (w:World)(b:Nat)(R:Value)(p:Nat)(w':World):Prop where
 is:w'.heap[b]? =some (.cells #[R,.int .i64 (p:Int)] 116 (0,0))
 below:Below b w w'
 keep:∀g,g≠b->g<w.heap.size->w'.heap[g]? =w.heap[g]?
theorem ZT.trans {w G H:World}{b p q:Nat}{R:Value}(E:ZT w b R p G)(k:ZT G b R q H):ZT w b R q H:=
 ⟨k.is,E.below.trans k.below,fun g I F=>(k.keep g I (VG F E.below.size)).trans (E.keep g I F)⟩
theorem ZT.drewN {w F:World}{b p:Nat}{R:Value}(E:ZT w b R p F)(q:Nat):ZT w b R p (F.drewN q):=⟨E.is,Ae E.below q,E.keep⟩
structure ZRow (w:World)(b:Nat)(a:Option Addr)(n cap:Nat)(bs:List Nat):Prop where
 len:bs.length=n
 few:n<=12000
 room:n<=cap
 nil:a=none->cap=0
 byt:BytesIn w a bs
 val:∀x∈bs,x<256
 apart:∀g o,a=some ⟨g,o,none⟩->bs≠ []->g≠b
theorem ZRow.keep {w w':World}{b n F:Nat}{a:Option Addr}{bs:List Nat}(E:ZRow w b a n F bs)(T:w.heap.size<=w'.heap.size)(H:∀g,g≠b->g<w.heap.size->w'.heap[g]? =w.heap[g]?):ZRow w' b a n F bs:=by
 refine⟨E.len,E.few,E.room,E.nil, ?_,E.val,E.apart⟩
 by_cases e:bs= []
 . exact .inl e
 . rcases E.byt with M|⟨g,o,G,hb,I⟩
   . exact absurd M e
   . exact .inr ⟨g,o,G,by omega,fun j O=>(World.cell?_of_block (w:=w) (a:=⟨g,_,none⟩) (H g (E.apart g o G e) hb)).trans (I j O)⟩
theorem ZRow.after {w w':World}{b n F p:Nat}{a:Option Addr}{bs:List Nat}{R:Value}(G:ZRow w b a n F bs)(E:ZT w b R p w'):ZRow w' b a n F bs:=G.keep E.below.size E.keep
theorem Z7k (a:Option Addr)(m n E:Nat)(I:m<=n)(M:n<=E)(W:World):(Instr.slice 23 (.slice a n E) none (some (.int .u32 (m:Int))) none).run Tryz.prog W=.ok (.slice a m E) W:=by
 have G:=Tryz.sizeOf5;have H:=Tryz.underlying23;have F:(m:Int)<=(E:Int):=by omega
 cases a<;>simp[go_sem,H,G,F]
theorem AW {n:Nat}(E:n<18446744073709551616):IntKind.u64.wrap (n:Int)=(n:Int):=by
 simp[IntKind.wrap,IntKind.bits,IntKind.signed]
 omega
theorem ZT.set {w:World}{b p q:Nat}{R:Value}(E:w.heap[b]? =some (.cells #[R,.int .i64 (p:Int)] 116 (0,0))):ZT w b R q (w.setCell ⟨b,1,none⟩ (.int .i64 (q:Int))):=by
 have hb:=(VK.1 E).1;have F:=Ad w b 1 (.int .i64 (q:Int));refine⟨by rw[heap_setCell_same w b 1 _ _ _ E];rfl,(Below.refl b w).grown F (by omega) (fun g e=>by cases e;exact VB _),fun g G H=>F.block g H (fun e=>G (VM e))⟩
theorem Z6d {w:World}{b p E n Y k:Nat}{a F:Option Addr}{bs:List Nat}(G:ZRow w b a n Y bs)(aa:p<=n)(ac:p+E<=n)(O:∀b o,a=some ⟨b,o,none⟩->p<n->F=some ⟨b,o+p,none⟩)(I:F=none->k=0):PkIn w F k ((bs.drop p).take E):=by
 refine⟨?_,I⟩
 by_cases Z:E=0
 . subst Z;exact .inl (by simp)
 . have hb:bs≠ []:=by
    intro e;have:=G.len
    rw[e]at this;simp at this
    omega
   rcases G.byt with e|⟨g,o,e,U,M⟩
   . exact absurd e hb
   . refine .inr ⟨g,o+p,O g o e (by omega),U,fun j T=> ?_⟩
     have H:j<E/\p+j<bs.length:=by
      rw[VL,VQ]at T;omega
     have e2:((bs.drop p).take E).getD j 0=bs.getD (p+j) 0:=by
      simp only[List.getD];rw[XX H.1,XJ]
     rw[e2,WT];exact M (p+j) H.2
theorem Dv (b p E n F:Nat)(a:Option Addr)(bs:List Nat)(w:World)(H:w.heap[b]? =some (.cells #[.slice a n F,.int .i64 (p:Int)] 116 (0,0)))(aa:p<=n)(I:ZRow w b a n F bs)(az:E<4294967296):
 Calls Tryz.prog 127 #[.pointer (some ⟨b,0,none⟩),.int .u32 (E:Int)] w fun e w'=>(n<p+E/\e=Z31/\ZT w b (.slice a n F) p w')\/ (p+E<=n/\(∃G T,e=.returned (.slice G E T)/\E<=T/\∀W,ZRow W b a n F bs->PkIn W G T ((bs.drop p).take E))/\ZT w b (.slice a n F) (p+E) w'):=by
 obtain⟨G,aj,ah,af⟩:=Z3q a p n F aa I.room I.nil;have ax:=I.few;have aw:=I.room;have c0:=Ac (i:=0) H;have c1:=Ac (i:=1) H;simp only[VZ,VY,WI]at c0 c1;have f1:=frozen_of_row w b 1 _ _ H;obtain⟨d,M⟩:=exq (n-p);obtain⟨k,O⟩:=exq (F-p);rw[M,O]at aj;have ay:=AW (n:=d) (by omega);have a2:=AW (n:=E) (by omega);have ae:=Ab H;have ao:=Ab ah;have ap:=Ab af;have ak:=Ab O;clear H I ah af
 by_cases U:n<p+E
 . have ai:(d:Int)<(E:Int):=by omega
   have Z:Hid (n<p+E/\∀q,ZT w b (.slice a n F) p (w.drewN q)):=Ab ⟨U,fun q=>(⟨Aa ae,Below.refl _ _,fun g _ _=>rfl⟩:ZT w b (.slice a n F) p w).drewN q⟩;clear M O U;go_enter Tryz.func127,Tryz.ntmps127
   go_wp2;go_quiet (fail)
   go_wp2;exact⟨rfl,.inl ⟨(Aa Z).1,rfl,(Aa Z).2 _⟩⟩
 . have ai:¬(d:Int)<(E:Int):=by omega
   have a3:=Z7k G E d k (by omega) (by omega);have Y:((p:Int)+(E:Int))=((p+E:Nat):Int):=by omega
   have ac:=Ab (show p+E<=n by omega);have a1:=Ab M;have av:=Ab Y;have ar:E<=k:=by omega
   have al:∀q,ZT w b (.slice a n F) (p+E) ((w.drewN q).setCell ⟨b,1,none⟩ (.int .i64 ((p:Int)+(E:Int)))):=fun q=>by
    have ag:ZT w b (.slice a n F) p (w.drewN q):=(⟨Aa ae,Below.refl _ _,fun g _ _=>rfl⟩:ZT w b (.slice a n F) p w).drewN q;rw[Y];exact ag.trans (ZT.set ag.is)
   clear M O U Y;go_enter Tryz.func127,Tryz.ntmps127
   go_wp2;go_quiet (fail)
   go_wp2;go_ret;refine .inr ⟨Aa ac,⟨G,k,rfl,ar,fun W au=>Z6d au aa (Aa ac) (Aa ao) (fun e=>by rw[<-Aa ak];exact Aa ap e)⟩,al _⟩
theorem Vf:∀(l:List Nat) (y:Nat),Ak (l++ [y])=Ak l+256^l.length*y
 | [],y=>by simp[Ak]
 |x::r,y=>by
  rw[XL,Ak,Vf r y,Ak,VJ,XC,Nat.mul_add,WT,<-XY,YF 256 (256^r.length)]
theorem Z3s (y k:Nat)(G:k<=3)(M:y<256)(W:World):(Op.shift .shl .u32 (y:Int) .i64 (IntKind.i64.wrap (8*(k:Int)))).run Tryz.prog W=.ok (.int .u32 ((256^k*y:Nat):Int)) W:=by
 have e:IntKind.i64.wrap (8*(k:Int))=((8*k:Nat):Int):=by
  simp[IntKind.wrap,IntKind.bits,IntKind.signed]
  omega
 rw[e];have H:(256:Nat)^k=2^(8*k):=by rw[Nat.pow_mul]
 have E:256^k<=256^3:=VO (by decide) G;have hm:256^k*y<=256^3*255:=Nat.mul_le_mul E (by omega)
 have F:IntKind.u32.wrap ((y:Int)*2^min (8*k) 32)=((256^k*y:Nat):Int):=by
  rw[YP (by omega)];have I:(y:Int)*2^(8*k)=((256^k*y:Nat):Int):=by rw[H];push_cast;rw[Int.mul_comm]
  rw[I,IntKind.wrap_u32'];have:(256:Nat)^3=16777216:=by decide
  omega
 unfold Op.shift;rw[if_neg (by omega),WM];show Result.ok (Value.int .u32 (IntKind.u32.wrap ((y:Int)*2^min (8*k) 32))) W=_
 rw[F]
theorem Z6h (m k y:Nat)(E:m<256^k)(G:k<=3)(I:y<256):bits .or .u32 (m:Int) ((256^k*y:Nat):Int)=((m+256^k*y:Nat):Int):=by
 have F:256^k<=256^3:=VO (by decide) G;have M:(256:Nat)^3=16777216:=by decide
 have O:256^k*y<=256^3*255:=Nat.mul_le_mul F (by omega);rw[u32_or_nat _ _ (by omega) (by omega)];have H:(256:Nat)^k=2^(8*k):=by rw[Nat.pow_mul]
 rw[H]at E ⊢;have:=Nat.two_pow_add_eq_or_of_lt (i:=8*k) (b:=m) E y
 rw[Nat.or_comm,<-this,Nat.add_comm]
theorem Et (b p E n H:Nat)(a:Option Addr)(bs:List Nat)(w:World)(aw:w.heap[b]? =some (.cells #[.slice a n H,.int .i64 (p:Int)] 116 (0,0)))(O:p<=n)(M:ZRow w b a n H bs)(bh:E<=4):
 Calls Tryz.prog 100 #[.pointer (some ⟨b,0,none⟩),.int .u32 (E:Int)] w fun e w'=>(n<p+E/\e=Z31/\ZT w b (.slice a n H) p w')\/ (p+E<=n/\e=.returned (.int .u32 (Ak ((bs.drop p).take E):Nat))/\ZT w b (.slice a n H) (p+E) w'):=by
 have ap:=Ab (Dv b p E n H a bs w aw O M (by omega));have ae:∀x∈(bs.drop p).take E,x<256:=fun x ai=>M.val x (VW (VR ai))
 have hl:p+E<=n->((bs.drop p).take E).length=E:=fun h=>by rw[VL,VQ,M.len];omega
 obtain⟨xs,ak⟩:=exq ((bs.drop p).take E);rw[ak]at ap ae hl ⊢;have az:=Ab ae;have a7:=Ab hl;have a9:=Ab M;clear aw M ae hl ak O;go_enter Tryz.func100,Tryz.ntmps100
 go_wp2_with fail
 refine(Aa ap).mono ?_;rintro e Z (⟨Y,rfl,F⟩|⟨Y,⟨ba,bb,rfl,bg,ax⟩,F⟩)
 . have af:=Ab F;clear F;go_wp2;exact⟨rfl,.inl ⟨Y,rfl,Aa af⟩⟩
 . have af:=Ab F;have a4:=Ab (ax Z ((Aa a9).after F));have al:=Aa a7 Y;have I:=Ab al;clear F ax al;go_wp2;go_loopw [5,6,7,12] (fun a6 _ _ i wr=>∃k:Nat,k<=E/\i=.int .i64 (k:Int)/\a6=.int .u32 (Ak (xs.take k):Nat)/\Hid (wr=Z)) (fun _ _ _ i _=>E-(intOf i).toNat)
   case atStart=>exact⟨0,VH _,rfl,by simp[Ak],Ab rfl⟩
   case round=>
    obtain⟨k,bi,rfl,rfl,av⟩:=hrel;have a3:wr=Z:=Aa av;subst a3;clear av
    by_cases ao:k<E
    . obtain⟨g,o,rfl,bd,a1⟩:=Dz (Aa a4).1 (by rw[Aa I];omega);have hc:=a1 k (by rw[Aa I];exact ao);have ac:=Er (Aa az) k;obtain⟨y,aj⟩:=exq (xs.getD k 0);rw[aj]at hc ac;have U:=Jx (xs.take k) (fun x ai=>Aa az x (VR ai));have aa:(xs.take k).length=k:=by rw[VL,Aa I];omega
      rw[aa]at U
      have T:Ak (xs.take (k+1))=Ak (xs.take k)+256^k*y:=by
       have au:k<xs.length:=by rw[Aa I];exact ao
       have e:xs.take (k+1)=xs.take k++ [y]:=by
        rw[XB au,<-aj];simp[List.getD,au]
       rw[e,Vf,aa]
      obtain⟨m,G⟩:∃m,Ak (xs.take k)=m:=⟨_,rfl⟩
      rw[G]at U T ⊢;have ay:=Z3s y k (by omega) ac;have ag:=Z6h m k y U (by omega) ac;obtain⟨z,ah⟩:=exq (256^k*y);rw[ah]at ay ag T
      have ar:bits .or .u32 (m:Int) ((y:Int)*2^(8*k)%4294967296)=((m+z:Nat):Int):=by
       have a5:(y:Int)*2^(8*k)=(z:Int):=by rw[<-ah,show (256:Nat)^k=2^(8*k) by rw[Nat.pow_mul]];push_cast;rw[Int.mul_comm]
       have O:256^k<=256^3:=VO (by decide) (by omega);have bj:(256:Nat)^3=16777216:=by decide
       have bc:256^k*y<=256^3*255:=Nat.mul_le_mul O (by omega);rw[a5,<-ag]
       congr 1
       omega
      have a2:=Ab (And.intro T ar);clear ar ag ay;have bf:IntKind.u32.wrap (y:Int)=(y:Int):=by rw[IntKind.wrap_u32'];omega
      clear a1 aj U aa T G ah;go_wp2;go_roundw
      case rel=>exact⟨k+1,by omega,by go_num,by rw[(Aa a2).1,(Aa a2).2],by first|exact Ab rfl|exact Ab trivial⟩
      case measure=>simp[intOf];omega
    . obtain rfl:E=k:=by omega
      have e:xs.take E=xs:=VV (by rw[Aa I];exact VB _);rw[e];obtain⟨m,G⟩:∃m,Ak xs=m:=⟨_,rfl⟩
      rw[G];have a8:=Ab G;clear G e;go_wp2;go_ret;exact .inr ⟨Y,by rw[Aa a8];rfl,Aa af⟩
def Z8h (w:World)(bs:List Nat)(n:Nat)(e:Ending)(w':World):Prop:=
 Below w.heap.size w w'/\(((Dk (rowB bs n)).e=0/\∃ov kv,e=.returned (.tuple #[ov,.int .i64 ((((Dk (rowB bs n)).p+7)/8:Nat):Int),kv,.int .i64 0])/\w'.ownsRow (w.heap.size+1) 5 1 ov (Dk (rowB bs n)).out.length (u8s (Dk (rowB bs n)).out)/\w'.ownsRow (w.heap.size+1) 3 1 kv (Dk (rowB bs n)).ks.length (i64s (Dk (rowB bs n)).ks))\/ ((Dk (rowB bs n)).e≠0/\e=.returned (.tuple #[.slice none 0 0,.int .i64 0,.slice none 0 0,.int .i64 (Dk (rowB bs n)).e])))
def Z5u:Prop:=
 (∀(a:Option Addr) (n cap:Nat) (bs:List Nat) (w:World),bs.length=n->n<=6000->BytesIn w a bs->(∀j,bs.getD j 0<256)->Calls Tryz.prog 166 #[.slice a n cap] w fun e w'=>Z8h w bs n e w')/\
 (∀(a:Option Addr) (n cap:Nat) (w:World),6000<n->n<=9223372036854775807->Calls Tryz.prog 166 #[.slice a n cap] w fun e w'=>e=.returned (.tuple #[.slice none 0 0,.int .i64 0,.slice none 0 0,.int .i64 2])/\w'=w)
end Go.Proofs.YtleocpdblhbimaaGreatDoor
