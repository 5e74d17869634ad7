import Derived.Test.YtleocpdblhbimaaGreatDoorQ35
set_option linter.unusedSimpArgs false
set_option linter.unusedVariables false
set_option maxRecDepth 100000
set_option maxHeartbeats 2000000
namespace Go.Proofs.YtleocpdblhbimaaGreatDoor
open Go.RowKit
theorem Rp.down {No No':Nat->Prop}{B F:Nat}{w G M w':World}{S T:List Bool}(E:Rp No B w F S G)(H:Below G.heap.size G M)(I:Rp No' B M F T w')(O:∀g,No g->No' g):Rp No B w F T w':=by
 have Z:=E.below.size;have Y:=H.size;have ac:=E.is.lt;have aa:=E.is.base;refine⟨I.is.grow (Below.refl _ _) (fun g e=>.inl (O g e)),E.below.trans ((H.mono (by omega)).trans I.below),fun g U hn=> ?_⟩;rw[I.kp g (by omega) (O g hn),H.block g (by omega)];exact E.kp g U hn
theorem Z52 {bs:List Nat}(G:∀j,bs.getD j 0<256)(F:bs.length<=3000):(Ha (Gi bs)).length<=15+60*bs.length:=by
 have E:=Wz G F;have I:=Lp Ky Ir Mk Mi (itsOf (Gi bs)) (PM E) (Ka E);have H:=Gb (Gi bs);have M:=BG bs;unfold Ha;omega
theorem TV (S:List Bool)(bs:List Nat):(Qm S bs).length<=S.length+40+8*bs.length:=by
 have:=Pk S.length
 unfold Qm;simp only[VE,XD,Ah,Af];omega
theorem C8 (No:Nat->Prop)(B F:Nat)(a:Option Addr)(n M I:Nat)(U:Bool)(bs:List Nat)(S:List Bool)(w:World)(h:RIs No B w F S)(ag:bs.length=n)(a2:n<=3000)(bm:n<=M)(a4:a=none->M=0)(bz:I<=2)(bf:BytesIn w a bs)(ae:∀j,bs.getD j 0<256)(ax:∀b o,a=some ⟨b,o,none⟩->bs≠ []->No b)(ac:∀g,w.heap.size<=g->¬No g)(bv:S.length+60*n<=276000):
 Calls Tryz.prog 112 #[.pointer (some ⟨F,0,none⟩),.slice a n M,.int .i64 (I:Int),.bool U] w fun e w'=>e=.returned (.tuple #[])/\(JT S bs I U).length<=S.length+2400+60*n/\Rp No B w F (JT S bs I U) w':=by
 obtain⟨Z,ap⟩:=exq (S++ [U]);obtain⟨G,ak⟩:=exq (Z++Al I 2);have l1:Z.length=S.length+1:=by rw[<-ap];simp
 have l2:G.length=S.length+3:=by rw[<-ak,VE,Ah,l1]
 have a8:JT S bs I U=if I=0 then Qm G bs else if I=1 then G++Ha (Gi bs)else G++IK bs:=by unfold JT;rw[ap,ak]
 have ar:Hid (Calls Tryz.prog 147 #[.pointer (some ⟨F,0,none⟩),.int .i64 (if U then 1 else 0),.int .i64 1] w fun e w'=>e=.returned (.tuple #[])/\Rp No B w F Z w'):=by
  rw[<-ap]
  cases U with
  |true=>exact Dp No B F 1 1 S w h (by decide) (by decide) (by omega) ac
  |false=>exact Dp No B F 0 1 S w h (by decide) (by decide) (by omega) ac
 have ba:Hid (∀Y,Rp No B w F Z Y->Calls Tryz.prog 147 #[.pointer (some ⟨F,0,none⟩),.int .i64 (I:Int),.int .i64 2] Y fun e w'=>e=.returned (.tuple #[])/\Rp No B w F G w'):=fun Y r=>by
  refine(Dp No B F I 2 Z Y r.is (by omega) (by decide) (by omega) (fun g aa=>ac g (by have:=r.below.size;omega))).mono ?_;rintro e w' ⟨rfl,r2⟩;rw[ak]at r2;exact⟨rfl,r.trans r2⟩
 have al:Hid (∀E,Rp No B w F G E->BytesIn E a bs):=fun E r=>Yu bf r.below.size (fun b o e ai hb=>r.kp b hb (ax b o e ai))
 have bd:Hid (∀E,Rp No B w F G E->Calls Tryz.prog 148 #[.pointer (some ⟨F,0,none⟩),.slice a n M] E fun e w'=>e=.returned (.tuple #[])/\Rp No B w F (Qm G bs) w'):=fun E r=>by
  refine(Xl No B F a n M bs G E r.is ag a2 a4 (Aa al E r) ae ax (fun g aa=>ac g (by have:=r.below.size;omega)) (by omega)).mono ?_;rintro e w' ⟨rfl,r2⟩;exact⟨rfl,r.trans r2⟩
 obtain⟨L,ay⟩:=exq ((Gi bs).length);have bq:L<=n:=by have:=BG bs;omega
 have bb:Hid (∀E,Rp No B w F G E->Calls Tryz.prog 149 #[.slice a n M] E fun e w'=>∃H c1,e=.returned (.tuple #[.slice H L c1,.int .i64 0])/\TokIn w' H (Gi bs)/\(∀b o,H=some ⟨b,o,none⟩->Gi bs≠ []->E.heap.size<=b/\b<w'.heap.size)/\Below E.heap.size E w'):=fun E r=>EP a n M bs E ag a2 bm (Aa al E r) ae L (Ab ay)
 have av:Hid (∀(E w3:World),Rp No B w F G E->Below E.heap.size E w3->RIs (fun g=>No g\/ (E.heap.size<=g/\g<w3.heap.size)) B w3 F G/\∀g,w3.heap.size<=g->¬(No g\/ (E.heap.size<=g/\g<w3.heap.size))):=fun E w3 r hb=>by
  refine⟨r.is.grow hb (fun g e=>by rcases e with e|e;exact .inl e;exact .inr e.1),fun g aa e=> ?_⟩;have:=hb.size
  have:=r.below.size
  rcases e with e|e
  . exact ac g (by omega) e
  . omega
 have a5:Hid (∀(E w3:World) (H:Option Addr) (c1:Nat),Rp No B w F G E->Below E.heap.size E w3->TokIn w3 H (Gi bs)->(∀b o,H=some ⟨b,o,none⟩->Gi bs≠ []->E.heap.size<=b/\b<w3.heap.size)->Calls Tryz.prog 150 #[.pointer (some ⟨F,0,none⟩),.slice H L c1] w3 fun e w'=>e=.returned (.tuple #[])/\Rp No B w F (G++Ha (Gi bs)) w'):=fun E w3 H c1 r hb T O=>by
  obtain⟨az,aw⟩:=Aa av E w3 r hb;refine(C7 _ B F H L c1 (Gi bs) G w3 az ay (by omega) (Wz ae (by omega)) T (fun b o e ai=>.inr (O b o e ai)) aw (by omega)).mono ?_;rintro e w' ⟨rfl,r2⟩;exact⟨rfl,r.down hb r2 (fun g aa=>.inl aa)⟩
 have a3:Hid (∀(E w3:World) (H:Option Addr) (c1:Nat),Rp No B w F G E->Below E.heap.size E w3->TokIn w3 H (Gi bs)->(∀b o,H=some ⟨b,o,none⟩->Gi bs≠ []->E.heap.size<=b/\b<w3.heap.size)->Calls Tryz.prog 151 #[.pointer (some ⟨F,0,none⟩),.slice a n M,.slice H L c1] w3 fun e w'=>e=.returned (.tuple #[])/\(IK bs).length<=2300+60*n/\Rp No B w F (G++IK bs) w'):=fun E w3 H c1 r hb T O=>by
  obtain⟨az,aw⟩:=Aa av E w3 r hb;refine(Tj _ B F a H n M L c1 bs G w3 az ag a2 ((Aa al E r).below hb (VB _)) ae T ay bq (fun b o e ai=>.inr (O b o e ai)) aw (by omega)).mono ?_;rintro e w' ⟨rfl,aj,r2⟩;exact⟨rfl,aj,r.down hb r2 (fun g aa=>.inl aa)⟩
 have a9:=Ab (Z52 ae (by omega:bs.length<=3000));have a7:=Ab (TV G bs);have bg:=Ab ag;rw[a8];obtain⟨bu,a6⟩:=exq (Ha (Gi bs));obtain⟨b0,bc⟩:=exq (IK bs);obtain⟨bw,bi⟩:=exq (Qm G bs);rw[a6]at a5 a9 ⊢;rw[bc]at a3 ⊢;rw[bi]at bd a7 ⊢;clear a8 bf ax ac a4 h ae av al ag a6 bc bi ap ak;have bn:I=0\/I=1\/I=2:=by omega
 go_enter Tryz.func112,Tryz.ntmps112
 go_upto_if 10 with (fail)
 go_cut [] (fun wc=>Hid (Rp No B w F Z wc))
 case first=>
  cases U with
  |true=>
   go_wp2_with fail
   refine(Aa ar).mono ?_;rintro e Y ⟨rfl,r⟩;have a1:=Ab r;clear r;go_wp2;go_meet
   exact a1
  |false=>
   go_wp2_with fail
   refine(Aa ar).mono ?_;rintro e Y ⟨rfl,r⟩;have a1:=Ab r;clear r;go_wp2;go_meet
   exact a1
 case rest=>
  have bk:=hcut;clear hcut;go_wp2_with fail
  refine(Aa ba wc (Aa bk)).mono ?_;rintro e E ⟨rfl,r2⟩;have af:=Ab r2;clear r2 ar ba
  rcases bn with rfl|rfl|rfl
  . go_wp2_with fail
    refine(Aa bd E (Aa af)).mono ?_;rintro e w3 ⟨rfl,bh⟩;have bj:=Ab bh;clear bh;go_wp2;refine bodyPost_ret (results_none rfl _ _ _) rfl ⟨rfl, ?_⟩;exact⟨by have:=Aa a7;rw[Aa bg]at this;omega,Aa bj⟩
  . go_wp2_with fail
    refine(Aa bb E (Aa af)).mono ?_;rintro e w3 ⟨H,c1,rfl,T,O,hb⟩;have au:=Ab (Aa a5 E w3 H c1 (Aa af) hb T O);clear T O hb;go_wp2_with fail
    refine(Aa au).mono ?_;rintro e bo ⟨rfl,ah⟩;have ao:=Ab ah;clear ah;go_wp2;go_end0
    refine⟨rfl, ?_⟩;exact⟨by have:=Aa a9;rw[Aa bg]at this;omega,Aa ao⟩
  . go_wp2_with fail
    refine(Aa bb E (Aa af)).mono ?_;rintro e w3 ⟨H,c1,rfl,T,O,hb⟩;have au:=Ab (Aa a3 E w3 H c1 (Aa af) hb T O);clear T O hb;go_wp2_with fail
    refine(Aa au).mono ?_;rintro e bo ⟨rfl,aj,ah⟩;have ao:=Ab (And.intro aj ah);clear ah aj;go_wp2;go_end0
    refine⟨rfl, ?_⟩;exact⟨by have:=(Aa ao).1;omega,(Aa ao).2⟩
structure PartsIn (w:World)(b o:Nat)(A:Nat->Option Addr)(C:Nat->Nat)(bss:List (List Nat)):Prop where
 lt:b<w.heap.size
 cell:∀j,j<bss.length->w.cell? ⟨b,o+j,none⟩=some (.slice (A j) (bss.getD j []).length (C j))
 byt:∀j,j<bss.length->BytesIn w (A j) (bss.getD j [])
 cap:∀j,j<bss.length->(bss.getD j []).length<=C j
 nil:∀j,j<bss.length->A j=none->C j=0
 big:∀j,j<bss.length->(bss.getD j []).length+(if j=0 then 0 else 3000)<=9223372036854775807
 val:∀j i,(bss.getD j []).getD i 0<256
def Q2:List Nat->List Int->Nat->Nat->Int
 | [],_,_,_=>0
 |n::r,ks,i,t=>if 3000<t+n\/40<=i then 2 else if ks.headD 0=0\/ks.headD 0=1\/ks.headD 0=2 then Q2 r ks.tail (i+1) (t+n)else 3
def JQ (ns:List Nat)(ks:List Int):Int:=if ns.length=0\/ks.length≠ns.length then 4 else Q2 ns ks 0 0
theorem Mh {E:Type}(l:List E)(d:E){k:Nat}(F:k<l.length):l.drop k=l.getD k d::l.drop (k+1):=by
 rw[WS F];simp[List.getD,F]
theorem We (b o a9:Nat)(al:Option Addr)(H F ba:Nat)(A:Nat->Option Addr)(C:Nat->Nat)(E:List (List Nat))(ks:List Int)(w:World)(Y:E.length=H)(aj:ks.length=F)(af:E= []\/PartsIn w b o A C E)(hK:RowIn .i64 w al ks)(aw:Option Addr)(ai:E≠ []->aw=some ⟨b,o,none⟩)(M:Int)(aa:Hid (JQ (E.map List.length) ks=M)):
 Calls Tryz.prog 111 #[.slice aw H a9,.slice al F ba] w fun e w'=>e=.returned (.int .i64 M)/\w'=w:=by
 have a4:(E.map List.length).length=H:=by rw[WL];exact Y
 by_cases ah:H=0
 . subst ah;have ak:M=4:=by rw[<-Aa aa];unfold JQ;rw[if_pos (.inl a4)]
   subst ak;clear af hK ai;go_enter Tryz.func111,Tryz.ntmps111
   go_wp2;go_ret;exact⟨rfl,rfl⟩
 . have ae:E≠ []:=fun e=>ah (by rw[<-Y,e];rfl)
   obtain rfl:=ai ae;have Z:PartsIn w b o A C E:=by rcases af with h|h;exact absurd h ae;exact h
   have bn:((H:Int)==0)=false:=by rw[beq_eq_false_iff_ne];omega
   by_cases bd:F=H
   . subst bd
     have a6:∃b2 o2,al=some ⟨b2,o2,none⟩/\Row .i64 w b2 o2 ks:=by
      rcases hK with h|⟨b2,o2,e,_,h⟩
      . exact absurd (by rw[<-aj,h];rfl) ah
      . exact⟨b2,o2,e,h⟩
     obtain⟨b2,o2,rfl,a3⟩:=a6
     have bb:Hid (Q2 (E.map List.length) ks 0 0=M):=Ab (by
      have:=Aa aa
      unfold JQ at this;rw[if_neg (by rintro (h|h);exact ah (by omega);exact h (by omega))]at this;exact this)
     have bj:(((F:Int)==(F:Int)))=true:=by simp
     have a7:=Ab Z.cell;have bh:=Ab Z.big;have bk:=Ab a3;have T:=Ab Y;have a2:=Ab aj;clear af hK Z a3 aa a4 ai ae Y aj bj;go_enter Tryz.func111,Tryz.ntmps111
     go_wp2;go_loop [5,20] (fun bf ao=>∃k t:Nat,k<=F/\t<=3000/\(k=0->t=0)/\bf=.int .i64 (t:Int)/\ao=.int .i64 (k:Int)/\Hid (Q2 ((E.map List.length).drop k) (ks.drop k) k t=M)) (fun _ ao=>F-(intOf ao).toNat)
     case atStart=>exact⟨0,0,VH _,by decide,fun _=>rfl,rfl,rfl,bb⟩
     case round=>
      obtain⟨k,t,bu,bq,a1,rfl,rfl,hc⟩:=hrel
      by_cases O:k<F
      . have c1:=Aa a7 k (by rw[Aa T];exact O);have ac:=Aa bh k (by rw[Aa T];exact O);have c2:=Aa bk k (by rw[Aa a2];exact O);have ag:=Mh (E.map List.length) 0 (k:=k) (by rw[WL,Aa T];exact O);have ap:=Mh ks 0 (k:=k) (by rw[Aa a2];exact O)
        have ax:(E.map List.length).getD k 0=(E.getD k []).length:=by
         have bc:k<E.length:=by rw[Aa T];exact O
         simp[List.getD,bc]
        rw[ax]at ag;obtain⟨n,hn⟩:=exq ((E.getD k []).length);obtain⟨x,a5⟩:=exq (ks.getD k 0);rw[hn]at c1 ac ag;rw[a5]at c2 ap;have av:Q2 ((E.map List.length).drop k) (ks.drop k) k t=if 3000<t+n\/40<=k then 2 else if x=0\/x=1\/x=2 then Q2 ((E.map List.length).drop (k+1)) (ks.drop (k+1)) (k+1) (t+n)else 3:=by rw[ag,ap,Q2];rfl
        have G:=Aa hc;rw[av]at G;have bw:(k:Int)<(F:Int):=by omega
        have bo:t+n<=9223372036854775807:=by
         by_cases e:k=0
         . rw[if_pos e]at ac;have:=a1 e
           omega
         . rw[if_neg e]at ac;omega
        clear ac a1 hc ag ap ax hn a5 av;generalize A k=bm at*;generalize C k=cc at*
        by_cases ar:3000<t+n
        . rw[if_pos (.inl ar)]at G;subst G;have az:(3000:Int)<(t:Int)+(n:Int)\/ (40:Int)<=(k:Int):=.inl (by omega);clear ar;go_wp2
          all_goals go_ret
          all_goals exact⟨rfl,rfl⟩
        . have az:¬(3000:Int)<(t:Int)+(n:Int):=by omega
          by_cases ay:40<=k
          . rw[if_pos (.inr ay)]at G;subst G;have bi:(3000:Int)<(t:Int)+(n:Int)\/ (40:Int)<=(k:Int):=.inr (by omega);clear ar ay az;go_wp2
            all_goals go_ret
            all_goals exact⟨rfl,rfl⟩
          . have bi:¬((3000:Int)<(t:Int)+(n:Int)\/ (40:Int)<=(k:Int)):=by omega
            rw[if_neg (by omega)]at G
            by_cases I:x=0\/x=1\/x=2
            . rw[if_pos I]at G;have bg:=Ab G;clear G
              rcases I with rfl|rfl|rfl
              all_goals go_wp2
              all_goals go_round
              all_goals first|exact⟨k+1,t+n,by omega,by omega,fun e=>absurd e (by omega),by go_num,by go_num,bg⟩|(simp[intOf];omega)
            . rw[if_neg I]at G;subst G;have au:(x==0)=false:=by rw[beq_eq_false_iff_ne];exact fun e=>I (.inl e)
              have x1:(x==1)=false:=by rw[beq_eq_false_iff_ne];exact fun e=>I (.inr (.inl e))
              have x2:(x==2)=false:=by rw[beq_eq_false_iff_ne];exact fun e=>I (.inr (.inr e))
              have x3:((x !=0)=true/\(x !=1)=true)/\(x !=2)=true:=⟨⟨by simp[bne,au],by simp[bne,x1]⟩,by simp[bne,x2]⟩
              clear I;go_wp2
              all_goals first|(go_ret;exact⟨rfl,rfl⟩)|(exfalso;rename_i U;rcases U with (U|U)|U<;>simp[bne,au,x1,x2]at U)
      . obtain rfl:k=F:=by omega
        have a8:M=0:=by
         rw[<-Aa hc,XR (by rw[WL,Aa T];exact VB _)];rfl
        subst a8;clear hc;go_wp2;go_ret;exact⟨rfl,rfl⟩
   . have ak:M=4:=by rw[<-Aa aa];unfold JQ;rw[if_pos (.inr (by omega))]
     subst ak;have bv:((F:Int)==(H:Int))=false:=by rw[beq_eq_false_iff_ne];omega
     clear af hK Z ai ae;go_enter Tryz.func111,Tryz.ntmps111
     go_wp2;go_ret;exact⟨rfl,rfl⟩
def Gc (bss:List (List Nat))(ks:List Int):List (List Nat×Nat):=(bss.zip ks).map (fun p=>(p.1,p.2.toNat))
theorem Y2 (E:List (List Nat))(ks:List Int)(H:ks.length=E.length){k:Nat}(F:k<E.length):(Gc E ks).drop k=(E.getD k [],(ks.getD k 0).toNat)::(Gc E ks).drop (k+1):=by
 have hl:k<(Gc E ks).length:=by simp[Gc];omega
 rw[WS hl];have G:k<ks.length:=by omega
 simp[Gc,List.getD,F,G]
theorem Vi (E:List (List Nat))(ks:List Int)(F:ks.length=E.length):(Gc E ks).length=E.length:=by simp[Gc];omega
theorem QS {F:List Nat}{ks:List Int}{k t:Nat}{n:Nat}{x:Int}(U:k<F.length)(M:k<ks.length)(T:F.getD k 0=n)(O:ks.getD k 0=x)(E:Q2 (F.drop k) (ks.drop k) k t=0):t+n<=3000/\k<40/\(x=0\/x=1\/x=2)/\Q2 (F.drop (k+1)) (ks.drop (k+1)) (k+1) (t+n)=0:=by
 have H:=Mh F 0 U;have G:=Mh ks 0 M;rw[T]at H;rw[O]at G;rw[H,G,Q2]at E
 split at E
 . cases E
 . rename_i Y
   split at E
   . rename_i I
     exact⟨by omega,by omega,I,E⟩
   . cases E
theorem DO:∀(E:List Nat) (ks:List Int) (i t:Nat),Q2 E ks i t=0->E≠ []->i+E.length<=40
 | [],_,_,_,_,h=>absurd rfl h
 |n::r,ks,i,t,h,_=>by
  rw[Q2]at h
  split at h
  . cases h
  . rename_i F
    split at h
    . by_cases e:r= []
      . subst e;simp only[VJ,WE];omega
      . have:=DO r ks.tail (i+1) (t+n) h e
        rw[VJ];omega
    . cases h
theorem Z0e (b o Y:Nat)(I:Option Addr)(M H aa:Nat)(T:Nat->Option Addr)(C:Nat->Nat)(E:List (List Nat))(ks:List Int)(w:World)(ae:E.length=M)(ag:ks.length=H)(Z:E= []\/PartsIn w b o T C E)(hK:RowIn .i64 w I ks)(G:Option Addr)(U:E≠ []->G=some ⟨b,o,none⟩)(F:Int)(O:Hid (JQ (E.map List.length) ks=F))(af:F≠0):
 Calls Tryz.prog 76 #[.slice G M Y,.slice I H aa] w fun e w'=>e=.returned (.tuple #[.slice none 0 0,.int .i64 F])/\w'=w:=by
 have ac:=Ab (We b o Y I M H aa T C E ks w ae ag Z hK G U F O);have hb:(F==0)=false:=by rw[beq_eq_false_iff_ne];exact af
 have ah:(F !=0)=true:=by simp[bne,hb]
 clear Z hK U O;go_enter Tryz.func76,Tryz.ntmps76
 go_wp2_with fail
 refine(Aa ac).mono ?_;rintro e ai ⟨rfl,rfl⟩;go_wp2;go_ret2;exact⟨rfl,rfl⟩
theorem Z44 (b o a6 U ag E a7:Nat)(A:Nat->Option Addr)(C:Nat->Nat)(G:List (List Nat))(ks:List Int)(w:World)(Y:G.length=E)(ay:ks.length=E)(ah:PartsIn w b o A C G)(bn:U<w.heap.size)(hK:Row .i64 w U ag ks)(H:JQ (G.map List.length) ks=0):
 Calls Tryz.prog 76 #[.slice (some ⟨b,o,none⟩) E a6,.slice (some ⟨U,ag,none⟩) E a7] w fun e w'=>∃v out,e=.returned (.tuple #[v,.int .i64 0])/\w'.ownsRow w.heap.size 5 1 v out.length (u8s out)/\rowB out out.length=padB (Tm (Gc G ks) [])/\(∀j,out.getD j 0<256)/\Below w.heap.size w w':=by
 have bh:=Ab (We b o a6 (some ⟨U,ag,none⟩) E E a7 A C G ks w Y ay (.inr ah) (.inr ⟨U,ag,rfl,bn,hK⟩) (some ⟨b,o,none⟩) (fun _=>rfl) 0 (Ab H))
 have bj:Hid (Q2 (G.map List.length) ks 0 0=0):=by
  unfold JQ at H
  split at H
  . cases H
  . exact H
 have cu:0<E:=by
  unfold JQ at H
  split at H
  . cases H
  . rename_i h
    rw[WL,Y]at h;omega
 have cp:E<=40:=by
  have:=DO _ _ _ _ (Aa bj) (fun e=>by rw[List.map_eq_nil_iff]at e;rw[e]at Y;simp at Y;omega)
  rw[WL,Y]at this;omega
 have aa:=Ab Y;have aj:=Ab ay;have Z:=Ab ah;have b9:=Ab hK;have b4:=ah.lt;clear H ah hK Y ay;obtain⟨T,ao⟩:=exq (Tm (Gc G ks) []);rw[ao];have cd:=Ab ao;clear ao;have bw:=Ab (RIs.empty (No:=fun g=>g<w.heap.size) (B:=w.heap.size) (w:=w.alloc (.cells #[.slice none 0 0,.int .i64 0] 179)) (b:=w.heap.size) (VB _) (by simp) (heap_alloc_new _ _));go_enter Tryz.func76,Tryz.ntmps76
 go_wp2_with fail
 refine(Aa bh).mono ?_;rintro e F ⟨rfl,rfl⟩;clear bh;go_wp2;go_loopw [20] (fun v wr=>∃(k t:Nat) (S:List Bool),k<=E/\t<=3000/\v=.int .i64 (k:Int)/\Hid (Q2 ((G.map List.length).drop k) (ks.drop k) k t=0/\Rp (fun g=>g<F.heap.size) F.heap.size (F.alloc (.cells #[.slice none 0 0,.int .i64 0] 179)) F.heap.size S wr/\Tm ((Gc G ks).drop k) S=T/\S.length<=2400*k+60*t)) (fun v _=>E-(intOf v).toNat)
 case atStart=>exact⟨0,0,[],VH _,by decide,rfl,Ab ⟨Aa bj,Rp.refl (Aa bw),Aa cd,by simp⟩⟩
 case round=>
  obtain⟨k,t,S,cy,cq,rfl,ak⟩:=hrel;obtain⟨ax,M,O,bz⟩:=Aa ak;have cj:=M.below.size;simp only[World.size_alloc]at cj;have af:∀g,g<F.heap.size->wr.heap[g]? =F.heap[g]? :=fun g al=>(M.kp g (by simp;omega) al).trans (Below.heap_alloc F _ g al)
  by_cases bg:k<E
  . have I:k<G.length:=by rw[Aa aa];exact bg
    have av:k<ks.length:=by rw[Aa aj];exact bg
    have c1:=(World.cell?_of_block (w:=F) (a:=⟨b,o+k,none⟩) (af b b4)).trans ((Aa Z).cell k I);have c2:=(World.cell?_of_block (w:=F) (a:=⟨U,ag+k,none⟩) (af U bn)).trans (Aa b9 k av);have ar:=Yu ((Aa Z).byt k I) (by omega) (fun a5 bu _ _ cg=>af a5 cg) (w':=wr);have ai:=(Aa Z).cap k I;have bd:=(Aa Z).nil k I;have a2:=(Aa Z).val k;have a1:=(Aa Z).byt k I;have hid:=Y2 G ks (by rw[Aa aa,Aa aj]) I;rw[hid]at O;obtain⟨bs,au⟩:=exq (G.getD k []);obtain⟨x,a3⟩:=exq (ks.getD k 0);rw[au]at c1 ar ai a2 O a1;rw[a3]at c2 O
    have bk:(G.map List.length).getD k 0=bs.length:=by
     rw[<-au];simp[List.getD,I]
    obtain⟨r1,r2,bb,az⟩:=QS (by rw[WL];exact I) av bk a3 ax
    obtain⟨ac,bv⟩:∃ac:Nat,x=(ac:Int)/\ac<=2:=by
     rcases bb with rfl|rfl|rfl
     . exact⟨0,rfl,by decide⟩
     . exact⟨1,rfl,by decide⟩
     . exact⟨2,rfl,by decide⟩
    obtain⟨rfl,ce⟩:=bv;rw[WM]at O;obtain⟨n,hn⟩:=exq (bs.length);rw[hn]at c1 ai r1 az
    have bi:decide ((Gc G ks).drop (k+1)= [])=decide (k+1=E):=by
     have hl:=Vi G ks (by rw[Aa aa,Aa aj]);rw[Aa aa]at hl
     by_cases e:k+1=E
     . rw[decide_eq_true e,decide_eq_true];exact XR (by omega)
     . rw[decide_eq_false e,decide_eq_false];intro ae;have:=List.drop_eq_nil_iff.1 ae
       omega
    have ap:Tm ((Gc G ks).drop (k+1)) (JT S bs ac (decide (k+1=E)))=T:=by rw[<-O,Tm,bi]
    have a9:=Ab (C8 (fun g=>g<F.heap.size) F.heap.size F.heap.size (A k) n (C k) ac (decide (k+1=E)) bs S wr M.is hn (by omega) ai bd ce ar a2 (fun a5 bu e b8=>by
     rcases a1 with h|⟨cv,cw,e3,ck,_⟩
     . exact absurd h b8
     . rw[e3]at e;cases e;exact ck) (fun g al=>by omega) (by omega))
    have ci:((k:Int)==(E:Int)-1)=decide (k+1=E):=by
     by_cases e:k+1=E
     . rw[decide_eq_true e,beq_iff_eq];omega
     . rw[decide_eq_false e,beq_eq_false_iff_ne];omega
    obtain⟨la,bc⟩:=exq (decide (k+1=E));rw[bc]at ci ap a9;clear bc;have cm:=Ab M;have b0:=Ab ap;have b7:=Ab az;have co:(k:Int)<(E:Int):=by omega
    clear ak ax M O af ar ai bd a2 a1 hid au a3 bk bb az bi ap hn I av;generalize A k=ct at*;generalize C k=cc at*;go_wp2_with fail
    refine(Aa a9).mono ?_;rintro e cz ⟨rfl,cn,ba⟩;have bq:=Ab ((Aa cm).trans ba);clear ba;go_wp2;go_roundw
    case rel=>exact⟨k+1,t+n,_,by omega,by omega,by go_num,Ab ⟨Aa b7,Aa bq,Aa b0,by omega⟩⟩
    case measure=>simp[intOf];omega
  . obtain rfl:E=k:=by omega
    rw[XR (by rw[Vi G ks (by rw[Aa aa,Aa aj]),Aa aa];exact VB _),Tm]at O;subst O;obtain⟨ov,bs,bm,ae,b5,a8,a4⟩:=M.is.ex;have c0:wr.cell? ⟨F.heap.size,0,none⟩=some ov:=Ac bm;obtain⟨bf,cc,rfl⟩:∃a c,ov=.slice a bs.length c:=An ae;have bo:Hid (wr.ownsRow F.heap.size 5 1 (.slice bf bs.length cc) bs.length (u8s bs)/\rowB bs bs.length=padB S/\(∀j,bs.getD j 0<256)/\Below F.heap.size F wr):=⟨Pa ae (by omega),a4,a8,((Below.refl F.heap.size F).alloc (VB _) _).trans M.below⟩
    obtain⟨L,aw⟩:=exq (bs.length);have b3:=Ab aw;rw[aw]at c0;clear ak ax M bz af bm ae b5 a8 a4 aw;go_wp2;go_ret2;exact⟨.slice bf bs.length cc,bs,by rw[Aa b3];rfl,Aa bo⟩
noncomputable def oneB (bs:List Nat)(k:Nat):List Bool:=padB (JT [] bs k true)
noncomputable def GA (bs:List Nat)(k:Nat):Nat:=(oneB bs k).length/8
noncomputable def bestP (bs:List Nat):Nat->Nat
 |0=>0
 |1=>0
 |k+2=>if GA bs (k+1)<GA bs (bestP bs (k+1))then k+1 else bestP bs (k+1)
structure IsOne (bs:List Nat)(k:Nat)(out:List Nat):Prop where
 row:rowB out out.length=oneB bs k
 val:∀j,out.getD j 0<256
theorem IsOne.len {bs out:List Nat}{k:Nat}(E:IsOne bs k out):out.length=GA bs k:=by
 unfold GA;rw[<-E.row,Af];omega
theorem Z5k (bs:List Nat)(k:Nat)(E:Bool):3<=(JT [] bs k E).length:=by
 unfold JT
 split
 . unfold Qm;simp only[VE,Ah,VJ,WE,XD];omega
 . split<;>simp only[VE,Ah,VJ,WE]<;>omega
theorem IsOne.pos {bs out:List Nat}{k:Nat}(F:IsOne bs k out):0<out.length:=by
 have E:=congrArg List.length F.row;rw[Af]at E;unfold oneB at E;rw[Dr]at E;have:=Z5k bs k true
 omega
theorem MQ (bs:List Nat)(k:Nat):Tm (Gc [bs] [(k:Int)]) []=JT [] bs k true:=by
 have:Gc [bs] [(k:Int)]= [(bs,k)]:=by simp[Gc]
 rw[this,Tm,Tm];simp
theorem D0 {w:World}{a:Option Addr}{n F:Nat}{bs:List Nat}(H:bs.length=n)(Y:n<=F)(O:a=none->F=0)(U:BytesIn w a bs)(Z:∀j,bs.getD j 0<256)(M:n<=9223372036854775807)(k:Int)(T I:TypeId):
 PartsIn ((w.alloc (.cells #[.slice a n F] T)).alloc (.cells #[.int .i64 k] I)) w.heap.size 0 (fun _=>a) (fun _=>F) [bs]/\Row .i64 ((w.alloc (.cells #[.slice a n F] T)).alloc (.cells #[.int .i64 k] I)) (w.heap.size+1) 0 [k]:=by
 have G:∀j,j< [bs].length->j=0:=fun j E=>by simp at E;omega
 refine⟨⟨by simp;omega,fun j E=> ?_,fun j E=> ?_,fun j E=> ?_,fun j E=> ?_,fun j E=> ?_,fun j i=> ?_⟩,fun j E=> ?_⟩
 . rw[G j E];simp[H]
 . rw[G j E];exact U.below (((Below.refl w.heap.size w).alloc (VB _) _).alloc (by simp) _) (VB _)
 . rw[G j E];simpa[H]using Y
 . exact fun e=>O e
 . rw[G j E];simpa[H]using M
 . cases j with
   |zero=>simpa using Z i
   |succ j=>simp
 . have:j=0:=by simp at E;omega
   subst this;simp
theorem Z4c {n:Nat}(E:3000<n)(bs:List Nat)(F:bs.length=n)(k:Int):JQ ([bs].map List.length) [k]=2:=by
 unfold JQ;rw[if_neg (by simp)];simp only[WQ,ZE,Q2];rw[if_pos (.inl (by omega))]
theorem Z0m {n k:Nat}(E:n<=3000)(bs:List Nat)(F:bs.length=n)(G:k<=2):JQ ([bs].map List.length) [(k:Int)]=0:=by
 unfold JQ;rw[if_neg (by simp)];simp only[WQ,ZE,Q2];rw[if_neg (by omega)];exact if_pos (show (k:Int)=0\/ (k:Int)=1\/ (k:Int)=2 by omega)
theorem Z0l (a:Option Addr)(n E:Nat)(k:Int)(bs:List Nat)(w:World)(T G:TypeId)(F:bs.length=n)(Y:n<=E)(M:a=none->E=0)(O:BytesIn w a bs)(Z:∀j,bs.getD j 0<256)(I:n<=9223372036854775807)(aa:3000<n):
 Calls Tryz.prog 76 #[.slice (some ⟨w.heap.size,0,none⟩) 1 1,.slice (some ⟨w.heap.size+1,0,none⟩) 1 1] ((w.alloc (.cells #[.slice a n E] T)).alloc (.cells #[.int .i64 k] G)) fun e w'=>e=.returned (.tuple #[.slice none 0 0,.int .i64 2])/\Below w.heap.size w w':=by
 obtain⟨U,H⟩:=D0 F Y M O Z I k T G;refine(Z0e w.heap.size 0 1 (some ⟨w.heap.size+1,0,none⟩) 1 1 1 _ _ [bs] [k] _ rfl rfl (.inr U) (.inr ⟨_,0,rfl,by simp,H⟩) (some ⟨w.heap.size,0,none⟩) (fun _=>rfl) 2 (Ab (Z4c aa bs F k)) (by decide)).mono ?_;rintro e w' ⟨rfl,rfl⟩;exact⟨rfl,((Below.refl w.heap.size w).alloc (VB _) _).alloc (by simp) _⟩
theorem Z6j (a:Option Addr)(n F k:Nat)(bs:List Nat)(w:World)(T I:TypeId)(H:bs.length=n)(ac:n<=F)(U:a=none->F=0)(Y:BytesIn w a bs)(ag:∀j,bs.getD j 0<256)(ah:n<=3000)(O:k<=2):
 Calls Tryz.prog 76 #[.slice (some ⟨w.heap.size,0,none⟩) 1 1,.slice (some ⟨w.heap.size+1,0,none⟩) 1 1] ((w.alloc (.cells #[.slice a n F] T)).alloc (.cells #[.int .i64 (k:Int)] I)) fun e w'=>∃g c out,e=.returned (.tuple #[.slice (some ⟨g,0,none⟩) (GA bs k) c,.int .i64 0])/\g<w'.heap.size/\Bytes w' g 0 out/\IsOne bs k out/\Below w.heap.size w w':=by
 obtain⟨aa,M⟩:=D0 H ac U Y ag (by omega) (k:Int) T I;refine(Z44 w.heap.size 0 1 (w.heap.size+1) 0 1 1 _ _ [bs] [(k:Int)] _ rfl rfl aa (by simp) M (Z0m ah bs H O)).mono ?_;rintro e w' ⟨v,out,rfl,G,hr,Z,hb⟩;rw[MQ]at hr;have E:IsOne bs k out:=⟨hr,Z⟩
 obtain⟨g,c,rfl,_,af⟩:=Ba G E.pos;refine⟨g,c,out,by rw[E.len],af,fun j ae=> ?_,E,(((Below.refl w.heap.size w).alloc (VB _) _).alloc (by simp) _).trans (hb.mono (by simp;omega))⟩;rw[WG];have:=G.cellAt j (by omega)
 rw[this];simp[List.getD,ae]
end Go.Proofs.YtleocpdblhbimaaGreatDoor
