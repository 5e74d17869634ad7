import Derived.Test.YtleocpdblhbimaaGreatDoorQ35
set_option linter.unusedSimpArgs false
set_option maxHeartbeats 2000000
namespace Go.Proofs.YtleocpdblhbimaaGreatDoor
open Go.RowKit
set_option linter.unusedVariables false
set_option maxRecDepth 100000
theorem Rp.down {No No':Nat->Prop}{B F:Nat}{w G M w':World}{S O:List Bool}(E:Rp No B w F S G)(H:Below G.heap.size G M)(I:Rp No' B M F O w')(T:∀g,No g->No' g):Rp No B w F O w':=by
 have Z:=E.below.size;have Y:=H.size;have ac:=E.is.lt;have aa:=E.is.base;refine⟨I.is.grow (Below.refl _ _) (fun g e=>.inl (T g e)),E.below.trans ((H.mono (by omega)).trans I.below),fun g U hn=> ?_⟩;rw[I.kp g (by omega) (T g hn),H.block g (by omega)];exact E.kp g U hn
theorem Z52 {bs:List Nat}(F:∀j,bs.getD j 0<256)(G:bs.length<=3000):(Ha (Gi bs)).length<=15+60*bs.length:=by
 have E:=Wz F G;have H:=Lp Ky Ir Mk Mi (itsOf (Gi bs)) (PM E) (Ka E);have M:=Gb (Gi bs);have I:=BG bs;unfold Ha;omega
theorem TV (S:List Bool)(bs:List Nat):(Qm S bs).length<=S.length+40+8*bs.length:=by
 have:=Pk S.length
 unfold Qm;simp only[VE,XD,Ah,Af];omega
theorem C8 (No:Nat->Prop)(B F:Nat)(a:Option Addr)(n M I:Nat)(U:Bool)(bs:List Nat)(S:List Bool)(w:World)(h:RIs No B w F S)(ah:bs.length=n)(au:n<=3000)(bj:n<=M)(a6:a=none->M=0)(bv:I<=2)(ba:BytesIn w a bs)(ac:∀j,bs.getD j 0<256)(ay:∀b o,a=some ⟨b,o,none⟩->bs≠ []->No b)(ae:∀g,w.heap.size<=g->¬No g)(bz:S.length+60*n<=276000):
 Calls Tryz.prog 112 #[.pointer (some ⟨F,0,none⟩),.slice a n M,.int .i64 (I:Int),.bool U] w fun e w'=>e=.returned (.tuple #[])/\(JT S bs I U).length<=S.length+2400+60*n/\Rp No B w F (JT S bs I U) w':=by
 obtain⟨aa,ao⟩:=exq (S++ [U]);obtain⟨G,al⟩:=exq (aa++Al I 2);have l1:aa.length=S.length+1:=by rw[<-ao];simp
 have l2:G.length=S.length+3:=by rw[<-al,VE,Ah,l1]
 have bf:JT S bs I U=if I=0 then Qm G bs else if I=1 then G++Ha (Gi bs)else G++IK bs:=by unfold JT;rw[ao,al]
 have a2:Hid (Calls Tryz.prog 147 #[.pointer (some ⟨F,0,none⟩),.int .i64 (if U then 1 else 0),.int .i64 1] w fun e w'=>e=.returned (.tuple #[])/\Rp No B w F aa w'):=by
  rw[<-ao]
  cases U with
  |true=>exact Dp No B F 1 1 S w h (by decide) (by decide) (by omega) ae
  |false=>exact Dp No B F 0 1 S w h (by decide) (by decide) (by omega) ae
 have a8:Hid (∀Y,Rp No B w F aa Y->Calls Tryz.prog 147 #[.pointer (some ⟨F,0,none⟩),.int .i64 (I:Int),.int .i64 2] Y fun e w'=>e=.returned (.tuple #[])/\Rp No B w F G w'):=fun Y r=>by
  refine(Dp No B F I 2 aa Y r.is (by omega) (by decide) (by omega) (fun g Z=>ae g (by have:=r.below.size;omega))).mono ?_;rintro e w' ⟨rfl,r2⟩;rw[al]at r2;exact⟨rfl,r.trans r2⟩
 have ak:Hid (∀E,Rp No B w F G E->BytesIn E a bs):=fun E r=>Yu ba r.below.size (fun b o e ag hb=>r.kp b hb (ay b o e ag))
 have bb:Hid (∀E,Rp No B w F G E->Calls Tryz.prog 148 #[.pointer (some ⟨F,0,none⟩),.slice a n M] E fun e w'=>e=.returned (.tuple #[])/\Rp No B w F (Qm G bs) w'):=fun E r=>by
  refine(Xl No B F a n M bs G E r.is ah au a6 (Aa ak E r) ac ay (fun g Z=>ae g (by have:=r.below.size;omega)) (by omega)).mono ?_;rintro e w' ⟨rfl,r2⟩;exact⟨rfl,r.trans r2⟩
 obtain⟨L,a1⟩:=exq ((Gi bs).length);have bm:L<=n:=by have:=BG bs;omega
 have bg:Hid (∀E,Rp No B w F G E->Calls Tryz.prog 149 #[.slice a n M] E fun e w'=>∃H c1,e=.returned (.tuple #[.slice H L c1,.int .i64 0])/\TokIn w' H (Gi bs)/\(∀b o,H=some ⟨b,o,none⟩->Gi bs≠ []->E.heap.size<=b/\b<w'.heap.size)/\Below E.heap.size E w'):=fun E r=>EP a n M bs E ah au bj (Aa ak E r) ac L (Ab a1)
 have av:Hid (∀(E w3:World),Rp No B w F G E->Below E.heap.size E w3->RIs (fun g=>No g\/ (E.heap.size<=g/\g<w3.heap.size)) B w3 F G/\∀g,w3.heap.size<=g->¬(No g\/ (E.heap.size<=g/\g<w3.heap.size))):=fun E w3 r hb=>by
  refine⟨r.is.grow hb (fun g e=>by rcases e with e|e;exact .inl e;exact .inr e.1),fun g Z e=> ?_⟩;have:=hb.size
  have:=r.below.size
  rcases e with e|e
  . exact ae g (by omega) e
  . omega
 have a5:Hid (∀(E w3:World) (H:Option Addr) (c1:Nat),Rp No B w F G E->Below E.heap.size E w3->TokIn w3 H (Gi bs)->(∀b o,H=some ⟨b,o,none⟩->Gi bs≠ []->E.heap.size<=b/\b<w3.heap.size)->Calls Tryz.prog 150 #[.pointer (some ⟨F,0,none⟩),.slice H L c1] w3 fun e w'=>e=.returned (.tuple #[])/\Rp No B w F (G++Ha (Gi bs)) w'):=fun E w3 H c1 r hb T O=>by
  obtain⟨aw,ax⟩:=Aa av E w3 r hb;refine(C7 _ B F H L c1 (Gi bs) G w3 aw a1 (by omega) (Wz ac (by omega)) T (fun b o e ag=>.inr (O b o e ag)) ax (by omega)).mono ?_;rintro e w' ⟨rfl,r2⟩;exact⟨rfl,r.down hb r2 (fun g Z=>.inl Z)⟩
 have a7:Hid (∀(E w3:World) (H:Option Addr) (c1:Nat),Rp No B w F G E->Below E.heap.size E w3->TokIn w3 H (Gi bs)->(∀b o,H=some ⟨b,o,none⟩->Gi bs≠ []->E.heap.size<=b/\b<w3.heap.size)->Calls Tryz.prog 151 #[.pointer (some ⟨F,0,none⟩),.slice a n M,.slice H L c1] w3 fun e w'=>e=.returned (.tuple #[])/\(IK bs).length<=2300+60*n/\Rp No B w F (G++IK bs) w'):=fun E w3 H c1 r hb T O=>by
  obtain⟨aw,ax⟩:=Aa av E w3 r hb;refine(Tj _ B F a H n M L c1 bs G w3 aw ah au ((Aa ak E r).below hb (VB _)) ac T a1 bm (fun b o e ag=>.inr (O b o e ag)) ax (by omega)).mono ?_;rintro e w' ⟨rfl,ap,r2⟩;exact⟨rfl,ap,r.down hb r2 (fun g Z=>.inl Z)⟩
 have bc:=Ab (Z52 ac (by omega:bs.length<=3000));have bh:=Ab (TV G bs);have a4:=Ab ah;rw[bf];obtain⟨bu,bd⟩:=exq (Ha (Gi bs));obtain⟨b0,a9⟩:=exq (IK bs);obtain⟨bw,bi⟩:=exq (Qm G bs);rw[bd]at a5 bc ⊢;rw[a9]at a7 ⊢;rw[bi]at bb bh ⊢;clear bf ba ay ae a6 h ac av ak ah bd a9 bi ao al;have bn:I=0\/I=1\/I=2:=by omega
 go_enter Tryz.func112,Tryz.ntmps112
 go_upto_if 10 with (fail)
 go_cut [] (fun wc=>Hid (Rp No B w F aa wc))
 case first=>
  cases U with
  |true=>
   go_wp2_with fail
   refine(Aa a2).mono ?_;rintro e Y ⟨rfl,r⟩;have az:=Ab r;clear r;go_wp2;go_meet
   exact az
  |false=>
   go_wp2_with fail
   refine(Aa a2).mono ?_;rintro e Y ⟨rfl,r⟩;have az:=Ab r;clear r;go_wp2;go_meet
   exact az
 case rest=>
  have bq:=hcut;clear hcut;go_wp2_with fail
  refine(Aa a8 wc (Aa bq)).mono ?_;rintro e E ⟨rfl,r2⟩;have ai:=Ab r2;clear r2 a2 a8
  rcases bn with rfl|rfl|rfl
  . go_wp2_with fail
    refine(Aa bb E (Aa ai)).mono ?_;rintro e w3 ⟨rfl,a3⟩;have bk:=Ab a3;clear a3;go_wp2;refine bodyPost_ret (results_none rfl _ _ _) rfl ⟨rfl, ?_⟩;exact⟨by have:=Aa bh;rw[Aa a4]at this;omega,Aa bk⟩
  . go_wp2_with fail
    refine(Aa bg E (Aa ai)).mono ?_;rintro e w3 ⟨H,c1,rfl,T,O,hb⟩;have ar:=Ab (Aa a5 E w3 H c1 (Aa ai) hb T O);clear T O hb;go_wp2_with fail
    refine(Aa ar).mono ?_;rintro e bo ⟨rfl,af⟩;have aj:=Ab af;clear af;go_wp2;go_end0
    refine⟨rfl, ?_⟩;exact⟨by have:=Aa bc;rw[Aa a4]at this;omega,Aa aj⟩
  . go_wp2_with fail
    refine(Aa bg E (Aa ai)).mono ?_;rintro e w3 ⟨H,c1,rfl,T,O,hb⟩;have ar:=Ab (Aa a7 E w3 H c1 (Aa ai) hb T O);clear T O hb;go_wp2_with fail
    refine(Aa ar).mono ?_;rintro e bo ⟨rfl,ap,af⟩;have aj:=Ab (And.intro ap af);clear af ap;go_wp2;go_end0
    refine⟨rfl, ?_⟩;exact⟨by have:=(Aa aj).1;omega,(Aa aj).2⟩
end Go.Proofs.YtleocpdblhbimaaGreatDoor
namespace Go.Proofs.YtleocpdblhbimaaGreatDoor
open Go.RowKit
set_option linter.unusedVariables false
structure PartsIn (w:World)(b o:Nat)(A:Nat->Option Addr)(C:Nat->Nat)(bss:List (List Nat)):Prop where
 lt:b<w.heap.size
 cell:∀j,j<bss.length->w.cell? ⟨b,o+j,none⟩=some (.slice (A j) (bss.getD j []).length (C j))
 byt:∀j,j<bss.length->BytesIn w (A j) (bss.getD j [])
 cap:∀j,j<bss.length->(bss.getD j []).length<=C j
 nil:∀j,j<bss.length->A j=none->C j=0
 big:∀j,j<bss.length->(bss.getD j []).length+(if j=0 then 0 else 3000)<=9223372036854775807
 val:∀j i,(bss.getD j []).getD i 0<256
end Go.Proofs.YtleocpdblhbimaaGreatDoor
namespace Go.Proofs.YtleocpdblhbimaaGreatDoor
open Go.RowKit
set_option linter.unusedVariables false
set_option maxRecDepth 100000
def Q2:List Nat->List Int->Nat->Nat->Int
 | [],_,_,_=>0
 |n::r,ks,i,t=>if 3000<t+n\/40<=i then 2 else if ks.headD 0=0\/ks.headD 0=1\/ks.headD 0=2 then Q2 r ks.tail (i+1) (t+n)else 3
def JQ (ns:List Nat)(ks:List Int):Int:=if ns.length=0\/ks.length≠ns.length then 4 else Q2 ns ks 0 0
theorem Mh {F:Type}(l:List F)(d:F){k:Nat}(E:k<l.length):l.drop k=l.getD k d::l.drop (k+1):=by
 rw[WS E];simp[List.getD,E]
theorem We (b o bg:Nat)(ak:Option Addr)(H G bj:Nat)(A:Nat->Option Addr)(C:Nat->Nat)(E:List (List Nat))(ks:List Int)(w:World)(ah:E.length=H)(al:ks.length=G)(af:E= []\/PartsIn w b o A C E)(hK:RowIn .i64 w ak ks)(a2:Option Addr)(Z:E≠ []->a2=some ⟨b,o,none⟩)(I:Int)(ae:Hid (JQ (E.map List.length) ks=I)):
 Calls Tryz.prog 111 #[.slice a2 H bg,.slice ak G bj] w fun e w'=>e=.returned (.int .i64 I)/\w'=w:=by
 have a1:(E.map List.length).length=H:=by rw[WL];exact ah
 by_cases aa:H=0
 . subst aa;have ar:I=4:=by rw[<-Aa ae];unfold JQ;rw[if_pos (.inl a1)]
   subst ar;clear af hK Z;go_enter Tryz.func111,Tryz.ntmps111
   go_wp2;go_ret;exact⟨rfl,rfl⟩
 . have ag:E≠ []:=fun e=>aa (by rw[<-ah,e];rfl)
   obtain rfl:=Z ag;have ai:PartsIn w b o A C E:=by rcases af with h|h;exact absurd h ag;exact h
   have bo:((H:Int)==0)=false:=by rw[beq_eq_false_iff_ne];omega
   by_cases bd:G=H
   . subst bd
     have a8:∃b2 o2,ak=some ⟨b2,o2,none⟩/\Row .i64 w b2 o2 ks:=by
      rcases hK with h|⟨b2,o2,e,_,h⟩
      . exact absurd (by rw[<-al,h];rfl) aa
      . exact⟨b2,o2,e,h⟩
     obtain⟨b2,o2,rfl,ax⟩:=a8
     have a9:Hid (Q2 (E.map List.length) ks 0 0=I):=Ab (by
      have:=Aa ae
      unfold JQ at this;rw[if_neg (by rintro (h|h);exact aa (by omega);exact h (by omega))]at this;exact this)
     have bk:(((G:Int)==(G:Int)))=true:=by simp
     have a6:=Ab ai.cell;have ba:=Ab ai.big;have bi:=Ab ax;have T:=Ab ah;have aw:=Ab al;clear af hK ai ax ae a1 Z ag ah al bk;go_enter Tryz.func111,Tryz.ntmps111
     go_wp2;go_loop [5,20] (fun bb ao=>∃k t:Nat,k<=G/\t<=3000/\(k=0->t=0)/\bb=.int .i64 (t:Int)/\ao=.int .i64 (k:Int)/\Hid (Q2 ((E.map List.length).drop k) (ks.drop k) k t=I)) (fun _ ao=>G-(intOf ao).toNat)
     case atStart=>exact⟨0,0,VH _,by decide,fun _=>rfl,rfl,rfl,a9⟩
     case round=>
      obtain⟨k,t,bu,bw,au,rfl,rfl,hc⟩:=hrel
      by_cases O:k<G
      . have c1:=Aa a6 k (by rw[Aa T];exact O);have ac:=Aa ba k (by rw[Aa T];exact O);have c2:=Aa bi k (by rw[Aa aw];exact O);have Y:=Mh (E.map List.length) 0 (k:=k) (by rw[WL,Aa T];exact O);have ap:=Mh ks 0 (k:=k) (by rw[Aa aw];exact O)
        have av:(E.map List.length).getD k 0=(E.getD k []).length:=by
         have bf:k<E.length:=by rw[Aa T];exact O
         simp[List.getD,bf]
        rw[av]at Y;obtain⟨n,hn⟩:=exq ((E.getD k []).length);obtain⟨x,a3⟩:=exq (ks.getD k 0);rw[hn]at c1 ac Y;rw[a3]at c2 ap;have ay:Q2 ((E.map List.length).drop k) (ks.drop k) k t=if 3000<t+n\/40<=k then 2 else if x=0\/x=1\/x=2 then Q2 ((E.map List.length).drop (k+1)) (ks.drop (k+1)) (k+1) (t+n)else 3:=by rw[Y,ap,Q2];rfl
        have F:=Aa hc;rw[ay]at F;have bv:(k:Int)<(G:Int):=by omega
        have bq:t+n<=9223372036854775807:=by
         by_cases e:k=0
         . rw[if_pos e]at ac;have:=au e
           omega
         . rw[if_neg e]at ac;omega
        clear ac au hc Y ap av hn a3 ay;generalize A k=bm at*;generalize C k=cc at*
        by_cases aj:3000<t+n
        . rw[if_pos (.inl aj)]at F;subst F;have a4:(3000:Int)<(t:Int)+(n:Int)\/ (40:Int)<=(k:Int):=.inl (by omega);clear aj;go_wp2
          all_goals go_ret
          all_goals exact⟨rfl,rfl⟩
        . have a4:¬(3000:Int)<(t:Int)+(n:Int):=by omega
          by_cases a5:40<=k
          . rw[if_pos (.inr a5)]at F;subst F;have bh:(3000:Int)<(t:Int)+(n:Int)\/ (40:Int)<=(k:Int):=.inr (by omega);clear aj a5 a4;go_wp2
            all_goals go_ret
            all_goals exact⟨rfl,rfl⟩
          . have bh:¬((3000:Int)<(t:Int)+(n:Int)\/ (40:Int)<=(k:Int)):=by omega
            rw[if_neg (by omega)]at F
            by_cases M:x=0\/x=1\/x=2
            . rw[if_pos M]at F;have bc:=Ab F;clear F
              rcases M with rfl|rfl|rfl
              all_goals go_wp2
              all_goals go_round
              all_goals first|exact⟨k+1,t+n,by omega,by omega,fun e=>absurd e (by omega),by go_num,by go_num,bc⟩|(simp[intOf];omega)
            . rw[if_neg M]at F;subst F;have az:(x==0)=false:=by rw[beq_eq_false_iff_ne];exact fun e=>M (.inl e)
              have x1:(x==1)=false:=by rw[beq_eq_false_iff_ne];exact fun e=>M (.inr (.inl e))
              have x2:(x==2)=false:=by rw[beq_eq_false_iff_ne];exact fun e=>M (.inr (.inr e))
              have x3:((x !=0)=true/\(x !=1)=true)/\(x !=2)=true:=⟨⟨by simp[bne,az],by simp[bne,x1]⟩,by simp[bne,x2]⟩
              clear M;go_wp2
              all_goals first|(go_ret;exact⟨rfl,rfl⟩)|(exfalso;rename_i U;rcases U with (U|U)|U<;>simp[bne,az,x1,x2]at U)
      . obtain rfl:k=G:=by omega
        have a7:I=0:=by
         rw[<-Aa hc,XR (by rw[WL,Aa T];exact VB _)];rfl
        subst a7;clear hc;go_wp2;go_ret;exact⟨rfl,rfl⟩
   . have ar:I=4:=by rw[<-Aa ae];unfold JQ;rw[if_pos (.inr (by omega))]
     subst ar;have bn:((G:Int)==(H:Int))=false:=by rw[beq_eq_false_iff_ne];omega
     clear af hK ai Z ag;go_enter Tryz.func111,Tryz.ntmps111
     go_wp2;go_ret;exact⟨rfl,rfl⟩
def Gc (bss:List (List Nat))(ks:List Int):List (List Nat×Nat):=(bss.zip ks).map (fun p=>(p.1,p.2.toNat))
theorem Y2 (E:List (List Nat))(ks:List Int)(H:ks.length=E.length){k:Nat}(F:k<E.length):(Gc E ks).drop k=(E.getD k [],(ks.getD k 0).toNat)::(Gc E ks).drop (k+1):=by
 have hl:k<(Gc E ks).length:=by simp[Gc];omega
 rw[WS hl];have G:k<ks.length:=by omega
 simp[Gc,List.getD,F,G]
theorem Vi (E:List (List Nat))(ks:List Int)(F:ks.length=E.length):(Gc E ks).length=E.length:=by simp[Gc];omega
theorem QS {F:List Nat}{ks:List Int}{k t:Nat}{n:Nat}{x:Int}(M:k<F.length)(I:k<ks.length)(T:F.getD k 0=n)(U:ks.getD k 0=x)(E:Q2 (F.drop k) (ks.drop k) k t=0):t+n<=3000/\k<40/\(x=0\/x=1\/x=2)/\Q2 (F.drop (k+1)) (ks.drop (k+1)) (k+1) (t+n)=0:=by
 have H:=Mh F 0 M;have G:=Mh ks 0 I;rw[T]at H;rw[U]at G;rw[H,G,Q2]at E
 split at E
 . cases E
 . rename_i Y
   split at E
   . rename_i O
     exact⟨by omega,by omega,O,E⟩
   . cases E
theorem DO:∀(E:List Nat) (ks:List Int) (i t:Nat),Q2 E ks i t=0->E≠ []->i+E.length<=40
 | [],_,_,_,_,h=>absurd rfl h
 |n::r,ks,i,t,h,_=>by
  rw[Q2]at h
  split at h
  . cases h
  . rename_i F
    split at h
    . by_cases e:r= []
      . subst e;simp only[VJ,WE];omega
      . have:=DO r ks.tail (i+1) (t+n) h e
        rw[VJ];omega
    . cases h
theorem Z0e (b o O:Nat)(G:Option Addr)(H M Y:Nat)(Z:Nat->Option Addr)(C:Nat->Nat)(F:List (List Nat))(ks:List Int)(w:World)(ae:F.length=H)(af:ks.length=M)(U:F= []\/PartsIn w b o Z C F)(hK:RowIn .i64 w G ks)(I:Option Addr)(aa:F≠ []->I=some ⟨b,o,none⟩)(E:Int)(T:Hid (JQ (F.map List.length) ks=E))(ag:E≠0):
 Calls Tryz.prog 76 #[.slice I H O,.slice G M Y] w fun e w'=>e=.returned (.tuple #[.slice none 0 0,.int .i64 E])/\w'=w:=by
 have ac:=Ab (We b o O G H M Y Z C F ks w ae af U hK I aa E T);have hb:(E==0)=false:=by rw[beq_eq_false_iff_ne];exact ag
 have ah:(E !=0)=true:=by simp[bne,hb]
 clear U hK aa T;go_enter Tryz.func76,Tryz.ntmps76
 go_wp2_with fail
 refine(Aa ac).mono ?_;rintro e ai ⟨rfl,rfl⟩;go_wp2;go_ret2;exact⟨rfl,rfl⟩
theorem Z44 (b o bc U ae E bf:Nat)(A:Nat->Option Addr)(C:Nat->Nat)(G:List (List Nat))(ks:List Int)(w:World)(Y:G.length=E)(ak:ks.length=E)(aj:PartsIn w b o A C G)(bd:U<w.heap.size)(hK:Row .i64 w U ae ks)(I:JQ (G.map List.length) ks=0):
 Calls Tryz.prog 76 #[.slice (some ⟨b,o,none⟩) E bc,.slice (some ⟨U,ae,none⟩) E bf] w fun e w'=>∃v out,e=.returned (.tuple #[v,.int .i64 0])/\w'.ownsRow w.heap.size 5 1 v out.length (u8s out)/\rowB out out.length=padB (Tm (Gc G ks) [])/\(∀j,out.getD j 0<256)/\Below w.heap.size w w':=by
 have a5:=Ab (We b o bc (some ⟨U,ae,none⟩) E E bf A C G ks w Y ak (.inr aj) (.inr ⟨U,ae,rfl,bd,hK⟩) (some ⟨b,o,none⟩) (fun _=>rfl) 0 (Ab I))
 have bi:Hid (Q2 (G.map List.length) ks 0 0=0):=by
  unfold JQ at I
  split at I
  . cases I
  . exact I
 have co:0<E:=by
  unfold JQ at I
  split at I
  . cases I
  . rename_i h
    rw[WL,Y]at h;omega
 have cy:E<=40:=by
  have:=DO _ _ _ _ (Aa bi) (fun e=>by rw[List.map_eq_nil_iff]at e;rw[e]at Y;simp at Y;omega)
  rw[WL,Y]at this;omega
 have Z:=Ab Y;have ah:=Ab ak;have aa:=Ab aj;have bo:=Ab hK;have b4:=aj.lt;clear I aj hK Y ak;obtain⟨T,ao⟩:=exq (Tm (Gc G ks) []);rw[ao];have ce:=Ab ao;clear ao;have bz:=Ab (RIs.empty (No:=fun g=>g<w.heap.size) (B:=w.heap.size) (w:=w.alloc (.cells #[.slice none 0 0,.int .i64 0] 179)) (b:=w.heap.size) (VB _) (by simp) (heap_alloc_new _ _));go_enter Tryz.func76,Tryz.ntmps76
 go_wp2_with fail
 refine(Aa a5).mono ?_;rintro e F ⟨rfl,rfl⟩;clear a5;go_wp2;go_loopw [20] (fun v wr=>∃(k t:Nat) (S:List Bool),k<=E/\t<=3000/\v=.int .i64 (k:Int)/\Hid (Q2 ((G.map List.length).drop k) (ks.drop k) k t=0/\Rp (fun g=>g<F.heap.size) F.heap.size (F.alloc (.cells #[.slice none 0 0,.int .i64 0] 179)) F.heap.size S wr/\Tm ((Gc G ks).drop k) S=T/\S.length<=2400*k+60*t)) (fun v _=>E-(intOf v).toNat)
 case atStart=>exact⟨0,0,[],VH _,by decide,rfl,Ab ⟨Aa bi,Rp.refl (Aa bz),Aa ce,by simp⟩⟩
 case round=>
  obtain⟨k,t,S,cq,cw,rfl,a2⟩:=hrel;obtain⟨az,M,O,ck⟩:=Aa a2;have cj:=M.below.size;simp only[World.size_alloc]at cj;have af:∀g,g<F.heap.size->wr.heap[g]? =F.heap[g]? :=fun g ay=>(M.kp g (by simp;omega) ay).trans (Below.heap_alloc F _ g ay)
  by_cases bj:k<E
  . have H:k<G.length:=by rw[Aa Z];exact bj
    have ap:k<ks.length:=by rw[Aa ah];exact bj
    have c1:=(World.cell?_of_block (w:=F) (a:=⟨b,o+k,none⟩) (af b b4)).trans ((Aa aa).cell k H);have c2:=(World.cell?_of_block (w:=F) (a:=⟨U,ae+k,none⟩) (af U bd)).trans (Aa bo k ap);have a3:=Yu ((Aa aa).byt k H) (by omega) (fun bk ci _ _ b5=>af bk b5) (w':=wr);have ai:=(Aa aa).cap k H;have a8:=(Aa aa).nil k H;have au:=(Aa aa).val k;have ax:=(Aa aa).byt k H;have hid:=Y2 G ks (by rw[Aa Z,Aa ah]) H;rw[hid]at O;obtain⟨bs,av⟩:=exq (G.getD k []);obtain⟨x,a1⟩:=exq (ks.getD k 0);rw[av]at c1 a3 ai au O ax;rw[a1]at c2 O
    have a6:(G.map List.length).getD k 0=bs.length:=by
     rw[<-av];simp[List.getD,H]
    obtain⟨r1,r2,bh,aw⟩:=QS (by rw[WL];exact H) ap a6 a1 az
    obtain⟨ac,bq⟩:∃ac:Nat,x=(ac:Int)/\ac<=2:=by
     rcases bh with rfl|rfl|rfl
     . exact⟨0,rfl,by decide⟩
     . exact⟨1,rfl,by decide⟩
     . exact⟨2,rfl,by decide⟩
    obtain⟨rfl,bw⟩:=bq;rw[WM]at O;obtain⟨n,hn⟩:=exq (bs.length);rw[hn]at c1 ai r1 aw
    have bg:decide ((Gc G ks).drop (k+1)= [])=decide (k+1=E):=by
     have hl:=Vi G ks (by rw[Aa Z,Aa ah]);rw[Aa Z]at hl
     by_cases e:k+1=E
     . rw[decide_eq_true e,decide_eq_true];exact XR (by omega)
     . rw[decide_eq_false e,decide_eq_false];intro ag;have:=List.drop_eq_nil_iff.1 ag
       omega
    have al:Tm ((Gc G ks).drop (k+1)) (JT S bs ac (decide (k+1=E)))=T:=by rw[<-O,Tm,bg]
    have a9:=Ab (C8 (fun g=>g<F.heap.size) F.heap.size F.heap.size (A k) n (C k) ac (decide (k+1=E)) bs S wr M.is hn (by omega) ai a8 bw a3 au (fun bk ci e b3=>by
     rcases ax with h|⟨cu,cv,e3,b8,_⟩
     . exact absurd h b3
     . rw[e3]at e;cases e;exact b8) (fun g ay=>by omega) (by omega))
    have cm:((k:Int)==(E:Int)-1)=decide (k+1=E):=by
     by_cases e:k+1=E
     . rw[decide_eq_true e,beq_iff_eq];omega
     . rw[decide_eq_false e,beq_eq_false_iff_ne];omega
    obtain⟨la,ba⟩:=exq (decide (k+1=E));rw[ba]at cm al a9;clear ba;have bv:=Ab M;have b7:=Ab al;have bu:=Ab aw;have ct:(k:Int)<(E:Int):=by omega
    clear a2 az M O af a3 ai a8 au ax hid av a1 a6 bh aw bg al hn H ap;generalize A k=cn at*;generalize C k=cc at*;go_wp2_with fail
    refine(Aa a9).mono ?_;rintro e cp ⟨rfl,cz,bn⟩;have cg:=Ab ((Aa bv).trans bn);clear bn;go_wp2;go_roundw
    case rel=>exact⟨k+1,t+n,_,by omega,by omega,by go_num,Ab ⟨Aa bu,Aa cg,Aa b7,by omega⟩⟩
    case measure=>simp[intOf];omega
  . obtain rfl:E=k:=by omega
    rw[XR (by rw[Vi G ks (by rw[Aa Z,Aa ah]),Aa Z];exact VB _),Tm]at O;subst O;obtain⟨ov,bs,a4,ag,b0,bm,bb⟩:=M.is.ex;have c0:wr.cell? ⟨F.heap.size,0,none⟩=some ov:=Ac a4;obtain⟨a7,cc,rfl⟩:∃a c,ov=.slice a bs.length c:=An ag;have cd:Hid (wr.ownsRow F.heap.size 5 1 (.slice a7 bs.length cc) bs.length (u8s bs)/\rowB bs bs.length=padB S/\(∀j,bs.getD j 0<256)/\Below F.heap.size F wr):=⟨Pa ag (by omega),bb,bm,((Below.refl F.heap.size F).alloc (VB _) _).trans M.below⟩
    obtain⟨L,ar⟩:=exq (bs.length);have b9:=Ab ar;rw[ar]at c0;clear a2 az M ck af a4 ag b0 bm bb ar;go_wp2;go_ret2;exact⟨.slice a7 bs.length cc,bs,by rw[Aa b9];rfl,Aa cd⟩
noncomputable def oneB (bs:List Nat)(k:Nat):List Bool:=padB (JT [] bs k true)
noncomputable def GA (bs:List Nat)(k:Nat):Nat:=(oneB bs k).length/8
noncomputable def bestP (bs:List Nat):Nat->Nat
 |0=>0
 |1=>0
 |k+2=>if GA bs (k+1)<GA bs (bestP bs (k+1))then k+1 else bestP bs (k+1)
structure IsOne (bs:List Nat)(k:Nat)(out:List Nat):Prop where
 row:rowB out out.length=oneB bs k
 val:∀j,out.getD j 0<256
theorem IsOne.len {bs out:List Nat}{k:Nat}(E:IsOne bs k out):out.length=GA bs k:=by
 unfold GA;rw[<-E.row,Af];omega
theorem Z5k (bs:List Nat)(k:Nat)(E:Bool):3<=(JT [] bs k E).length:=by
 unfold JT
 split
 . unfold Qm;simp only[VE,Ah,VJ,WE,XD];omega
 . split<;>simp only[VE,Ah,VJ,WE]<;>omega
theorem IsOne.pos {bs out:List Nat}{k:Nat}(F:IsOne bs k out):0<out.length:=by
 have E:=congrArg List.length F.row;rw[Af]at E;unfold oneB at E;rw[Dr]at E;have:=Z5k bs k true
 omega
theorem MQ (bs:List Nat)(k:Nat):Tm (Gc [bs] [(k:Int)]) []=JT [] bs k true:=by
 have:Gc [bs] [(k:Int)]= [(bs,k)]:=by simp[Gc]
 rw[this,Tm,Tm];simp
theorem D0 {w:World}{a:Option Addr}{n F:Nat}{bs:List Nat}(H:bs.length=n)(U:n<=F)(Y:a=none->F=0)(O:BytesIn w a bs)(M:∀j,bs.getD j 0<256)(Z:n<=9223372036854775807)(k:Int)(T I:TypeId):
 PartsIn ((w.alloc (.cells #[.slice a n F] T)).alloc (.cells #[.int .i64 k] I)) w.heap.size 0 (fun _=>a) (fun _=>F) [bs]/\Row .i64 ((w.alloc (.cells #[.slice a n F] T)).alloc (.cells #[.int .i64 k] I)) (w.heap.size+1) 0 [k]:=by
 have G:∀j,j< [bs].length->j=0:=fun j E=>by simp at E;omega
 refine⟨⟨by simp;omega,fun j E=> ?_,fun j E=> ?_,fun j E=> ?_,fun j E=> ?_,fun j E=> ?_,fun j i=> ?_⟩,fun j E=> ?_⟩
 . rw[G j E];simp[H]
 . rw[G j E];exact O.below (((Below.refl w.heap.size w).alloc (VB _) _).alloc (by simp) _) (VB _)
 . rw[G j E];simpa[H]using U
 . exact fun e=>Y e
 . rw[G j E];simpa[H]using Z
 . cases j with
   |zero=>simpa using M i
   |succ j=>simp
 . have:j=0:=by simp at E;omega
   subst this;simp
theorem Z4c {n:Nat}(F:3000<n)(bs:List Nat)(E:bs.length=n)(k:Int):JQ ([bs].map List.length) [k]=2:=by
 unfold JQ;rw[if_neg (by simp)];simp only[WQ,ZE,Q2];rw[if_pos (.inl (by omega))]
theorem Z0m {n k:Nat}(G:n<=3000)(bs:List Nat)(E:bs.length=n)(F:k<=2):JQ ([bs].map List.length) [(k:Int)]=0:=by
 unfold JQ;rw[if_neg (by simp)];simp only[WQ,ZE,Q2];rw[if_neg (by omega)];exact if_pos (show (k:Int)=0\/ (k:Int)=1\/ (k:Int)=2 by omega)
theorem Z0l (a:Option Addr)(n E:Nat)(k:Int)(bs:List Nat)(w:World)(T F:TypeId)(G:bs.length=n)(Y:n<=E)(Z:a=none->E=0)(aa:BytesIn w a bs)(H:∀j,bs.getD j 0<256)(U:n<=9223372036854775807)(M:3000<n):
 Calls Tryz.prog 76 #[.slice (some ⟨w.heap.size,0,none⟩) 1 1,.slice (some ⟨w.heap.size+1,0,none⟩) 1 1] ((w.alloc (.cells #[.slice a n E] T)).alloc (.cells #[.int .i64 k] F)) fun e w'=>e=.returned (.tuple #[.slice none 0 0,.int .i64 2])/\Below w.heap.size w w':=by
 obtain⟨I,O⟩:=D0 G Y Z aa H U k T F;refine(Z0e w.heap.size 0 1 (some ⟨w.heap.size+1,0,none⟩) 1 1 1 _ _ [bs] [k] _ rfl rfl (.inr I) (.inr ⟨_,0,rfl,by simp,O⟩) (some ⟨w.heap.size,0,none⟩) (fun _=>rfl) 2 (Ab (Z4c M bs G k)) (by decide)).mono ?_;rintro e w' ⟨rfl,rfl⟩;exact⟨rfl,((Below.refl w.heap.size w).alloc (VB _) _).alloc (by simp) _⟩
theorem Z6j (a:Option Addr)(n F k:Nat)(bs:List Nat)(w:World)(T G:TypeId)(H:bs.length=n)(af:n<=F)(ag:a=none->F=0)(ah:BytesIn w a bs)(M:∀j,bs.getD j 0<256)(Z:n<=3000)(Y:k<=2):
 Calls Tryz.prog 76 #[.slice (some ⟨w.heap.size,0,none⟩) 1 1,.slice (some ⟨w.heap.size+1,0,none⟩) 1 1] ((w.alloc (.cells #[.slice a n F] T)).alloc (.cells #[.int .i64 (k:Int)] G)) fun e w'=>∃g c out,e=.returned (.tuple #[.slice (some ⟨g,0,none⟩) (GA bs k) c,.int .i64 0])/\g<w'.heap.size/\Bytes w' g 0 out/\IsOne bs k out/\Below w.heap.size w w':=by
 obtain⟨O,ac⟩:=D0 H af ag ah M (by omega) (k:Int) T G;refine(Z44 w.heap.size 0 1 (w.heap.size+1) 0 1 1 _ _ [bs] [(k:Int)] _ rfl rfl O (by simp) ac (Z0m Z bs H Y)).mono ?_;rintro e w' ⟨v,out,rfl,I,hr,U,hb⟩;rw[MQ]at hr;have E:IsOne bs k out:=⟨hr,U⟩
 obtain⟨g,c,rfl,_,ae⟩:=Ba I E.pos;refine⟨g,c,out,by rw[E.len],ae,fun j aa=> ?_,E,(((Below.refl w.heap.size w).alloc (VB _) _).alloc (by simp) _).trans (hb.mono (by simp;omega))⟩;rw[WG];have:=I.cellAt j (by omega)
 rw[this];simp[List.getD,aa]
end Go.Proofs.YtleocpdblhbimaaGreatDoor
namespace Go.Proofs.YtleocpdblhbimaaGreatDoor
set_option linter.unusedVariables false
set_option maxRecDepth 100000
end Go.Proofs.YtleocpdblhbimaaGreatDoor
