import Derived.Test.YtieianhejdcgdaaGreatDoorQ35
set_option linter.unusedSimpArgs false
set_option maxHeartbeats 2000000
namespace Go.Proofs.YtieianhejdcgdaaGreatDoor
open Go.RowKit
set_option linter.unusedVariables false
set_option maxRecDepth 100000
theorem Rp.down {No No':Nat->Prop}{B rb:Nat}{w w2 w3 w':World}{S S':List Bool}(h:Rp No B w rb S w2)(hB:Below w2.heap.size w2 w3)(hR:Rp No' B w3 rb S' w')(hle:∀g,No g->No' g):Rp No B w rb S' w':=by
 have hz:=h.below.size;have hz3:=hB.size;have hlt:=h.is.lt;have hba:=h.is.base;refine⟨hR.is.grow (Below.refl _ _) (fun g e=>.inl (hle g e)),h.below.trans ((hB.mono (by omega)).trans hR.below),fun g hg hn=> ?_⟩;rw[hR.kp g (by omega) (hle g hn),hB.block g (by omega)];exact h.kp g hg hn
theorem Z3h {bs:List Nat}(hx:∀j,bs.getD j 0<256)(hl:bs.length<=3000):(Gf (Dm bs)).length<=15+60*bs.length:=by
 have hV:=Kb hx hl;have h1:=Le Mn Ic Ly Lw (itsOf (Dm bs)) (NO hV) (Hr hV);have h2:=Gd (Dm bs);have h3:=Ot bs;unfold Gf;omega
theorem RC (S:List Bool)(bs:List Nat):(Ia S bs).length<=S.length+40+8*bs.length:=by
 have:=Jq S.length
 unfold Ia;simp only[VB,XT,Ae,Ag];omega
theorem A6 (No:Nat->Prop)(B rb:Nat)(a:Option Addr)(n cap kind:Nat)(last:Bool)(bs:List Nat)(S:List Bool)(w:World)(h:RIs No B w rb S)(hl:bs.length=n)(hn:n<=3000)(hcap:n<=cap)(hnil:a=none->cap=0)(hk:kind<=2)(hB:BytesIn w a bs)(hx:∀j,bs.getD j 0<256)(hTn:∀b o,a=some ⟨b,o,none⟩->bs≠ []->No b)(hNo:∀g,w.heap.size<=g->¬No g)(hS2:S.length+60*n<=276000):
 Calls Tryz.prog 120 #[.pointer (some ⟨rb,0,none⟩),.slice a n cap,.int .i64 (kind:Int),.bool last] w fun e w'=>e=.returned (.tuple #[])/\(Ko S bs kind last).length<=S.length+2400+60*n/\Rp No B w rb (Ko S bs kind last) w':=by
 obtain⟨S1,hS1⟩:∃S1,S++ [last]=S1:=⟨_,rfl⟩
 obtain⟨S2,hS2e⟩:∃S2,S1++Ah kind 2=S2:=⟨_,rfl⟩
 have l1:S1.length=S.length+1:=by rw[<-hS1];simp
 have l2:S2.length=S.length+3:=by rw[<-hS2e,VB,Ae,l1]
 have hblk:Ko S bs kind last=if kind=0 then Ia S2 bs else if kind=1 then S2++Gf (Dm bs)else S2++BZ bs:=by unfold Ko;rw[hS1,hS2e]
 have HP1:Hid (Calls Tryz.prog 155 #[.pointer (some ⟨rb,0,none⟩),.int .i64 (if last then 1 else 0),.int .i64 1] w fun e w'=>e=.returned (.tuple #[])/\Rp No B w rb S1 w'):=by
  rw[<-hS1]
  cases last with
  |true=>exact Dl No B rb 1 1 S w h (by decide) (by decide) (by omega) hNo
  |false=>exact Dl No B rb 0 1 S w h (by decide) (by decide) (by omega) hNo
 have HP2:Hid (∀w1,Rp No B w rb S1 w1->Calls Tryz.prog 155 #[.pointer (some ⟨rb,0,none⟩),.int .i64 (kind:Int),.int .i64 2] w1 fun e w'=>e=.returned (.tuple #[])/\Rp No B w rb S2 w'):=fun w1 r=>by
  refine(Dl No B rb kind 2 S1 w1 r.is (by omega) (by decide) (by omega) (fun g hg=>hNo g (by have:=r.below.size;omega))).mono ?_;rintro e w' ⟨rfl,r2⟩;rw[hS2e]at r2;exact⟨rfl,r.trans r2⟩
 have HBY:Hid (∀w2,Rp No B w rb S2 w2->BytesIn w2 a bs):=fun w2 r=>Xz hB r.below.size (fun b o e hne hb=>r.kp b hb (hTn b o e hne))
 have HST:Hid (∀w2,Rp No B w rb S2 w2->Calls Tryz.prog 156 #[.pointer (some ⟨rb,0,none⟩),.slice a n cap] w2 fun e w'=>e=.returned (.tuple #[])/\Rp No B w rb (Ia S2 bs) w'):=fun w2 r=>by
  refine(Wi No B rb a n cap bs S2 w2 r.is hl hn hnil (Aa HBY w2 r) hx hTn (fun g hg=>hNo g (by have:=r.below.size;omega)) (by omega)).mono ?_;rintro e w' ⟨rfl,r2⟩;exact⟨rfl,r.trans r2⟩
 obtain⟨L,hL⟩:∃L,(Dm bs).length=L:=⟨_,rfl⟩
 have hLn:L<=n:=by have:=Ot bs;omega
 have HTK:Hid (∀w2,Rp No B w rb S2 w2->Calls Tryz.prog 157 #[.slice a n cap] w2 fun e w'=>∃a1 c1,e=.returned (.tuple #[.slice a1 L c1,.int .i64 0])/\TokIn w' a1 (Dm bs)/\(∀b o,a1=some ⟨b,o,none⟩->Dm bs≠ []->w2.heap.size<=b/\b<w'.heap.size)/\Below w2.heap.size w2 w'):=fun w2 r=>DD a n cap bs w2 hl hn hcap (Aa HBY w2 r) hx L (Ab hL)
 have HNN:Hid (∀(w2 w3:World),Rp No B w rb S2 w2->Below w2.heap.size w2 w3->RIs (fun g=>No g\/ (w2.heap.size<=g/\g<w3.heap.size)) B w3 rb S2/\∀g,w3.heap.size<=g->¬(No g\/ (w2.heap.size<=g/\g<w3.heap.size))):=fun w2 w3 r hb=>by
  refine⟨r.is.grow hb (fun g e=>by rcases e with e|e;exact .inl e;exact .inr e.1),fun g hg e=> ?_⟩;have:=hb.size
  have:=r.below.size
  rcases e with e|e
  . exact hNo g (by omega) e
  . omega
 have HFX:Hid (∀(w2 w3:World) (a1:Option Addr) (c1:Nat),Rp No B w rb S2 w2->Below w2.heap.size w2 w3->TokIn w3 a1 (Dm bs)->(∀b o,a1=some ⟨b,o,none⟩->Dm bs≠ []->w2.heap.size<=b/\b<w3.heap.size)->Calls Tryz.prog 158 #[.pointer (some ⟨rb,0,none⟩),.slice a1 L c1] w3 fun e w'=>e=.returned (.tuple #[])/\Rp No B w rb (S2++Gf (Dm bs)) w'):=fun w2 w3 a1 c1 r hb ht ha=>by
  obtain⟨q1,q2⟩:=Aa HNN w2 w3 r hb;refine(A5 _ B rb a1 L c1 (Dm bs) S2 w3 q1 hL (by omega) (Kb hx (by omega)) ht (fun b o e hne=>.inr (ha b o e hne)) q2 (by omega)).mono ?_;rintro e w' ⟨rfl,r2⟩;exact⟨rfl,r.down hb r2 (fun g hg=>.inl hg)⟩
 have HDN:Hid (∀(w2 w3:World) (a1:Option Addr) (c1:Nat),Rp No B w rb S2 w2->Below w2.heap.size w2 w3->TokIn w3 a1 (Dm bs)->(∀b o,a1=some ⟨b,o,none⟩->Dm bs≠ []->w2.heap.size<=b/\b<w3.heap.size)->Calls Tryz.prog 159 #[.pointer (some ⟨rb,0,none⟩),.slice a n cap,.slice a1 L c1] w3 fun e w'=>e=.returned (.tuple #[])/\(BZ bs).length<=2300+60*n/\Rp No B w rb (S2++BZ bs) w'):=fun w2 w3 a1 c1 r hb ht ha=>by
  obtain⟨q1,q2⟩:=Aa HNN w2 w3 r hb;refine(Sy _ B rb a a1 n cap L c1 bs S2 w3 q1 hl hn ((Aa HBY w2 r).below hb (VC _)) hx ht hL hLn (fun b o e hne=>.inr (ha b o e hne)) q2 (by omega)).mono ?_;rintro e w' ⟨rfl,hp,r2⟩;exact⟨rfl,hp,r.down hb r2 (fun g hg=>.inl hg)⟩
 have HLF:=Ab (Z3h hx (by omega:bs.length<=3000));have HLS:=Ab (RC S2 bs);have HL:=Ab hl;rw[hblk];obtain⟨FB,hFB⟩:∃FB,Gf (Dm bs)=FB:=⟨_,rfl⟩
 obtain⟨DB,hDB⟩:∃DB,BZ bs=DB:=⟨_,rfl⟩
 obtain⟨SB,hSB⟩:∃SB,Ia S2 bs=SB:=⟨_,rfl⟩
 rw[hFB]at HFX HLF ⊢;rw[hDB]at HDN ⊢;rw[hSB]at HST HLS ⊢;clear hblk hB hTn hNo hnil h hx HNN HBY hl hFB hDB hSB hS1 hS2e;have hkk:kind=0\/kind=1\/kind=2:=by omega
 go_enter Tryz.func120,Tryz.ntmps120
 go_upto_if 10 with (fail)
 go_cut [] (fun wc=>Hid (Rp No B w rb S1 wc))
 case first=>
  cases last with
  |true=>
   go_wp2_with fail
   refine(Aa HP1).mono ?_;rintro e w1 ⟨rfl,r⟩;have HR:=Ab r;clear r;go_wp2;go_meet
   exact HR
  |false=>
   go_wp2_with fail
   refine(Aa HP1).mono ?_;rintro e w1 ⟨rfl,r⟩;have HR:=Ab r;clear r;go_wp2;go_meet
   exact HR
 case rest=>
  have HR1:=hcut;clear hcut;go_wp2_with fail
  refine(Aa HP2 wc (Aa HR1)).mono ?_;rintro e w2 ⟨rfl,r2⟩;have HR2:=Ab r2;clear r2 HP1 HP2
  rcases hkk with rfl|rfl|rfl
  . go_wp2_with fail
    refine(Aa HST w2 (Aa HR2)).mono ?_;rintro e w3 ⟨rfl,r3⟩;have HR3:=Ab r3;clear r3;go_wp2;refine bodyPost_ret (results_none rfl _ _ _) rfl ⟨rfl, ?_⟩;exact⟨by have:=Aa HLS;rw[Aa HL]at this;omega,Aa HR3⟩
  . go_wp2_with fail
    refine(Aa HTK w2 (Aa HR2)).mono ?_;rintro e w3 ⟨a1,c1,rfl,ht,ha,hb⟩;have HC:=Ab (Aa HFX w2 w3 a1 c1 (Aa HR2) hb ht ha);clear ht ha hb;go_wp2_with fail
    refine(Aa HC).mono ?_;rintro e w4 ⟨rfl,r4⟩;have HR4:=Ab r4;clear r4;go_wp2;go_end0
    refine⟨rfl, ?_⟩;exact⟨by have:=Aa HLF;rw[Aa HL]at this;omega,Aa HR4⟩
  . go_wp2_with fail
    refine(Aa HTK w2 (Aa HR2)).mono ?_;rintro e w3 ⟨a1,c1,rfl,ht,ha,hb⟩;have HC:=Ab (Aa HDN w2 w3 a1 c1 (Aa HR2) hb ht ha);clear ht ha hb;go_wp2_with fail
    refine(Aa HC).mono ?_;rintro e w4 ⟨rfl,hp,r4⟩;have HR4:=Ab (And.intro hp r4);clear r4 hp;go_wp2;go_end0
    refine⟨rfl, ?_⟩;exact⟨by have:=(Aa HR4).1;omega,(Aa HR4).2⟩
end Go.Proofs.YtieianhejdcgdaaGreatDoor
namespace Go.Proofs.YtieianhejdcgdaaGreatDoor
open Go.RowKit
set_option linter.unusedVariables false
structure PartsIn (w:World)(b o:Nat)(A:Nat->Option Addr)(C:Nat->Nat)(bss:List (List Nat)):Prop where
 lt:b<w.heap.size
 cell:∀j,j<bss.length->w.cell? ⟨b,o+j,none⟩=some (.slice (A j) (bss.getD j []).length (C j))
 byt:∀j,j<bss.length->BytesIn w (A j) (bss.getD j [])
 cap:∀j,j<bss.length->(bss.getD j []).length<=C j
 nil:∀j,j<bss.length->A j=none->C j=0
 big:∀j,j<bss.length->(bss.getD j []).length+(if j=0 then 0 else 3000)<=9223372036854775807
 val:∀j i,(bss.getD j []).getD i 0<256
end Go.Proofs.YtieianhejdcgdaaGreatDoor
namespace Go.Proofs.YtieianhejdcgdaaGreatDoor
open Go.RowKit
set_option linter.unusedVariables false
set_option maxRecDepth 100000
def N6:List Nat->List Int->Nat->Nat->Int
 | [],_,_,_=>0
 |n::r,ks,i,t=>if 3000<t+n\/40<=i then 2 else if ks.headD 0=0\/ks.headD 0=1\/ks.headD 0=2 then N6 r ks.tail (i+1) (t+n)else 3
def GV (ns:List Nat)(ks:List Int):Int:=if ns.length=0\/ks.length≠ns.length then 4 else N6 ns ks 0 0
theorem Lu {α:Type}(l:List α)(d:α){k:Nat}(hk:k<l.length):l.drop k=l.getD k d::l.drop (k+1):=by
 rw[XD hk];simp[List.getD,hk]
theorem Vh (b o cp:Nat)(bk:Option Addr)(np nk ck:Nat)(A:Nat->Option Addr)(C:Nat->Nat)(bss:List (List Nat))(ks:List Int)(w:World)(hp:bss.length=np)(hkl:ks.length=nk)(hP:bss= []\/PartsIn w b o A C bss)(hK:RowIn .i64 w bk ks)(ap:Option Addr)(hap:bss≠ []->ap=some ⟨b,o,none⟩)(E:Int)(hE:Hid (GV (bss.map List.length) ks=E)):
 Calls Tryz.prog 119 #[.slice ap np cp,.slice bk nk ck] w fun e w'=>e=.returned (.int .i64 E)/\w'=w:=by
 have hml:(bss.map List.length).length=np:=by rw[WN];exact hp
 by_cases h0:np=0
 . subst h0;have hE4:E=4:=by rw[<-Aa hE];unfold GV;rw[if_pos (.inl hml)]
   subst hE4;clear hP hK hap;go_enter Tryz.func119,Tryz.ntmps119
   go_wp2;go_ret;exact⟨rfl,rfl⟩
 . have hne:bss≠ []:=fun e=>h0 (by rw[<-hp,e];rfl)
   obtain rfl:=hap hne;have hPI:PartsIn w b o A C bss:=by rcases hP with h|h;exact absurd h hne;exact h
   have hb0:((np:Int)==0)=false:=by rw[beq_eq_false_iff_ne];omega
   by_cases hkk:nk=np
   . subst hkk
     have hbk:∃b2 o2,bk=some ⟨b2,o2,none⟩/\Row .i64 w b2 o2 ks:=by
      rcases hK with h|⟨b2,o2,e,_,h⟩
      . exact absurd (by rw[<-hkl,h];rfl) h0
      . exact⟨b2,o2,e,h⟩
     obtain⟨b2,o2,rfl,hrow⟩:=hbk
     have HE0:Hid (N6 (bss.map List.length) ks 0 0=E):=Ab (by
      have:=Aa hE
      unfold GV at this;rw[if_neg (by rintro (h|h);exact h0 (by omega);exact h (by omega))]at this;exact this)
     have hbb:(((nk:Int)==(nk:Int)))=true:=by simp
     have HC:=Ab hPI.cell;have HBG:=Ab hPI.big;have HR:=Ab hrow;have HP:=Ab hp;have HK:=Ab hkl;clear hP hK hPI hrow hE hml hap hne hp hkl hbb;go_enter Tryz.func119,Tryz.ntmps119
     go_wp2;go_loop [5,20] (fun v5 v20=>∃k t:Nat,k<=nk/\t<=3000/\(k=0->t=0)/\v5=.int .i64 (t:Int)/\v20=.int .i64 (k:Int)/\Hid (N6 ((bss.map List.length).drop k) (ks.drop k) k t=E)) (fun _ v20=>nk-(intOf v20).toNat)
     case atStart=>exact⟨0,0,VM _,by decide,fun _=>rfl,rfl,rfl,HE0⟩
     case round=>
      obtain⟨k,t,hk,ht,ht0,rfl,rfl,hc⟩:=hrel
      by_cases hlt:k<nk
      . have c1:=Aa HC k (by rw[Aa HP];exact hlt);have hbg:=Aa HBG k (by rw[Aa HP];exact hlt);have c2:=Aa HR k (by rw[Aa HK];exact hlt);have hd1:=Lu (bss.map List.length) 0 (k:=k) (by rw[WN,Aa HP];exact hlt);have hd2:=Lu ks 0 (k:=k) (by rw[Aa HK];exact hlt)
        have hgl:(bss.map List.length).getD k 0=(bss.getD k []).length:=by
         have hk2:k<bss.length:=by rw[Aa HP];exact hlt
         simp[List.getD,hk2]
        rw[hgl]at hd1;obtain⟨n,hn⟩:∃n,(bss.getD k []).length=n:=⟨_,rfl⟩
        obtain⟨x,hx⟩:∃x,ks.getD k 0=x:=⟨_,rfl⟩
        rw[hn]at c1 hbg hd1;rw[hx]at c2 hd2;have hstep:N6 ((bss.map List.length).drop k) (ks.drop k) k t=if 3000<t+n\/40<=k then 2 else if x=0\/x=1\/x=2 then N6 ((bss.map List.length).drop (k+1)) (ks.drop (k+1)) (k+1) (t+n)else 3:=by rw[hd1,hd2,N6];rfl
        have hc':=Aa hc;rw[hstep]at hc';have hltI:(k:Int)<(nk:Int):=by omega
        have hsum:t+n<=9223372036854775807:=by
         by_cases e:k=0
         . rw[if_pos e]at hbg;have:=ht0 e
           omega
         . rw[if_neg e]at hbg;omega
        clear hbg ht0 hc hd1 hd2 hgl hn hx hstep;generalize A k=ak at*;generalize C k=cc at*
        by_cases h1:3000<t+n
        . rw[if_pos (.inl h1)]at hc';subst hc';have h1I:(3000:Int)<(t:Int)+(n:Int)\/ (40:Int)<=(k:Int):=.inl (by omega);clear h1;go_wp2
          all_goals go_ret
          all_goals exact⟨rfl,rfl⟩
        . have h1I:¬(3000:Int)<(t:Int)+(n:Int):=by omega
          by_cases h2:40<=k
          . rw[if_pos (.inr h2)]at hc';subst hc';have h2I:(3000:Int)<(t:Int)+(n:Int)\/ (40:Int)<=(k:Int):=.inr (by omega);clear h1 h2 h1I;go_wp2
            all_goals go_ret
            all_goals exact⟨rfl,rfl⟩
          . have h2I:¬((3000:Int)<(t:Int)+(n:Int)\/ (40:Int)<=(k:Int)):=by omega
            rw[if_neg (by omega)]at hc'
            by_cases hx3:x=0\/x=1\/x=2
            . rw[if_pos hx3]at hc';have HC':=Ab hc';clear hc'
              rcases hx3 with rfl|rfl|rfl
              all_goals go_wp2
              all_goals go_round
              all_goals first|exact⟨k+1,t+n,by omega,by omega,fun e=>absurd e (by omega),by go_num,by go_num,HC'⟩|(simp[intOf];omega)
            . rw[if_neg hx3]at hc';subst hc';have x0:(x==0)=false:=by rw[beq_eq_false_iff_ne];exact fun e=>hx3 (.inl e)
              have x1:(x==1)=false:=by rw[beq_eq_false_iff_ne];exact fun e=>hx3 (.inr (.inl e))
              have x2:(x==2)=false:=by rw[beq_eq_false_iff_ne];exact fun e=>hx3 (.inr (.inr e))
              have x3:((x !=0)=true/\(x !=1)=true)/\(x !=2)=true:=⟨⟨by simp[bne,x0],by simp[bne,x1]⟩,by simp[bne,x2]⟩
              clear hx3;go_wp2
              all_goals first|(go_ret;exact⟨rfl,rfl⟩)|(exfalso;rename_i h9;rcases h9 with (h9|h9)|h9<;>simp[bne,x0,x1,x2]at h9)
      . obtain rfl:k=nk:=by omega
        have hE2:E=0:=by
         rw[<-Aa hc,XY (by rw[WN,Aa HP];exact VC _)];rfl
        subst hE2;clear hc;go_wp2;go_ret;exact⟨rfl,rfl⟩
   . have hE4:E=4:=by rw[<-Aa hE];unfold GV;rw[if_pos (.inr (by omega))]
     subst hE4;have hbn:((nk:Int)==(np:Int))=false:=by rw[beq_eq_false_iff_ne];omega
     clear hP hK hPI hap hne;go_enter Tryz.func119,Tryz.ntmps119
     go_wp2;go_ret;exact⟨rfl,rfl⟩
def Fa (bss:List (List Nat))(ks:List Int):List (List Nat×Nat):=(bss.zip ks).map (fun p=>(p.1,p.2.toNat))
theorem T7 (bss:List (List Nat))(ks:List Int)(h:ks.length=bss.length){k:Nat}(hk:k<bss.length):(Fa bss ks).drop k=(bss.getD k [],(ks.getD k 0).toNat)::(Fa bss ks).drop (k+1):=by
 have hl:k<(Fa bss ks).length:=by simp[Fa];omega
 rw[XD hl];have hk2:k<ks.length:=by omega
 simp[Fa,List.getD,hk,hk2]
theorem Ul (bss:List (List Nat))(ks:List Int)(h:ks.length=bss.length):(Fa bss ks).length=bss.length:=by simp[Fa];omega
theorem OW {ns:List Nat}{ks:List Int}{k t:Nat}{n:Nat}{x:Int}(hn:k<ns.length)(hk:k<ks.length)(en:ns.getD k 0=n)(ex:ks.getD k 0=x)(h:N6 (ns.drop k) (ks.drop k) k t=0):t+n<=3000/\k<40/\(x=0\/x=1\/x=2)/\N6 (ns.drop (k+1)) (ks.drop (k+1)) (k+1) (t+n)=0:=by
 have hd1:=Lu ns 0 hn;have hd2:=Lu ks 0 hk;rw[en]at hd1;rw[ex]at hd2;rw[hd1,hd2,N6]at h
 split at h
 . cases h
 . rename_i h1
   split at h
   . rename_i h2
     exact⟨by omega,by omega,h2,h⟩
   . cases h
theorem CG:∀(ns:List Nat) (ks:List Int) (i t:Nat),N6 ns ks i t=0->ns≠ []->i+ns.length<=40
 | [],_,_,_,_,h=>absurd rfl h
 |n::r,ks,i,t,h,_=>by
  rw[N6]at h
  split at h
  . cases h
  . rename_i h1
    split at h
    . by_cases e:r= []
      . subst e;simp only[VH,VQ];omega
      . have:=CG r ks.tail (i+1) (t+n) h e
        rw[VH];omega
    . cases h
theorem RX (b o cp:Nat)(bk:Option Addr)(np nk ck:Nat)(A:Nat->Option Addr)(C:Nat->Nat)(bss:List (List Nat))(ks:List Int)(w:World)(hp:bss.length=np)(hkl:ks.length=nk)(hP:bss= []\/PartsIn w b o A C bss)(hK:RowIn .i64 w bk ks)(ap:Option Addr)(hap:bss≠ []->ap=some ⟨b,o,none⟩)(E:Int)(hE:Hid (GV (bss.map List.length) ks=E))(h0:E≠0):
 Calls Tryz.prog 84 #[.slice ap np cp,.slice bk nk ck] w fun e w'=>e=.returned (.tuple #[.slice none 0 0,.int .i64 E])/\w'=w:=by
 have HC:=Ab (Vh b o cp bk np nk ck A C bss ks w hp hkl hP hK ap hap E hE);have hb:(E==0)=false:=by rw[beq_eq_false_iff_ne];exact h0
 have hb2:(E !=0)=true:=by simp[bne,hb]
 clear hP hK hap hE;go_enter Tryz.func84,Tryz.ntmps84
 go_wp2_with fail
 refine(Aa HC).mono ?_;rintro e w1 ⟨rfl,rfl⟩;go_wp2;go_ret2;exact⟨rfl,rfl⟩
theorem Z2n (b o cp b2 o2 np ck:Nat)(A:Nat->Option Addr)(C:Nat->Nat)(bss:List (List Nat))(ks:List Int)(w:World)(hp:bss.length=np)(hkl:ks.length=np)(hP:PartsIn w b o A C bss)(hb2:b2<w.heap.size)(hK:Row .i64 w b2 o2 ks)(hE:GV (bss.map List.length) ks=0):
 Calls Tryz.prog 84 #[.slice (some ⟨b,o,none⟩) np cp,.slice (some ⟨b2,o2,none⟩) np ck] w fun e w'=>∃v out,e=.returned (.tuple #[v,.int .i64 0])/\w'.ownsRow w.heap.size 5 1 v out.length (u8s out)/\rowB out out.length=padB (Gc (Fa bss ks) [])/\(∀j,out.getD j 0<256)/\Below w.heap.size w w':=by
 have HC:=Ab (Vh b o cp (some ⟨b2,o2,none⟩) np np ck A C bss ks w hp hkl (.inr hP) (.inr ⟨b2,o2,rfl,hb2,hK⟩) (some ⟨b,o,none⟩) (fun _=>rfl) 0 (Ab hE))
 have HE0:Hid (N6 (bss.map List.length) ks 0 0=0):=by
  unfold GV at hE
  split at hE
  . cases hE
  . exact hE
 have hnp:0<np:=by
  unfold GV at hE
  split at hE
  . cases hE
  . rename_i h
    rw[WN,hp]at h;omega
 have hnp40:np<=40:=by
  have:=CG _ _ _ _ (Aa HE0) (fun e=>by rw[List.map_eq_nil_iff]at e;rw[e]at hp;simp at hp;omega)
  rw[WN,hp]at this;omega
 have HP:=Ab hp;have HKL:=Ab hkl;have HPI:=Ab hP;have HK:=Ab hK;have hbp:=hP.lt;clear hE hP hK hp hkl;obtain⟨T,hT⟩:∃T,Gc (Fa bss ks) []=T:=⟨_,rfl⟩
 rw[hT];have HT:=Ab hT;clear hT;have HR0:=Ab (RIs.empty (No:=fun g=>g<w.heap.size) (B:=w.heap.size) (w:=w.alloc (.cells #[.slice none 0 0,.int .i64 0] 184)) (b:=w.heap.size) (VC _) (by simp) (heap_alloc_new _ _));go_enter Tryz.func84,Tryz.ntmps84
 go_wp2_with fail
 refine(Aa HC).mono ?_;rintro e w1 ⟨rfl,rfl⟩;clear HC;go_wp2;go_loopw [20] (fun v wr=>∃(k t:Nat) (S:List Bool),k<=np/\t<=3000/\v=.int .i64 (k:Int)/\Hid (N6 ((bss.map List.length).drop k) (ks.drop k) k t=0/\Rp (fun g=>g<w1.heap.size) w1.heap.size (w1.alloc (.cells #[.slice none 0 0,.int .i64 0] 184)) w1.heap.size S wr/\Gc ((Fa bss ks).drop k) S=T/\S.length<=2400*k+60*t)) (fun v _=>np-(intOf v).toNat)
 case atStart=>exact⟨0,0,[],VM _,by decide,rfl,Ab ⟨Aa HE0,Rp.refl (Aa HR0),Aa HT,by simp⟩⟩
 case round=>
  obtain⟨k,t,S,hk,ht,rfl,hst⟩:=hrel;obtain⟨s1,s2,s3,s4⟩:=Aa hst;have hzr:=s2.below.size;simp only[World.size_alloc]at hzr;have hkeep:∀g,g<w1.heap.size->wr.heap[g]? =w1.heap[g]? :=fun g hg=>(s2.kp g (by simp;omega) hg).trans (Below.heap_alloc w1 _ g hg)
  by_cases hlt:k<np
  . have hkb:k<bss.length:=by rw[Aa HP];exact hlt
    have hkk:k<ks.length:=by rw[Aa HKL];exact hlt
    have c1:=(World.cell?_of_block (w:=w1) (a:=⟨b,o+k,none⟩) (hkeep b hbp)).trans ((Aa HPI).cell k hkb);have c2:=(World.cell?_of_block (w:=w1) (a:=⟨b2,o2+k,none⟩) (hkeep b2 hb2)).trans (Aa HK k hkk);have hby:=Xz ((Aa HPI).byt k hkb) (by omega) (fun b' o' _ _ hb'=>hkeep b' hb') (w':=wr);have hcp:=(Aa HPI).cap k hkb;have hnl:=(Aa HPI).nil k hkb;have hvl:=(Aa HPI).val k;have hib:=(Aa HPI).byt k hkb;have hid:=T7 bss ks (by rw[Aa HP,Aa HKL]) hkb;rw[hid]at s3;obtain⟨bs,hbs⟩:∃bs,bss.getD k []=bs:=⟨_,rfl⟩
    obtain⟨x,hx⟩:∃x,ks.getD k 0=x:=⟨_,rfl⟩
    rw[hbs]at c1 hby hcp hvl s3 hib;rw[hx]at c2 s3
    have hgl:(bss.map List.length).getD k 0=bs.length:=by
     rw[<-hbs];simp[List.getD,hkb]
    obtain⟨r1,r2,r3,r4⟩:=OW (by rw[WN];exact hkb) hkk hgl hx s1
    obtain⟨x',hx'⟩:∃x':Nat,x=(x':Int)/\x'<=2:=by
     rcases r3 with rfl|rfl|rfl
     . exact⟨0,rfl,by decide⟩
     . exact⟨1,rfl,by decide⟩
     . exact⟨2,rfl,by decide⟩
    obtain⟨rfl,hx2⟩:=hx';rw[WL]at s3;obtain⟨n,hn⟩:∃n,bs.length=n:=⟨_,rfl⟩
    rw[hn]at c1 hcp r1 r4
    have hlast:decide ((Fa bss ks).drop (k+1)= [])=decide (k+1=np):=by
     have hl:=Ul bss ks (by rw[Aa HP,Aa HKL]);rw[Aa HP]at hl
     by_cases e:k+1=np
     . rw[decide_eq_true e,decide_eq_true];exact XY (by omega)
     . rw[decide_eq_false e,decide_eq_false];intro h2;have:=List.drop_eq_nil_iff.1 h2
       omega
    have hpk:Gc ((Fa bss ks).drop (k+1)) (Ko S bs x' (decide (k+1=np)))=T:=by rw[<-s3,Gc,hlast]
    have HPB:=Ab (A6 (fun g=>g<w1.heap.size) w1.heap.size w1.heap.size (A k) n (C k) x' (decide (k+1=np)) bs S wr s2.is hn (by omega) hcp hnl hx2 hby hvl (fun b' o' e hne=>by
     rcases hib with h|⟨b3,o3,e3,hb3,_⟩
     . exact absurd h hne
     . rw[e3]at e;cases e;exact hb3) (fun g hg=>by omega) (by omega))
    have hbq:((k:Int)==(np:Int)-1)=decide (k+1=np):=by
     by_cases e:k+1=np
     . rw[decide_eq_true e,beq_iff_eq];omega
     . rw[decide_eq_false e,beq_eq_false_iff_ne];omega
    obtain⟨la,hla⟩:∃la,decide (k+1=np)=la:=⟨_,rfl⟩
    rw[hla]at hbq hpk HPB;clear hla;have HS2:=Ab s2;have HPK:=Ab hpk;have HR4:=Ab r4;have hkI:(k:Int)<(np:Int):=by omega
    clear hst s1 s2 s3 hkeep hby hcp hnl hvl hib hid hbs hx hgl r3 r4 hlast hpk hn hkb hkk;generalize A k=ak at*;generalize C k=cc at*;go_wp2_with fail
    refine(Aa HPB).mono ?_;rintro e w4 ⟨rfl,hle,hR⟩;have HN:=Ab ((Aa HS2).trans hR);clear hR;go_wp2;go_roundw
    case rel=>exact⟨k+1,t+n,_,by omega,by omega,by go_num,Ab ⟨Aa HR4,Aa HN,Aa HPK,by omega⟩⟩
    case measure=>simp[intOf];omega
  . obtain rfl:np=k:=by omega
    rw[XY (by rw[Ul bss ks (by rw[Aa HP,Aa HKL]),Aa HP];exact VC _),Gc]at s3;subst s3;obtain⟨ov,bs,h1,h2,h3,h4,h5⟩:=s2.is.ex;have c0:wr.cell? ⟨w1.heap.size,0,none⟩=some ov:=Ac h1;obtain⟨a',cc,rfl⟩:∃a c,ov=.slice a bs.length c:=Ao h2;have HF:Hid (wr.ownsRow w1.heap.size 5 1 (.slice a' bs.length cc) bs.length (u8s bs)/\rowB bs bs.length=padB S/\(∀j,bs.getD j 0<256)/\Below w1.heap.size w1 wr):=⟨Wo h2 (by omega),h5,h4,((Below.refl w1.heap.size w1).alloc (VC _) _).trans s2.below⟩
    obtain⟨L,hL⟩:∃L,bs.length=L:=⟨_,rfl⟩
    have HL:=Ab hL;rw[hL]at c0;clear hst s1 s2 s4 hkeep h1 h2 h3 h4 h5 hL;go_wp2;go_ret2;exact⟨.slice a' bs.length cc,bs,by rw[Aa HL];rfl,Aa HF⟩
theorem RN {x y:List Nat}(hx:∀j,x.getD j 0<256)(hy:∀j,y.getD j 0<256)(h:rowB x x.length=rowB y y.length):x=y:=by
 have hl:=congrArg List.length h;rw[Ag,Ag]at hl;have hl2:x.length=y.length:=by omega
 apply XF hl2
 intro j h1 h2;have e1:x[j]=x.getD j 0:=by simp[List.getD,h1]
 have e2:y[j]=y.getD j 0:=by simp[List.getD,h2]
 rw[e1,e2];apply Nat.eq_of_testBit_eq
 intro i
 by_cases hi:i<8
 . have p1:=Fy x x.length (8*j+i) (by omega);have p2:=Fy y y.length (8*j+i) (by omega);rw[h,p2]at p1;unfold Jy at p1;rw[show (8*j+i)/8=j by omega,show (8*j+i)%8=i by omega]at p1;exact p1.symm
 . have b:∀m,m<256->m.testBit i=false:=fun m hm=>Nat.testBit_lt_two_pow (VK hm (show 2^8<=2^i from VV (by decide) (by omega)))
   rw[b _ (hx j),b _ (hy j)]
noncomputable def oneB (bs:List Nat)(k:Nat):List Bool:=padB (Ko [] bs k true)
noncomputable def EI (bs:List Nat)(k:Nat):Nat:=(oneB bs k).length/8
noncomputable def bestP (bs:List Nat):Nat->Nat
 |0=>0
 |1=>0
 |k+2=>if EI bs (k+1)<EI bs (bestP bs (k+1))then k+1 else bestP bs (k+1)
structure IsOne (bs:List Nat)(k:Nat)(out:List Nat):Prop where
 row:rowB out out.length=oneB bs k
 val:∀j,out.getD j 0<256
theorem IsOne.len {bs out:List Nat}{k:Nat}(h:IsOne bs k out):out.length=EI bs k:=by
 unfold EI;rw[<-h.row,Ag];omega
theorem IsOne.one {bs x y:List Nat}{k:Nat}(h:IsOne bs k x)(h2:IsOne bs k y):x=y:=RN h.val h2.val (by rw[h.row,h2.row])
theorem Z46 (bs:List Nat)(k:Nat)(last:Bool):3<=(Ko [] bs k last).length:=by
 unfold Ko
 split
 . unfold Ia;simp only[VB,Ae,VH,VQ,XT];omega
 . split<;>simp only[VB,Ae,VH,VQ]<;>omega
theorem IsOne.pos {bs out:List Nat}{k:Nat}(h:IsOne bs k out):0<out.length:=by
 have h1:=congrArg List.length h.row;rw[Ag]at h1;unfold oneB at h1;rw[Cm]at h1;have:=Z46 bs k true
 omega
theorem B2 (bs:List Nat)(k:Nat):Gc (Fa [bs] [(k:Int)]) []=Ko [] bs k true:=by
 have:Fa [bs] [(k:Int)]= [(bs,k)]:=by simp[Fa]
 rw[this,Gc,Gc];simp
theorem A8 {w:World}{a:Option Addr}{n cap:Nat}{bs:List Nat}(hl:bs.length=n)(hcap:n<=cap)(hnil:a=none->cap=0)(hB:BytesIn w a bs)(hx:∀j,bs.getD j 0<256)(hm:n<=9223372036854775807)(k:Int)(T U:TypeId):
 PartsIn ((w.alloc (.cells #[.slice a n cap] T)).alloc (.cells #[.int .i64 k] U)) w.heap.size 0 (fun _=>a) (fun _=>cap) [bs]/\Row .i64 ((w.alloc (.cells #[.slice a n cap] T)).alloc (.cells #[.int .i64 k] U)) (w.heap.size+1) 0 [k]:=by
 have hj0:∀j,j< [bs].length->j=0:=fun j hj=>by simp at hj;omega
 refine⟨⟨by simp;omega,fun j hj=> ?_,fun j hj=> ?_,fun j hj=> ?_,fun j hj=> ?_,fun j hj=> ?_,fun j i=> ?_⟩,fun j hj=> ?_⟩
 . rw[hj0 j hj];simp[hl]
 . rw[hj0 j hj];exact hB.below (((Below.refl w.heap.size w).alloc (VC _) _).alloc (by simp) _) (VC _)
 . rw[hj0 j hj];simpa[hl]using hcap
 . exact fun e=>hnil e
 . rw[hj0 j hj];simpa[hl]using hm
 . cases j with
   |zero=>simpa using hx i
   |succ j=>simp
 . have:j=0:=by simp at hj;omega
   subst this;simp
theorem Z2t {n:Nat}(h:3000<n)(bs:List Nat)(hl:bs.length=n)(k:Int):GV ([bs].map List.length) [k]=2:=by
 unfold GV;rw[if_neg (by simp)];simp only[WG,YB,N6];rw[if_pos (.inl (by omega))]
theorem SG {n k:Nat}(h:n<=3000)(bs:List Nat)(hl:bs.length=n)(hk:k<=2):GV ([bs].map List.length) [(k:Int)]=0:=by
 unfold GV;rw[if_neg (by simp)];simp only[WG,YB,N6];rw[if_neg (by omega)];exact if_pos (show (k:Int)=0\/ (k:Int)=1\/ (k:Int)=2 by omega)
theorem SF (a:Option Addr)(n cap:Nat)(k:Int)(bs:List Nat)(w:World)(T U:TypeId)(hl:bs.length=n)(hcap:n<=cap)(hnil:a=none->cap=0)(hB:BytesIn w a bs)(hx:∀j,bs.getD j 0<256)(hm:n<=9223372036854775807)(hn:3000<n):
 Calls Tryz.prog 84 #[.slice (some ⟨w.heap.size,0,none⟩) 1 1,.slice (some ⟨w.heap.size+1,0,none⟩) 1 1] ((w.alloc (.cells #[.slice a n cap] T)).alloc (.cells #[.int .i64 k] U)) fun e w'=>e=.returned (.tuple #[.slice none 0 0,.int .i64 2])/\Below w.heap.size w w':=by
 obtain⟨h1,h2⟩:=A8 hl hcap hnil hB hx hm k T U;refine(RX w.heap.size 0 1 (some ⟨w.heap.size+1,0,none⟩) 1 1 1 _ _ [bs] [k] _ rfl rfl (.inr h1) (.inr ⟨_,0,rfl,by simp,h2⟩) (some ⟨w.heap.size,0,none⟩) (fun _=>rfl) 2 (Ab (Z2t hn bs hl k)) (by decide)).mono ?_;rintro e w' ⟨rfl,rfl⟩;exact⟨rfl,((Below.refl w.heap.size w).alloc (VC _) _).alloc (by simp) _⟩
theorem Z5b (a:Option Addr)(n cap k:Nat)(bs:List Nat)(w:World)(T U:TypeId)(hl:bs.length=n)(hcap:n<=cap)(hnil:a=none->cap=0)(hB:BytesIn w a bs)(hx:∀j,bs.getD j 0<256)(hn:n<=3000)(hk:k<=2):
 Calls Tryz.prog 84 #[.slice (some ⟨w.heap.size,0,none⟩) 1 1,.slice (some ⟨w.heap.size+1,0,none⟩) 1 1] ((w.alloc (.cells #[.slice a n cap] T)).alloc (.cells #[.int .i64 (k:Int)] U)) fun e w'=>∃g c out,e=.returned (.tuple #[.slice (some ⟨g,0,none⟩) (EI bs k) c,.int .i64 0])/\g<w'.heap.size/\Bytes w' g 0 out/\IsOne bs k out/\Below w.heap.size w w':=by
 obtain⟨h1,h2⟩:=A8 hl hcap hnil hB hx (by omega) (k:Int) T U;refine(Z2n w.heap.size 0 1 (w.heap.size+1) 0 1 1 _ _ [bs] [(k:Int)] _ rfl rfl h1 (by simp) h2 (SG hn bs hl hk)).mono ?_;rintro e w' ⟨v,out,rfl,hO,hr,hv,hb⟩;rw[B2]at hr;have hI:IsOne bs k out:=⟨hr,hv⟩
 obtain⟨g,c,rfl,_,hg⟩:=Bt hO hI.pos;refine⟨g,c,out,by rw[hI.len],hg,fun j hj=> ?_,hI,(((Below.refl w.heap.size w).alloc (VC _) _).alloc (by simp) _).trans (hb.mono (by simp;omega))⟩;rw[WI];have:=hO.cellAt j (by omega)
 rw[this];simp[List.getD,hj]
end Go.Proofs.YtieianhejdcgdaaGreatDoor
