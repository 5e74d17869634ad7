import Derived.Test.YtleocpdblhbimaaGreatDoorQ31
set_option linter.unusedSimpArgs false
set_option maxHeartbeats 1000000
namespace Go.Proofs.YtleocpdblhbimaaGreatDoor
open Go.RowKit
set_option linter.unusedVariables false
set_option maxRecDepth 100000
def J0:List Nat->List Int->Nat->Nat->Int
 | [],_,_,_=>0
 |n::r,ks,i,t=>if 3000<t+n\/40<=i then 2 else if ks.headD 0=0\/ks.headD 0=1\/ks.headD 0=2 then J0 r ks.tail (i+1) (t+n)else 3
def FI (ns:List Nat)(ks:List Int):Int:=if ns.length=0\/ks.length≠ns.length then 4 else J0 ns ks 0 0
theorem Ly {α:Type}(l:List α)(d:α){k:Nat}(hk:k<l.length):l.drop k=l.getD k d::l.drop (k+1):=by
 rw[WU hk];simp[List.getD,hk]
theorem Vd (b o cp:Nat)(bk:Option Addr)(np nk ck:Nat)(A:Nat->Option Addr)(C:Nat->Nat)(bss:List (List Nat))(ks:List Int)(w:World)(hp:bss.length=np)(hkl:ks.length=nk)(hP:bss= []\/PartsIn w b o A C bss)(hK:RowIn .i64 w bk ks)(ap:Option Addr)(hap:bss≠ []->ap=some ⟨b,o,none⟩)(E:Int)(hE:Hid (FI (bss.map List.length) ks=E)):
 Calls Tryz.prog 111 #[.slice ap np cp,.slice bk nk ck] w fun e w'=>e=.returned (.int .i64 E)/\w'=w:=by
 have hml:(bss.map List.length).length=np:=by rw[WG];exact hp
 by_cases h0:np=0
 . subst h0;have hE4:E=4:=by rw[<-Aa hE];unfold FI;rw[if_pos (.inl hml)]
   subst hE4;clear hP hK hap;go_enter Tryz.func111,Tryz.ntmps111
   go_wp2;go_ret;exact⟨rfl,rfl⟩
 . have hne:bss≠ []:=fun e=>h0 (by rw[<-hp,e];rfl)
   obtain rfl:=hap hne;have hPI:PartsIn w b o A C bss:=by rcases hP with h|h;exact absurd h hne;exact h
   have hb0:((np:Int)==0)=false:=by rw[beq_eq_false_iff_ne];omega
   by_cases hkk:nk=np
   . subst hkk
     have hbk:∃b2 o2,bk=some ⟨b2,o2,none⟩/\Row .i64 w b2 o2 ks:=by
      rcases hK with h|⟨b2,o2,e,_,h⟩
      . exact absurd (by rw[<-hkl,h];rfl) h0
      . exact⟨b2,o2,e,h⟩
     obtain⟨b2,o2,rfl,hrow⟩:=hbk
     have HE0:Hid (J0 (bss.map List.length) ks 0 0=E):=Ab (by
      have:=Aa hE
      unfold FI at this;rw[if_neg (by rintro (h|h);exact h0 (by omega);exact h (by omega))]at this;exact this)
     have hbb:(((nk:Int)==(nk:Int)))=true:=by simp
     have HC:=Ab hPI.cell;have HBG:=Ab hPI.big;have HR:=Ab hrow;have HP:=Ab hp;have HK:=Ab hkl;clear hP hK hPI hrow hE hml hap hne hp hkl hbb;go_enter Tryz.func111,Tryz.ntmps111
     go_wp2;go_loop [5,20] (fun v5 v20=>∃k t:Nat,k<=nk/\t<=3000/\(k=0->t=0)/\v5=.int .i64 (t:Int)/\v20=.int .i64 (k:Int)/\Hid (J0 ((bss.map List.length).drop k) (ks.drop k) k t=E)) (fun _ v20=>nk-(intOf v20).toNat)
     case atStart=>exact⟨0,0,VK _,by decide,fun _=>rfl,rfl,rfl,HE0⟩
     case round=>
      obtain⟨k,t,hk,ht,ht0,rfl,rfl,hc⟩:=hrel
      by_cases hlt:k<nk
      . have c1:=Aa HC k (by rw[Aa HP];exact hlt);have hbg:=Aa HBG k (by rw[Aa HP];exact hlt);have c2:=Aa HR k (by rw[Aa HK];exact hlt);have hd1:=Ly (bss.map List.length) 0 (k:=k) (by rw[WG,Aa HP];exact hlt);have hd2:=Ly ks 0 (k:=k) (by rw[Aa HK];exact hlt)
        have hgl:(bss.map List.length).getD k 0=(bss.getD k []).length:=by
         have hk2:k<bss.length:=by rw[Aa HP];exact hlt
         simp[List.getD,hk2]
        rw[hgl]at hd1;obtain⟨n,hn⟩:∃n,(bss.getD k []).length=n:=⟨_,rfl⟩
        obtain⟨x,hx⟩:∃x,ks.getD k 0=x:=⟨_,rfl⟩
        rw[hn]at c1 hbg hd1;rw[hx]at c2 hd2;have hstep:J0 ((bss.map List.length).drop k) (ks.drop k) k t=if 3000<t+n\/40<=k then 2 else if x=0\/x=1\/x=2 then J0 ((bss.map List.length).drop (k+1)) (ks.drop (k+1)) (k+1) (t+n)else 3:=by rw[hd1,hd2,J0];rfl
        have hc':=Aa hc;rw[hstep]at hc';have hltI:(k:Int)<(nk:Int):=by omega
        have hsum:t+n<=9223372036854775807:=by
         by_cases e:k=0
         . rw[if_pos e]at hbg;have:=ht0 e
           omega
         . rw[if_neg e]at hbg;omega
        clear hbg ht0 hc hd1 hd2 hgl hn hx hstep;generalize A k=ak at*;generalize C k=cc at*
        by_cases h1:3000<t+n
        . rw[if_pos (.inl h1)]at hc';subst hc';have h1I:(3000:Int)<(t:Int)+(n:Int)\/ (40:Int)<=(k:Int):=.inl (by omega);clear h1;go_wp2
          all_goals go_ret
          all_goals exact⟨rfl,rfl⟩
        . have h1I:¬(3000:Int)<(t:Int)+(n:Int):=by omega
          by_cases h2:40<=k
          . rw[if_pos (.inr h2)]at hc';subst hc';have h2I:(3000:Int)<(t:Int)+(n:Int)\/ (40:Int)<=(k:Int):=.inr (by omega);clear h1 h2 h1I;go_wp2
            all_goals go_ret
            all_goals exact⟨rfl,rfl⟩
          . have h2I:¬((3000:Int)<(t:Int)+(n:Int)\/ (40:Int)<=(k:Int)):=by omega
            rw[if_neg (by omega)]at hc'
            by_cases hx3:x=0\/x=1\/x=2
            . rw[if_pos hx3]at hc';have HC':=Ab hc';clear hc'
              rcases hx3 with rfl|rfl|rfl
              all_goals go_wp2
              all_goals go_round
              all_goals first|exact⟨k+1,t+n,by omega,by omega,fun e=>absurd e (by omega),by go_num,by go_num,HC'⟩|(simp[intOf];omega)
            . rw[if_neg hx3]at hc';subst hc';have x0:(x==0)=false:=by rw[beq_eq_false_iff_ne];exact fun e=>hx3 (.inl e)
              have x1:(x==1)=false:=by rw[beq_eq_false_iff_ne];exact fun e=>hx3 (.inr (.inl e))
              have x2:(x==2)=false:=by rw[beq_eq_false_iff_ne];exact fun e=>hx3 (.inr (.inr e))
              have x3:((x !=0)=true/\(x !=1)=true)/\(x !=2)=true:=⟨⟨by simp[bne,x0],by simp[bne,x1]⟩,by simp[bne,x2]⟩
              clear hx3;go_wp2
              all_goals first|(go_ret;exact⟨rfl,rfl⟩)|(exfalso;rename_i h9;rcases h9 with (h9|h9)|h9<;>simp[bne,x0,x1,x2]at h9)
      . obtain rfl:k=nk:=by omega
        have hE2:E=0:=by
         rw[<-Aa hc,XW (by rw[WG,Aa HP];exact VC _)];rfl
        subst hE2;clear hc;go_wp2;go_ret;exact⟨rfl,rfl⟩
   . have hE4:E=4:=by rw[<-Aa hE];unfold FI;rw[if_pos (.inr (by omega))]
     subst hE4;have hbn:((nk:Int)==(np:Int))=false:=by rw[beq_eq_false_iff_ne];omega
     clear hP hK hPI hap hne;go_enter Tryz.func111,Tryz.ntmps111
     go_wp2;go_ret;exact⟨rfl,rfl⟩
def Eo (bss:List (List Nat))(ks:List Int):List (List Nat×Nat):=(bss.zip ks).map (fun p=>(p.1,p.2.toNat))
theorem O3 (bss:List (List Nat))(ks:List Int)(h:ks.length=bss.length){k:Nat}(hk:k<bss.length):(Eo bss ks).drop k=(bss.getD k [],(ks.getD k 0).toNat)::(Eo bss ks).drop (k+1):=by
 have hl:k<(Eo bss ks).length:=by simp[Eo];omega
 rw[WU hl];have hk2:k<ks.length:=by omega
 simp[Eo,List.getD,hk,hk2]
theorem Uk (bss:List (List Nat))(ks:List Int)(h:ks.length=bss.length):(Eo bss ks).length=bss.length:=by simp[Eo];omega
theorem MV {ns:List Nat}{ks:List Int}{k t:Nat}{n:Nat}{x:Int}(hn:k<ns.length)(hk:k<ks.length)(en:ns.getD k 0=n)(ex:ks.getD k 0=x)(h:J0 (ns.drop k) (ks.drop k) k t=0):t+n<=3000/\k<40/\(x=0\/x=1\/x=2)/\J0 (ns.drop (k+1)) (ks.drop (k+1)) (k+1) (t+n)=0:=by
 have hd1:=Ly ns 0 hn;have hd2:=Ly ks 0 hk;rw[en]at hd1;rw[ex]at hd2;rw[hd1,hd2,J0]at h
 split at h
 . cases h
 . rename_i h1
   split at h
   . rename_i h2
     exact⟨by omega,by omega,h2,h⟩
   . cases h
theorem AY:∀(ns:List Nat) (ks:List Int) (i t:Nat),J0 ns ks i t=0->ns≠ []->i+ns.length<=40
 | [],_,_,_,_,h=>absurd rfl h
 |n::r,ks,i,t,h,_=>by
  rw[J0]at h
  split at h
  . cases h
  . rename_i h1
    split at h
    . by_cases e:r= []
      . subst e;simp only[VJ,WO];omega
      . have:=AY r ks.tail (i+1) (t+n) h e
        rw[VJ];omega
    . cases h
theorem PY (b o cp:Nat)(bk:Option Addr)(np nk ck:Nat)(A:Nat->Option Addr)(C:Nat->Nat)(bss:List (List Nat))(ks:List Int)(w:World)(hp:bss.length=np)(hkl:ks.length=nk)(hP:bss= []\/PartsIn w b o A C bss)(hK:RowIn .i64 w bk ks)(ap:Option Addr)(hap:bss≠ []->ap=some ⟨b,o,none⟩)(E:Int)(hE:Hid (FI (bss.map List.length) ks=E))(h0:E≠0):
 Calls Tryz.prog 76 #[.slice ap np cp,.slice bk nk ck] w fun e w'=>e=.returned (.tuple #[.slice none 0 0,.int .i64 E])/\w'=w:=by
 have HC:=Ab (Vd b o cp bk np nk ck A C bss ks w hp hkl hP hK ap hap E hE);have hb:(E==0)=false:=by rw[beq_eq_false_iff_ne];exact h0
 have hb2:(E !=0)=true:=by simp[bne,hb]
 clear hP hK hap hE;go_enter Tryz.func76,Tryz.ntmps76
 go_wp2_with fail
 refine(Aa HC).mono ?_;rintro e w1 ⟨rfl,rfl⟩;go_wp2;go_ret2;exact⟨rfl,rfl⟩
theorem Z16 (b o cp b2 o2 np ck:Nat)(A:Nat->Option Addr)(C:Nat->Nat)(bss:List (List Nat))(ks:List Int)(w:World)(hp:bss.length=np)(hkl:ks.length=np)(hP:PartsIn w b o A C bss)(hb2:b2<w.heap.size)(hK:Row .i64 w b2 o2 ks)(hE:FI (bss.map List.length) ks=0):
 Calls Tryz.prog 76 #[.slice (some ⟨b,o,none⟩) np cp,.slice (some ⟨b2,o2,none⟩) np ck] w fun e w'=>∃v out,e=.returned (.tuple #[v,.int .i64 0])/\w'.ownsRow w.heap.size 5 1 v out.length (u8s out)/\rowB out out.length=padB (Fq (Eo bss ks) [])/\(∀j,out.getD j 0<256)/\Below w.heap.size w w':=by
 have HC:=Ab (Vd b o cp (some ⟨b2,o2,none⟩) np np ck A C bss ks w hp hkl (.inr hP) (.inr ⟨b2,o2,rfl,hb2,hK⟩) (some ⟨b,o,none⟩) (fun _=>rfl) 0 (Ab hE))
 have HE0:Hid (J0 (bss.map List.length) ks 0 0=0):=by
  unfold FI at hE
  split at hE
  . cases hE
  . exact hE
 have hnp:0<np:=by
  unfold FI at hE
  split at hE
  . cases hE
  . rename_i h
    rw[WG,hp]at h;omega
 have hnp40:np<=40:=by
  have:=AY _ _ _ _ (Aa HE0) (fun e=>by rw[List.map_eq_nil_iff]at e;rw[e]at hp;simp at hp;omega)
  rw[WG,hp]at this;omega
 have HP:=Ab hp;have HKL:=Ab hkl;have HPI:=Ab hP;have HK:=Ab hK;have hbp:=hP.lt;clear hE hP hK hp hkl;obtain⟨T,hT⟩:∃T,Fq (Eo bss ks) []=T:=⟨_,rfl⟩
 rw[hT];have HT:=Ab hT;clear hT;have HR0:=Ab (RIs.empty (No:=fun g=>g<w.heap.size) (B:=w.heap.size) (w:=w.alloc (.cells #[.slice none 0 0,.int .i64 0] 179)) (b:=w.heap.size) (VC _) (by simp) (heap_alloc_new _ _));go_enter Tryz.func76,Tryz.ntmps76
 go_wp2_with fail
 refine(Aa HC).mono ?_;rintro e w1 ⟨rfl,rfl⟩;clear HC;go_wp2;go_loopw [20] (fun v wr=>∃(k t:Nat) (S:List Bool),k<=np/\t<=3000/\v=.int .i64 (k:Int)/\Hid (J0 ((bss.map List.length).drop k) (ks.drop k) k t=0/\Rp (fun g=>g<w1.heap.size) w1.heap.size (w1.alloc (.cells #[.slice none 0 0,.int .i64 0] 179)) w1.heap.size S wr/\Fq ((Eo bss ks).drop k) S=T/\S.length<=2400*k+60*t)) (fun v _=>np-(intOf v).toNat)
 case atStart=>exact⟨0,0,[],VK _,by decide,rfl,Ab ⟨Aa HE0,Rp.refl (Aa HR0),Aa HT,by simp⟩⟩
 case round=>
  obtain⟨k,t,S,hk,ht,rfl,hst⟩:=hrel;obtain⟨s1,s2,s3,s4⟩:=Aa hst;have hzr:=s2.below.size;simp only[World.size_alloc]at hzr;have hkeep:∀g,g<w1.heap.size->wr.heap[g]? =w1.heap[g]? :=fun g hg=>(s2.kp g (by simp;omega) hg).trans (Below.heap_alloc w1 _ g hg)
  by_cases hlt:k<np
  . have hkb:k<bss.length:=by rw[Aa HP];exact hlt
    have hkk:k<ks.length:=by rw[Aa HKL];exact hlt
    have c1:=(World.cell?_of_block (w:=w1) (a:=⟨b,o+k,none⟩) (hkeep b hbp)).trans ((Aa HPI).cell k hkb);have c2:=(World.cell?_of_block (w:=w1) (a:=⟨b2,o2+k,none⟩) (hkeep b2 hb2)).trans (Aa HK k hkk);have hby:=Xe ((Aa HPI).byt k hkb) (by omega) (fun b' o' _ _ hb'=>hkeep b' hb') (w':=wr);have hcp:=(Aa HPI).cap k hkb;have hnl:=(Aa HPI).nil k hkb;have hvl:=(Aa HPI).val k;have hib:=(Aa HPI).byt k hkb;have hid:=O3 bss ks (by rw[Aa HP,Aa HKL]) hkb;rw[hid]at s3;obtain⟨bs,hbs⟩:∃bs,bss.getD k []=bs:=⟨_,rfl⟩
    obtain⟨x,hx⟩:∃x,ks.getD k 0=x:=⟨_,rfl⟩
    rw[hbs]at c1 hby hcp hvl s3 hib;rw[hx]at c2 s3
    have hgl:(bss.map List.length).getD k 0=bs.length:=by
     rw[<-hbs];simp[List.getD,hkb]
    obtain⟨r1,r2,r3,r4⟩:=MV (by rw[WG];exact hkb) hkk hgl hx s1
    obtain⟨x',hx'⟩:∃x':Nat,x=(x':Int)/\x'<=2:=by
     rcases r3 with rfl|rfl|rfl
     . exact⟨0,rfl,by decide⟩
     . exact⟨1,rfl,by decide⟩
     . exact⟨2,rfl,by decide⟩
    obtain⟨rfl,hx2⟩:=hx';rw[WD]at s3;obtain⟨n,hn⟩:∃n,bs.length=n:=⟨_,rfl⟩
    rw[hn]at c1 hcp r1 r4
    have hlast:decide ((Eo bss ks).drop (k+1)= [])=decide (k+1=np):=by
     have hl:=Uk bss ks (by rw[Aa HP,Aa HKL]);rw[Aa HP]at hl
     by_cases e:k+1=np
     . rw[decide_eq_true e,decide_eq_true];exact XW (by omega)
     . rw[decide_eq_false e,decide_eq_false];intro h2;have:=List.drop_eq_nil_iff.1 h2
       omega
    have hpk:Fq ((Eo bss ks).drop (k+1)) (Ka S bs x' (decide (k+1=np)))=T:=by rw[<-s3,Fq,hlast]
    have HPB:=Ab (Zi (fun g=>g<w1.heap.size) w1.heap.size w1.heap.size (A k) n (C k) x' (decide (k+1=np)) bs S wr s2.is hn (by omega) hcp hnl hx2 hby hvl (fun b' o' e hne=>by
     rcases hib with h|⟨b3,o3,e3,hb3,_⟩
     . exact absurd h hne
     . rw[e3]at e;cases e;exact hb3) (fun g hg=>by omega) (by omega))
    have hbq:((k:Int)==(np:Int)-1)=decide (k+1=np):=by
     by_cases e:k+1=np
     . rw[decide_eq_true e,beq_iff_eq];omega
     . rw[decide_eq_false e,beq_eq_false_iff_ne];omega
    obtain⟨la,hla⟩:∃la,decide (k+1=np)=la:=⟨_,rfl⟩
    rw[hla]at hbq hpk HPB;clear hla;have HS2:=Ab s2;have HPK:=Ab hpk;have HR4:=Ab r4;have hkI:(k:Int)<(np:Int):=by omega
    clear hst s1 s2 s3 hkeep hby hcp hnl hvl hib hid hbs hx hgl r3 r4 hlast hpk hn hkb hkk;generalize A k=ak at*;generalize C k=cc at*;go_wp2_with fail
    refine(Aa HPB).mono ?_;rintro e w4 ⟨rfl,hle,hR⟩;have HN:=Ab ((Aa HS2).trans hR);clear hR;go_wp2;go_roundw
    case rel=>exact⟨k+1,t+n,_,by omega,by omega,by go_num,Ab ⟨Aa HR4,Aa HN,Aa HPK,by omega⟩⟩
    case measure=>simp[intOf];omega
  . obtain rfl:np=k:=by omega
    rw[XW (by rw[Uk bss ks (by rw[Aa HP,Aa HKL]),Aa HP];exact VC _),Fq]at s3;subst s3;obtain⟨ov,bs,h1,h2,h3,h4,h5⟩:=s2.is.ex;have c0:wr.cell? ⟨w1.heap.size,0,none⟩=some ov:=Ac h1;obtain⟨a',cc,rfl⟩:∃a c,ov=.slice a bs.length c:=As h2;have HF:Hid (wr.ownsRow w1.heap.size 5 1 (.slice a' bs.length cc) bs.length (u8s bs)/\rowB bs bs.length=padB S/\(∀j,bs.getD j 0<256)/\Below w1.heap.size w1 wr):=⟨Lj h2 (by omega),h5,h4,((Below.refl w1.heap.size w1).alloc (VC _) _).trans s2.below⟩
    obtain⟨L,hL⟩:∃L,bs.length=L:=⟨_,rfl⟩
    have HL:=Ab hL;rw[hL]at c0;clear hst s1 s2 s4 hkeep h1 h2 h3 h4 h5 hL;go_wp2;go_ret2;exact⟨.slice a' bs.length cc,bs,by rw[Aa HL];rfl,Aa HF⟩
noncomputable def oneB (bs:List Nat)(k:Nat):List Bool:=padB (Ka [] bs k true)
noncomputable def DE (bs:List Nat)(k:Nat):Nat:=(oneB bs k).length/8
noncomputable def bestP (bs:List Nat):Nat->Nat
 |0=>0
 |1=>0
 |k+2=>if DE bs (k+1)<DE bs (bestP bs (k+1))then k+1 else bestP bs (k+1)
structure IsOne (bs:List Nat)(k:Nat)(out:List Nat):Prop where
 row:rowB out out.length=oneB bs k
 val:∀j,out.getD j 0<256
theorem IsOne.len {bs out:List Nat}{k:Nat}(h:IsOne bs k out):out.length=DE bs k:=by
 unfold DE;rw[<-h.row,Ai];omega
theorem Z2o (bs:List Nat)(k:Nat)(last:Bool):3<=(Ka [] bs k last).length:=by
 unfold Ka
 split
 . unfold Hh;simp only[VB,Ae,VJ,WO,VV];omega
 . split<;>simp only[VB,Ae,VJ,WO]<;>omega
theorem IsOne.pos {bs out:List Nat}{k:Nat}(h:IsOne bs k out):0<out.length:=by
 have h1:=congrArg List.length h.row;rw[Ai]at h1;unfold oneB at h1;rw[Cj]at h1;have:=Z2o bs k true
 omega
theorem Zm (bs:List Nat)(k:Nat):Fq (Eo [bs] [(k:Int)]) []=Ka [] bs k true:=by
 have:Eo [bs] [(k:Int)]= [(bs,k)]:=by simp[Eo]
 rw[this,Fq,Fq];simp
theorem Zk {w:World}{a:Option Addr}{n cap:Nat}{bs:List Nat}(hl:bs.length=n)(hcap:n<=cap)(hnil:a=none->cap=0)(hB:BytesIn w a bs)(hx:∀j,bs.getD j 0<256)(hm:n<=9223372036854775807)(k:Int)(T U:TypeId):
 PartsIn ((w.alloc (.cells #[.slice a n cap] T)).alloc (.cells #[.int .i64 k] U)) w.heap.size 0 (fun _=>a) (fun _=>cap) [bs]/\Row .i64 ((w.alloc (.cells #[.slice a n cap] T)).alloc (.cells #[.int .i64 k] U)) (w.heap.size+1) 0 [k]:=by
 have hj0:∀j,j< [bs].length->j=0:=fun j hj=>by simp at hj;omega
 refine⟨⟨by simp;omega,fun j hj=> ?_,fun j hj=> ?_,fun j hj=> ?_,fun j hj=> ?_,fun j hj=> ?_,fun j i=> ?_⟩,fun j hj=> ?_⟩
 . rw[hj0 j hj];simp[hl]
 . rw[hj0 j hj];exact hB.below (((Below.refl w.heap.size w).alloc (VC _) _).alloc (by simp) _) (VC _)
 . rw[hj0 j hj];simpa[hl]using hcap
 . exact fun e=>hnil e
 . rw[hj0 j hj];simpa[hl]using hm
 . cases j with
   |zero=>simpa using hx i
   |succ j=>simp
 . have:j=0:=by simp at hj;omega
   subst this;simp
theorem Z1d {n:Nat}(h:3000<n)(bs:List Nat)(hl:bs.length=n)(k:Int):FI ([bs].map List.length) [k]=2:=by
 unfold FI;rw[if_neg (by simp)];simp only[WP,ZF,J0];rw[if_pos (.inl (by omega))]
theorem QG {n k:Nat}(h:n<=3000)(bs:List Nat)(hl:bs.length=n)(hk:k<=2):FI ([bs].map List.length) [(k:Int)]=0:=by
 unfold FI;rw[if_neg (by simp)];simp only[WP,ZF,J0];rw[if_neg (by omega)];exact if_pos (show (k:Int)=0\/ (k:Int)=1\/ (k:Int)=2 by omega)
theorem QF (a:Option Addr)(n cap:Nat)(k:Int)(bs:List Nat)(w:World)(T U:TypeId)(hl:bs.length=n)(hcap:n<=cap)(hnil:a=none->cap=0)(hB:BytesIn w a bs)(hx:∀j,bs.getD j 0<256)(hm:n<=9223372036854775807)(hn:3000<n):
 Calls Tryz.prog 76 #[.slice (some ⟨w.heap.size,0,none⟩) 1 1,.slice (some ⟨w.heap.size+1,0,none⟩) 1 1] ((w.alloc (.cells #[.slice a n cap] T)).alloc (.cells #[.int .i64 k] U)) fun e w'=>e=.returned (.tuple #[.slice none 0 0,.int .i64 2])/\Below w.heap.size w w':=by
 obtain⟨h1,h2⟩:=Zk hl hcap hnil hB hx hm k T U;refine(PY w.heap.size 0 1 (some ⟨w.heap.size+1,0,none⟩) 1 1 1 _ _ [bs] [k] _ rfl rfl (.inr h1) (.inr ⟨_,0,rfl,by simp,h2⟩) (some ⟨w.heap.size,0,none⟩) (fun _=>rfl) 2 (Ab (Z1d hn bs hl k)) (by decide)).mono ?_;rintro e w' ⟨rfl,rfl⟩;exact⟨rfl,((Below.refl w.heap.size w).alloc (VC _) _).alloc (by simp) _⟩
theorem Z3i (a:Option Addr)(n cap k:Nat)(bs:List Nat)(w:World)(T U:TypeId)(hl:bs.length=n)(hcap:n<=cap)(hnil:a=none->cap=0)(hB:BytesIn w a bs)(hx:∀j,bs.getD j 0<256)(hn:n<=3000)(hk:k<=2):
 Calls Tryz.prog 76 #[.slice (some ⟨w.heap.size,0,none⟩) 1 1,.slice (some ⟨w.heap.size+1,0,none⟩) 1 1] ((w.alloc (.cells #[.slice a n cap] T)).alloc (.cells #[.int .i64 (k:Int)] U)) fun e w'=>∃g c out,e=.returned (.tuple #[.slice (some ⟨g,0,none⟩) (DE bs k) c,.int .i64 0])/\g<w'.heap.size/\Bytes w' g 0 out/\IsOne bs k out/\Below w.heap.size w w':=by
 obtain⟨h1,h2⟩:=Zk hl hcap hnil hB hx (by omega) (k:Int) T U;refine(Z16 w.heap.size 0 1 (w.heap.size+1) 0 1 1 _ _ [bs] [(k:Int)] _ rfl rfl h1 (by simp) h2 (QG hn bs hl hk)).mono ?_;rintro e w' ⟨v,out,rfl,hO,hr,hv,hb⟩;rw[Zm]at hr;have hI:IsOne bs k out:=⟨hr,hv⟩
 obtain⟨g,c,rfl,_,hg⟩:=Be hO hI.pos;refine⟨g,c,out,by rw[hI.len],hg,fun j hj=> ?_,hI,(((Below.refl w.heap.size w).alloc (VC _) _).alloc (by simp) _).trans (hb.mono (by simp;omega))⟩;rw[WI];have:=hO.cellAt j (by omega)
 rw[this];simp[List.getD,hj]
end Go.Proofs.YtleocpdblhbimaaGreatDoor
namespace Go.Proofs.YtleocpdblhbimaaGreatDoor
set_option linter.unusedVariables false
set_option maxRecDepth 100000
theorem Ij (l:List Int)(hG:Good l)(row:List Bool)(q:Nat)(u:US)(R:List Bool)(he:u.e=0)(hq:q<l.length)(hpos:0<l.getD q 0)(h:row.drop u.p=codeT l q++R):uplace l row u=(q,{u with p:=u.p+(codeT l q).length}):=by
 have hl:=Ff l hG q;have hne:codeT l q≠ []:=fun e=>by rw[e,WO]at hl;omega
 refine FT l hG row q u he hq hne (RW h (List.length_pos_iff.2 hne)) ?_;rw[h,List.take_append_of_le_length (VC _),YT]
theorem V4 (d:Nat):∀(n:Nat) (u:US),u.e=0->u.out.length+n<=3000->ucopy d n u= {u with out:=Mi u.out d n}
 |0,u,he,h=>by rw[ucopy,Mi]
 |n+1,u,he,h=>by
  rw[ucopy,if_pos he,Mi]
  have e:Hy (u.out.getD (u.out.length-d) 0) u= {u with out:=u.out++ [u.out.getD (u.out.length-d) 0]}:=by
   unfold Hy;rw[if_pos he,if_neg (by omega)]
  rw[e,V4 d n {u with out:=u.out++ [u.out.getD (u.out.length-d) 0]} he (by simp;omega)]
theorem OG (a b:List Int)(hA:Good a)(hB:Good b)(row:List Bool)(t:Tk)(u:US)(R:List Bool)(he:u.e=0)(hu:u.p<=row.length)(ht:Ct t u.out.length=0)(h256:t.1<256)(hlen:u.out.length+wid t<=3000)(hh:Has a b (Nt t))(h:row.drop u.p=putIs a b (Nt t)++R):
 Ih row a b u=(true,{u with p:=u.p+(putIs a b (Nt t)).length,out:=Zg t u.out})/\u.p+(putIs a b (Nt t)).length<=row.length:=by
 have hR:=congrArg List.length h;rw[VN,VB]at hR;refine⟨?_,by omega⟩;obtain⟨b0,n,d⟩:=t
 rcases Dm ht with ⟨h1,h2⟩|⟨h1,h2,h3,h4,h5⟩
 . simp only at h1 h2 h256 hlen
   have ei:Nt (b0,n,d)= [.sym b0]:=by unfold Nt;rw[if_pos h1]
   rw[ei]at hh h ⊢;have hp:putIs a b [.sym b0]=codeT a b0:=by simp[putIs,IM]
   rw[hp]at h ⊢;obtain⟨k1,k2⟩:=hh.1 b0 (by simp);have hw:wid (b0,n,d)=1:=by unfold wid;rw[if_pos h1]
   rw[hw]at hlen;have hpt:Zg (b0,n,d) u.out=u.out++ [b0]:=by unfold Zg;rw[if_pos h1]
   unfold Ih;rw[Ij a hA row b0 u R he k1 k2 h];simp only
   rw[if_neg (by simp[he];omega),if_pos h256,hpt];unfold Hy;simp only
   rw[if_pos he,if_neg (by omega)]
 . simp only at h1 h2 h3 h4 h5 hlen
   obtain⟨n,rfl⟩:=VW (show 0<=n by omega);obtain⟨d,rfl⟩:=VW (show 0<=d by omega);have hn0:¬((n:Nat):Int)=0:=by omega
   have ei:Nt (b0,(n:Int),(d:Int))= [.sym (Cb n).1,.rest (Cb n).2.1 (Cb n).2.2,.far (Ie d).1,.rest (Ie d).2.1 (Ie d).2.2]:=by unfold Nt;rw[if_neg hn0];rfl
   have hw:wid (b0,(n:Int),(d:Int))=n:=by unfold wid;rw[if_neg hn0];rfl
   rw[hw]at hlen;have hpt:Zg (b0,(n:Int),(d:Int)) u.out=Mi u.out d n:=by unfold Zg;rw[if_neg hn0];rfl
   obtain⟨m1,m2,m3,m4,m5,m6,_⟩:=JU (n:=n) (by omega) (by omega);obtain⟨f1,f2,f3,f4,f5⟩:=TW (d:=d) (by omega) (by omega);rw[ei]at hh h hR ⊢;obtain⟨k1,k2⟩:=hh.1 (Cb n).1 (by simp);obtain⟨k3,k4⟩:=hh.2 (Ie d).1 (by simp);generalize hm1:(Cb n).1=M at*;generalize hm2:(Cb n).2.1=MR at*;generalize hm3:(Cb n).2.2=MS at*;generalize hf1:(Ie d).1=F at*;generalize hf2:(Ie d).2.1=FR at*;generalize hf3:(Ie d).2.2=FZ at*;have hp:putIs a b [.sym M,.rest MR MS,.far F,.rest FR FZ]=codeT a M++(Ah MR MS++(codeT b F++Ah FR FZ)):=by simp[putIs,IM]
   rw[hp]at h hR ⊢;simp only[VH]at h;simp only[VB,Ae]at hR;have c1:=Ij a hA row M u _ he k1 k2 h;have d1:=Bg h;have c2:=Ds row MS MR {u with p:=u.p+(codeT a M).length} _ he (by simp only;omega) m5 d1;have d2:=Bg d1;rw[Ae]at d2;have c3:=Ij b hB row F {u with p:=u.p+(codeT a M).length+MS} _ he k3 k4 d2;have d3:=Bg d2;have c4:=Ds row FZ FR {u with p:=u.p+(codeT a M).length+MS+(codeT b F).length} _ he (by simp only;omega) f4 d3;unfold Ih;rw[c1];simp only
   rw[if_neg (by rintro (h9|h9);exact h9 he;omega),if_neg (by omega),if_neg (by omega)];unfold OJ;simp only[m3,c2,c3];rw[if_neg (show ¬(u.e=0/\29<F) by omega)];rw[if_neg (show ¬(u.e≠0) from fun h9=>h9 he)];unfold Z4b;simp only[f2,c4,f3,m4];rw[if_neg (show ¬(u.e=0/\u.out.length<d) by omega),V4 d n {u with p:=u.p+(codeT a M).length+MS+(codeT b F).length+FZ} he (by simp only;omega),hpt];simp only[VB,Ae]
   congr 2
   omega
theorem FP (a b:List Int)(hA:Good a)(hB:Good b)(row:List Bool):∀(ts:List Tk) (f:Nat) (u:US) (R:List Bool),ts.length<f->u.e=0->u.p<=row.length->Mj ts u.out.length=0->(∀t∈ts,t.1<256)->Has a b (itsOf ts)->row.drop u.p=putIs a b (itsOf ts)++R->
 utok row a b f u= {u with p:=u.p+(putIs a b (itsOf ts)).length,out:=Ta ts u.out}
 | [],f+1,u,R,hf,he,hu,hc,hb,hh,h=>by
  have hp:putIs a b (itsOf [])=codeT a 256:=by simp[putIs,IM,itsOf,Of]
  rw[hp]at h ⊢;obtain⟨k1,k2⟩:=hh.1 256 (by simp[itsOf]);rw[utok,if_pos he];have c1:=Ij a hA row 256 u R he k1 k2 h
  have e:Ih row a b u=(false,{u with p:=u.p+(codeT a 256).length}):=by
   unfold Ih;rw[c1];simp only
   rw[if_pos (by simp)]
  rw[e,if_neg (by simp),Ta]
 |t::ts,f+1,u,R,hf,he,hu,hc,hb,hh,h=>by
  have ei:itsOf (t::ts)=Nt t++itsOf ts:=by simp[itsOf,Of]
  rw[ei]at hh h ⊢;rw[Qn]at h ⊢;rw[VH]at h
  have ht:Ct t u.out.length=0:=by
   rw[Mj]at hc
   by_cases e:Ct t u.out.length=0
   . exact e
   . rw[if_neg e]at hc;exact absurd hc e
  have hc2:Mj ts (u.out.length+wid t)=0:=by rw[Mj,if_pos ht]at hc;exact hc
  have hlen:=F3 hc2;obtain⟨e1,e2⟩:=OG a b hA hB row t u _ he hu ht (hb t (by simp)) hlen hh.app.1 h;rw[utok,if_pos he,e1];simp only[if_true];have d1:=Bg h;rw[FP a b hA hB row ts f {u with p:=u.p+(putIs a b (Nt t)).length,out:=Zg t u.out} R (by simp at hf;omega) he e2 (by simp only;rw[Hl];exact hc2) (fun t' h'=>hb t' (by simp[h'])) hh.app.2 d1,Ta];simp only[VB]
  congr 1
  omega
 |_,0,u,R,hf,_,_,_,_,_,_=>by omega
end Go.Proofs.YtleocpdblhbimaaGreatDoor
