import Derived.Test.YtleocpdblhbimaaGreatDoorQ39
set_option linter.unusedSimpArgs false
set_option maxHeartbeats 1000000
namespace Go.Proofs.YtleocpdblhbimaaGreatDoor
open Go.RowKit
set_option linter.unusedVariables false
set_option maxRecDepth 100000
def Gc (bss:List (List Nat))(ks:List Int):List (List Nat×Nat):=(bss.zip ks).map (fun p=>(p.1,p.2.toNat))
theorem Y2 (bss:List (List Nat))(ks:List Int)(h:ks.length=bss.length){k:Nat}(hk:k<bss.length):(Gc bss ks).drop k=(bss.getD k [],(ks.getD k 0).toNat)::(Gc bss ks).drop (k+1):=by
 have hl:k<(Gc bss ks).length:=by simp[Gc];omega
 rw[WS hl];have hk2:k<ks.length:=by omega
 simp[Gc,List.getD,hk,hk2]
theorem Vi (bss:List (List Nat))(ks:List Int)(h:ks.length=bss.length):(Gc bss ks).length=bss.length:=by simp[Gc];omega
theorem QS {ns:List Nat}{ks:List Int}{k t:Nat}{n:Nat}{x:Int}(hn:k<ns.length)(hk:k<ks.length)(en:ns.getD k 0=n)(ex:ks.getD k 0=x)(h:Q2 (ns.drop k) (ks.drop k) k t=0):t+n<=3000/\k<40/\(x=0\/x=1\/x=2)/\Q2 (ns.drop (k+1)) (ks.drop (k+1)) (k+1) (t+n)=0:=by
 have hd1:=Mh ns 0 hn;have hd2:=Mh ks 0 hk;rw[en]at hd1;rw[ex]at hd2;rw[hd1,hd2,Q2]at h
 split at h
 . cases h
 . rename_i h1
   split at h
   . rename_i h2
     exact⟨by omega,by omega,h2,h⟩
   . cases h
theorem DO:∀(ns:List Nat) (ks:List Int) (i t:Nat),Q2 ns ks i t=0->ns≠ []->i+ns.length<=40
 | [],_,_,_,_,h=>absurd rfl h
 |n::r,ks,i,t,h,_=>by
  rw[Q2]at h
  split at h
  . cases h
  . rename_i h1
    split at h
    . by_cases e:r= []
      . subst e;simp only[VJ,WE];omega
      . have:=DO r ks.tail (i+1) (t+n) h e
        rw[VJ];omega
    . cases h
theorem Z0e (b o cp:Nat)(bk:Option Addr)(np nk ck:Nat)(A:Nat->Option Addr)(C:Nat->Nat)(bss:List (List Nat))(ks:List Int)(w:World)(hp:bss.length=np)(hkl:ks.length=nk)(hP:bss= []\/PartsIn w b o A C bss)(hK:RowIn .i64 w bk ks)(ap:Option Addr)(hap:bss≠ []->ap=some ⟨b,o,none⟩)(E:Int)(hE:Hid (JQ (bss.map List.length) ks=E))(h0:E≠0):
 Calls Tryz.prog 76 #[.slice ap np cp,.slice bk nk ck] w fun e w'=>e=.returned (.tuple #[.slice none 0 0,.int .i64 E])/\w'=w:=by
 have HC:=Ab (We b o cp bk np nk ck A C bss ks w hp hkl hP hK ap hap E hE);have hb:(E==0)=false:=by rw[beq_eq_false_iff_ne];exact h0
 have hb2:(E !=0)=true:=by simp[bne,hb]
 clear hP hK hap hE;go_enter Tryz.func76,Tryz.ntmps76
 go_wp2_with fail
 refine(Aa HC).mono ?_;rintro e w1 ⟨rfl,rfl⟩;go_wp2;go_ret2;exact⟨rfl,rfl⟩
theorem Z44 (b o cp b2 o2 np ck:Nat)(A:Nat->Option Addr)(C:Nat->Nat)(bss:List (List Nat))(ks:List Int)(w:World)(hp:bss.length=np)(hkl:ks.length=np)(hP:PartsIn w b o A C bss)(hb2:b2<w.heap.size)(hK:Row .i64 w b2 o2 ks)(hE:JQ (bss.map List.length) ks=0):
 Calls Tryz.prog 76 #[.slice (some ⟨b,o,none⟩) np cp,.slice (some ⟨b2,o2,none⟩) np ck] w fun e w'=>∃v out,e=.returned (.tuple #[v,.int .i64 0])/\w'.ownsRow w.heap.size 5 1 v out.length (u8s out)/\rowB out out.length=padB (Tm (Gc bss ks) [])/\(∀j,out.getD j 0<256)/\Below w.heap.size w w':=by
 have HC:=Ab (We b o cp (some ⟨b2,o2,none⟩) np np ck A C bss ks w hp hkl (.inr hP) (.inr ⟨b2,o2,rfl,hb2,hK⟩) (some ⟨b,o,none⟩) (fun _=>rfl) 0 (Ab hE))
 have HE0:Hid (Q2 (bss.map List.length) ks 0 0=0):=by
  unfold JQ at hE
  split at hE
  . cases hE
  . exact hE
 have hnp:0<np:=by
  unfold JQ at hE
  split at hE
  . cases hE
  . rename_i h
    rw[WL,hp]at h;omega
 have hnp40:np<=40:=by
  have:=DO _ _ _ _ (Aa HE0) (fun e=>by rw[List.map_eq_nil_iff]at e;rw[e]at hp;simp at hp;omega)
  rw[WL,hp]at this;omega
 have HP:=Ab hp;have HKL:=Ab hkl;have HPI:=Ab hP;have HK:=Ab hK;have hbp:=hP.lt;clear hE hP hK hp hkl;obtain⟨T,hT⟩:∃T,Tm (Gc bss ks) []=T:=⟨_,rfl⟩
 rw[hT];have HT:=Ab hT;clear hT;have HR0:=Ab (RIs.empty (No:=fun g=>g<w.heap.size) (B:=w.heap.size) (w:=w.alloc (.cells #[.slice none 0 0,.int .i64 0] 179)) (b:=w.heap.size) (VB _) (by simp) (heap_alloc_new _ _));go_enter Tryz.func76,Tryz.ntmps76
 go_wp2_with fail
 refine(Aa HC).mono ?_;rintro e w1 ⟨rfl,rfl⟩;clear HC;go_wp2;go_loopw [20] (fun v wr=>∃(k t:Nat) (S:List Bool),k<=np/\t<=3000/\v=.int .i64 (k:Int)/\Hid (Q2 ((bss.map List.length).drop k) (ks.drop k) k t=0/\Rp (fun g=>g<w1.heap.size) w1.heap.size (w1.alloc (.cells #[.slice none 0 0,.int .i64 0] 179)) w1.heap.size S wr/\Tm ((Gc bss ks).drop k) S=T/\S.length<=2400*k+60*t)) (fun v _=>np-(intOf v).toNat)
 case atStart=>exact⟨0,0,[],VH _,by decide,rfl,Ab ⟨Aa HE0,Rp.refl (Aa HR0),Aa HT,by simp⟩⟩
 case round=>
  obtain⟨k,t,S,hk,ht,rfl,hst⟩:=hrel;obtain⟨s1,s2,s3,s4⟩:=Aa hst;have hzr:=s2.below.size;simp only[World.size_alloc]at hzr;have hkeep:∀g,g<w1.heap.size->wr.heap[g]? =w1.heap[g]? :=fun g hg=>(s2.kp g (by simp;omega) hg).trans (Below.heap_alloc w1 _ g hg)
  by_cases hlt:k<np
  . have hkb:k<bss.length:=by rw[Aa HP];exact hlt
    have hkk:k<ks.length:=by rw[Aa HKL];exact hlt
    have c1:=(World.cell?_of_block (w:=w1) (a:=⟨b,o+k,none⟩) (hkeep b hbp)).trans ((Aa HPI).cell k hkb);have c2:=(World.cell?_of_block (w:=w1) (a:=⟨b2,o2+k,none⟩) (hkeep b2 hb2)).trans (Aa HK k hkk);have hby:=Yu ((Aa HPI).byt k hkb) (by omega) (fun b' o' _ _ hb'=>hkeep b' hb') (w':=wr);have hcp:=(Aa HPI).cap k hkb;have hnl:=(Aa HPI).nil k hkb;have hvl:=(Aa HPI).val k;have hib:=(Aa HPI).byt k hkb;have hid:=Y2 bss ks (by rw[Aa HP,Aa HKL]) hkb;rw[hid]at s3;obtain⟨bs,hbs⟩:∃bs,bss.getD k []=bs:=⟨_,rfl⟩
    obtain⟨x,hx⟩:∃x,ks.getD k 0=x:=⟨_,rfl⟩
    rw[hbs]at c1 hby hcp hvl s3 hib;rw[hx]at c2 s3
    have hgl:(bss.map List.length).getD k 0=bs.length:=by
     rw[<-hbs];simp[List.getD,hkb]
    obtain⟨r1,r2,r3,r4⟩:=QS (by rw[WL];exact hkb) hkk hgl hx s1
    obtain⟨x',hx'⟩:∃x':Nat,x=(x':Int)/\x'<=2:=by
     rcases r3 with rfl|rfl|rfl
     . exact⟨0,rfl,by decide⟩
     . exact⟨1,rfl,by decide⟩
     . exact⟨2,rfl,by decide⟩
    obtain⟨rfl,hx2⟩:=hx';rw[WM]at s3;obtain⟨n,hn⟩:∃n,bs.length=n:=⟨_,rfl⟩
    rw[hn]at c1 hcp r1 r4
    have hlast:decide ((Gc bss ks).drop (k+1)= [])=decide (k+1=np):=by
     have hl:=Vi bss ks (by rw[Aa HP,Aa HKL]);rw[Aa HP]at hl
     by_cases e:k+1=np
     . rw[decide_eq_true e,decide_eq_true];exact XR (by omega)
     . rw[decide_eq_false e,decide_eq_false];intro h2;have:=List.drop_eq_nil_iff.1 h2
       omega
    have hpk:Tm ((Gc bss ks).drop (k+1)) (JT S bs x' (decide (k+1=np)))=T:=by rw[<-s3,Tm,hlast]
    have HPB:=Ab (C8 (fun g=>g<w1.heap.size) w1.heap.size w1.heap.size (A k) n (C k) x' (decide (k+1=np)) bs S wr s2.is hn (by omega) hcp hnl hx2 hby hvl (fun b' o' e hne=>by
     rcases hib with h|⟨b3,o3,e3,hb3,_⟩
     . exact absurd h hne
     . rw[e3]at e;cases e;exact hb3) (fun g hg=>by omega) (by omega))
    have hbq:((k:Int)==(np:Int)-1)=decide (k+1=np):=by
     by_cases e:k+1=np
     . rw[decide_eq_true e,beq_iff_eq];omega
     . rw[decide_eq_false e,beq_eq_false_iff_ne];omega
    obtain⟨la,hla⟩:∃la,decide (k+1=np)=la:=⟨_,rfl⟩
    rw[hla]at hbq hpk HPB;clear hla;have HS2:=Ab s2;have HPK:=Ab hpk;have HR4:=Ab r4;have hkI:(k:Int)<(np:Int):=by omega
    clear hst s1 s2 s3 hkeep hby hcp hnl hvl hib hid hbs hx hgl r3 r4 hlast hpk hn hkb hkk;generalize A k=ak at*;generalize C k=cc at*;go_wp2_with fail
    refine(Aa HPB).mono ?_;rintro e w4 ⟨rfl,hle,hR⟩;have HN:=Ab ((Aa HS2).trans hR);clear hR;go_wp2;go_roundw
    case rel=>exact⟨k+1,t+n,_,by omega,by omega,by go_num,Ab ⟨Aa HR4,Aa HN,Aa HPK,by omega⟩⟩
    case measure=>simp[intOf];omega
  . obtain rfl:np=k:=by omega
    rw[XR (by rw[Vi bss ks (by rw[Aa HP,Aa HKL]),Aa HP];exact VB _),Tm]at s3;subst s3;obtain⟨ov,bs,h1,h2,h3,h4,h5⟩:=s2.is.ex;have c0:wr.cell? ⟨w1.heap.size,0,none⟩=some ov:=Ac h1;obtain⟨a',cc,rfl⟩:∃a c,ov=.slice a bs.length c:=An h2;have HF:Hid (wr.ownsRow w1.heap.size 5 1 (.slice a' bs.length cc) bs.length (u8s bs)/\rowB bs bs.length=padB S/\(∀j,bs.getD j 0<256)/\Below w1.heap.size w1 wr):=⟨Pa h2 (by omega),h5,h4,((Below.refl w1.heap.size w1).alloc (VB _) _).trans s2.below⟩
    obtain⟨L,hL⟩:∃L,bs.length=L:=⟨_,rfl⟩
    have HL:=Ab hL;rw[hL]at c0;clear hst s1 s2 s4 hkeep h1 h2 h3 h4 h5 hL;go_wp2;go_ret2;exact⟨.slice a' bs.length cc,bs,by rw[Aa HL];rfl,Aa HF⟩
noncomputable def oneB (bs:List Nat)(k:Nat):List Bool:=padB (JT [] bs k true)
noncomputable def GA (bs:List Nat)(k:Nat):Nat:=(oneB bs k).length/8
noncomputable def bestP (bs:List Nat):Nat->Nat
 |0=>0
 |1=>0
 |k+2=>if GA bs (k+1)<GA bs (bestP bs (k+1))then k+1 else bestP bs (k+1)
structure IsOne (bs:List Nat)(k:Nat)(out:List Nat):Prop where
 row:rowB out out.length=oneB bs k
 val:∀j,out.getD j 0<256
theorem IsOne.len {bs out:List Nat}{k:Nat}(h:IsOne bs k out):out.length=GA bs k:=by
 unfold GA;rw[<-h.row,Af];omega
theorem Z5k (bs:List Nat)(k:Nat)(last:Bool):3<=(JT [] bs k last).length:=by
 unfold JT
 split
 . unfold Qm;simp only[VE,Ah,VJ,WE,XD];omega
 . split<;>simp only[VE,Ah,VJ,WE]<;>omega
theorem IsOne.pos {bs out:List Nat}{k:Nat}(h:IsOne bs k out):0<out.length:=by
 have h1:=congrArg List.length h.row;rw[Af]at h1;unfold oneB at h1;rw[Dr]at h1;have:=Z5k bs k true
 omega
theorem MQ (bs:List Nat)(k:Nat):Tm (Gc [bs] [(k:Int)]) []=JT [] bs k true:=by
 have:Gc [bs] [(k:Int)]= [(bs,k)]:=by simp[Gc]
 rw[this,Tm,Tm];simp
theorem D0 {w:World}{a:Option Addr}{n cap:Nat}{bs:List Nat}(hl:bs.length=n)(hcap:n<=cap)(hnil:a=none->cap=0)(hB:BytesIn w a bs)(hx:∀j,bs.getD j 0<256)(hm:n<=9223372036854775807)(k:Int)(T U:TypeId):
 PartsIn ((w.alloc (.cells #[.slice a n cap] T)).alloc (.cells #[.int .i64 k] U)) w.heap.size 0 (fun _=>a) (fun _=>cap) [bs]/\Row .i64 ((w.alloc (.cells #[.slice a n cap] T)).alloc (.cells #[.int .i64 k] U)) (w.heap.size+1) 0 [k]:=by
 have hj0:∀j,j< [bs].length->j=0:=fun j hj=>by simp at hj;omega
 refine⟨⟨by simp;omega,fun j hj=> ?_,fun j hj=> ?_,fun j hj=> ?_,fun j hj=> ?_,fun j hj=> ?_,fun j i=> ?_⟩,fun j hj=> ?_⟩
 . rw[hj0 j hj];simp[hl]
 . rw[hj0 j hj];exact hB.below (((Below.refl w.heap.size w).alloc (VB _) _).alloc (by simp) _) (VB _)
 . rw[hj0 j hj];simpa[hl]using hcap
 . exact fun e=>hnil e
 . rw[hj0 j hj];simpa[hl]using hm
 . cases j with
   |zero=>simpa using hx i
   |succ j=>simp
 . have:j=0:=by simp at hj;omega
   subst this;simp
theorem Z4c {n:Nat}(h:3000<n)(bs:List Nat)(hl:bs.length=n)(k:Int):JQ ([bs].map List.length) [k]=2:=by
 unfold JQ;rw[if_neg (by simp)];simp only[WQ,ZE,Q2];rw[if_pos (.inl (by omega))]
theorem Z0m {n k:Nat}(h:n<=3000)(bs:List Nat)(hl:bs.length=n)(hk:k<=2):JQ ([bs].map List.length) [(k:Int)]=0:=by
 unfold JQ;rw[if_neg (by simp)];simp only[WQ,ZE,Q2];rw[if_neg (by omega)];exact if_pos (show (k:Int)=0\/ (k:Int)=1\/ (k:Int)=2 by omega)
theorem Z0l (a:Option Addr)(n cap:Nat)(k:Int)(bs:List Nat)(w:World)(T U:TypeId)(hl:bs.length=n)(hcap:n<=cap)(hnil:a=none->cap=0)(hB:BytesIn w a bs)(hx:∀j,bs.getD j 0<256)(hm:n<=9223372036854775807)(hn:3000<n):
 Calls Tryz.prog 76 #[.slice (some ⟨w.heap.size,0,none⟩) 1 1,.slice (some ⟨w.heap.size+1,0,none⟩) 1 1] ((w.alloc (.cells #[.slice a n cap] T)).alloc (.cells #[.int .i64 k] U)) fun e w'=>e=.returned (.tuple #[.slice none 0 0,.int .i64 2])/\Below w.heap.size w w':=by
 obtain⟨h1,h2⟩:=D0 hl hcap hnil hB hx hm k T U;refine(Z0e w.heap.size 0 1 (some ⟨w.heap.size+1,0,none⟩) 1 1 1 _ _ [bs] [k] _ rfl rfl (.inr h1) (.inr ⟨_,0,rfl,by simp,h2⟩) (some ⟨w.heap.size,0,none⟩) (fun _=>rfl) 2 (Ab (Z4c hn bs hl k)) (by decide)).mono ?_;rintro e w' ⟨rfl,rfl⟩;exact⟨rfl,((Below.refl w.heap.size w).alloc (VB _) _).alloc (by simp) _⟩
theorem Z6j (a:Option Addr)(n cap k:Nat)(bs:List Nat)(w:World)(T U:TypeId)(hl:bs.length=n)(hcap:n<=cap)(hnil:a=none->cap=0)(hB:BytesIn w a bs)(hx:∀j,bs.getD j 0<256)(hn:n<=3000)(hk:k<=2):
 Calls Tryz.prog 76 #[.slice (some ⟨w.heap.size,0,none⟩) 1 1,.slice (some ⟨w.heap.size+1,0,none⟩) 1 1] ((w.alloc (.cells #[.slice a n cap] T)).alloc (.cells #[.int .i64 (k:Int)] U)) fun e w'=>∃g c out,e=.returned (.tuple #[.slice (some ⟨g,0,none⟩) (GA bs k) c,.int .i64 0])/\g<w'.heap.size/\Bytes w' g 0 out/\IsOne bs k out/\Below w.heap.size w w':=by
 obtain⟨h1,h2⟩:=D0 hl hcap hnil hB hx (by omega) (k:Int) T U;refine(Z44 w.heap.size 0 1 (w.heap.size+1) 0 1 1 _ _ [bs] [(k:Int)] _ rfl rfl h1 (by simp) h2 (Z0m hn bs hl hk)).mono ?_;rintro e w' ⟨v,out,rfl,hO,hr,hv,hb⟩;rw[MQ]at hr;have hI:IsOne bs k out:=⟨hr,hv⟩
 obtain⟨g,c,rfl,_,hg⟩:=Ba hO hI.pos;refine⟨g,c,out,by rw[hI.len],hg,fun j hj=> ?_,hI,(((Below.refl w.heap.size w).alloc (VB _) _).alloc (by simp) _).trans (hb.mono (by simp;omega))⟩;rw[WG];have:=hO.cellAt j (by omega)
 rw[this];simp[List.getD,hj]
end Go.Proofs.YtleocpdblhbimaaGreatDoor
namespace Go.Proofs.YtleocpdblhbimaaGreatDoor
set_option linter.unusedVariables false
set_option maxRecDepth 100000
end Go.Proofs.YtleocpdblhbimaaGreatDoor
