import Derived.Test.YtleocpdblhbimaaGreatDoorQ39
set_option linter.unusedSimpArgs false
set_option maxHeartbeats 1000000
namespace Go.Proofs.YtleocpdblhbimaaGreatDoor
open Go.RowKit
set_option linter.unusedVariables false
set_option maxRecDepth 100000
def Gc (bss:List (List Nat))(ks:List Int):List (List Nat×Nat):=(bss.zip ks).map (fun p=>(p.1,p.2.toNat))
theorem Y2 (E:List (List Nat))(ks:List Int)(H:ks.length=E.length){k:Nat}(G:k<E.length):(Gc E ks).drop k=(E.getD k [],(ks.getD k 0).toNat)::(Gc E ks).drop (k+1):=by
 have hl:k<(Gc E ks).length:=by simp[Gc];omega
 rw[WS hl];have F:k<ks.length:=by omega
 simp[Gc,List.getD,G,F]
theorem Vi (E:List (List Nat))(ks:List Int)(F:ks.length=E.length):(Gc E ks).length=E.length:=by simp[Gc];omega
theorem QS {F:List Nat}{ks:List Int}{k t:Nat}{n:Nat}{x:Int}(I:k<F.length)(O:k<ks.length)(U:F.getD k 0=n)(T:ks.getD k 0=x)(E:Q2 (F.drop k) (ks.drop k) k t=0):t+n<=3000/\k<40/\(x=0\/x=1\/x=2)/\Q2 (F.drop (k+1)) (ks.drop (k+1)) (k+1) (t+n)=0:=by
 have H:=Mh F 0 I;have G:=Mh ks 0 O;rw[U]at H;rw[T]at G;rw[H,G,Q2]at E
 split at E
 . cases E
 . rename_i Y
   split at E
   . rename_i M
     exact⟨by omega,by omega,M,E⟩
   . cases E
theorem DO:∀(E:List Nat) (ks:List Int) (i t:Nat),Q2 E ks i t=0->E≠ []->i+E.length<=40
 | [],_,_,_,_,h=>absurd rfl h
 |n::r,ks,i,t,h,_=>by
  rw[Q2]at h
  split at h
  . cases h
  . rename_i F
    split at h
    . by_cases e:r= []
      . subst e;simp only[VJ,WE];omega
      . have:=DO r ks.tail (i+1) (t+n) h e
        rw[VJ];omega
    . cases h
theorem Z0e (b o T:Nat)(G:Option Addr)(M H O:Nat)(A:Nat->Option Addr)(C:Nat->Nat)(F:List (List Nat))(ks:List Int)(w:World)(ae:F.length=M)(ab:ks.length=H)(Z:F= []\/PartsIn w b o A C F)(hK:RowIn .i64 w G ks)(I:Option Addr)(Y:F≠ []->I=some ⟨b,o,none⟩)(E:Int)(U:Hid (JQ (F.map List.length) ks=E))(aa:E≠0):
 Calls Tryz.prog 76 #[.slice I M T,.slice G H O] w fun e w'=>e=.returned (.tuple #[.slice none 0 0,.int .i64 E])/\w'=w:=by
 have ac:=Ab (We b o T G M H O A C F ks w ae ab Z hK I Y E U);have hb:(E==0)=false:=by rw[beq_eq_false_iff_ne];exact aa
 have ag:(E !=0)=true:=by simp[bne,hb]
 clear Z hK Y U;go_enter Tryz.func76,Tryz.ntmps76
 go_wp2_with fail
 refine(Aa ac).mono ?_;rintro e af ⟨rfl,rfl⟩;go_wp2;go_ret2;exact⟨rfl,rfl⟩
theorem Z44 (b o a0 Y ab E ay:Nat)(A:Nat->Option Addr)(C:Nat->Nat)(G:List (List Nat))(ks:List Int)(w:World)(U:G.length=E)(aw:ks.length=E)(ai:PartsIn w b o A C G)(bc:Y<w.heap.size)(hK:Row .i64 w Y ab ks)(H:JQ (G.map List.length) ks=0):
 Calls Tryz.prog 76 #[.slice (some ⟨b,o,none⟩) E a0,.slice (some ⟨Y,ab,none⟩) E ay] w fun e w'=>∃v out,e=.returned (.tuple #[v,.int .i64 0])/\w'.ownsRow w.heap.size 5 1 v out.length (u8s out)/\rowB out out.length=padB (Tm (Gc G ks) [])/\(∀j,out.getD j 0<256)/\Below w.heap.size w w':=by
 have a4:=Ab (We b o a0 (some ⟨Y,ab,none⟩) E E ay A C G ks w U aw (.inr ai) (.inr ⟨Y,ab,rfl,bc,hK⟩) (some ⟨b,o,none⟩) (fun _=>rfl) 0 (Ab H))
 have a1:Hid (Q2 (G.map List.length) ks 0 0=0):=by
  unfold JQ at H
  split at H
  . cases H
  . exact H
 have cd:0<E:=by
  unfold JQ at H
  split at H
  . cases H
  . rename_i h
    rw[WL,U]at h;omega
 have cg:E<=40:=by
  have:=DO _ _ _ _ (Aa a1) (fun e=>by rw[List.map_eq_nil_iff]at e;rw[e]at U;simp at U;omega)
  rw[WL,U]at this;omega
 have aa:=Ab U;have ag:=Ab aw;have Z:=Ab ai;have bg:=Ab hK;have b0:=ai.lt;clear H ai hK U aw;obtain⟨T,as⟩:=exq (Tm (Gc G ks) []);rw[as];have b7:=Ab as;clear as;have bm:=Ab (RIs.empty (No:=fun g=>g<w.heap.size) (B:=w.heap.size) (w:=w.alloc (.cells #[.slice none 0 0,.int .i64 0] 179)) (b:=w.heap.size) (VB _) (by simp) (heap_alloc_new _ _));go_enter Tryz.func76,Tryz.ntmps76
 go_wp2_with fail
 refine(Aa a4).mono ?_;rintro e F ⟨rfl,rfl⟩;clear a4;go_wp2;go_loopw [20] (fun v wr=>∃(k t:Nat) (S:List Bool),k<=E/\t<=3000/\v=.int .i64 (k:Int)/\Hid (Q2 ((G.map List.length).drop k) (ks.drop k) k t=0/\Rp (fun g=>g<F.heap.size) F.heap.size (F.alloc (.cells #[.slice none 0 0,.int .i64 0] 179)) F.heap.size S wr/\Tm ((Gc G ks).drop k) S=T/\S.length<=2400*k+60*t)) (fun v _=>E-(intOf v).toNat)
 case atStart=>exact⟨0,0,[],VH _,by decide,rfl,Ab ⟨Aa a1,Rp.refl (Aa bm),Aa b7,by simp⟩⟩
 case round=>
  obtain⟨k,t,S,ch,b9,rfl,aj⟩:=hrel;obtain⟨am,O,M,b4⟩:=Aa aj;have bq:=O.below.size;simp only[World.size_alloc]at bq;have ae:∀g,g<F.heap.size->wr.heap[g]? =F.heap[g]? :=fun g ar=>(O.kp g (by simp;omega) ar).trans (Below.heap_alloc F _ g ar)
  by_cases a9:k<E
  . have I:k<G.length:=by rw[Aa aa];exact a9
    have an:k<ks.length:=by rw[Aa ag];exact a9
    have c1:=(World.cell?_of_block (w:=F) (a:=⟨b,o+k,none⟩) (ae b b0)).trans ((Aa Z).cell k I);have c2:=(World.cell?_of_block (w:=F) (a:=⟨Y,ab+k,none⟩) (ae Y bc)).trans (Aa bg k an);have ak:=Yu ((Aa Z).byt k I) (by omega) (fun bb bo _ _ b3=>ae bb b3) (w':=wr);have ah:=(Aa Z).cap k I;have ba:=(Aa Z).nil k I;have ax:=(Aa Z).val k;have av:=(Aa Z).byt k I;have hid:=Y2 G ks (by rw[Aa aa,Aa ag]) I;rw[hid]at M;obtain⟨bs,ap⟩:=exq (G.getD k []);obtain⟨x,al⟩:=exq (ks.getD k 0);rw[ap]at c1 ak ah ax M av;rw[al]at c2 M
    have bd:(G.map List.length).getD k 0=bs.length:=by
     rw[<-ap];simp[List.getD,I]
    obtain⟨r1,r2,a8,au⟩:=QS (by rw[WL];exact I) an bd al am
    obtain⟨af,bj⟩:∃af:Nat,x=(af:Int)/\af<=2:=by
     rcases a8 with rfl|rfl|rfl
     . exact⟨0,rfl,by decide⟩
     . exact⟨1,rfl,by decide⟩
     . exact⟨2,rfl,by decide⟩
    obtain⟨rfl,bv⟩:=bj;rw[WM]at M;obtain⟨n,hn⟩:=exq (bs.length);rw[hn]at c1 ah r1 au
    have a6:decide ((Gc G ks).drop (k+1)= [])=decide (k+1=E):=by
     have hl:=Vi G ks (by rw[Aa aa,Aa ag]);rw[Aa aa]at hl
     by_cases e:k+1=E
     . rw[decide_eq_true e,decide_eq_true];exact XR (by omega)
     . rw[decide_eq_false e,decide_eq_false];intro ac;have:=List.drop_eq_nil_iff.1 ac
       omega
    have aq:Tm ((Gc G ks).drop (k+1)) (JT S bs af (decide (k+1=E)))=T:=by rw[<-M,Tm,a6]
    have be:=Ab (C8 (fun g=>g<F.heap.size) F.heap.size F.heap.size (A k) n (C k) af (decide (k+1=E)) bs S wr O.is hn (by omega) ah ba bv ak ax (fun bb bo e b8=>by
     rcases av with h|⟨ce,ci,e3,bi,_⟩
     . exact absurd h b8
     . rw[e3]at e;cases e;exact bi) (fun g ar=>by omega) (by omega))
    have bu:((k:Int)==(E:Int)-1)=decide (k+1=E):=by
     by_cases e:k+1=E
     . rw[decide_eq_true e,beq_iff_eq];omega
     . rw[decide_eq_false e,beq_eq_false_iff_ne];omega
    obtain⟨la,a7⟩:=exq (decide (k+1=E));rw[a7]at bu aq be;clear a7;have bh:=Ab O;have bw:=Ab aq;have bz:=Ab au;have cm:(k:Int)<(E:Int):=by omega
    clear aj am O M ae ak ah ba ax av hid ap al bd a8 au a6 aq hn I an;generalize A k=cj at*;generalize C k=cc at*;go_wp2_with fail
    refine(Aa be).mono ?_;rintro e cl ⟨rfl,ck,a5⟩;have bn:=Ab ((Aa bh).trans a5);clear a5;go_wp2;go_roundw
    case rel=>exact⟨k+1,t+n,_,by omega,by omega,by go_num,Ab ⟨Aa bz,Aa bn,Aa bw,by omega⟩⟩
    case measure=>simp[intOf];omega
  . obtain rfl:E=k:=by omega
    rw[XR (by rw[Vi G ks (by rw[Aa aa,Aa ag]),Aa aa];exact VB _),Tm]at M;subst M;obtain⟨ov,bs,a2,ac,bt,bf,a3⟩:=O.is.ex;have c0:wr.cell? ⟨F.heap.size,0,none⟩=some ov:=Ac a2;obtain⟨az,cc,rfl⟩:∃a c,ov=.slice a bs.length c:=An ac;have bk:Hid (wr.ownsRow F.heap.size 5 1 (.slice az bs.length cc) bs.length (u8s bs)/\rowB bs bs.length=padB S/\(∀j,bs.getD j 0<256)/\Below F.heap.size F wr):=⟨Pa ac (by omega),a3,bf,((Below.refl F.heap.size F).alloc (VB _) _).trans O.below⟩
    obtain⟨L,ao⟩:=exq (bs.length);have b5:=Ab ao;rw[ao]at c0;clear aj am O b4 ae a2 ac bt bf a3 ao;go_wp2;go_ret2;exact⟨.slice az bs.length cc,bs,by rw[Aa b5];rfl,Aa bk⟩
noncomputable def oneB (bs:List Nat)(k:Nat):List Bool:=padB (JT [] bs k true)
noncomputable def GA (bs:List Nat)(k:Nat):Nat:=(oneB bs k).length/8
noncomputable def bestP (bs:List Nat):Nat->Nat
 |0=>0
 |1=>0
 |k+2=>if GA bs (k+1)<GA bs (bestP bs (k+1))then k+1 else bestP bs (k+1)
structure IsOne (bs:List Nat)(k:Nat)(out:List Nat):Prop where
 row:rowB out out.length=oneB bs k
 val:∀j,out.getD j 0<256
theorem IsOne.len {bs out:List Nat}{k:Nat}(E:IsOne bs k out):out.length=GA bs k:=by
 unfold GA;rw[<-E.row,Af];omega
theorem Z5k (bs:List Nat)(k:Nat)(E:Bool):3<=(JT [] bs k E).length:=by
 unfold JT
 split
 . unfold Qm;simp only[VE,Ah,VJ,WE,XD];omega
 . split<;>simp only[VE,Ah,VJ,WE]<;>omega
theorem IsOne.pos {bs out:List Nat}{k:Nat}(F:IsOne bs k out):0<out.length:=by
 have E:=congrArg List.length F.row;rw[Af]at E;unfold oneB at E;rw[Dr]at E;have:=Z5k bs k true
 omega
theorem MQ (bs:List Nat)(k:Nat):Tm (Gc [bs] [(k:Int)]) []=JT [] bs k true:=by
 have:Gc [bs] [(k:Int)]= [(bs,k)]:=by simp[Gc]
 rw[this,Tm,Tm];simp
theorem D0 {w:World}{a:Option Addr}{n F:Nat}{bs:List Nat}(H:bs.length=n)(Z:n<=F)(U:a=none->F=0)(Y:BytesIn w a bs)(M:∀j,bs.getD j 0<256)(O:n<=9223372036854775807)(k:Int)(T I:TypeId):
 PartsIn ((w.alloc (.cells #[.slice a n F] T)).alloc (.cells #[.int .i64 k] I)) w.heap.size 0 (fun _=>a) (fun _=>F) [bs]/\Row .i64 ((w.alloc (.cells #[.slice a n F] T)).alloc (.cells #[.int .i64 k] I)) (w.heap.size+1) 0 [k]:=by
 have G:∀j,j< [bs].length->j=0:=fun j E=>by simp at E;omega
 refine⟨⟨by simp;omega,fun j E=> ?_,fun j E=> ?_,fun j E=> ?_,fun j E=> ?_,fun j E=> ?_,fun j i=> ?_⟩,fun j E=> ?_⟩
 . rw[G j E];simp[H]
 . rw[G j E];exact Y.below (((Below.refl w.heap.size w).alloc (VB _) _).alloc (by simp) _) (VB _)
 . rw[G j E];simpa[H]using Z
 . exact fun e=>U e
 . rw[G j E];simpa[H]using O
 . cases j with
   |zero=>simpa using M i
   |succ j=>simp
 . have:j=0:=by simp at E;omega
   subst this;simp
theorem Z4c {n:Nat}(F:3000<n)(bs:List Nat)(E:bs.length=n)(k:Int):JQ ([bs].map List.length) [k]=2:=by
 unfold JQ;rw[if_neg (by simp)];simp only[WQ,ZE,Q2];rw[if_pos (.inl (by omega))]
theorem Z0m {n k:Nat}(G:n<=3000)(bs:List Nat)(E:bs.length=n)(F:k<=2):JQ ([bs].map List.length) [(k:Int)]=0:=by
 unfold JQ;rw[if_neg (by simp)];simp only[WQ,ZE,Q2];rw[if_neg (by omega)];exact if_pos (show (k:Int)=0\/ (k:Int)=1\/ (k:Int)=2 by omega)
theorem Z0l (a:Option Addr)(n E:Nat)(k:Int)(bs:List Nat)(w:World)(T G:TypeId)(F:bs.length=n)(Z:n<=E)(U:a=none->E=0)(Y:BytesIn w a bs)(H:∀j,bs.getD j 0<256)(I:n<=9223372036854775807)(M:3000<n):
 Calls Tryz.prog 76 #[.slice (some ⟨w.heap.size,0,none⟩) 1 1,.slice (some ⟨w.heap.size+1,0,none⟩) 1 1] ((w.alloc (.cells #[.slice a n E] T)).alloc (.cells #[.int .i64 k] G)) fun e w'=>e=.returned (.tuple #[.slice none 0 0,.int .i64 2])/\Below w.heap.size w w':=by
 obtain⟨aa,O⟩:=D0 F Z U Y H I k T G;refine(Z0e w.heap.size 0 1 (some ⟨w.heap.size+1,0,none⟩) 1 1 1 _ _ [bs] [k] _ rfl rfl (.inr aa) (.inr ⟨_,0,rfl,by simp,O⟩) (some ⟨w.heap.size,0,none⟩) (fun _=>rfl) 2 (Ab (Z4c M bs F k)) (by decide)).mono ?_;rintro e w' ⟨rfl,rfl⟩;exact⟨rfl,((Below.refl w.heap.size w).alloc (VB _) _).alloc (by simp) _⟩
theorem Z6j (a:Option Addr)(n E k:Nat)(bs:List Nat)(w:World)(T I:TypeId)(H:bs.length=n)(af:n<=E)(ac:a=none->E=0)(ae:BytesIn w a bs)(M:∀j,bs.getD j 0<256)(O:n<=3000)(aa:k<=2):
 Calls Tryz.prog 76 #[.slice (some ⟨w.heap.size,0,none⟩) 1 1,.slice (some ⟨w.heap.size+1,0,none⟩) 1 1] ((w.alloc (.cells #[.slice a n E] T)).alloc (.cells #[.int .i64 (k:Int)] I)) fun e w'=>∃g c out,e=.returned (.tuple #[.slice (some ⟨g,0,none⟩) (GA bs k) c,.int .i64 0])/\g<w'.heap.size/\Bytes w' g 0 out/\IsOne bs k out/\Below w.heap.size w w':=by
 obtain⟨ag,Z⟩:=D0 H af ac ae M (by omega) (k:Int) T I;refine(Z44 w.heap.size 0 1 (w.heap.size+1) 0 1 1 _ _ [bs] [(k:Int)] _ rfl rfl ag (by simp) Z (Z0m O bs H aa)).mono ?_;rintro e w' ⟨v,out,rfl,G,hr,U,hb⟩;rw[MQ]at hr;have F:IsOne bs k out:=⟨hr,U⟩
 obtain⟨g,c,rfl,_,Y⟩:=Ba G F.pos;refine⟨g,c,out,by rw[F.len],Y,fun j ab=> ?_,F,(((Below.refl w.heap.size w).alloc (VB _) _).alloc (by simp) _).trans (hb.mono (by simp;omega))⟩;rw[WG];have:=G.cellAt j (by omega)
 rw[this];simp[List.getD,ab]
end Go.Proofs.YtleocpdblhbimaaGreatDoor
namespace Go.Proofs.YtleocpdblhbimaaGreatDoor
set_option linter.unusedVariables false
set_option maxRecDepth 100000
end Go.Proofs.YtleocpdblhbimaaGreatDoor
