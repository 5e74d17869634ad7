import Derived.Test.YtleocpdblhbimaaGreatDoorQ33
import Derived.Shelf.Abstract
import Derived.Deep.DeepCutAuto
import Derived.OwnWalk
import Derived.Maps.GroupsBeside
import Derived.WideKeyPair
import Derived.WideKeyEntry
set_option linter.unusedSimpArgs false
set_option maxHeartbeats 4000000
namespace Go.Proofs.YtleocpdblhbimaaGreatDoor
open Go.RowKit
set_option linter.unusedVariables false
set_option maxRecDepth 100000
theorem Fy (x f:Nat):He x f 0= []:=by cases f<;>simp[He]
theorem B9 (x:Nat):∀m f,m<=f->He x f m=He x m m:=by
 intro m
 induction m using Nat.strongRecOn with
 |ind m ih=>
  intro f H
  by_cases G:m=0
  . subst G;rw[Fy,Fy]
  . obtain⟨F,rfl⟩:∃F,f=F+1:=⟨f-1,by omega⟩
    obtain⟨E,rfl⟩:∃E,m=E+1:=⟨m-1,by omega⟩
    have t:∀c,0<c->He x F (E+1-c)=He x E (E+1-c):=fun c hc=>by rw[ih (E+1-c) (by omega) F (by omega),ih (E+1-c) (by omega) E (by omega)]
    rw[He,He,if_neg G,if_neg G,t 1 (by omega),t (min (E+1) 6) (by omega),t (min (E+1) 138) (by omega),Fy,Fy]
theorem LU (x q:Nat)(E:0<q):He x q q=if q<3 then (x,0,0)::He x (q-1) (q-1)else if 0<x then (16,min q 6-3,2)::He x (q-min q 6) (q-min q 6)else if q<11 then (17,q-3,3)::He x (q-q) (q-q)else (18,min q 138-11,7)::He x (q-min q 138) (q-min q 138):=by
 obtain⟨q',rfl⟩:∃q',q=q'+1:=⟨q-1,by omega⟩
 have t:∀c,0<c->He x q' (q'+1-c)=He x (q'+1-c) (q'+1-c):=fun c hc=>B9 x _ _ (by omega)
 rw[He,if_neg (by omega),t 1 (by omega),t (min (q'+1) 6) (by omega),t (min (q'+1) 138) (by omega),XW,Fy,Fy]
structure Snk3 (J:List (Nat×Nat×Nat)->World->Prop)(Ki:World->World->Prop)(kf:Nat)(cf:Array Value)(all:List (Nat×Nat×Nat)):Prop where
 ef:∀(args:Array Value) (w:World),(callFunc kf args).run Tryz.prog w=.ok (.enter kf args) w
 step:∀ {is R:List (Nat×Nat×Nat)} {i:Nat×Nat×Nat} {W:World},is++i::R=all->J is W->Calls Tryz.prog kf (#[.int .i64 (i.1:Int),.int .i64 (i.2.1:Int),.int .i64 (i.2.2:Int)]++cf) W fun e W'=>e=.returned (.tuple #[])/\J (is++ [i]) W'/\Ki W W'
 refl:∀W,Ki W W
 jd:∀ {is:List (Nat×Nat×Nat)} {W:World} (q:Nat),J is W->J is (W.drewN q)
 kd:∀(W:World) (q:Nat),Ki W (W.drewN q)
 trans:∀ {a b c},Ki a b->Ki b c->Ki a c
theorem Ra (J:List (Nat×Nat×Nat)->World->Prop)(af:World->World->Prop)(an:Nat)(aq:Array Value)(az:List (Nat×Nat×Nat))(hK:Snk3 J af an aq az)(x m:Nat)(Y R:List (Nat×Nat×Nat))(w:World)(bb:x<=15)(ba:1<=m)(a9:m<=1000)(ap:Y++Qt x m++R=az)(as:J Y w):
 Calls Tryz.prog 263 #[.int .i64 (x:Int),.int .i64 (m:Int),.func (.func an) #[] aq] w fun e w'=>e=.returned (.tuple #[])/\J (Y++Qt x m) w'/\af w w':=by
 have ef:=hK.ef;have U:=Ab hK;have aw:=Ab as;clear hK as;obtain⟨T,ah⟩:=exq (Y++Qt x m);rw[ah]at ap;have ay:=Ab ap;have ao:=Ab ah;clear ap;rw[ah];clear ah;go_enter Tryz.func263,Tryz.ntmps263
 go_upto_if 8 with (fail)
 go_cut [1] (fun v wc=>∃(q:Nat) (Z:List (Nat×Nat×Nat)),v=.int .i64 (q:Int)/\q<=1000/\Hid (J Z wc/\af w wc/\Z++He x q q=T))
 case first=>
  by_cases ag:0<x
  . have ar:(0:Int)<(x:Int):=by omega
    have hr:Qt x m=(x,0,0)::He x (m-1) (m-1):=by unfold Qt;rw[if_pos ag,B9 x _ _ (by omega)]
    have a8:=Ab ((Aa U).step (is:=Y) (i:=(x,0,0)) (R:=He x (m-1) (m-1)++R) (W:=w) (by rw[<-Aa ay,<-Aa ao,hr];simp) (Aa aw));have am:Hid (Y++ [(x,0,0)]++He x (m-1) (m-1)=T):=Ab (by rw[<-Aa ao,hr];simp);go_wp2_with fail
    refine(Aa a8).mono ?_;rintro e ab ⟨rfl,H,E⟩;have F:=Ab (And.intro H E);clear H E;go_wp2
    all_goals go_meet
    all_goals exact⟨m-1,Y++ [(x,0,0)],by go_num,by omega,Ab ⟨(Aa F).1,(Aa F).2,Aa am⟩⟩
  . have ar:¬(0:Int)<(x:Int):=by omega
    have hr:Qt x m=He x m m:=by unfold Qt;rw[if_neg ag]
    have am:Hid (Y++He x m m=T):=Ab (by rw[<-Aa ao,hr]);go_wp2
    all_goals go_meet
    all_goals exact⟨m,Y,rfl,a9,Ab ⟨Aa aw,(Aa U).refl _,Aa am⟩⟩
 case rest=>
  obtain⟨a4,a2,rfl,a3,a6⟩:=hcut;go_wp2_with fail
  go_loopw [1] (fun v wr=>∃(q:Nat) (Z:List (Nat×Nat×Nat)),v=.int .i64 (q:Int)/\q<=1000/\Hid (J Z wr/\af w wr/\Z++He x q q=T)) (fun v _=>(intOf v).toNat)
  case atStart=>exact⟨a4,a2,rfl,a3,a6⟩
  case round=>
   obtain⟨q,Z,rfl,bc,al⟩:=hrel;obtain⟨aj,ai,ae⟩:=Aa al
   by_cases ag:0<q
   . have ar:(0:Int)<(q:Int):=by omega
     have G:=LU x q ag
     have M:∀(i:Nat×Nat×Nat) (c:Nat),He x q q=i::He x (q-c) (q-c)->Hid (Calls Tryz.prog an (#[.int .i64 (i.1:Int),.int .i64 (i.2.1:Int),.int .i64 (i.2.2:Int)]++aq) wr fun e W'=>e=.returned (.tuple #[])/\J (Z++ [i]) W'/\af wr W')/\Hid (Z++ [i]++He x (q-c) (q-c)=T):=by
      intro i c hc;refine⟨Ab ((Aa U).step (is:=Z) (i:=i) (R:=He x (q-c) (q-c)++R) (by rw[<-Aa ay,<-ae,hc];simp) aj),Ab (by rw[<-ae,hc];simp)⟩
     have aa:=Ab ai;clear al aj ai ae
     by_cases ax:q<3
     . rw[if_pos ax]at G;obtain⟨I,O⟩:=M _ _ G;have a0:(q:Int)<3:=by omega
       clear M G;go_wp2_with fail
       refine(Aa I).mono ?_;rintro e ab ⟨rfl,H,E⟩;have F:=Ab (And.intro H ((Aa U).trans (Aa aa) E));clear H E;go_wp2;go_roundw
       case rel=>exact⟨q-1,_,by go_num,by omega,Ab ⟨(Aa F).1,(Aa F).2,Aa O⟩⟩
       case measure=>simp[intOf];omega
     . rw[if_neg ax]at G;have a0:¬(q:Int)<3:=by omega
       by_cases au:0<x
       . rw[if_pos au]at G;have a1:(0:Int)<(x:Int):=by omega
         rcases ZR q 6 with ac|ac|ac
         . rw[show min q 6=q by omega]at G;have ak:(q:Int)<6:=by omega
           obtain⟨I,O⟩:=M _ _ G;rw[show ((q-3:Nat):Int)=(q:Int)-3 by omega]at I;clear M G;go_wp2_with fail
           try rw[show min (q:Int) 6=(q:Int) by omega]
           refine(Aa I).mono ?_;rintro e ab ⟨rfl,H,E⟩;have F:=Ab (And.intro H ((Aa U).trans (Aa aa) E));clear H E;go_wp2;go_roundw
           case rel=>exact⟨q-q,_,by go_num,by omega,Ab ⟨(Aa F).1,(Aa F).2,Aa O⟩⟩
           case measure=>simp[intOf];omega
         . subst ac;obtain⟨I,O⟩:=M _ _ G;clear M G;go_wp2_with fail
           refine(Aa I).mono ?_;rintro e ab ⟨rfl,H,E⟩;have F:=Ab (And.intro H ((Aa U).trans (Aa aa) E));clear H E;go_wp2;go_roundw
           case rel=>exact⟨0,_,by go_num,by omega,Ab ⟨(Aa F).1,(Aa F).2,Aa O⟩⟩
           case measure=>simp[intOf]
         . rw[show min q 6=6 by omega]at G;have ak:(6:Int)<(q:Int):=by omega
           obtain⟨I,O⟩:=M _ _ G;clear M G;go_wp2_with fail
           try rw[show min (q:Int) 6=6 by omega]
           refine(Aa I).mono ?_;rintro e ab ⟨rfl,H,E⟩;have F:=Ab (And.intro H ((Aa U).trans (Aa aa) E));clear H E;go_wp2;go_roundw
           case rel=>exact⟨q-6,_,by go_num,by omega,Ab ⟨(Aa F).1,(Aa F).2,Aa O⟩⟩
           case measure=>simp[intOf];omega
       . rw[if_neg au]at G;have a1:¬(0:Int)<(x:Int):=by omega
         by_cases av:q<11
         . rw[if_pos av]at G;have a7:(q:Int)<11:=by omega
           obtain⟨I,O⟩:=M _ _ G;rw[show ((q-3:Nat):Int)=(q:Int)-3 by omega]at I;clear M G;go_wp2_with fail
           refine(Aa I).mono ?_;rintro e ab ⟨rfl,H,E⟩;have F:=Ab (And.intro H ((Aa U).trans (Aa aa) E));clear H E;go_wp2;go_roundw
           case rel=>exact⟨q-q,_,by go_num,by omega,Ab ⟨(Aa F).1,(Aa F).2,Aa O⟩⟩
           case measure=>simp[intOf];omega
         . rw[if_neg av]at G;have a7:¬(q:Int)<11:=by omega
           rcases ZR q 138 with ac|ac|ac
           . rw[show min q 138=q by omega]at G;have ak:(q:Int)<138:=by omega
             obtain⟨I,O⟩:=M _ _ G;rw[show ((q-11:Nat):Int)=(q:Int)-11 by omega]at I;clear M G;go_wp2_with fail
             try rw[show min (q:Int) 138=(q:Int) by omega]
             refine(Aa I).mono ?_;rintro e ab ⟨rfl,H,E⟩;have F:=Ab (And.intro H ((Aa U).trans (Aa aa) E));clear H E;go_wp2;go_roundw
             case rel=>exact⟨q-q,_,by go_num,by omega,Ab ⟨(Aa F).1,(Aa F).2,Aa O⟩⟩
             case measure=>simp[intOf];omega
           . subst ac;obtain⟨I,O⟩:=M _ _ G;clear M G;go_wp2_with fail
             refine(Aa I).mono ?_;rintro e ab ⟨rfl,H,E⟩;have F:=Ab (And.intro H ((Aa U).trans (Aa aa) E));clear H E;go_wp2;go_roundw
             case rel=>exact⟨0,_,by go_num,by omega,Ab ⟨(Aa F).1,(Aa F).2,Aa O⟩⟩
             case measure=>simp[intOf]
           . rw[show min q 138=138 by omega]at G;have ak:(138:Int)<(q:Int):=by omega
             obtain⟨I,O⟩:=M _ _ G;clear M G;go_wp2_with fail
             try rw[show min (q:Int) 138=138 by omega]
             refine(Aa I).mono ?_;rintro e ab ⟨rfl,H,E⟩;have F:=Ab (And.intro H ((Aa U).trans (Aa aa) E));clear H E;go_wp2;go_roundw
             case rel=>exact⟨q-138,_,by go_num,by omega,Ab ⟨(Aa F).1,(Aa F).2,Aa O⟩⟩
             case measure=>simp[intOf];omega
   . obtain rfl:q=0:=by omega
     rw[Fy,XA]at ae;have a5:Hid (J T wr/\af w wr):=Ab ⟨by rw[<-ae];exact aj,ai⟩;clear al aj ai ae;go_wp2;go_end0
     exact⟨rfl,Aa a5⟩
end Go.Proofs.YtleocpdblhbimaaGreatDoor
namespace Go.Proofs.YtleocpdblhbimaaGreatDoor
set_option linter.unusedVariables false
set_option maxRecDepth 100000
theorem Mp:Ks.length=257:=by decide
theorem Sb:Sc.length=1:=rfl
theorem ID:Good Ks:=Ch (by decide+kernel)
theorem IC:Good Sc:=Ch (by decide+kernel)
theorem Yh:(List.range 257).all (fun k=>decide (0<Ks.getD k 0))=true:=by decide+kernel
theorem M1 {k:Nat}(E:k<257):0<Ks.getD k 0:=by
 have:=WX.1 Yh k (by simpa using E)
 exact of_decide_eq_true this
theorem Oc (bs:List Nat):(Gf bs).length=bs.length:=by simp[Gf]
theorem DF {bs:List Nat}(F:∀j,bs.getD j 0<256):∀t∈Gf bs,VT t:=by
 intro t E;unfold Gf at E;obtain⟨b,G,rfl⟩:=XG.1 E;obtain⟨j,H,rfl⟩:=XI G;refine⟨?_,.inl rfl⟩;have:=F j
 simpa[List.getD,H]using this
theorem M0 (bs:List Nat):itsOf (Gf bs)=bs.map (fun b=>It.sym b)++ [.sym 256]:=by
 unfold itsOf Tp Gf
 congr 1
 induction bs with
 |nil=>rfl
 |cons b bs ih=>
  rw[WQ,WQ,List.flatMap_cons,ih];rfl
theorem DE {bs:List Nat}(H:∀j,bs.getD j 0<256):Dyn (Gf bs) Ks Sc:=by
 refine⟨ID,IC,by rw[Mp];decide,by rw[Mp];decide,by rw[Sb];decide,by rw[Sb];decide,⟨fun k E=> ?_,fun k E=> ?_⟩,M1 (by decide)⟩
 . rw[M0]at E
   have h:k<257:=by
    rcases WP.1 E with h|h
    . obtain⟨b,G,F⟩:=XG.1 h
      cases F
      obtain⟨j,I,rfl⟩:=XI G;have:=H j
      simp[List.getD,I]at this
      omega
    . simp at h;omega
   exact⟨by rw[Mp];exact h,M1 h⟩
 . rw[M0]at E
   rcases WP.1 E with h|h
   . obtain⟨b,G,F⟩:=XG.1 h
     cases F
   . simp at h
theorem W5 (E:List Int):∀n,W6 E n<=n
 |0=>VB _
 |n+1=>by
  rw[W6];have:=W5 E n
  split<;>omega
theorem MW (E:List Int):∀n,4<=n->4<=W6 E n
 |0,h=>h
 |n+1,h=>by
  rw[W6]
  by_cases e:4<n+1/\E.getD (ord19.getD n 0) 0=0
  . rw[if_pos e];exact MW E n (by omega)
  . rw[if_neg e];exact h
theorem Pb (E:List Int):∀ks:List Nat,(ks.flatMap (fun k=>Al (E.getD k 0).toNat 3)).length=3*ks.length
 | []=>rfl
 |k::ks=>by
  rw[List.flatMap_cons,VE,Ah,Pb E ks,VJ];omega
theorem J4 {a b E:List Int}(F:Own (a++b) E):(Rw a b E).length<=71+7*(a.length+b.length):=by
 have H:=Lz E F.go (fun k=>(F.vo k).2) (a++b).length (a++b);have I:=W5 E 19;unfold Rw;rw[VE,VE,VE,VE,Ah,Ah,Ah,Pb];have G:(putRs E (lenIs (a++b))).length<=7*(a++b).length:=H.1;rw[VE]at G;have M:(ord19.take (W6 E 19)).length<=19:=by rw[VL];omega
 omega
theorem NW:∀(f:Nat) (l:List Int),l.length<=f->Xv f l=lenIs l:=by
 intro f
 induction f using Nat.strongRecOn with
 |ind f ih=>
  intro l hl
  cases l with
  |nil=>cases f<;>rfl
  |cons x r=>
   obtain⟨E,rfl⟩:∃E,f=E+1:=⟨f-1,by simp at hl;omega⟩
   have I:=Ye x r;have H:r.length<=E:=by simp at hl;omega
   have F:(r.drop (Cp x r)).length<=E:=by rw[VQ];omega
   have G:Xv (E+1) (x::r)=Qt x.toNat (Cp x r+1)++Xv E (r.drop (Cp x r)):=rfl;have e2:lenIs (x::r)=Qt x.toNat (Cp x r+1)++Xv r.length (r.drop (Cp x r)):=rfl;rw[G,e2,ih E (by omega) _ F]
   by_cases e:r.length=E
   . rw[e,ih E (by omega) _ F]
   . rw[ih r.length (by omega) _ (by rw[VQ];omega)]
theorem Vh (x:Int)(r:List Int):lenIs (x::r)=Qt x.toNat (Cp x r+1)++lenIs (r.drop (Cp x r)):=by
 have e2:lenIs (x::r)=Qt x.toNat (Cp x r+1)++Xv r.length (r.drop (Cp x r)):=rfl;rw[e2,NW _ _ (by rw[VQ];omega)]
theorem Yl {r:List Int}{k:Nat}(E:k<r.length):r.drop k=r.getD k 0::r.drop (k+1):=by
 rw[WS E];simp[List.getD,E]
theorem GP {x:Int}:∀(r:List Int) (k:Nat),k<r.length->r.getD k 0=x->Cp x r=k+Cp x (r.drop k)->Cp x r=(k+1)+Cp x (r.drop (k+1)):=by
 intro r k F E h;rw[h,Yl F,Cp,if_pos E];omega
theorem GO {x:Int}(r:List Int)(k:Nat)(F:k<r.length)(E:r.getD k 0≠x)(G:Cp x r=k+Cp x (r.drop k)):Cp x r=k:=by
 rw[G,Yl F,Cp,if_neg E];omega
theorem OV {x:Int}(r:List Int)(k:Nat)(E:r.length<=k)(F:Cp x r=k+Cp x (r.drop k)):Cp x r=k:=by
 rw[F,XR E,Cp];omega
end Go.Proofs.YtleocpdblhbimaaGreatDoor
namespace Go.Proofs.YtleocpdblhbimaaGreatDoor
open Go.RowKit
set_option linter.unusedVariables false
set_option maxRecDepth 100000
def Z7z:Value->Nat
 | .slice _ n _=>n
 |_=>0
theorem QB (w:World)(a b:Nat):(w.drewN a).drewN b=w.drewN (a+b):=by simp
theorem Ja (J:List (Nat×Nat×Nat)->World->Prop)(I:World->World->Prop)(al:Nat)(am:Array Value)(b o M ao:Nat)(l:List Int)(w:World)(hK:Snk3 J I al am (lenIs l))(a3:l.length=M)(bf:M<=1000)(bc:M<=ao)(ay:∀x∈l,0<=x/\x<=15)(a4:∀W,I w W->Row .i64 W b o l)(G:J [] w):
 Calls Tryz.prog 243 #[.slice (some ⟨b,o,none⟩) M ao,.func (.func al) #[] am] w fun e w'=>e=.returned (.tuple #[])/\J (lenIs l) w'/\I w w':=by
 have E:=Ab hK;have be:=Ab a4;have ax:=Ab ay;have ak:=Ab a3;have bd:=Ab G;clear hK a4 ay a3 G;go_enter Tryz.func243,Tryz.ntmps243
 go_wp2_with fail
 go_loopw [0] (fun v wr=>∃i n c:Nat,i+n=M/\n<=c/\(∃a,v=.slice a n c/\(0<n->a=some ⟨b,o+i,none⟩))/\Hid (∃F,J F wr/\I w wr/\F++lenIs (l.drop i)=lenIs l)) (fun v _=>Z7z v)
 case atStart=>exact⟨0,M,ao,by omega,bc,⟨some ⟨b,o,none⟩,rfl,fun _=>rfl⟩,Ab ⟨[],Aa bd,(Aa E).refl _,rfl⟩⟩
 case round=>
  obtain⟨i,n,c,hi,bg,⟨a,rfl,an⟩,ah⟩:=hrel
  by_cases a9:0<n
  . obtain rfl:=an a9;obtain⟨F,G,Y,Z⟩:=Aa ah;have as:=Aa be wr Y;have ac:i<l.length:=by rw[Aa ak];omega
    have aj:=Yl ac;obtain⟨x,ap⟩:=WF (show 0<=l.getD i 0 from (Aa ax _ (by simp[List.getD,ac])).1)
    have az:x<=15:=by
     have:=(Aa ax (l.getD i 0) (by simp[List.getD,ac])).2
     omega
    rw[ap]at aj;obtain⟨r,hr⟩:=exq (l.drop (i+1));rw[hr]at aj;have a1:r.length=n-1:=by rw[<-hr,VQ,Aa ak];omega
    have bb:wr.cell? ⟨b,o+i,none⟩=some (.int .i64 (x:Int)):=by
     have:=as i ac
     rw[ap]at this;exact this
    have a0:∀k:Nat,1<=k->k<n->wr.cell? ⟨b,o+i+k,none⟩=some (.int .i64 (r.getD (k-1) 0)):=by
     intro k ai av;have a6:=as (i+k) (by rw[Aa ak];omega)
     have a8:r.getD (k-1) 0=l.getD (i+k) 0:=by
      rw[<-hr];simp only[List.getD,XJ]
      congr 2
      omega
     rw[a8,WT];exact a6
    have ba:=Ab a0;have aw:=Ab aj;have T:=Ab (And.intro G (And.intro Y Z));have aq:=Ab a1;have au:=Ab hr;have bj:(0:Int)<(n:Int):=by omega
    clear ah G Y Z as aj a0 a1 hr ap an ac;generalize wr=ar at*;go_wp2;go_loopw [4] (fun v W=>∃k q:Nat,Hid (W=ar.drewN q)/\1<=k/\k<=n/\v=.int .i64 (k:Int)/\Hid (Cp x r=(k-1)+Cp x (r.drop (k-1)))) (fun v _=>n-(intOf v).toNat)
    case atStart=>exact⟨1,0,Ab rfl,VB _,by omega,rfl,Ab (by simp)⟩
    case round=>
     obtain⟨k,q,H,ai,bh,rfl,O⟩:=hrel;have bi:wr.cell? ⟨b,o+i,none⟩=some (.int .i64 (x:Int)):=by rw[Aa H];exact bb
     by_cases av:k<n
     . have c1:wr.cell? ⟨b,o+i+k,none⟩=some (.int .i64 (r.getD (k-1) 0)):=by rw[Aa H];exact Aa ba k ai av
       have a2:(k:Int)<(n:Int):=by omega
       by_cases U:r.getD (k-1) 0=x
       . rw[U]at c1
         have ae:Hid (Cp x r=(k+1-1)+Cp x (r.drop (k+1-1))):=Ab (by
          have:=GP r (k-1) (by rw[Aa aq];omega) U (Aa O)
          rw[show k-1+1=k+1-1 by omega]at this;exact this)
         clear U O;go_wp2;go_quiet (fail)
         go_wp2;go_roundw
         case rel=>exact⟨k+1,_,Ab (by rw[Aa H];exact QB _ _ _),by omega,by omega,by go_num,ae⟩
         case measure=>simp[intOf];omega
       . have hb:(r.getD (k-1) 0==(x:Int))=false:=by rw[beq_eq_false_iff_ne];exact U
         have ae:Hid (Cp x r=k-1):=Ab (GO r (k-1) (by rw[Aa aq];omega) U (Aa O));generalize r.getD (k-1) 0=y at c1 hb;clear U O;go_wp2;go_quiet (fail)
         have ab:Hid (F++Qt x k++lenIs (l.drop (i+k))=lenIs l):=Ab (by
          rw[<-(Aa T).2.2,Aa aw,Vh,WM,Aa ae,show k-1+1=k by omega,<-Aa au,YK,show i+1+(k-1)=i+k by omega,VS])
         go_wp2_with fail
         refine(Ra J I al am (lenIs l) (Aa E) x k F (lenIs (l.drop (i+k))) _ az ai (by omega) (Aa ab) ((Aa E).jd _ (by rw[Aa H];exact(Aa E).jd _ (Aa T).1))).mono ?_;rintro e a5 ⟨rfl,ag,aa⟩;have af:=Ab (And.intro ag ((Aa E).trans (Aa T).2.1 ((Aa E).trans (by rw[Aa H];exact(Aa E).kd ar q) ((Aa E).trans ((Aa E).kd wr _) aa))));clear ag aa;go_wp2;go_roundw
         case rel=>exact⟨i+k,n-k,c-k,by omega,by omega,⟨_,rfl,fun _=>by rw[WT]⟩,Ab ⟨_,(Aa af).1,(Aa af).2,Aa ab⟩⟩
         case measure=>simp[Z7z];omega
     . obtain rfl:k=n:=by omega
       have a2:¬(k:Int)<(k:Int):=by omega
       have ae:Hid (Cp x r=k-1):=Ab (OV r (k-1) (by rw[Aa aq];omega) (Aa O));clear O a2;go_wp2;go_quiet (fail)
       have ab:Hid (F++Qt x k++lenIs (l.drop (i+k))=lenIs l):=Ab (by
        rw[<-(Aa T).2.2,Aa aw,Vh,WM,Aa ae,show k-1+1=k by omega,<-Aa au,YK,show i+1+(k-1)=i+k by omega,VS])
       go_wp2_with fail
       refine(Ra J I al am (lenIs l) (Aa E) x k F (lenIs (l.drop (i+k))) _ az ai (by omega) (Aa ab) ((Aa E).jd _ (by rw[Aa H];exact(Aa E).jd _ (Aa T).1))).mono ?_;rintro e a5 ⟨rfl,ag,aa⟩;have af:=Ab (And.intro ag ((Aa E).trans (Aa T).2.1 ((Aa E).trans (by rw[Aa H];exact(Aa E).kd ar q) ((Aa E).trans ((Aa E).kd wr _) aa))));clear ag aa;go_wp2;go_roundw
       case rel=>exact⟨i+k,0,c-k,by omega,by omega,⟨_,rfl,fun h=>absurd h (by omega)⟩,Ab ⟨_,(Aa af).1,(Aa af).2,Aa ab⟩⟩
       case measure=>simp[Z7z];omega
  . obtain rfl:n=0:=by omega
    obtain⟨F,G,Y,Z⟩:=Aa ah;rw[XR (by rw[Aa ak];omega)]at Z;have a7:Hid (J (lenIs l) wr/\I w wr):=Ab ⟨by rw[<-Z];simpa[lenIs,Xv]using G,Y⟩;clear ah G Y Z an;go_wp2;go_end0
    exact⟨rfl,Aa a7⟩
theorem Z3m (E n s:Nat)(H:1<=E)(G:n<8192)(F:s=12):n/2^s<2*E:=by
 subst F;have:n/2^12<2:=Nat.div_lt_of_lt_mul (by omega)
 omega
theorem EX (E n f s:Nat)(F:n/2^s<2*E):Qn E n f s=s:=by
 cases f with
 |zero=>rfl
 |succ f=>rw[Qn,if_pos F]
theorem EV (E n s:Nat)(G:s<12)(F:¬n/2^s<2*E):Qn E n (12-s) s=Qn E n (12-(s+1)) (s+1):=by
 rw[show 12-s=(12-(s+1))+1 by omega,Qn,if_neg F]
theorem Z0z (n s:Nat)(F:n<8192)(E:s<=12):bits .and .i64 (n:Int) (2^s-1)=((n%2^s:Nat):Int):=by
 have H:2^s<=2^12:=VO (by decide) E;have I:0<2^s:=YQ s
 have e:((2:Int)^s-1)=((2^s-1:Nat):Int):=by
  have G:((2^s:Nat):Int)=(2:Int)^s:=by push_cast;rfl
  omega
 rw[e,Rv n (2^s-1) (by omega) (by omega),Nat.and_two_pow_sub_one_eq_mod]
theorem SO (E X:Nat)(F:E<=48)(G:X<8192):wrap64 (wrap64 (E:Int)+(X:Int))=((E+X:Nat):Int):=by unfold wrap64;omega
theorem JX (Q:Nat)(E:0<Q)(F:Q<=4096):wrap64 (wrap64 (Q:Int)-1)=(Q:Int)-1:=by unfold wrap64;omega
theorem Ut (n E:Nat)(w:World)(af:1<=E)(ah:E<=4)(O:n<8192):
 Calls Tryz.prog 234 #[.int .i64 (n:Int),.int .i64 (E:Int)] w fun e w'=>e=.returned (.tuple #[.int .i64 (Xd E n:Nat),.int .i64 (Tg E n:Nat),.int .i64 (Lj E n:Nat)])/\∃q,w'=w.drewN q:=by
 go_enter Tryz.func234,Tryz.ntmps234
 go_wp2;go_loop [6] (fun v=>∃s:Nat,s<=12/\v=.int .i64 (s:Int)/\Hid (Qn E n (12-s) s=Lj E n)) (fun v=>12-(intOf v).toNat)
 case atStart=>exact⟨0,by decide,rfl,Ab rfl⟩
 case round=>
  obtain⟨s,M,rfl,U⟩:=hrel
  by_cases H:n/2^s<2*E
  . have T:Hid (Lj E n=s):=Ab (by rw[<-Aa U];exact EX E n _ s H);have aa:¬(2:Int)*(E:Int)<=(n:Int)/2^s:=by rw[Fb];omega
    have Y:Hid (Xd E n=E*s+n/2^s):=Ab (by unfold Xd;rw[Aa T]);have hr:Hid (Tg E n=n%2^s):=Ab (by unfold Tg;rw[Aa T]);have hm:=Z0z n s O M;have G:2^s<=4096:=VO (j:=12) (by decide) M;have I:E*s<=48:=Nat.mul_le_mul ah M;have F:n/2^s<=n:=YO _ _;have al:=Ab G;have ab:=Ab F;have ai:=Ab I;clear U H G F I;go_wp2;go_quiet (fail)
    go_wp2;go_ret3;refine⟨?_,_,rfl⟩;have G:=Aa al;have F:=Aa ab;have I:=Aa ai;have ac:(E:Int)*(s:Int)=((E*s:Nat):Int):=by push_cast;rfl
    have e2:((2:Int)^s)=((2^s:Nat):Int):=by push_cast;rfl
    have ae:0<2^s:=YQ s
    have aj:wrap64 (wrap64 ((E:Int)*s)+(n:Int)/2^s)=((E*s+n/2^s:Nat):Int):=by
     rw[ac,Fb];exact SO _ _ I (XO F O)
    have Z:wrap64 (wrap64 ((2:Int)^s)-1)=2^s-1:=by
     rw[e2];exact JX _ ae G
    show Ending.returned (.tuple #[.int .i64 (wrap64 (wrap64 ((E:Int)*s)+(n:Int)/2^s)),.int .i64 (bits .and .i64 (n:Int) (wrap64 (wrap64 ((2:Int)^s)-1))),.int .i64 (s:Int)])=_
    rw[aj,Z,hm,Aa Y,Aa hr,Aa T]
  . have ag:s<12:=by
     rcases ZQ s 12 with h|h
     . exact h
     . exact absurd (Z3m E n s af O (by omega)) H
    have aa:(2:Int)*(E:Int)<=(n:Int)/2^s:=by rw[Fb];omega
    have ak:=Ab (EV E n s ag H);go_wp2;go_round
    case rel=>exact⟨s+1,by omega,by go_num,Ab (by rw[<-Aa ak];exact Aa U)⟩
    case measure=>simp[intOf];omega
theorem TW (E n:Nat)(M:1<=E)(I:n<8192):Lj E n<=12/\Xd E n<=E*12+n/\Tg E n<=n:=by
 have:∀f s,f+s=12->Qn E n f s<=12:=by
  intro f
  induction f with
  |zero=>intro s h;rw[Qn];omega
  |succ f ih=>intro s h;rw[Qn];split;omega;exact ih _ (by omega)
 have F:=this 12 0 rfl;have H:n/2^Lj E n<=n:=YO _ _;have G:E*Lj E n<=E*12:=Nat.mul_le_mul_left _ F;exact⟨F,Nat.add_le_add G H,by unfold Tg;exact Nat.mod_le _ _⟩
theorem Y8 (n:Nat)(w:World)(G:3<=n)(H:n<=258):
 Calls Tryz.prog 208 #[.int .i64 (n:Int)] w fun e w'=>e=.returned (.tuple #[.int .i64 ((De n).1:Nat),.int .i64 ((De n).2.1:Nat),.int .i64 ((De n).2.2:Nat)])/\∃q,w'=w.drewN q:=by
 by_cases h:n=258
 . subst h;have e:De 258=(285,0,0):=rfl;rw[e];go_enter Tryz.func208,Tryz.ntmps208
   go_wp2;go_ret3;exact⟨rfl,0,rfl⟩
 . have e:Hid (De n=(257+Xd 4 (n-3),Tg 4 (n-3),Lj 4 (n-3))):=Ab (by unfold De;rw[if_neg h]);have hb:((n:Int)==258)=false:=by rw[beq_eq_false_iff_ne];omega
   have O:=TW 4 (n-3) (by omega) (by omega);have F:=Ab (Ut (n-3) 4 w (by omega) (by omega) (by omega));have E:((n:Int)-3)=((n-3:Nat):Int):=by omega
   rw[Aa e];generalize Xd 4 (n-3)=K at*;generalize Tg 4 (n-3)=R at*;generalize Lj 4 (n-3)=I at*;rw[<-E]at F;clear E e;go_enter Tryz.func208,Tryz.ntmps208
   go_wp2_with fail
   refine(Aa F).mono ?_;rintro e M ⟨rfl,q,rfl⟩;go_wp2;go_ret3;refine⟨?_,q,rfl⟩;simp only[Int.natCast_add];rfl
theorem GN (d:Nat)(w:World)(I:1<=d)(M:d<=3000):
 Calls Tryz.prog 209 #[.int .i64 (d:Int)] w fun e w'=>e=.returned (.tuple #[.int .i64 ((Mn d).1:Nat),.int .i64 ((Mn d).2.1:Nat),.int .i64 ((Mn d).2.2:Nat)])/\∃q,w'=w.drewN q:=by
 have F:=Ab (Ut (d-1) 2 w (by omega) (by omega) (by omega));have E:((d:Int)-1)=((d-1:Nat):Int):=by omega
 unfold Mn;simp only
 generalize Xd 2 (d-1)=K at*;generalize Tg 2 (d-1)=R at*;generalize Lj 2 (d-1)=G at*;rw[<-E]at F;clear E;go_enter Tryz.func209,Tryz.ntmps209
 go_wp2_with fail
 refine(Aa F).mono ?_;rintro e H ⟨rfl,q,rfl⟩;go_wp2;go_ret3;exact⟨rfl,q,rfl⟩
end Go.Proofs.YtleocpdblhbimaaGreatDoor
namespace Go.Proofs.YtleocpdblhbimaaGreatDoor
open Go.RowKit Go.Maps Go.WideMaps Go.ChangeShapes
set_option linter.unusedVariables false
theorem Z8q:ArrKey Tryz.prog 313 5 3:=⟨Tryz.underlying313,by kernel_rfl,by kernel_rfl,by kernel_rfl⟩
theorem Z81:Keyed Tryz.prog 313:=Keyed.of_law Z8q.law
theorem Z2a:∃m,Tryz.prog.types.size=m+1:=⟨Tryz.prog.types.size-1,by have:0<Tryz.prog.types.size:=of_decide_eq_true (by kernel_rfl);omega⟩
abbrev C3:=Nat×Nat×Nat
def OB (c:C3):Array Value:= #[.int .u8 (c.1:Int),.int .u8 (c.2.1:Int),.int .u8 (c.2.2:Int)]
def kv (c:C3):Value:=.agg (OB c)
def kl (c:C3):Lit:=.string (keyBytes [.int .u8 (c.1:Int),.int .u8 (c.2.1:Int),.int .u8 (c.2.2:Int)])
def Ok3 (c:C3):Prop:=c.1<256/\c.2.1<256/\c.2.2<256
theorem X4 {bs:List Nat}(E:∀j,bs.getD j 0<256)(p:Nat):Ok3 (Hi bs p):=⟨E _,E _,E _⟩
theorem Z37 {x:Nat}(E:x<256):(Lit.int .u8 (x:Int)).wf=true:=by
 simp[Lit.wf,IntKind.min,IntKind.max,IntKind.signed,IntKind.bits];omega
theorem Pg {c:C3}(E:Ok3 c):keyOf Tryz.prog 313 (kv c)=some (kl c):=by
 have A:=Z8q;have G:=A.keyType Z2a;obtain⟨m,hm⟩:=Z2a;have I:Tryz.prog.underlying 5=some (.int .u8):=Tryz.underlying5;have H:=Z37 E.1;have F:=Z37 E.2.1;have w3:=Z37 E.2.2;unfold keyOf kv kl OB;simp only[A.hu];rw[if_pos (by simp[G,Value.formed,A.hu,A.size]),hm];unfold Program.keyLits;simp only[A.hu,Value.cells];rw[if_pos (by rw[A.size];rfl),show List.range 3= [0,1,2] from rfl,List.mapM_cons,List.mapM_cons,List.mapM_cons,List.mapM_nil];simp[A.one,Program.keyLits,I,H,F,w3]
theorem Z6w {c d:C3}(F:Ok3 c)(G:Ok3 d)(E:kl c=kl d):c=d:=by
 have:=Z81.inj (Pg F) (by rw[E];exact Pg G)
 obtain⟨c1,c2,I⟩:=c;obtain⟨O,M,H⟩:=d;simp[kv,OB]at this
 simp only[YD];omega
theorem Z6v (c:C3):WideAt.IsKeyLit (kl c):=by
 first|trivial|exact⟨⟩|(unfold kl WideAt.IsKeyLit;simp)
def datum (zs:List Nat):DataW Unit:=match zs with| []=>.nil|z::r=>.slice (lits .i64 ((z::r).map fun x:Nat=>(x:Int))) []
abbrev RY (w:World)(base mb n:Nat)(D:DataW Unit):Prop:=w.ownsGroups Tryz.prog 313 base 3 .i64 mb n D
def Grp (w:World)(base mb:Nat)(bs:List Nat)(kn:Nat):Prop:=∃D:DataW Unit,RY w base mb kn D/\∀c,Ok3 c->D.atKey (kl c) .nil=datum (plc bs kn c)
theorem J5 {w:World}{H G n:Nat}{E:DataW Unit}(I:RY w H G n E):IsMap E:=by
 obtain⟨es,clock,hb,F,_,rfl,_⟩:=I;exact⟨_,rfl⟩
theorem Z14 {xs ys:List Int}(E:lits (H:=Unit) .i64 xs=lits .i64 ys):xs=ys:=by
 unfold lits at E;exact(List.map_inj_right (fun a b F=>by simpa using F)).1 E
theorem Uv {w:World}{M:Nat}{v:Value}{F:List Int}{G:List Nat}(I:w.ownsInts M 3 .i64 v F)(E:datum G=rowDatum .i64 v F):F=G.map fun x:Nat=>(x:Int):=by
 cases G with
 |nil=>
  rcases I.datum (H:=Unit)with ⟨_,e⟩|e
  . rw[e];rfl
  . rw[e]at E;simp[datum]at E
 |cons z r=>
  rcases I.datum (H:=Unit)with ⟨e,_⟩|e
  . rw[e]at E;simp[datum]at E
  . rw[e]at E;simp only[datum,DataW.slice.injEq,and_true]at E;exact(Z14 E).symm
theorem Grp.made (w:World)(E:Nat)(bs:List Nat)(F:w.heap.size<E):Grp (w.alloc (.map #[] 0)) E w.heap.size bs 0:=by
 refine⟨.map [],⟨#[],0,(MapKept.heap_alloc w _).1,⟨by simp,MapKept.stamped_empty 0,by simp⟩,VB _,rfl,F,by simp,by simp⟩, ?_⟩;intro c _;simp[plc,datum,DataW.atKey]
theorem Grp.kept {w w':World}{F E I:Nat}{bs:List Nat}{row:Option Nat}(T:Grp w F E bs I)(O:w.grownBy w' row)(H:∀j,row=some j->j<F/\j≠E):Grp w' F E bs I:=by
 obtain⟨D,G,M⟩:=T;refine⟨D,G.kept O ?_ (G.rowsAbove (fun j e=>(H j e).1)),M⟩;intro e;exact(H E e.symm).2 rfl
theorem Grp.lt {w:World}{G E I:Nat}{bs:List Nat}(H:Grp w G E bs I):E<G/\E<w.heap.size:=by
 obtain⟨D,⟨es,clock,hb,F,_,rfl,M,_⟩,_⟩:=H;exact⟨M,(VK.1 hb).1⟩
theorem Grp.step {w:World}{G I E:Nat}{bs:List Nat}{F:DataW Unit}{v':Value}{H:List Int}(T:∀j,bs.getD j 0<256)(O:∀c,Ok3 c->F.atKey (kl c) .nil=datum (plc bs E c))(Z:IsMap F)
 (U:RY w G I (E+1) (F.put (kl (Hi bs E)) (rowDatum .i64 v' H))) (Y:w.ownsInts G 3 .i64 v' H) (M:H=((plc bs E (Hi bs E)).map fun x:Nat=>(x:Int))++ [(E:Int)]):Grp w G I bs (E+1):=by
 refine⟨_,U, ?_⟩;intro c hc;rw[Z0a]
 by_cases e:Hi bs E=c
 . subst e;rw[if_pos rfl,atKey_put_same Z (Z6v _),Y.datum_pos (by rw[M];simp),M]
   cases aa:plc bs E (Hi bs E)with
   |nil=>simp[datum]
   |cons z r=>simp[datum]
 . rw[if_neg e,XA,atKey_put_other (fun h=>e (Z6w hc (X4 T E) h).symm),O c hc]
def Pst (w:World)(b:Nat)(bv:Value)(mb kn:Nat):Prop:=w.heap[b]? =some (.cells #[bv,.map (some mb),.int .i64 (kn:Int)] 292 (0,0))
theorem Pst.cell0 {w:World}{b F G:Nat}{E:Value}(H:Pst w b E F G):w.cell? ⟨b,0,none⟩=some E:=Ac H
theorem Pst.cell1 {w:World}{b E F:Nat}{G:Value}(H:Pst w b G E F):w.cell? ⟨b,1,none⟩=some (.map (some E)):=Ac H
theorem Pst.cell2 {w:World}{b F E:Nat}{G:Value}(H:Pst w b G F E):w.cell? ⟨b,2,none⟩=some (.int .i64 (E:Int)):=Ac H
theorem Pst.frozen {w:World}{b E F:Nat}{G:Value}(H:Pst w b G E F)(j:Nat):w.frozen? ⟨b,j,none⟩=false:=frozen_of_row w b j _ _ H
theorem Pst.lt {w:World}{b E F:Nat}{G:Value}(H:Pst w b G E F):b<w.heap.size:=(VK.1 H).1
theorem Pst.grown {w w':World}{b E H:Nat}{F:Value}{r:Option Nat}(G:Pst w b F E H)(I:w.grownBy w' r)(M:some b≠r):Pst w' b F E H:=(I.block b G.lt M).trans G
theorem Pst.set {w:World}{b E G:Nat}{F:Value}(H:Pst w b F E G)(q:Nat):Pst (w.setCell ⟨b,2,none⟩ (.int .i64 (q:Int))) b F E q:=by
 unfold Pst;rw[heap_setCell_same w b 2 _ _ _ H];rfl
structure Geo (No:Nat->Prop)(B p mb base b:Nat)(bs:List Nat):Prop where
 bB:b<B
 pB:B<=p
 mB:B<=mb
 pm:p≠mb
 pb:p<base
 nop:¬No p
 nom:¬No mb
 len:bs.length<=3000
 byte:∀j,bs.getD j 0<256
structure Pas (No:Nat->Prop)(w:World)(p mb base b o n cap:Nat)(bs:List Nat)(kn:Nat):Prop where
 pst:Pst w p (.slice (some ⟨b,o,none⟩) n cap) mb kn
 grp:Grp w base mb bs kn
 shun:w.Shuns mb No
 row:Bytes w b o bs
 size:base<=w.heap.size
theorem Pas.drewN {No:Nat->Prop}{w:World}{p F I b o n G H:Nat}{bs:List Nat}(E:Pas No w p F I b o n G bs H)(q:Nat):Pas No (w.drewN q) p F I b o n G bs H:=by
 have M:w.grownBy (w.drewN q) none:=⟨rfl,rfl,rfl,VB _,fun _ _ _=>rfl⟩
 exact⟨E.pst,E.grp.kept M (fun j e=>by cases e),E.shun,E.row,E.size⟩
theorem Pas.grown {No:Nat->Prop}{w w':World}{B p F M b o n ab ac:Nat}{bs:List Nat}{r:Option Nat}(E:Pas No w p F M b o n ab bs ac)(G:Geo No B p F M b bs)(H:w.grownBy w' r)(I:∀j,r=some j->j≠p/\j≠F/\j≠b/\(No j\/j<M)):Pas No w' p F M b o n ab bs ac:=by
 obtain⟨D,Z,af⟩:=E.grp;have aa:some F≠r:=fun e=>(I F e.symm).2.1 rfl
 refine⟨E.pst.grown H (fun e=>(I p e.symm).1 rfl),⟨D,Z.kept H aa ?_,af⟩,E.shun.kept H E.grp.lt.2 aa,E.row.grown H (fun e=>(I b e.symm).2.2.1 rfl),VU E.size H.size⟩;intro es clock hb x Y
 cases O:x.val.ownBlock with
 |none=>exact .inl rfl
 |some g=>
  refine .inr (fun T=> ?_)
  rcases(I g T.symm).2.2.2 with ae|ae
  . exact E.shun es clock hb x Y g O ae
  . rcases Z.rowsAbove (row:=r) (fun j e=>by
     by_cases c:j<M
     . exact c
     . have:=(I j e)
       rw[<-T]at e
       cases e
       omega) es clock hb x Y with U|U
    . rw[U]at O;cases O
    . exact U (by rw[O];exact T)
end Go.Proofs.YtleocpdblhbimaaGreatDoor
namespace Go.Proofs.YtleocpdblhbimaaGreatDoor
open Go.RowKit Go.Maps Go.WideElems Go.MapKept Go.ChangeMaps
set_option linter.unusedVariables false
theorem L6 {H:Type}{P:Program}{k:TypeId}(K:Keyed P k){R:Value->Option (DataW H×List MemPlace)}{I:Array MapEntry}{ab:Nat}(F:Fit P k R I ab){x:Value}{aa:Lit}(U:keyOf P k x=some aa)(w w':World){r:Option (Nat×Value)}
 (M:(Instr.findKey k x I.toList).run P w=.ok r w):(Instr.findKey k x I.toList).run P w'=.ok r w':=by
 rcases K.find w U I.toList F.keys with ⟨T,G⟩|⟨j,e0,T,G,Y⟩<;>rcases K.find w' U I.toList F.keys with ⟨O,E⟩|⟨i,ac,O,E,Z⟩
 . rw[T]at M
   cases M
   exact O
 . exact absurd Z (G ac (List.mem_of_getElem? E))
 . exact absurd Y (E e0 (List.mem_of_getElem? G))
 . have e:i=j:=by
    by_cases c:i=j
    . exact c
    . exact absurd (Z.trans Y.symm) (other_key F G E c)
   subst e;rw[G]at E
   cases E
   rw[T]at M
   cases M
   exact O
theorem Th (w:World)(b:Nat)(x y:Obj):setBlock (setBlock w b x) b y=setBlock w b y:=by
 simp[setBlock]
theorem Cv {w:World}{b:Nat}{G:Array MapEntry}{H:Nat}(F:w.heap[b]? =some (.map G H))(M:Array MapEntry)(E:Nat):w.grownBy (setBlock w b (.map M E)) (some b):=
 ⟨rfl,rfl,rfl,by simp[setBlock],fun i _ hi=>heap_setBlock_other F _ (fun I=>hi (by rw[I]))⟩
def Q1 {H:Type}(w w1:World)(P:Program)(t k:TypeId)(base:Nat)(e:TypeId)(q:IntKind)(b n st:Nat)(D:DataW H)(kl:Lit)(v:Value):Prop:=
 ∀(w2:World) (v':Value) (zs':List Int),w1.grownBy w2 v.ownBlock->w2.ownsInts base e q v' zs'->zs'.length<=n+1->(v'.ownBlock=v.ownBlock\/∃g,v'.ownBlock=some g/\w1.heap.size<=g)->
  ∃w3,(Instr.entryStore t (.map (some b)) (goInt st) v').run P w2=.ok () w3/\w3.ownsGroups P k base e q b (n+1) (D.put kl (rowDatum q v' zs'))/\w2.grownBy w3 (some b)/\
   (∀No:Nat->Prop,w.Shuns b No->(∀g,v'.ownBlock=some g->¬No g)->w3.Shuns b No)
theorem N5 {H:Type}{P:Program}{w:World}{t E k e:TypeId}{q:IntKind}{af b n:Nat}{D:DataW H}{key:Value}{ao:Lit}(h:w.ownsGroups P k af e q b n D)(K:Keyed P k)(Z:P.underlying t=some (.map k E))(a1:∀u:World,(zeroValue E).run P u=.ok (.slice none 0 0) u)(a5:n<maxLen)(I:keyOf P k key=some ao):
 ∃(v:Value) (aa:List Int) (st:Nat) (aj:World),(Instr.mapEntry t (.map (some b)) key).run P w=.ok (.tuple #[v,goInt st]) aj/\w.grownBy aj (some b)/\aj.heap.size=w.heap.size/\D.atKey ao .nil=rowDatum q v aa/\aj.ownsInts af e q v aa/\aa.length<=n/\(∀No:Nat->Prop,w.Shuns b No->∀g,v.ownBlock=some g->¬No g)/\
  Q1 w aj P t k af e q b n st D ao v:=by
 obtain⟨v,aa,al,a3,aq,a4,bz⟩:=h.at K Z (a1 w) a5 I;obtain⟨es,clock,hb,F,bg,_,b8,_⟩:=h;have b7:b<w.heap.size:=(VK.1 hb).1
 have ay:v.ownBlock=none\/v.ownBlock≠some b:=by
  cases Y:v.ownBlock with
  |none=>exact .inl rfl
  |some g=>
   refine .inr (fun U=> ?_);have:=(aq.1.lt g Y).1
   cases U
   omega
 obtain⟨bk,a8,_⟩:=F.stamped
 have finish:∀(ab:Array MapEntry) (ae st:Nat),
  (∀(M:World) (val:Value),M.heap[b]? =some (.map ab ae)->∃ag ak,(Instr.entryStore t (.map (some b)) (goInt st) val).run P M=.ok () (setBlock M b (.map ag ak))/\
   ∀u:World,u.heap[b]? =some (.map es clock)->(Instr.mapUpdate t (.map (some b)) key val).run P u=.ok () (setBlock u b (.map ag ak)))->
  Q1 w (setBlock w b (.map ab ae)) P t k af e q b n st D ao v:=by
  intro ab ae st be M v' ba O a6 bq bt;have ac:(setBlock w b (.map ab ae)).heap.size=w.heap.size:=by simp[setBlock]
  have an:M.heap[b]? =some (.map ab ae):=by
   rw[O.block b (by rw[ac];exact b7) (fun U=>by
    rcases ay with G|G
    . rw[G]at U;cases U
    . exact G U.symm)]
   exact heap_setBlock_same hb _
  obtain⟨ag,ak,bc,bf⟩:=be M v' an;have as:(setBlock M b (.map es clock)).heap[b]? =some (.map es clock):=heap_setBlock_same an _;have ax:=Cv an es clock
  have bw:w.grownBy (setBlock M b (.map es clock)) v.ownBlock:=by
   refine⟨O.os,O.tape,O.output, ?_, ?_⟩
   . have:=O.size
     rw[ac]at this;exact VU this ax.size
   . intro i hi hr
     by_cases c:i=b
     . subst c;rw[as,hb]
     . rw[ax.block i (by have:=O.size;rw[ac]at this;omega) (fun U=>c (by simpa using U)),O.block i (by rw[ac];exact hi) hr];exact heap_setBlock_other hb _ c
  have bn:(setBlock M b (.map es clock)).ownsInts af e q v' ba:=a6.kept ax (by
   cases Y:v'.ownBlock with
   |none=>exact .inl rfl
   |some g=>
    refine .inr (fun U=> ?_);have:=(a6.1.lt g Y).1
    cases U
    omega)
  obtain⟨w3,az,b0,b9⟩:=bz _ v' ba bw bn bq (by
   rcases bt with G|⟨g,G,T⟩
   . exact .inl G
   . exact .inr ⟨g,G,by rw[ac]at T;exact T⟩)
  have b5:=stored_who K Z as F (XO bg a5) I az;rw[bf _ as,Th]at az;obtain rfl:setBlock M b (.map ag ak)=w3:=by simpa using az
  refine⟨_,bc,b0,Cv an ag ak, ?_⟩;intro No av bb bi b3 a2 x ar g a9;obtain⟨bo,b4,bm,bv⟩:=b5;obtain⟨rfl,rfl⟩:bo=bi/\b4=b3:=by rw[bm]at a2;simpa using a2
  rcases bv x ar with ⟨bh,_⟩|⟨_,bd⟩
  . exact av es clock hb x bh g a9
  . exact bb g (by rw[<-bd];exact a9)
 rcases K.find w I es.toList F.keys with ⟨G,T⟩|⟨j,e0,G,T,am⟩
 . have Y:v=.slice none 0 0:=by
    simp[Instr.lookup,run_underlying Z,MapKept.run_getObj_map hb,K.check w _ I,G,a1 w,Result.andThen]at al
    exact al.symm
   refine⟨v,aa,clock,setBlock w b (.map (es.push ⟨key,v,clock⟩) (clock+1)), ?_,Cv hb _ _,by simp[setBlock],a3,aq.kept (Cv hb _ _) ay,a4, ?_,finish _ _ _ ?_⟩
   . rw[Y];simp[Instr.mapEntry,run_underlying Z,MapKept.run_getObj_map hb,K.check w false I,G,a1,MapKept.run_setObj_map _ hb,Result.andThen,setBlock]
   . intro No _ g O;rw[Y]at O
     cases O
   . intro M val ai;refine⟨es.push ⟨key,val,clock⟩,clock+1, ?_, ?_⟩
     . have a0:(es.push ⟨key,v,clock⟩).findIdx? (fun e=>((e.born:Nat):Int)==((clock:Nat):Int))=some es.size:=by
        rw[findIdx_arr]
        have:=findIdx_born (l:=(es.push ⟨key,v,clock⟩).toList) (j:=es.size) (e0:=⟨key,v,clock⟩) (by
         simp only[Array.toList_push,WU,WQ,ZE];refine List.nodup_append.2 ⟨a8,by simp,fun a bu c hc U=> ?_⟩;simp only[WO]at hc;obtain⟨x,ar,rfl⟩:=XG.1 bu;have:=bk x ar
         omega) (by simp)
        exact this
       have ap:(es.push ⟨key,v,clock⟩).modify es.size (fun e=> {e with val:=val})=es.push ⟨key,val,clock⟩:=by
        apply Array.ext'
        rw[Array.toList_modify,Array.toList_push,Array.toList_push,<-Array.length_toList,modify_last]
       simp[Instr.entryStore,MapKept.run_getObj_map ai,asInt,asIntOf,goInt,a0,ap,MapKept.run_setObj_map _ ai,Result.andThen,setBlock]
     . intro u ah;have aw:=L6 K F I w u G;simp[Instr.mapUpdate,run_underlying Z,MapKept.run_getObj_map ah,K.check u false I,aw,MapKept.run_setObj_map _ ah,Result.andThen,setBlock]
 . have a7:es[j]? =some e0:=by simpa using T
   have Y:v=e0.val:=by
    simp[Instr.lookup,run_underlying Z,MapKept.run_getObj_map hb,K.check w _ I,G,Result.andThen]at al
    exact al.symm
   have bj:es.modify j (fun e=> {e with key:=key})=es:=by
    apply Array.ext'
    rw[Array.toList_modify,modify_eq_set _ _ _ _ T];have:({e0 with key:=key}:MapEntry)=e0:=by rw[<-am]
    rw[this];exact set_self _ _ _ T
   refine⟨v,aa,e0.born,setBlock w b (.map es clock), ?_,Cv hb _ _,by simp[setBlock],a3,aq.kept (Cv hb _ _) ay,a4, ?_,finish _ _ _ ?_⟩
   . rw[Y];simp[Instr.mapEntry,run_underlying Z,MapKept.run_getObj_map hb,K.check w false I,G,a7,am,K.stays w I,bj,MapKept.run_setObj_map _ hb,Result.andThen,setBlock]
   . intro No av g O;exact av es clock hb e0 (List.mem_of_getElem? T) g (by rw[<-Y];exact O)
   . intro M val ai;refine⟨es.modify j (fun au=> {au with key:=key,val:=val}),clock, ?_, ?_⟩
     . have a0:es.findIdx? (fun e=>((e.born:Nat):Int)==((e0.born:Nat):Int))=some j:=by
        rw[findIdx_arr];exact findIdx_born a8 T
       have ap:es.modify j (fun e=> {e with val:=val})=es.modify j (fun au=> {au with key:=key,val:=val}):=by
        apply Array.ext'
        rw[Array.toList_modify,Array.toList_modify,modify_eq_set _ _ _ _ T,modify_eq_set _ _ _ _ T,<-am]
       simp[Instr.entryStore,MapKept.run_getObj_map ai,asInt,asIntOf,goInt,a0,ap,MapKept.run_setObj_map _ ai,Result.andThen,setBlock]
     . intro u ah;have aw:=L6 K F I w u G;simp[Instr.mapUpdate,run_underlying Z,MapKept.run_getObj_map ah,K.check u false I,aw,a7,am,K.stays u I,MapKept.run_setObj_map _ ah,Result.andThen,setBlock]
end Go.Proofs.YtleocpdblhbimaaGreatDoor
