import Derived.Test.YtleocpdblhbimaaGreatDoorQ30
import Derived.Shelf.Abstract
import Derived.Deep.DeepCutAuto
import Derived.OwnWalk
import Derived.Maps.GroupsBeside
import Derived.WideKeyPair
import Derived.WideKeyEntry
set_option linter.unusedSimpArgs false
set_option linter.unusedVariables false
set_option maxRecDepth 100000
set_option maxHeartbeats 4000000
namespace Go.Proofs.YtleocpdblhbimaaGreatDoor
open Go.RowKit
theorem Fy (x f:Nat):He x f 0= []:=by cases f<;>simp[He]
theorem B9 (x:Nat):∀m f,m<=f->He x f m=He x m m:=by
 intro m
 induction m using Nat.strongRecOn with
 |ind m ih=>
  intro f H
  by_cases G:m=0
  . subst G;rw[Fy,Fy]
  . obtain⟨F,rfl⟩:∃F,f=F+1:=⟨f-1,by omega⟩
    obtain⟨E,rfl⟩:∃E,m=E+1:=⟨m-1,by omega⟩
    have t:∀c,0<c->He x F (E+1-c)=He x E (E+1-c):=fun c hc=>by rw[ih (E+1-c) (by omega) F (by omega),ih (E+1-c) (by omega) E (by omega)]
    rw[He,He,if_neg G,if_neg G,t 1 (by omega),t (min (E+1) 6) (by omega),t (min (E+1) 138) (by omega),Fy,Fy]
theorem LU (x q:Nat)(E:0<q):He x q q=if q<3 then (x,0,0)::He x (q-1) (q-1)else if 0<x then (16,min q 6-3,2)::He x (q-min q 6) (q-min q 6)else if q<11 then (17,q-3,3)::He x (q-q) (q-q)else (18,min q 138-11,7)::He x (q-min q 138) (q-min q 138):=by
 obtain⟨q',rfl⟩:∃q',q=q'+1:=⟨q-1,by omega⟩
 have t:∀c,0<c->He x q' (q'+1-c)=He x (q'+1-c) (q'+1-c):=fun c hc=>B9 x _ _ (by omega)
 rw[He,if_neg (by omega),t 1 (by omega),t (min (q'+1) 6) (by omega),t (min (q'+1) 138) (by omega),XW,Fy,Fy]
structure Snk3 (J:List (Nat×Nat×Nat)->World->Prop)(Ki:World->World->Prop)(kf:Nat)(cf:Array Value)(all:List (Nat×Nat×Nat)):Prop where
 ef:∀(args:Array Value) (w:World),(callFunc kf args).run Tryz.prog w=.ok (.enter kf args) w
 step:∀ {is R:List (Nat×Nat×Nat)} {i:Nat×Nat×Nat} {W:World},is++i::R=all->J is W->Calls Tryz.prog kf (#[.int .i64 (i.1:Int),.int .i64 (i.2.1:Int),.int .i64 (i.2.2:Int)]++cf) W fun e W'=>e=.returned (.tuple #[])/\J (is++ [i]) W'/\Ki W W'
 refl:∀W,Ki W W
 jd:∀ {is:List (Nat×Nat×Nat)} {W:World} (q:Nat),J is W->J is (W.drewN q)
 kd:∀(W:World) (q:Nat),Ki W (W.drewN q)
 trans:∀ {a b c},Ki a b->Ki b c->Ki a c
theorem Ra (J:List (Nat×Nat×Nat)->World->Prop)(ag:World->World->Prop)(au:Nat)(av:Array Value)(a2:List (Nat×Nat×Nat))(hK:Snk3 J ag au av a2)(x m:Nat)(Z R:List (Nat×Nat×Nat))(w:World)(bj:x<=15)(bi:1<=m)(ba:m<=1000)(ao:Z++Qt x m++R=a2)(ay:J Z w):
 Calls Tryz.prog 263 #[.int .i64 (x:Int),.int .i64 (m:Int),.func (.func au) #[] av] w fun e w'=>e=.returned (.tuple #[])/\J (Z++Qt x m) w'/\ag w w':=by
 have ef:=hK.ef;have U:=Ab hK;have az:=Ab ay;clear hK ay;obtain⟨T,ah⟩:=exq (Z++Qt x m);rw[ah]at ao;have a1:=Ab ao;have ar:=Ab ah;clear ao;rw[ah];clear ah;go_enter Tryz.func263,Tryz.ntmps263
 go_upto_if 8 with (fail)
 go_cut [1] (fun v wc=>∃(q:Nat) (Y:List (Nat×Nat×Nat)),v=.int .i64 (q:Int)/\q<=1000/\Hid (J Y wc/\ag w wc/\Y++He x q q=T))
 case first=>
  by_cases aj:0<x
  . have a5:(0:Int)<(x:Int):=by omega
    have hr:Qt x m=(x,0,0)::He x (m-1) (m-1):=by unfold Qt;rw[if_pos aj,B9 x _ _ (by omega)]
    have a9:=Ab ((Aa U).step (is:=Z) (i:=(x,0,0)) (R:=He x (m-1) (m-1)++R) (W:=w) (by rw[<-Aa a1,<-Aa ar,hr];simp) (Aa az));have ap:Hid (Z++ [(x,0,0)]++He x (m-1) (m-1)=T):=Ab (by rw[<-Aa ar,hr];simp);go_wp2_with fail
    refine(Aa a9).mono ?_;rintro e ac ⟨rfl,F,H⟩;have E:=Ab (And.intro F H);clear F H;go_wp2
    all_goals go_meet
    all_goals exact⟨m-1,Z++ [(x,0,0)],by go_num,by omega,Ab ⟨(Aa E).1,(Aa E).2,Aa ap⟩⟩
  . have a5:¬(0:Int)<(x:Int):=by omega
    have hr:Qt x m=He x m m:=by unfold Qt;rw[if_neg aj]
    have ap:Hid (Z++He x m m=T):=Ab (by rw[<-Aa ar,hr]);go_wp2
    all_goals go_meet
    all_goals exact⟨m,Z,rfl,ba,Ab ⟨Aa az,(Aa U).refl _,Aa ap⟩⟩
 case rest=>
  obtain⟨bg,bf,rfl,bb,a7⟩:=hcut;go_wp2_with fail
  go_loopw [1] (fun v wr=>∃(q:Nat) (Y:List (Nat×Nat×Nat)),v=.int .i64 (q:Int)/\q<=1000/\Hid (J Y wr/\ag w wr/\Y++He x q q=T)) (fun v _=>(intOf v).toNat)
  case atStart=>exact⟨bg,bf,rfl,bb,a7⟩
  case round=>
   obtain⟨q,Y,rfl,bh,al⟩:=hrel;obtain⟨ak,ai,af⟩:=Aa al
   by_cases aj:0<q
   . have a5:(0:Int)<(q:Int):=by omega
     have G:=LU x q aj
     have M:∀(i:Nat×Nat×Nat) (c:Nat),He x q q=i::He x (q-c) (q-c)->Hid (Calls Tryz.prog au (#[.int .i64 (i.1:Int),.int .i64 (i.2.1:Int),.int .i64 (i.2.2:Int)]++av) wr fun e W'=>e=.returned (.tuple #[])/\J (Y++ [i]) W'/\ag wr W')/\Hid (Y++ [i]++He x (q-c) (q-c)=T):=by
      intro i c hc;refine⟨Ab ((Aa U).step (is:=Y) (i:=i) (R:=He x (q-c) (q-c)++R) (by rw[<-Aa a1,<-af,hc];simp) ak),Ab (by rw[<-af,hc];simp)⟩
     have aa:=Ab ai;clear al ak ai af
     by_cases a4:q<3
     . rw[if_pos a4]at G;obtain⟨I,O⟩:=M _ _ G;have bc:(q:Int)<3:=by omega
       clear M G;go_wp2_with fail
       refine(Aa I).mono ?_;rintro e ac ⟨rfl,F,H⟩;have E:=Ab (And.intro F ((Aa U).trans (Aa aa) H));clear F H;go_wp2;go_roundw
       case rel=>exact⟨q-1,_,by go_num,by omega,Ab ⟨(Aa E).1,(Aa E).2,Aa O⟩⟩
       case measure=>simp[intOf];omega
     . rw[if_neg a4]at G;have bc:¬(q:Int)<3:=by omega
       by_cases ax:0<x
       . rw[if_pos ax]at G;have a8:(0:Int)<(x:Int):=by omega
         rcases ZR q 6 with ae|ae|ae
         . rw[show min q 6=q by omega]at G;have aw:(q:Int)<6:=by omega
           obtain⟨I,O⟩:=M _ _ G;rw[show ((q-3:Nat):Int)=(q:Int)-3 by omega]at I;clear M G;go_wp2_with fail
           try rw[show min (q:Int) 6=(q:Int) by omega]
           refine(Aa I).mono ?_;rintro e ac ⟨rfl,F,H⟩;have E:=Ab (And.intro F ((Aa U).trans (Aa aa) H));clear F H;go_wp2;go_roundw
           case rel=>exact⟨q-q,_,by go_num,by omega,Ab ⟨(Aa E).1,(Aa E).2,Aa O⟩⟩
           case measure=>simp[intOf];omega
         . subst ae;obtain⟨I,O⟩:=M _ _ G;clear M G;go_wp2_with fail
           refine(Aa I).mono ?_;rintro e ac ⟨rfl,F,H⟩;have E:=Ab (And.intro F ((Aa U).trans (Aa aa) H));clear F H;go_wp2;go_roundw
           case rel=>exact⟨0,_,by go_num,by omega,Ab ⟨(Aa E).1,(Aa E).2,Aa O⟩⟩
           case measure=>simp[intOf]
         . rw[show min q 6=6 by omega]at G;have aw:(6:Int)<(q:Int):=by omega
           obtain⟨I,O⟩:=M _ _ G;clear M G;go_wp2_with fail
           try rw[show min (q:Int) 6=6 by omega]
           refine(Aa I).mono ?_;rintro e ac ⟨rfl,F,H⟩;have E:=Ab (And.intro F ((Aa U).trans (Aa aa) H));clear F H;go_wp2;go_roundw
           case rel=>exact⟨q-6,_,by go_num,by omega,Ab ⟨(Aa E).1,(Aa E).2,Aa O⟩⟩
           case measure=>simp[intOf];omega
       . rw[if_neg ax]at G;have a8:¬(0:Int)<(x:Int):=by omega
         by_cases a3:q<11
         . rw[if_pos a3]at G;have bd:(q:Int)<11:=by omega
           obtain⟨I,O⟩:=M _ _ G;rw[show ((q-3:Nat):Int)=(q:Int)-3 by omega]at I;clear M G;go_wp2_with fail
           refine(Aa I).mono ?_;rintro e ac ⟨rfl,F,H⟩;have E:=Ab (And.intro F ((Aa U).trans (Aa aa) H));clear F H;go_wp2;go_roundw
           case rel=>exact⟨q-q,_,by go_num,by omega,Ab ⟨(Aa E).1,(Aa E).2,Aa O⟩⟩
           case measure=>simp[intOf];omega
         . rw[if_neg a3]at G;have bd:¬(q:Int)<11:=by omega
           rcases ZR q 138 with ae|ae|ae
           . rw[show min q 138=q by omega]at G;have aw:(q:Int)<138:=by omega
             obtain⟨I,O⟩:=M _ _ G;rw[show ((q-11:Nat):Int)=(q:Int)-11 by omega]at I;clear M G;go_wp2_with fail
             try rw[show min (q:Int) 138=(q:Int) by omega]
             refine(Aa I).mono ?_;rintro e ac ⟨rfl,F,H⟩;have E:=Ab (And.intro F ((Aa U).trans (Aa aa) H));clear F H;go_wp2;go_roundw
             case rel=>exact⟨q-q,_,by go_num,by omega,Ab ⟨(Aa E).1,(Aa E).2,Aa O⟩⟩
             case measure=>simp[intOf];omega
           . subst ae;obtain⟨I,O⟩:=M _ _ G;clear M G;go_wp2_with fail
             refine(Aa I).mono ?_;rintro e ac ⟨rfl,F,H⟩;have E:=Ab (And.intro F ((Aa U).trans (Aa aa) H));clear F H;go_wp2;go_roundw
             case rel=>exact⟨0,_,by go_num,by omega,Ab ⟨(Aa E).1,(Aa E).2,Aa O⟩⟩
             case measure=>simp[intOf]
           . rw[show min q 138=138 by omega]at G;have aw:(138:Int)<(q:Int):=by omega
             obtain⟨I,O⟩:=M _ _ G;clear M G;go_wp2_with fail
             try rw[show min (q:Int) 138=138 by omega]
             refine(Aa I).mono ?_;rintro e ac ⟨rfl,F,H⟩;have E:=Ab (And.intro F ((Aa U).trans (Aa aa) H));clear F H;go_wp2;go_roundw
             case rel=>exact⟨q-138,_,by go_num,by omega,Ab ⟨(Aa E).1,(Aa E).2,Aa O⟩⟩
             case measure=>simp[intOf];omega
   . obtain rfl:q=0:=by omega
     rw[Fy,XA]at af;have a6:Hid (J T wr/\ag w wr):=Ab ⟨by rw[<-af];exact ak,ai⟩;clear al ak ai af;go_wp2;go_end0
     exact⟨rfl,Aa a6⟩
theorem Mp:Ks.length=257:=by decide
theorem Sb:Sc.length=1:=rfl
theorem ID:Good Ks:=Ch (by decide+kernel)
theorem IC:Good Sc:=Ch (by decide+kernel)
theorem Yh:(List.range 257).all (fun k=>decide (0<Ks.getD k 0))=true:=by decide+kernel
theorem M1 {k:Nat}(E:k<257):0<Ks.getD k 0:=by
 have:=WX.1 Yh k (by simpa using E)
 exact of_decide_eq_true this
theorem Oc (bs:List Nat):(Gf bs).length=bs.length:=by simp[Gf]
theorem DF {bs:List Nat}(F:∀j,bs.getD j 0<256):∀t∈Gf bs,VT t:=by
 intro t E;unfold Gf at E;obtain⟨b,H,rfl⟩:=XG.1 E;obtain⟨j,G,rfl⟩:=XI H;refine⟨?_,.inl rfl⟩;have:=F j
 simpa[List.getD,G]using this
theorem M0 (bs:List Nat):itsOf (Gf bs)=bs.map (fun b=>It.sym b)++ [.sym 256]:=by
 unfold itsOf Tp Gf
 congr 1
 induction bs with
 |nil=>rfl
 |cons b bs ih=>
  rw[WQ,WQ,List.flatMap_cons,ih];rfl
theorem DE {bs:List Nat}(H:∀j,bs.getD j 0<256):Dyn (Gf bs) Ks Sc:=by
 refine⟨ID,IC,by rw[Mp];decide,by rw[Mp];decide,by rw[Sb];decide,by rw[Sb];decide,⟨fun k E=> ?_,fun k E=> ?_⟩,M1 (by decide)⟩
 . rw[M0]at E
   have h:k<257:=by
    rcases WP.1 E with h|h
    . obtain⟨b,G,F⟩:=XG.1 h
      cases F
      obtain⟨j,I,rfl⟩:=XI G;have:=H j
      simp[List.getD,I]at this
      omega
    . simp at h;omega
   exact⟨by rw[Mp];exact h,M1 h⟩
 . rw[M0]at E
   rcases WP.1 E with h|h
   . obtain⟨b,G,F⟩:=XG.1 h
     cases F
   . simp at h
theorem W5 (E:List Int):∀n,W6 E n<=n
 |0=>VB _
 |n+1=>by
  rw[W6];have:=W5 E n
  split<;>omega
theorem MW (E:List Int):∀n,4<=n->4<=W6 E n
 |0,h=>h
 |n+1,h=>by
  rw[W6]
  by_cases e:4<n+1/\E.getD (ord19.getD n 0) 0=0
  . rw[if_pos e];exact MW E n (by omega)
  . rw[if_neg e];exact h
theorem Pb (E:List Int):∀ks:List Nat,(ks.flatMap (fun k=>Al (E.getD k 0).toNat 3)).length=3*ks.length
 | []=>rfl
 |k::ks=>by
  rw[List.flatMap_cons,VE,Ah,Pb E ks,VJ];omega
theorem J4 {a b E:List Int}(F:Own (a++b) E):(Rw a b E).length<=71+7*(a.length+b.length):=by
 have G:=Lz E F.go (fun k=>(F.vo k).2) (a++b).length (a++b);have I:=W5 E 19;unfold Rw;rw[VE,VE,VE,VE,Ah,Ah,Ah,Pb];have H:(putRs E (lenIs (a++b))).length<=7*(a++b).length:=G.1;rw[VE]at H;have M:(ord19.take (W6 E 19)).length<=19:=by rw[VL];omega
 omega
theorem NW:∀(f:Nat) (l:List Int),l.length<=f->Xv f l=lenIs l:=by
 intro f
 induction f using Nat.strongRecOn with
 |ind f ih=>
  intro l hl
  cases l with
  |nil=>cases f<;>rfl
  |cons x r=>
   obtain⟨E,rfl⟩:∃E,f=E+1:=⟨f-1,by simp at hl;omega⟩
   have H:=Ye x r;have I:r.length<=E:=by simp at hl;omega
   have F:(r.drop (Cp x r)).length<=E:=by rw[VQ];omega
   have G:Xv (E+1) (x::r)=Qt x.toNat (Cp x r+1)++Xv E (r.drop (Cp x r)):=rfl;have e2:lenIs (x::r)=Qt x.toNat (Cp x r+1)++Xv r.length (r.drop (Cp x r)):=rfl;rw[G,e2,ih E (by omega) _ F]
   by_cases e:r.length=E
   . rw[e,ih E (by omega) _ F]
   . rw[ih r.length (by omega) _ (by rw[VQ];omega)]
theorem Vh (x:Int)(r:List Int):lenIs (x::r)=Qt x.toNat (Cp x r+1)++lenIs (r.drop (Cp x r)):=by
 have e2:lenIs (x::r)=Qt x.toNat (Cp x r+1)++Xv r.length (r.drop (Cp x r)):=rfl;rw[e2,NW _ _ (by rw[VQ];omega)]
theorem Yl {r:List Int}{k:Nat}(E:k<r.length):r.drop k=r.getD k 0::r.drop (k+1):=by
 rw[WS E];simp[List.getD,E]
theorem GP {x:Int}:∀(r:List Int) (k:Nat),k<r.length->r.getD k 0=x->Cp x r=k+Cp x (r.drop k)->Cp x r=(k+1)+Cp x (r.drop (k+1)):=by
 intro r k F E h;rw[h,Yl F,Cp,if_pos E];omega
theorem GO {x:Int}(r:List Int)(k:Nat)(G:k<r.length)(F:r.getD k 0≠x)(E:Cp x r=k+Cp x (r.drop k)):Cp x r=k:=by
 rw[E,Yl G,Cp,if_neg F];omega
theorem OV {x:Int}(r:List Int)(k:Nat)(F:r.length<=k)(E:Cp x r=k+Cp x (r.drop k)):Cp x r=k:=by
 rw[E,XR F,Cp];omega
def Z7z:Value->Nat
 | .slice _ n _=>n
 |_=>0
theorem QB (w:World)(a b:Nat):(w.drewN a).drewN b=w.drewN (a+b):=by simp
theorem Ja (J:List (Nat×Nat×Nat)->World->Prop)(H:World->World->Prop)(al:Nat)(ao:Array Value)(b o O ar:Nat)(l:List Int)(w:World)(hK:Snk3 J H al ao (lenIs l))(a1:l.length=O)(bv:O<=1000)(bh:O<=ar)(a9:∀x∈l,0<=x/\x<=15)(a8:∀W,H w W->Row .i64 W b o l)(F:J [] w):
 Calls Tryz.prog 243 #[.slice (some ⟨b,o,none⟩) O ar,.func (.func al) #[] ao] w fun e w'=>e=.returned (.tuple #[])/\J (lenIs l) w'/\H w w':=by
 have E:=Ab hK;have bj:=Ab a8;have az:=Ab a9;have ap:=Ab a1;have bg:=Ab F;clear hK a8 a9 a1 F;go_enter Tryz.func243,Tryz.ntmps243
 go_wp2_with fail
 go_loopw [0] (fun v wr=>∃i n c:Nat,i+n=O/\n<=c/\(∃a,v=.slice a n c/\(0<n->a=some ⟨b,o+i,none⟩))/\Hid (∃G,J G wr/\H w wr/\G++lenIs (l.drop i)=lenIs l)) (fun v _=>Z7z v)
 case atStart=>exact⟨0,O,ar,by omega,bh,⟨some ⟨b,o,none⟩,rfl,fun _=>rfl⟩,Ab ⟨[],Aa bg,(Aa E).refl _,rfl⟩⟩
 case round=>
  obtain⟨i,n,c,hi,bq,⟨a,rfl,ax⟩,ai⟩:=hrel
  by_cases bd:0<n
  . obtain rfl:=ax bd;obtain⟨G,F,U,Y⟩:=Aa ai;have ay:=Aa bj wr U;have ac:i<l.length:=by rw[Aa ap];omega
    have ak:=Yl ac;obtain⟨x,au⟩:=WF (show 0<=l.getD i 0 from (Aa az _ (by simp[List.getD,ac])).1)
    have a5:x<=15:=by
     have:=(Aa az (l.getD i 0) (by simp[List.getD,ac])).2
     omega
    rw[au]at ak;obtain⟨r,hr⟩:=exq (l.drop (i+1));rw[hr]at ak;have a2:r.length=n-1:=by rw[<-hr,VQ,Aa ap];omega
    have bk:wr.cell? ⟨b,o+i,none⟩=some (.int .i64 (x:Int)):=by
     have:=ay i ac
     rw[au]at this;exact this
    have a4:∀k:Nat,1<=k->k<n->wr.cell? ⟨b,o+i+k,none⟩=some (.int .i64 (r.getD (k-1) 0)):=by
     intro k aj a6;have bm:=ay (i+k) (by rw[Aa ap];omega)
     have bi:r.getD (k-1) 0=l.getD (i+k) 0:=by
      rw[<-hr];simp only[List.getD,XJ]
      congr 2
      omega
     rw[bi,WT];exact bm
    have bf:=Ab a4;have a7:=Ab ak;have T:=Ab (And.intro F (And.intro U Y));have av:=Ab a2;have ba:=Ab hr;have bn:(0:Int)<(n:Int):=by omega
    clear ai F U Y ay ak a4 a2 hr au ax ac;generalize wr=aw at*;go_wp2;go_loopw [4] (fun v W=>∃k q:Nat,Hid (W=aw.drewN q)/\1<=k/\k<=n/\v=.int .i64 (k:Int)/\Hid (Cp x r=(k-1)+Cp x (r.drop (k-1)))) (fun v _=>n-(intOf v).toNat)
    case atStart=>exact⟨1,0,Ab rfl,VB _,by omega,rfl,Ab (by simp)⟩
    case round=>
     obtain⟨k,q,I,aj,bu,rfl,Z⟩:=hrel;have bo:wr.cell? ⟨b,o+i,none⟩=some (.int .i64 (x:Int)):=by rw[Aa I];exact bk
     by_cases a6:k<n
     . have c1:wr.cell? ⟨b,o+i+k,none⟩=some (.int .i64 (r.getD (k-1) 0)):=by rw[Aa I];exact Aa bf k aj a6
       have a3:(k:Int)<(n:Int):=by omega
       by_cases M:r.getD (k-1) 0=x
       . rw[M]at c1
         have aa:Hid (Cp x r=(k+1-1)+Cp x (r.drop (k+1-1))):=Ab (by
          have:=GP r (k-1) (by rw[Aa av];omega) M (Aa Z)
          rw[show k-1+1=k+1-1 by omega]at this;exact this)
         clear M Z;go_wp2;go_quiet (fail)
         go_wp2;go_roundw
         case rel=>exact⟨k+1,_,Ab (by rw[Aa I];exact QB _ _ _),by omega,by omega,by go_num,aa⟩
         case measure=>simp[intOf];omega
       . have hb:(r.getD (k-1) 0==(x:Int))=false:=by rw[beq_eq_false_iff_ne];exact M
         have aa:Hid (Cp x r=k-1):=Ab (GO r (k-1) (by rw[Aa av];omega) M (Aa Z));generalize r.getD (k-1) 0=y at c1 hb;clear M Z;go_wp2;go_quiet (fail)
         have ae:Hid (G++Qt x k++lenIs (l.drop (i+k))=lenIs l):=Ab (by
          rw[<-(Aa T).2.2,Aa a7,Vh,WM,Aa aa,show k-1+1=k by omega,<-Aa ba,YK,show i+1+(k-1)=i+k by omega,VS])
         go_wp2_with fail
         refine(Ra J H al ao (lenIs l) (Aa E) x k G (lenIs (l.drop (i+k))) _ a5 aj (by omega) (Aa ae) ((Aa E).jd _ (by rw[Aa I];exact(Aa E).jd _ (Aa T).1))).mono ?_;rintro e bc ⟨rfl,ag,ah⟩;have af:=Ab (And.intro ag ((Aa E).trans (Aa T).2.1 ((Aa E).trans (by rw[Aa I];exact(Aa E).kd aw q) ((Aa E).trans ((Aa E).kd wr _) ah))));clear ag ah;go_wp2;go_roundw
         case rel=>exact⟨i+k,n-k,c-k,by omega,by omega,⟨_,rfl,fun _=>by rw[WT]⟩,Ab ⟨_,(Aa af).1,(Aa af).2,Aa ae⟩⟩
         case measure=>simp[Z7z];omega
     . obtain rfl:k=n:=by omega
       have a3:¬(k:Int)<(k:Int):=by omega
       have aa:Hid (Cp x r=k-1):=Ab (OV r (k-1) (by rw[Aa av];omega) (Aa Z));clear Z a3;go_wp2;go_quiet (fail)
       have ae:Hid (G++Qt x k++lenIs (l.drop (i+k))=lenIs l):=Ab (by
        rw[<-(Aa T).2.2,Aa a7,Vh,WM,Aa aa,show k-1+1=k by omega,<-Aa ba,YK,show i+1+(k-1)=i+k by omega,VS])
       go_wp2_with fail
       refine(Ra J H al ao (lenIs l) (Aa E) x k G (lenIs (l.drop (i+k))) _ a5 aj (by omega) (Aa ae) ((Aa E).jd _ (by rw[Aa I];exact(Aa E).jd _ (Aa T).1))).mono ?_;rintro e bc ⟨rfl,ag,ah⟩;have af:=Ab (And.intro ag ((Aa E).trans (Aa T).2.1 ((Aa E).trans (by rw[Aa I];exact(Aa E).kd aw q) ((Aa E).trans ((Aa E).kd wr _) ah))));clear ag ah;go_wp2;go_roundw
       case rel=>exact⟨i+k,0,c-k,by omega,by omega,⟨_,rfl,fun h=>absurd h (by omega)⟩,Ab ⟨_,(Aa af).1,(Aa af).2,Aa ae⟩⟩
       case measure=>simp[Z7z];omega
  . obtain rfl:n=0:=by omega
    obtain⟨G,F,U,Y⟩:=Aa ai;rw[XR (by rw[Aa ap];omega)]at Y;have bb:Hid (J (lenIs l) wr/\H w wr):=Ab ⟨by rw[<-Y];simpa[lenIs,Xv]using F,U⟩;clear ai F U Y ax;go_wp2;go_end0
    exact⟨rfl,Aa bb⟩
theorem Z3m (E n s:Nat)(G:1<=E)(H:n<8192)(F:s=12):n/2^s<2*E:=by
 subst F;have:n/2^12<2:=Nat.div_lt_of_lt_mul (by omega)
 omega
theorem EX (E n f s:Nat)(F:n/2^s<2*E):Qn E n f s=s:=by
 cases f with
 |zero=>rfl
 |succ f=>rw[Qn,if_pos F]
theorem EV (E n s:Nat)(G:s<12)(F:¬n/2^s<2*E):Qn E n (12-s) s=Qn E n (12-(s+1)) (s+1):=by
 rw[show 12-s=(12-(s+1))+1 by omega,Qn,if_neg F]
theorem Z0z (n s:Nat)(I:n<8192)(E:s<=12):bits .and .i64 (n:Int) (2^s-1)=((n%2^s:Nat):Int):=by
 have F:2^s<=2^12:=VO (by decide) E;have H:0<2^s:=YQ s
 have e:((2:Int)^s-1)=((2^s-1:Nat):Int):=by
  have G:((2^s:Nat):Int)=(2:Int)^s:=by push_cast;rfl
  omega
 rw[e,Rv n (2^s-1) (by omega) (by omega),Nat.and_two_pow_sub_one_eq_mod]
theorem SO (E X:Nat)(F:E<=48)(G:X<8192):wrap64 (wrap64 (E:Int)+(X:Int))=((E+X:Nat):Int):=by unfold wrap64;omega
theorem JX (Q:Nat)(E:0<Q)(F:Q<=4096):wrap64 (wrap64 (Q:Int)-1)=(Q:Int)-1:=by unfold wrap64;omega
theorem Ut (n E:Nat)(w:World)(ac:1<=E)(ao:E<=4)(U:n<8192):
 Calls Tryz.prog 234 #[.int .i64 (n:Int),.int .i64 (E:Int)] w fun e w'=>e=.returned (.tuple #[.int .i64 (Xd E n:Nat),.int .i64 (Tg E n:Nat),.int .i64 (Lj E n:Nat)])/\∃q,w'=w.drewN q:=by
 go_enter Tryz.func234,Tryz.ntmps234
 go_wp2;go_loop [6] (fun v=>∃s:Nat,s<=12/\v=.int .i64 (s:Int)/\Hid (Qn E n (12-s) s=Lj E n)) (fun v=>12-(intOf v).toNat)
 case atStart=>exact⟨0,by decide,rfl,Ab rfl⟩
 case round=>
  obtain⟨s,T,rfl,O⟩:=hrel
  by_cases H:n/2^s<2*E
  . have M:Hid (Lj E n=s):=Ab (by rw[<-Aa O];exact EX E n _ s H);have ah:¬(2:Int)*(E:Int)<=(n:Int)/2^s:=by rw[Fb];omega
    have aj:Hid (Xd E n=E*s+n/2^s):=Ab (by unfold Xd;rw[Aa M]);have hr:Hid (Tg E n=n%2^s):=Ab (by unfold Tg;rw[Aa M]);have hm:=Z0z n s U T;have F:2^s<=4096:=VO (j:=12) (by decide) T;have G:E*s<=48:=Nat.mul_le_mul ao T;have I:n/2^s<=n:=YO _ _;have aa:=Ab F;have ak:=Ab I;have af:=Ab G;clear O H F I G;go_wp2;go_quiet (fail)
    go_wp2;go_ret3;refine⟨?_,_,rfl⟩;have F:=Aa aa;have I:=Aa ak;have G:=Aa af;have ag:(E:Int)*(s:Int)=((E*s:Nat):Int):=by push_cast;rfl
    have e2:((2:Int)^s)=((2^s:Nat):Int):=by push_cast;rfl
    have al:0<2^s:=YQ s
    have Y:wrap64 (wrap64 ((E:Int)*s)+(n:Int)/2^s)=((E*s+n/2^s:Nat):Int):=by
     rw[ag,Fb];exact SO _ _ G (XO I U)
    have Z:wrap64 (wrap64 ((2:Int)^s)-1)=2^s-1:=by
     rw[e2];exact JX _ al F
    show Ending.returned (.tuple #[.int .i64 (wrap64 (wrap64 ((E:Int)*s)+(n:Int)/2^s)),.int .i64 (bits .and .i64 (n:Int) (wrap64 (wrap64 ((2:Int)^s)-1))),.int .i64 (s:Int)])=_
    rw[Y,Z,hm,Aa aj,Aa hr,Aa M]
  . have ae:s<12:=by
     rcases ZQ s 12 with h|h
     . exact h
     . exact absurd (Z3m E n s ac U (by omega)) H
    have ah:(2:Int)*(E:Int)<=(n:Int)/2^s:=by rw[Fb];omega
    have ai:=Ab (EV E n s ae H);go_wp2;go_round
    case rel=>exact⟨s+1,by omega,by go_num,Ab (by rw[<-Aa ai];exact Aa O)⟩
    case measure=>simp[intOf];omega
theorem TW (E n:Nat)(I:1<=E)(M:n<8192):Lj E n<=12/\Xd E n<=E*12+n/\Tg E n<=n:=by
 have:∀f s,f+s=12->Qn E n f s<=12:=by
  intro f
  induction f with
  |zero=>intro s h;rw[Qn];omega
  |succ f ih=>intro s h;rw[Qn];split;omega;exact ih _ (by omega)
 have F:=this 12 0 rfl;have G:n/2^Lj E n<=n:=YO _ _;have H:E*Lj E n<=E*12:=Nat.mul_le_mul_left _ F;exact⟨F,Nat.add_le_add H G,by unfold Tg;exact Nat.mod_le _ _⟩
theorem Y8 (n:Nat)(w:World)(I:3<=n)(O:n<=258):
 Calls Tryz.prog 208 #[.int .i64 (n:Int)] w fun e w'=>e=.returned (.tuple #[.int .i64 ((De n).1:Nat),.int .i64 ((De n).2.1:Nat),.int .i64 ((De n).2.2:Nat)])/\∃q,w'=w.drewN q:=by
 by_cases h:n=258
 . subst h;have e:De 258=(285,0,0):=rfl;rw[e];go_enter Tryz.func208,Tryz.ntmps208
   go_wp2;go_ret3;exact⟨rfl,0,rfl⟩
 . have e:Hid (De n=(257+Xd 4 (n-3),Tg 4 (n-3),Lj 4 (n-3))):=Ab (by unfold De;rw[if_neg h]);have hb:((n:Int)==258)=false:=by rw[beq_eq_false_iff_ne];omega
   have M:=TW 4 (n-3) (by omega) (by omega);have E:=Ab (Ut (n-3) 4 w (by omega) (by omega) (by omega));have F:((n:Int)-3)=((n-3:Nat):Int):=by omega
   rw[Aa e];generalize Xd 4 (n-3)=K at*;generalize Tg 4 (n-3)=R at*;generalize Lj 4 (n-3)=H at*;rw[<-F]at E;clear F e;go_enter Tryz.func208,Tryz.ntmps208
   go_wp2_with fail
   refine(Aa E).mono ?_;rintro e G ⟨rfl,q,rfl⟩;go_wp2;go_ret3;refine⟨?_,q,rfl⟩;simp only[Int.natCast_add];rfl
theorem GN (d:Nat)(w:World)(I:1<=d)(M:d<=3000):
 Calls Tryz.prog 209 #[.int .i64 (d:Int)] w fun e w'=>e=.returned (.tuple #[.int .i64 ((Mn d).1:Nat),.int .i64 ((Mn d).2.1:Nat),.int .i64 ((Mn d).2.2:Nat)])/\∃q,w'=w.drewN q:=by
 have E:=Ab (Ut (d-1) 2 w (by omega) (by omega) (by omega));have F:((d:Int)-1)=((d-1:Nat):Int):=by omega
 unfold Mn;simp only
 generalize Xd 2 (d-1)=K at*;generalize Tg 2 (d-1)=R at*;generalize Lj 2 (d-1)=H at*;rw[<-F]at E;clear F;go_enter Tryz.func209,Tryz.ntmps209
 go_wp2_with fail
 refine(Aa E).mono ?_;rintro e G ⟨rfl,q,rfl⟩;go_wp2;go_ret3;exact⟨rfl,q,rfl⟩
open Go.RowKit Go.Maps Go.WideMaps Go.ChangeShapes
theorem Z8q:ArrKey Tryz.prog 313 5 3:=⟨Tryz.underlying313,by kernel_rfl,by kernel_rfl,by kernel_rfl⟩
theorem Z81:Keyed Tryz.prog 313:=Keyed.of_law Z8q.law
theorem Z2a:∃m,Tryz.prog.types.size=m+1:=⟨Tryz.prog.types.size-1,by have:0<Tryz.prog.types.size:=of_decide_eq_true (by kernel_rfl);omega⟩
abbrev C3:=Nat×Nat×Nat
def OB (c:C3):Array Value:= #[.int .u8 (c.1:Int),.int .u8 (c.2.1:Int),.int .u8 (c.2.2:Int)]
def kv (c:C3):Value:=.agg (OB c)
def kl (c:C3):Lit:=.string (keyBytes [.int .u8 (c.1:Int),.int .u8 (c.2.1:Int),.int .u8 (c.2.2:Int)])
def Ok3 (c:C3):Prop:=c.1<256/\c.2.1<256/\c.2.2<256
theorem X4 {bs:List Nat}(E:∀j,bs.getD j 0<256)(p:Nat):Ok3 (Hi bs p):=⟨E _,E _,E _⟩
theorem Z37 {x:Nat}(E:x<256):(Lit.int .u8 (x:Int)).wf=true:=by
 simp[Lit.wf,IntKind.min,IntKind.max,IntKind.signed,IntKind.bits];omega
theorem Pg {c:C3}(E:Ok3 c):keyOf Tryz.prog 313 (kv c)=some (kl c):=by
 have A:=Z8q;have F:=A.keyType Z2a;obtain⟨m,hm⟩:=Z2a;have I:Tryz.prog.underlying 5=some (.int .u8):=Tryz.underlying5;have G:=Z37 E.1;have H:=Z37 E.2.1;have w3:=Z37 E.2.2;unfold keyOf kv kl OB;simp only[A.hu];rw[if_pos (by simp[F,Value.formed,A.hu,A.size]),hm];unfold Program.keyLits;simp only[A.hu,Value.cells];rw[if_pos (by rw[A.size];rfl),show List.range 3= [0,1,2] from rfl,List.mapM_cons,List.mapM_cons,List.mapM_cons,List.mapM_nil];simp[A.one,Program.keyLits,I,G,H,w3]
theorem Z6w {c d:C3}(F:Ok3 c)(G:Ok3 d)(E:kl c=kl d):c=d:=by
 have:=Z81.inj (Pg F) (by rw[E];exact Pg G)
 obtain⟨c1,c2,O⟩:=c;obtain⟨I,M,H⟩:=d;simp[kv,OB]at this
 simp only[YD];omega
theorem Z6v (c:C3):WideAt.IsKeyLit (kl c):=by
 first|trivial|exact⟨⟩|(unfold kl WideAt.IsKeyLit;simp)
def datum (zs:List Nat):DataW Unit:=match zs with| []=>.nil|z::r=>.slice (lits .i64 ((z::r).map fun x:Nat=>(x:Int))) []
abbrev RY (w:World)(base mb n:Nat)(D:DataW Unit):Prop:=w.ownsGroups Tryz.prog 313 base 3 .i64 mb n D
def Grp (w:World)(base mb:Nat)(bs:List Nat)(kn:Nat):Prop:=∃D:DataW Unit,RY w base mb kn D/\∀c,Ok3 c->D.atKey (kl c) .nil=datum (plc bs kn c)
theorem J5 {w:World}{I H n:Nat}{E:DataW Unit}(G:RY w I H n E):IsMap E:=by
 obtain⟨es,clock,hb,F,_,rfl,_⟩:=G;exact⟨_,rfl⟩
theorem Z14 {xs ys:List Int}(E:lits (H:=Unit) .i64 xs=lits .i64 ys):xs=ys:=by
 unfold lits at E;exact(List.map_inj_right (fun a b F=>by simpa using F)).1 E
theorem Uv {w:World}{M:Nat}{v:Value}{G:List Int}{F:List Nat}(I:w.ownsInts M 3 .i64 v G)(E:datum F=rowDatum .i64 v G):G=F.map fun x:Nat=>(x:Int):=by
 cases F with
 |nil=>
  rcases I.datum (H:=Unit)with ⟨_,e⟩|e
  . rw[e];rfl
  . rw[e]at E;simp[datum]at E
 |cons z r=>
  rcases I.datum (H:=Unit)with ⟨e,_⟩|e
  . rw[e]at E;simp[datum]at E
  . rw[e]at E;simp only[datum,DataW.slice.injEq,and_true]at E;exact(Z14 E).symm
theorem Grp.made (w:World)(E:Nat)(bs:List Nat)(F:w.heap.size<E):Grp (w.alloc (.map #[] 0)) E w.heap.size bs 0:=by
 refine⟨.map [],⟨#[],0,(MapKept.heap_alloc w _).1,⟨by simp,MapKept.stamped_empty 0,by simp⟩,VB _,rfl,F,by simp,by simp⟩, ?_⟩;intro c _;simp[plc,datum,DataW.atKey]
theorem Grp.kept {w w':World}{F E G:Nat}{bs:List Nat}{row:Option Nat}(M:Grp w F E bs G)(O:w.grownBy w' row)(I:∀j,row=some j->j<F/\j≠E):Grp w' F E bs G:=by
 obtain⟨D,H,T⟩:=M;refine⟨D,H.kept O ?_ (H.rowsAbove (fun j e=>(I j e).1)),T⟩;intro e;exact(I E e.symm).2 rfl
theorem Grp.lt {w:World}{G E H:Nat}{bs:List Nat}(I:Grp w G E bs H):E<G/\E<w.heap.size:=by
 obtain⟨D,⟨es,clock,hb,F,_,rfl,M,_⟩,_⟩:=I;exact⟨M,(VK.1 hb).1⟩
theorem Grp.step {w:World}{G M E:Nat}{bs:List Nat}{F:DataW Unit}{v':Value}{H:List Int}(Y:∀j,bs.getD j 0<256)(Z:∀c,Ok3 c->F.atKey (kl c) .nil=datum (plc bs E c))(U:IsMap F)
 (T:RY w G M (E+1) (F.put (kl (Hi bs E)) (rowDatum .i64 v' H))) (O:w.ownsInts G 3 .i64 v' H) (I:H=((plc bs E (Hi bs E)).map fun x:Nat=>(x:Int))++ [(E:Int)]):Grp w G M bs (E+1):=by
 refine⟨_,T, ?_⟩;intro c hc;rw[Z0a]
 by_cases e:Hi bs E=c
 . subst e;rw[if_pos rfl,atKey_put_same U (Z6v _),O.datum_pos (by rw[I];simp),I]
   cases aa:plc bs E (Hi bs E)with
   |nil=>simp[datum]
   |cons z r=>simp[datum]
 . rw[if_neg e,XA,atKey_put_other (fun h=>e (Z6w hc (X4 Y E) h).symm),Z c hc]
def Pst (w:World)(b:Nat)(bv:Value)(mb kn:Nat):Prop:=w.heap[b]? =some (.cells #[bv,.map (some mb),.int .i64 (kn:Int)] 292 (0,0))
theorem Pst.cell0 {w:World}{b H G:Nat}{E:Value}(F:Pst w b E H G):w.cell? ⟨b,0,none⟩=some E:=Ac F
theorem Pst.cell1 {w:World}{b E G:Nat}{H:Value}(F:Pst w b H E G):w.cell? ⟨b,1,none⟩=some (.map (some E)):=Ac F
theorem Pst.cell2 {w:World}{b G E:Nat}{H:Value}(F:Pst w b H G E):w.cell? ⟨b,2,none⟩=some (.int .i64 (E:Int)):=Ac F
theorem Pst.frozen {w:World}{b G F:Nat}{H:Value}(E:Pst w b H G F)(j:Nat):w.frozen? ⟨b,j,none⟩=false:=frozen_of_row w b j _ _ E
theorem Pst.lt {w:World}{b G F:Nat}{H:Value}(E:Pst w b H G F):b<w.heap.size:=(VK.1 E).1
theorem Pst.grown {w w':World}{b H E:Nat}{F:Value}{r:Option Nat}(G:Pst w b F H E)(I:w.grownBy w' r)(M:some b≠r):Pst w' b F H E:=(I.block b G.lt M).trans G
theorem Pst.set {w:World}{b E H:Nat}{F:Value}(G:Pst w b F E H)(q:Nat):Pst (w.setCell ⟨b,2,none⟩ (.int .i64 (q:Int))) b F E q:=by
 unfold Pst;rw[heap_setCell_same w b 2 _ _ _ G];rfl
structure Geo (No:Nat->Prop)(B p mb base b:Nat)(bs:List Nat):Prop where
 bB:b<B
 pB:B<=p
 mB:B<=mb
 pm:p≠mb
 pb:p<base
 nop:¬No p
 nom:¬No mb
 len:bs.length<=3000
 byte:∀j,bs.getD j 0<256
structure Pas (No:Nat->Prop)(w:World)(p mb base b o n cap:Nat)(bs:List Nat)(kn:Nat):Prop where
 pst:Pst w p (.slice (some ⟨b,o,none⟩) n cap) mb kn
 grp:Grp w base mb bs kn
 shun:w.Shuns mb No
 row:Bytes w b o bs
 size:base<=w.heap.size
theorem Pas.drewN {No:Nat->Prop}{w:World}{p I G b o n H F:Nat}{bs:List Nat}(E:Pas No w p I G b o n H bs F)(q:Nat):Pas No (w.drewN q) p I G b o n H bs F:=by
 have M:w.grownBy (w.drewN q) none:=⟨rfl,rfl,rfl,VB _,fun _ _ _=>rfl⟩
 exact⟨E.pst,E.grp.kept M (fun j e=>by cases e),E.shun,E.row,E.size⟩
theorem Pas.grown {No:Nat->Prop}{w w':World}{B p F H b o n ac Z:Nat}{bs:List Nat}{r:Option Nat}(E:Pas No w p F H b o n ac bs Z)(G:Geo No B p F H b bs)(I:w.grownBy w' r)(M:∀j,r=some j->j≠p/\j≠F/\j≠b/\(No j\/j<H)):Pas No w' p F H b o n ac bs Z:=by
 obtain⟨D,aa,ag⟩:=E.grp;have Y:some F≠r:=fun e=>(M F e.symm).2.1 rfl
 refine⟨E.pst.grown I (fun e=>(M p e.symm).1 rfl),⟨D,aa.kept I Y ?_,ag⟩,E.shun.kept I E.grp.lt.2 Y,E.row.grown I (fun e=>(M b e.symm).2.2.1 rfl),VU E.size I.size⟩;intro es clock hb x af
 cases O:x.val.ownBlock with
 |none=>exact .inl rfl
 |some g=>
  refine .inr (fun U=> ?_)
  rcases(M g U.symm).2.2.2 with ae|ae
  . exact E.shun es clock hb x af g O ae
  . rcases aa.rowsAbove (row:=r) (fun j e=>by
     by_cases c:j<H
     . exact c
     . have:=(M j e)
       rw[<-U]at e
       cases e
       omega) es clock hb x af with T|T
    . rw[T]at O;cases O
    . exact T (by rw[O];exact U)
open Go.RowKit Go.Maps Go.WideElems Go.MapKept Go.ChangeMaps
theorem L6 {H:Type}{P:Program}{k:TypeId}(K:Keyed P k){R:Value->Option (DataW H×List MemPlace)}{G:Array MapEntry}{aa:Nat}(F:Fit P k R G aa){x:Value}{ac:Lit}(Y:keyOf P k x=some ac)(w w':World){r:Option (Nat×Value)}
 (M:(Instr.findKey k x G.toList).run P w=.ok r w):(Instr.findKey k x G.toList).run P w'=.ok r w':=by
 rcases K.find w Y G.toList F.keys with ⟨T,I⟩|⟨j,e0,T,I,Z⟩<;>rcases K.find w' Y G.toList F.keys with ⟨O,E⟩|⟨i,ae,O,E,U⟩
 . rw[T]at M
   cases M
   exact O
 . exact absurd U (I ae (List.mem_of_getElem? E))
 . exact absurd Z (E e0 (List.mem_of_getElem? I))
 . have e:i=j:=by
    by_cases c:i=j
    . exact c
    . exact absurd (U.trans Z.symm) (other_key F I E c)
   subst e;rw[I]at E
   cases E
   rw[T]at M
   cases M
   exact O
theorem Th (w:World)(b:Nat)(x y:Obj):setBlock (setBlock w b x) b y=setBlock w b y:=by
 simp[setBlock]
theorem Cv {w:World}{b:Nat}{F:Array MapEntry}{E:Nat}(H:w.heap[b]? =some (.map F E))(G:Array MapEntry)(I:Nat):w.grownBy (setBlock w b (.map G I)) (some b):=
 ⟨rfl,rfl,rfl,by simp[setBlock],fun i _ hi=>heap_setBlock_other H _ (fun M=>hi (by rw[M]))⟩
def Q1 {H:Type}(w w1:World)(P:Program)(t k:TypeId)(base:Nat)(e:TypeId)(q:IntKind)(b n st:Nat)(D:DataW H)(kl:Lit)(v:Value):Prop:=
 ∀(w2:World) (v':Value) (zs':List Int),w1.grownBy w2 v.ownBlock->w2.ownsInts base e q v' zs'->zs'.length<=n+1->(v'.ownBlock=v.ownBlock\/∃g,v'.ownBlock=some g/\w1.heap.size<=g)->
  ∃w3,(Instr.entryStore t (.map (some b)) (goInt st) v').run P w2=.ok () w3/\w3.ownsGroups P k base e q b (n+1) (D.put kl (rowDatum q v' zs'))/\w2.grownBy w3 (some b)/\
   (∀No:Nat->Prop,w.Shuns b No->(∀g,v'.ownBlock=some g->¬No g)->w3.Shuns b No)
theorem N5 {H:Type}{P:Program}{w:World}{t E k e:TypeId}{q:IntKind}{af b n:Nat}{D:DataW H}{key:Value}{ao:Lit}(h:w.ownsGroups P k af e q b n D)(K:Keyed P k)(Z:P.underlying t=some (.map k E))(a5:∀u:World,(zeroValue E).run P u=.ok (.slice none 0 0) u)(bh:n<maxLen)(I:keyOf P k key=some ao):
 ∃(v:Value) (aa:List Int) (st:Nat) (ac:World),(Instr.mapEntry t (.map (some b)) key).run P w=.ok (.tuple #[v,goInt st]) ac/\w.grownBy ac (some b)/\ac.heap.size=w.heap.size/\D.atKey ao .nil=rowDatum q v aa/\ac.ownsInts af e q v aa/\aa.length<=n/\(∀No:Nat->Prop,w.Shuns b No->∀g,v.ownBlock=some g->¬No g)/\
  Q1 w ac P t k af e q b n st D ao v:=by
 obtain⟨v,aa,ar,ba,a4,bf,b7⟩:=h.at K Z (a5 w) bh I;obtain⟨es,clock,hb,F,ck,_,cm,_⟩:=h;have bn:b<w.heap.size:=(VK.1 hb).1
 have az:v.ownBlock=none\/v.ownBlock≠some b:=by
  cases Y:v.ownBlock with
  |none=>exact .inl rfl
  |some g=>
   refine .inr (fun U=> ?_);have:=(a4.1.lt g Y).1
   cases U
   omega
 obtain⟨b0,a9,_⟩:=F.stamped
 have finish:∀(aj:Array MapEntry) (ag st:Nat),
  (∀(M:World) (val:Value),M.heap[b]? =some (.map aj ag)->∃ae ai,(Instr.entryStore t (.map (some b)) (goInt st) val).run P M=.ok () (setBlock M b (.map ae ai))/\
   ∀u:World,u.heap[b]? =some (.map es clock)->(Instr.mapUpdate t (.map (some b)) key val).run P u=.ok () (setBlock u b (.map ae ai)))->
  Q1 w (setBlock w b (.map aj ag)) P t k af e q b n st D ao v:=by
  intro aj ag st bk M v' bd O bc b4 ce;have ak:(setBlock w b (.map aj ag)).heap.size=w.heap.size:=by simp[setBlock]
  have au:M.heap[b]? =some (.map aj ag):=by
   rw[O.block b (by rw[ak];exact bn) (fun U=>by
    rcases az with G|G
    . rw[G]at U;cases U
    . exact G U.symm)]
   exact heap_setBlock_same hb _
  obtain⟨ae,ai,bm,bo⟩:=bk M v' au;have a3:(setBlock M b (.map es clock)).heap[b]? =some (.map es clock):=heap_setBlock_same au _;have aw:=Cv au es clock
  have cj:w.grownBy (setBlock M b (.map es clock)) v.ownBlock:=by
   refine⟨O.os,O.tape,O.output, ?_, ?_⟩
   . have:=O.size
     rw[ak]at this;exact VU this aw.size
   . intro i hi hr
     by_cases c:i=b
     . subst c;rw[a3,hb]
     . rw[aw.block i (by have:=O.size;rw[ak]at this;omega) (fun U=>c (by simpa using U)),O.block i (by rw[ak];exact hi) hr];exact heap_setBlock_other hb _ c
  have bi:(setBlock M b (.map es clock)).ownsInts af e q v' bd:=bc.kept aw (by
   cases Y:v'.ownBlock with
   |none=>exact .inl rfl
   |some g=>
    refine .inr (fun U=> ?_);have:=(bc.1.lt g Y).1
    cases U
    omega)
  obtain⟨w3,av,bv,cn⟩:=b7 _ v' bd cj bi b4 (by
   rcases ce with G|⟨g,G,T⟩
   . exact .inl G
   . exact .inr ⟨g,G,by rw[ak]at T;exact T⟩)
  have bu:=stored_who K Z a3 F (XO ck bh) I av;rw[bo _ a3,Th]at av;obtain rfl:setBlock M b (.map ae ai)=w3:=by simpa using av
  refine⟨_,bm,bv,Cv au ae ai, ?_⟩;intro No a6 b8 b5 bz bg x a7 g bb;obtain⟨bw,ci,b9,cd⟩:=bu;obtain⟨rfl,rfl⟩:bw=b5/\ci=bz:=by rw[b9]at bg;simpa using bg
  rcases cd x a7 with ⟨bj,_⟩|⟨_,b3⟩
  . exact a6 es clock hb x bj g bb
  . exact b8 g (by rw[<-b3];exact bb)
 rcases K.find w I es.toList F.keys with ⟨G,T⟩|⟨j,e0,G,T,ap⟩
 . have Y:v=.slice none 0 0:=by
    simp[Instr.lookup,run_underlying Z,MapKept.run_getObj_map hb,K.check w _ I,G,a5 w,Result.andThen]at ar
    exact ar.symm
   refine⟨v,aa,clock,setBlock w b (.map (es.push ⟨key,v,clock⟩) (clock+1)), ?_,Cv hb _ _,by simp[setBlock],ba,a4.kept (Cv hb _ _) az,bf, ?_,finish _ _ _ ?_⟩
   . rw[Y];simp[Instr.mapEntry,run_underlying Z,MapKept.run_getObj_map hb,K.check w false I,G,a5,MapKept.run_setObj_map _ hb,Result.andThen,setBlock]
   . intro No _ g O;rw[Y]at O
     cases O
   . intro M val al;refine⟨es.push ⟨key,val,clock⟩,clock+1, ?_, ?_⟩
     . have ax:(es.push ⟨key,v,clock⟩).findIdx? (fun e=>((e.born:Nat):Int)==((clock:Nat):Int))=some es.size:=by
        rw[findIdx_arr]
        have:=findIdx_born (l:=(es.push ⟨key,v,clock⟩).toList) (j:=es.size) (e0:=⟨key,v,clock⟩) (by
         simp only[Array.toList_push,WU,WQ,ZE];refine List.nodup_append.2 ⟨a9,by simp,fun a bq c hc U=> ?_⟩;simp only[WO]at hc;obtain⟨x,a7,rfl⟩:=XG.1 bq;have:=b0 x a7
         omega) (by simp)
        exact this
       have a1:(es.push ⟨key,v,clock⟩).modify es.size (fun e=> {e with val:=val})=es.push ⟨key,val,clock⟩:=by
        apply Array.ext'
        rw[Array.toList_modify,Array.toList_push,Array.toList_push,<-Array.length_toList,modify_last]
       simp[Instr.entryStore,MapKept.run_getObj_map al,asInt,asIntOf,goInt,ax,a1,MapKept.run_setObj_map _ al,Result.andThen,setBlock]
     . intro u ah;have ay:=L6 K F I w u G;simp[Instr.mapUpdate,run_underlying Z,MapKept.run_getObj_map ah,K.check u false I,ay,MapKept.run_setObj_map _ ah,Result.andThen,setBlock]
 . have a8:es[j]? =some e0:=by simpa using T
   have Y:v=e0.val:=by
    simp[Instr.lookup,run_underlying Z,MapKept.run_getObj_map hb,K.check w _ I,G,Result.andThen]at ar
    exact ar.symm
   have cg:es.modify j (fun e=> {e with key:=key})=es:=by
    apply Array.ext'
    rw[Array.toList_modify,modify_eq_set _ _ _ _ T];have:({e0 with key:=key}:MapEntry)=e0:=by rw[<-ap]
    rw[this];exact set_self _ _ _ T
   refine⟨v,aa,e0.born,setBlock w b (.map es clock), ?_,Cv hb _ _,by simp[setBlock],ba,a4.kept (Cv hb _ _) az,bf, ?_,finish _ _ _ ?_⟩
   . rw[Y];simp[Instr.mapEntry,run_underlying Z,MapKept.run_getObj_map hb,K.check w false I,G,a8,ap,K.stays w I,cg,MapKept.run_setObj_map _ hb,Result.andThen,setBlock]
   . intro No a6 g O;exact a6 es clock hb e0 (List.mem_of_getElem? T) g (by rw[<-Y];exact O)
   . intro M val al;refine⟨es.modify j (fun a2=> {a2 with key:=key,val:=val}),clock, ?_, ?_⟩
     . have ax:es.findIdx? (fun e=>((e.born:Nat):Int)==((e0.born:Nat):Int))=some j:=by
        rw[findIdx_arr];exact findIdx_born a9 T
       have a1:es.modify j (fun e=> {e with val:=val})=es.modify j (fun a2=> {a2 with key:=key,val:=val}):=by
        apply Array.ext'
        rw[Array.toList_modify,Array.toList_modify,modify_eq_set _ _ _ _ T,modify_eq_set _ _ _ _ T,<-ap]
       simp[Instr.entryStore,MapKept.run_getObj_map al,asInt,asIntOf,goInt,ax,a1,MapKept.run_setObj_map _ al,Result.andThen,setBlock]
     . intro u ah;have ay:=L6 K F I w u G;simp[Instr.mapUpdate,run_underlying Z,MapKept.run_getObj_map ah,K.check u false I,ay,a8,ap,K.stays u I,MapKept.run_setObj_map _ ah,Result.andThen,setBlock]
theorem DK (w:World)(q r:Nat):(w.drewN q).drewN r=w.drewN (r+q):=by
 first|rfl|(simp[World.drewN];try omega)
theorem NO (p b o n ag i k E m:Nat)(bs:List Nat)(w:World)(ap:w.cell? ⟨p,0,none⟩=some (.slice (some ⟨b,o,none⟩) n ag))(T:Bytes w b o bs)(ae:bs.length=n)(au:n<=3000)(aa:∀j,bs.getD j 0<256)(aj:i<k)(ao:E<m)(al:k+m<=n)(r:Nat)(O:Hid (r=if bs.getD (i+E) 0=bs.getD (k+E) 0 then lcp bs i k m else 0)):
 Calls Tryz.prog 233 #[.pointer (some ⟨p,0,none⟩),.int .i64 (i:Int),.int .i64 (k:Int),.int .i64 (E:Int),.int .i64 (m:Int)] w fun e w'=>e=.returned (.int .i64 (r:Int))/\∃q,w'=w.drewN q:=by
 have ar:=Ab ae;have ai:=Ab aa;have ac:=Ab T;have H:=T (i+E) (by omega);have M:=T (k+E) (by omega);clear T aa;rw[show o+(i+E)=o+(i+E) from rfl]at H;go_enter Tryz.func233,Tryz.ntmps233
 go_wp2
 by_cases F:bs.getD (i+E) 0=bs.getD (k+E) 0
 . rw[if_pos F]at O;have G:(((bs.getD (i+E) 0:Nat):Int)!=((bs.getD (k+E) 0:Nat):Int))=false:=by rw[F];simp
   clear F;generalize bs.getD (i+E) 0=x at*;generalize bs.getD (k+E) 0=y at*;go_quiet (fail)
   clear H M G;go_wp2;go_loopw [11] (fun s wr=>∃j q:Nat,j<=m/\s=.int .i64 (j:Int)/\(∀I,I<j->bs.getD (i+I) 0=bs.getD (k+I) 0)/\wr=w.drewN q) (fun s _=>m-(intOf s).toNat)
   case atStart=>exact⟨0,nq,VH _,rfl,fun I h=>by omega,rfl⟩
   case round=>
    obtain⟨j,q,af,rfl,Z,rfl⟩:=hrel;have U:=Ab Z;clear Z
    by_cases ak:j<m
    . have ah:decide ((j:Int)<(m:Int))=true:=decide_eq_true (by omega);have H:=(Aa ac) (i+j) (by omega)
      have M:=(Aa ac) (k+j) (by omega)
      by_cases F:bs.getD (i+j) 0=bs.getD (k+j) 0
      . have Y:=Ab F;have G:(((bs.getD (i+j) 0:Nat):Int)==((bs.getD (k+j) 0:Nat):Int))=true:=by rw[F];simp
        clear F;generalize bs.getD (i+j) 0=x at H M G;generalize bs.getD (k+j) 0=y at H M G;go_wp2;go_quiet (fail)
        go_wp2;go_roundw
        case rel=>exact⟨j+1,_,by omega,by go_num,fun I h=>by
         by_cases c:I=j
         . subst c;exact Aa Y
         . exact Aa U I (by omega),rfl⟩
        case measure=>simp[intOf];omega
      . have Y:=Ab F;have G:(((bs.getD (i+j) 0:Nat):Int)==((bs.getD (k+j) 0:Nat):Int))=false:=by rw[beq_eq_false_iff_ne];omega
        clear F;generalize bs.getD (i+j) 0=x at H M G;generalize bs.getD (k+j) 0=y at H M G;go_wp2;go_quiet (fail)
        go_wp2;go_ret;exact⟨Dd (by rw[Aa O,Z2m af (Aa U) (.inr (Aa Y))]),_,DK w q nq⟩
    . obtain rfl:m=j:=by omega
      have ah:decide ((m:Int)<(m:Int))=false:=decide_eq_false (by omega);go_wp2;go_quiet (fail)
      go_wp2;go_ret;exact⟨Dd (by rw[Aa O,Z2m (VB _) (Aa U) (.inl rfl)]),_,DK w q nq⟩
 . rw[if_neg F]at O;have G:(((bs.getD (i+E) 0:Nat):Int)!=((bs.getD (k+E) 0:Nat):Int))=true:=by rw[bne_iff_ne];omega
   clear F;generalize bs.getD (i+E) 0=x at*;generalize bs.getD (k+E) 0=y at*;obtain rfl:=Aa O;go_quiet (fail)
   go_wp2;go_ret;exact⟨rfl,nq,rfl⟩
end Go.Proofs.YtleocpdblhbimaaGreatDoor
