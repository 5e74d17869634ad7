import Derived.Test.YtleocpdblhbimaaGreatDoorQ30
import Derived.Shelf.Abstract
import Derived.Deep.DeepCutAuto
import Derived.OwnWalk
import Derived.Maps.GroupsBeside
import Derived.WideKeyPair
import Derived.WideKeyEntry
set_option linter.unusedSimpArgs false
set_option linter.unusedVariables false
set_option maxRecDepth 100000
set_option maxHeartbeats 4000000
namespace Go.Proofs.YtleocpdblhbimaaGreatDoor
open Go.RowKit
theorem Fy (x f:Nat):He x f 0= []:=by cases f<;>simp[He]
theorem B9 (x:Nat):∀m f,m<=f->He x f m=He x m m:=by
 intro m
 induction m using Nat.strongRecOn with
 |ind m ih=>intro f H;by_cases G:m=0;subst G;rw[Fy,Fy];obtain⟨F,rfl⟩:∃F,f=F+1:=⟨f-1,om⟩;obtain⟨E,rfl⟩:∃E,m=E+1:=⟨m-1,om⟩;(have t:∀c,0<c->He x F (E+1-c)=He x E (E+1-c):=fun c hc=>by rw[ih (E+1-c) om F om,ih (E+1-c) om E om]);rw[He,He,if_neg G,if_neg G,t 1 om,t (min (E+1) 6) om,t (min (E+1) 138) om,Fy,Fy]
theorem LU (x q:Nat)(E:0<q):He x q q=if q<3 then (x,0,0)::He x (q-1) (q-1)else if 0<x then (16,min q 6-3,2)::He x (q-min q 6) (q-min q 6)else if q<11 then (17,q-3,3)::He x (q-q) (q-q)else (18,min q 138-11,7)::He x (q-min q 138) (q-min q 138):=by obtain⟨q',rfl⟩:∃q',q=q'+1:=⟨q-1,om⟩;have t:∀c,0<c->He x q' (q'+1-c)=He x (q'+1-c) (q'+1-c):=fun c hc=>B9 x _ _ om;rw[He,if_neg om,t 1 om,t (min (q'+1) 6) om,t (min (q'+1) 138) om,XW,Fy,Fy]
structure Snk3 (J:List (Nat×Nat×Nat)->World->Prop)(Ki:World->World->Prop)(kf:Nat)(cf:Array Value)(all:List (Nat×Nat×Nat)):Prop where
 ef:∀(args:Array Value) (w:World),(callFunc kf args).run Tryz.prog w=.ok (.enter kf args) w
 step:∀ {is R:List (Nat×Nat×Nat)} {i:Nat×Nat×Nat} {W:World},is++i::R=all->J is W->Calls Tryz.prog kf (#[.int .i64 (i.1:Int),.int .i64 (i.2.1:Int),.int .i64 (i.2.2:Int)]++cf) W fun e W'=>e=.returned (.tuple #[])/\J (is++ [i]) W'/\Ki W W'
 refl:∀W,Ki W W
 jd:∀ {is:List (Nat×Nat×Nat)} {W:World} (q:Nat),J is W->J is (W.drewN q)
 kd:∀(W:World) (q:Nat),Ki W (W.drewN q)
 trans:∀ {a b c},Ki a b->Ki b c->Ki a c
theorem Ra (J:List (Nat×Nat×Nat)->World->Prop)(ag:World->World->Prop)(ap:Nat)(al:Array Value)(a2:List (Nat×Nat×Nat))(hK:Snk3 J ag ap al a2)(x m:Nat)(Z R:List (Nat×Nat×Nat))(w:World)(bi:x<=15)(bh:1<=m)(bc:m<=1000)(aw:Z++Qt x m++R=a2)(ax:J Z w):Calls Tryz.prog 263 #[.int .i64 (x:Int),.int .i64 (m:Int),.func (.func ap) #[] al] w fun e w'=>e=.returned (.tuple #[])/\J (Z++Qt x m) w'/\ag w w':=by have ef:=hK.ef;have U:=Ab hK;have a4:=Ab ax;clear hK ax;obtain⟨T,aj⟩:=exq (Z++Qt x m);rw[aj]at aw;have a5:=Ab aw;have av:=Ab aj;clear aw;rw[aj];clear aj;go_enter Tryz.func263,Tryz.ntmps263;go_upto_if 8 with (fail);go_cut [1] (fun v wc=>∃(q:Nat) (Y:List (Nat×Nat×Nat)),v=.int .i64 (q:Int)/\q<=1000/\Hid (J Y wc/\ag w wc/\Y++He x q q=T));(case first=>by_cases ak:0<x;(. have a3:(0:Int)<(x:Int):=om;(have hr:Qt x m=(x,0,0)::He x (m-1) (m-1):=by unfold Qt;rw[if_pos ak,B9 x _ _ om]);have a7:=Ab ((Aa U).step (is:=Z) (i:=(x,0,0)) (R:=He x (m-1) (m-1)++R) (W:=w) (by rw[<-Aa a5,<-Aa av,hr];simp) (Aa a4));have ar:Hid (Z++ [(x,0,0)]++He x (m-1) (m-1)=T):=Ab (by rw[<-Aa av,hr];simp);go_wp2_with fail;refine(Aa a7).mono ?_;rintro e aa ⟨rfl,H,F⟩;have E:=Ab (And.intro H F);clear H F;go_wp2;(all_goals go_meet);all_goals exact⟨m-1,Z++ [(x,0,0)],by go_num,om,Ab ⟨(Aa E).1,(Aa E).2,Aa ar⟩⟩);. have a3:¬(0:Int)<(x:Int):=om;(have hr:Qt x m=He x m m:=by unfold Qt;rw[if_neg ak]);have ar:Hid (Z++He x m m=T):=Ab (by rw[<-Aa av,hr]);go_wp2;(all_goals go_meet);all_goals exact⟨m,Z,rfl,bc,Ab ⟨Aa a4,(Aa U).refl _,Aa ar⟩⟩);case rest=>obtain⟨bb,bg,rfl,bd,ba⟩:=hcut;go_wp2_with fail;go_loopw [1] (fun v wr=>∃(q:Nat) (Y:List (Nat×Nat×Nat)),v=.int .i64 (q:Int)/\q<=1000/\Hid (J Y wr/\ag w wr/\Y++He x q q=T)) (fun v _=>(intOf v).toNat);(case atStart=>exact⟨bb,bg,rfl,bd,ba⟩);case round=>obtain⟨q,Y,rfl,bj,au⟩:=hrel;obtain⟨ah,ai,af⟩:=Aa au;by_cases ak:0<q;(. have a3:(0:Int)<(q:Int):=om;have G:=LU x q ak;(have M:∀(i:Nat×Nat×Nat) (c:Nat),He x q q=i::He x (q-c) (q-c)->Hid (Calls Tryz.prog ap (#[.int .i64 (i.1:Int),.int .i64 (i.2.1:Int),.int .i64 (i.2.2:Int)]++al) wr fun e W'=>e=.returned (.tuple #[])/\J (Y++ [i]) W'/\ag wr W')/\Hid (Y++ [i]++He x (q-c) (q-c)=T):=by intro i c hc;refine⟨Ab ((Aa U).step (is:=Y) (i:=i) (R:=He x (q-c) (q-c)++R) (by rw[<-Aa a5,<-af,hc];simp) ah),Ab (by rw[<-af,hc];simp)⟩);have ac:=Ab ai;clear au ah ai af;by_cases ay:q<3;(. rw[if_pos ay]at G;obtain⟨I,O⟩:=M _ _ G;have a8:(q:Int)<3:=om;clear M G;go_wp2_with fail;refine(Aa I).mono ?_;rintro e aa ⟨rfl,H,F⟩;have E:=Ab (And.intro H ((Aa U).trans (Aa ac) F));clear H F;go_wp2;go_roundw;(case rel=>exact⟨q-1,_,by go_num,om,Ab ⟨(Aa E).1,(Aa E).2,Aa O⟩⟩);case measure=>simp[intOf];omega);. rw[if_neg ay]at G;have a8:¬(q:Int)<3:=om;by_cases a1:0<x;(. rw[if_pos a1]at G;have bf:(0:Int)<(x:Int):=om;rcases ZR q 6 with ae|ae|ae;(. rw[show min q 6=q by omega]at G;have ao:(q:Int)<6:=om;obtain⟨I,O⟩:=M _ _ G;rw[show ((q-3:Nat):Int)=(q:Int)-3 by omega]at I;clear M G;go_wp2_with fail;(try rw[show min (q:Int) 6=(q:Int) by omega]);refine(Aa I).mono ?_;rintro e aa ⟨rfl,H,F⟩;have E:=Ab (And.intro H ((Aa U).trans (Aa ac) F));clear H F;go_wp2;go_roundw;(case rel=>exact⟨q-q,_,by go_num,om,Ab ⟨(Aa E).1,(Aa E).2,Aa O⟩⟩);case measure=>simp[intOf];omega);(. subst ae;obtain⟨I,O⟩:=M _ _ G;clear M G;go_wp2_with fail;refine(Aa I).mono ?_;rintro e aa ⟨rfl,H,F⟩;have E:=Ab (And.intro H ((Aa U).trans (Aa ac) F));clear H F;go_wp2;go_roundw;(case rel=>exact⟨0,_,by go_num,om,Ab ⟨(Aa E).1,(Aa E).2,Aa O⟩⟩);case measure=>simp[intOf]);. rw[show min q 6=6 by omega]at G;have ao:(6:Int)<(q:Int):=om;obtain⟨I,O⟩:=M _ _ G;clear M G;go_wp2_with fail;(try rw[show min (q:Int) 6=6 by omega]);refine(Aa I).mono ?_;rintro e aa ⟨rfl,H,F⟩;have E:=Ab (And.intro H ((Aa U).trans (Aa ac) F));clear H F;go_wp2;go_roundw;(case rel=>exact⟨q-6,_,by go_num,om,Ab ⟨(Aa E).1,(Aa E).2,Aa O⟩⟩);case measure=>simp[intOf];omega);. rw[if_neg a1]at G;have bf:¬(0:Int)<(x:Int):=om;by_cases az:q<11;(. rw[if_pos az]at G;have a6:(q:Int)<11:=om;obtain⟨I,O⟩:=M _ _ G;rw[show ((q-3:Nat):Int)=(q:Int)-3 by omega]at I;clear M G;go_wp2_with fail;refine(Aa I).mono ?_;rintro e aa ⟨rfl,H,F⟩;have E:=Ab (And.intro H ((Aa U).trans (Aa ac) F));clear H F;go_wp2;go_roundw;(case rel=>exact⟨q-q,_,by go_num,om,Ab ⟨(Aa E).1,(Aa E).2,Aa O⟩⟩);case measure=>simp[intOf];omega);. rw[if_neg az]at G;have a6:¬(q:Int)<11:=om;rcases ZR q 138 with ae|ae|ae;(. rw[show min q 138=q by omega]at G;have ao:(q:Int)<138:=om;obtain⟨I,O⟩:=M _ _ G;rw[show ((q-11:Nat):Int)=(q:Int)-11 by omega]at I;clear M G;go_wp2_with fail;(try rw[show min (q:Int) 138=(q:Int) by omega]);refine(Aa I).mono ?_;rintro e aa ⟨rfl,H,F⟩;have E:=Ab (And.intro H ((Aa U).trans (Aa ac) F));clear H F;go_wp2;go_roundw;(case rel=>exact⟨q-q,_,by go_num,om,Ab ⟨(Aa E).1,(Aa E).2,Aa O⟩⟩);case measure=>simp[intOf];omega);(. subst ae;obtain⟨I,O⟩:=M _ _ G;clear M G;go_wp2_with fail;refine(Aa I).mono ?_;rintro e aa ⟨rfl,H,F⟩;have E:=Ab (And.intro H ((Aa U).trans (Aa ac) F));clear H F;go_wp2;go_roundw;(case rel=>exact⟨0,_,by go_num,om,Ab ⟨(Aa E).1,(Aa E).2,Aa O⟩⟩);case measure=>simp[intOf]);. rw[show min q 138=138 by omega]at G;have ao:(138:Int)<(q:Int):=om;obtain⟨I,O⟩:=M _ _ G;clear M G;go_wp2_with fail;(try rw[show min (q:Int) 138=138 by omega]);refine(Aa I).mono ?_;rintro e aa ⟨rfl,H,F⟩;have E:=Ab (And.intro H ((Aa U).trans (Aa ac) F));clear H F;go_wp2;go_roundw;(case rel=>exact⟨q-138,_,by go_num,om,Ab ⟨(Aa E).1,(Aa E).2,Aa O⟩⟩);case measure=>simp[intOf];omega);. obtain rfl:q=0:=om;rw[Fy,XA]at af;have a9:Hid (J T wr/\ag w wr):=Ab ⟨by rw[<-af];exact ah,ai⟩;clear au ah ai af;go_wp2;go_end0;exact⟨rfl,Aa a9⟩
theorem Mp:Ks.length=257:=od
theorem Sb:Sc.length=1:=rfl
theorem ID:Good Ks:=Ch (by decide+kernel)
theorem IC:Good Sc:=Ch (by decide+kernel)
theorem Yh:(List.range 257).all (fun k=>decide (0<Ks.getD k 0))=true:=by decide+kernel
theorem M1 {k:Nat}(E:k<257):0<Ks.getD k 0:=by have:=WX.1 Yh k (by simpa using E);exact of_decide_eq_true this
theorem Oc (bs:List Nat):(Gf bs).length=bs.length:=by simp[Gf]
theorem DF {bs:List Nat}(G:∀j,bs.getD j 0<256):∀t∈Gf bs,VT t:=by intro t E;unfold Gf at E;obtain⟨b,F,rfl⟩:=XG.1 E;obtain⟨j,H,rfl⟩:=XI F;refine⟨?_,.inl rfl⟩;have:=G j;simpa[List.getD,H]using this
theorem M0 (bs:List Nat):itsOf (Gf bs)=bs.map (fun b=>It.sym b)++ [.sym 256]:=by
 unfold itsOf Tp Gf;congr 1
 induction bs with
 |nil=>rfl
 |cons b bs ih=>rw[WQ,WQ,List.flatMap_cons,ih];rfl
theorem DE {bs:List Nat}(I:∀j,bs.getD j 0<256):Dyn (Gf bs) Ks Sc:=by refine⟨ID,IC,by rw[Mp];decide,by rw[Mp];decide,by rw[Sb];decide,by rw[Sb];decide,⟨fun k E=> ?_,fun k E=> ?_⟩,M1 od⟩;rw[M0]at E;(have h:k<257:=by rcases WP.1 E with h|h;(. obtain⟨b,G,F⟩:=XG.1 h;cases F;obtain⟨j,H,rfl⟩:=XI G;have:=I j;simp[List.getD,H]at this;omega);simp at h;omega);exact⟨by rw[Mp];exact h,M1 h⟩;. rw[M0]at E;rcases WP.1 E with h|h;(. obtain⟨b,G,F⟩:=XG.1 h;cases F);simp at h
theorem W5 (E:List Int):∀n,W6 E n<=n
 |0=>VB _
 |n+1=>by rw[W6];have:=W5 E n;split<;>omega
theorem MW (E:List Int):∀n,4<=n->4<=W6 E n
 |0,h=>h
 |n+1,h=>by rw[W6];by_cases e:4<n+1/\E.getD (ord19.getD n 0) 0=0;rw[if_pos e];exact MW E n om;rw[if_neg e];exact h
theorem Pb (E:List Int):∀ks:List Nat,(ks.flatMap (fun k=>Al (E.getD k 0).toNat 3)).length=3*ks.length
 | []=>rfl
 |k::ks=>by rw[List.flatMap_cons,VE,Ah,Pb E ks,VJ];omega
theorem J4 {a b E:List Int}(F:Own (a++b) E):(Rw a b E).length<=71+7*(a.length+b.length):=by have H:=Lz E F.go (fun k=>(F.vo k).2) (a++b).length (a++b);have I:=W5 E 19;unfold Rw;rw[VE,VE,VE,VE,Ah,Ah,Ah,Pb];have G:(putRs E (lenIs (a++b))).length<=7*(a++b).length:=H.1;rw[VE]at G;(have M:(ord19.take (W6 E 19)).length<=19:=by rw[VL];omega);omega
theorem NW:∀(f:Nat) (l:List Int),l.length<=f->Xv f l=lenIs l:=by
 intro f
 induction f using Nat.strongRecOn with
 |ind f ih=>
  intro l hl
  cases l with
  |nil=>cases f<;>rfl
  |cons x r=>obtain⟨E,rfl⟩:∃E,f=E+1:=⟨f-1,by simp at hl;omega⟩;have H:=Ye x r;(have I:r.length<=E:=by simp at hl;omega);(have F:(r.drop (Cp x r)).length<=E:=by rw[VQ];omega);have G:Xv (E+1) (x::r)=Qt x.toNat (Cp x r+1)++Xv E (r.drop (Cp x r)):=rfl;have e2:lenIs (x::r)=Qt x.toNat (Cp x r+1)++Xv r.length (r.drop (Cp x r)):=rfl;rw[G,e2,ih E om _ F];by_cases e:r.length=E;rw[e,ih E om _ F];rw[ih r.length om _ (by rw[VQ];omega)]
theorem Vh (x:Int)(r:List Int):lenIs (x::r)=Qt x.toNat (Cp x r+1)++lenIs (r.drop (Cp x r)):=by have e2:lenIs (x::r)=Qt x.toNat (Cp x r+1)++Xv r.length (r.drop (Cp x r)):=rfl;rw[e2,NW _ _ (by rw[VQ];omega)]
theorem Yl {r:List Int}{k:Nat}(E:k<r.length):r.drop k=r.getD k 0::r.drop (k+1):=by rw[WS E];simp[List.getD,E]
theorem GP {x:Int}:∀(r:List Int) (k:Nat),k<r.length->r.getD k 0=x->Cp x r=k+Cp x (r.drop k)->Cp x r=(k+1)+Cp x (r.drop (k+1)):=by intro r k F E h;rw[h,Yl F,Cp,if_pos E];omega
theorem GO {x:Int}(r:List Int)(k:Nat)(F:k<r.length)(E:r.getD k 0≠x)(G:Cp x r=k+Cp x (r.drop k)):Cp x r=k:=by rw[G,Yl F,Cp,if_neg E];omega
theorem OV {x:Int}(r:List Int)(k:Nat)(E:r.length<=k)(F:Cp x r=k+Cp x (r.drop k)):Cp x r=k:=by rw[F,XR E,Cp];omega
def Z7z:Value->Nat
 | .slice _ n _=>n
 |_=>0
theorem QB (w:World)(a b:Nat):(w.drewN a).drewN b=w.drewN (a+b):=oS
theorem Ja (J:List (Nat×Nat×Nat)->World->Prop)(H:World->World->Prop)(ak:Nat)(ai:Array Value)(b o M aw:Nat)(l:List Int)(w:World)(hK:Snk3 J H ak ai (lenIs l))(a1:l.length=M)(bu:M<=1000)(bk:M<=aw)(a3:∀x∈l,0<=x/\x<=15)(ba:∀W,H w W->Row .i64 W b o l)(F:J [] w):Calls Tryz.prog 243 #[.slice (some ⟨b,o,none⟩) M aw,.func (.func ak) #[] ai] w fun e w'=>e=.returned (.tuple #[])/\J (lenIs l) w'/\H w w':=by have E:=Ab hK;have bm:=Ab ba;have a9:=Ab a3;have al:=Ab a1;have bi:=Ab F;clear hK ba a3 a1 F;go_enter Tryz.func243,Tryz.ntmps243;go_wp2_with fail;go_loopw [0] (fun v wr=>∃i n c:Nat,i+n=M/\n<=c/\(∃a,v=.slice a n c/\(0<n->a=some ⟨b,o+i,none⟩))/\Hid (∃G,J G wr/\H w wr/\G++lenIs (l.drop i)=lenIs l)) (fun v _=>Z7z v);(case atStart=>exact⟨0,M,aw,om,bk,⟨some ⟨b,o,none⟩,rfl,fun _=>rfl⟩,Ab ⟨[],Aa bi,(Aa E).refl _,rfl⟩⟩);case round=>obtain⟨i,n,c,hi,bo,⟨a,rfl,au⟩,aj⟩:=hrel;by_cases bj:0<n;(. obtain rfl:=au bj;obtain⟨G,F,U,O⟩:=Aa aj;have av:=Aa bm wr U;(have ac:i<l.length:=by rw[Aa al];omega);have ap:=Yl ac;obtain⟨x,ax⟩:=WF (show 0<=l.getD i 0 from (Aa a9 _ (by simp[List.getD,ac])).1);(have a2:x<=15:=by have:=(Aa a9 (l.getD i 0) (by simp[List.getD,ac])).2;omega);rw[ax]at ap;obtain⟨r,hr⟩:=exq (l.drop (i+1));rw[hr]at ap;(have a5:r.length=n-1:=by rw[<-hr,VQ,Aa al];omega);(have bb:wr.cell? ⟨b,o+i,none⟩=some (.int .i64 (x:Int)):=by have:=av i ac;rw[ax]at this;exact this);(have a4:∀k:Nat,1<=k->k<n->wr.cell? ⟨b,o+i+k,none⟩=some (.int .i64 (r.getD (k-1) 0)):=by intro k ao a8;have bg:=av (i+k) (by rw[Aa al];omega);(have bf:r.getD (k-1) 0=l.getD (i+k) 0:=by rw[<-hr];simp only[List.getD,XJ];congr 2;omega);rw[bf,WT];exact bg);have bh:=Ab a4;have a7:=Ab ap;have T:=Ab (And.intro F (And.intro U O));have ay:=Ab a5;have az:=Ab hr;have bn:(0:Int)<(n:Int):=om;clear aj F U O av ap a4 a5 hr ax au ac;generalize wr=ar at*;go_wp2;go_loopw [4] (fun v W=>∃k q:Nat,Hid (W=ar.drewN q)/\1<=k/\k<=n/\v=.int .i64 (k:Int)/\Hid (Cp x r=(k-1)+Cp x (r.drop (k-1)))) (fun v _=>n-(intOf v).toNat);(case atStart=>exact⟨1,0,Ab rfl,VB _,om,rfl,Ab oS⟩);case round=>obtain⟨k,q,I,ao,bq,rfl,Y⟩:=hrel;(have bv:wr.cell? ⟨b,o+i,none⟩=some (.int .i64 (x:Int)):=by rw[Aa I];exact bb);by_cases a8:k<n;(. (have c1:wr.cell? ⟨b,o+i+k,none⟩=some (.int .i64 (r.getD (k-1) 0)):=by rw[Aa I];exact Aa bh k ao a8);have a6:(k:Int)<(n:Int):=om;by_cases Z:r.getD (k-1) 0=x;(. rw[Z]at c1;have af:Hid (Cp x r=(k+1-1)+Cp x (r.drop (k+1-1))):=Ab (by have:=GP r (k-1) (by rw[Aa ay];omega) Z (Aa Y);rw[show k-1+1=k+1-1 by omega]at this;exact this);clear Z Y;go_wp2;go_quiet (fail);go_wp2;go_roundw;(case rel=>exact⟨k+1,_,Ab (by rw[Aa I];exact QB _ _ _),om,om,by go_num,af⟩);case measure=>simp[intOf];omega);. (have hb:(r.getD (k-1) 0==(x:Int))=false:=by rw[beq_eq_false_iff_ne];exact Z);have af:Hid (Cp x r=k-1):=Ab (GO r (k-1) (by rw[Aa ay];omega) Z (Aa Y));generalize r.getD (k-1) 0=y at c1 hb;clear Z Y;go_wp2;go_quiet (fail);have ae:Hid (G++Qt x k++lenIs (l.drop (i+k))=lenIs l):=Ab (by rw[<-(Aa T).2.2,Aa a7,Vh,WM,Aa af,show k-1+1=k by omega,<-Aa az,YK,show i+1+(k-1)=i+k by omega,VS]);go_wp2_with fail;refine(Ra J H ak ai (lenIs l) (Aa E) x k G (lenIs (l.drop (i+k))) _ a2 ao om (Aa ae) ((Aa E).jd _ (by rw[Aa I];exact(Aa E).jd _ (Aa T).1))).mono ?_;rintro e bc ⟨rfl,ag,aa⟩;have ah:=Ab (And.intro ag ((Aa E).trans (Aa T).2.1 ((Aa E).trans (by rw[Aa I];exact(Aa E).kd ar q) ((Aa E).trans ((Aa E).kd wr _) aa))));clear ag aa;go_wp2;go_roundw;(case rel=>exact⟨i+k,n-k,c-k,om,om,⟨_,rfl,fun _=>by rw[WT]⟩,Ab ⟨_,(Aa ah).1,(Aa ah).2,Aa ae⟩⟩);case measure=>simp[Z7z];omega);. obtain rfl:k=n:=om;have a6:¬(k:Int)<(k:Int):=om;have af:Hid (Cp x r=k-1):=Ab (OV r (k-1) (by rw[Aa ay];omega) (Aa Y));clear Y a6;go_wp2;go_quiet (fail);have ae:Hid (G++Qt x k++lenIs (l.drop (i+k))=lenIs l):=Ab (by rw[<-(Aa T).2.2,Aa a7,Vh,WM,Aa af,show k-1+1=k by omega,<-Aa az,YK,show i+1+(k-1)=i+k by omega,VS]);go_wp2_with fail;refine(Ra J H ak ai (lenIs l) (Aa E) x k G (lenIs (l.drop (i+k))) _ a2 ao om (Aa ae) ((Aa E).jd _ (by rw[Aa I];exact(Aa E).jd _ (Aa T).1))).mono ?_;rintro e bc ⟨rfl,ag,aa⟩;have ah:=Ab (And.intro ag ((Aa E).trans (Aa T).2.1 ((Aa E).trans (by rw[Aa I];exact(Aa E).kd ar q) ((Aa E).trans ((Aa E).kd wr _) aa))));clear ag aa;go_wp2;go_roundw;(case rel=>exact⟨i+k,0,c-k,om,om,⟨_,rfl,fun h=>absurd h om⟩,Ab ⟨_,(Aa ah).1,(Aa ah).2,Aa ae⟩⟩);case measure=>simp[Z7z];omega);. obtain rfl:n=0:=om;obtain⟨G,F,U,O⟩:=Aa aj;rw[XR (by rw[Aa al];omega)]at O;have bd:Hid (J (lenIs l) wr/\H w wr):=Ab ⟨by rw[<-O];simpa[lenIs,Xv]using F,U⟩;clear aj F U O au;go_wp2;go_end0;exact⟨rfl,Aa bd⟩
theorem Z3m (E n s:Nat)(G:1<=E)(H:n<8192)(F:s=12):n/2^s<2*E:=by subst F;have:n/2^12<2:=Nat.div_lt_of_lt_mul om;omega
theorem EX (E n f s:Nat)(F:n/2^s<2*E):Qn E n f s=s:=by
 cases f with
 |zero=>rfl
 |succ f=>rw[Qn,if_pos F]
theorem EV (E n s:Nat)(G:s<12)(F:¬n/2^s<2*E):Qn E n (12-s) s=Qn E n (12-(s+1)) (s+1):=by rw[show 12-s=(12-(s+1))+1 by omega,Qn,if_neg F]
theorem Z0z (n s:Nat)(H:n<8192)(E:s<=12):bits .and .i64 (n:Int) (2^s-1)=((n%2^s:Nat):Int):=by have I:2^s<=2^12:=VO od E;have G:0<2^s:=YQ s;(have e:((2:Int)^s-1)=((2^s-1:Nat):Int):=by(have F:((2^s:Nat):Int)=(2:Int)^s:=by push_cast;rfl);omega);rw[e,Rv n (2^s-1) om om,Nat.and_two_pow_sub_one_eq_mod]
theorem SO (E X:Nat)(F:E<=48)(G:X<8192):wrap64 (wrap64 (E:Int)+(X:Int))=((E+X:Nat):Int):=by unfold wrap64;omega
theorem JX (Q:Nat)(E:0<Q)(F:Q<=4096):wrap64 (wrap64 (Q:Int)-1)=(Q:Int)-1:=by unfold wrap64;omega
theorem Ut (n E:Nat)(w:World)(al:1<=E)(ai:E<=4)(U:n<8192):Calls Tryz.prog 234 #[.int .i64 (n:Int),.int .i64 (E:Int)] w fun e w'=>e=.returned (.tuple #[.int .i64 (Xd E n:Nat),.int .i64 (Tg E n:Nat),.int .i64 (Lj E n:Nat)])/\∃q,w'=w.drewN q:=by go_enter Tryz.func234,Tryz.ntmps234;go_wp2;go_loop [6] (fun v=>∃s:Nat,s<=12/\v=.int .i64 (s:Int)/\Hid (Qn E n (12-s) s=Lj E n)) (fun v=>12-(intOf v).toNat);(case atStart=>exact⟨0,od,rfl,Ab rfl⟩);case round=>obtain⟨s,O,rfl,T⟩:=hrel;by_cases I:n/2^s<2*E;(. have M:Hid (Lj E n=s):=Ab (by rw[<-Aa T];exact EX E n _ s I);(have Z:¬(2:Int)*(E:Int)<=(n:Int)/2^s:=by rw[Fb];omega);have ak:Hid (Xd E n=E*s+n/2^s):=Ab (by unfold Xd;rw[Aa M]);have hr:Hid (Tg E n=n%2^s):=Ab (by unfold Tg;rw[Aa M]);have hm:=Z0z n s U O;have F:2^s<=4096:=VO (j:=12) od O;have H:E*s<=48:=Nat.mul_le_mul ai O;have G:n/2^s<=n:=YO _ _;have ac:=Ab F;have aj:=Ab G;have ae:=Ab H;clear T I F G H;go_wp2;go_quiet (fail);go_wp2;go_ret3;refine⟨?_,_,rfl⟩;have F:=Aa ac;have G:=Aa aj;have H:=Aa ae;(have ao:(E:Int)*(s:Int)=((E*s:Nat):Int):=by push_cast;rfl);(have e2:((2:Int)^s)=((2^s:Nat):Int):=by push_cast;rfl);have ag:0<2^s:=YQ s;(have Y:wrap64 (wrap64 ((E:Int)*s)+(n:Int)/2^s)=((E*s+n/2^s:Nat):Int):=by rw[ao,Fb];exact SO _ _ H (XO G U));(have aa:wrap64 (wrap64 ((2:Int)^s)-1)=2^s-1:=by rw[e2];exact JX _ ag F);show Ending.returned (.tuple #[.int .i64 (wrap64 (wrap64 ((E:Int)*s)+(n:Int)/2^s)),.int .i64 (bits .and .i64 (n:Int) (wrap64 (wrap64 ((2:Int)^s)-1))),.int .i64 (s:Int)])=_;rw[Y,aa,hm,Aa ak,Aa hr,Aa M]);. (have af:s<12:=by rcases ZQ s 12 with h|h;exact h;exact absurd (Z3m E n s al U om) I);(have Z:(2:Int)*(E:Int)<=(n:Int)/2^s:=by rw[Fb];omega);have ah:=Ab (EV E n s af I);go_wp2;go_round;(case rel=>exact⟨s+1,om,by go_num,Ab (by rw[<-Aa ah];exact Aa T)⟩);case measure=>simp[intOf];omega
theorem TW (E n:Nat)(M:1<=E)(I:n<8192):Lj E n<=12/\Xd E n<=E*12+n/\Tg E n<=n:=by
 have:∀f s,f+s=12->Qn E n f s<=12:=by
  intro f
  induction f with
  |zero=>intro s h;rw[Qn];omega
  |succ f ih=>intro s h;rw[Qn];split;omega;exact ih _ om
 have F:=this 12 0 rfl;have G:n/2^Lj E n<=n:=YO _ _;have H:E*Lj E n<=E*12:=Nat.mul_le_mul_left _ F;exact⟨F,Nat.add_le_add H G,by unfold Tg;exact Nat.mod_le _ _⟩
theorem Y8 (n:Nat)(w:World)(G:3<=n)(H:n<=258):Calls Tryz.prog 208 #[.int .i64 (n:Int)] w fun e w'=>e=.returned (.tuple #[.int .i64 ((De n).1:Nat),.int .i64 ((De n).2.1:Nat),.int .i64 ((De n).2.2:Nat)])/\∃q,w'=w.drewN q:=by by_cases h:n=258;(. subst h;have e:De 258=(285,0,0):=rfl;rw[e];go_enter Tryz.func208,Tryz.ntmps208;go_wp2;go_ret3;exact⟨rfl,0,rfl⟩);. have e:Hid (De n=(257+Xd 4 (n-3),Tg 4 (n-3),Lj 4 (n-3))):=Ab (by unfold De;rw[if_neg h]);(have hb:((n:Int)==258)=false:=by rw[beq_eq_false_iff_ne];omega);have I:=TW 4 (n-3) om om;have F:=Ab (Ut (n-3) 4 w om om om);have E:((n:Int)-3)=((n-3:Nat):Int):=om;rw[Aa e];generalize Xd 4 (n-3)=K at*;generalize Tg 4 (n-3)=R at*;generalize Lj 4 (n-3)=O at*;rw[<-E]at F;clear E e;go_enter Tryz.func208,Tryz.ntmps208;go_wp2_with fail;refine(Aa F).mono ?_;rintro e M ⟨rfl,q,rfl⟩;go_wp2;go_ret3;refine⟨?_,q,rfl⟩;simp only[Int.natCast_add];rfl
theorem GN (d:Nat)(w:World)(G:1<=d)(H:d<=3000):Calls Tryz.prog 209 #[.int .i64 (d:Int)] w fun e w'=>e=.returned (.tuple #[.int .i64 ((Mn d).1:Nat),.int .i64 ((Mn d).2.1:Nat),.int .i64 ((Mn d).2.2:Nat)])/\∃q,w'=w.drewN q:=by have F:=Ab (Ut (d-1) 2 w om om om);have E:((d:Int)-1)=((d-1:Nat):Int):=om;unfold Mn;simp only;generalize Xd 2 (d-1)=K at*;generalize Tg 2 (d-1)=R at*;generalize Lj 2 (d-1)=M at*;rw[<-E]at F;clear E;go_enter Tryz.func209,Tryz.ntmps209;go_wp2_with fail;refine(Aa F).mono ?_;rintro e I ⟨rfl,q,rfl⟩;go_wp2;go_ret3;exact⟨rfl,q,rfl⟩
open Go.RowKit Go.Maps Go.WideMaps Go.ChangeShapes
theorem Z8q:ArrKey Tryz.prog 313 5 3:=⟨Tryz.underlying313,oR,oR,oR⟩
theorem Z81:Keyed Tryz.prog 313:=Keyed.of_law Z8q.law
theorem Z2a:∃m,Tryz.prog.types.size=m+1:=⟨Tryz.prog.types.size-1,by have:0<Tryz.prog.types.size:=of_decide_eq_true oR;omega⟩
abbrev C3:=Nat×Nat×Nat
def OB (c:C3):Array Value:= #[.int .u8 (c.1:Int),.int .u8 (c.2.1:Int),.int .u8 (c.2.2:Int)]
def kv (c:C3):Value:=.agg (OB c)
def kl (c:C3):Lit:=.string (keyBytes [.int .u8 (c.1:Int),.int .u8 (c.2.1:Int),.int .u8 (c.2.2:Int)])
def Ok3 (c:C3):Prop:=c.1<256/\c.2.1<256/\c.2.2<256
theorem X4 {bs:List Nat}(E:∀j,bs.getD j 0<256)(p:Nat):Ok3 (Hi bs p):=⟨E _,E _,E _⟩
theorem Z37 {x:Nat}(E:x<256):(Lit.int .u8 (x:Int)).wf=true:=by simp[Lit.wf,IntKind.min,IntKind.max,IntKind.signed,IntKind.bits];omega
theorem Pg {c:C3}(E:Ok3 c):keyOf Tryz.prog 313 (kv c)=some (kl c):=by have A:=Z8q;have G:=A.keyType Z2a;obtain⟨m,hm⟩:=Z2a;have F:Tryz.prog.underlying 5=some (.int .u8):=Tryz.underlying5;have H:=Z37 E.1;have I:=Z37 E.2.1;have w3:=Z37 E.2.2;unfold keyOf kv kl OB;simp only[A.hu];rw[if_pos (by simp[G,Value.formed,A.hu,A.size]),hm];unfold Program.keyLits;simp only[A.hu,Value.cells];rw[if_pos (by rw[A.size];rfl),show List.range 3= [0,1,2] from rfl,List.mapM_cons,List.mapM_cons,List.mapM_cons,List.mapM_nil];simp[A.one,Program.keyLits,F,H,I,w3]
theorem Z6w {c d:C3}(F:Ok3 c)(E:Ok3 d)(G:kl c=kl d):c=d:=by have:=Z81.inj (Pg F) (by rw[G];exact Pg E);obtain⟨c1,c2,I⟩:=c;obtain⟨O,M,H⟩:=d;simp[kv,OB]at this;simp only[YD];omega
theorem Z6v (c:C3):WideAt.IsKeyLit (kl c):=by first|trivial|exact⟨⟩|(unfold kl WideAt.IsKeyLit;simp)
def datum (zs:List Nat):DataW Unit:=match zs with| []=>.nil|z::r=>.slice (lits .i64 ((z::r).map fun x:Nat=>(x:Int))) []
abbrev RY (w:World)(base mb n:Nat)(D:DataW Unit):Prop:=w.ownsGroups Tryz.prog 313 base 3 .i64 mb n D
def Grp (w:World)(base mb:Nat)(bs:List Nat)(kn:Nat):Prop:=∃D:DataW Unit,RY w base mb kn D/\∀c,Ok3 c->D.atKey (kl c) .nil=datum (plc bs kn c)
theorem J5 {w:World}{G I n:Nat}{E:DataW Unit}(H:RY w G I n E):IsMap E:=by obtain⟨es,clock,hb,F,_,rfl,_⟩:=H;exact⟨_,rfl⟩
theorem Z14 {xs ys:List Int}(E:lits (H:=Unit) .i64 xs=lits .i64 ys):xs=ys:=by unfold lits at E;exact(List.map_inj_right (fun a b F=>by simpa using F)).1 E
theorem Uv {w:World}{M:Nat}{v:Value}{G:List Int}{F:List Nat}(I:w.ownsInts M 3 .i64 v G)(E:datum F=rowDatum .i64 v G):G=F.map fun x:Nat=>(x:Int):=by
 cases F with
 |nil=>(rcases I.datum (H:=Unit)with ⟨_,e⟩|e);rw[e];rfl;rw[e]at E;simp[datum]at E
 |cons z r=>(rcases I.datum (H:=Unit)with ⟨e,_⟩|e);rw[e]at E;simp[datum]at E;rw[e]at E;simp only[datum,DataW.slice.injEq,and_true]at E;exact(Z14 E).symm
theorem Grp.made (w:World)(E:Nat)(bs:List Nat)(F:w.heap.size<E):Grp (w.alloc (.map #[] 0)) E w.heap.size bs 0:=by refine⟨.map [],⟨#[],0,(MapKept.heap_alloc w _).1,⟨oS,MapKept.stamped_empty 0,oS⟩,VB _,rfl,F,oS,oS⟩, ?_⟩;intro c _;simp[plc,datum,DataW.atKey]
theorem Grp.kept {w w':World}{F E G:Nat}{bs:List Nat}{row:Option Nat}(T:Grp w F E bs G)(O:w.grownBy w' row)(H:∀j,row=some j->j<F/\j≠E):Grp w' F E bs G:=by obtain⟨D,I,M⟩:=T;refine⟨D,I.kept O ?_ (I.rowsAbove (fun j e=>(H j e).1)),M⟩;intro e;exact(H E e.symm).2 rfl
theorem Grp.lt {w:World}{G E M:Nat}{bs:List Nat}(I:Grp w G E bs M):E<G/\E<w.heap.size:=by obtain⟨D,⟨es,clock,hb,F,_,rfl,H,_⟩,_⟩:=I;exact⟨H,(VK.1 hb).1⟩
theorem Grp.step {w:World}{G M E:Nat}{bs:List Nat}{F:DataW Unit}{v':Value}{H:List Int}(Y:∀j,bs.getD j 0<256)(T:∀c,Ok3 c->F.atKey (kl c) .nil=datum (plc bs E c))(O:IsMap F) (Z:RY w G M (E+1) (F.put (kl (Hi bs E)) (rowDatum .i64 v' H))) (U:w.ownsInts G 3 .i64 v' H) (I:H=((plc bs E (Hi bs E)).map fun x:Nat=>(x:Int))++ [(E:Int)]):Grp w G M bs (E+1):=by
 refine⟨_,Z, ?_⟩;intro c hc;rw[Z0a];by_cases e:Hi bs E=c
 . subst e;rw[if_pos rfl,atKey_put_same O (Z6v _),U.datum_pos (by rw[I];simp),I]
   cases aa:plc bs E (Hi bs E)with
   |nil=>simp[datum]
   |cons z r=>simp[datum]
 rw[if_neg e,XA,atKey_put_other (fun h=>e (Z6w hc (X4 Y E) h).symm),T c hc]
def Pst (w:World)(b:Nat)(bv:Value)(mb kn:Nat):Prop:=w.heap[b]? =some (.cells #[bv,.map (some mb),.int .i64 (kn:Int)] 292 (0,0))
theorem Pst.cell0 {w:World}{b G H:Nat}{E:Value}(F:Pst w b E G H):w.cell? ⟨b,0,none⟩=some E:=Ac F
theorem Pst.cell1 {w:World}{b E H:Nat}{F:Value}(G:Pst w b F E H):w.cell? ⟨b,1,none⟩=some (.map (some E)):=Ac G
theorem Pst.cell2 {w:World}{b H E:Nat}{F:Value}(G:Pst w b F H E):w.cell? ⟨b,2,none⟩=some (.int .i64 (E:Int)):=Ac G
theorem Pst.frozen {w:World}{b G H:Nat}{E:Value}(F:Pst w b E G H)(j:Nat):w.frozen? ⟨b,j,none⟩=false:=frozen_of_row w b j _ _ F
theorem Pst.lt {w:World}{b G H:Nat}{E:Value}(F:Pst w b E G H):b<w.heap.size:=(VK.1 F).1
theorem Pst.grown {w w':World}{b E F:Nat}{G:Value}{r:Option Nat}(H:Pst w b G E F)(M:w.grownBy w' r)(I:some b≠r):Pst w' b G E F:=(M.block b H.lt I).trans H
theorem Pst.set {w:World}{b F H:Nat}{E:Value}(G:Pst w b E F H)(q:Nat):Pst (w.setCell ⟨b,2,none⟩ (.int .i64 (q:Int))) b E F q:=by unfold Pst;rw[heap_setCell_same w b 2 _ _ _ G];rfl
structure Geo (No:Nat->Prop)(B p mb base b:Nat)(bs:List Nat):Prop where
 bB:b<B
 pB:B<=p
 mB:B<=mb
 pm:p≠mb
 pb:p<base
 nop:¬No p
 nom:¬No mb
 len:bs.length<=3000
 byte:∀j,bs.getD j 0<256
structure Pas (No:Nat->Prop)(w:World)(p mb base b o n cap:Nat)(bs:List Nat)(kn:Nat):Prop where
 pst:Pst w p (.slice (some ⟨b,o,none⟩) n cap) mb kn
 grp:Grp w base mb bs kn
 shun:w.Shuns mb No
 row:Bytes w b o bs
 size:base<=w.heap.size
theorem Pas.drewN {No:Nat->Prop}{w:World}{p H F b o n I G:Nat}{bs:List Nat}(E:Pas No w p H F b o n I bs G)(q:Nat):Pas No (w.drewN q) p H F b o n I bs G:=by have M:w.grownBy (w.drewN q) none:=⟨rfl,rfl,rfl,VB _,fun _ _ _=>rfl⟩;exact⟨E.pst,E.grp.kept M (fun j e=>by cases e),E.shun,E.row,E.size⟩
theorem Pas.grown {No:Nat->Prop}{w w':World}{B p F I b o n ac Z:Nat}{bs:List Nat}{r:Option Nat}(E:Pas No w p F I b o n ac bs Z)(G:Geo No B p F I b bs)(M:w.grownBy w' r)(H:∀j,r=some j->j≠p/\j≠F/\j≠b/\(No j\/j<I)):Pas No w' p F I b o n ac bs Z:=by
 obtain⟨D,aa,ag⟩:=E.grp;have ae:some F≠r:=fun e=>(H F e.symm).2.1 rfl;refine⟨E.pst.grown M (fun e=>(H p e.symm).1 rfl),⟨D,aa.kept M ae ?_,ag⟩,E.shun.kept M E.grp.lt.2 ae,E.row.grown M (fun e=>(H b e.symm).2.2.1 rfl),VU E.size M.size⟩;intro es clock hb x af
 cases O:x.val.ownBlock with
 |none=>exact .inl rfl
 |some g=>
  refine .inr (fun U=> ?_);rcases(H g U.symm).2.2.2 with Y|Y;exact E.shun es clock hb x af g O Y
  . rcases aa.rowsAbove (row:=r) (fun j e=>by
     by_cases c:j<I
     . exact c
     . have:=(H j e)
       rw[<-U]at e
       cases e
       omega) es clock hb x af with T|T
    (. rw[T]at O;cases O);exact T (by rw[O];exact U)
open Go.RowKit Go.Maps Go.WideElems Go.MapKept Go.ChangeMaps
theorem L6 {H:Type}{P:Program}{k:TypeId}(K:Keyed P k){R:Value->Option (DataW H×List MemPlace)}{I:Array MapEntry}{ae:Nat}(F:Fit P k R I ae){x:Value}{ac:Lit}(Z:keyOf P k x=some ac)(w w':World){r:Option (Nat×Value)} (M:(Instr.findKey k x I.toList).run P w=.ok r w):(Instr.findKey k x I.toList).run P w'=.ok r w':=by(rcases K.find w Z I.toList F.keys with ⟨O,G⟩|⟨j,e0,O,G,U⟩<;>rcases K.find w' Z I.toList F.keys with ⟨T,E⟩|⟨i,aa,T,E,Y⟩);(. rw[O]at M;cases M;exact T);exact absurd Y (G aa (List.mem_of_getElem? E));exact absurd U (E e0 (List.mem_of_getElem? G));. (have e:i=j:=by by_cases c:i=j;exact c;exact absurd (Y.trans U.symm) (other_key F G E c));subst e;rw[G]at E;cases E;rw[O]at M;cases M;exact T
theorem Th (w:World)(b:Nat)(x y:Obj):setBlock (setBlock w b x) b y=setBlock w b y:=by simp[setBlock]
theorem Cv {w:World}{b:Nat}{E:Array MapEntry}{M:Nat}(I:w.heap[b]? =some (.map E M))(G:Array MapEntry)(F:Nat):w.grownBy (setBlock w b (.map G F)) (some b):=
 ⟨rfl,rfl,rfl,by simp[setBlock],fun i _ hi=>heap_setBlock_other I _ (fun H=>hi (by rw[H]))⟩
def Q1 {H:Type}(w w1:World)(P:Program)(t k:TypeId)(base:Nat)(e:TypeId)(q:IntKind)(b n st:Nat)(D:DataW H)(kl:Lit)(v:Value):Prop:=
 ∀(w2:World) (v':Value) (zs':List Int),w1.grownBy w2 v.ownBlock->w2.ownsInts base e q v' zs'->zs'.length<=n+1->(v'.ownBlock=v.ownBlock\/∃g,v'.ownBlock=some g/\w1.heap.size<=g)->
  ∃w3,(Instr.entryStore t (.map (some b)) (goInt st) v').run P w2=.ok () w3/\w3.ownsGroups P k base e q b (n+1) (D.put kl (rowDatum q v' zs'))/\w2.grownBy w3 (some b)/\
   (∀No:Nat->Prop,w.Shuns b No->(∀g,v'.ownBlock=some g->¬No g)->w3.Shuns b No)
theorem N5 {H:Type}{P:Program}{w:World}{t E k e:TypeId}{q:IntKind}{al b n:Nat}{D:DataW H}{key:Value}{ar:Lit}(h:w.ownsGroups P k al e q b n D)(K:Keyed P k)(Z:P.underlying t=some (.map k E))(ax:∀u:World,(zeroValue E).run P u=.ok (.slice none 0 0) u)(bh:n<maxLen)(I:keyOf P k key=some ar):∃(v:Value) (aa:List Int) (st:Nat) (ai:World),(Instr.mapEntry t (.map (some b)) key).run P w=.ok (.tuple #[v,goInt st]) ai/\w.grownBy ai (some b)/\ai.heap.size=w.heap.size/\D.atKey ar .nil=rowDatum q v aa/\ai.ownsInts al e q v aa/\aa.length<=n/\(∀No:Nat->Prop,w.Shuns b No->∀g,v.ownBlock=some g->¬No g)/\Q1 w ai P t k al e q b n st D ar v:=by
 obtain⟨v,aa,au,bb,a1,bf,bw⟩:=h.at K Z (ax w) bh I;obtain⟨es,clock,hb,F,b8,_,cn,_⟩:=h;have ce:b<w.heap.size:=(VK.1 hb).1
 have a4:v.ownBlock=none\/v.ownBlock≠some b:=by
  cases Y:v.ownBlock with
  |none=>exact .inl rfl
  |some g=>refine .inr (fun U=> ?_);have:=(a1.1.lt g Y).1;cases U;omega
 obtain⟨b9,a9,_⟩:=F.stamped
 have finish:∀(ak:Array MapEntry) (ah st:Nat),
  (∀(M:World) (val:Value),M.heap[b]? =some (.map ak ah)->∃ac aj,(Instr.entryStore t (.map (some b)) (goInt st) val).run P M=.ok () (setBlock M b (.map ac aj))/\
   ∀u:World,u.heap[b]? =some (.map es clock)->(Instr.mapUpdate t (.map (some b)) key val).run P u=.ok () (setBlock u b (.map ac aj)))->
  Q1 w (setBlock w b (.map ak ah)) P t k al e q b n st D ar v:=by
  intro ak ah st bn M v' bc O bg bk bu
  have ae:(setBlock w b (.map ak ah)).heap.size=w.heap.size:=by simp[setBlock]
  have ap:M.heap[b]? =some (.map ak ah):=by
   rw[O.block b (by rw[ae];exact ce) (fun U=>by
    rcases a4 with G|G
    . rw[G]at U;cases U
    . exact G U.symm)]
   exact heap_setBlock_same hb _
  obtain⟨ac,aj,b5,b0⟩:=bn M v' ap
  have aw:(setBlock M b (.map es clock)).heap[b]? =some (.map es clock):=heap_setBlock_same ap _
  have az:=Cv ap es clock
  have cg:w.grownBy (setBlock M b (.map es clock)) v.ownBlock:=by
   refine⟨O.os,O.tape,O.output, ?_, ?_⟩
   . have:=O.size
     rw[ae]at this
     exact VU this az.size
   . intro i hi hr
     by_cases c:i=b
     . subst c
       rw[aw,hb]
     . rw[az.block i (by have:=O.size;rw[ae]at this;omega) (fun U=>c (by simpa using U)),O.block i (by rw[ae];exact hi) hr]
       exact heap_setBlock_other hb _ c
  have cj:(setBlock M b (.map es clock)).ownsInts al e q v' bc:=bg.kept az (by
   cases Y:v'.ownBlock with
   |none=>exact .inl rfl
   |some g=>
    refine .inr (fun U=> ?_)
    have:=(bg.1.lt g Y).1
    cases U
    omega)
  obtain⟨w3,a7,ck,cm⟩:=bw _ v' bc cg cj bk (by
   rcases bu with G|⟨g,G,T⟩
   . exact .inl G
   . exact .inr ⟨g,G,by rw[ae]at T;exact T⟩)
  have cd:=stored_who K Z aw F (XO b8 bh) I a7
  rw[b0 _ aw,Th]at a7
  obtain rfl:setBlock M b (.map ac aj)=w3:=by simpa using a7
  refine⟨_,b5,ck,Cv ap ac aj, ?_⟩
  intro No a5 bm bz bi a8 x a3 g bd
  obtain⟨ci,b4,bo,bv⟩:=cd
  obtain⟨rfl,rfl⟩:ci=bz/\b4=bi:=by rw[bo]at a8;simpa using a8
  rcases bv x a3 with ⟨bq,_⟩|⟨_,b3⟩
  . exact a5 es clock hb x bq g bd
  . exact bm g (by rw[<-b3];exact bd)
 (rcases K.find w I es.toList F.keys with ⟨G,T⟩|⟨j,e0,G,T,ao⟩);(. (have Y:v=.slice none 0 0:=by simp[Instr.lookup,run_underlying Z,MapKept.run_getObj_map hb,K.check w _ I,G,ax w,Result.andThen]at au;exact au.symm);refine⟨v,aa,clock,setBlock w b (.map (es.push ⟨key,v,clock⟩) (clock+1)), ?_,Cv hb _ _,by simp[setBlock],bb,a1.kept (Cv hb _ _) a4,bf, ?_,finish _ _ _ ?_⟩;rw[Y];simp[Instr.mapEntry,run_underlying Z,MapKept.run_getObj_map hb,K.check w false I,G,ax,MapKept.run_setObj_map _ hb,Result.andThen,setBlock];(. intro No _ g O;rw[Y]at O;cases O);intro M val af;refine⟨es.push ⟨key,val,clock⟩,clock+1, ?_, ?_⟩;(have a2:(es.push ⟨key,v,clock⟩).findIdx? (fun e=>((e.born:Nat):Int)==((clock:Nat):Int))=some es.size:=by rw[findIdx_arr];have:=findIdx_born (l:=(es.push ⟨key,v,clock⟩).toList) (j:=es.size) (e0:=⟨key,v,clock⟩) (by simp only[Array.toList_push,WU,WQ,ZE];refine List.nodup_append.2 ⟨a9,oS,fun a b7 c hc U=> ?_⟩;simp only[WO]at hc;obtain⟨x,a3,rfl⟩:=XG.1 b7;have:=b9 x a3;omega) oS;exact this);(have a6:(es.push ⟨key,v,clock⟩).modify es.size (fun e=> {e with val:=val})=es.push ⟨key,val,clock⟩:=by apply Array.ext';rw[Array.toList_modify,Array.toList_push,Array.toList_push,<-Array.length_toList,modify_last]);simp[Instr.entryStore,MapKept.run_getObj_map af,asInt,asIntOf,goInt,a2,a6,MapKept.run_setObj_map _ af,Result.andThen,setBlock];intro u ag;have av:=L6 K F I w u G;simp[Instr.mapUpdate,run_underlying Z,MapKept.run_getObj_map ag,K.check u false I,av,MapKept.run_setObj_map _ ag,Result.andThen,setBlock]);(have ba:es[j]? =some e0:=by simpa using T);(have Y:v=e0.val:=by simp[Instr.lookup,run_underlying Z,MapKept.run_getObj_map hb,K.check w _ I,G,Result.andThen]at au;exact au.symm);(have bj:es.modify j (fun e=> {e with key:=key})=es:=by apply Array.ext';rw[Array.toList_modify,modify_eq_set _ _ _ _ T];(have:({e0 with key:=key}:MapEntry)=e0:=by rw[<-ao]);rw[this];exact set_self _ _ _ T);refine⟨v,aa,e0.born,setBlock w b (.map es clock), ?_,Cv hb _ _,by simp[setBlock],bb,a1.kept (Cv hb _ _) a4,bf, ?_,finish _ _ _ ?_⟩;rw[Y];simp[Instr.mapEntry,run_underlying Z,MapKept.run_getObj_map hb,K.check w false I,G,ba,ao,K.stays w I,bj,MapKept.run_setObj_map _ hb,Result.andThen,setBlock];intro No a5 g O;exact a5 es clock hb e0 (List.mem_of_getElem? T) g (by rw[<-Y];exact O);intro M val af;refine⟨es.modify j (fun ay=> {ay with key:=key,val:=val}),clock, ?_, ?_⟩;(have a2:es.findIdx? (fun e=>((e.born:Nat):Int)==((e0.born:Nat):Int))=some j:=by rw[findIdx_arr];exact findIdx_born a9 T);(have a6:es.modify j (fun e=> {e with val:=val})=es.modify j (fun ay=> {ay with key:=key,val:=val}):=by apply Array.ext';rw[Array.toList_modify,Array.toList_modify,modify_eq_set _ _ _ _ T,modify_eq_set _ _ _ _ T,<-ao]);simp[Instr.entryStore,MapKept.run_getObj_map af,asInt,asIntOf,goInt,a2,a6,MapKept.run_setObj_map _ af,Result.andThen,setBlock];intro u ag;have av:=L6 K F I w u G;simp[Instr.mapUpdate,run_underlying Z,MapKept.run_getObj_map ag,K.check u false I,av,ba,ao,K.stays u I,MapKept.run_setObj_map _ ag,Result.andThen,setBlock]
theorem DK (w:World)(q r:Nat):(w.drewN q).drewN r=w.drewN (r+q):=by first|rfl|(simp[World.drewN];try omega)
theorem NO (p b o n ag i k E m:Nat)(bs:List Nat)(w:World)(al:w.cell? ⟨p,0,none⟩=some (.slice (some ⟨b,o,none⟩) n ag))(T:Bytes w b o bs)(ae:bs.length=n)(ap:n<=3000)(aa:∀j,bs.getD j 0<256)(ak:i<k)(ai:E<m)(ao:k+m<=n)(r:Nat)(O:Hid (r=if bs.getD (i+E) 0=bs.getD (k+E) 0 then lcp bs i k m else 0)):Calls Tryz.prog 233 #[.pointer (some ⟨p,0,none⟩),.int .i64 (i:Int),.int .i64 (k:Int),.int .i64 (E:Int),.int .i64 (m:Int)] w fun e w'=>e=.returned (.int .i64 (r:Int))/\∃q,w'=w.drewN q:=by
 have aj:=Ab ae;have au:=Ab aa;have ac:=Ab T;have I:=T (i+E) om;have M:=T (k+E) om;clear T aa;rw[show o+(i+E)=o+(i+E) from rfl]at I;go_enter Tryz.func233,Tryz.ntmps233;go_wp2;by_cases F:bs.getD (i+E) 0=bs.getD (k+E) 0
 . rw[if_pos F]at O;(have G:(((bs.getD (i+E) 0:Nat):Int)!=((bs.getD (k+E) 0:Nat):Int))=false:=by rw[F];simp);clear F;generalize bs.getD (i+E) 0=x at*;generalize bs.getD (k+E) 0=y at*;go_quiet (fail);clear I M G;go_wp2;go_loopw [11] (fun s wr=>∃j q:Nat,j<=m/\s=.int .i64 (j:Int)/\(∀H,H<j->bs.getD (i+H) 0=bs.getD (k+H) 0)/\wr=w.drewN q) (fun s _=>m-(intOf s).toNat);case atStart=>exact⟨0,nq,VH _,rfl,fun H h=>om,rfl⟩
   case round=>
    obtain⟨j,q,af,rfl,Z,rfl⟩:=hrel;have U:=Ab Z;clear Z;by_cases ar:j<m
    . have ah:decide ((j:Int)<(m:Int))=true:=decide_eq_true om;have I:=(Aa ac) (i+j) om;have M:=(Aa ac) (k+j) om;by_cases F:bs.getD (i+j) 0=bs.getD (k+j) 0
      . have Y:=Ab F;(have G:(((bs.getD (i+j) 0:Nat):Int)==((bs.getD (k+j) 0:Nat):Int))=true:=by rw[F];simp);clear F;generalize bs.getD (i+j) 0=x at I M G;generalize bs.getD (k+j) 0=y at I M G;go_wp2;go_quiet (fail);go_wp2;go_roundw
        case rel=>exact⟨j+1,_,om,by go_num,fun H h=>by
         by_cases c:H=j
         . subst c;exact Aa Y
         . exact Aa U H om,rfl⟩
        case measure=>simp[intOf];omega
      . have Y:=Ab F;(have G:(((bs.getD (i+j) 0:Nat):Int)==((bs.getD (k+j) 0:Nat):Int))=false:=by rw[beq_eq_false_iff_ne];omega);clear F;generalize bs.getD (i+j) 0=x at I M G;generalize bs.getD (k+j) 0=y at I M G;go_wp2;go_quiet (fail);go_wp2;go_ret;exact⟨Dd (by rw[Aa O,Z2m af (Aa U) (.inr (Aa Y))]),_,DK w q nq⟩
    . obtain rfl:m=j:=om;have ah:decide ((m:Int)<(m:Int))=false:=decide_eq_false om;go_wp2;go_quiet (fail);go_wp2;go_ret;exact⟨Dd (by rw[Aa O,Z2m (VB _) (Aa U) (.inl rfl)]),_,DK w q nq⟩
 . rw[if_neg F]at O;(have G:(((bs.getD (i+E) 0:Nat):Int)!=((bs.getD (k+E) 0:Nat):Int))=true:=by rw[bne_iff_ne];omega);clear F;generalize bs.getD (i+E) 0=x at*;generalize bs.getD (k+E) 0=y at*;obtain rfl:=Aa O;go_quiet (fail);go_wp2;go_ret;exact⟨rfl,nq,rfl⟩
end Go.Proofs.YtleocpdblhbimaaGreatDoor
