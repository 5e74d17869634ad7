import Derived.Test.YtleocpdblhbimaaGreatDoorQ12
import Derived.Shelf.Sort.Plain
import Derived.Shelf.Slices.In.SortNone2
import Derived.Sort.OwnSorted
set_option linter.unusedVariables false
set_option linter.unusedSimpArgs false
set_option maxRecDepth 100000
set_option maxHeartbeats 8000000
namespace Go.Proofs.YtleocpdblhbimaaGreatDoor
open Go.Value renaming int->so,slice->va,string->vb,pointer->vc,tuple->vd,bool->ve,agg->vf
open Go.IntKind renaming i64->vh
open Go.Obj renaming cells->vl
open Go.Ending renaming returned->vm
open Option renaming none->vn,some->vp
open Bool renaming false->vq,true->vr
open Go renaming World->wd,Value->vt,Calls->vu,Addr->vw
open Go.RowKit renaming Below->vx,intOf->vy,Hid->vz
open Go.Proofs.Tryz renaming prog->v8
section
open Go.RowKit Go.Proofs.Tryz
variable{x y z:Fv}{out:List Fv}{G N aa ac ai b c d m n o:Nat}{a ah ap:Option Addr}{v v':Value}{w w' wr:World}
theorem Ug(x:Int)(w:wd):vu v8 168 #[so vh x] w λe w'=>e=vm (ve vq)/\w'=w:=by have h:(x !=x)=false:=oS;exact yK
theorem Z0r(x:ByteArray)(w:wd):vu v8 167 #[vb x] w λe w'=>e=vm (ve vq)/\w'=w:=by have h:(x.toList==x.toList)=true:=oS;go_enter func167,ntmps167;go_wp2;go_ret;exact⟨rfl,rfl⟩
theorem Za6(x y:Int)(w:wd):vu v8 130 #[so vh x,so vh y] w λe w'=>e=vm (so vh (Kq x y))/\w'=w:=by unfold Kq;rcases Int.lt_trichotomy x y with h|h|h;rw[A1 h];exact xD;subst h;rw[A0 om,A0 om];exact xD;rw[A0 om,A1 h];have E:¬x<y:=om;exact xD
theorem Za5(x y:List UInt8)(w:wd):vu v8 129 #[vb (B x),vb (B y)] w λe w'=>e=vm (so vh (Dy x y))/\w'=w:=by
 (have E:Op.bytesLess (B x).toList (B y).toList=decide (Dy x y<0):=by rw[Ea,Ea,D8]);(have F:((B x).toList==(B y).toList)=decide (Dy x y=0):=by rw[Ea,Ea,XU,Lq,V7,BL]);rcases Bu x y with h|h|h
 all_goals (
  rw[h]at E F ⊢
  simp only[Int.reduceLT,Int.reduceEq,Int.reduceNeg,decide_true,kb0]at E F
  clear h
  generalize B x=s at*
  generalize B y=t at*
  go_enter func129,ntmps129
  go_wp2_with (go_at_call 167;refine(Z0r _ _).mono ?_;rintro e w' ⟨rfl,rfl⟩)
  go_ret
  exact⟨rfl,rfl⟩)
theorem Z5w(x y:Bool)(w:wd):vu v8 131 #[ve x,ve y] w λe w'=>e=vm (so vh (Zau x y))/\w'=w:=by
 cases x<;>cases y
 all_goals (
  go_enter func131,ntmps131
  go_wp2
  go_ret
  exact⟨rfl,rfl⟩)
theorem Z2a{x y:List UInt8}(h:BsIn w a c x)(E:BsIn w ah ac y):vu v8 132 #[va a x.length c,va ah y.length ac] w λe w'=>e=vm (so vh (Dy x y))/\w'=w:=by have F:=Ze h;have e2:=Ze E;(have e3:(Extern.BytealgCompare.compare #[va a x.length c,va ah y.length ac]).run v8 w=.ok (so vh (Dy x y)) w:=by change Sem.run v8 (do pure (goInt (Extern.BytealgCompare.cmp (<- Extern.Bytes.bytesOf (va a x.length c)) (<- Extern.Bytes.bytesOf (va ah y.length ac))))) w=_;simp only[P0,F,e2,TO,Result.andThen];rw[Lib.cmp_eq];rfl);clear h E F e2;go_enter func132,ntmps132;go_wp2;rw[aB func169 oR oR oR (e:=Extern.BytealgCompare.compare) oR,e3];simp only[Result.andThen];rw[kbt];go_wp2;go_ret;exact⟨rfl,rfl⟩
theorem Z05(x y:Fv)(w:wd):vu v8 103 #[x.val,y.val] w λe w'=>e=vm (so vh (Dy x.f.name y.f.name))/\w'=(w.alloc (vl x.cells.toArray 30)).alloc (vl y.cells.toArray 30):=by have hc:=Za5 x.f.name y.f.name;rw[Db,Db];unfold Fv.cells Fv.sl;obtain⟨⟨nm,bs,st,nd,gn⟩,a,c⟩:=x;obtain⟨⟨F,E,st2,O,I⟩,a2,c2⟩:=y;simp only at*;generalize B nm=t at*;generalize B F=H at*;generalize bs.length=n at*;generalize E.length=n2 at*;have G:=Ab hc;clear hc;go_enter func103,ntmps103;go_wp2_with (go_at_call 129;refine(G _).mono ?_;rintro e w' ⟨rfl,rfl⟩);go_ret;exact⟨rfl,rfl⟩
theorem Za(h:FvIn w x):vu v8 105 #[x.val] w λe w'=>∃a c,e=vm (Fv.val ⟨x.f,a,c⟩)/\FvIn w' ⟨x.f,a,c⟩/\vx w.heap.size w w'/\∀b o,a=vp ⟨b,o,vn⟩->w.heap.size<=b/\b<w'.heap.size:=by rw[Db];obtain⟨⟨nm,bs,st,nd,gn⟩,a,c⟩:=x;simp only at*;have aa:=h.bs;have ae:=h.big;have af:=h.txt;clear h;simp only at aa ae af;have al:=Ab (((aa.below ((A2 w.heap.size w).alloc (VA _) (vl #[vb (B nm),va a bs.length c,so vh st,so vh nd,ve gn] 30)) (VA _))).below ((A2 (w.heap.size+1) _).alloc oS (vl #[vb ⟨#[]⟩,va vn 0 0,so vh 0,so vh 0,ve vq] 30)) oS);have ao:∀W:wd,W.ownsRow W.heap.size 5 1 (va vn 0 0) 0 (KL []):=λW=>HM _ _ _ _;have a4:=Ab af;obtain⟨n,hn⟩:=exq (bs.length);have ac:=Ab hn;have ag:=Ab (λa c=>Db ⟨⟨nm,bs,st,nd,gn⟩,a,c⟩);simp only at ag;rw[hn]at ae ag al ⊢;clear aa hn af;generalize B nm=t at*;go_enter func105,ntmps105;go_wp2_with (at_builtin;refine Qq _ rfl _ _ rfl _ (va vn 0 0) 0 [] rfl (ao _) a n c bs rfl ac al om (VA _) ?_);intro v' E ai ah;obtain⟨G,H,ak,aj,Z⟩:=BsIn.own ai;rw[show bs.length=n from Aa ac]at ak;subst ak;have O:((w.alloc (vl #[vb t,va a n c,so vh st,so vh nd,ve gn] 30)).alloc (vl #[vb ⟨#[]⟩,va vn 0 0,so vh 0,so vh 0,ve vq] 30)).grownBy E none:=Aa ah;have av:=O.size;simp only[CL]at av;(have I:E.heap[w.heap.size]? =vp (vl #[vb t,va a n c,so vh st,so vh nd,ve gn] 30 (0,0)):=by rw[O.block _ oO oS,EN _ _ _ oS,B2]);(have F:E.heap[w.heap.size+1]? =vp (vl #[vb ⟨#[]⟩,va vn 0 0,so vh 0,so vh 0,ve vq] 30 (0,0)):=by rw[O.block _ oS oS];have:=B2 (w.alloc (vl #[vb t,va a n c,so vh st,so vh nd,ve gn] 30)) (vl #[vb ⟨#[]⟩,va vn 0 0,so vh 0,so vh 0,ve vq] 30);simpa using this);have az:=Ab (((A2 w.heap.size w).alloc (VA _) (vl #[vb t,va a n c,so vh st,so vh nd,ve gn] 30)).alloc oS (vl #[vb ⟨#[]⟩,va vn 0 0,so vh 0,so vh 0,ve vq] 30));have aw:=Ab (az.grown O oO (λk e=>by cases e));have a6:E.cell? ⟨w.heap.size,0,vn⟩=vp (vb t):=Ac I;have a9:E.cell? ⟨w.heap.size,1,vn⟩=vp (va a n c):=Ac I;have bd:E.cell? ⟨w.heap.size,2,vn⟩=vp (so vh st):=Ac I;have ba:E.cell? ⟨w.heap.size,3,vn⟩=vp (so vh nd):=Ac I;have bc:E.cell? ⟨w.heap.size,4,vn⟩=vp (ve gn):=Ac I;have r0:E.cell? ⟨w.heap.size+1,0,vn⟩=vp (vb ⟨#[]⟩):=Ac F;have r1:E.cell? ⟨w.heap.size+1,1,vn⟩=vp (va vn 0 0):=Ac F;have r2:E.cell? ⟨w.heap.size+1,2,vn⟩=vp (so vh 0):=Ac F;have a5:E.cell? ⟨w.heap.size+1,3,vn⟩=vp (so vh 0):=Ac F;have a7:E.cell? ⟨w.heap.size+1,4,vn⟩=vp (ve vq):=Ac F;have f1:=B1 E w.heap.size 1 _ _ I;have a8:=B1 E (w.heap.size+1) 0 _ _ F;have g1:=B1 E (w.heap.size+1) 1 _ _ F;have g2:=B1 E (w.heap.size+1) 2 _ _ F;have g3:=B1 E (w.heap.size+1) 3 _ _ F;have bb:=B1 E (w.heap.size+1) 4 _ _ F;have k1:=Ad E w.heap.size 1 (va G n H);obtain⟨p1,U⟩:=Zdv (E.setCell ⟨w.heap.size,1,vn⟩ (va G n H)) (w.heap.size+1) 30 _ _ _ _ _ (vb t) (va G n H) (so vh st) (so vh nd) (ve gn) ((k1.block _ om oS).trans F);have au:=k1.size;have ax:=U.size;obtain⟨ay,ar,a3⟩:=Bq p1 ((aw.grown k1 om (λk e=>by cases e;exact VA _)).grown U om (λk e=>by cases e;omega)) ((aj.grown k1 (λb o e=>by have:=Z b o e;simp;omega)).grown U (λb o e=>by have:=Z b o e;simp;omega));(have ap:vz (∀b o,G=vp ⟨b,o,vn⟩->w.heap.size<=b/\b<((((((E.setCell ⟨w.heap.size,1,vn⟩ (va G n H)).setCell ⟨w.heap.size+1,0,vn⟩ (vb t)).setCell ⟨w.heap.size+1,1,vn⟩ (va G n H)).setCell ⟨w.heap.size+1,2,vn⟩ (so vh st)).setCell ⟨w.heap.size+1,3,vn⟩ (so vh nd)).setCell ⟨w.heap.size+1,4,vn⟩ (ve gn)).heap.size):=λb o e=>by have:=Z b o e;omega);clear I F aj Z ah O ai k1 p1 U au ax;go_wp2;refine E1 (v:=vf #[vb t,va G n H,so vh st,so vh nd,ve gn]) ?_ rfl ⟨G,H,by rw[Aa ag],⟨a3,by rw[Aa ac];exact ae,a4⟩,ar,ap⟩;exact MS rfl _ _ _ _ _ _ _ rfl ay underlying30 rfl oR
theorem IX(w:wd)(F E:Obj):vx w.heap.size w ((w.alloc F).alloc E).drew:=Ae (((A2 _ w).alloc (VA _) F).alloc oS E) 1
theorem D4(w:wd)(G F E:Obj):vx w.heap.size w (((w.alloc G).alloc F).alloc E).drew:=Ae ((((A2 _ w).alloc (VA _) G).alloc oS F).alloc oO E) 1
theorem Z57(w:wd)(G F E:Obj)(O I H U:vt):vx w.heap.size w (((w.alloc G).alloc F).alloc E).drew:=Ae ((((A2 _ w).alloc (VA _) G).alloc oS F).alloc oO E) 1
theorem Zde(a b c d:Int)(W:wd):(Instr.index 199 (vf #[so vh a,so vh b,so vh c,so vh d]) (so vh 0)).run v8 W=.ok (so vh a) W:=oR
theorem Zdd(a b c d:Int)(W:wd):(Instr.index 199 (vf #[so vh a,so vh b,so vh c,so vh d]) (so vh 1)).run v8 W=.ok (so vh b) W:=oR
theorem Zdc(a b c d:Int)(W:wd):(Instr.index 199 (vf #[so vh a,so vh b,so vh c,so vh d]) (so vh 2)).run v8 W=.ok (so vh c) W:=oR
theorem Zdb(a b c d:Int)(W:wd):(Instr.index 199 (vf #[so vh a,so vh b,so vh c,so vh d]) (so vh 3)).run v8 W=.ok (so vh d) W:=oR
theorem Z98{a b:Int}(h:a≠0):nz a b=a:=by unfold nz;rw[A1 h]
theorem Dk{b:Int}:nz 0 b=b:=by unfold nz;rw[A0 od]
theorem Zcr{a:Int}(h:a≠0):(a !=0)=true:=by rw[HV];exact h
theorem Z04(ah:FvIn w x)(af:FvIn w y):vu v8 104 #[x.val,y.val] w λe w'=>e=vm (so vh (RB x.f y.f))/\vx w.heap.size w w':=by
 have hb:∀W,vx w.heap.size w W->vu v8 132 #[va x.a x.f.bytes.length x.c,va y.a y.f.bytes.length y.c] W λe w'=>e=vm (so vh (Dy x.f.bytes y.f.bytes))/\w'=W:=
  λW ac=>Z2a (ah.bs.below ac (VA _)) (af.bs.below ac (VA _))
 have H:=fR;rw[Db,Db,H];clear ah af H;obtain⟨⟨nm,bs,st,nd,gn⟩,a,c⟩:=x;obtain⟨⟨ai,I,st2,ae,G⟩,a2,c2⟩:=y;simp only at*;generalize B nm=t at*;generalize B ai=aj at*;generalize bs.length=n at*;generalize I.length=n2 at*;have ag:=Z5w gn G;generalize Zau gn G=E at*;generalize Dy bs I=F at*;have Z:=Ab ag;have aa:=Ab hb;clear ag hb;go_enter func104,ntmps104;go_wp2
 go_region_held3 (λW=>vx w.heap.size w W/\W.cell? ⟨w.heap.size,1,vn⟩=vp (va a n c)/\W.cell? ⟨w.heap.size,2,vn⟩=vp (so vh st)/\W.cell? ⟨w.heap.size,3,vn⟩=vp (so vh nd)/\W.cell? ⟨w.heap.size,4,vn⟩=vp (ve gn)/\W.cell? ⟨w.heap.size+1,1,vn⟩=vp (va a2 n2 c2)/\W.cell? ⟨w.heap.size+1,2,vn⟩=vp (so vh st2)/\W.cell? ⟨w.heap.size+1,3,vn⟩=vp (so vh ae)/\W.cell? ⟨w.heap.size+1,4,vn⟩=vp (ve G)) (refine⟨?_,?_,?_,?_,?_,?_,?_,?_,?_⟩<;>first|exact IX _ _ _|exact D4 _ _ _ _|exact Z57 _ _ _ _ _ _ _ _|go_keep)
  (first|(go_at_call 130;refine(Za6 _ _ _).mono ?_;rintro e w' ⟨rfl,rfl⟩)|(go_at_call 131;refine(Z _).mono ?_;rintro e w' ⟨rfl,rfl⟩)|(go_at_call 132;refine(aa _ (by first|exact IX _ _ _|exact D4 _ _ _ _)).mono ?_;rintro e w' ⟨rfl,rfl⟩))
 all_goals (
  generalize U:Kq st st2=k1
  generalize O:Kq nd ae=k2
  have ob:=Ab U
  have mz:=Ab O
  clear U O
  have al:=Zde k1 k2 E F
  have ar:=Zdd k1 k2 E F
  have ak:=Zdc k1 k2 E F
  have ao:=Zdb k1 k2 E F
  clear Z aa
  go_wp2
  go_loopw [7,30] (λ_ i wr=>vz (vx w.heap.size w wr)/\((i=so vh 0)\/ (i=so vh 1/\k1=0)\/ (i=so vh 2/\k1=0/\k2=0)\/ (i=so vh 3/\k1=0/\k2=0/\E=0)\/ (i=so vh 4/\k1=0/\k2=0/\E=0/\F=0))) (λ_ i _=>4-(vy i).toNat)
  . exact⟨D4 _ _ _ _,.inl rfl⟩
  obtain⟨ap,rfl|⟨rfl,rfl⟩|⟨rfl,rfl,rfl⟩|⟨rfl,rfl,rfl,rfl⟩|⟨rfl,rfl,rfl,rfl,rfl⟩⟩:=hrel
  . by_cases h:k1=0
    . subst h
      go_wp2
      exact vD
    . have hb:=Zcr h
      go_wp2
      go_ret
      exact⟨Bm (by rw[Aa ob,Z98 h]),ap⟩
  . by_cases h:k2=0
    . subst h
      go_wp2
      exact vD
    . have hb:=Zcr h
      go_wp2
      go_ret
      exact⟨Bm (by rw[Aa ob,Aa mz,Dk,Z98 h]),ap⟩
  . by_cases h:E=0
    . subst h
      go_wp2
      exact vD
    . have hb:=Zcr h
      go_wp2
      go_ret
      exact⟨Bm (by rw[Aa ob,Aa mz,Dk,Dk,Z98 h]),ap⟩
  . by_cases h:F=0
    . subst h
      go_wp2
      exact vD
    . have hb:=Zcr h
      go_wp2
      go_ret
      exact⟨Bm qAQ,ap⟩
  . go_wp2
    go_ret
    exact⟨Bm qAQ,ap⟩)
theorem Zc4(a b:Option vw)(n m c d:Nat)(W:wd):(Instr.index 170 (vf #[va a n c,va b m d]) (so vh 0)).run v8 W=.ok (va a n c) W:=oR
theorem Zc3(a b:Option vw)(n m c d:Nat)(W:wd):(Instr.index 170 (vf #[va a n c,va b m d]) (so vh 1)).run v8 W=.ok (va b m d) W:=oR
def G3(a b:List Fl):Nat:=if errM a≠0 then errM a else errM b
theorem Z66{a b:List Fl}(h:errM a≠0):G3 a b=errM a:=by unfold G3;rw[A1 h]
theorem Z65{a b:List Fl}(h:errM a=0):G3 a b=errM b:=by unfold G3;rw[A0 (by simp[h])]
theorem Uv{a b:List Fl}:G3 a b=0↔errM a=0/\errM b=0:=by unfold G3;split;(. rename_i h;simp[h]);. rename_i h;simp at h;simp[h]
theorem J1{xs ys:List Fv}(h:FsIn w ah c xs)(k:FsIn w ap d ys)(ag:xs.length=n)(ai:ys.length=m):vu v8 68 #[va ah n c,va ap m d] w λe w'=>e=vm (so vh (G3 (fls xs) (fls ys):Nat))/\vx w.heap.size w w':=by have af:=Ab (λW (U:vx w.heap.size w W)=>Jf (h.below U (VA _)) n ag);have ac:=Ab (λW (U:vx w.heap.size w W)=>Jf (k.below U (VA _)) m ai);have al:=Zc4 ah ap n m c d;have ao:=Zc3 ah ap n m c d;have e0:= @Z66 (fls xs) (fls ys);have aa:= @Z65 (fls xs) (fls ys);obtain⟨E,ae⟩:=exq (G3 (fls xs) (fls ys));rw[ae]at e0 aa ⊢;generalize errM (fls xs)=x at*;generalize errM (fls ys)=y at*;clear h k ag ai ae;have ak:=Ab e0;have aj:=Ab aa;clear e0 aa;go_enter func68,ntmps68;go_wp2;go_loopw [6,7,11] (λ_ _ i wr=>vz (vx w.heap.size w wr)/\((i=so vh 0)\/ (i=so vh 1/\x=0)\/ (i=so vh 2/\x=0/\y=0))) (λ_ _ i _=>2-(vy i).toNat);exact⟨A2 _ _,.inl rfl⟩;obtain⟨F,rfl|⟨rfl,rfl⟩|⟨rfl,rfl,rfl⟩⟩:=hrel;(. by_cases I:x=0;(. subst I;go_wp2_with (go_at_call 34;refine(af _ F).mono ?_;rintro e O ⟨rfl,G⟩;have H:=Ab (F.trans (G.mono F.size));clear G);go_roundw;exact⟨H,oS⟩;simp[vy]);. go_wp2_with (go_at_call 34;refine(af _ F).mono ?_;rintro e O ⟨rfl,G⟩;have H:=Ab (F.trans (G.mono F.size));clear G);go_ret;exact⟨Bm (by rw[Aa ak I]),H⟩);(. have Z:=Aa aj rfl;subst Z;by_cases I:E=0;(. subst I;go_wp2_with (go_at_call 34;refine(ac _ F).mono ?_;rintro e O ⟨rfl,G⟩;have H:=Ab (F.trans (G.mono F.size));clear G);go_roundw;exact⟨H,oS⟩;simp[vy]);. go_wp2_with (go_at_call 34;refine(ac _ F).mono ?_;rintro e O ⟨rfl,G⟩;have H:=Ab (F.trans (G.mono F.size));clear G);go_ret;exact⟨rfl,H⟩);. have Z:=Aa aj rfl;subst Z;go_wp2;go_ret;exact⟨rfl,F⟩
def Zb5:vt->Nat
 | .slice _ n _=>n
 |_=>0
structure SS(w:wd)(T:List Fl)(N:Nat)(A C:Option vw×Nat)(pa pb:List Fv)(v:vt)(out:List Fv)(wr:wd):Prop where
 fa:FsIn w A.1 A.2 pa
 fb:FsIn w C.1 C.2 pb
 row:FRow wr w.heap.size v out
 bel:vx w.heap.size w wr
 all:fls out++tog (fls pa) (fls pb)=T
 cnt:out.length+pa.length+pb.length<=N
theorem SS.lt{T:List Fl}{C:Option vw×Nat}{E F:List Fv}(h:SS w T N (vp ⟨b,o,vn⟩,ac) C (x::E) (y::F) v out wr)(I:Dy x.f.name y.f.name<0)(ak:z.f=x.f)(G:FRow w' w.heap.size v' (out++ [z]))(H:vx w.heap.size w w'):SS w T N (vp (UX b o ac),ac-1) C E (y::F) v' (out++ [z]) w':=by have bo:=h.all;have hn:=h.cnt;simp only[fls,WN]at bo;rw[O2 I]at bo;refine⟨h.fa.tail,h.fb,G,H,?_,?_⟩;exact yX;exact yN
theorem SS.gt{T:List Fl}{A:Option vw×Nat}{E F:List Fv}(h:SS w T N A (vp ⟨b,o,vn⟩,ac) (x::E) (y::F) v out wr)(I:0<Dy x.f.name y.f.name)(ak:z.f=y.f)(G:FRow w' w.heap.size v' (out++ [z]))(H:vx w.heap.size w w'):SS w T N A (vp (UX b o ac),ac-1) (x::E) F v' (out++ [z]) w':=by have bo:=h.all;have hn:=h.cnt;simp only[fls,WN]at bo;rw[GS I]at bo;refine⟨h.fa,h.fb.tail,G,H,?_,?_⟩;exact yX;exact yN
theorem SS.eq{T:List Fl}{F E:List Fv}(h:SS w T N (vp ⟨b,o,vn⟩,ac) (vp ⟨aa,ai,vn⟩,G) (x::F) (y::E) v out wr)(O:Dy x.f.name y.f.name=0)(ak:z.f=Nj x.f y.f)(H:FRow w' w.heap.size v' (out++ [z]))(I:vx w.heap.size w w'):SS w T N (vp (UX b o ac),ac-1) (vp (UX aa ai G),G-1) F E v' (out++ [z]) w':=by have bo:=h.all;have hn:=h.cnt;simp only[fls,WN]at bo;rw[GT O]at bo;refine⟨h.fa.tail,h.fb.tail,H,I,?_,?_⟩;exact yX;exact yN
theorem O1{xs ys:List Fv}(h:FsIn w ah c xs)(k:FsIn w ap d ys)(dm:xs.length=n)(cy:ys.length=m)(h1:n+m<=1000):vu v8 69 #[va ah n c,va ap m d] w λe w'=>∃v out,e=vm v/\FRow w' w.heap.size v out/\fls out=tog (fls xs) (fls ys)/\vx w.heap.size w w':=by
 obtain⟨T,af⟩:=exq (tog (fls xs) (fls ys));rw[af];obtain⟨f7,gq,fo⟩:=Bq (SS.mk (T:=T) (N:=n+m) (A:=(ah,c)) (C:=(ap,d)) h k (FRow.nil w w.heap.size) (A2 _ _) (by simpa using af) (by simp[dm,cy])) dm cy;clear h k af dm cy;go_enter func69,ntmps69;go_wp2;go_loopw [0,1,5,6,7] (λco ck a3 _ _ wr=>∃A C pa pb out,co=va A.1 pa.length A.2/\ck=va C.1 pb.length C.2/\vz (SS w T (n+m) A C pa pb a3 out wr)) (λco ck _ _ _ _=>Zb5 co+Zb5 ck);exact⟨(ah,c),(ap,d),xs,ys,[],by rw[Aa gq],by rw[Aa fo],f7⟩;obtain⟨⟨A,da⟩,⟨C,dh⟩,pa,pb,out,rfl,rfl,O⟩:=hrel;simp only at*;by_cases a5:pa= []\/pb= []
 . (have e4:fls out++(fls pa++fls pb)=T:=by have e8:=O.all;rcases a5 with rfl|rfl;simpa[fls,Jv]using e8;simpa[fls,Ky]using e8);have dj:=Ab O.fa;have df:=Ab O.fb;have ci:=O.cnt;have cd:=Ab (And.intro O.row (And.intro O.bel (by omega:out.length+pa.length+pb.length<=1000)));have gj:=Ab e4;(have dz:pa.length=0\/ (0<pa.length/\pb.length=0):=by rcases a5 with rfl|rfl;exact .inl rfl;rcases Nat.eq_zero_or_pos pa.length with h|h;exact .inl h;exact .inr ⟨h,rfl⟩);simp only at dj df;clear a5 e4 O;have f6:=Zc4 A C pa.length pb.length da dh;have gv:=Zc3 A C pa.length pb.length da dh;have si:=Ab (λ(z:Fv) (W:wd) (h:FvIn W z)=>Za h);have eo:vz (∃aj,pa.length=aj):=⟨_,rfl⟩;obtain⟨aj,b4⟩:=Aa eo;obtain⟨aa,ax⟩:=exq (pb.length);have a6:=Ab b4;have a8:=Ab ax;rw[b4,ax]at f6 gv dz ci cd;rw[b4,ax];clear b4 ax eo;have f3:(¬(0<aj)/\¬((0:Int)<aj))\/ ((0<aj/\(0:Int)<aj)/\(¬(0<aa)/\¬((0:Int)<aa))):=om;clear dz;rcases f3 with ⟨ei,e6⟩|⟨⟨ei,e6⟩,f8,ft⟩
   all_goals (
    go_wp2
    clear ei e6
    try clear f8 ft
    go_loopw [5,9,11,65] (λa3 _ _ i wr=>∃U,vz (FRow wr w.heap.size a3 U/\vx w.heap.size w wr)/\((i=so vh 0/\vz (fls U++(fls pa++fls pb)=T/\U.length+pa.length+pb.length<=1000))\/ (i=so vh 1/\vz (fls U++fls pb=T/\U.length+pb.length<=1000))\/ (i=so vh 2/\vz (fls U=T)))) (λ_ _ _ i _=>2-(vy i).toNat)
    . exact⟨out,⟨cd.1,cd.2.1⟩,.inl ⟨rfl,gj,by rw[Aa a6,Aa a8];exact cd.2.2⟩⟩
    obtain⟨U,a4,⟨rfl,ay⟩|⟨rfl,ay⟩|⟨rfl,ay⟩⟩:=hrel
    . have cj:=Ab ay.2
      go_wp2
      go_loopw [5,11,70] (λa3 _ j bg=>∃(k:Nat) (o2:List Fv),k<=aj/\j=so vh k/\vz (FRow bg w.heap.size a3 o2/\vx w.heap.size w bg/\fls o2=fls U++(fls pa).take k/\o2.length=U.length+k)) (λ_ _ j _=>aj-(vy j).toNat)
      . exact⟨0,U,VF _,rfl,a4.1,a4.2,oS,rfl⟩
      obtain⟨k,o2,fy,rfl,bm⟩:=hrel
      by_cases a9:k<aj
      . obtain⟨z,ak,i9⟩:=Lm (xs:=pa) (k:=k) (by rw[Aa a6];exact a9)
        obtain⟨ai,av,cg,b0⟩:=Aa bm
        obtain⟨b,o,c9,hb,c0,c1,c2,b8,ce⟩:=dj.get av ak
        have ed:=av.size
        have lg:=(dj.all z i9).below av (VA _)
        obtain⟨i5,j7,kh⟩:=fE
        have Z:fls o2++ [z.f]=fls U++(fls pa).take (k+1):=by
         have cp:(fls pa)[k]? =vp z.f:=by simp[fls,ak]
         have gu:k<(fls pa).length:=by simp[fls];rw[Aa a6];exact a9
         rw[cg,XD,cp]
         simp
        have k4:=Ab Z
        clear Z
        have jm:=cG
        rw[Db,jm]at i5
        rw[jm]at j7 kh
        have js:=nI
        rw[js]at c1
        have fg:=bV
        have cq:=Aa cj
        have rc:=b0
        rw[Aa a6]at cq
        exact qF
      . obtain rfl:aj=k:=om
        have dl:vz (fls o2++fls pb=T/\o2.length+pb.length<=1000):=by
         have cg:=bm.2.2.1
         have b0:=bm.2.2.2
         have b7:=Aa ay
         rw[VQ (by simp[fls];rw[Aa a6];exact VA _)]at cg
         exact⟨by rw[cg,VO];exact b7.1,by have:=b7.2;rw[Aa a6]at this;omega⟩
        go_wp2
        go_roundw
        . exact⟨o2,⟨bm.1,bm.2.1⟩,.inr (.inl ⟨rfl,dl⟩)⟩
        simp[vy]
    . have cj:=Ab ay.2
      go_wp2
      go_loopw [5,11,70] (λa3 _ j bg=>∃(k:Nat) (o2:List Fv),k<=aa/\j=so vh k/\vz (FRow bg w.heap.size a3 o2/\vx w.heap.size w bg/\fls o2=fls U++(fls pb).take k/\o2.length=U.length+k)) (λ_ _ j _=>aa-(vy j).toNat)
      . exact⟨0,U,VF _,rfl,a4.1,a4.2,oS,rfl⟩
      obtain⟨k,o2,fy,rfl,bm⟩:=hrel
      by_cases a9:k<aa
      . obtain⟨z,ak,i9⟩:=Lm (xs:=pb) (k:=k) (by rw[Aa a8];exact a9)
        obtain⟨ai,av,cg,b0⟩:=Aa bm
        obtain⟨b,o,c9,hb,c0,c1,c2,b8,ce⟩:=df.get av ak
        have ed:=av.size
        have lg:=(df.all z i9).below av (VA _)
        obtain⟨i5,j7,kh⟩:=fE
        have Z:fls o2++ [z.f]=fls U++(fls pb).take (k+1):=by
         have cp:(fls pb)[k]? =vp z.f:=by simp[fls,ak]
         have gu:k<(fls pb).length:=by simp[fls];rw[Aa a8];exact a9
         rw[cg,XD,cp]
         simp
        have k4:=Ab Z
        clear Z
        have jm:=cG
        rw[Db,jm]at i5
        rw[jm]at j7 kh
        have js:=nI
        rw[js]at c1
        have fg:=bV
        have cq:=Aa cj
        have rc:=b0
        rw[Aa a8]at cq
        exact qF
      . obtain rfl:aa=k:=om
        have dl:vz (fls o2=T):=by
         have cg:=bm.2.2.1
         have b0:=bm.2.2.2
         have b7:=Aa ay
         rw[VQ (by simp[fls];rw[Aa a8];exact VA _)]at cg
         rw[cg];exact b7.1
        go_wp2
        go_roundw
        . exact⟨o2,⟨bm.1,bm.2.1⟩,.inr (.inr ⟨rfl,dl⟩)⟩
        simp[vy]
    . go_wp2
      go_ret
      exact⟨_,U,rfl,a4.1,ay,a4.2⟩)
 . obtain⟨x,pa,rfl⟩:∃x f5,pa=x::f5:=by
    cases pa with
    |nil=>exact absurd (.inl rfl) a5
    |cons x p=>exact⟨x,p,rfl⟩
   obtain⟨y,pb,rfl⟩:∃y f4,pb=y::f4:=by
    cases pb with
    |nil=>exact absurd (.inr rfl) a5
    |cons y p=>exact⟨y,p,rfl⟩
   clear a5
   ·
    have af:=Aa O
    obtain⟨b,o,c9,hb,c0,c1,c2,b8,ce⟩:=af.fa.head af.bel
    obtain⟨F,G,e7,hs,d0,d1,ds,d5,en⟩:=af.fb.head af.bel
    simp only at c9 e7
    subst c9
    subst e7
    have ak:=af.bel.size
    have cw:FvIn w x:=af.fa.all x oS
    have de:FvIn w y:=af.fb.all y oS
    obtain⟨al,ao,g8,gi⟩:=Do (λW=>Z05 x y W) (λW (H:vx w.heap.size w W)=>Z04 (de.below H (VA _)) (cw.below H (VA _))) cw de
    rw[Db,Db]at al ao
    have fe:x.sl=va x.a x.f.bytes.length x.c:=rfl
    have eu:y.sl=va y.a y.f.bytes.length y.c:=rfl
    have bh:vz (x.cells.toArray= #[vb (B x.f.name),va x.a x.f.bytes.length x.c,so vh x.f.stamp,so vh x.f.node,ve x.f.gone]):=rfl
    have bj:vz (y.cells.toArray= #[vb (B y.f.name),va y.a y.f.bytes.length y.c,so vh y.f.stamp,so vh y.f.node,ve y.f.gone]):=rfl
    rw[Aa bh,Aa bj]at al
    rw[fe]at c1
    rw[eu]at d1
    obtain⟨ar,dr⟩:=exq (Dy x.f.name y.f.name)
    obtain⟨bu,cn⟩:=exq (RB y.f x.f)
    rw[dr]at al
    rw[cn]at ao
    have b9:=Ab dr
    have gh:=Ab cn
    clear af cw de fe eu dr cn
    obtain⟨t,dv⟩:=exq (B x.f.name)
    obtain⟨bi,e5⟩:=exq (B y.f.name)
    obtain⟨aa,ax⟩:=exq (x.f.bytes.length)
    obtain⟨bb,eh⟩:=exq (y.f.bytes.length)
    rw[dv]at al ao bh c0
    rw[e5]at al ao bj d0
    rw[ax]at al ao bh c1
    rw[eh]at al ao bj d1
    clear dv e5 ax eh
    generalize x.f.stamp=st at*
    generalize x.f.node=nd at*
    generalize x.f.gone=gn at*
    generalize y.f.stamp=st2 at*
    generalize y.f.node=bn at*
    generalize y.f.gone=bd at*
    have hv:(0:Int)<((pa.length+1:Nat):Int):=om
    have h2:(0:Int)<((pb.length+1:Nat):Int):=om
    simp only[VG]
    go_upto_region 3 with fail
    go_cut [6,7] (λfx fq wc=>∃g,fx=vc (vp ⟨g,0,vn⟩)/\fq=so vh ar/\vz (wc.heap[g]? =vp (vl #[vb t,va x.a aa x.c,so vh st,so vh nd,ve gn] 30 (0,0))/\wr.heap.size<=g/\vx wr.heap.size wr wc))
    . go_region_held3 (λW=>W.cell? ⟨b,o,vn⟩=vp (vb t)/\W.cell? ⟨b,o+1,vn⟩=vp (va x.a aa x.c)/\W.cell? ⟨b,o+2,vn⟩=vp (so vh st)/\W.cell? ⟨b,o+3,vn⟩=vp (so vh nd)/\W.cell? ⟨b,o+4,vn⟩=vp (ve gn)/\W.cell? ⟨F,G,vn⟩=vp (vb bi)/\W.cell? ⟨F,G+1,vn⟩=vp (va y.a bb y.c)/\W.cell? ⟨F,G+2,vn⟩=vp (so vh st2)/\W.cell? ⟨F,G+3,vn⟩=vp (so vh bn)/\W.cell? ⟨F,G+4,vn⟩=vp (ve bd)) (refine⟨?_,?_,?_,?_,?_,?_,?_,?_,?_,?_⟩<;>(repeat first|assumption|apply Zaa|apply Qc)) ((go_at_call 103;refine(al _).mono ?_;rintro e w' ⟨rfl,rfl⟩))
      all_goals go_wp2_with fail
      all_goals go_meet
      . exact⟨_,rfl,rfl,Zed wr _ _ _ _⟩
      . exact⟨_,rfl,rfl,Zee wr _ _ _ _⟩
    rename wd=>E
    obtain⟨g,rfl,rfl,bk⟩:=hcut
    obtain⟨z,d9⟩:∃z:Fv,z=(if 0<ar\/ (ar=0/\0<bu)then y else x):=⟨_,rfl⟩
    have bw:=Ab d9
    have fi:ar= -1\/ar=0\/ar=1:=by rw[<-Aa b9];exact Bu _ _
    have ed:=bk.2.2.size
    have ha:=bk.2.1
    have bc:b<wr.heap.size:=om
    have bo:F<wr.heap.size:=om
    have ag:=bk.2.2
    have eb:E.cell? ⟨b,o,vn⟩=vp (vb t):=(ag.cell (p:=⟨b,o,vn⟩) bc).trans c0
    have e9:E.cell? ⟨b,o+1,vn⟩=vp (va x.a aa x.c):=(ag.cell (p:=⟨b,o+1,vn⟩) bc).trans c1
    have ee:E.cell? ⟨b,o+2,vn⟩=vp (so vh st):=(ag.cell (p:=⟨b,o+2,vn⟩) bc).trans c2
    have fk:E.cell? ⟨b,o+3,vn⟩=vp (so vh nd):=(ag.cell (p:=⟨b,o+3,vn⟩) bc).trans b8
    have d8:E.cell? ⟨b,o+4,vn⟩=vp (ve gn):=(ag.cell (p:=⟨b,o+4,vn⟩) bc).trans ce
    have cm:E.cell? ⟨F,G,vn⟩=vp (vb bi):=(ag.cell (p:=⟨F,G,vn⟩) bo).trans d0
    have cz:E.cell? ⟨F,G+1,vn⟩=vp (va y.a bb y.c):=(ag.cell (p:=⟨F,G+1,vn⟩) bo).trans d1
    have c6:E.cell? ⟨F,G+2,vn⟩=vp (so vh st2):=(ag.cell (p:=⟨F,G+2,vn⟩) bo).trans ds
    have cu:E.cell? ⟨F,G+3,vn⟩=vp (so vh bn):=(ag.cell (p:=⟨F,G+3,vn⟩) bo).trans d5
    have dn:E.cell? ⟨F,G+4,vn⟩=vp (ve bd):=(ag.cell (p:=⟨F,G+4,vn⟩) bo).trans en
    clear c0 c1 c2 b8 ce d0 d1 ds d5 en ag d9
    obtain⟨az,ej⟩:∃az:Bool,az=decide (0<ar\/ (ar=0/\0<bu)):=⟨_,rfl⟩
    have bf:=Ab ej
    have gg:=Ab (O.bel.trans (bk.2.2.mono ak))
    clear ej
    go_upto_region 4 with fail
    go_cut [45] (λv bz=>v=ve az/\vz (vx E.heap.size E bz))
    . rcases fi with rfl|rfl|rfl
      . have jy:az=false:=bf.trans (H2 om)
        exact vO
      . have jy:az=decide (0<bu):=bf.trans (kbk.2 om)
        subst jy
        have a7:b<E.heap.size:=om
        have ac:F<E.heap.size:=om
        have hk:∀W:wd,vx E.heap.size E W->W.cell? ⟨b,o,vn⟩=vp (vb t):=λW H=>(H.cell (p:=⟨b,o,vn⟩) a7).trans eb
        have g9:∀W:wd,vx E.heap.size E W->W.cell? ⟨b,o+1,vn⟩=vp (va x.a aa x.c):=λW H=>(H.cell (p:=⟨b,o+1,vn⟩) a7).trans e9
        have hz:∀W:wd,vx E.heap.size E W->W.cell? ⟨b,o+2,vn⟩=vp (so vh st):=λW H=>(H.cell (p:=⟨b,o+2,vn⟩) a7).trans ee
        have ht:∀W:wd,vx E.heap.size E W->W.cell? ⟨b,o+3,vn⟩=vp (so vh nd):=λW H=>(H.cell (p:=⟨b,o+3,vn⟩) a7).trans fk
        have hh:∀W:wd,vx E.heap.size E W->W.cell? ⟨b,o+4,vn⟩=vp (ve gn):=λW H=>(H.cell (p:=⟨b,o+4,vn⟩) a7).trans d8
        have hw:∀W:wd,vx E.heap.size E W->W.cell? ⟨F,G,vn⟩=vp (vb bi):=λW H=>(H.cell (p:=⟨F,G,vn⟩) ac).trans cm
        have ho:∀W:wd,vx E.heap.size E W->W.cell? ⟨F,G+1,vn⟩=vp (va y.a bb y.c):=λW H=>(H.cell (p:=⟨F,G+1,vn⟩) ac).trans cz
        have hx:∀W:wd,vx E.heap.size E W->W.cell? ⟨F,G+2,vn⟩=vp (so vh st2):=λW H=>(H.cell (p:=⟨F,G+2,vn⟩) ac).trans c6
        have hg:∀W:wd,vx E.heap.size E W->W.cell? ⟨F,G+3,vn⟩=vp (so vh bn):=λW H=>(H.cell (p:=⟨F,G+3,vn⟩) ac).trans cu
        have hp:∀W:wd,vx E.heap.size E W->W.cell? ⟨F,G+4,vn⟩=vp (ve bd):=λW H=>(H.cell (p:=⟨F,G+4,vn⟩) ac).trans dn
        clear a7 ac
        go_wp2_with fail
        go_region_held3 (λW=>vx E.heap.size E W) (first|exact Co (A2 _ _)|exact iu) ((go_at_call 104;refine(ao _ (Co gg)).mono ?_;rintro e g7 ⟨rfl,ff⟩;have iu:vx E.heap.size E g7:=(Co (A2 _ _)).trans ff;clear ff))
        go_wp2_with fail
        go_meet
        exact⟨rfl,iu⟩
      . have jy:az=true:=bf.trans (H6 om)
        exact vO
    rename wd=>I
    obtain⟨rfl,f9⟩:=hcut
    have au:=Aa f9
    obtain⟨bv,fj,dq⟩:=Aa bk
    have dy:g<E.heap.size:=by
     rcases YN g E.heap.size with c8|c8
     . exact c8
     . rw[XY c8]at bv;cases bv
    have ae:I.heap[g]? =vp (vl #[vb t,va x.a aa x.c,so vh st,so vh nd,ve gn] 30 (0,0)):=(au.block g dy).trans bv
    have b5:vx wr.heap.size wr I:=dq.trans (au.mono dq.size)
    have et:=Ab ae
    have e1:=Ab b5
    have ac:F<E.heap.size:=om
    have gy:I.cell? ⟨F,G,vn⟩=vp (vb bi):=(au.cell (p:=⟨F,G,vn⟩) ac).trans cm
    have g0:I.cell? ⟨F,G+1,vn⟩=vp (va y.a bb y.c):=(au.cell (p:=⟨F,G+1,vn⟩) ac).trans cz
    have gx:I.cell? ⟨F,G+2,vn⟩=vp (so vh st2):=(au.cell (p:=⟨F,G+2,vn⟩) ac).trans c6
    have fp:I.cell? ⟨F,G+3,vn⟩=vp (so vh bn):=(au.cell (p:=⟨F,G+3,vn⟩) ac).trans cu
    have g4:I.cell? ⟨F,G+4,vn⟩=vp (ve bd):=(au.cell (p:=⟨F,G+4,vn⟩) ac).trans dn
    obtain⟨p1,dt⟩:=Zdv I g 30 _ _ _ _ _ (vb bi) (va y.a bb y.c) (so vh st2) (so vh bn) (ve bd) ae
    have eg:=Ab p1
    have em:=Ab (b5.grown dt b5.size (λk e=>by cases e;exact fj))
    have e0:I.cell? ⟨g,0,vn⟩=vp (vb t):=Ac ae
    have fu:I.cell? ⟨g,1,vn⟩=vp (va x.a aa x.c):=Ac ae
    have e2:I.cell? ⟨g,2,vn⟩=vp (so vh st):=Ac ae
    have e3:I.cell? ⟨g,3,vn⟩=vp (so vh nd):=Ac ae
    have gw:I.cell? ⟨g,4,vn⟩=vp (ve gn):=Ac ae
    have f0:=B1 I g 0 _ _ ae
    have f1:=B1 I g 1 _ _ ae
    have f2:=B1 I g 2 _ _ ae
    have g5:=B1 I g 3 _ _ ae
    have fw:=B1 I g 4 _ _ ae
    clear ae b5 au ac p1 dt bv fj dq dy eb e9 ee fk d8 cm cz c6 cu dn
    go_upto_if 45 with (fail)
    go_cut [] (λbz=>vz (bz.heap[g]? =vp (vl z.cells.toArray 30 (0,0))/\vx wr.heap.size wr bz))
    . cases az with
      |false=>
       have jy:z=x:=by rw[Aa bw,A0 (kbj (Aa bf).symm)]
       go_wp2_with fail
       go_meet
       rw[jy,Aa bh]
       exact⟨et,e1⟩
      |true=>
       have jy:z=y:=by rw[Aa bw,A1 (LN (Aa bf).symm)]
       go_wp2_with fail
       go_meet
       rw[jy,Aa bj]
       exact⟨eg,em⟩
    clear e0 fu e2 e3 gw f0 f1 f2 g5 fw gy g0 gx fp g4 eg em et e1
    obtain⟨aw,bq⟩:=Aa hcut
    have lg:FvIn w z:=by
     rw[Aa bw]
     split
     . exact gi
     . exact g8
    have cv:=O.bel.trans (bq.mono ak)
    have i5:=Ab (Za (lg.below cv (VA _)))
    have j7:=Ab (O.row.below bq)
    have js:=bq.size
    have kh:=Ab cv
    rw[Db]at i5
    have jm:=cG
    rw[jm]at aw
    obtain⟨c7,db⟩:=exq (B z.f.name)
    obtain⟨di,ct⟩:=exq (z.f.bytes.length)
    have fg:vz (∀a c,Fv.val ⟨z.f,a,c⟩=vf #[vb c7,va a di c,so vh z.f.stamp,so vh z.f.node,ve z.f.gone]/\Fv.cells ⟨z.f,a,c⟩= [vb c7,va a di c,so vh z.f.stamp,so vh z.f.node,ve z.f.gone]):=by
     intro a c
     rw[<-db,<-ct]
     exact⟨rfl,rfl⟩
    rw[db,ct]at aw i5
    have k4:=Ab (congrArg Fv.f (Aa bw))
    clear db ct jm lg cv bq hcut
    have hu:vz (∀v',v'=z->z.f=v'.f):=λv' e=>by rw[e]
    generalize z.f.stamp=d7 at*
    generalize z.f.node=d6 at*
    generalize z.f.gone=ek at*
    have r0:wc.cell? ⟨g,0,vn⟩=vp (vb c7):=Ac aw
    have r1:wc.cell? ⟨g,1,vn⟩=vp (va z.a di z.c):=Ac aw
    have r2:wc.cell? ⟨g,2,vn⟩=vp (so vh d7):=Ac aw
    have gd:wc.cell? ⟨g,3,vn⟩=vp (so vh d6):=Ac aw
    have gz:wc.cell? ⟨g,4,vn⟩=vp (ve ek):=Ac aw
    have ep:=SE b o pa.length da
    have ey:=SE F G pb.length dh
    have du:=O.fa.cap
    have dw:=O.fb.cap
    simp only[VG]at du dw
    have h0:=λW=>ep W du
    have hf:=λW=>ey W dw
    have ci:=O.cnt
    simp only[VG]at ci
    clear aw ep ey al ao bj bh
    go_wp2_with fail
    refine i5.mono ?_
    rintro e w6 ⟨dc,ew,rfl,oy,iu,nr⟩
    obtain⟨c5,nw⟩:=Aa fg dc ew
    rw[c5]
    have qj:=iu.size
    obtain⟨l6,jb,im⟩:=bS
    have mi:vz (∀b o,dc=vp ⟨b,o,vn⟩->vp b≠u5.ownBlock/\b<(w6.alloc (vl #[vb c7,va dc di ew,so vh d7,so vh d6,ve ek] 30)).heap.size):=jB
    have l8:vz (∀j u,(Fv.cells ⟨z.f,dc,ew⟩)[j]? =vp u->(w6.alloc (vl #[vb c7,va dc di ew,so vh d7,so vh d6,ve ek] 30)).cell? ⟨w6.heap.size,j,vn⟩=vp u):=wR
    clear c5 nw oy iu nr
    go_wp2_with (at_builtin;refine Ei _ rfl _ _ rfl w.heap.size _ out rfl l6 w6.heap.size ⟨z.f,dc,ew⟩ rfl l8 jb mi om oO ?_)
    intro v' rp mn m6
    have m4:=Ab (im.trans m6)
    have hq:=O
    clear l6 jb im mi l8 m6 i5 j7 kh r0 r1 r2 gd gz
    rcases fi with rfl|rfl|rfl
    . have Z:z.f=x.f:=by rw[Aa k4,A0 om]
      have ba:=Ab (O.lt (z:=⟨z.f,dc,ew⟩) (by rw[Aa b9];decide) Z mn m4)
      clear Z
      go_wp2
      go_roundw
      . exact⟨_,_,pa,y::pb,_,rfl,oS,ba⟩
      simp[Zb5]
    . have Z:z.f=Nj x.f y.f:=by
       rw[Aa k4]
       unfold Nj
       rw[Aa gh]
       by_cases fh:0<bu
       . rw[A1 om,A1 fh]
       . rw[A0 om,A0 fh]
      have ba:=Ab (O.eq (z:=⟨z.f,dc,ew⟩) (by rw[Aa b9]) Z mn m4)
      clear Z
      go_wp2
      go_roundw
      . exact⟨_,_,pa,pb,_,rfl,rfl,ba⟩
      simp[Zb5];omega
    . have Z:z.f=y.f:=by rw[Aa k4,A1 om]
      have ba:=Ab (O.gt (z:=⟨z.f,dc,ew⟩) (by rw[Aa b9];decide) Z mn m4)
      clear Z
      go_wp2
      go_roundw
      . exact⟨_,_,x::pa,pb,_,oS,rfl,ba⟩
      simp[Zb5]
def Cy(a b:List Fl):Nat:=if G3 a b≠0 then G3 a b else if 12<(tog a b).length then 11 else 0
def Ga(a b:List Fl):List Fl:=if Cy a b=0 then tog a b else []
theorem BR{a b:List Fl}(h:G3 a b≠0):Cy a b=G3 a b:=by unfold Cy;rw[A1 h]
theorem Qf{a b:List Fl}(h:G3 a b=0)(E:12<(tog a b).length):Cy a b=11:=by unfold Cy;rw[A0 (by simp[h]),A1 E]
theorem J7{a b:List Fl}(h:G3 a b=0)(E:¬12<(tog a b).length):Cy a b=0:=by unfold Cy;rw[A0 (by simp[h]),A0 E]
theorem BQ{a b:List Fl}(h:Cy a b≠0):Ga a b= []:=by unfold Ga;rw[A0 h]
theorem Sd{a b:List Fl}(h:Cy a b=0):Ga a b=tog a b:=by unfold Ga;rw[A1 h]
theorem Z6j{xs ys:List Fv}(h:FsIn w ah c xs)(k:FsIn w ap d ys)(n m:Nat)(aa:xs.length=n)(ac:ys.length=m):vu v8 48 #[va ah n c,va ap m d] w λe w'=>∃v,e=vm (vd #[v,so vh (Cy (fls xs) (fls ys):Nat)])/\T5 w w' v (Ga (fls xs) (fls ys)):=by have U:=Ab (J1 h k aa ac);by_cases G:G3 (fls xs) (fls ys)=0;(. have Z:=Uv.1 G;have av:=Rz Z.1;have ao:=Rz Z.2;simp only[fls,WP]at av ao;obtain⟨a9,ax,a5,a8,a6⟩:=HF (λ(W:wd) (al:vx w.heap.size w W)=>O1 (h.below al (VA _)) (k.below al (VA _)) aa ac om) (@Qf (fls xs) (fls ys) G) (@J7 (fls xs) (fls ys) G) (@BQ (fls xs) (fls ys)) (@Sd (fls xs) (fls ys));rw[G]at U;have a3:(tog (fls xs) (fls ys)).length<=1000\/True:=.inr trivial;clear h k aa ac G Z av ao a3;go_enter func48,ntmps48;go_wp2_with fail;refine U.mono ?_;rintro e ag ⟨rfl,I⟩;have H:=Ab I;clear I;go_wp2_with fail;refine(a9 ag H).mono ?_;rintro e ba ⟨v,out,rfl,af,ae,au⟩;(have a7:∃aj c2,v=va aj out.length c2:=by obtain⟨a,c,e⟩:=Am af.own;exact⟨a,c,e⟩);obtain⟨aj,c2,rfl⟩:=a7;obtain⟨a4,az,ar⟩:=Bq af ae (H.trans (au.mono H.size));(have ai:out.length=(tog (fls xs) (fls ys)).length:=by rw[<-ae];simp[fls]);have ak:=Ab ai;obtain⟨L,O⟩:=exq (out.length);have ay:=Ab O;rw[O];clear af ae au ai O;by_cases aw:12<L;(. go_wp2;go_ret2;have F:=Aa ax (by rw[<-Aa ak,Aa ay];exact aw);rw[Aa a8 (by rw[F];decide),F];exact⟨_,rfl,T5.nil ar⟩);. go_wp2;go_ret2;have F:=Aa a5 (by rw[<-Aa ak,Aa ay];exact aw);rw[Aa a6 F,F,<-Aa az,<-Aa ay];exact⟨_,rfl,T5.row a4 uF ar⟩);. have F:=BR G;have e2:=BQ (a:=fls xs) (b:=fls ys) (by rw[F];exact G);rw[F,e2];clear F e2 h k;generalize G3 (fls xs) (fls ys)=E at*;go_enter func48,ntmps48;go_wp2_with fail;refine U.mono ?_;rintro e ag ⟨rfl,I⟩;have H:=Ab I;clear I;go_wp2;go_ret2;exact⟨_,rfl,T5.nil H⟩
def Jj(l:List Fl):Prop:=∀(i j:Nat) (x y:Fl),l[i]? =vp x->l[j]? =vp y->i<j->Dy x.name y.name<0
def Bt(n:List UInt8)(l:List Fl):Option Fl:=l.find? λy=>y.name==n
theorem AZ:∀(l:List Fl) (p:Option Fl),K7 p l=0->(∀f∈l,Lg f=0)/\Jj l/\(∀x,p=vp x->∀f∈l,Dy x.name f.name<0)
 | [],p,_=>⟨λf H=>absurd H WS,λi j x y h=>by simp at h,λx _ f H=>absurd H WS⟩
 |f::r,p,h=>by
  rw[K7]at h;split at h;. rename_i ae;omega
  . rename_i ae;split at h;omega
    . rename_i ac;obtain⟨k1,k2,O⟩:=AZ r (vp f) h;have aa:Lg f=0:=om;refine⟨?_,?_,?_⟩;intro g E;rcases VV.1 E with rfl|E;exact aa;exact k1 g E
      . intro i j x y G F U
        match i,j,U with
        |0,j+1,_=>simp at G F;subst G;exact O f rfl y (YR F)
        |i+1,j+1,U=>simp at G F;exact k2 i j x y G F om
      intro x Z g E;subst Z;(have I:Dy x.name f.name<0:=by(have:behind (vp x) f=true:=by simpa using ac);exact LN this);rcases VV.1 E with rfl|E;exact I;exact Dw I (O f rfl g E)
theorem Ep{f:Fl}{r:List Fl}(h:Jj (f::r)):Jj r/\∀g∈r,Dy f.name g.name<0:=by constructor;intro i j x y U G I;exact h (i+1) (j+1) x y uT (by simpa using G) om;intro g H;obtain⟨j,E,F⟩:=XP H;exact h 0 (j+1) f g rfl (by simp[VP E,F]) om
theorem Z1o:∀(l:List Fl) (p:Option Fl),(∀f∈l,Lg f=0)->Jj l->(∀x,p=vp x->∀f∈l,Dy x.name f.name<0)->K7 p l=0
 | [],p,_,_,_=>rfl
 |f::r,p,h1,h2,h3=>by
  rw[K7];obtain⟨k1,k2⟩:=Ep h2;rw[A0 (by simp[h1 f oS]),A0 ?_];exact Z1o r (vp f) (λg E=>h1 g (WL _ E)) k1 (λx F g E=>by cases F;exact k2 g E)
  . cases p with
    |none=>simp[behind]
    |some x=>simp[behind];exact h3 x rfl f oS
theorem Km{l:List Fl}:errM l=0↔l.length<=12/\(∀f∈l,Lg f=0)/\Jj l:=by constructor;intro h;have hl:=Rz h;unfold errM at h;rw[A0 om]at h;obtain⟨k1,k2,_⟩:=AZ l vn h;exact⟨hl,k1,k2⟩;rintro ⟨H,E,G⟩;unfold errM;rw[A0 om];exact Z1o l vn E G (λx F=>by cases F)
end
section
open Go
variable{f fs:List Fl}{af:List Nat}{j k m n:Nat}
theorem Rq(n:List UInt8):Bt n []=none:=rfl
theorem Be(n:List UInt8)(x:Fl)(l:List Fl):Bt n (x::l)=if x.name=n then vp x else Bt n l:=by unfold Bt;rw[List.find?_cons];by_cases h:x.name=n;simp[h];(have E:(x.name==n)=false:=by simpa using h);rw[E,A0 h]
theorem Y4{n:List UInt8}{l:List Fl}{f:Fl}(h:Bt n l=vp f):f.name=n/\f∈l:=by unfold Bt at h;exact⟨by simpa using List.find?_some h,ZJ h⟩
theorem Gm{n:List UInt8}{l:List Fl}(h:∀f∈l,Dy n f.name<0):Bt n l=none:=by unfold Bt;rw[ZI];intro y E;simp;intro e;have:=h y E;rw[e,Om]at this;omega
theorem Tl{x:Fl}{l:List Fl}(G:Jj l)(H:∀g∈l,Dy x.name g.name<0):Jj (x::l):=by
 intro i j a b E hb F
 match i,j,F with
 |0,j+1,_=>simp at E hb;subst E;exact H b (YR hb)
 |i+1,j+1,F=>simp at E hb;exact G i j a b E hb om
theorem Z5e{l:List Fl}(H:Jj l){f:Fl}(E:f∈l):Bt f.name l=vp f:=by
 induction l with
 |nil=>cases E
 |cons x l ih=>obtain⟨F,G⟩:=Ep H;rw[Be];rcases VV.1 E with rfl|E;rw[A1 rfl];rw[A0 ?_];exact ih F E;intro e;have:=G f E;rw[e,Om]at this;omega
theorem IC:∀(a b:List Fl),Jj a->Jj b->(∀n,Bt n a=Bt n b)->a=b
 | [],[],_,_,_=>rfl
 | [],y::b,_,_,h=>by have:=h y.name;rw[Rq,Be,A1 rfl]at this;cases this
 |x::a,[],_,_,h=>by have:=h x.name;rw[Rq,Be,A1 rfl]at this;cases this
 |x::a,y::b,ha,hb,h=>by
  obtain⟨a1,a2⟩:=Ep ha;obtain⟨b1,b2⟩:=Ep hb;rcases Bu x.name y.name with hc|hc|hc
  . have E:=h x.name
    have G:Bt x.name (y::b)=none:=Gm (λf F=>by
     rcases VV.1 F with rfl|F
     . omega
     . exact Dw om (b2 f F))
    rw[Be,A1 rfl,G]at E;cases E
  have hn:=Je hc;have E:=h x.name;rw[Be,A1 rfl,Be,A1 hn.symm]at E;have I:x=y:=VK E;subst I;rw[IC a b a1 b1 (λn=> ?_)];by_cases e:x.name=n;subst e;rw[Gm a2,Gm b2];have:=h n;rw[Be,Be,A0 e,A0 e]at this;exact this
  . have H:=fU;have E:=h y.name
    have G:Bt y.name (x::a)=none:=Gm (λf F=>by
     rcases VV.1 F with rfl|F
     . exact H
     . exact Dw H (a2 f F))
    rw[G,Be,A1 rfl]at E;cases E
def NG:Option Fl->Option Fl->Option Fl
 |none,y=>y
 |some x,none=>vp x
 |some x,vp y=>vp (Nj x y)
theorem Pp(x:Option Fl):NG x vn=x:=by cases x<;>rfl
theorem TE(x y:Fl):Nj x y=x\/Nj x y=y:=by unfold Nj;split;exact .inr rfl;exact .inl rfl
theorem V4{x y:Fl}(h:x.name=y.name):(Nj x y).name=x.name:=by rcases TE x y with e|e;rw[e];rw[e,h]
theorem Lz:∀(a b:List Fl) (f:Fl),f∈tog a b->f∈a\/f∈b
 | [],b,f,h=>by rw[Jv]at h;exact .inr h
 |x::a,[],f,h=>by rw[Ky]at h;exact .inl h
 |x::a,y::b,f,h=>by
  rcases Bu x.name y.name with hc|hc|hc
  . rw[O2 om]at h
    rcases VV.1 h with rfl|h
    . exact .inl oS
    . rcases Lz a (y::b) f h with h|h
      . exact .inl (WL _ h)
      . exact .inr h
  . rw[GT hc]at h
    rcases VV.1 h with rfl|h
    . rcases TE x y with e|e
      . rw[e];exact .inl oS
      . rw[e];exact .inr oS
    . rcases Lz a b f h with h|h
      . exact .inl (WL _ h)
      . exact .inr (WL _ h)
  . rw[GS om]at h
    rcases VV.1 h with rfl|h
    . exact .inr oS
    . rcases Lz (x::a) b f h with h|h
      . exact .inl h
      . exact .inr (WL _ h)
termination_by a b=>a.length+b.length
theorem Nc:∀(a b:List Fl),Jj a->Jj b->Jj (tog a b)
 | [],b,_,hb=>by rw[Jv];exact hb
 |x::a,[],ha,_=>by rw[Ky];exact ha
 |x::a,y::b,ha,hb=>by
  obtain⟨a1,a2⟩:=Ep ha
  obtain⟨b1,b2⟩:=Ep hb
  rcases Bu x.name y.name with hc|hc|hc
  . rw[O2 om]
    refine Tl (Nc a (y::b) a1 hb) (λg E=> ?_)
    rcases Lz _ _ g E with h|h
    . exact a2 g h
    . rcases VV.1 h with rfl|h
      . omega
      . exact Dw om (b2 g h)
  . have hn:=Je hc
    rw[GT hc]
    refine Tl (Nc a b a1 b1) (λg E=> ?_)
    rw[V4 hn]
    rcases Lz _ _ g E with h|h
    . exact a2 g h
    . rw[hn];exact b2 g h
  . have F:=fU
    rw[GS om]
    refine Tl (Nc (x::a) b ha b1) (λg E=> ?_)
    rcases Lz _ _ g E with h|h
    . rcases VV.1 h with rfl|h
      . exact F
      . exact Dw F (a2 g h)
    . exact b2 g h
termination_by a b=>a.length+b.length
theorem Ro:∀(a b:List Fl),Jj a->Jj b->∀n,Bt n (tog a b)=NG (Bt n a) (Bt n b)
 | [],b,_,_,n=>by rw[Jv,Rq];rfl
 |x::a,[],_,_,n=>by rw[Ky,Rq,Pp]
 |x::a,y::b,ha,hb,n=>by
  obtain⟨a1,a2⟩:=Ep ha
  obtain⟨b1,b2⟩:=Ep hb
  rcases Bu x.name y.name with hc|hc|hc
  . rw[O2 om,Be,Ro a (y::b) a1 hb n,Be n x a]
    by_cases e:x.name=n
    . rw[A1 e,A1 e]
      have F:Bt n (y::b)=none:=Gm (λf E=>by
       rw[<-e]
       rcases VV.1 E with rfl|E
       . omega
       . exact Dw om (b2 f E))
      rw[F]
      rfl
    . rw[A0 e,A0 e]
  . have hn:=Je hc
    rw[GT hc,Be,Ro a b a1 b1 n,Be n x a,Be n y b,V4 hn,<-hn]
    by_cases e:x.name=n
    . rw[A1 e,A1 e,A1 e];rfl
    . rw[A0 e,A0 e,A0 e]
  . have G:=fU
    rw[GS om,Be,Ro (x::a) b ha b1 n,Be n y b]
    by_cases e:y.name=n
    . rw[A1 e,A1 e]
      have F:Bt n (x::a)=none:=Gm (λf E=>by
       rw[<-e]
       rcases VV.1 E with rfl|E
       . exact G
       . exact Dw G (a2 f E))
      rw[F]
      rfl
    . rw[A0 e,A0 e]
termination_by a b=>a.length+b.length
theorem Z64{a b:List Fl}(F:errM a=0)(I:errM b=0)(G:(tog a b).length<=12):errM (tog a b)=0:=by obtain⟨_,a2,H⟩:=Km.1 F;obtain⟨_,b2,b3⟩:=Km.1 I;refine Km.2 ⟨G,λf E=> ?_,Nc a b H b3⟩;rcases Lz a b f E with h|h;exact a2 f h;exact b2 f h
theorem Lh{a b:List Fl}:Cy a b=0↔errM a=0/\errM b=0/\(tog a b).length<=12:=by constructor;(. intro h;by_cases E:G3 a b=0;(. obtain⟨F,G⟩:=Uv.1 E;refine⟨F,G,?_⟩;by_cases hl:12<(tog a b).length;(. rw[Qf E hl]at h;cases h);omega);rw[BR E]at h;exact absurd h E);rintro ⟨F,G,H⟩;exact J7 (Uv.2 ⟨F,G⟩) om
theorem Z2m{a b:List Fl}(h:Cy a b=0):errM (Ga a b)=0:=by obtain⟨E,F,G⟩:=Lh.1 h;rw[Sd h];exact Z64 E F G
def Lu(b:List Nat):Option (List Nat):=
 if b.length<8 then vn
 else if 12000<Ak (b.take 4)\/b.length-8<Ak (b.take 4)then vn
 else if crcN 0 ((b.drop 8).take (Ak (b.take 4)))=Ak ((b.drop 4).take 4)then vp ((b.drop 8).take (Ak (b.take 4)))else vn
def stepF(fs:List Fl)(b:List Nat):Option (List Fl×Nat):=
 (Lu b).bind λar=>if readE ar=0/\Cy fs (readL ar)=0 then vp (Ga fs (readL ar),8+ar.length)else vn
inductive Recs:List Fl->List Nat->List Fl->Nat->Prop
 |stop {fs:List Fl} {b:List Nat}:stepF fs b=vn->Recs fs b fs 0
 |more {fs:List Fl} {b:List Nat} {f1:List Fl} {k:Nat} {f2:List Fl} {n:Nat}:stepF fs b=vp (f1,k)->Recs f1 (b.drop k) f2 n->Recs fs b f2 (k+n)
def Jr(ar:List Nat):List Nat:=Ah ar.length 4++Ah (crcN 0 ar) 4++ar
theorem Ft(E:List Nat):(Jr E).length=8+E.length:=by simp[Jr,Ag];omega
theorem Nf{b:List Nat}(h:Lu b=vp af):8+af.length<=b.length/\af.length<=12000/\af.length=Ak (b.take 4)/\af=(b.drop 8).take (Ak (b.take 4))/\crcN 0 af=Ak ((b.drop 4).take 4):=by unfold Lu at h;split at h;(. cases h);. split at h;(. cases h);. split at h;(. rename_i F G E;cases h;(have e:((b.drop 8).take (Ak (b.take 4))).length=Ak (b.take 4):=by rw[VL,VR];omega);exact⟨by rw[e];omega,by rw[e];omega,e,rfl,E⟩);. cases h
theorem SR{b:List Nat}(H:8+af.length<=b.length)(G:af.length<=12000)(I:af.length=Ak (b.take 4))(E:af=(b.drop 8).take (Ak (b.take 4)))(F:crcN 0 af=Ak ((b.drop 4).take 4)):Lu b=vp af:=by unfold Lu;rw[A0 om,A0 om,<-E,A1 F]
theorem IF{b:List Nat}(h:Lu b=vp af)(c:List Nat):Lu (b++c)=vp af:=by obtain⟨O,G,F,H,I⟩:=Nf h;have E:(b++c).take 4=b.take 4:=XQ om;have e2:(b++c).drop 4=b.drop 4++c:=YB om;have e3:(b++c).drop 8=b.drop 8++c:=YB om;refine SR uW G (by rw[E];exact F) ?_ ?_;rw[E,e3,XQ (by rw[VR,<-F];omega)];exact H;rw[e2,XQ uQ];exact I
theorem IE(I:af.length<=12000)(H:∀x∈af,x<256)(c:List Nat):Lu (Jr af++c)=vp af:=by refine IF ?_ c;(have E:(Jr af).take 4=Ah af.length 4:=by unfold Jr;rw[VO,XQ uN,VQ uN]);(have e2:((Jr af).drop 4).take 4=Ah (crcN 0 af) 4:=by unfold Jr;rw[VO,YB uN,XE uN,XN,XQ uN,VQ uN]);(have e3:(Jr af).drop 8=af:=by unfold Jr;rw[YB (by rw[VB,Ag,Ag];decide),XE (by rw[VB,Ag,Ag];decide),XN]);have F:Ak (Ah af.length 4)=af.length:=Ck 4 _ om;have G:Ak (Ah (crcN 0 af) 4)=crcN 0 af:=Ck 4 _ (oI (FI H (p:=0) od));refine SR (by rw[Ft];omega) I (by rw[E,F]) (by rw[E,F,e3,VQ (VA _)]) (by rw[e2,G])
theorem Pi{b:List Nat}(h:stepF fs b=vp (f,k)):∃E,Lu b=vp E/\readE E=0/\Cy fs (readL E)=0/\f=Ga fs (readL E)/\k=8+E.length:=by
 unfold stepF at h
 cases hr:Lu b with
 |none=>rw[hr]at h;cases h
 |some E=>rw[hr,VS]at h;split at h;(. rename_i F;cases h;exact⟨E,rfl,F.1,F.2,rfl,rfl⟩);. cases h
theorem Rc{b:List Nat}(h:Lu b=vp af)(E:readE af=0)(F:Cy fs (readL af)=0):stepF fs b=vp (Ga fs (readL af),8+af.length):=by unfold stepF;rw[h,VS,A1 ⟨E,F⟩]
theorem Jx{b:List Nat}(h:stepF fs b=vp (f,k)):8<=k/\k<=b.length:=by obtain⟨F,E,_,_,_,rfl⟩:=Pi h;have:=(Nf E).1;omega
theorem Q4{b:List Nat}(h:stepF fs b=vp (f,k))(c:List Nat):stepF fs (b++c)=vp (f,k):=by obtain⟨H,E,F,G,rfl,rfl⟩:=Pi h;exact Rc (IF E c) F G
theorem Z4d{b:List Nat}(h:stepF fs b=vp (f,k)):errM f=0:=by obtain⟨F,_,_,E,rfl,_⟩:=Pi h;exact Z2m E
theorem Recs.le{b:List Nat}(h:Recs fs b f n):n<=b.length:=by
 induction h with
 |stop _=>exact VF _
 |more h1 _ ih=>have:=(Jx h1).2;rw[VR]at ih;omega
theorem Recs.err{b:List Nat}(h:Recs fs b f n)(E:errM fs=0):errM f=0:=by
 induction h with
 |stop _=>exact E
 |more h1 _ ih=>exact ih (Z4d h1)
theorem Recs.one{g:List Fl}{b:List Nat}(h:Recs fs b f n)(k:Recs fs b g m):f=g/\n=m:=by
 induction h generalizing g m with
 |stop h1=>
  cases k with
  |stop _=>exact⟨rfl,rfl⟩
  |more k1 _=>rw[h1]at k1;cases k1
 |more h1 _ ih=>
  cases k with
  |stop k1=>rw[h1]at k1;cases k1
  |more k1 k2=>rw[h1]at k1;cases k1;obtain⟨E,e2⟩:=ih k2;exact⟨E,by rw[e2]⟩
theorem Recs.ex:∀(q:Nat) (fs:List Fl) (b:List Nat),b.length<=q->∃f n,Recs fs b f n
 |0,fs,b,h=>by
  cases E:stepF fs b with
  |none=>exact⟨_,_,.stop E⟩
  |some p=>have:=Jx (f:=p.1) (k:=p.2) E;omega
 |q+1,fs,b,h=>by
  cases E:stepF fs b with
  |none=>exact⟨_,_,.stop E⟩
  |some p=>have G:=Jx (f:=p.1) (k:=p.2) E;obtain⟨f,n,F⟩:=Recs.ex q p.1 (b.drop p.2) uQ;exact⟨f,p.2+n,.more E F⟩
theorem Recs.app{g:List Fl}{a c:List Nat}(h:Recs fs a f n)(E:n=a.length)(k:Recs f c g m):Recs fs (a++c) g (n+m):=by
 induction h with
 | @stop fs b h1=>have:b= []:=ZR.1 E.symm;subst this;rw[XN,VY];exact k
 | @more fs b f1 q f2 n h1 h2 ih=>have F:=(Jx h1).2;have hi:=ih uQ k;rw[WV];refine .more (Q4 h1 c) ?_;rw[YB F];exact hi
theorem Z46(F:∀x∈af,x<256)(E:readE af=0)(G:Cy fs (readL af)=0)(c:List Nat):stepF fs (Jr af++c)=vp (Ga fs (readL af),8+af.length):=by obtain⟨_,_,_,_,_,_,hl⟩:=To E;exact Rc (IE hl F c) E G
theorem RW(F:∀x∈af,x<256)(G:readE af=0)(I:j<8+af.length):stepF fs ((Jr af).take j)=none:=by
 obtain⟨_,_,_,_,_,_,hl⟩:=To G
 cases E:stepF fs ((Jr af).take j)with
 |none=>rfl
 |some p=>obtain⟨p1,O⟩:=p;have H:=Jx E;obtain⟨Z,k1,_,_,_,U⟩:=Pi (Q4 E ((Jr af).drop j));rw[YE]at k1;have k2:=IE hl F [];rw[XB,k1]at k2;cases k2;rw[VL]at H;omega
theorem T9(fs:List Fl):Recs fs [] fs 0:=by refine .stop ?_;unfold stepF Lu;rw[A1 od];rfl
theorem Recs.snoc{b:List Nat}(h:Recs fs b f b.length)(F:∀x∈af,x<256)(I:readE af=0)(G:Cy f (readL af)=0):Recs fs (b++Jr af) (Ga f (readL af)) (b++Jr af).length:=by have E:=Z46 (fs:=f) F I G [];rw[XB]at E;(have H:Recs f (Jr af) (Ga f (readL af)) (8+af.length+0):=by refine .more E ?_;rw[XE (by rw[Ft];omega)];exact T9 _);have:=h.app rfl H;rw[VB,Ft];exact this
theorem Recs.snoc_less{b:List Nat}(h:Recs fs b f b.length)(F:∀x∈af,x<256)(E:readE af=0)(G:j<8+af.length):Recs fs (b++(Jr af).take j) f b.length:=by have:=h.app rfl (Recs.stop (RW (fs:=f) F E G));rwa [XS]at this
theorem ID(F:∀x∈af,x<256):∀x∈Jr af,x<256:=by intro x E;unfold Jr at E;rcases WG.1 E with h|h;rcases WG.1 h with h|h;exact Et _ _ x h;exact Et _ _ x h;exact F x h
end
section
open Go.RowKit Go.Proofs.Tryz
variable{M:List Fv}{b:Nat}{v:Value}{w w':World}
def Z89:Go.Shelf.Ren:=⟨fun|192=>51|190=>73|125=>108|258=>107|128=>143|129=>144|302=>134|303=>135|304=>136|305=>137|306=>138|307=>139|308=>140|309=>141|310=>142|333=>170|329=>171|330=>172|334=>173|335=>174|336=>167|344=>206|n=>n,fun|31=>43|0=>0|9=>9|3=>3|46=>66|51=>35|53=>211|4=>4|183=>202|182=>201|131=>207|5=>5|218=>235|222=>239|228=>285|229=>286|n=>n,fun|n=>n⟩
theorem GY:Go.Proofs.Lays.n192 v8 Z89:= {
 mixed:=oR
 f125:=Tryz.func108.trans (congrArg vp oR)
 f128:=Tryz.func143.trans (congrArg vp oR)
 f129:=Tryz.func144.trans (congrArg vp oR)
 f190:=Tryz.func73.trans (congrArg vp oR)
 f192:=Tryz.func51.trans (congrArg vp oR)
 f258:=Tryz.func107.trans (congrArg vp oR)
 f302:=Tryz.func134.trans (congrArg vp oR)
 f303:=Tryz.func135.trans (congrArg vp oR)
 f304:=Tryz.func136.trans (congrArg vp oR)
 f305:=Tryz.func137.trans (congrArg vp oR)
 f306:=Tryz.func138.trans (congrArg vp oR)
 f307:=Tryz.func139.trans (congrArg vp oR)
 f308:=Tryz.func140.trans (congrArg vp oR)
 f309:=Tryz.func141.trans (congrArg vp oR)
 f310:=Tryz.func142.trans (congrArg vp oR)
 f329:=Tryz.func171.trans (congrArg vp oR)
 f330:=Tryz.func172.trans (congrArg vp oR)
 f333:=Tryz.func170.trans (congrArg vp oR)
 f334:=Tryz.func173.trans (congrArg vp oR)
 f335:=Tryz.func174.trans (congrArg vp oR)
 f336:=Tryz.func167.trans (congrArg vp oR)
 f344:=Tryz.func206.trans (congrArg vp oR)
 t0:=underlying0
 a0:=Tryz.isAgg0
 z0:=Tryz.sizeOf0
 v0:=Tryz.zeroValue0
 t3:=underlying3
 a3:=Tryz.isAgg3
 z3:=Tryz.sizeOf3
 v3:=Tryz.zeroValue3
 t4:=underlying4
 a4:=Tryz.isAgg4
 z4:=Tryz.sizeOf4
 v4:=Tryz.zeroValue4
 t5:=underlying5
 a5:=Tryz.isAgg5
 z5:=Tryz.sizeOf5
 v5:=Tryz.zeroValue5
 t9:=underlying9
 a9:=Tryz.isAgg9
 z9:=Tryz.sizeOf9
 v9:=Tryz.zeroValue9
 t31:=underlying43
 a31:=Tryz.isAgg43
 z31:=Tryz.sizeOf43
 v31:=Tryz.zeroValue43
 t46:=underlying66
 a46:=Tryz.isAgg66
 z46:=Tryz.sizeOf66
 v46:=Tryz.zeroValue66
 t51:=underlying35
 a51:=Tryz.isAgg35
 z51:=Tryz.sizeOf35
 v51:=Tryz.zeroValue35
 t53:=underlying211
 a53:=Tryz.isAgg211
 z53:=Tryz.sizeOf211
 v53:=Tryz.zeroValue211
 t131:=underlying207
 a131:=Tryz.isAgg207
 z131:=Tryz.sizeOf207
 v131:=Tryz.zeroValue207
 t182:=underlying201
 a182:=Tryz.isAgg201
 z182:=Tryz.sizeOf201
 v182:=Tryz.zeroValue201
 t183:=underlying202
 a183:=Tryz.isAgg202
 z183:=Tryz.sizeOf202
 v183:=Tryz.zeroValue202
 t218:=underlying235
 a218:=Tryz.isAgg235
 z218:=Tryz.sizeOf235
 v218:=Tryz.zeroValue235
 t222:=underlying239
 a222:=Tryz.isAgg239
 z222:=Tryz.sizeOf239
 v222:=Tryz.zeroValue239
 t228:=underlying285
 a228:=Tryz.isAgg285
 z228:=Tryz.sizeOf285
 v228:=Tryz.zeroValue285
 t229:=underlying286
 a229:=Tryz.isAgg286
 z229:=Tryz.sizeOf286
 v229:=Tryz.zeroValue286}
def QB(ps:List (List UInt8)):List (List UInt8):=ps.mergeSort λx y=>decide (x<=y)
theorem Z8f{E:List (List UInt8)}(h:SRow w b v E)(ac:E.length<=2097152):vu v8 51 #[v] w λe w'=>e=vm (.tuple #[])/\SRow w' b v (QB E)/\w.grownBy w' v.ownBlock:=by(rcases h.2 with ⟨F,U⟩|⟨g,cap,cur,F,aa,hb,k1,k2,O,G⟩);have I:E= []:=WK U;subst I;subst F;refine(Any.sort_Strings_none GY vn 0 w).mono ?_;rintro e w' ⟨rfl,rfl⟩;(have e0:QB []= []:=by simp[QB]);exact⟨rfl,by rw[e0];exact h,⟨rfl,rfl,rfl,VA _,λ_ _ _=>rfl⟩⟩;subst F;have H:g<w.heap.size:=(World.ownsRow.lt h g rfl).2;have Z:=holds_of_block (ss:=E) hb (by rw[Nat.mul_one]at G;exact G);refine(Any.sort_Strings GY g 0 cap E w Z H om).mono ?_;rintro e w' ⟨rfl,k,os,rfl⟩;refine⟨rfl,?_,grownBy_sorted _⟩;have hl:(QB E).length=E.length:=List.length_mergeSort _;have:=ownsRow_sorted (base:=b) (e:=9) (n:=k) (os:=os) (ss:=E) (ts:=QB E) hl aa hb k1 k2 O;unfold SRow;rw[hl];exact this
def MapIs(w:wd)(r:Nat)(M:List Fv):Prop:=∃es clock,w.heap[r]? =vp (.map es clock)/\es.toList.map (λe=>(e.key,e.val))=M.map (λx:Fv=>(Value.string (B x.f.name),x.val))
theorem MapIs.new(w:wd):MapIs (w.alloc (.map #[] 0)) w.heap.size []:=⟨#[],0,B2 _ _,rfl⟩
theorem MapIs.lt{r:Nat}(h:MapIs w r M):r<w.heap.size:=by obtain⟨es,c,F,_⟩:=h;rcases YN r w.heap.size with E|E;exact E;. rw[XY E]at F;cases F
theorem MapIs.grown{r:Nat}{o:Option Nat}(h:MapIs w r M)(F:w.grownBy w' o)(H:vp r≠o):MapIs w' r M:=by have hl:=h.lt;obtain⟨es,c,E,G⟩:=h;exact⟨es,c,(F.block r hl H).trans E,G⟩
theorem MapIs.below{r:Nat}(h:MapIs w r M)(E:vx w.heap.size w w'):MapIs w' r M:=h.grown (Gv E) oS
def fm(n:List UInt8):List Fv->Nat->Option (Nat×Fv)
 | [],_=>vn
 |x::r,i=>if x.f.name=n then vp (i,x)else fm n r (i+1)
theorem Zdz(a b:List UInt8):(B a==B b)=decide (a=b):=by show (a.toArray==b.toArray)=_;rw[XU];simp
theorem EX(n:List UInt8):∀(l:List MapEntry) (M:List Fv) (i:Nat),l.map (λe=>(e.key,e.val))=M.map (λx:Fv=>(Value.string (B x.f.name),x.val))->Instr.findNow .string (.string (B n)) l i=vp ((fm n M i).map λp=>(p.1,p.2.val))
 | [],[],i,_=>rfl
 | [],x::M,i,h=>by cases h
 |e::l,[],i,h=>by cases h
 |e::l,x::M,i,h=>by simp only[WN,List.cons.injEq,ZH]at h;obtain⟨⟨E,F⟩,G⟩:=h;rw[Instr.findNow,E];show (match (vp (B n==B x.f.name):Option Bool)with|some true=>_|some false=>_|none=>_)=_;by_cases e0:x.f.name=n;(have:(B n==B x.f.name)=true:=by rw[Zdz];exact H6 e0.symm);rw[this];simp only[fm,A1 e0,Option.map_some,F];(have:(B n==B x.f.name)=false:=by rw[Zdz];exact H2 (λe2=>e0 e2.symm));rw[this];simp only[fm,A0 e0];exact EX n l M (i+1) G
theorem AH{n:List UInt8}:∀ {M:List Fv} {i j:Nat} {x:Fv},fm n M i=vp (j,x)->x.f.name=n/\i<=j/\M[j-i]? =vp x/\Bt n (fls M)=vp x.f
 | [],i,j,x,h=>by cases h
 |y::M,i,j,x,h=>by rw[fm]at h;by_cases e:y.f.name=n;(. rw[A1 e]at h;cases h;refine⟨e,VA _,oS,?_⟩;unfold Bt;simp[fls,e]);rw[A0 e]at h;obtain⟨E,G,F,b0⟩:=AH h;refine⟨E,om,?_,?_⟩;rw[show j-i=(j-(i+1))+1 by omega];simpa using F;exact vC
theorem G0{n:List UInt8}:∀ {M:List Fv} {i:Nat},fm n M i=vn->Bt n (fls M)=vn
 | [],i,_=>rfl
 |y::M,i,h=>by rw[fm]at h;by_cases e:y.f.name=n;(. rw[A1 e]at h;cases h);rw[A0 e]at h;have b0:=G0 h;exact vC
def QH:Value:=.agg #[.string ⟨#[]⟩,.slice vn 0 0,.int .i64 0,.int .i64 0,.bool vq]
theorem QG(W:wd):(zeroValue 30).run v8 W=.ok QH W:=Tryz.zeroValue30 W
theorem EE{r:Nat}(h:MapIs w r M)(n:List UInt8)(F:Bool):(Instr.lookup 91 (.map (vp r)) (.string (B n)) F).run v8 w=.ok (if F then .tuple #[(match fm n M 0 with|some p=>p.2.val|none=>QH),.bool (fm n M 0).isSome]else (match fm n M 0 with|some p=>p.2.val|none=>QH)) w:=by
 obtain⟨es,c,hb,I⟩:=h;have G:=underlying9;have E:=EX n es.toList M 0 I;have hc:∀e,(Instr.checkKey e 10000 9 (.string (B n))).run v8 w=.ok () w:=λe=>kbv (k:=.string (B n)) G uY e 9999;have O:=QG w
 cases H:fm n M 0 with
 |none=>rw[H]at E;simp only[Option.map_none]at E;cases F<;>simp[Instr.lookup,Mz underlying91,aF hb,hc,aC G E,O,Result.andThen]
 |some p=>rw[H]at E;simp only[Option.map_some]at E;cases F<;>simp[Instr.lookup,Mz underlying91,aF hb,hc,aC G E,Result.andThen]
def aK(M:List Fv)(y:Fv):List Fv:=match fm y.f.name M 0 with|some p=>M.set p.1 y|none=>M++ [y]
theorem Z0a{r:Nat}(h:MapIs w r M)(y:Fv):∃w',(Instr.mapUpdate 91 (.map (vp r)) (.string (B y.f.name)) y.val).run v8 w=.ok () w'/\MapIs w' r (aK M y)/\w.grownBy w' (vp r):=by
 have hl:=h.lt;obtain⟨es,c,hb,G⟩:=h;have I:=underlying9;have E:=EX y.f.name es.toList M 0 G;have hc:(Instr.checkKey vq 10000 9 (.string (B y.f.name))).run v8 w=.ok () w:=kbv (k:=.string (B y.f.name)) I uY vq 9999;have Z:∀o,w.grownBy {w with heap:=w.heap.setIfInBounds r o} (vp r):=λo=>⟨rfl,rfl,rfl,oS,λk I ae=>by have:r≠k:=λe=>ae (by rw[e]);simp[this]⟩;have aa:∀o,({w with heap:=w.heap.setIfInBounds r o}:wd).heap[r]? =vp o:=λo=>by simp[hl]
 cases F:fm y.f.name M 0 with
 |none=>rw[F]at E;simp only[Option.map_none]at E;refine⟨{w with heap:=w.heap.setIfInBounds r (.map (es.push {key:=.string (B y.f.name),val:=y.val,born:=c}) (c+1))},?_,⟨_,_,aa _,?_⟩,Z _⟩;simp[Instr.mapUpdate,Mz underlying91,aF hb,hc,aC I E,MapKept.run_setObj_map _ hb,Result.andThen];unfold aK;rw[F];simp[G]
 |some p=>rw[F]at E;simp only[Option.map_some]at E;obtain⟨p1,ai⟩:=p;obtain⟨ag,aj,O,ah⟩:=AH F;simp only[Nat.sub_zero]at O;(have hi:p1<es.size:=by have U:p1<M.length:=(WY.1 O).1;have:=congrArg List.length G;simp at this;omega);(have af:((es[p1]?).map (·.key)).getD (.string (B y.f.name))=.string (B y.f.name):=by have H:=congrArg (λl=>l[p1]?) G;simp[O,hi]at H;rw[Array.getElem?_eq_getElem hi];show es[p1].key=_;rw[H.1,ag]);have ac:(Instr.keyThatStays (.string (B y.f.name)) (.string (B y.f.name))).run v8 w=.ok (.string (B y.f.name)) w:=MapKept.run_keyThatStays (d:=.string) uY;refine⟨{w with heap:=w.heap.setIfInBounds r (.map (es.modify p1 λe=> {e with key:=.string (B y.f.name),val:=y.val}) c)},?_,⟨_,_,aa _,?_⟩,Z _⟩;simp[Instr.mapUpdate,Mz underlying91,aF hb,hc,aC I E,af,ac,MapKept.run_setObj_map _ hb,Result.andThen];unfold aK;rw[F];apply ZL;intro i;have H:=congrArg (λl=>l[i]?) G;simp only[UC,Array.getElem?_toList,YD,Array.getElem?_modify]at H ⊢;by_cases e:p1=i;subst e;have U:p1<M.length:=(WY.1 O).1;simp[hi,U];simp only[A0 e];exact H
end
section
open Go
variable{x y:Fv}{M out:List Fv}{i:Nat}
def Ji(M:List Fv)(y:Fv):List Fv:=match fm y.f.name M 0 with|some p=>if 0<RB y.f p.2.f then M.set p.1 y else M|none=>M++ [y]
def nms(M:List Fv):List (List UInt8):=M.map λx=>x.f.name
theorem Ov(h:fm y.f.name M 0=vn):Ji M y=M++ [y]/\aK M y=M++ [y]/\nms (Ji M y)=nms M++ [y.f.name]:=by(have E:Ji M y=M++ [y]:=by unfold Ji;rw[h]);refine⟨E,by unfold aK;rw[h],by rw[E];simp[nms]⟩
theorem Z8k(h:M[i]? =vp x)(E:x.f.name=y.f.name):nms (M.set i y)=nms M:=by apply ZL;intro j;simp only[nms,UC,YD];by_cases e:i=j;subst e;have hi:i<M.length:=(WY.1 h).1;rw[h];simp[hi,E];simp[e]
theorem Ou{p:Nat×Fv}(h:fm y.f.name M 0=vp p):(0<RB y.f p.2.f->Ji M y=aK M y)/\(¬0<RB y.f p.2.f->Ji M y=M)/\nms (Ji M y)=nms M:=by obtain⟨j,x⟩:=p;obtain⟨F,G,E,H⟩:=AH h;simp only[Nat.sub_zero]at E;refine⟨λc=> ?_,λc=> ?_,?_⟩;unfold Ji aK;rw[h];simp only;rw[A1 c];unfold Ji;rw[h];simp only;rw[A0 c];. unfold Ji;rw[h];simp only;split;exact Z8k E F;rfl
theorem Rn(h:x∈Ji M y):x∈M\/x=y:=by unfold Ji at h;split at h;(. split at h;exact List.mem_or_eq_of_mem_set h;exact .inl h);simpa using h
theorem Z0e(n:List UInt8)(M:List Fv)(y:Fv):Bt n (fls (M++ [y]))=match Bt n (fls M)with|some x=>vp x|none=>if y.f.name=n then vp y.f else none:=by
 unfold Bt;simp only[fls,XC,List.find?_append]
 cases h:List.find? (λy=>y.name==n) (List.map Fv.f M)with
 |some x=>simp
 |none=>by_cases e:y.f.name=n;simp[e];simp[e]
theorem JC{n:List UInt8}:∀ {M:List Fv} {y x:Fv} {i j:Nat},fm y.f.name M i=vp (j,x)->Bt n (fls (M.set (j-i) y))=if y.f.name=n then vp y.f else Bt n (fls M)
 | [],y,x,i,j,h=>by cases h
 |z::M,y,x,i,j,h=>by rw[fm]at h;by_cases e:z.f.name=y.f.name;(. rw[A1 e]at h;cases h;rw[XT];(show Bt n (y.f::fls M)=if y.f.name=n then vp y.f else Bt n (z.f::fls M));rw[Be,Be,e];by_cases e2:y.f.name=n;rw[A1 e2,A1 e2];rw[A0 e2,A0 e2,A0 e2]);rw[A0 e]at h;have E:=(AH h).2.1;have ih:=JC (n:=n) h;rw[show j-i=(j-(i+1))+1 by omega];(show Bt n (z.f::fls (M.set (j-(i+1)) y))=if y.f.name=n then vp y.f else Bt n (z.f::fls M));rw[Be,Be,ih];by_cases e2:z.f.name=n;rw[A1 e2,A1 e2,A0 (λe3=>e (e2.trans e3.symm))];rw[A0 e2,A0 e2]
theorem Z0f(n:List UInt8)(M:List Fv)(y:Fv):Bt n (fls (Ji M y))=if y.f.name=n then NG (Bt n (fls M)) (vp y.f)else Bt n (fls M):=by
 cases h:fm y.f.name M 0 with
 |none=>have hl:=G0 h;rw[(Ov h).1,Z0e];by_cases e:y.f.name=n;subst e;rw[hl,A1 rfl,A1 rfl];rfl;. rw[A0 e,A0 e];cases Bt n (fls M)<;>rfl
 |some p=>obtain⟨j,x⟩:=p;obtain⟨H,O,I,E⟩:=AH h;have G:=Ou h;by_cases c:0<RB y.f x.f;(have F:Ji M y=M.set j y:=by unfold Ji;rw[h];simp only;rw[A1 c]);have:=JC (n:=n) h;rw[Nat.sub_zero]at this;rw[F,this];by_cases e:y.f.name=n;subst e;rw[A1 rfl,A1 rfl,E];show vp y.f=vp (Nj x.f y.f);unfold Nj;rw[A1 c];rw[A0 e,A0 e];rw[G.2.1 c];by_cases e:y.f.name=n;subst e;rw[A1 rfl,E];show vp x.f=vp (Nj x.f y.f);unfold Nj;rw[A0 c];rw[A0 e]
theorem Uc(n:List UInt8):∀(L M:List Fv),Jj (fls L)->Bt n (fls (L.foldl Ji M))=NG (Bt n (fls M)) (Bt n (fls L))
 | [],M,_=>by rw[List.foldl_nil];exact(Pp _).symm
 |y::L,M,hr=>by obtain⟨E,F⟩:=Ep (f:=y.f) (r:=fls L) hr;rw[List.foldl_cons,Uc n L (Ji M y) E,Z0f];show _=NG (Bt n (fls M)) (Bt n (y.f::fls L));rw[Be];by_cases e:y.f.name=n;subst e;rw[A1 rfl,A1 rfl,Gm F,Pp];rw[A0 e,A0 e]
theorem MX(h:(nms M).Nodup):(nms (Ji M y)).Nodup:=by
 cases E:fm y.f.name M 0 with
 |none=>rw[(Ov E).2.2];rw[List.nodup_append];refine⟨h,oS,?_⟩;intro a G b hb e;simp at hb;subst hb;subst e;have hn:=G0 E;unfold Bt at hn;rw[ZI]at hn;obtain⟨x,H,F⟩:=WU.1 G;exact hn x.f (WU.2 ⟨x,H,rfl⟩) (by simpa using F)
 |some p=>rw[(Ou E).2.2];exact h
theorem Yj:∀(L M:List Fv),(nms M).Nodup->(nms (L.foldl Ji M)).Nodup
 | [],M,h=>h
 |y::L,M,h=>by rw[List.foldl_cons];exact Yj L _ (MX h)
theorem Z7c:∀(a b:List UInt8),a<b↔Dy a b<0
 | [],[]=>by simp[Dy,Lib.compareBytes]
 | [],b::y=>by simp[Dy,Lib.compareBytes]
 |a::x,[]=>by simp[Dy,Lib.compareBytes]
 |a::x,b::y=>by rw[List.cons_lt_cons_iff,Fm];by_cases E:a<b;simp[E];rw[A0 E];by_cases F:b<a;(have:a≠b:=by rintro rfl;exact E F);simp[E,F,this];have:=RD E F;subst this;simp[F,Z7c x y]
theorem Z0l(a b:List UInt8):a<=b↔Dy a b<=0:=by rw[<-List.not_lt,Z7c,Ew a b];omega
theorem Z48{E:List (List UInt8)}(h:E.Nodup):(QB E).Pairwise λa b=>Dy a b<0:=by have G:=List.pairwise_mergeSort (le:=λx y:List UInt8=>decide (x<=y)) (λa b c k1 k2=>by simp only[P2,Z0l]at*;exact Z6h.trans k1 k2) (λa b=>by simp only[Bool.or_eq_true,P2,Z0l];have:=Ew a b;omega) E;have F:(QB E).Nodup:=(List.mergeSort_perm E _).nodup_iff.2 h;have H:=List.Pairwise.and G F;refine H.imp ?_;rintro a b ⟨k1,k2⟩;(have I:Dy a b<=0:=by simpa only[P2,Z0l]using k1);rcases Bu a b with e|e|e;omega;exact absurd (Je e) k2;omega
theorem RX{E:List (List UInt8)}{s:List UInt8}:s∈QB E↔s∈E:=(List.mergeSort_perm E _).mem_iff
theorem Z8d(E:List (List UInt8)):(QB E).length=E.length:=List.length_mergeSort _
theorem Zce{s:List UInt8}(h:s∈nms M):∃p,fm s M 0=vp p:=by
 cases F:fm s M 0 with
 |some p=>exact⟨p,rfl⟩
 |none=>have hn:=G0 F;unfold Bt at hn;rw[ZI]at hn;obtain⟨x,G,E⟩:=WU.1 h;exact absurd (by simpa using E) (hn x.f (WU.2 ⟨x,G,rfl⟩))
theorem CX{xs ys:List Fv}(U:Jj (fls xs))(O:Jj (fls ys))(M:List Fv)(aa:M=(xs++ys).foldl Ji [])(ah:nms out=QB (nms M))(ai:∀x∈out,Bt x.f.name (fls M)=vp x.f):fls out=tog (fls xs) (fls ys):=by
 (have au:(nms M).Nodup:=by rw[aa];exact Yj _ _ (by simp[nms]));have H:=Z48 au;rw[<-ah]at H
 have ae:Jj (fls out):=by
  intro i j a b E hb al;rw[YK]at H;simp only[fls,UC]at E hb
  cases Z:out[i]? with
  |none=>rw[Z]at E;cases E
  |some u=>
   cases G:out[j]? with
   |none=>rw[G]at hb;cases hb
   |some v=>rw[Z]at E;rw[G]at hb;simp at E hb;subst E;subst hb;obtain⟨hi,ao⟩:=WY.1 Z;obtain⟨av,ap⟩:=WY.1 G;have:=H i j (by simpa[nms]using hi) (by simpa[nms]using av) al;simpa[nms,ao,ap]using this
 (have aw:∀n,Bt n (fls M)=NG (Bt n (fls xs)) (Bt n (fls ys)):=by intro n;rw[aa,XW,Uc n ys _ O,Uc n xs _ U];rfl);refine IC _ _ ae (Nc _ _ U O) (λn=> ?_);rw[Ro _ _ U O,<-aw]
 cases I:Bt n (fls M)with
 |none=>
  cases ak:Bt n (fls out)with
  |none=>rfl
  |some f=>obtain⟨hn,hm⟩:=Y4 ak;obtain⟨x,F,rfl⟩:=WU.1 hm;have:=ai x F;rw[hn,I]at this;cases this
 |some f=>obtain⟨hn,hm⟩:=Y4 I;obtain⟨x,F,rfl⟩:=WU.1 hm;(have ar:n∈nms out:=by rw[ah,RX];exact WU.2 ⟨x,F,hn⟩);obtain⟨z,ag,ac⟩:=WU.1 ar;have aj:=ai z ag;rw[ac,I]at aj;have af:=Z5e ae (WU.2 ⟨z,ag,rfl⟩);rw[ac]at af;rw[af];exact aj.symm
end
section
open Go.RowKit Go.Proofs.Tryz
variable{ag:Array Oper}{Q:Exit->Act->World->Prop}{x y z:Fv}{M:List Fv}{al:List Oper}{ac b c d g k m n:Nat}{a ah ap:Option Addr}{r:Option Nat}{E v:Value}{w w' wr:World}
theorem I8(a b:ByteArray)(w:wd):vu v8 106 #[vb a,vb b] w λe w'=>e=vm (so vh (Lib.compareBytes a.data.toList b.data.toList))/\w'=w:=by go_enter func106,ntmps106;go_wp2;rw[aB func133 oR oR oR (e:=Extern.BytealgCompare.compare) oR,Lib.run_compareString];simp only[Result.andThen];rw[kbt];go_wp2;go_ret;exact⟨rfl,rfl⟩
theorem Wd(x y:List UInt8)(w:wd):vu v8 72 #[vb (B x),vb (B y)] w λe w'=>e=vm (so vh (Dy x y))/\w'=w:=by have E:=Ab (I8 (B x) (B y) w);rw[BG,BG]at E;generalize B x=s at*;generalize B y=t at*;go_enter func72,ntmps72;go_wp2_with (go_at_call 106;refine E.mono ?_;rintro e w' ⟨rfl,rfl⟩);go_ret;exact⟨rfl,rfl⟩
theorem Xh(w:wd)(H G F:Obj)(E:Array vt)(t:TypeId)(j:Nat):((((w.alloc H).alloc G).alloc F).alloc (vl E t)).cell? ⟨w.heap.size+1+1+1,j,vn⟩=E[j]? :=
 N0 _ _ _ _ (by rw[CL,CL,CL])
theorem Zcw(w:wd)(H F G:Obj)(E:Array vt)(t:TypeId)(j:Nat):((((w.alloc (vl E t)).alloc H).alloc F).alloc G).cell? ⟨w.heap.size,j,vn⟩=E[j]? :=by rw[I5 _ _ _ (by rw[CL,CL,CL];omega),I5 _ _ _ (by rw[CL,CL];omega),I5 _ _ _ (by rw[CL];omega)];exact N0 _ _ _ _ rfl
theorem Zcv(w:wd)(H F G:Obj)(E:Array vt)(t:TypeId)(j:Nat):((((w.alloc H).alloc (vl E t)).alloc F).alloc G).cell? ⟨w.heap.size+1,j,vn⟩=E[j]? :=by rw[I5 _ _ _ (by rw[CL,CL,CL];omega),I5 _ _ _ (by rw[CL,CL];omega)];exact N0 _ _ _ _ (by rw[CL])
theorem Z0m(aw:FvIn w x)(al:FvIn w y):vu v8 50 #[x.val,y.val] w λe w'=>e=vm (so vh (RB x.f y.f))/\vx w.heap.size w w':=by have az:∀W,vx w.heap.size w W->(convert 23 9 (va x.a x.f.bytes.length x.c)).run v8 W=.ok (vb (B x.f.bytes)) W:=λW Z=>Ol (aw.bs.below Z (VA _));have au:∀W,vx w.heap.size w W->(convert 23 9 (va y.a y.f.bytes.length y.c)).run v8 W=.ok (vb (B y.f.bytes)) W:=λW Z=>Ol (al.bs.below Z (VA _));have a8:=Ab (Wd x.f.bytes y.f.bytes);have ai:=fR;rw[Db,Db,ai];clear aw al ai;obtain⟨⟨nm,bs,st,nd,gn⟩,a,c⟩:=x;obtain⟨⟨a5,af,st2,F,I⟩,a2,c2⟩:=y;simp only at*;have ao:=Ab az;have ar:=Ab au;clear az au;generalize B nm=t at*;generalize B a5=U at*;generalize B bs=bd at*;generalize B af=a9 at*;generalize bs.length=n at*;generalize af.length=n2 at*;generalize Dy bs af=bf at*;have a4:=gI;have ak:=Z0b ((w.alloc (vl #[vb t,va a n c,so vh st,so vh nd,ve gn] 30)).alloc (vl #[vb U,va a2 n2 c2,so vh st2,so vh F,ve I] 30));have ae:=λg=>IZ (((w.alloc (vl #[vb t,va a n c,so vh st,so vh nd,ve gn] 30)).alloc (vl #[vb U,va a2 n2 c2,so vh st2,so vh F,ve I] 30)).alloc (.map Wu 1)) _ g (B2 _ _);simp only[CL]at ak ae;have ax:=ae gn;have aj:=ae I;obtain⟨H,ag⟩:∃H:Int,(if gn then 1 else 0)=H:=⟨_,rfl⟩;obtain⟨G,ah⟩:∃G:Int,(if I then 1 else 0)=G:=⟨_,rfl⟩;rw[ag]at ax;rw[ah]at aj;(have ay:Zau gn I=Kq H G:=by rw[<-ag,<-ah];cases gn<;>cases I<;>rfl);rw[ay];clear ae ag ah ay;have a7:vz (∀W,vx (w.heap.size+3) (((w.alloc (vl #[vb t,va a n c,so vh st,so vh nd,ve gn] 30)).alloc (vl #[vb U,va a2 n2 c2,so vh st2,so vh F,ve I] 30)).alloc (.map Wu 1)) W->vx w.heap.size w W):=λW Z=>(Ar (Ar (Ar (A2 _ _) _) _) _).trans (Z.mono om);go_enter func50,ntmps50;go_wp2;go_loopw [7,31] (λ_ i wr=>vz (vx ((((w.alloc (vl #[vb t,va a n c,so vh st,so vh nd,ve gn] 30)).alloc (vl #[vb U,va a2 n2 c2,so vh st2,so vh F,ve I] 30)).alloc (.map Wu 1)).alloc (vl #[so vh st,so vh st2,so vh nd,so vh F,so vh H,so vh G] 129)).heap.size ((((w.alloc (vl #[vb t,va a n c,so vh st,so vh nd,ve gn] 30)).alloc (vl #[vb U,va a2 n2 c2,so vh st2,so vh F,ve I] 30)).alloc (.map Wu 1)).alloc (vl #[so vh st,so vh st2,so vh nd,so vh F,so vh H,so vh G] 129)) wr)/\((i=so vh 0)\/ (i=so vh 1/\vz (Kq st st2=0))\/ (i=so vh 2/\vz (Kq st st2=0)/\vz (Kq nd F=0))\/ (i=so vh 3/\vz (Kq st st2=0)/\vz (Kq nd F=0)/\vz (Kq H G=0)))) (λ_ i _=>3-(vy i).toNat);exact⟨A2 _ _,.inl rfl⟩;have hh:vz (∀W,vx ((((w.alloc (vl #[vb t,va a n c,so vh st,so vh nd,ve gn] 30)).alloc (vl #[vb U,va a2 n2 c2,so vh st2,so vh F,ve I] 30)).alloc (.map Wu 1)).alloc (vl #[so vh st,so vh st2,so vh nd,so vh F,so vh H,so vh G] 129)).heap.size ((((w.alloc (vl #[vb t,va a n c,so vh st,so vh nd,ve gn] 30)).alloc (vl #[vb U,va a2 n2 c2,so vh st2,so vh F,ve I] 30)).alloc (.map Wu 1)).alloc (vl #[so vh st,so vh st2,so vh nd,so vh F,so vh H,so vh G] 129)) W->vx w.heap.size w W):=λW Z=>(Ar (Ar (Ar (Ar (A2 _ _) _) _) _) _).trans (Z.mono oO);clear a7 ak ax aj a4;obtain⟨ap,rfl|⟨rfl,ee⟩|⟨rfl,ee,o5⟩|⟨rfl,ee,o5,a6⟩⟩:=hrel;(. have c0:wr.cell? ⟨w.heap.size+1+1+1,0,vn⟩=vp (so vh st):=(ap.cell (p:=⟨w.heap.size+1+1+1,0,vn⟩) uD).trans (Xh _ _ _ _ _ _ _);have c1:wr.cell? ⟨w.heap.size+1+1+1,1,vn⟩=vp (so vh st2):=(ap.cell (p:=⟨w.heap.size+1+1+1,1,vn⟩) uD).trans (Xh _ _ _ _ _ _ _);have ac:=Ab (λo=>Ar ap o);have O:=nR;rcases Int.lt_trichotomy st st2 with hc|hc|hc;(. have E:Kq st st2= -1:=tW;have bc:=Ab E;have aa:¬st2<st:=om;clear E;go_wp2;go_ret;exact⟨Bm (by rw[Aa bc];rfl),Aa O _⟩);(. have E:Kq st st2=0:=tJ;have bc:=Ab E;have aa:¬st<st2:=om;have av:¬st2<st:=om;clear E;go_wp2;go_roundw;exact⟨Aa ac _,by simp;exact bc⟩;simp[vy]);. have E:Kq st st2=1:=tL;have bc:=Ab E;clear E;go_wp2;go_ret;exact⟨Bm (by rw[Aa bc];rfl),Aa O _⟩);(. have c0:wr.cell? ⟨w.heap.size+1+1+1,2,vn⟩=vp (so vh nd):=(ap.cell (p:=⟨w.heap.size+1+1+1,2,vn⟩) uD).trans (Xh _ _ _ _ _ _ _);have c1:wr.cell? ⟨w.heap.size+1+1+1,3,vn⟩=vp (so vh F):=(ap.cell (p:=⟨w.heap.size+1+1+1,3,vn⟩) uD).trans (Xh _ _ _ _ _ _ _);have ac:=Ab (λo=>Ar ap o);have O:=nR;rcases Int.lt_trichotomy nd F with hc|hc|hc;(. have E:Kq nd F= -1:=tW;have bc:=Ab E;have aa:¬F<nd:=om;clear E;go_wp2;go_ret;exact⟨Bm (by rw[Aa ee,Dk,Aa bc];rfl),Aa O _⟩);(. have E:Kq nd F=0:=tJ;have bc:=Ab E;have aa:¬nd<F:=om;have av:¬F<nd:=om;clear E;go_wp2;go_roundw;exact⟨Aa ac _,by simp;exact⟨ee,bc⟩⟩;simp[vy]);. have E:Kq nd F=1:=tL;have bc:=Ab E;clear E;go_wp2;go_ret;exact⟨Bm (by rw[Aa ee,Dk,Aa bc];rfl),Aa O _⟩);(. have c0:wr.cell? ⟨w.heap.size+1+1+1,4,vn⟩=vp (so vh H):=(ap.cell (p:=⟨w.heap.size+1+1+1,4,vn⟩) uD).trans (Xh _ _ _ _ _ _ _);have c1:wr.cell? ⟨w.heap.size+1+1+1,5,vn⟩=vp (so vh G):=(ap.cell (p:=⟨w.heap.size+1+1+1,5,vn⟩) uD).trans (Xh _ _ _ _ _ _ _);have ac:=Ab (λo=>Ar ap o);have O:=nR;rcases Int.lt_trichotomy H G with hc|hc|hc;(. have E:Kq H G= -1:=tW;have bc:=Ab E;have aa:¬G<H:=om;clear E;go_wp2;go_ret;exact⟨Bm qAJ,Aa O _⟩);(. have E:Kq H G=0:=tJ;have bc:=Ab E;have aa:¬H<G:=om;have av:¬G<H:=om;clear E;go_wp2;go_roundw;exact⟨Aa ac _,by simp;exact⟨ee,o5,bc⟩⟩;simp[vy]);. have E:Kq H G=1:=tL;have bc:=Ab E;clear E;go_wp2;go_ret;exact⟨Bm qAJ,Aa O _⟩);. have bb:=Aa ao wr (hh _ ap);have e2:=Aa ar wr (hh _ ap);have ba:wr.cell? ⟨w.heap.size,1,vn⟩=vp (va a n c):=(ap.cell (p:=⟨w.heap.size,1,vn⟩) uD).trans (Zcw _ _ _ _ _ _ _);have bg:wr.cell? ⟨w.heap.size+1,1,vn⟩=vp (va a2 n2 c2):=(ap.cell (p:=⟨w.heap.size+1,1,vn⟩) uD).trans (Zcv _ _ _ _ _ _ _);have a3:=Ab (hh _ ap);clear ao ar;go_wp2_with (go_at_call 72;refine(a8 _).mono ?_;rintro e w' ⟨rfl,rfl⟩);go_ret;exact⟨Bm (by rw[Aa ee,Aa o5,Aa a6,Dk,Dk,Dk]),a3⟩
structure F0(w:wd)(B:Nat)(v:vt)(xs:List Fv):Prop where
 own:w.ownsRow B 30 5 v xs.length (fcells xs)
 all:∀x∈xs,FvIn w x
 apart:∀x∈xs,x.f.bytes≠ []->∀b o,x.a=vp ⟨b,o,vn⟩->b<B
theorem F0.nil(w:wd)(B:Nat):F0 w B (va vn 0 0) []:=⟨HM _ _ _ _,(λx E=>absurd E WS),(λx E=>absurd E WS)⟩
theorem F0.lt{B:Nat}{xs:List Fv}(h:F0 w B v xs)(e:v.ownBlock=vp g):B<=g/\g<w.heap.size:=h.own.lt g e
theorem BsIn.grown2{bs:List UInt8}(h:BsIn w a c bs)(G:w.grownBy w' r)(H:bs≠ []->∀b o,a=vp ⟨b,o,vn⟩->vp b≠r):BsIn w' a c bs:=by by_cases E:bs= [];subst E;rcases h with h|h|⟨b,o,F,_⟩;exact .inl h;exact .inr (.inl h);exact .inr (.inl ⟨rfl,_,F⟩);exact h.grown G (H E)
theorem F0.grown{B:Nat}{xs:List Fv}(h:F0 w B v xs)(F:w.grownBy w' r)(O:∀g,r=vp g->B<=g)(I:v.ownBlock=vn\/v.ownBlock≠r):F0 w' B v xs:=by refine⟨h.own.kept F I,λx G=> ?_,h.apart⟩;have E:=h.all x G;refine⟨E.bs.grown2 F (λH b o e e2=> ?_),E.big,E.txt⟩;have:=h.apart x G H b o e;have:=O b e2.symm;omega
theorem F0.below{B:Nat}{xs:List Fv}(h:F0 w B v xs)(E:vx w.heap.size w w'):F0 w' B v xs:=
 h.grown (Gv E) (λg e=>by cases e) (by cases F:v.ownBlock with
  |none=>exact .inl rfl
  |some k=>exact .inr oS)
theorem F0.files{B:Nat}{xs:List Fv}(h:F0 w B v xs)(hl:xs.length<=2199023255552):∃ad c,v=va ad xs.length c/\FsIn w ad c xs:=by exact qL
theorem F0.lin{B:Nat}{xs:List Fv}(h:F0 w B v xs)(E:xs.length<=2199023255552):LIn w v (fls xs):=by obtain⟨ad,c,rfl,F⟩:=h.files E;exact Z7d F rfl
theorem Lp(w:wd){o:Oper}{a:Act}(I:o.guard=vn)(s x:Operand) (ai:o.op=.call {callee:=.builtin .append,args:= #[s,x],argTypes:= #[22,22]}) (base:Nat) (v:vt) (xs:List Fv) (ao:a.eval s=v) (E:F0 w base v xs) (g:Nat) (y:Fv) (ap:a.eval x=va (vp ⟨g,0,vn⟩) 1 1) (hc:∀j u,y.cells[j]? =vp u->w.cell? ⟨g,j,vn⟩=vp u) (aj:FvIn w y) (aa:y.f.bytes≠ []->∀b o,y.a=vp ⟨b,o,vn⟩->b<base) (ar:xs.length+1<=2199023255552) (U:base<=w.heap.size) (h:∀v' w',vz (F0 w' base v' (xs++ [y]))->vz (w.grownBy w' v.ownBlock/\(v'.ownBlock=v.ownBlock\/v'.ownBlock=vp w.heap.size))->wpList v8 ag Q al (a.put o.dst v') w'):wpList v8 ag Q (o::al) a w:=by obtain⟨af,hi,O,ae,ah⟩:=EM Uj;refine HG w I s x 22 ai base 30 af _ 5 64 underlying22 hi O ae ah rfl od v xs.length (fcells xs) ao E.own ⟨g,0,vn⟩ 1 1 y.cells ap rfl ?_ (Vq y) ou om U ?_;exact qQ;intro v' w' ac H _ Z;have hm:=rP;(have G:∀z,z∈xs++ [y]->z.f.bytes≠ []->∀b o,z.a=vp ⟨b,o,vn⟩->b<base:=by intro z ak hn b o e;rcases hm z ak with ak|rfl;exact E.apart z ak hn b o e;exact aa hn b o e);refine h v' w' (Ab ⟨?_,?_,G⟩) (Ab ⟨H,Z⟩);rw[Pw,Pv,VB];exact ac;intro z ak;(have F:FvIn w z:=by rcases hm z ak with ak|rfl;exact E.all z ak;exact aj);refine⟨F.bs.grown2 H (λhn b o e e2=> ?_),F.big,F.txt⟩;have:=G z ak hn b o e;have:=(E.own.lt b e2.symm).1;omega
theorem Z0s:(Tryz.prog.info? 9).map (λi=>(i.zero,i.size,i.bytes))=vp (vp (vb ⟨#[]⟩),1,16):=oR
theorem Hr(w:wd){o:Oper}{a:Act}(H:o.guard=vn)(s x:Operand) (O:o.op=.call {callee:=.builtin .append,args:= #[s,x],argTypes:= #[43,43]}) (base:Nat) (v:vt) (E:List (List UInt8)) (ah:a.eval s=v) (I:SRow w base v E) (g:Nat) (y:List UInt8) (aj:a.eval x=va (vp ⟨g,0,vn⟩) 1 1) (ai:w.cell? ⟨g,0,vn⟩=vp (vb (B y))) (ak:E.length+1<=2097152) (U:base<=w.heap.size) (h:∀v' w',vz (SRow w' base v' (E++ [y]))->vz (w.grownBy w' v.ownBlock)->wpList v8 ag Q al (a.put o.dst v') w'):wpList v8 ag Q (o::al) a w:=by obtain⟨F,hi,ae,af,G⟩:=EM Z0s;refine HG w H s x 43 O base 9 F _ 1 16 underlying43 hi ae af G rfl od v E.length (Wc E) ah I ⟨g,0,vn⟩ 1 1 [vb (B y)] aj rfl (λj u Z=>Rm ai Z) qAY ou om U ?_;intro v' w' ac aa _ _;refine h v' w' (Ab ?_) (Ab aa);unfold SRow;rw[VB];(have:Wc (E++ [y])=Wc E++ [vb (B y)]:=by simp[Wc]);rw[this];exact ac
theorem Ez{r:Nat}{E:List (List UInt8)}(h:SRow w b v E)(k:MapIs w r M):vp r≠v.ownBlock:=by intro e;obtain⟨es,c,hb,_⟩:=k;(rcases h.2 with ⟨ai,_⟩|⟨g,cap,cur,ai,_,af,_⟩);(. rw[ai]at e;cases e);exact yW
theorem SRow.grown{E:List (List UInt8)}(h:SRow w b v E)(G:w.grownBy w' r)(F:v.ownBlock=vn\/v.ownBlock≠r):SRow w' b v E:=World.ownsRow.kept h G F
theorem ES{r:Nat}{xs:List Fv}(h:F0 w b v xs)(k:MapIs w r M):vp r≠v.ownBlock:=by intro e;obtain⟨es,c,hb,_⟩:=k;(rcases h.own.2 with ⟨ai,_⟩|⟨g,cap,cur,ai,_,af,_⟩);(. rw[ai]at e;cases e);exact yW
theorem ER{u:vt}{xs:List Fv}{H:List (List UInt8)}(h:F0 w b v xs)(k:SRow w ac u H):u.ownBlock=vn\/u.ownBlock≠v.ownBlock:=by(rcases k.2 with ⟨E,_⟩|⟨g,cap,cur,E,_,O,_⟩);left;rw[E];rfl;. right;intro e;(rcases h.own.2 with ⟨F,_⟩|⟨g2,Z,U,F,_,G,_⟩);(. rw[E,F]at e;cases e);rw[E,F]at e;have:g=g2:=VK e;subst this;rw[O]at G;have I:=VK G;injection I with _ h4 _;exact absurd h4 od
structure I6(w:wd)(r:Nat)(v4:vt)(M:List Fv)(wr:wd):Prop where
 map:MapIs wr r M
 row:SRow wr w.heap.size v4 (nms M)
 all:∀x∈M,FvIn w x
 bel:vx w.heap.size w wr
 rge:w.heap.size<=r
theorem I6.below{r:Nat}(h:I6 w r E M wr)(F:vx wr.heap.size wr w'):I6 w r E M w':=
 ⟨h.map.below F,h.row.below F,h.all,h.bel.trans (F.mono h.bel.size),h.rge⟩
theorem Yv{xs:List Fv}(M:List Fv)(h:xs[k]? =vp z):(xs.take (k+1)).foldl Ji M=Ji ((xs.take k).foldl Ji M) z:=by rw[XD,h,XW];rfl
theorem KQ(M:List Fv)(y:Fv):(Ji M y).length<=M.length+1:=by unfold Ji;split;(. split;simp;omega);simp
theorem Ss{xs ys:List Fv}(h:FsIn w ah c xs)(k:FsIn w ap d ys)(b7:xs.length=n)(bu:ys.length=m)(d9:n<=12)(d5:m<=12) (bd:w.cell? ⟨g,0,vn⟩=vp (va ah n c)) (ei:w.cell? ⟨g,1,vn⟩=vp (va ap m d)) (bh:g<w.heap.size):vu v8 33 #[va (vp ⟨g,0,vn⟩) 2 2] w λe w'=>∃v out,e=vm v/\F0 w' w.heap.size v out/\nms out=QB (nms ((xs++ys).foldl Ji []))/\(∀x∈out,Bt x.f.name (fls ((xs++ys).foldl Ji []))=vp x.f)/\out.length<=24/\vx w.heap.size w w':=by
 obtain⟨bj,bo,bw,b9,c6,dt⟩:=WW h k b7 bu (λW (a5:vx w.heap.size w W)=>(a5.cell (p:=⟨g,0,vn⟩) bh).trans bd) (λW (a5:vx w.heap.size w W)=>(a5.cell (p:=⟨g,1,vn⟩) bh).trans ei);have db:=gI;have cm:vz (I6 w w.heap.size (va vn 0 0) [] (w.alloc (.map #[] 0))):=⟨MapIs.new w,SRow.nil _ _,λx U=>absurd U WS,Ar (A2 _ _) _,VA _⟩;have sy:=Ab (λ(x y:Fv) (W:wd) (h:FvIn W x) (k:FvIn W y)=>Z0m h k);clear h k b7 bu bd ei;go_enter func33,ntmps33;go_wp2;clear db;go_loopw [4,6,8,9,10,17] (λv4 _ _ _ _ i wr=>∃M:List Fv,vz (I6 w w.heap.size v4 M wr)/\((i=so vh 0/\vz (M= []/\M.length<=0))\/ (i=so vh 1/\vz (M=xs.foldl Ji []/\M.length<=12))\/ (i=so vh 2/\vz (M=(xs++ys).foldl Ji []/\M.length<=24)))) (λ_ _ _ _ _ i _=>2-(vy i).toNat);exact⟨[],cm,.inl ⟨rfl,rfl,oS⟩⟩;obtain⟨M,G,⟨rfl,k6⟩|⟨rfl,k6⟩|⟨rfl,k6⟩⟩:=hrel;(. have ac:=Aa c6 wr G.bel;go_wp2;go_loopw [4,8,9,10,23] (λv4 _ _ _ j F=>∃(k:Nat) (b8:List Fv),k<=n/\j=so vh k/\vz (I6 w w.heap.size v4 b8 F/\b8=(xs.take k).foldl Ji M/\b8.length<=M.length+k)) (λ_ _ _ _ j _=>n-(vy j).toNat);exact⟨0,M,VF _,rfl,G,oS,VA _⟩;obtain⟨k,b8,bn,rfl,bm⟩:=hrel;by_cases aw:k<n;obtain⟨z,ak,i9⟩:=Lm (xs:=xs) (k:=k) (by rw[Aa bw];exact aw);obtain⟨dm,de,g0⟩:=Aa bm;obtain⟨b,o,c9,hb,c0,c1,c2,cp,c8⟩:=bj.get dm.bel ak;have au:=dm.bel.size;have lm:=Ab (bj.all z i9);exact qA;obtain rfl:n=k:=om;obtain⟨dm,de,g0⟩:=Aa bm;rw[VQ (by rw[Aa bw];exact VA _)]at de;have rl:=Ab dm;have ka:vz (b8=xs.foldl Ji []/\b8.length<=12):=jM;exact kY);. have ac:=Aa dt wr G.bel;go_wp2;go_loopw [4,8,9,10,23] (λv4 _ _ _ j F=>∃(k:Nat) (b8:List Fv),k<=m/\j=so vh k/\vz (I6 w w.heap.size v4 b8 F/\b8=(ys.take k).foldl Ji M/\b8.length<=M.length+k)) (λ_ _ _ _ j _=>m-(vy j).toNat);exact⟨0,M,VF _,rfl,G,oS,VA _⟩;obtain⟨k,b8,bn,rfl,bm⟩:=hrel;by_cases aw:k<m;obtain⟨z,ak,i9⟩:=Lm (xs:=ys) (k:=k) (by rw[Aa b9];exact aw);obtain⟨dm,de,g0⟩:=Aa bm;obtain⟨b,o,c9,hb,c0,c1,c2,cp,c8⟩:=bo.get dm.bel ak;have au:=dm.bel.size;have lm:=Ab (bo.all z i9);exact qA;obtain rfl:m=k:=om;obtain⟨dm,de,g0⟩:=Aa bm;rw[VQ (by rw[Aa b9];exact VA _)]at de;have rl:=Ab dm;have ka:vz (b8=(xs++ys).foldl Ji []/\b8.length<=24):=jM;exact kY
 . obtain⟨ao,d8⟩:=Aa k6;have cd:=Ab (Z8f G.row (by simp[nms];omega));have cn:=ao;have dc:=Ab ao;clear ao;go_wp2_with fail;refine cd.mono ?_;rintro e fw ⟨rfl,bf,bb⟩;have E:=Aa G;have bk:=Ez E.row E.map;have lj:=E.map.grown bb bk;have b0:vx w.heap.size w fw:=E.bel.grown bb E.bel.size (λg e=>(World.ownsRow.lt E.row g e).1);obtain⟨cv,ax,ce,dh⟩:=Do E.all bf lj b0;obtain⟨P,af⟩:=exq (QB (nms M));rw[af]at ax;(have ck:P.length=M.length:=by rw[<-af,Z8d];simp[nms]);(have cw:vz (∀s∈P,∃p,fm s M 0=vp p):=by intro s bq;rw[<-af,RX]at bq;exact Zce bq);have du:=Ab af;clear bf bb E bk lj b0 G k6 af cd cn;obtain⟨L,aj⟩:=exq (P.length);rw[aj]at ck;have ay:=Ab aj;(have ds:∃a c,u4=va a L c:=by obtain⟨a,c,e⟩:=Am ax;rw[aj]at e;exact⟨a,c,e⟩);obtain⟨b5,bv,rfl⟩:=ds;clear aj;go_wp2;go_loopw [11,13,59] (λco _ j F=>∃(k:Nat) (out:List Fv),k<=L/\j=so vh k/\vz (F0 F w.heap.size co out/\SRow F w.heap.size (va b5 L bv) P/\MapIs F w.heap.size M/\vx w.heap.size w F/\nms out=P.take k/\(∀x∈out,Bt x.f.name (fls M)=vp x.f)/\out.length=k)) (λ_ _ j _=>L-(vy j).toNat);exact⟨0,[],VF _,rfl,F0.nil _ _,ax,ce,dh,by simp[nms],λx U=>absurd U WS,rfl⟩;obtain⟨k,out,bn,rfl,bm⟩:=hrel;by_cases aw:k<L
   . obtain⟨dm,de,g0,H,O,aa,al⟩:=Aa bm;have ae:k<P.length:=tC;obtain⟨p,ba⟩:=Aa cw P[k] (WO ae);obtain⟨z,ak⟩:=exq (p.2);(have ai:z.f.name=P[k]/\z∈M/\Bt P[k] (fls M)=vp z.f:=by obtain⟨j,x⟩:=p;simp only at ak;subst ak;obtain⟨dj,_,cq,dr⟩:=AH ba;exact⟨dj,YR cq,dr⟩);have f3:=EE g0 P[k] vq;rw[ba]at f3;simp only[ZZ,if_false]at f3;rw[ak,Db]at f3;(have ac:∃I,b5=vp ⟨I,0,vn⟩/\wr.cell? ⟨I,k,vn⟩=vp (vb (B P[k])):=by(rcases de.cases with ⟨Z,e2⟩|⟨I,cap,Z,_,_,_,_,hc⟩);rw[e2]at ae;simp at ae;injection Z with Z _ _;refine⟨I,Z,?_⟩;have:=hc k (B P[k]) (by simp[ae]);rw[VY]at this;exact this);obtain⟨I,rfl,ac⟩:=ac;have au:=H.size;have lm:=Ab (cv z ai.2.1);(have bi:z.f.bytes≠ []->∀b o,z.a=vp ⟨b,o,vn⟩->b<w.heap.size:=by intro bk b o e;(rcases lm.bs with ⟨_,h,_⟩|⟨h,_⟩|⟨dy,dz,dl,cu,_⟩);exact absurd h bk;exact absurd h bk;. rw[dl]at e;cases e;exact cu);have dn:=Ab bi;have bz:vz (z.cells= [vb (B z.f.name),va z.a z.f.bytes.length z.c,so vh z.f.stamp,so vh z.f.node,ve z.f.gone]):=rfl;have bc:=Ab ai;(have cg:vz (P.take (k+1)=P.take k++ [z.f.name]):=by rw[XD,VP ae,ai.1];rfl);obtain⟨a9,da,cj,a7,av,ar⟩:=WW dm de g0 H O aa;clear ba ai bi ak dm de g0 H O aa bm p;obtain⟨c7,k7⟩:=exq (B z.f.name);rw[k7]at f3 bz;clear k7;generalize B P[k]=st at*;generalize z.f.bytes.length=di at*;generalize z.f.stamp=d7 at*;generalize z.f.node=d6 at*;generalize z.f.gone=ek at*;have jv:=gJ;obtain⟨ag,a3,a6,a4⟩:=Do (a9.below jv) (da.below jv) (cj.below jv) (a7.trans (jv.mono au));have b4:=Ab (lm.below a4 (VA _));(have oo:vz (∀j u,z.cells[j]? =vp u->(wr.alloc (vl #[vb c7,va z.a di z.c,so vh d7,so vh d6,ve ek] 30)).cell? ⟨wr.heap.size,j,vn⟩=vp u):=by intro j u bg;rw[Aa bz]at bg;rw[N0 _ _ _ _ rfl];simpa using bg);go_wp2_with (at_builtin;refine Lp _ rfl _ _ rfl w.heap.size _ out rfl ag wr.heap.size z rfl oo b4 dn om oO ?_);intro v' a8 az fh;obtain⟨ei,dq⟩:=Aa fh
     have m8:vz (SRow a8 w.heap.size (va (vp ⟨I,0,vn⟩) L bv) P/\MapIs a8 w.heap.size M/\vx w.heap.size w a8):=
      ⟨a3.grown ei (ER ag a3),a6.grown ei (ES ag a6),a4.grown ei oO (λq e=>(ag.lt e).1)⟩
     have dv:=Ab (Aa az);clear ei dq az fh f3 ac ag a3 a6 a4 b4 oo;go_wp2;go_roundw;obtain⟨cy,df,cz⟩:=Aa m8;refine⟨k+1,out++ [z],om,by go_num,dv,cy,df,cz,?_,?_,by rw[VB];simp;omega⟩;rw[Aa cg,<-Aa av];simp[nms];intro x U;rcases WG.1 U with U|U;exact ar x U;simp at U;subst U;rw[(Aa bc).1];exact bc.2.2;simp[vy];omega
   . obtain rfl:L=k:=om;obtain⟨dm,de,g0,H,O,aa,al⟩:=Aa bm;rw[VQ uG,<-Aa du]at O;obtain⟨a9,a7,av,ar,ct⟩:=HF dm H O aa al;clear dm de g0 H O aa al bm;go_wp2;go_ret;rw[<-Aa dc];exact⟨_,out,rfl,a9,av,ar,by rw[Aa ct];omega,a7⟩
theorem LQ{u:vt}{a b:List Fl}(g:Nat)(h:LIn w v a)(k:LIn w u b)(I:errM a=0)(U:errM b=0)(ae:w.cell? ⟨g,0,vn⟩=vp v)(ac:w.cell? ⟨g,1,vn⟩=vp u)(Z:g<w.heap.size):vu v8 33 #[va (vp ⟨g,0,vn⟩) 2 2] w λe w'=>∃x,e=vm x/\LIn w' x (tog a b)/\vx w.heap.size w w':=by obtain⟨ad,c,xs,rfl,O,F⟩:=h;obtain⟨af,d,ys,rfl,k2,E⟩:=k;obtain⟨a1,a2,aa⟩:=Km.1 I;obtain⟨b1,b2,b3⟩:=Km.1 U;refine(Ss O k2 (Mc F) (Mc E) a1 b1 ae ac Z).mono ?_;rintro e w' ⟨v,out,rfl,hr,G,hl,hn,H⟩;refine⟨v,rfl,?_,H⟩;have:=hr.lin om;rw[CX (xs:=xs) (ys:=ys) (by rw[F];exact aa) (by rw[E];exact b3) _ rfl G hl,F,E]at this;exact this
end
end Go.Proofs.YtleocpdblhbimaaGreatDoor
