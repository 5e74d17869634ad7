import Derived.Test.YtleocpdblhbimaaGreatDoorQ12
import Derived.Deep.RegionHeld3
import Derived.Deep.DeepCutAuto
import Derived.Shelf.Sort.Plain
import Derived.Shelf.Slices.In.SortNone2
import Derived.Sort.OwnSorted
import Derived.MapFrom
set_option linter.unusedVariables false
set_option linter.unusedSimpArgs false
set_option maxRecDepth 100000
set_option maxHeartbeats 8000000
namespace Go.Proofs.YtleocpdblhbimaaGreatDoor
open Go.RowKit Go.Proofs.Tryz
open Go.Value (int)
open Go.IntKind (i64)
variable{x y z:Fv}{out:List Fv}{G N aa ac ai b c d m n:Nat}{a ah ap:Option Addr}{v v':Value}{w w' wr:World}
theorem Ug (x:Int)(w:World):Calls prog 168 #[int i64 x] w fun e w'=>e=.returned (.bool false)/\w'=w:=by have h:(x !=x)=false:=oS;exact yK
theorem Z0r (x:ByteArray)(w:World):Calls prog 167 #[.string x] w fun e w'=>e=.returned (.bool false)/\w'=w:=by have h:(x.toList==x.toList)=true:=oS;go_enter func167,ntmps167;go_wp2;go_ret;exact⟨rfl,rfl⟩
theorem Za6 (x y:Int)(w:World):Calls prog 130 #[int i64 x,int i64 y] w fun e w'=>e=.returned (int i64 (Kq x y))/\w'=w:=by unfold Kq;rcases Int.lt_trichotomy x y with h|h|h;rw[kac h];exact xD;subst h;rw[kab om,kab om];exact xD;rw[kab om,kac h];have E:¬x<y:=om;exact xD
theorem Za5 (x y:List UInt8)(w:World):Calls prog 129 #[.string (B x),.string (B y)] w fun e w'=>e=.returned (int i64 (Dy x y))/\w'=w:=by
 (have E:Op.bytesLess (B x).toList (B y).toList=decide (Dy x y<0):=by rw[Ea,Ea,D8]);(have G:((B x).toList==(B y).toList)=decide (Dy x y=0):=by rw[Ea,Ea,XU,ka2,ka5,BL]);rcases Bu x y with h|h|h
 all_goals (
  rw[h]at E G ⊢
  simp only[Int.reduceLT,Int.reduceEq,Int.reduceNeg,decide_true,kb0]at E G
  clear h
  generalize B x=s at*
  generalize B y=t at*
  go_enter func129,ntmps129
  go_wp2_with (go_at_call 167;refine(Z0r _ _).mono ?_;rintro e w' ⟨rfl,rfl⟩)
  go_ret
  exact⟨rfl,rfl⟩)
theorem Z5w (x y:Bool)(w:World):Calls prog 131 #[.bool x,.bool y] w fun e w'=>e=.returned (int i64 (Zau x y))/\w'=w:=by
 cases x<;>cases y
 all_goals (
  go_enter func131,ntmps131
  go_wp2
  go_ret
  exact⟨rfl,rfl⟩)
theorem Z2a {x y:List UInt8}(h:BsIn w a c x)(E:BsIn w ah ac y):Calls prog 132 #[.slice a x.length c,.slice ah y.length ac] w fun e w'=>e=.returned (int i64 (Dy x y))/\w'=w:=by have e1:=Ze h;have e2:=Ze E;(have e3:(Extern.BytealgCompare.compare #[.slice a x.length c,.slice ah y.length ac]).run prog w=.ok (int i64 (Dy x y)) w:=by change Sem.run prog (do pure (goInt (Extern.BytealgCompare.cmp (<- Extern.Bytes.bytesOf (.slice a x.length c)) (<- Extern.Bytes.bytesOf (.slice ah y.length ac))))) w=_;simp only[kbc,e1,e2,kbp,Result.andThen];rw[Lib.cmp_eq];rfl);clear h E e1 e2;go_enter func132,ntmps132;go_wp2;rw[kbh func169 oR oR oR (e:=Extern.BytealgCompare.compare) oR,e3];simp only[Result.andThen];rw[kbt];go_wp2;go_ret;exact⟨rfl,rfl⟩
theorem Z05 (x y:Fv)(w:World):Calls prog 103 #[x.val,y.val] w fun e w'=>e=.returned (int i64 (Dy x.f.name y.f.name))/\w'=(w.alloc (.cells x.cells.toArray 30)).alloc (.cells y.cells.toArray 30):=by have hc:=Za5 x.f.name y.f.name;rw[Db,Db];unfold Fv.cells Fv.sl;obtain⟨⟨nm,bs,st,nd,gn⟩,a,c⟩:=x;obtain⟨⟨G,E,st2,U,O⟩,a2,c2⟩:=y;simp only at*;generalize B nm=t at*;generalize B G=I at*;generalize bs.length=n at*;generalize E.length=n2 at*;have H:=Ab hc;clear hc;go_enter func103,ntmps103;go_wp2_with (go_at_call 129;refine(H _).mono ?_;rintro e w' ⟨rfl,rfl⟩);go_ret;exact⟨rfl,rfl⟩
theorem Za (h:FvIn w x):Calls prog 105 #[x.val] w fun e w'=>∃a c,e=.returned (Fv.val ⟨x.f,a,c⟩)/\FvIn w' ⟨x.f,a,c⟩/\Below w.heap.size w w'/\∀b o,a=some ⟨b,o,none⟩->w.heap.size<=b/\b<w'.heap.size:=by rw[Db];obtain⟨⟨nm,bs,st,nd,gn⟩,a,c⟩:=x;simp only at*;have ae:=h.bs;have ag:=h.big;have ah:=h.txt;clear h;simp only at ae ag ah;have ar:=Ab (((ae.below ((kaa w.heap.size w).alloc (VA _) (.cells #[.string (B nm),.slice a bs.length c,int i64 st,int i64 nd,.bool gn] 30)) (VA _))).below ((kaa (w.heap.size+1) _).alloc oS (.cells #[.string ⟨#[]⟩,.slice none 0 0,int i64 0,int i64 0,.bool false] 30)) oS);have au:∀W:World,W.ownsRow W.heap.size 5 1 (.slice none 0 0) 0 (u8v []):=fun W=>kaq _ _ _ _;have a7:=Ab ah;obtain⟨n,hn⟩:=exq (bs.length);have af:=Ab hn;have ai:=Ab (fun a c=>Db ⟨⟨nm,bs,st,nd,gn⟩,a,c⟩);simp only at ai;rw[hn]at ag ai ar ⊢;clear ae hn ah;generalize B nm=t at*;go_enter func105,ntmps105;go_wp2_with (at_builtin;refine Qq _ rfl _ _ rfl _ (.slice none 0 0) 0 [] rfl (au _) a n c bs rfl af ar om (VA _) ?_);intro v' E ak aj;obtain⟨H,I,ap,ao,ac⟩:=BsIn.own ak;rw[show bs.length=n from Aa af]at ap;subst ap;have U:((w.alloc (.cells #[.string t,.slice a n c,int i64 st,int i64 nd,.bool gn] 30)).alloc (.cells #[.string ⟨#[]⟩,.slice none 0 0,int i64 0,int i64 0,.bool false] 30)).grownBy E none:=Aa aj;have ay:=U.size;simp only[kaf]at ay;(have O:E.heap[w.heap.size]? =some (.cells #[.string t,.slice a n c,int i64 st,int i64 nd,.bool gn] 30 (0,0)):=by rw[U.block _ oO oS,kai _ _ _ oS,kae]);(have G:E.heap[w.heap.size+1]? =some (.cells #[.string ⟨#[]⟩,.slice none 0 0,int i64 0,int i64 0,.bool false] 30 (0,0)):=by rw[U.block _ oS oS];have:=kae (w.alloc (.cells #[.string t,.slice a n c,int i64 st,int i64 nd,.bool gn] 30)) (.cells #[.string ⟨#[]⟩,.slice none 0 0,int i64 0,int i64 0,.bool false] 30);simpa using this);have a5:=Ab (((kaa w.heap.size w).alloc (VA _) (.cells #[.string t,.slice a n c,int i64 st,int i64 nd,.bool gn] 30)).alloc oS (.cells #[.string ⟨#[]⟩,.slice none 0 0,int i64 0,int i64 0,.bool false] 30));have az:=Ab (a5.grown U oO (fun k e=>by cases e));have a9:E.cell? ⟨w.heap.size,0,none⟩=some (.string t):=Ac O;have bc:E.cell? ⟨w.heap.size,1,none⟩=some (.slice a n c):=Ac O;have bh:E.cell? ⟨w.heap.size,2,none⟩=some (int i64 st):=Ac O;have bd:E.cell? ⟨w.heap.size,3,none⟩=some (int i64 nd):=Ac O;have bg:E.cell? ⟨w.heap.size,4,none⟩=some (.bool gn):=Ac O;have r0:E.cell? ⟨w.heap.size+1,0,none⟩=some (.string ⟨#[]⟩):=Ac G;have r1:E.cell? ⟨w.heap.size+1,1,none⟩=some (.slice none 0 0):=Ac G;have r2:E.cell? ⟨w.heap.size+1,2,none⟩=some (int i64 0):=Ac G;have a8:E.cell? ⟨w.heap.size+1,3,none⟩=some (int i64 0):=Ac G;have ba:E.cell? ⟨w.heap.size+1,4,none⟩=some (.bool false):=Ac G;have f1:=kag E w.heap.size 1 _ _ O;have bb:=kag E (w.heap.size+1) 0 _ _ G;have g1:=kag E (w.heap.size+1) 1 _ _ G;have g2:=kag E (w.heap.size+1) 2 _ _ G;have g3:=kag E (w.heap.size+1) 3 _ _ G;have bf:=kag E (w.heap.size+1) 4 _ _ G;have k1:=Ad E w.heap.size 1 (.slice H n I);obtain⟨al,aa⟩:=Zdv (E.setCell ⟨w.heap.size,1,none⟩ (.slice H n I)) (w.heap.size+1) 30 _ _ _ _ _ (.string t) (.slice H n I) (int i64 st) (int i64 nd) (.bool gn) ((k1.block _ om oS).trans G);have ax:=k1.size;have a3:=aa.size;obtain⟨a4,aw,a6⟩:=ydC al ((az.grown k1 om (fun k e=>by cases e;exact VA _)).grown aa om (fun k e=>by cases e;omega)) ((ao.grown k1 (fun b o e=>by have:=ac b o e;simp;omega)).grown aa (fun b o e=>by have:=ac b o e;simp;omega));(have av:Hid (∀b o,H=some ⟨b,o,none⟩->w.heap.size<=b/\b<((((((E.setCell ⟨w.heap.size,1,none⟩ (.slice H n I)).setCell ⟨w.heap.size+1,0,none⟩ (.string t)).setCell ⟨w.heap.size+1,1,none⟩ (.slice H n I)).setCell ⟨w.heap.size+1,2,none⟩ (int i64 st)).setCell ⟨w.heap.size+1,3,none⟩ (int i64 nd)).setCell ⟨w.heap.size+1,4,none⟩ (.bool gn)).heap.size):=fun b o e=>by have:=ac b o e;omega);clear O G ao ac aj U ak k1 al aa ax a3;go_wp2;refine kal (v:=.agg #[.string t,.slice H n I,int i64 st,int i64 nd,.bool gn]) ?_ rfl ⟨H,I,by rw[Aa ai],⟨a6,by rw[Aa af];exact ag,a7⟩,aw,av⟩;exact kav rfl _ _ _ _ _ _ _ rfl a4 underlying30 rfl oR
theorem IX (w:World)(G E:Obj):Below w.heap.size w ((w.alloc G).alloc E).drew:=Ae (((kaa _ w).alloc (VA _) G).alloc oS E) 1
theorem D4 (w:World)(H G E:Obj):Below w.heap.size w (((w.alloc H).alloc G).alloc E).drew:=Ae ((((kaa _ w).alloc (VA _) H).alloc oS G).alloc oO E) 1
theorem Z57 (w:World)(H G E:Obj)(U O I aa:Value):Below w.heap.size w (((w.alloc H).alloc G).alloc E).drew:=Ae ((((kaa _ w).alloc (VA _) H).alloc oS G).alloc oO E) 1
theorem Zde (a b c d:Int)(W:World):(Instr.index 199 (.agg #[int i64 a,int i64 b,int i64 c,int i64 d]) (int i64 0)).run prog W=.ok (int i64 a) W:=oR
theorem Zdd (a b c d:Int)(W:World):(Instr.index 199 (.agg #[int i64 a,int i64 b,int i64 c,int i64 d]) (int i64 1)).run prog W=.ok (int i64 b) W:=oR
theorem Zdc (a b c d:Int)(W:World):(Instr.index 199 (.agg #[int i64 a,int i64 b,int i64 c,int i64 d]) (int i64 2)).run prog W=.ok (int i64 c) W:=oR
theorem Zdb (a b c d:Int)(W:World):(Instr.index 199 (.agg #[int i64 a,int i64 b,int i64 c,int i64 d]) (int i64 3)).run prog W=.ok (int i64 d) W:=oR
theorem Z98 {a b:Int}(h:a≠0):nz a b=a:=by unfold nz;rw[kac h]
theorem Dk {b:Int}:nz 0 b=b:=by unfold nz;rw[kab od]
theorem Zcr {a:Int}(h:a≠0):(a !=0)=true:=by rw[kaz];exact h
theorem Z04 (aj:FvIn w x)(ah:FvIn w y):Calls prog 104 #[x.val,y.val] w fun e w'=>e=.returned (int i64 (nwr x.f y.f))/\Below w.heap.size w w':=by
 have hb:∀W,Below w.heap.size w W->Calls prog 132 #[.slice x.a x.f.bytes.length x.c,.slice y.a y.f.bytes.length y.c] W fun e w'=>e=.returned (int i64 (Dy x.f.bytes y.f.bytes))/\w'=W:=
  fun W af=>Z2a (aj.bs.below af (VA _)) (ah.bs.below af (VA _))
 have I:=fR;rw[Db,Db,I];clear aj ah I;obtain⟨⟨nm,bs,st,nd,gn⟩,a,c⟩:=x;obtain⟨⟨ak,O,st2,ag,H⟩,a2,c2⟩:=y;simp only at*;generalize B nm=t at*;generalize B ak=al at*;generalize bs.length=n at*;generalize O.length=n2 at*;have ai:=Z5w gn H;generalize Zau gn H=E at*;generalize Dy bs O=G at*;have ac:=Ab ai;have ae:=Ab hb;clear ai hb;go_enter func104,ntmps104;go_wp2
 go_region_held3 (fun W=>Below w.heap.size w W/\W.cell? ⟨w.heap.size,1,none⟩=some (.slice a n c)/\W.cell? ⟨w.heap.size,2,none⟩=some (int i64 st)/\W.cell? ⟨w.heap.size,3,none⟩=some (int i64 nd)/\W.cell? ⟨w.heap.size,4,none⟩=some (.bool gn)/\W.cell? ⟨w.heap.size+1,1,none⟩=some (.slice a2 n2 c2)/\W.cell? ⟨w.heap.size+1,2,none⟩=some (int i64 st2)/\W.cell? ⟨w.heap.size+1,3,none⟩=some (int i64 ag)/\W.cell? ⟨w.heap.size+1,4,none⟩=some (.bool H)) (refine⟨?_, ?_, ?_, ?_, ?_, ?_, ?_, ?_, ?_⟩<;>first|exact IX _ _ _|exact D4 _ _ _ _|exact Z57 _ _ _ _ _ _ _ _|go_keep)
  (first|(go_at_call 130;refine(Za6 _ _ _).mono ?_;rintro e w' ⟨rfl,rfl⟩)|(go_at_call 131;refine(ac _).mono ?_;rintro e w' ⟨rfl,rfl⟩)|(go_at_call 132;refine(ae _ (by first|exact IX _ _ _|exact D4 _ _ _ _)).mono ?_;rintro e w' ⟨rfl,rfl⟩))
 all_goals (
  generalize aa:Kq st st2=k1
  generalize U:Kq nd ag=k2
  have ob:=Ab aa
  have mz:=Ab U
  clear aa U
  have ar:=Zde k1 k2 E G
  have av:=Zdd k1 k2 E G
  have ao:=Zdc k1 k2 E G
  have au:=Zdb k1 k2 E G
  clear ac ae
  go_wp2
  go_loopw [7,30] (fun _ i wr=>Hid (Below w.heap.size w wr)/\((i=int i64 0)\/ (i=int i64 1/\k1=0)\/ (i=int i64 2/\k1=0/\k2=0)\/ (i=int i64 3/\k1=0/\k2=0/\E=0)\/ (i=int i64 4/\k1=0/\k2=0/\E=0/\G=0))) (fun _ i _=>4-(intOf i).toNat)
  . exact⟨D4 _ _ _ _,.inl rfl⟩
  obtain⟨ap,rfl|⟨rfl,rfl⟩|⟨rfl,rfl,rfl⟩|⟨rfl,rfl,rfl,rfl⟩|⟨rfl,rfl,rfl,rfl,rfl⟩⟩:=hrel
  . by_cases h:k1=0
    . subst h
      go_wp2
      exact vD
    . have hb:=Zcr h
      go_wp2
      go_ret
      exact⟨Bm (by rw[Aa ob,Z98 h]),ap⟩
  . by_cases h:k2=0
    . subst h
      go_wp2
      exact vD
    . have hb:=Zcr h
      go_wp2
      go_ret
      exact⟨Bm (by rw[Aa ob,Aa mz,Dk,Z98 h]),ap⟩
  . by_cases h:E=0
    . subst h
      go_wp2
      exact vD
    . have hb:=Zcr h
      go_wp2
      go_ret
      exact⟨Bm (by rw[Aa ob,Aa mz,Dk,Dk,Z98 h]),ap⟩
  . by_cases h:G=0
    . subst h
      go_wp2
      exact vD
    . have hb:=Zcr h
      go_wp2
      go_ret
      exact⟨Bm qAQ,ap⟩
  . go_wp2
    go_ret
    exact⟨Bm qAQ,ap⟩)
theorem Zc4 (a b:Option Addr)(n m c d:Nat)(W:World):(Instr.index 170 (.agg #[.slice a n c,.slice b m d]) (int i64 0)).run prog W=.ok (.slice a n c) W:=oR
theorem Zc3 (a b:Option Addr)(n m c d:Nat)(W:World):(Instr.index 170 (.agg #[.slice a n c,.slice b m d]) (int i64 1)).run prog W=.ok (.slice b m d) W:=oR
def G3 (a b:List Fl):Nat:=if errM a≠0 then errM a else errM b
theorem Z66 {a b:List Fl}(h:errM a≠0):G3 a b=errM a:=by unfold G3;rw[kac h]
theorem Z65 {a b:List Fl}(h:errM a=0):G3 a b=errM b:=by unfold G3;rw[kab (by simp[h])]
theorem Uv {a b:List Fl}:G3 a b=0↔errM a=0/\errM b=0:=by unfold G3;split;(. rename_i h;simp[h]);. rename_i h;simp at h;simp[h]
theorem J1 {xs ys:List Fv}(h:FsIn w ah c xs)(k:FsIn w ap d ys)(aj:xs.length=n)(af:ys.length=m):Calls prog 68 #[.slice ah n c,.slice ap m d] w fun e w'=>e=.returned (int i64 (G3 (fls xs) (fls ys):Nat))/\Below w.heap.size w w':=by have ai:=Ab (fun W (aa:Below w.heap.size w W)=>Jf (h.below aa (VA _)) n aj);have ak:=Ab (fun W (aa:Below w.heap.size w W)=>Jf (k.below aa (VA _)) m af);have ao:=Zc4 ah ap n m c d;have ar:=Zc3 ah ap n m c d;have e0:= @Z66 (fls xs) (fls ys);have e1:= @Z65 (fls xs) (fls ys);obtain⟨E,ae⟩:=exq (G3 (fls xs) (fls ys));rw[ae]at e0 e1 ⊢;generalize errM (fls xs)=x at*;generalize errM (fls ys)=y at*;clear h k aj af ae;have al:=Ab e0;have ag:=Ab e1;clear e0 e1;go_enter func68,ntmps68;go_wp2;go_loopw [6,7,11] (fun _ _ i wr=>Hid (Below w.heap.size w wr)/\((i=int i64 0)\/ (i=int i64 1/\x=0)\/ (i=int i64 2/\x=0/\y=0))) (fun _ _ i _=>2-(intOf i).toNat);exact⟨kaa _ _,.inl rfl⟩;obtain⟨G,rfl|⟨rfl,rfl⟩|⟨rfl,rfl,rfl⟩⟩:=hrel;(. by_cases O:x=0;(. subst O;go_wp2_with (go_at_call 34;refine(ai _ G).mono ?_;rintro e U ⟨rfl,H⟩;have I:=Ab (G.trans (H.mono G.size));clear H);go_roundw;exact⟨I,oS⟩;simp[intOf]);. go_wp2_with (go_at_call 34;refine(ai _ G).mono ?_;rintro e U ⟨rfl,H⟩;have I:=Ab (G.trans (H.mono G.size));clear H);go_ret;exact⟨Bm (by rw[Aa al O]),I⟩);(. have ac:=Aa ag rfl;subst ac;by_cases O:E=0;(. subst O;go_wp2_with (go_at_call 34;refine(ak _ G).mono ?_;rintro e U ⟨rfl,H⟩;have I:=Ab (G.trans (H.mono G.size));clear H);go_roundw;exact⟨I,oS⟩;simp[intOf]);. go_wp2_with (go_at_call 34;refine(ak _ G).mono ?_;rintro e U ⟨rfl,H⟩;have I:=Ab (G.trans (H.mono G.size));clear H);go_ret;exact⟨rfl,I⟩);. have ac:=Aa ag rfl;subst ac;go_wp2;go_ret;exact⟨rfl,G⟩
def Zb5:Value->Nat
 | .slice _ n _=>n
 |_=>0
structure TSt (w:World)(T:List Fl)(N:Nat)(A C:Option Addr×Nat)(pa pb:List Fv)(v:Value)(out:List Fv)(wr:World):Prop where
 fa:FsIn w A.1 A.2 pa
 fb:FsIn w C.1 C.2 pb
 row:FRow wr w.heap.size v out
 bel:Below w.heap.size w wr
 all:fls out++tog (fls pa) (fls pb)=T
 cnt:out.length+pa.length+pb.length<=N
theorem TSt.lt {T:List Fl}{o:Nat}{C:Option Addr×Nat}{E G:List Fv}(h:TSt w T N (some ⟨b,o,none⟩,ac) C (x::E) (y::G) v out wr)(O:Dy x.f.name y.f.name<0)(ak:z.f=x.f)(H:FRow w' w.heap.size v' (out++ [z]))(I:Below w.heap.size w w'):TSt w T N (some (tlA b o ac),ac-1) C E (y::G) v' (out++ [z]) w':=by have bo:=h.all;have hn:=h.cnt;simp only[fls,WN]at bo;rw[O2 O]at bo;refine⟨h.fa.tail,h.fb,H,I, ?_, ?_⟩;exact yX;exact yN
theorem TSt.gt {T:List Fl}{o:Nat}{A:Option Addr×Nat}{E G:List Fv}(h:TSt w T N A (some ⟨b,o,none⟩,ac) (x::E) (y::G) v out wr)(O:0<Dy x.f.name y.f.name)(ak:z.f=y.f)(H:FRow w' w.heap.size v' (out++ [z]))(I:Below w.heap.size w w'):TSt w T N A (some (tlA b o ac),ac-1) (x::E) G v' (out++ [z]) w':=by have bo:=h.all;have hn:=h.cnt;simp only[fls,WN]at bo;rw[GS O]at bo;refine⟨h.fa,h.fb.tail,H,I, ?_, ?_⟩;exact yX;exact yN
theorem TSt.eq {T:List Fl}{o:Nat}{H E:List Fv}(h:TSt w T N (some ⟨b,o,none⟩,ac) (some ⟨aa,ai,none⟩,G) (x::H) (y::E) v out wr)(U:Dy x.f.name y.f.name=0)(ak:z.f=Nj x.f y.f)(I:FRow w' w.heap.size v' (out++ [z]))(O:Below w.heap.size w w'):TSt w T N (some (tlA b o ac),ac-1) (some (tlA aa ai G),G-1) H E v' (out++ [z]) w':=by have bo:=h.all;have hn:=h.cnt;simp only[fls,WN]at bo;rw[GT U]at bo;refine⟨h.fa.tail,h.fb.tail,I,O, ?_, ?_⟩;exact yX;exact yN
theorem O1 {xs ys:List Fv}(h:FsIn w ah c xs)(k:FsIn w ap d ys)(dq:xs.length=n)(c8:ys.length=m)(h6:n+m<=1000):Calls prog 69 #[.slice ah n c,.slice ap m d] w fun e w'=>∃v out,e=.returned v/\FRow w' w.heap.size v out/\fls out=tog (fls xs) (fls ys)/\Below w.heap.size w w':=by
 obtain⟨T,aj⟩:=exq (tog (fls xs) (fls ys));rw[aj];obtain⟨gh,gy,fx⟩:=ydC (TSt.mk (T:=T) (N:=n+m) (A:=(ah,c)) (C:=(ap,d)) h k (FRow.nil w w.heap.size) (kaa _ _) (by simpa using aj) (by simp[dq,c8])) dq c8;clear h k aj dq c8;go_enter func69,ntmps69;go_wp2;go_loopw [0,1,5,6,7] (fun ct co a5 _ _ wr=>∃A C pa pb out,ct=.slice A.1 pa.length A.2/\co=.slice C.1 pb.length C.2/\Hid (TSt w T (n+m) A C pa pb a5 out wr)) (fun ct co _ _ _ _=>Zb5 ct+Zb5 co);exact⟨(ah,c),(ap,d),xs,ys,[],by rw[Aa gy],by rw[Aa fx],gh⟩;obtain⟨⟨A,df⟩,⟨C,dm⟩,pa,pb,out,rfl,rfl,U⟩:=hrel;simp only at*;by_cases a7:pa= []\/pb= []
 . (have e9:fls out++(fls pa++fls pb)=T:=by have fi:=U.all;rcases a7 with rfl|rfl;simpa[fls,Jv]using fi;simpa[fls,Ky]using fi);have dn:=Ab U.fa;have dl:=Ab U.fb;have cm:=U.cnt;have cj:=Ab (And.intro U.row (And.intro U.bel (by omega:out.length+pa.length+pb.length<=1000)));have gx:=Ab e9;(have eb:pa.length=0\/ (0<pa.length/\pb.length=0):=by rcases a7 with rfl|rfl;exact .inl rfl;rcases Nat.eq_zero_or_pos pa.length with h|h;exact .inl h;exact .inr ⟨h,rfl⟩);simp only at dn dl;clear a7 e9 U;have gg:=Zc4 A C pa.length pb.length df dm;have g0:=Zc3 A C pa.length pb.length df dm;have si:=Ab (fun(z:Fv) (W:World) (h:FvIn W z)=>Za h);have ey:Hid (∃ao,pa.length=ao):=⟨_,rfl⟩;obtain⟨ao,b8⟩:=Aa ey;obtain⟨ae,az⟩:=exq (pb.length);have a8:=Ab b8;have ba:=Ab az;rw[b8,az]at gg g0 eb cm cj;rw[b8,az];clear b8 az ey;have f8:(¬(0<ao)/\¬((0:Int)<ao))\/ ((0<ao/\(0:Int)<ao)/\(¬(0<ae)/\¬((0:Int)<ae))):=om;clear eb;rcases f8 with ⟨eo,ff⟩|⟨⟨eo,ff⟩,gi,f4⟩
   all_goals (
    go_wp2
    clear eo ff
    try clear gi f4
    go_loopw [5,9,11,65] (fun a5 _ _ i wr=>∃aa,Hid (FRow wr w.heap.size a5 aa/\Below w.heap.size w wr)/\((i=int i64 0/\Hid (fls aa++(fls pa++fls pb)=T/\aa.length+pa.length+pb.length<=1000))\/ (i=int i64 1/\Hid (fls aa++fls pb=T/\aa.length+pb.length<=1000))\/ (i=int i64 2/\Hid (fls aa=T)))) (fun _ _ _ i _=>2-(intOf i).toNat)
    . exact⟨out,⟨cj.1,cj.2.1⟩,.inl ⟨rfl,gx,by rw[Aa a8,Aa ba];exact cj.2.2⟩⟩
    obtain⟨aa,a6,⟨rfl,a3⟩|⟨rfl,a3⟩|⟨rfl,a3⟩⟩:=hrel
    . have cn:=Ab a3.2
      go_wp2
      go_loopw [5,11,70] (fun a5 _ j bi=>∃(k:Nat) (o2:List Fv),k<=ao/\j=int i64 (k:Int)/\Hid (FRow bi w.heap.size a5 o2/\Below w.heap.size w bi/\fls o2=fls aa++(fls pa).take k/\o2.length=aa.length+k)) (fun _ _ j _=>ao-(intOf j).toNat)
      . exact⟨0,aa,VF _,rfl,a6.1,a6.2,oS,rfl⟩
      obtain⟨k,o2,f7,rfl,bm⟩:=hrel
      by_cases bb:k<ao
      . obtain⟨z,ak,i9⟩:=Lm (xs:=pa) (k:=k) (by rw[Aa a8];exact bb)
        obtain⟨ai,av,cg,b0⟩:=Aa bm
        obtain⟨b,o,c9,hb,c0,c1,c2,ce,ck⟩:=dn.get av ak
        have ei:=av.size
        have lg:=(dn.all z i9).below av (VA _)
        obtain⟨i5,j7,kh⟩:=fE
        have ac:fls o2++ [z.f]=fls aa++(fls pa).take (k+1):=by
         have cu:(fls pa)[k]? =some z.f:=by simp[fls,ak]
         have gz:k<(fls pa).length:=by simp[fls];rw[Aa a8];exact bb
         rw[cg,XD,cu]
         simp
        have k4:=Ab ac
        clear ac
        have jm:=cG
        rw[Db,jm]at i5
        rw[jm]at j7 kh
        have js:=nI
        rw[js]at c1
        have fg:=bV
        have cv:=Aa cn
        have rc:=b0
        rw[Aa a8]at cv
        exact qF
      . obtain rfl:ao=k:=om
        have dp:Hid (fls o2++fls pb=T/\o2.length+pb.length<=1000):=by
         have cg:=bm.2.2.1
         have b0:=bm.2.2.2
         have cd:=Aa a3
         rw[VQ (by simp[fls];rw[Aa a8];exact VA _)]at cg
         exact⟨by rw[cg,VO];exact cd.1,by have:=cd.2;rw[Aa a8]at this;omega⟩
        go_wp2
        go_roundw
        . exact⟨o2,⟨bm.1,bm.2.1⟩,.inr (.inl ⟨rfl,dp⟩)⟩
        simp[intOf]
    . have cn:=Ab a3.2
      go_wp2
      go_loopw [5,11,70] (fun a5 _ j bi=>∃(k:Nat) (o2:List Fv),k<=ae/\j=int i64 (k:Int)/\Hid (FRow bi w.heap.size a5 o2/\Below w.heap.size w bi/\fls o2=fls aa++(fls pb).take k/\o2.length=aa.length+k)) (fun _ _ j _=>ae-(intOf j).toNat)
      . exact⟨0,aa,VF _,rfl,a6.1,a6.2,oS,rfl⟩
      obtain⟨k,o2,f7,rfl,bm⟩:=hrel
      by_cases bb:k<ae
      . obtain⟨z,ak,i9⟩:=Lm (xs:=pb) (k:=k) (by rw[Aa ba];exact bb)
        obtain⟨ai,av,cg,b0⟩:=Aa bm
        obtain⟨b,o,c9,hb,c0,c1,c2,ce,ck⟩:=dl.get av ak
        have ei:=av.size
        have lg:=(dl.all z i9).below av (VA _)
        obtain⟨i5,j7,kh⟩:=fE
        have ac:fls o2++ [z.f]=fls aa++(fls pb).take (k+1):=by
         have cu:(fls pb)[k]? =some z.f:=by simp[fls,ak]
         have gz:k<(fls pb).length:=by simp[fls];rw[Aa ba];exact bb
         rw[cg,XD,cu]
         simp
        have k4:=Ab ac
        clear ac
        have jm:=cG
        rw[Db,jm]at i5
        rw[jm]at j7 kh
        have js:=nI
        rw[js]at c1
        have fg:=bV
        have cv:=Aa cn
        have rc:=b0
        rw[Aa ba]at cv
        exact qF
      . obtain rfl:ae=k:=om
        have dp:Hid (fls o2=T):=by
         have cg:=bm.2.2.1
         have b0:=bm.2.2.2
         have cd:=Aa a3
         rw[VQ (by simp[fls];rw[Aa ba];exact VA _)]at cg
         rw[cg];exact cd.1
        go_wp2
        go_roundw
        . exact⟨o2,⟨bm.1,bm.2.1⟩,.inr (.inr ⟨rfl,dp⟩)⟩
        simp[intOf]
    . go_wp2
      go_ret
      exact⟨_,aa,rfl,a6.1,a3,a6.2⟩)
 . obtain⟨x,pa,rfl⟩:∃x gd,pa=x::gd:=by
    cases pa with
    |nil=>exact absurd (.inl rfl) a7
    |cons x p=>exact⟨x,p,rfl⟩
   obtain⟨y,pb,rfl⟩:∃y f9,pb=y::f9:=by
    cases pb with
    |nil=>exact absurd (.inr rfl) a7
    |cons y p=>exact⟨y,p,rfl⟩
   clear a7
   ·
    have aj:=Aa U
    obtain⟨b,o,c9,hb,c0,c1,c2,ce,ck⟩:=aj.fa.head aj.bel
    obtain⟨G,H,fh,hx,d0,d1,dw,ed,eu⟩:=aj.fb.head aj.bel
    simp only at c9 fh
    subst c9
    subst fh
    have ak:=aj.bel.size
    have c6:FvIn w x:=aj.fa.all x oS
    have dj:FvIn w y:=aj.fb.all y oS
    obtain⟨ar,au,hh,gw⟩:=ydD (fun W=>Z05 x y W) (fun W (I:Below w.heap.size w W)=>Z04 (dj.below I (VA _)) (c6.below I (VA _))) c6 dj
    rw[Db,Db]at ar au
    have fk:=nH
    have e6:y.sl=.slice y.a y.f.bytes.length y.c:=rfl
    have bj:Hid (x.cells.toArray= #[.string (B x.f.name),.slice x.a x.f.bytes.length x.c,int i64 x.f.stamp,int i64 x.f.node,.bool x.f.gone]):=rfl
    have bn:Hid (y.cells.toArray= #[.string (B y.f.name),.slice y.a y.f.bytes.length y.c,int i64 y.f.stamp,int i64 y.f.node,.bool y.f.gone]):=rfl
    rw[Aa bj,Aa bn]at ar
    rw[fk]at c1
    rw[e6]at d1
    obtain⟨aw,dv⟩:=exq (Dy x.f.name y.f.name)
    obtain⟨bw,cq⟩:=exq (nwr y.f x.f)
    rw[dv]at ar
    rw[cq]at au
    have ci:=Ab dv
    have gv:=Ab cq
    clear aj c6 dj fk e6 dv cq
    obtain⟨t,d5⟩:=exq (B x.f.name)
    obtain⟨bk,fe⟩:=exq (B y.f.name)
    obtain⟨ae,az⟩:=exq (x.f.bytes.length)
    obtain⟨bd,en⟩:=exq (y.f.bytes.length)
    rw[d5]at ar au bj c0
    rw[fe]at ar au bn d0
    rw[az]at ar au bj c1
    rw[en]at ar au bn d1
    clear d5 fe az en
    generalize x.f.stamp=st at*
    generalize x.f.node=nd at*
    generalize x.f.gone=gn at*
    generalize y.f.stamp=st2 at*
    generalize y.f.node=bq at*
    generalize y.f.gone=bg at*
    have h1:(0:Int)<((pa.length+1:Nat):Int):=om
    have h7:(0:Int)<((pb.length+1:Nat):Int):=om
    simp only[VG]
    go_upto_region 3 with fail
    go_cut [6,7] (fun f6 f3 wc=>∃g,f6=.pointer (some ⟨g,0,none⟩)/\f3=int i64 aw/\Hid (wc.heap[g]? =some (.cells #[.string t,.slice x.a ae x.c,int i64 st,int i64 nd,.bool gn] 30 (0,0))/\wr.heap.size<=g/\Below wr.heap.size wr wc))
    . go_region_held3 (fun W=>W.cell? ⟨b,o,none⟩=some (.string t)/\W.cell? ⟨b,o+1,none⟩=some (.slice x.a ae x.c)/\W.cell? ⟨b,o+2,none⟩=some (int i64 st)/\W.cell? ⟨b,o+3,none⟩=some (int i64 nd)/\W.cell? ⟨b,o+4,none⟩=some (.bool gn)/\W.cell? ⟨G,H,none⟩=some (.string bk)/\W.cell? ⟨G,H+1,none⟩=some (.slice y.a bd y.c)/\W.cell? ⟨G,H+2,none⟩=some (int i64 st2)/\W.cell? ⟨G,H+3,none⟩=some (int i64 bq)/\W.cell? ⟨G,H+4,none⟩=some (.bool bg)) (refine⟨?_, ?_, ?_, ?_, ?_, ?_, ?_, ?_, ?_, ?_⟩<;>(repeat first|assumption|apply Zaa|apply Qc)) ((go_at_call 103;refine(ar _).mono ?_;rintro e w' ⟨rfl,rfl⟩))
      all_goals go_wp2_with fail
      all_goals go_meet
      . exact⟨_,rfl,rfl,Zed wr _ _ _ _⟩
      . exact⟨_,rfl,rfl,Zee wr _ _ _ _⟩
    rename World=>E
    obtain⟨g,rfl,rfl,bo⟩:=hcut
    obtain⟨z,eg⟩:∃z:Fv,z=(if 0<aw\/ (aw=0/\0<bw)then y else x):=⟨_,rfl⟩
    have b5:=Ab eg
    have ft:aw= -1\/aw=0\/aw=1:=by rw[<-Aa ci];exact Bu _ _
    have ei:=bo.2.2.size
    have ho:=bo.2.1
    have bf:b<wr.heap.size:=om
    have bu:G<wr.heap.size:=om
    have al:=bo.2.2
    have eh:E.cell? ⟨b,o,none⟩=some (.string t):=(al.cell (p:=⟨b,o,none⟩) bf).trans c0
    have fj:E.cell? ⟨b,o+1,none⟩=some (.slice x.a ae x.c):=(al.cell (p:=⟨b,o+1,none⟩) bf).trans c1
    have ej:E.cell? ⟨b,o+2,none⟩=some (int i64 st):=(al.cell (p:=⟨b,o+2,none⟩) bf).trans c2
    have fw:E.cell? ⟨b,o+3,none⟩=some (int i64 nd):=(al.cell (p:=⟨b,o+3,none⟩) bf).trans ce
    have ee:E.cell? ⟨b,o+4,none⟩=some (.bool gn):=(al.cell (p:=⟨b,o+4,none⟩) bf).trans ck
    have cp:E.cell? ⟨G,H,none⟩=some (.string bk):=(al.cell (p:=⟨G,H,none⟩) bu).trans d0
    have da:E.cell? ⟨G,H+1,none⟩=some (.slice y.a bd y.c):=(al.cell (p:=⟨G,H+1,none⟩) bu).trans d1
    have db:E.cell? ⟨G,H+2,none⟩=some (int i64 st2):=(al.cell (p:=⟨G,H+2,none⟩) bu).trans dw
    have cy:E.cell? ⟨G,H+3,none⟩=some (int i64 bq):=(al.cell (p:=⟨G,H+3,none⟩) bu).trans ed
    have dt:E.cell? ⟨G,H+4,none⟩=some (.bool bg):=(al.cell (p:=⟨G,H+4,none⟩) bu).trans eu
    clear c0 c1 c2 ce ck d0 d1 dw ed eu al eg
    obtain⟨a4,ep⟩:∃a4:Bool,a4=decide (0<aw\/ (aw=0/\0<bw)):=⟨_,rfl⟩
    have bh:=Ab ep
    have gu:=Ab (U.bel.trans (bo.2.2.mono ak))
    clear ep
    go_upto_region 4 with fail
    go_cut [45] (fun v b7=>v=.bool a4/\Hid (Below E.heap.size E b7))
    . rcases ft with rfl|rfl|rfl
      . have jy:a4=false:=bh.trans (kak om)
        exact vO
      . have jy:a4=decide (0<bw):=bh.trans (kbk.2 om)
        subst jy
        have a9:b<E.heap.size:=om
        have af:G<E.heap.size:=om
        have ht:∀W:World,Below E.heap.size E W->W.cell? ⟨b,o,none⟩=some (.string t):=fun W I=>(I.cell (p:=⟨b,o,none⟩) a9).trans eh
        have hk:∀W:World,Below E.heap.size E W->W.cell? ⟨b,o+1,none⟩=some (.slice x.a ae x.c):=fun W I=>(I.cell (p:=⟨b,o+1,none⟩) a9).trans fj
        have h4:∀W:World,Below E.heap.size E W->W.cell? ⟨b,o+2,none⟩=some (int i64 st):=fun W I=>(I.cell (p:=⟨b,o+2,none⟩) a9).trans ej
        have hz:∀W:World,Below E.heap.size E W->W.cell? ⟨b,o+3,none⟩=some (int i64 nd):=fun W I=>(I.cell (p:=⟨b,o+3,none⟩) a9).trans fw
        have hs:∀W:World,Below E.heap.size E W->W.cell? ⟨b,o+4,none⟩=some (.bool gn):=fun W I=>(I.cell (p:=⟨b,o+4,none⟩) a9).trans ee
        have h2:∀W:World,Below E.heap.size E W->W.cell? ⟨G,H,none⟩=some (.string bk):=fun W I=>(I.cell (p:=⟨G,H,none⟩) af).trans cp
        have hu:∀W:World,Below E.heap.size E W->W.cell? ⟨G,H+1,none⟩=some (.slice y.a bd y.c):=fun W I=>(I.cell (p:=⟨G,H+1,none⟩) af).trans da
        have h3:∀W:World,Below E.heap.size E W->W.cell? ⟨G,H+2,none⟩=some (int i64 st2):=fun W I=>(I.cell (p:=⟨G,H+2,none⟩) af).trans db
        have hq:∀W:World,Below E.heap.size E W->W.cell? ⟨G,H+3,none⟩=some (int i64 bq):=fun W I=>(I.cell (p:=⟨G,H+3,none⟩) af).trans cy
        have hv:∀W:World,Below E.heap.size E W->W.cell? ⟨G,H+4,none⟩=some (.bool bg):=fun W I=>(I.cell (p:=⟨G,H+4,none⟩) af).trans dt
        clear a9 af
        go_wp2_with fail
        go_region_held3 (fun W=>Below E.heap.size E W) (first|exact Co (kaa _ _)|exact iu) ((go_at_call 104;refine(au _ (Co gu)).mono ?_;rintro e hg ⟨rfl,fo⟩;have iu:Below E.heap.size E hg:=(Co (kaa _ _)).trans fo;clear fo))
        go_wp2_with fail
        go_meet
        exact⟨rfl,iu⟩
      . have jy:a4=true:=bh.trans (kap om)
        exact vO
    rename World=>O
    obtain⟨rfl,gj⟩:=hcut
    have ax:=Aa gj
    obtain⟨bz,fu,du⟩:=Aa bo
    have d9:g<E.heap.size:=by
     rcases YN g E.heap.size with de|de
     . exact de
     . rw[XY de]at bz;cases bz
    have ag:O.heap[g]? =some (.cells #[.string t,.slice x.a ae x.c,int i64 st,int i64 nd,.bool gn] 30 (0,0)):=(ax.block g d9).trans bz
    have b9:Below wr.heap.size wr O:=du.trans (ax.mono du.size)
    have e5:=Ab ag
    have e8:=Ab b9
    have af:G<E.heap.size:=om
    have g7:O.cell? ⟨G,H,none⟩=some (.string bk):=(ax.cell (p:=⟨G,H,none⟩) af).trans cp
    have g9:O.cell? ⟨G,H+1,none⟩=some (.slice y.a bd y.c):=(ax.cell (p:=⟨G,H+1,none⟩) af).trans da
    have g5:O.cell? ⟨G,H+2,none⟩=some (int i64 st2):=(ax.cell (p:=⟨G,H+2,none⟩) af).trans db
    have fy:O.cell? ⟨G,H+3,none⟩=some (int i64 bq):=(ax.cell (p:=⟨G,H+3,none⟩) af).trans cy
    have ha:O.cell? ⟨G,H+4,none⟩=some (.bool bg):=(ax.cell (p:=⟨G,H+4,none⟩) af).trans dt
    obtain⟨fq,dy⟩:=Zdv O g 30 _ _ _ _ _ (.string bk) (.slice y.a bd y.c) (int i64 st2) (int i64 bq) (.bool bg) ag
    have em:=Ab fq
    have et:=Ab (b9.grown dy b9.size (fun k e=>by cases e;exact fu))
    have e0:O.cell? ⟨g,0,none⟩=some (.string t):=Ac ag
    have e1:O.cell? ⟨g,1,none⟩=some (.slice x.a ae x.c):=Ac ag
    have e2:O.cell? ⟨g,2,none⟩=some (int i64 st):=Ac ag
    have e3:O.cell? ⟨g,3,none⟩=some (int i64 nd):=Ac ag
    have g4:O.cell? ⟨g,4,none⟩=some (.bool gn):=Ac ag
    have f0:=kag O g 0 _ _ ag
    have f1:=kag O g 1 _ _ ag
    have f2:=kag O g 2 _ _ ag
    have hf:=kag O g 3 _ _ ag
    have f5:=kag O g 4 _ _ ag
    clear ag b9 ax af fq dy bz fu du d9 eh fj ej fw ee cp da db cy dt
    go_upto_if 45 with (fail)
    go_cut [] (fun b7=>Hid (b7.heap[g]? =some (.cells z.cells.toArray 30 (0,0))/\Below wr.heap.size wr b7))
    . cases a4 with
      |false=>
       have jy:z=x:=by rw[Aa b5,kab (kbj (Aa bh).symm)]
       go_wp2_with fail
       go_meet
       rw[jy,Aa bj]
       exact⟨e5,e8⟩
      |true=>
       have jy:z=y:=by rw[Aa b5,kac (kax (Aa bh).symm)]
       go_wp2_with fail
       go_meet
       rw[jy,Aa bn]
       exact⟨em,et⟩
    clear e0 e1 e2 e3 g4 f0 f1 f2 hf f5 g7 g9 g5 fy ha em et e5 e8
    obtain⟨ay,bv⟩:=Aa hcut
    have lg:FvIn w z:=by
     rw[Aa b5]
     split
     . exact gw
     . exact hh
    have cz:=U.bel.trans (bv.mono ak)
    have i5:=Ab (Za (lg.below cz (VA _)))
    have j7:=Ab (U.row.below bv)
    have js:=bv.size
    have kh:=Ab cz
    rw[Db]at i5
    have jm:=cG
    rw[jm]at ay
    obtain⟨c7,dh⟩:=exq (B z.f.name)
    obtain⟨di,cw⟩:=exq (z.f.bytes.length)
    have fg:Hid (∀a c,Fv.val ⟨z.f,a,c⟩=.agg #[.string c7,.slice a di c,int i64 z.f.stamp,int i64 z.f.node,.bool z.f.gone]/\Fv.cells ⟨z.f,a,c⟩= [.string c7,.slice a di c,int i64 z.f.stamp,int i64 z.f.node,.bool z.f.gone]):=by
     intro a c
     rw[<-dh,<-cw]
     exact⟨rfl,rfl⟩
    rw[dh,cw]at ay i5
    have k4:=Ab (congrArg Fv.f (Aa b5))
    clear dh cw jm lg cz bv hcut
    have h0:Hid (∀v',v'=z->z.f=v'.f):=fun v' e=>by rw[e]
    generalize z.f.stamp=d7 at*
    generalize z.f.node=d6 at*
    generalize z.f.gone=ek at*
    have r0:wc.cell? ⟨g,0,none⟩=some (.string c7):=Ac ay
    have r1:wc.cell? ⟨g,1,none⟩=some (.slice z.a di z.c):=Ac ay
    have r2:wc.cell? ⟨g,2,none⟩=some (int i64 d7):=Ac ay
    have gq:wc.cell? ⟨g,3,none⟩=some (int i64 d6):=Ac ay
    have g8:wc.cell? ⟨g,4,none⟩=some (.bool ek):=Ac ay
    have e4:=SE b o pa.length df
    have e7:=SE G H pb.length dm
    have dz:=U.fa.cap
    have d8:=U.fb.cap
    simp only[VG]at dz d8
    have h5:=fun W=>e4 W dz
    have hp:=fun W=>e7 W d8
    have cm:=U.cnt
    simp only[VG]at cm
    clear ay e4 e7 ar au bn bj
    go_wp2_with fail
    refine i5.mono ?_
    rintro e w6 ⟨dx,ew,rfl,oy,iu,nr⟩
    obtain⟨c5,nw⟩:=Aa fg dx ew
    rw[c5]
    have qj:=iu.size
    obtain⟨l6,jb,im⟩:=bS
    have mi:Hid (∀b o,dx=some ⟨b,o,none⟩->some b≠u5.ownBlock/\b<(w6.alloc (.cells #[.string c7,.slice dx di ew,int i64 d7,int i64 d6,.bool ek] 30)).heap.size):=jB
    have l8:Hid (∀j u,(Fv.cells ⟨z.f,dx,ew⟩)[j]? =some u->(w6.alloc (.cells #[.string c7,.slice dx di ew,int i64 d7,int i64 d6,.bool ek] 30)).cell? ⟨w6.heap.size,j,none⟩=some u):=wR
    clear c5 nw oy iu nr
    go_wp2_with (at_builtin;refine Ei _ rfl _ _ rfl w.heap.size _ out rfl l6 w6.heap.size ⟨z.f,dx,ew⟩ rfl l8 jb mi om oO ?_)
    intro v' rp mn m6
    have m4:=Ab (im.trans m6)
    have hw:=U
    clear l6 jb im mi l8 m6 i5 j7 kh r0 r1 r2 gq g8
    rcases ft with rfl|rfl|rfl
    . have ac:z.f=x.f:=by rw[Aa k4,kab om]
      have bc:=Ab (U.lt (z:=⟨z.f,dx,ew⟩) (by rw[Aa ci];decide) ac mn m4)
      clear ac
      go_wp2
      go_roundw
      . exact⟨_,_,pa,y::pb,_,rfl,oS,bc⟩
      simp[Zb5]
    . have ac:z.f=Nj x.f y.f:=by
       rw[Aa k4]
       unfold Nj
       rw[Aa gv]
       by_cases fp:0<bw
       . rw[kac om,kac fp]
       . rw[kab om,kab fp]
      have bc:=Ab (U.eq (z:=⟨z.f,dx,ew⟩) (by rw[Aa ci]) ac mn m4)
      clear ac
      go_wp2
      go_roundw
      . exact⟨_,_,pa,pb,_,rfl,rfl,bc⟩
      simp[Zb5];omega
    . have ac:z.f=y.f:=by rw[Aa k4,kac om]
      have bc:=Ab (U.gt (z:=⟨z.f,dx,ew⟩) (by rw[Aa ci];decide) ac mn m4)
      clear ac
      go_wp2
      go_roundw
      . exact⟨_,_,x::pa,pb,_,oS,rfl,bc⟩
      simp[Zb5]
def Cy (a b:List Fl):Nat:=if G3 a b≠0 then G3 a b else if 12<(tog a b).length then 11 else 0
def Ga (a b:List Fl):List Fl:=if Cy a b=0 then tog a b else []
theorem BR {a b:List Fl}(h:G3 a b≠0):Cy a b=G3 a b:=by unfold Cy;rw[kac h]
theorem Qf {a b:List Fl}(h:G3 a b=0)(E:12<(tog a b).length):Cy a b=11:=by unfold Cy;rw[kab (by simp[h]),kac E]
theorem J7 {a b:List Fl}(h:G3 a b=0)(E:¬12<(tog a b).length):Cy a b=0:=by unfold Cy;rw[kab (by simp[h]),kab E]
theorem BQ {a b:List Fl}(h:Cy a b≠0):Ga a b= []:=by unfold Ga;rw[kab h]
theorem Sd {a b:List Fl}(h:Cy a b=0):Ga a b=tog a b:=by unfold Ga;rw[kac h]
theorem Z6j {xs ys:List Fv}(h:FsIn w ah c xs)(k:FsIn w ap d ys)(n m:Nat)(ac:xs.length=n)(ae:ys.length=m):Calls prog 48 #[.slice ah n c,.slice ap m d] w fun e w'=>∃v,e=.returned (.tuple #[v,int i64 (Cy (fls xs) (fls ys):Nat)])/\Ans w w' v (Ga (fls xs) (fls ys)):=by have U:=Ab (J1 h k ac ae);by_cases G:G3 (fls xs) (fls ys)=0;(. have aa:=Uv.1 G;have aw:=Rz aa.1;have ar:=Rz aa.2;simp only[fls,WP]at aw ar;obtain⟨ba,az,a6,a9,a7⟩:=ydE (fun(W:World) (ao:Below w.heap.size w W)=>O1 (h.below ao (VA _)) (k.below ao (VA _)) ac ae om) (@Qf (fls xs) (fls ys) G) (@J7 (fls xs) (fls ys) G) (@BQ (fls xs) (fls ys)) (@Sd (fls xs) (fls ys));rw[G]at U;have a4:(tog (fls xs) (fls ys)).length<=1000\/True:=.inr trivial;clear h k ac ae G aa aw ar a4;go_enter func48,ntmps48;go_wp2_with fail;refine U.mono ?_;rintro e ai ⟨rfl,I⟩;have H:=Ab I;clear I;go_wp2_with fail;refine(ba ai H).mono ?_;rintro e bb ⟨v,out,rfl,ag,af,av⟩;(have a8:∃ak c2,v=.slice ak out.length c2:=by obtain⟨a,c,e⟩:=Am ag.own;exact⟨a,c,e⟩);obtain⟨ak,c2,rfl⟩:=a8;obtain⟨a5,a3,au⟩:=ydC ag af (H.trans (av.mono H.size));(have aj:out.length=(tog (fls xs) (fls ys)).length:=by rw[<-af];simp[fls]);have al:=Ab aj;obtain⟨L,O⟩:=exq (out.length);have ay:=Ab O;rw[O];clear ag af av aj O;by_cases ax:12<L;(. go_wp2;go_ret2;have e1:=Aa az (by rw[<-Aa al,Aa ay];exact ax);rw[Aa a9 (by rw[e1];decide),e1];exact⟨_,rfl,Ans.nil au⟩);. go_wp2;go_ret2;have e1:=Aa a6 (by rw[<-Aa al,Aa ay];exact ax);rw[Aa a7 e1,e1,<-Aa a3,<-Aa ay];exact⟨_,rfl,Ans.row a5 uF au⟩);. have e1:=BR G;have e2:=BQ (a:=fls xs) (b:=fls ys) (by rw[e1];exact G);rw[e1,e2];clear e1 e2 h k;generalize G3 (fls xs) (fls ys)=E at*;go_enter func48,ntmps48;go_wp2_with fail;refine U.mono ?_;rintro e ai ⟨rfl,I⟩;have H:=Ab I;clear I;go_wp2;go_ret2;exact⟨_,rfl,Ans.nil H⟩
def Jj (l:List Fl):Prop:=∀(i j:Nat) (x y:Fl),l[i]? =some x->l[j]? =some y->i<j->Dy x.name y.name<0
def Bt (n:List UInt8)(l:List Fl):Option Fl:=l.find? fun y=>y.name==n
theorem AZ:∀(l:List Fl) (p:Option Fl),K7 p l=0->(∀f∈l,Lg f=0)/\Jj l/\(∀x,p=some x->∀f∈l,Dy x.name f.name<0)
 | [],p,_=>⟨fun f I=>absurd I WS,fun i j x y h=>by simp at h,fun x _ f I=>absurd I WS⟩
 |f::r,p,h=>by
  rw[K7]at h;split at h;. rename_i ag;omega
  . rename_i ag;split at h;omega
    . rename_i af;obtain⟨k1,k2,U⟩:=AZ r (some f) h;have ae:Lg f=0:=om;refine⟨?_, ?_, ?_⟩;intro g E;rcases VV.1 E with rfl|E;exact ae;exact k1 g E
      . intro i j x y H G aa
        match i,j,aa with
        |0,j+1,_=>simp at H G;subst H;exact U f rfl y (YR G)
        |i+1,j+1,aa=>simp at H G;exact k2 i j x y H G om
      intro x ac g E;subst ac;(have O:Dy x.name f.name<0:=by(have:behind (some x) f=true:=by simpa using af);exact kax this);rcases VV.1 E with rfl|E;exact O;exact Dw O (U f rfl g E)
theorem Ep {f:Fl}{r:List Fl}(h:Jj (f::r)):Jj r/\∀g∈r,Dy f.name g.name<0:=by constructor;intro i j x y U H O;exact h (i+1) (j+1) x y uT (by simpa using H) om;intro g I;obtain⟨j,E,G⟩:=XP I;exact h 0 (j+1) f g rfl (by simp[VP E,G]) om
theorem Z1o:∀(l:List Fl) (p:Option Fl),(∀f∈l,Lg f=0)->Jj l->(∀x,p=some x->∀f∈l,Dy x.name f.name<0)->K7 p l=0
 | [],p,_,_,_=>rfl
 |f::r,p,h1,h2,h3=>by
  rw[K7];obtain⟨k1,k2⟩:=Ep h2;rw[kab (by simp[h1 f oS]),kab ?_];exact Z1o r (some f) (fun g E=>h1 g (WL _ E)) k1 (fun x G g E=>by cases G;exact k2 g E)
  . cases p with
    |none=>simp[behind]
    |some x=>simp[behind];exact h3 x rfl f oS
theorem Km {l:List Fl}:errM l=0↔l.length<=12/\(∀f∈l,Lg f=0)/\Jj l:=by constructor;intro h;have hl:=Rz h;unfold errM at h;rw[kab om]at h;obtain⟨k1,k2,_⟩:=AZ l none h;exact⟨hl,k1,k2⟩;rintro ⟨I,E,H⟩;unfold errM;rw[kab om];exact Z1o l none E H (fun x G=>by cases G)
end Go.Proofs.YtleocpdblhbimaaGreatDoor
namespace Go.Proofs.YtleocpdblhbimaaGreatDoor
open Go
open Go.Value (int)
open Go.IntKind (i64)
variable{f fs:List Fl}{af:List Nat}{j k m n:Nat}
theorem Rq (n:List UInt8):Bt n []=none:=rfl
theorem Be (n:List UInt8)(x:Fl)(l:List Fl):Bt n (x::l)=if x.name=n then some x else Bt n l:=by unfold Bt;rw[List.find?_cons];by_cases h:x.name=n;simp[h];(have E:(x.name==n)=false:=by simpa using h);rw[E,kab h]
theorem Y4 {n:List UInt8}{l:List Fl}{f:Fl}(h:Bt n l=some f):f.name=n/\f∈l:=by unfold Bt at h;exact⟨by simpa using List.find?_some h,ZJ h⟩
theorem Gm {n:List UInt8}{l:List Fl}(h:∀f∈l,Dy n f.name<0):Bt n l=none:=by unfold Bt;rw[ZI];intro y E;simp;intro e;have:=h y E;rw[e,Om]at this;omega
theorem Tl {x:Fl}{l:List Fl}(H:Jj l)(I:∀g∈l,Dy x.name g.name<0):Jj (x::l):=by
 intro i j a b E hb G
 match i,j,G with
 |0,j+1,_=>simp at E hb;subst E;exact I b (YR hb)
 |i+1,j+1,G=>simp at E hb;exact H i j a b E hb om
theorem Z5e {l:List Fl}(I:Jj l){f:Fl}(E:f∈l):Bt f.name l=some f:=by
 induction l with
 |nil=>cases E
 |cons x l ih=>obtain⟨G,H⟩:=Ep I;rw[Be];rcases VV.1 E with rfl|E;rw[kac rfl];rw[kab ?_];exact ih G E;intro e;have:=H f E;rw[e,Om]at this;omega
theorem IC:∀(a b:List Fl),Jj a->Jj b->(∀n,Bt n a=Bt n b)->a=b
 | [],[],_,_,_=>rfl
 | [],y::b,_,_,h=>by have:=h y.name;rw[Rq,Be,kac rfl]at this;cases this
 |x::a,[],_,_,h=>by have:=h x.name;rw[Rq,Be,kac rfl]at this;cases this
 |x::a,y::b,ha,hb,h=>by
  obtain⟨a1,a2⟩:=Ep ha;obtain⟨b1,b2⟩:=Ep hb;rcases Bu x.name y.name with hc|hc|hc
  . have E:=h x.name
    have H:Bt x.name (y::b)=none:=Gm (fun f G=>by
     rcases VV.1 G with rfl|G
     . omega
     . exact Dw om (b2 f G))
    rw[Be,kac rfl,H]at E;cases E
  have hn:=Je hc;have E:=h x.name;rw[Be,kac rfl,Be,kac hn.symm]at E;have O:x=y:=VK E;subst O;rw[IC a b a1 b1 (fun n=> ?_)];by_cases e:x.name=n;subst e;rw[Gm a2,Gm b2];have:=h n;rw[Be,Be,kab e,kab e]at this;exact this
  . have I:=fU;have E:=h y.name
    have H:Bt y.name (x::a)=none:=Gm (fun f G=>by
     rcases VV.1 G with rfl|G
     . exact I
     . exact Dw I (a2 f G))
    rw[H,Be,kac rfl]at E;cases E
def NG:Option Fl->Option Fl->Option Fl
 |none,y=>y
 |some x,none=>some x
 |some x,some y=>some (Nj x y)
theorem Pp (x:Option Fl):NG x none=x:=by cases x<;>rfl
theorem TE (x y:Fl):Nj x y=x\/Nj x y=y:=by unfold Nj;split;exact .inr rfl;exact .inl rfl
theorem V4 {x y:Fl}(h:x.name=y.name):(Nj x y).name=x.name:=by rcases TE x y with e|e;rw[e];rw[e,h]
theorem Lz:∀(a b:List Fl) (f:Fl),f∈tog a b->f∈a\/f∈b
 | [],b,f,h=>by rw[Jv]at h;exact .inr h
 |x::a,[],f,h=>by rw[Ky]at h;exact .inl h
 |x::a,y::b,f,h=>by
  rcases Bu x.name y.name with hc|hc|hc
  . rw[O2 om]at h
    rcases VV.1 h with rfl|h
    . exact .inl oS
    . rcases Lz a (y::b) f h with h|h
      . exact .inl (WL _ h)
      . exact .inr h
  . rw[GT hc]at h
    rcases VV.1 h with rfl|h
    . rcases TE x y with e|e
      . rw[e];exact .inl oS
      . rw[e];exact .inr oS
    . rcases Lz a b f h with h|h
      . exact .inl (WL _ h)
      . exact .inr (WL _ h)
  . rw[GS om]at h
    rcases VV.1 h with rfl|h
    . exact .inr oS
    . rcases Lz (x::a) b f h with h|h
      . exact .inl h
      . exact .inr (WL _ h)
termination_by a b=>a.length+b.length
theorem Nc:∀(a b:List Fl),Jj a->Jj b->Jj (tog a b)
 | [],b,_,hb=>by rw[Jv];exact hb
 |x::a,[],ha,_=>by rw[Ky];exact ha
 |x::a,y::b,ha,hb=>by
  obtain⟨a1,a2⟩:=Ep ha
  obtain⟨b1,b2⟩:=Ep hb
  rcases Bu x.name y.name with hc|hc|hc
  . rw[O2 om]
    refine Tl (Nc a (y::b) a1 hb) (fun g E=> ?_)
    rcases Lz _ _ g E with h|h
    . exact a2 g h
    . rcases VV.1 h with rfl|h
      . omega
      . exact Dw om (b2 g h)
  . have hn:=Je hc
    rw[GT hc]
    refine Tl (Nc a b a1 b1) (fun g E=> ?_)
    rw[V4 hn]
    rcases Lz _ _ g E with h|h
    . exact a2 g h
    . rw[hn];exact b2 g h
  . have G:=fU
    rw[GS om]
    refine Tl (Nc (x::a) b ha b1) (fun g E=> ?_)
    rcases Lz _ _ g E with h|h
    . rcases VV.1 h with rfl|h
      . exact G
      . exact Dw G (a2 g h)
    . exact b2 g h
termination_by a b=>a.length+b.length
theorem Ro:∀(a b:List Fl),Jj a->Jj b->∀n,Bt n (tog a b)=NG (Bt n a) (Bt n b)
 | [],b,_,_,n=>by rw[Jv,Rq];rfl
 |x::a,[],_,_,n=>by rw[Ky,Rq,Pp]
 |x::a,y::b,ha,hb,n=>by
  obtain⟨a1,a2⟩:=Ep ha
  obtain⟨b1,b2⟩:=Ep hb
  rcases Bu x.name y.name with hc|hc|hc
  . rw[O2 om,Be,Ro a (y::b) a1 hb n,Be n x a]
    by_cases e:x.name=n
    . rw[kac e,kac e]
      have G:Bt n (y::b)=none:=Gm (fun f E=>by
       rw[<-e]
       rcases VV.1 E with rfl|E
       . omega
       . exact Dw om (b2 f E))
      rw[G]
      rfl
    . rw[kab e,kab e]
  . have hn:=Je hc
    rw[GT hc,Be,Ro a b a1 b1 n,Be n x a,Be n y b,V4 hn,<-hn]
    by_cases e:x.name=n
    . rw[kac e,kac e,kac e];rfl
    . rw[kab e,kab e,kab e]
  . have H:=fU
    rw[GS om,Be,Ro (x::a) b ha b1 n,Be n y b]
    by_cases e:y.name=n
    . rw[kac e,kac e]
      have G:Bt n (x::a)=none:=Gm (fun f E=>by
       rw[<-e]
       rcases VV.1 E with rfl|E
       . exact H
       . exact Dw H (a2 f E))
      rw[G]
      rfl
    . rw[kab e,kab e]
termination_by a b=>a.length+b.length
theorem Z64 {a b:List Fl}(G:errM a=0)(O:errM b=0)(H:(tog a b).length<=12):errM (tog a b)=0:=by obtain⟨_,a2,I⟩:=Km.1 G;obtain⟨_,b2,b3⟩:=Km.1 O;refine Km.2 ⟨H,fun f E=> ?_,Nc a b I b3⟩;rcases Lz a b f E with h|h;exact a2 f h;exact b2 f h
theorem Lh {a b:List Fl}:Cy a b=0↔errM a=0/\errM b=0/\(tog a b).length<=12:=by constructor;(. intro h;by_cases E:G3 a b=0;(. obtain⟨G,H⟩:=Uv.1 E;refine⟨G,H, ?_⟩;by_cases hl:12<(tog a b).length;(. rw[Qf E hl]at h;cases h);omega);rw[BR E]at h;exact absurd h E);rintro ⟨G,H,I⟩;exact J7 (Uv.2 ⟨G,H⟩) om
theorem Z2m {a b:List Fl}(h:Cy a b=0):errM (Ga a b)=0:=by obtain⟨E,G,H⟩:=Lh.1 h;rw[Sd h];exact Z64 E G H
def Lu (b:List Nat):Option (List Nat):=
 if b.length<8 then none
 else if 12000<Ak (b.take 4)\/b.length-8<Ak (b.take 4)then none
 else if crcN 0 ((b.drop 8).take (Ak (b.take 4)))=Ak ((b.drop 4).take 4)then some ((b.drop 8).take (Ak (b.take 4)))else none
def stepF (fs:List Fl)(b:List Nat):Option (List Fl×Nat):=
 (Lu b).bind fun ar=>if readE ar=0/\Cy fs (readL ar)=0 then some (Ga fs (readL ar),8+ar.length)else none
inductive Recs:List Fl->List Nat->List Fl->Nat->Prop
 |stop {fs:List Fl} {b:List Nat}:stepF fs b=none->Recs fs b fs 0
 |more {fs:List Fl} {b:List Nat} {f1:List Fl} {k:Nat} {f2:List Fl} {n:Nat}:stepF fs b=some (f1,k)->Recs f1 (b.drop k) f2 n->Recs fs b f2 (k+n)
def Jr (ar:List Nat):List Nat:=Ah ar.length 4++Ah (crcN 0 ar) 4++ar
theorem Ft (E:List Nat):(Jr E).length=8+E.length:=by simp[Jr,Ag];omega
theorem Nf {b:List Nat}(h:Lu b=some af):8+af.length<=b.length/\af.length<=12000/\af.length=Ak (b.take 4)/\af=(b.drop 8).take (Ak (b.take 4))/\crcN 0 af=Ak ((b.drop 4).take 4):=by unfold Lu at h;split at h;(. cases h);. split at h;(. cases h);. split at h;(. rename_i G H E;cases h;(have e:((b.drop 8).take (Ak (b.take 4))).length=Ak (b.take 4):=by rw[VL,VR];omega);exact⟨by rw[e];omega,by rw[e];omega,e,rfl,E⟩);. cases h
theorem SR {b:List Nat}(I:8+af.length<=b.length)(H:af.length<=12000)(O:af.length=Ak (b.take 4))(E:af=(b.drop 8).take (Ak (b.take 4)))(G:crcN 0 af=Ak ((b.drop 4).take 4)):Lu b=some af:=by unfold Lu;rw[kab om,kab om,<-E,kac G]
theorem IF {b:List Nat}(h:Lu b=some af)(c:List Nat):Lu (b++c)=some af:=by obtain⟨O,G,E,H,I⟩:=Nf h;have e1:(b++c).take 4=b.take 4:=XQ om;have e2:(b++c).drop 4=b.drop 4++c:=YB om;have e3:(b++c).drop 8=b.drop 8++c:=YB om;refine SR uW G (by rw[e1];exact E) ?_ ?_;rw[e1,e3,XQ (by rw[VR,<-E];omega)];exact H;rw[e2,XQ uQ];exact I
theorem IE (I:af.length<=12000)(H:∀x∈af,x<256)(c:List Nat):Lu (Jr af++c)=some af:=by refine IF ?_ c;(have e1:(Jr af).take 4=Ah af.length 4:=by unfold Jr;rw[VO,XQ uN,VQ uN]);(have e2:((Jr af).drop 4).take 4=Ah (crcN 0 af) 4:=by unfold Jr;rw[VO,YB uN,XE uN,XN,XQ uN,VQ uN]);(have e3:(Jr af).drop 8=af:=by unfold Jr;rw[YB (by rw[VB,Ag,Ag];decide),XE (by rw[VB,Ag,Ag];decide),XN]);have E:Ak (Ah af.length 4)=af.length:=Ck 4 _ om;have G:Ak (Ah (crcN 0 af) 4)=crcN 0 af:=Ck 4 _ (oI (FI H (p:=0) od));refine SR (by rw[Ft];omega) I (by rw[e1,E]) (by rw[e1,E,e3,VQ (VA _)]) (by rw[e2,G])
theorem Pi {b:List Nat}(h:stepF fs b=some (f,k)):∃E,Lu b=some E/\readE E=0/\Cy fs (readL E)=0/\f=Ga fs (readL E)/\k=8+E.length:=by
 unfold stepF at h
 cases hr:Lu b with
 |none=>rw[hr]at h;cases h
 |some E=>rw[hr,VS]at h;split at h;(. rename_i G;cases h;exact⟨E,rfl,G.1,G.2,rfl,rfl⟩);. cases h
theorem Rc {b:List Nat}(h:Lu b=some af)(E:readE af=0)(G:Cy fs (readL af)=0):stepF fs b=some (Ga fs (readL af),8+af.length):=by unfold stepF;rw[h,VS,kac ⟨E,G⟩]
theorem Jx {b:List Nat}(h:stepF fs b=some (f,k)):8<=k/\k<=b.length:=by obtain⟨G,E,_,_,_,rfl⟩:=Pi h;have:=(Nf E).1;omega
theorem Q4 {b:List Nat}(h:stepF fs b=some (f,k))(c:List Nat):stepF fs (b++c)=some (f,k):=by obtain⟨I,E,G,H,rfl,rfl⟩:=Pi h;exact Rc (IF E c) G H
theorem Recs.le {b:List Nat}(h:Recs fs b f n):n<=b.length:=by
 induction h with
 |stop _=>exact VF _
 |more h1 _ ih=>have:=(Jx h1).2;rw[VR]at ih;omega
theorem Recs.one {g:List Fl}{b:List Nat}(h:Recs fs b f n)(k:Recs fs b g m):f=g/\n=m:=by
 induction h generalizing g m with
 |stop h1=>
  cases k with
  |stop _=>exact⟨rfl,rfl⟩
  |more k1 _=>rw[h1]at k1;cases k1
 |more h1 _ ih=>
  cases k with
  |stop k1=>rw[h1]at k1;cases k1
  |more k1 k2=>rw[h1]at k1;cases k1;obtain⟨e1,e2⟩:=ih k2;exact⟨e1,by rw[e2]⟩
theorem Recs.ex:∀(q:Nat) (fs:List Fl) (b:List Nat),b.length<=q->∃f n,Recs fs b f n
 |0,fs,b,h=>by
  cases E:stepF fs b with
  |none=>exact⟨_,_,.stop E⟩
  |some p=>have:=Jx (f:=p.1) (k:=p.2) E;omega
 |q+1,fs,b,h=>by
  cases E:stepF fs b with
  |none=>exact⟨_,_,.stop E⟩
  |some p=>have H:=Jx (f:=p.1) (k:=p.2) E;obtain⟨f,n,G⟩:=Recs.ex q p.1 (b.drop p.2) uQ;exact⟨f,p.2+n,.more E G⟩
theorem Recs.app {g:List Fl}{a c:List Nat}(h:Recs fs a f n)(E:n=a.length)(k:Recs f c g m):Recs fs (a++c) g (n+m):=by
 induction h with
 | @stop fs b h1=>have:b= []:=ZR.1 E.symm;subst this;rw[XN,VY];exact k
 | @more fs b f1 q f2 n h1 h2 ih=>have G:=(Jx h1).2;have hi:=ih uQ k;rw[WV];refine .more (Q4 h1 c) ?_;rw[YB G];exact hi
theorem Z46 (G:∀x∈af,x<256)(E:readE af=0)(H:Cy fs (readL af)=0)(c:List Nat):stepF fs (Jr af++c)=some (Ga fs (readL af),8+af.length):=by obtain⟨_,_,_,_,_,_,hl⟩:=To E;exact Rc (IE hl G c) E H
theorem RW (G:∀x∈af,x<256)(H:readE af=0)(U:j<8+af.length):stepF fs ((Jr af).take j)=none:=by
 obtain⟨_,_,_,_,_,_,hl⟩:=To H
 cases E:stepF fs ((Jr af).take j)with
 |none=>rfl
 |some p=>obtain⟨O,aa⟩:=p;have I:=Jx E;obtain⟨ae,k1,_,_,_,ac⟩:=Pi (Q4 E ((Jr af).drop j));rw[YE]at k1;have k2:=IE hl G [];rw[XB,k1]at k2;cases k2;rw[VL]at I;omega
theorem T9 (fs:List Fl):Recs fs [] fs 0:=by refine .stop ?_;unfold stepF Lu;rw[kac od];rfl
theorem Recs.snoc {b:List Nat}(h:Recs fs b f b.length)(G:∀x∈af,x<256)(O:readE af=0)(H:Cy f (readL af)=0):Recs fs (b++Jr af) (Ga f (readL af)) (b++Jr af).length:=by have E:=Z46 (fs:=f) G O H [];rw[XB]at E;(have I:Recs f (Jr af) (Ga f (readL af)) (8+af.length+0):=by refine .more E ?_;rw[XE (by rw[Ft];omega)];exact T9 _);have:=h.app rfl I;rw[VB,Ft];exact this
theorem Recs.snoc_less {b:List Nat}(h:Recs fs b f b.length)(G:∀x∈af,x<256)(E:readE af=0)(H:j<8+af.length):Recs fs (b++(Jr af).take j) f b.length:=by have:=h.app rfl (Recs.stop (RW (fs:=f) G E H));rwa [XS]at this
theorem ID (G:∀x∈af,x<256):∀x∈Jr af,x<256:=by intro x E;unfold Jr at E;rcases WG.1 E with h|h;rcases WG.1 h with h|h;exact Et _ _ x h;exact Et _ _ x h;exact G x h
end Go.Proofs.YtleocpdblhbimaaGreatDoor
namespace Go.Proofs.YtleocpdblhbimaaGreatDoor
open Go.RowKit Go.Proofs.Tryz
open Go.Value (int)
open Go.IntKind (i64)
variable{M:List Fv}{b:Nat}{v:Value}{w w':World}
def Z89:Go.Shelf.Ren:=⟨fun|192=>51|190=>73|125=>108|258=>107|128=>143|129=>144|302=>134|303=>135|304=>136|305=>137|306=>138|307=>139|308=>140|309=>141|310=>142|333=>170|329=>171|330=>172|334=>173|335=>174|336=>167|344=>206|n=>n,fun|31=>43|0=>0|9=>9|3=>3|46=>66|51=>35|53=>211|4=>4|183=>202|182=>201|131=>207|5=>5|218=>235|222=>239|228=>285|229=>286|n=>n,fun|n=>n⟩
theorem GY:Go.Proofs.Lays.n192 prog Z89:= {
 mixed:=oR
 f125:=func108.trans (congrArg some oR)
 f128:=func143.trans (congrArg some oR)
 f129:=func144.trans (congrArg some oR)
 f190:=func73.trans (congrArg some oR)
 f192:=func51.trans (congrArg some oR)
 f258:=func107.trans (congrArg some oR)
 f302:=func134.trans (congrArg some oR)
 f303:=func135.trans (congrArg some oR)
 f304:=func136.trans (congrArg some oR)
 f305:=func137.trans (congrArg some oR)
 f306:=func138.trans (congrArg some oR)
 f307:=func139.trans (congrArg some oR)
 f308:=func140.trans (congrArg some oR)
 f309:=func141.trans (congrArg some oR)
 f310:=func142.trans (congrArg some oR)
 f329:=func171.trans (congrArg some oR)
 f330:=func172.trans (congrArg some oR)
 f333:=func170.trans (congrArg some oR)
 f334:=func173.trans (congrArg some oR)
 f335:=func174.trans (congrArg some oR)
 f336:=func167.trans (congrArg some oR)
 f344:=func206.trans (congrArg some oR)
 t0:=underlying0
 a0:=Tryz.isAgg0
 z0:=Tryz.sizeOf0
 v0:=Tryz.zeroValue0
 t3:=underlying3
 a3:=Tryz.isAgg3
 z3:=Tryz.sizeOf3
 v3:=Tryz.zeroValue3
 t4:=underlying4
 a4:=Tryz.isAgg4
 z4:=Tryz.sizeOf4
 v4:=Tryz.zeroValue4
 t5:=underlying5
 a5:=Tryz.isAgg5
 z5:=Tryz.sizeOf5
 v5:=Tryz.zeroValue5
 t9:=underlying9
 a9:=Tryz.isAgg9
 z9:=Tryz.sizeOf9
 v9:=Tryz.zeroValue9
 t31:=underlying43
 a31:=Tryz.isAgg43
 z31:=Tryz.sizeOf43
 v31:=Tryz.zeroValue43
 t46:=underlying66
 a46:=Tryz.isAgg66
 z46:=Tryz.sizeOf66
 v46:=Tryz.zeroValue66
 t51:=underlying35
 a51:=Tryz.isAgg35
 z51:=Tryz.sizeOf35
 v51:=Tryz.zeroValue35
 t53:=underlying211
 a53:=Tryz.isAgg211
 z53:=Tryz.sizeOf211
 v53:=Tryz.zeroValue211
 t131:=underlying207
 a131:=Tryz.isAgg207
 z131:=Tryz.sizeOf207
 v131:=Tryz.zeroValue207
 t182:=underlying201
 a182:=Tryz.isAgg201
 z182:=Tryz.sizeOf201
 v182:=Tryz.zeroValue201
 t183:=underlying202
 a183:=Tryz.isAgg202
 z183:=Tryz.sizeOf202
 v183:=Tryz.zeroValue202
 t218:=underlying235
 a218:=Tryz.isAgg235
 z218:=Tryz.sizeOf235
 v218:=Tryz.zeroValue235
 t222:=underlying239
 a222:=Tryz.isAgg239
 z222:=Tryz.sizeOf239
 v222:=Tryz.zeroValue239
 t228:=underlying285
 a228:=Tryz.isAgg285
 z228:=Tryz.sizeOf285
 v228:=Tryz.zeroValue285
 t229:=underlying286
 a229:=Tryz.isAgg286
 z229:=Tryz.sizeOf286
 v229:=Tryz.zeroValue286}
def QB (ps:List (List UInt8)):List (List UInt8):=ps.mergeSort fun x y=>decide (x<=y)
theorem Z8f {E:List (List UInt8)}(h:SRow w b v E)(af:E.length<=2097152):Calls prog 51 #[v] w fun e w'=>e=.returned (.tuple #[])/\SRow w' b v (QB E)/\w.grownBy w' v.ownBlock:=by(rcases h.2 with ⟨G,aa⟩|⟨g,cap,cur,G,ae,hb,k1,k2,U,H⟩);have O:E= []:=WK aa;subst O;subst G;refine(Any.sort_Strings_none GY none 0 w).mono ?_;rintro e w' ⟨rfl,rfl⟩;(have e0:QB []= []:=by simp[QB]);exact⟨rfl,by rw[e0];exact h,⟨rfl,rfl,rfl,VA _,fun _ _ _=>rfl⟩⟩;subst G;have I:g<w.heap.size:=(World.ownsRow.lt h g rfl).2;have ac:=holds_of_block (ss:=E) hb (by rw[Nat.mul_one]at H;exact H);refine(Any.sort_Strings GY g 0 cap E w ac I om).mono ?_;rintro e w' ⟨rfl,k,os,rfl⟩;refine⟨rfl, ?_,grownBy_sorted _⟩;have hl:(QB E).length=E.length:=List.length_mergeSort _;have:=ownsRow_sorted (base:=b) (e:=9) (n:=k) (os:=os) (ss:=E) (ts:=QB E) hl ae hb k1 k2 U;unfold SRow;rw[hl];exact this
def MapIs (w:World)(r:Nat)(M:List Fv):Prop:=∃es clock,w.heap[r]? =some (.map es clock)/\es.toList.map (fun e=>(e.key,e.val))=M.map (fun x:Fv=>(Value.string (B x.f.name),x.val))
theorem MapIs.new (w:World):MapIs (w.alloc (.map #[] 0)) w.heap.size []:=⟨#[],0,kae _ _,rfl⟩
theorem MapIs.lt {r:Nat}(h:MapIs w r M):r<w.heap.size:=by obtain⟨es,c,G,_⟩:=h;rcases YN r w.heap.size with E|E;exact E;. rw[XY E]at G;cases G
theorem MapIs.grown {r:Nat}{o:Option Nat}(h:MapIs w r M)(G:w.grownBy w' o)(I:some r≠o):MapIs w' r M:=by have hl:=h.lt;obtain⟨es,c,E,H⟩:=h;exact⟨es,c,(G.block r hl I).trans E,H⟩
theorem MapIs.below {r:Nat}(h:MapIs w r M)(E:Below w.heap.size w w'):MapIs w' r M:=h.grown (Gv E) oS
def fm (n:List UInt8):List Fv->Nat->Option (Nat×Fv)
 | [],_=>none
 |x::r,i=>if x.f.name=n then some (i,x)else fm n r (i+1)
theorem Zdz (a b:List UInt8):(B a==B b)=decide (a=b):=by show (a.toArray==b.toArray)=_;rw[XU];simp
theorem EX (n:List UInt8):∀(l:List MapEntry) (M:List Fv) (i:Nat),l.map (fun e=>(e.key,e.val))=M.map (fun x:Fv=>(Value.string (B x.f.name),x.val))->Instr.findNow .string (.string (B n)) l i=some ((fm n M i).map fun p=>(p.1,p.2.val))
 | [],[],i,_=>rfl
 | [],x::M,i,h=>by cases h
 |e::l,[],i,h=>by cases h
 |e::l,x::M,i,h=>by simp only[WN,List.cons.injEq,ZH]at h;obtain⟨⟨E,G⟩,H⟩:=h;rw[Instr.findNow,E];show (match (some (B n==B x.f.name):Option Bool)with|some true=>_|some false=>_|none=>_)=_;by_cases e0:x.f.name=n;(have:(B n==B x.f.name)=true:=by rw[Zdz];exact kap e0.symm);rw[this];simp only[fm,kac e0,Option.map_some,G];(have:(B n==B x.f.name)=false:=by rw[Zdz];exact kak (fun e2=>e0 e2.symm));rw[this];simp only[fm,kab e0];exact EX n l M (i+1) H
theorem AH {n:List UInt8}:∀ {M:List Fv} {i j:Nat} {x:Fv},fm n M i=some (j,x)->x.f.name=n/\i<=j/\M[j-i]? =some x/\Bt n (fls M)=some x.f
 | [],i,j,x,h=>by cases h
 |y::M,i,j,x,h=>by rw[fm]at h;by_cases e:y.f.name=n;(. rw[kac e]at h;cases h;refine⟨e,VA _,oS, ?_⟩;unfold Bt;simp[fls,e]);rw[kab e]at h;obtain⟨E,H,G,b0⟩:=AH h;refine⟨E,om, ?_, ?_⟩;rw[show j-i=(j-(i+1))+1 by omega];simpa using G;exact vC
theorem G0 {n:List UInt8}:∀ {M:List Fv} {i:Nat},fm n M i=none->Bt n (fls M)=none
 | [],i,_=>rfl
 |y::M,i,h=>by rw[fm]at h;by_cases e:y.f.name=n;(. rw[kac e]at h;cases h);rw[kab e]at h;have b0:=G0 h;exact vC
def QH:Value:=.agg #[.string ⟨#[]⟩,.slice none 0 0,.int .i64 0,.int .i64 0,.bool false]
theorem QG (W:World):(zeroValue 30).run prog W=.ok QH W:=Tryz.zeroValue30 W
theorem EE {r:Nat}(h:MapIs w r M)(n:List UInt8)(G:Bool):(Instr.lookup 91 (.map (some r)) (.string (B n)) G).run prog w=.ok (if G then .tuple #[(match fm n M 0 with|some p=>p.2.val|none=>QH),.bool (fm n M 0).isSome]else (match fm n M 0 with|some p=>p.2.val|none=>QH)) w:=by
 obtain⟨es,c,hb,O⟩:=h;have H:=underlying9;have E:=EX n es.toList M 0 O;have hc:∀e,(Instr.checkKey e 10000 9 (.string (B n))).run prog w=.ok () w:=fun e=>kbv (k:=.string (B n)) H uY e 9999;have U:=QG w
 cases I:fm n M 0 with
 |none=>rw[I]at E;simp only[Option.map_none]at E;cases G<;>simp[Instr.lookup,ka0 underlying91,ka6 hb,hc,kbf H E,U,Result.andThen]
 |some p=>rw[I]at E;simp only[Option.map_some]at E;cases G<;>simp[Instr.lookup,ka0 underlying91,ka6 hb,hc,kbf H E,Result.andThen]
def Zap (M:List Fv)(y:Fv):List Fv:=match fm y.f.name M 0 with|some p=>M.set p.1 y|none=>M++ [y]
theorem Z0a {r:Nat}(h:MapIs w r M)(y:Fv):∃w',(Instr.mapUpdate 91 (.map (some r)) (.string (B y.f.name)) y.val).run prog w=.ok () w'/\MapIs w' r (Zap M y)/\w.grownBy w' (some r):=by
 have hl:=h.lt;obtain⟨es,c,hb,I⟩:=h;have U:=underlying9;have G:=EX y.f.name es.toList M 0 I;have hc:(Instr.checkKey false 10000 9 (.string (B y.f.name))).run prog w=.ok () w:=kbv (k:=.string (B y.f.name)) U uY false 9999;have ae:∀o,w.grownBy {w with heap:=w.heap.setIfInBounds r o} (some r):=fun o=>⟨rfl,rfl,rfl,oS,fun k U ah=>by have:r≠k:=fun e=>ah (by rw[e]);simp[this]⟩;have af:∀o,({w with heap:=w.heap.setIfInBounds r o}:World).heap[r]? =some o:=fun o=>by simp[hl]
 cases H:fm y.f.name M 0 with
 |none=>rw[H]at G;simp only[Option.map_none]at G;refine⟨{w with heap:=w.heap.setIfInBounds r (.map (es.push {key:=.string (B y.f.name),val:=y.val,born:=c}) (c+1))}, ?_,⟨_,_,af _, ?_⟩,ae _⟩;simp[Instr.mapUpdate,ka0 underlying91,ka6 hb,hc,kbf U G,MapKept.run_setObj_map _ hb,Result.andThen];unfold Zap;rw[H];simp[I]
 |some p=>rw[H]at G;simp only[Option.map_some]at G;obtain⟨E,al⟩:=p;obtain⟨aj,ao,aa,ak⟩:=AH H;simp only[Nat.sub_zero]at aa;(have hi:E<es.size:=by have ac:E<M.length:=(WY.1 aa).1;have:=congrArg List.length I;simp at this;omega);(have ai:((es[E]?).map (·.key)).getD (.string (B y.f.name))=.string (B y.f.name):=by have O:=congrArg (fun l=>l[E]?) I;simp[aa,hi]at O;rw[Array.getElem?_eq_getElem hi];show es[E].key=_;rw[O.1,aj]);have ag:(Instr.keyThatStays (.string (B y.f.name)) (.string (B y.f.name))).run prog w=.ok (.string (B y.f.name)) w:=MapKept.run_keyThatStays (d:=.string) uY;refine⟨{w with heap:=w.heap.setIfInBounds r (.map (es.modify E fun e=> {e with key:=.string (B y.f.name),val:=y.val}) c)}, ?_,⟨_,_,af _, ?_⟩,ae _⟩;simp[Instr.mapUpdate,ka0 underlying91,ka6 hb,hc,kbf U G,ai,ag,MapKept.run_setObj_map _ hb,Result.andThen];unfold Zap;rw[H];apply ZL;intro i;have O:=congrArg (fun l=>l[i]?) I;simp only[UC,Array.getElem?_toList,YD,Array.getElem?_modify]at O ⊢;by_cases e:E=i;subst e;have ac:E<M.length:=(WY.1 aa).1;simp[hi,ac];simp only[kab e];exact O
end Go.Proofs.YtleocpdblhbimaaGreatDoor
namespace Go.Proofs.YtleocpdblhbimaaGreatDoor
open Go
open Go.Value (int)
open Go.IntKind (i64)
variable{x y:Fv}{M out:List Fv}{s:List UInt8}{i:Nat}
def Ji (M:List Fv)(y:Fv):List Fv:=match fm y.f.name M 0 with|some p=>if 0<nwr y.f p.2.f then M.set p.1 y else M|none=>M++ [y]
def nms (M:List Fv):List (List UInt8):=M.map fun x=>x.f.name
theorem Ov (h:fm y.f.name M 0=none):Ji M y=M++ [y]/\Zap M y=M++ [y]/\nms (Ji M y)=nms M++ [y.f.name]:=by(have e1:Ji M y=M++ [y]:=by unfold Ji;rw[h]);refine⟨e1,by unfold Zap;rw[h],by rw[e1];simp[nms]⟩
theorem Z8k (h:M[i]? =some x)(E:x.f.name=y.f.name):nms (M.set i y)=nms M:=by apply ZL;intro j;simp only[nms,UC,YD];by_cases e:i=j;subst e;have hi:i<M.length:=(WY.1 h).1;rw[h];simp[hi,E];simp[e]
theorem Ou {p:Nat×Fv}(h:fm y.f.name M 0=some p):(0<nwr y.f p.2.f->Ji M y=Zap M y)/\(¬0<nwr y.f p.2.f->Ji M y=M)/\nms (Ji M y)=nms M:=by obtain⟨j,x⟩:=p;obtain⟨G,H,E,I⟩:=AH h;simp only[Nat.sub_zero]at E;refine⟨fun c=> ?_,fun c=> ?_, ?_⟩;unfold Ji Zap;rw[h];simp only;rw[kac c];unfold Ji;rw[h];simp only;rw[kab c];. unfold Ji;rw[h];simp only;split;exact Z8k E G;rfl
theorem Rn (h:x∈Ji M y):x∈M\/x=y:=by unfold Ji at h;split at h;(. split at h;exact List.mem_or_eq_of_mem_set h;exact .inl h);simpa using h
theorem Z0e (n:List UInt8)(M:List Fv)(y:Fv):Bt n (fls (M++ [y]))=match Bt n (fls M)with|some x=>some x|none=>if y.f.name=n then some y.f else none:=by
 unfold Bt;simp only[fls,XC,List.find?_append]
 cases h:List.find? (fun y=>y.name==n) (List.map Fv.f M)with
 |some x=>simp
 |none=>by_cases e:y.f.name=n;simp[e];simp[e]
theorem JC {n:List UInt8}:∀ {M:List Fv} {y x:Fv} {i j:Nat},fm y.f.name M i=some (j,x)->Bt n (fls (M.set (j-i) y))=if y.f.name=n then some y.f else Bt n (fls M)
 | [],y,x,i,j,h=>by cases h
 |z::M,y,x,i,j,h=>by rw[fm]at h;by_cases e:z.f.name=y.f.name;(. rw[kac e]at h;cases h;rw[XT];(show Bt n (y.f::fls M)=if y.f.name=n then some y.f else Bt n (z.f::fls M));rw[Be,Be,e];by_cases e2:y.f.name=n;rw[kac e2,kac e2];rw[kab e2,kab e2,kab e2]);rw[kab e]at h;have E:=(AH h).2.1;have ih:=JC (n:=n) h;rw[show j-i=(j-(i+1))+1 by omega];(show Bt n (z.f::fls (M.set (j-(i+1)) y))=if y.f.name=n then some y.f else Bt n (z.f::fls M));rw[Be,Be,ih];by_cases e2:z.f.name=n;rw[kac e2,kac e2,kab (fun e3=>e (e2.trans e3.symm))];rw[kab e2,kab e2]
theorem Z0f (n:List UInt8)(M:List Fv)(y:Fv):Bt n (fls (Ji M y))=if y.f.name=n then NG (Bt n (fls M)) (some y.f)else Bt n (fls M):=by
 cases h:fm y.f.name M 0 with
 |none=>have hl:=G0 h;rw[(Ov h).1,Z0e];by_cases e:y.f.name=n;subst e;rw[hl,kac rfl,kac rfl];rfl;. rw[kab e,kab e];cases Bt n (fls M)<;>rfl
 |some p=>obtain⟨j,x⟩:=p;obtain⟨H,O,I,E⟩:=AH h;have G:=Ou h;by_cases c:0<nwr y.f x.f;(have e1:Ji M y=M.set j y:=by unfold Ji;rw[h];simp only;rw[kac c]);have:=JC (n:=n) h;rw[Nat.sub_zero]at this;rw[e1,this];by_cases e:y.f.name=n;subst e;rw[kac rfl,kac rfl,E];show some y.f=some (Nj x.f y.f);unfold Nj;rw[kac c];rw[kab e,kab e];rw[G.2.1 c];by_cases e:y.f.name=n;subst e;rw[kac rfl,E];show some x.f=some (Nj x.f y.f);unfold Nj;rw[kab c];rw[kab e]
theorem Uc (n:List UInt8):∀(L M:List Fv),Jj (fls L)->Bt n (fls (L.foldl Ji M))=NG (Bt n (fls M)) (Bt n (fls L))
 | [],M,_=>by rw[List.foldl_nil];exact(Pp _).symm
 |y::L,M,hr=>by obtain⟨E,G⟩:=Ep (f:=y.f) (r:=fls L) hr;rw[List.foldl_cons,Uc n L (Ji M y) E,Z0f];show _=NG (Bt n (fls M)) (Bt n (y.f::fls L));rw[Be];by_cases e:y.f.name=n;subst e;rw[kac rfl,kac rfl,Gm G,Pp];rw[kab e,kab e]
theorem MX (h:(nms M).Nodup):(nms (Ji M y)).Nodup:=by
 cases E:fm y.f.name M 0 with
 |none=>rw[(Ov E).2.2];rw[List.nodup_append];refine⟨h,oS, ?_⟩;intro a H b hb e;simp at hb;subst hb;subst e;have hn:=G0 E;unfold Bt at hn;rw[ZI]at hn;obtain⟨x,I,G⟩:=WU.1 H;exact hn x.f (WU.2 ⟨x,I,rfl⟩) (by simpa using G)
 |some p=>rw[(Ou E).2.2];exact h
theorem Yj:∀(L M:List Fv),(nms M).Nodup->(nms (L.foldl Ji M)).Nodup
 | [],M,h=>h
 |y::L,M,h=>by rw[List.foldl_cons];exact Yj L _ (MX h)
theorem Z7c:∀(a b:List UInt8),a<b↔Dy a b<0
 | [],[]=>by simp[Dy,Lib.compareBytes]
 | [],b::y=>by simp[Dy,Lib.compareBytes]
 |a::x,[]=>by simp[Dy,Lib.compareBytes]
 |a::x,b::y=>by rw[List.cons_lt_cons_iff,Fm];by_cases E:a<b;simp[E];rw[kab E];by_cases G:b<a;(have:a≠b:=by rintro rfl;exact E G);simp[E,G,this];have:=RD E G;subst this;simp[G,Z7c x y]
theorem Z0l (a b:List UInt8):a<=b↔Dy a b<=0:=by rw[<-List.not_lt,Z7c,Ew a b];omega
theorem Z48 {E:List (List UInt8)}(h:E.Nodup):(QB E).Pairwise fun a b=>Dy a b<0:=by have H:=List.pairwise_mergeSort (le:=fun x y:List UInt8=>decide (x<=y)) (fun a b c k1 k2=>by simp only[ka4,Z0l]at*;exact Z6h.trans k1 k2) (fun a b=>by simp only[Bool.or_eq_true,ka4,Z0l];have:=Ew a b;omega) E;have G:(QB E).Nodup:=(List.mergeSort_perm E _).nodup_iff.2 h;have I:=List.Pairwise.and H G;refine I.imp ?_;rintro a b ⟨k1,k2⟩;(have O:Dy a b<=0:=by simpa only[ka4,Z0l]using k1);rcases Bu a b with e|e|e;omega;exact absurd (Je e) k2;omega
theorem RX {E:List (List UInt8)}:s∈QB E↔s∈E:=(List.mergeSort_perm E _).mem_iff
theorem Z8d (E:List (List UInt8)):(QB E).length=E.length:=List.length_mergeSort _
theorem Zce (h:s∈nms M):∃p,fm s M 0=some p:=by
 cases G:fm s M 0 with
 |some p=>exact⟨p,rfl⟩
 |none=>have hn:=G0 G;unfold Bt at hn;rw[ZI]at hn;obtain⟨x,H,E⟩:=WU.1 h;exact absurd (by simpa using E) (hn x.f (WU.2 ⟨x,H,rfl⟩))
theorem CX {xs ys:List Fv}(aa:Jj (fls xs))(U:Jj (fls ys))(M:List Fv)(ae:M=(xs++ys).foldl Ji [])(aj:nms out=QB (nms M))(ak:∀x∈out,Bt x.f.name (fls M)=some x.f):fls out=tog (fls xs) (fls ys):=by
 (have aw:(nms M).Nodup:=by rw[ae];exact Yj _ _ (by simp[nms]));have I:=Z48 aw;rw[<-aj]at I
 have ag:Jj (fls out):=by
  intro i j a b E hb ap;rw[YK]at I;simp only[fls,UC]at E hb
  cases ac:out[i]? with
  |none=>rw[ac]at E;cases E
  |some u=>
   cases H:out[j]? with
   |none=>rw[H]at hb;cases hb
   |some v=>rw[ac]at E;rw[H]at hb;simp at E hb;subst E;subst hb;obtain⟨hi,ar⟩:=WY.1 ac;obtain⟨ax,au⟩:=WY.1 H;have:=I i j (by simpa[nms]using hi) (by simpa[nms]using ax) ap;simpa[nms,ar,au]using this
 (have ay:∀n,Bt n (fls M)=NG (Bt n (fls xs)) (Bt n (fls ys)):=by intro n;rw[ae,XW,Uc n ys _ U,Uc n xs _ aa];rfl);refine IC _ _ ag (Nc _ _ aa U) (fun n=> ?_);rw[Ro _ _ aa U,<-ay]
 cases O:Bt n (fls M)with
 |none=>
  cases ao:Bt n (fls out)with
  |none=>rfl
  |some f=>obtain⟨hn,hm⟩:=Y4 ao;obtain⟨x,G,rfl⟩:=WU.1 hm;have:=ak x G;rw[hn,O]at this;cases this
 |some f=>obtain⟨hn,hm⟩:=Y4 O;obtain⟨x,G,rfl⟩:=WU.1 hm;(have av:n∈nms out:=by rw[aj,RX];exact WU.2 ⟨x,G,hn⟩);obtain⟨z,ai,af⟩:=WU.1 av;have al:=ak z ai;rw[af,O]at al;have ah:=Z5e ag (WU.2 ⟨z,ai,rfl⟩);rw[af]at ah;rw[ah];exact al.symm
end Go.Proofs.YtleocpdblhbimaaGreatDoor
namespace Go.Proofs.YtleocpdblhbimaaGreatDoor
open Go.RowKit Go.Proofs.Tryz
open Go.Value (int)
open Go.IntKind (i64)
variable{ag:Array Oper}{Q:Exit->Act->World->Prop}{x y z:Fv}{M:List Fv}{al:List Oper}{ac b c d g k m n:Nat}{o:Oper}{a ah ap:Option Addr}{r:Option Nat}{E v:Value}{w w' wr:World}
theorem I8 (a b:ByteArray)(w:World):Calls prog 106 #[.string a,.string b] w fun e w'=>e=.returned (int i64 (Lib.compareBytes a.data.toList b.data.toList))/\w'=w:=by go_enter func106,ntmps106;go_wp2;rw[kbh func133 oR oR oR (e:=Extern.BytealgCompare.compare) oR,Lib.run_compareString];simp only[Result.andThen];rw[kbt];go_wp2;go_ret;exact⟨rfl,rfl⟩
theorem Wd (x y:List UInt8)(w:World):Calls prog 72 #[.string (B x),.string (B y)] w fun e w'=>e=.returned (int i64 (Dy x y))/\w'=w:=by have E:=Ab (I8 (B x) (B y) w);rw[BG,BG]at E;generalize B x=s at*;generalize B y=t at*;go_enter func72,ntmps72;go_wp2_with (go_at_call 106;refine E.mono ?_;rintro e w' ⟨rfl,rfl⟩);go_ret;exact⟨rfl,rfl⟩
theorem Xh (w:World)(I H G:Obj)(E:Array Value)(t:TypeId)(j:Nat):((((w.alloc I).alloc H).alloc G).alloc (.cells E t)).cell? ⟨w.heap.size+1+1+1,j,none⟩=E[j]? :=
 kar _ _ _ _ (by rw[kaf,kaf,kaf])
theorem Zcw (w:World)(I G H:Obj)(E:Array Value)(t:TypeId)(j:Nat):((((w.alloc (.cells E t)).alloc I).alloc G).alloc H).cell? ⟨w.heap.size,j,none⟩=E[j]? :=by rw[kam _ _ _ (by rw[kaf,kaf,kaf];omega),kam _ _ _ (by rw[kaf,kaf];omega),kam _ _ _ (by rw[kaf];omega)];exact kar _ _ _ _ rfl
theorem Zcv (w:World)(I G H:Obj)(E:Array Value)(t:TypeId)(j:Nat):((((w.alloc I).alloc (.cells E t)).alloc G).alloc H).cell? ⟨w.heap.size+1,j,none⟩=E[j]? :=by rw[kam _ _ _ (by rw[kaf,kaf,kaf];omega),kam _ _ _ (by rw[kaf,kaf];omega)];exact kar _ _ _ _ (by rw[kaf])
theorem Z0m (ay:FvIn w x)(ar:FvIn w y):Calls prog 50 #[x.val,y.val] w fun e w'=>e=.returned (int i64 (nwr x.f y.f))/\Below w.heap.size w w':=by
 have a4:∀W,Below w.heap.size w W->(convert 23 9 (.slice x.a x.f.bytes.length x.c)).run prog W=.ok (.string (B x.f.bytes)) W:=fun W ac=>Ol (ay.bs.below ac (VA _));have aw:∀W,Below w.heap.size w W->(convert 23 9 (.slice y.a y.f.bytes.length y.c)).run prog W=.ok (.string (B y.f.bytes)) W:=fun W ac=>Ol (ar.bs.below ac (VA _));have ba:=Ab (Wd x.f.bytes y.f.bytes);have ak:=fR;rw[Db,Db,ak];clear ay ar ak;obtain⟨⟨nm,bs,st,nd,gn⟩,a,c⟩:=x;obtain⟨⟨a7,ah,st2,G,O⟩,a2,c2⟩:=y;simp only at*;have au:=Ab a4;have av:=Ab aw;clear a4 aw;generalize B nm=t at*;generalize B a7=aa at*;generalize B bs=bf at*;generalize B ah=bb at*;generalize bs.length=n at*;generalize ah.length=n2 at*;generalize Dy bs ah=bg at*;have a6:=gI;have ao:=Z0b ((w.alloc (.cells #[.string t,.slice a n c,int i64 st,int i64 nd,.bool gn] 30)).alloc (.cells #[.string aa,.slice a2 n2 c2,int i64 st2,int i64 G,.bool O] 30));have ag:=fun g=>IZ (((w.alloc (.cells #[.string t,.slice a n c,int i64 st,int i64 nd,.bool gn] 30)).alloc (.cells #[.string aa,.slice a2 n2 c2,int i64 st2,int i64 G,.bool O] 30)).alloc (.map Wu 1)) _ g (kae _ _);simp only[kaf]at ao ag;have az:=ag gn;have al:=ag O;obtain⟨I,ai⟩:∃I:Int,(if gn then 1 else 0)=I:=⟨_,rfl⟩;obtain⟨H,aj⟩:∃H:Int,(if O then 1 else 0)=H:=⟨_,rfl⟩;rw[ai]at az;rw[aj]at al;(have a3:Zau gn O=Kq I H:=by rw[<-ai,<-aj];cases gn<;>cases O<;>rfl);rw[a3];clear ag ai aj a3;have a9:Hid (∀W,Below (w.heap.size+3) (((w.alloc (.cells #[.string t,.slice a n c,int i64 st,int i64 nd,.bool gn] 30)).alloc (.cells #[.string aa,.slice a2 n2 c2,int i64 st2,int i64 G,.bool O] 30)).alloc (.map Wu 1)) W->Below w.heap.size w W):=fun W ac=>(Ar (Ar (Ar (kaa _ _) _) _) _).trans (ac.mono om);go_enter func50,ntmps50;go_wp2;go_loopw [7,31] (fun _ i wr=>Hid (Below ((((w.alloc (.cells #[.string t,.slice a n c,int i64 st,int i64 nd,.bool gn] 30)).alloc (.cells #[.string aa,.slice a2 n2 c2,int i64 st2,int i64 G,.bool O] 30)).alloc (.map Wu 1)).alloc (.cells #[int i64 st,int i64 st2,int i64 nd,int i64 G,int i64 I,int i64 H] 129)).heap.size ((((w.alloc (.cells #[.string t,.slice a n c,int i64 st,int i64 nd,.bool gn] 30)).alloc (.cells #[.string aa,.slice a2 n2 c2,int i64 st2,int i64 G,.bool O] 30)).alloc (.map Wu 1)).alloc (.cells #[int i64 st,int i64 st2,int i64 nd,int i64 G,int i64 I,int i64 H] 129)) wr)/\((i=int i64 0)\/ (i=int i64 1/\Hid (Kq st st2=0))\/ (i=int i64 2/\Hid (Kq st st2=0)/\Hid (Kq nd G=0))\/ (i=int i64 3/\Hid (Kq st st2=0)/\Hid (Kq nd G=0)/\Hid (Kq I H=0)))) (fun _ i _=>3-(intOf i).toNat);exact⟨kaa _ _,.inl rfl⟩;have hh:Hid (∀W,Below ((((w.alloc (.cells #[.string t,.slice a n c,int i64 st,int i64 nd,.bool gn] 30)).alloc (.cells #[.string aa,.slice a2 n2 c2,int i64 st2,int i64 G,.bool O] 30)).alloc (.map Wu 1)).alloc (.cells #[int i64 st,int i64 st2,int i64 nd,int i64 G,int i64 I,int i64 H] 129)).heap.size ((((w.alloc (.cells #[.string t,.slice a n c,int i64 st,int i64 nd,.bool gn] 30)).alloc (.cells #[.string aa,.slice a2 n2 c2,int i64 st2,int i64 G,.bool O] 30)).alloc (.map Wu 1)).alloc (.cells #[int i64 st,int i64 st2,int i64 nd,int i64 G,int i64 I,int i64 H] 129)) W->Below w.heap.size w W):=fun W ac=>(Ar (Ar (Ar (Ar (kaa _ _) _) _) _) _).trans (ac.mono oO);clear a9 ao az al a6;obtain⟨ap,rfl|⟨rfl,ee⟩|⟨rfl,ee,o5⟩|⟨rfl,ee,o5,a8⟩⟩:=hrel;(. have c0:wr.cell? ⟨w.heap.size+1+1+1,0,none⟩=some (int i64 st):=(ap.cell (p:=⟨w.heap.size+1+1+1,0,none⟩) uD).trans (Xh _ _ _ _ _ _ _);have c1:wr.cell? ⟨w.heap.size+1+1+1,1,none⟩=some (int i64 st2):=(ap.cell (p:=⟨w.heap.size+1+1+1,1,none⟩) uD).trans (Xh _ _ _ _ _ _ _);have af:=Ab (fun o=>Ar ap o);have U:=nR;rcases Int.lt_trichotomy st st2 with hc|hc|hc;(. have E:Kq st st2= -1:=tW;have bc:=Ab E;have ae:¬st2<st:=om;clear E;go_wp2;go_ret;exact⟨Bm (by rw[Aa bc];rfl),Aa U _⟩);(. have E:Kq st st2=0:=tJ;have bc:=Ab E;have ae:¬st<st2:=om;have ax:¬st2<st:=om;clear E;go_wp2;go_roundw;exact⟨Aa af _,by simp;exact bc⟩;simp[intOf]);. have E:Kq st st2=1:=tL;have bc:=Ab E;clear E;go_wp2;go_ret;exact⟨Bm (by rw[Aa bc];rfl),Aa U _⟩);(. have c0:wr.cell? ⟨w.heap.size+1+1+1,2,none⟩=some (int i64 nd):=(ap.cell (p:=⟨w.heap.size+1+1+1,2,none⟩) uD).trans (Xh _ _ _ _ _ _ _);have c1:wr.cell? ⟨w.heap.size+1+1+1,3,none⟩=some (int i64 G):=(ap.cell (p:=⟨w.heap.size+1+1+1,3,none⟩) uD).trans (Xh _ _ _ _ _ _ _);have af:=Ab (fun o=>Ar ap o);have U:=nR;rcases Int.lt_trichotomy nd G with hc|hc|hc;(. have E:Kq nd G= -1:=tW;have bc:=Ab E;have ae:¬G<nd:=om;clear E;go_wp2;go_ret;exact⟨Bm (by rw[Aa ee,Dk,Aa bc];rfl),Aa U _⟩);(. have E:Kq nd G=0:=tJ;have bc:=Ab E;have ae:¬nd<G:=om;have ax:¬G<nd:=om;clear E;go_wp2;go_roundw;exact⟨Aa af _,by simp;exact⟨ee,bc⟩⟩;simp[intOf]);. have E:Kq nd G=1:=tL;have bc:=Ab E;clear E;go_wp2;go_ret;exact⟨Bm (by rw[Aa ee,Dk,Aa bc];rfl),Aa U _⟩);. have c0:wr.cell? ⟨w.heap.size+1+1+1,4,none⟩=some (int i64 I):=(ap.cell (p:=⟨w.heap.size+1+1+1,4,none⟩) uD).trans (Xh _ _ _ _ _ _ _);have c1:wr.cell? ⟨w.heap.size+1+1+1,5,none⟩=some (int i64 H):=(ap.cell (p:=⟨w.heap.size+1+1+1,5,none⟩) uD).trans (Xh _ _ _ _ _ _ _);have af:=Ab (fun o=>Ar ap o);have U:=nR;rcases Int.lt_trichotomy I H with hc|hc|hc;(. have E:Kq I H= -1:=tW;have bc:=Ab E;have ae:¬H<I:=om;clear E;go_wp2;go_ret;exact⟨Bm qAJ,Aa U _⟩);(. have E:Kq I H=0:=tJ;have bc:=Ab E;have ae:¬I<H:=om;have ax:¬H<I:=om;clear E;go_wp2;go_roundw;exact⟨Aa af _,by simp;exact⟨ee,o5,bc⟩⟩;simp[intOf]);. have E:Kq I H=1:=tL;have bc:=Ab E;clear E;go_wp2;go_ret;exact⟨Bm qAJ,Aa U _⟩
 . have e1:=Aa au wr (hh _ ap);have e2:=Aa av wr (hh _ ap);have bd:wr.cell? ⟨w.heap.size,1,none⟩=some (.slice a n c):=(ap.cell (p:=⟨w.heap.size,1,none⟩) uD).trans (Zcw _ _ _ _ _ _ _);have bh:wr.cell? ⟨w.heap.size+1,1,none⟩=some (.slice a2 n2 c2):=(ap.cell (p:=⟨w.heap.size+1,1,none⟩) uD).trans (Zcv _ _ _ _ _ _ _);have a5:=Ab (hh _ ap);clear au av;go_wp2_with (go_at_call 72;refine(ba _).mono ?_;rintro e w' ⟨rfl,rfl⟩);go_ret;exact⟨Bm (by rw[Aa ee,Aa o5,Aa a8,Dk,Dk,Dk]),a5⟩
structure GRow (w:World)(B:Nat)(v:Value)(xs:List Fv):Prop where
 own:w.ownsRow B 30 5 v xs.length (fcells xs)
 all:∀x∈xs,FvIn w x
 apart:∀x∈xs,x.f.bytes≠ []->∀b o,x.a=some ⟨b,o,none⟩->b<B
theorem GRow.nil (w:World)(B:Nat):GRow w B (.slice none 0 0) []:=⟨kaq _ _ _ _,(fun x E=>absurd E WS),(fun x E=>absurd E WS)⟩
theorem GRow.lt {B:Nat}{xs:List Fv}(h:GRow w B v xs)(e:v.ownBlock=some g):B<=g/\g<w.heap.size:=h.own.lt g e
theorem BsIn.grown2 {bs:List UInt8}(h:BsIn w a c bs)(H:w.grownBy w' r)(I:bs≠ []->∀b o,a=some ⟨b,o,none⟩->some b≠r):BsIn w' a c bs:=by by_cases E:bs= [];subst E;rcases h with h|h|⟨b,o,G,_⟩;exact .inl h;exact .inr (.inl h);exact .inr (.inl ⟨rfl,_,G⟩);exact h.grown H (I E)
theorem GRow.grown {B:Nat}{xs:List Fv}(h:GRow w B v xs)(G:w.grownBy w' r)(U:∀g,r=some g->B<=g)(O:v.ownBlock=none\/v.ownBlock≠r):GRow w' B v xs:=by refine⟨h.own.kept G O,fun x H=> ?_,h.apart⟩;have E:=h.all x H;refine⟨E.bs.grown2 G (fun I b o e e2=> ?_),E.big,E.txt⟩;have:=h.apart x H I b o e;have:=U b e2.symm;omega
theorem GRow.below {B:Nat}{xs:List Fv}(h:GRow w B v xs)(E:Below w.heap.size w w'):GRow w' B v xs:=
 h.grown (Gv E) (fun g e=>by cases e) (by cases G:v.ownBlock with
  |none=>exact .inl rfl
  |some k=>exact .inr oS)
theorem GRow.files {B:Nat}{xs:List Fv}(h:GRow w B v xs)(hl:xs.length<=2199023255552):∃ad c,v=.slice ad xs.length c/\FsIn w ad c xs:=by exact qL
theorem GRow.lin {B:Nat}{xs:List Fv}(h:GRow w B v xs)(E:xs.length<=2199023255552):LIn w v (fls xs):=by obtain⟨ad,c,rfl,G⟩:=h.files E;exact Z7d G rfl
theorem Lp (w:World){a:Act}(O:o.guard=none)(s x:Operand) (ao:o.op=.call {callee:=.builtin .append,args:= #[s,x],argTypes:= #[22,22]}) (base:Nat) (v:Value) (xs:List Fv) (ar:a.eval s=v) (E:GRow w base v xs) (g:Nat) (y:Fv) (au:a.eval x=.slice (some ⟨g,0,none⟩) 1 1) (hc:∀j u,y.cells[j]? =some u->w.cell? ⟨g,j,none⟩=some u) (ap:FvIn w y) (ae:y.f.bytes≠ []->∀b o,y.a=some ⟨b,o,none⟩->b<base) (av:xs.length+1<=2199023255552) (aa:base<=w.heap.size) (h:∀v' w',Hid (GRow w' base v' (xs++ [y]))->Hid (w.grownBy w' v.ownBlock/\(v'.ownBlock=v.ownBlock\/v'.ownBlock=some w.heap.size))->wpList prog ag Q al (a.put o.dst v') w'):wpList prog ag Q (o::al) a w:=by obtain⟨ai,hi,U,ah,aj⟩:=kas Uj;refine kao w O s x 22 ao base 30 ai _ 5 64 underlying22 hi U ah aj rfl od v xs.length (fcells xs) ar E.own ⟨g,0,none⟩ 1 1 y.cells au rfl ?_ (Vq y) ou om aa ?_;exact qQ;intro v' w' af I _ ac;have hm:=rP;(have H:∀z,z∈xs++ [y]->z.f.bytes≠ []->∀b o,z.a=some ⟨b,o,none⟩->b<base:=by intro z ak hn b o e;rcases hm z ak with ak|rfl;exact E.apart z ak hn b o e;exact ae hn b o e);refine h v' w' (Ab ⟨?_, ?_,H⟩) (Ab ⟨I,ac⟩);rw[Pw,Pv,VB];exact af;intro z ak;(have G:FvIn w z:=by rcases hm z ak with ak|rfl;exact E.all z ak;exact ap);refine⟨G.bs.grown2 I (fun hn b o e e2=> ?_),G.big,G.txt⟩;have:=H z ak hn b o e;have:=(E.own.lt b e2.symm).1;omega
theorem Z0s:(prog.info? 9).map (fun i=>(i.zero,i.size,i.bytes))=some (some (.string ⟨#[]⟩),1,16):=oR
theorem Hr (w:World){a:Act}(I:o.guard=none)(s x:Operand) (U:o.op=.call {callee:=.builtin .append,args:= #[s,x],argTypes:= #[43,43]}) (base:Nat) (v:Value) (E:List (List UInt8)) (aj:a.eval s=v) (O:SRow w base v E) (g:Nat) (y:List UInt8) (ao:a.eval x=.slice (some ⟨g,0,none⟩) 1 1) (ak:w.cell? ⟨g,0,none⟩=some (.string (B y))) (ap:E.length+1<=2097152) (aa:base<=w.heap.size) (h:∀v' w',Hid (SRow w' base v' (E++ [y]))->Hid (w.grownBy w' v.ownBlock)->wpList prog ag Q al (a.put o.dst v') w'):wpList prog ag Q (o::al) a w:=by obtain⟨G,hi,ah,ai,H⟩:=kas Z0s;refine kao w I s x 43 U base 9 G _ 1 16 underlying43 hi ah ai H rfl od v E.length (Wc E) aj O ⟨g,0,none⟩ 1 1 [.string (B y)] ao rfl (fun j u ac=>Rm ak ac) qAY ou om aa ?_;intro v' w' af ae _ _;refine h v' w' (Ab ?_) (Ab ae);unfold SRow;rw[VB];(have:Wc (E++ [y])=Wc E++ [.string (B y)]:=by simp[Wc]);rw[this];exact af
theorem Ez {r:Nat}{E:List (List UInt8)}(h:SRow w b v E)(k:MapIs w r M):some r≠v.ownBlock:=by intro e;obtain⟨es,c,hb,_⟩:=k;(rcases h.2 with ⟨ai,_⟩|⟨g,cap,cur,ai,_,af,_⟩);(. rw[ai]at e;cases e);exact yW
theorem SRow.grown {E:List (List UInt8)}(h:SRow w b v E)(H:w.grownBy w' r)(G:v.ownBlock=none\/v.ownBlock≠r):SRow w' b v E:=World.ownsRow.kept h H G
theorem ES {r:Nat}{xs:List Fv}(h:GRow w b v xs)(k:MapIs w r M):some r≠v.ownBlock:=by intro e;obtain⟨es,c,hb,_⟩:=k;(rcases h.own.2 with ⟨ai,_⟩|⟨g,cap,cur,ai,_,af,_⟩);(. rw[ai]at e;cases e);exact yW
theorem ER {u:Value}{xs:List Fv}{I:List (List UInt8)}(h:GRow w b v xs)(k:SRow w ac u I):u.ownBlock=none\/u.ownBlock≠v.ownBlock:=by(rcases k.2 with ⟨E,_⟩|⟨g,cap,cur,E,_,U,_⟩);left;rw[E];rfl;. right;intro e;(rcases h.own.2 with ⟨G,_⟩|⟨g2,ae,aa,G,_,H,_⟩);(. rw[E,G]at e;cases e);rw[E,G]at e;have:g=g2:=VK e;subst this;rw[U]at H;have O:=VK H;injection O with _ h4 _;exact absurd h4 od
structure TgSt (w:World)(r:Nat)(v4:Value)(M:List Fv)(wr:World):Prop where
 map:MapIs wr r M
 row:SRow wr w.heap.size v4 (nms M)
 all:∀x∈M,FvIn w x
 bel:Below w.heap.size w wr
 rge:w.heap.size<=r
theorem TgSt.below {r:Nat}(h:TgSt w r E M wr)(G:Below wr.heap.size wr w'):TgSt w r E M w':=
 ⟨h.map.below G,h.row.below G,h.all,h.bel.trans (G.mono h.bel.size),h.rge⟩
theorem Yv {xs:List Fv}(M:List Fv)(h:xs[k]? =some z):(xs.take (k+1)).foldl Ji M=Ji ((xs.take k).foldl Ji M) z:=by rw[XD,h,XW];rfl
theorem KQ (M:List Fv)(y:Fv):(Ji M y).length<=M.length+1:=by unfold Ji;split;(. split;simp;omega);simp
theorem Ss {xs ys:List Fv}(h:FsIn w ah c xs)(k:FsIn w ap d ys)(cd:xs.length=n)(bv:ys.length=m)(ed:n<=12)(d9:m<=12) (bf:w.cell? ⟨g,0,none⟩=some (.slice ah n c)) (ei:w.cell? ⟨g,1,none⟩=some (.slice ap m d)) (bi:g<w.heap.size):Calls prog 33 #[.slice (some ⟨g,0,none⟩) 2 2] w fun e w'=>∃v out,e=.returned v/\GRow w' w.heap.size v out/\nms out=QB (nms ((xs++ys).foldl Ji []))/\(∀x∈out,Bt x.f.name (fls ((xs++ys).foldl Ji []))=some x.f)/\out.length<=24/\Below w.heap.size w w':=by
 obtain⟨bn,bq,bz,ce,c8,dx⟩:=ydF h k cd bv (fun W (a5:Below w.heap.size w W)=>(a5.cell (p:=⟨g,0,none⟩) bi).trans bf) (fun W (a5:Below w.heap.size w W)=>(a5.cell (p:=⟨g,1,none⟩) bi).trans ei);have df:=gI;have co:Hid (TgSt w w.heap.size (.slice none 0 0) [] (w.alloc (.map #[] 0))):=⟨MapIs.new w,SRow.nil _ _,fun x U=>absurd U WS,Ar (kaa _ _) _,VA _⟩;have sy:=Ab (fun(x y:Fv) (W:World) (h:FvIn W x) (k:FvIn W y)=>Z0m h k);clear h k cd bv bf ei;go_enter func33,ntmps33;go_wp2;clear df;go_loopw [4,6,8,9,10,17] (fun v4 _ _ _ _ i wr=>∃M:List Fv,Hid (TgSt w w.heap.size v4 M wr)/\((i=int i64 0/\Hid (M= []/\M.length<=0))\/ (i=int i64 1/\Hid (M=xs.foldl Ji []/\M.length<=12))\/ (i=int i64 2/\Hid (M=(xs++ys).foldl Ji []/\M.length<=24)))) (fun _ _ _ _ _ i _=>2-(intOf i).toNat);exact⟨[],co,.inl ⟨rfl,rfl,oS⟩⟩;obtain⟨M,H,⟨rfl,k6⟩|⟨rfl,k6⟩|⟨rfl,k6⟩⟩:=hrel;(. have ae:=Aa c8 wr H.bel;go_wp2;go_loopw [4,8,9,10,23] (fun v4 _ _ _ j G=>∃(k:Nat) (b8:List Fv),k<=n/\j=int i64 (k:Int)/\Hid (TgSt w w.heap.size v4 b8 G/\b8=(xs.take k).foldl Ji M/\b8.length<=M.length+k)) (fun _ _ _ _ j _=>n-(intOf j).toNat);exact⟨0,M,VF _,rfl,H,oS,VA _⟩;obtain⟨k,b8,bo,rfl,bm⟩:=hrel;by_cases aw:k<n;obtain⟨z,ak,i9⟩:=Lm (xs:=xs) (k:=k) (by rw[Aa bz];exact aw);obtain⟨dm,de,g0⟩:=Aa bm;obtain⟨b,o,c9,hb,c0,c1,c2,cu,da⟩:=bn.get dm.bel ak;have av:=dm.bel.size;have lm:=Ab (bn.all z i9);exact qA;obtain rfl:n=k:=om;obtain⟨dm,de,g0⟩:=Aa bm;rw[VQ (by rw[Aa bz];exact VA _)]at de;have rl:=Ab dm;have ka:Hid (b8=xs.foldl Ji []/\b8.length<=12):=jM;exact kY);. have ae:=Aa dx wr H.bel;go_wp2;go_loopw [4,8,9,10,23] (fun v4 _ _ _ j G=>∃(k:Nat) (b8:List Fv),k<=m/\j=int i64 (k:Int)/\Hid (TgSt w w.heap.size v4 b8 G/\b8=(ys.take k).foldl Ji M/\b8.length<=M.length+k)) (fun _ _ _ _ j _=>m-(intOf j).toNat);exact⟨0,M,VF _,rfl,H,oS,VA _⟩;obtain⟨k,b8,bo,rfl,bm⟩:=hrel;by_cases aw:k<m;obtain⟨z,ak,i9⟩:=Lm (xs:=ys) (k:=k) (by rw[Aa ce];exact aw);obtain⟨dm,de,g0⟩:=Aa bm;obtain⟨b,o,c9,hb,c0,c1,c2,cu,da⟩:=bq.get dm.bel ak;have av:=dm.bel.size;have lm:=Ab (bq.all z i9);exact qA;obtain rfl:m=k:=om;obtain⟨dm,de,g0⟩:=Aa bm;rw[VQ (by rw[Aa ce];exact VA _)]at de;have rl:=Ab dm;have ka:Hid (b8=(xs++ys).foldl Ji []/\b8.length<=24):=jM;exact kY
 . obtain⟨ar,eb⟩:=Aa k6;have cg:=Ab (Z8f H.row (by simp[nms];omega));have cp:=ar;have dh:=Ab ar;clear ar;go_wp2_with fail;refine cg.mono ?_;rintro e fw ⟨rfl,bg,bc⟩;have E:=Aa H;have bk:=Ez E.row E.map;have lj:=E.map.grown bc bk;have b5:Below w.heap.size w fw:=E.bel.grown bc E.bel.size (fun g e=>(World.ownsRow.lt E.row g e).1);obtain⟨cy,a3,cj,dl⟩:=ydD E.all bg lj b5;obtain⟨P,ag⟩:=exq (QB (nms M));rw[ag]at a3;(have cn:P.length=M.length:=by rw[<-ag,Z8d];simp[nms]);(have cz:Hid (∀s∈P,∃p,fm s M 0=some p):=by intro s bu;rw[<-ag,RX]at bu;exact Zce bu);have dy:=Ab ag;clear bg bc E bk lj b5 H k6 ag cg cp;obtain⟨L,al⟩:=exq (P.length);rw[al]at cn;have ay:=Ab al;(have dv:∃a c,u4=.slice a L c:=by obtain⟨a,c,e⟩:=Am a3;rw[al]at e;exact⟨a,c,e⟩);obtain⟨b9,bw,rfl⟩:=dv;clear al;go_wp2;go_loopw [11,13,59] (fun ct _ j G=>∃(k:Nat) (out:List Fv),k<=L/\j=int i64 (k:Int)/\Hid (GRow G w.heap.size ct out/\SRow G w.heap.size (.slice b9 L bw) P/\MapIs G w.heap.size M/\Below w.heap.size w G/\nms out=P.take k/\(∀x∈out,Bt x.f.name (fls M)=some x.f)/\out.length=k)) (fun _ _ j _=>L-(intOf j).toNat);exact⟨0,[],VF _,rfl,GRow.nil _ _,a3,cj,dl,by simp[nms],fun x U=>absurd U WS,rfl⟩;obtain⟨k,out,bo,rfl,bm⟩:=hrel;by_cases aw:k<L
   . obtain⟨dm,de,g0,I,aa,ac,ao⟩:=Aa bm;have af:k<P.length:=tC;obtain⟨p,bb⟩:=Aa cz P[k] (WO af);obtain⟨z,ak⟩:=exq (p.2);(have aj:z.f.name=P[k]/\z∈M/\Bt P[k] (fls M)=some z.f:=by obtain⟨j,x⟩:=p;simp only at ak;subst ak;obtain⟨dn,_,cq,du⟩:=AH bb;exact⟨dn,YR cq,du⟩);have f3:=EE g0 P[k] false;rw[bb]at f3;simp only[ZZ,if_false]at f3;rw[ak,Db]at f3;(have ae:∃O,b9=some ⟨O,0,none⟩/\wr.cell? ⟨O,k,none⟩=some (.string (B P[k])):=by(rcases de.cases with ⟨e1,e2⟩|⟨O,cap,e1,_,_,_,_,hc⟩);rw[e2]at af;simp at af;injection e1 with e1 _ _;refine⟨O,e1, ?_⟩;have:=hc k (B P[k]) (by simp[af]);rw[VY]at this;exact this);obtain⟨O,rfl,ae⟩:=ae;have av:=I.size;have lm:=Ab (cy z aj.2.1);(have bj:z.f.bytes≠ []->∀b o,z.a=some ⟨b,o,none⟩->b<w.heap.size:=by intro bk b o e;(rcases lm.bs with ⟨_,h,_⟩|⟨h,_⟩|⟨d5,d8,dp,cw,_⟩);exact absurd h bk;exact absurd h bk;. rw[dp]at e;cases e;exact cw);have dq:=Ab bj;have b0:Hid (z.cells= [.string (B z.f.name),.slice z.a z.f.bytes.length z.c,int i64 z.f.stamp,int i64 z.f.node,.bool z.f.gone]):=rfl;have bd:=Ab aj;(have ck:Hid (P.take (k+1)=P.take k++ [z.f.name]):=by rw[XD,VP af,aj.1];rfl);obtain⟨ba,db,cm,a8,ax,au⟩:=ydF dm de g0 I aa ac;clear bb aj bj ak dm de g0 I aa ac bm p;obtain⟨c7,k7⟩:=exq (B z.f.name);rw[k7]at f3 b0;clear k7;generalize B P[k]=st at*;generalize z.f.bytes.length=di at*;generalize z.f.stamp=d7 at*;generalize z.f.node=d6 at*;generalize z.f.gone=ek at*;have jv:=gJ;obtain⟨ai,a4,a7,a6⟩:=ydD (ba.below jv) (db.below jv) (cm.below jv) (a8.trans (jv.mono av));have b7:=Ab (lm.below a6 (VA _));(have oo:Hid (∀j u,z.cells[j]? =some u->(wr.alloc (.cells #[.string c7,.slice z.a di z.c,int i64 d7,int i64 d6,.bool ek] 30)).cell? ⟨wr.heap.size,j,none⟩=some u):=by intro j u bh;rw[Aa b0]at bh;rw[kar _ _ _ _ rfl];simpa using bh);go_wp2_with (at_builtin;refine Lp _ rfl _ _ rfl w.heap.size _ out rfl ai wr.heap.size z rfl oo b7 dq om oO ?_);intro v' a9 az fh;obtain⟨ei,dt⟩:=Aa fh
     have m8:Hid (SRow a9 w.heap.size (.slice (some ⟨O,0,none⟩) L bw) P/\MapIs a9 w.heap.size M/\Below w.heap.size w a9):=
      ⟨a4.grown ei (ER ai a4),a7.grown ei (ES ai a7),a6.grown ei oO (fun q e=>(ai.lt e).1)⟩
     have dz:=Ab (Aa az);clear ei dt az fh f3 ae ai a4 a7 a6 b7 oo;go_wp2;go_roundw;obtain⟨s1,dj,c6⟩:=Aa m8;refine⟨k+1,out++ [z],om,by go_num,dz,s1,dj,c6, ?_, ?_,by rw[VB];simp;omega⟩;rw[Aa ck,<-Aa ax];simp[nms];intro x U;rcases WG.1 U with U|U;exact au x U;simp at U;subst U;rw[(Aa bd).1];exact bd.2.2;simp[intOf];omega
   . obtain rfl:L=k:=om;obtain⟨dm,de,g0,I,aa,ac,ao⟩:=Aa bm;rw[VQ uG,<-Aa dy]at aa;obtain⟨ba,a8,ax,au,cv⟩:=ydE dm I aa ac ao;clear dm de g0 I aa ac ao bm;go_wp2;go_ret;rw[<-Aa dh];exact⟨_,out,rfl,ba,ax,au,by rw[Aa cv];omega,a8⟩
theorem LQ {u:Value}{a b:List Fl}(g:Nat)(h:LIn w v a)(k:LIn w u b)(O:errM a=0)(aa:errM b=0)(ag:w.cell? ⟨g,0,none⟩=some v)(af:w.cell? ⟨g,1,none⟩=some u)(ac:g<w.heap.size):Calls prog 33 #[.slice (some ⟨g,0,none⟩) 2 2] w fun e w'=>∃x,e=.returned x/\LIn w' x (tog a b)/\Below w.heap.size w w':=by obtain⟨ad,c,xs,rfl,U,G⟩:=h;obtain⟨ah,d,ys,rfl,k2,E⟩:=k;obtain⟨a1,a2,ae⟩:=Km.1 O;obtain⟨b1,b2,b3⟩:=Km.1 aa;refine(Ss U k2 (Mc G) (Mc E) a1 b1 ag af ac).mono ?_;rintro e w' ⟨v,out,rfl,hr,H,hl,hn,I⟩;refine⟨v,rfl, ?_,I⟩;have:=hr.lin om;rw[CX (xs:=xs) (ys:=ys) (by rw[G];exact ae) (by rw[E];exact b3) _ rfl H hl,G,E]at this;exact this
end Go.Proofs.YtleocpdblhbimaaGreatDoor
