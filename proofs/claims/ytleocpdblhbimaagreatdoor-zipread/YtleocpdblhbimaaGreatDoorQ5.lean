import Derived.Test.YtleocpdblhbimaaGreatDoorQ4
import Derived.Laws.BytesArg
import Derived.Laws.Externs
import Derived.Lib.BytesEntry
import Derived.Laws.ResultCell
set_option linter.unusedSimpArgs false
set_option maxHeartbeats 4000000
namespace Go.Proofs.YtleocpdblhbimaaGreatDoor
open Go.RowKit
set_option linter.unusedVariables false
set_option maxRecDepth 100000
theorem Ar (n E:Nat)(w:World)(G:n<=9223372036854775807)(M:E<=100):
 Calls Tryz.prog 62 #[.int .i64 (n:Int),.int .i64 (E:Int)] w fun e w'=>∃a l c,e=.returned (.slice a l c)/\PIn w' (.slice a l c) (Ag n E)/\Below w.heap.size w w':=by
 refine(Z4q n E w G M).mono ?_;rintro e w' ⟨v,rfl,I,H⟩;obtain⟨a,c,rfl,k1,k2,F,_⟩:=Ve I;exact⟨a,E,c,rfl,⟨a,c,by rw[F],by rw[F];exact k2,k1⟩,H⟩
inductive PIns (w:World):List Value->List (List Nat)->Prop
 |nil:PIns w [] []
 |cons {v:Value} {b:List Nat} {vs:List Value} {bs:List (List Nat)}:PIn w v b->PIns w vs bs->PIns w (v::vs) (b::bs)
theorem PIns.rows {w:World}{F:List Value}{bs:List (List Nat)}(I:PIns w F bs):∃ps:List (Option Addr×Nat×List Nat),F=ps.map (fun p=>.slice p.1 p.2.2.length p.2.1)/\bs=ps.map (fun p=>p.2.2)/\∀p∈ps,BytesIn w p.1 p.2.2:=by
 induction I with
 |nil=>exact⟨[],rfl,rfl,fun p E=>by cases E⟩
 |cons h1 _ ih=>
  obtain⟨a,c,rfl,_,H⟩:=h1;obtain⟨ps,rfl,rfl,G⟩:=ih;refine⟨(a,c,_)::ps,rfl,rfl,fun p E=> ?_⟩
  rcases WH.1 E with rfl|E
  . exact H.1
  . exact G p E
theorem O2:∀(E:List (Option Addr×Nat×List Nat)) (k:Nat),k<=E.length->Iu E k=((E.take k).map (fun p=>p.2.2)).flatten
 |E,0,_=>by simp[Iu]
 |E,k+1,h=>by
  rw[Iu,O2 E k (by omega),XM,WU,List.flatten_append];simp[List.getD,VP (show k<E.length by omega)]
theorem Cz (w:World)(E:List Value)(bs:List (List Nat))(H:Array Value)(t:TypeId)(n G:Nat)(h:PIns w E bs)(T:H=E.toArray)(O:E.length=n)(Z:n<=100)(aa:bs.flatten.length<=281474976710656):
 Calls Tryz.prog 29 #[.slice (some ⟨w.heap.size,0,none⟩) n G] (w.alloc (.cells H t)) fun e w'=>∃a l c,e=.returned (.slice a l c)/\PIn w' (.slice a l c) bs.flatten/\Below w.heap.size w w':=by
 obtain⟨ps,rfl,rfl,U⟩:=h.rows;have ab:ps.length=n:=by simpa using O
 subst ab;have e:Iu ps ps.length=(ps.map (fun p=>p.2.2)).flatten:=by rw[O2 ps _ (VB _),VV (VB _)]
 refine(IY w.heap.size 0 ps.length G ps _ (by simp) (fun j F=> ?_) (fun j F=> ?_) (by rw[e];exact aa) Z).mono ?_
 . rw[WG,cell_of_row _ _ _ _ _ _ (heap_alloc_new w _),T];simp[List.getD,F]
 . have hm:ps.getD j (none,0,[])∈ps:=by simp[List.getD,F]
   exact(U _ hm).alloc _
 . rintro ae w' ⟨a,c,I,rfl,M,ac,Y⟩;rw[e]at I M ⊢;exact⟨a,_,c,rfl,⟨a,c,rfl,I,M,Y⟩,((Below.refl w.heap.size w).alloc (VB _) _).trans (ac.mono (by simp))⟩
theorem Z42 (k:Nat):256^k=2^(8*k):=by rw[Nat.pow_mul]
theorem ZC.new {B b:Nat}{w:World}{xs:List Nat}{E:Value}(F:ZC B w b xs E):w.cell? ⟨b,0,none⟩=some E/\w.frozen? ⟨b,0,none⟩=false:=⟨Ac F.cell,frozen_of_row w b 0 _ _ F.cell⟩
theorem Z6c {W:World}{F y:Nat}(E:W.cell? ⟨F,0,none⟩=some (.int .u8 (y:Int))):PkIn W (some ⟨F,0,none⟩) 1 [y]:=by
 refine⟨.inr ⟨F,0,rfl, ?_, ?_⟩,fun e=>by cases e⟩
 . simp only[World.cell?]at E
   cases hb:W.heap[F]? with
   |none=>rw[hb]at E;cases E
   |some o=>exact(VK.1 hb).1
 . intro j G;obtain rfl:j=0:=by simpa using G
   simpa using E
theorem Z3r (n k:Nat)(I:k<=10)(F:n<4294967296)(W:World):(Op.shift .shr .u32 (n:Int) .i64 (IntKind.i64.wrap (8*(k:Int)))).run Tryz.prog W=.ok (.int .u32 ((n/256^k:Nat):Int)) W:=by
 have e:IntKind.i64.wrap (8*(k:Int))=((8*k:Nat):Int):=by
  simp[IntKind.wrap,IntKind.bits,IntKind.signed]
  omega
 rw[e,Z42];have M:n/2^(8*k)<=n:=YO _ _
 have G:(n:Int).fdiv (2^min (8*k) 32)=((n/2^(8*k):Nat):Int):=by
  rw[Int.fdiv_eq_ediv_of_nonneg _ (by exact_mod_cast VH _)]
  by_cases H:8*k<=32
  . rw[YP H];push_cast;rfl
  . rw[YG (by omega)];have E:n/2^(8*k)=0:=Nat.div_eq_of_lt (VG F (show (4294967296:Nat)<=2^(8*k) from VO (n:=2) (i:=32) (j:=8*k) (by decide) (by omega)));rw[E];omega
 unfold Op.shift;rw[if_neg (by omega),WM];show Result.ok (Value.int .u32 ((n:Int).fdiv (2^min (8*k) 32))) W=_
 rw[G]
theorem Bb (B b E n:Nat)(xs:List Nat)(w:World)(h:∃ov,ZC B w b xs ov)(ao:E<=10)(ab:n<4294967296)(ak:xs.length<=900000):
 Calls Tryz.prog 77 #[.pointer (some ⟨b,0,none⟩),.int .i64 (E:Int),.int .u32 (n:Int)] w fun e w'=>e=.returned (.tuple #[])/\ZUp B w b (xs++Ag n E) w':=by
 obtain⟨al,O⟩:=h;have H:=Ab O;clear O;go_enter Tryz.func77,Tryz.ntmps77
 go_wp2;go_loopw [8] (fun i wr=>∃k:Nat,k<=E/\i=.int .i64 (k:Int)/\Hid (ZUp B w b (xs++Ag n k) wr)) (fun i _=>E-(intOf i).toNat)
 case atStart=>exact⟨0,VH _,rfl,Ab (by simpa[Ag]using ZUp.refl (Aa H))⟩
 case round=>
  obtain⟨k,am,rfl,I⟩:=hrel
  by_cases aq:k<E
  . obtain⟨ov,G⟩:=(Aa I).is;have F:=Ri k n;have M:=Ai k n;obtain⟨c0,f0⟩:=G.new;have ah:=Z3r n k (by omega) ab;obtain⟨z,Y⟩:=exq (n/256^k);rw[Y]at F ah;obtain⟨y,T⟩:=exq (z%256);rw[T]at F
    have ap:IntKind.u8.wrap (z:Int)=(y:Int):=by
     simp[IntKind.wrap,IntKind.bits,IntKind.signed]
     omega
    have an:∀o:Obj,(wr.alloc o).cell? ⟨b,0,none⟩=some ov:=fun o=>(World.cell?_alloc_lt wr o _ G.lt).trans c0
    have af:=Ab F;have Z:(xs++Ag n k).length+1<=1000000:=by rw[VE,M];omega
    have aj:=Ab Z;have ag:=Ab G;clear G F M Z T Y;go_wp2;go_region_law (refine LM rfl (.tmp 15) (.tmp 21) rfl wr B b _ [y] _ rfl (Aa ag) (by repeat (first|with_reducible exact Aw _ _|with_reducible refine Cb ?_|with_reducible refine ga ?_ _)) _ 1 1 rfl rfl (Z6c (by repeat (first|with_reducible refine QY ?_|with_reducible exact Jo (by simp)|with_reducible exact QX (by simp)))) (Aa aj) ?_;intro aa ae ai w' c1 c2 U)
    all_goals
     have ac:Hid (ZUp B w b (xs++Ag n (k+1)) (w'.setCell ⟨b,0,none⟩ (.slice aa ae ai))):=Ab (by
      rw[Aa af,<-VS];exact(Aa I).trans (Aa U))
     clear c1 c2 U;go_wp2;go_roundw
     case rel=>exact⟨k+1,by omega,by go_num,ac⟩
     case measure=>simp[intOf];omega
  . obtain rfl:E=k:=by omega
    go_wp2;go_end0
    exact⟨rfl,Aa I⟩
theorem Hc (B b E:Nat)(xs:List Nat)(w:World)(F:∃ov,ZC B w b xs ov)(O:E<=10)(I:xs.length<=900000):
 Calls Tryz.prog 80 #[.pointer (some ⟨b,0,none⟩),.int .i64 (E:Int)] w fun e w'=>e=.returned (.tuple #[])/\ZUp B w b (xs++Ag 0 E) w':=by
 have H:=Ab (Bb B b E 0 xs w F O (by decide) I);clear F;go_enter Tryz.func80,Tryz.ntmps80
 go_wp2_with fail
 refine(Aa H).mono ?_;rintro e w' ⟨rfl,G⟩;have M:=Ab G;clear G;go_wp2;go_end0
 exact⟨rfl,Aa M⟩
end Go.Proofs.YtleocpdblhbimaaGreatDoor
namespace Go.Proofs.YtleocpdblhbimaaGreatDoor
open Go.RowKit
set_option linter.unusedVariables false
theorem Sy {w w':World}(E:Below w.heap.size w w'):w.grownBy w' none:=⟨E.os,E.tape,E.output,E.size,fun k F _=>E.block k F⟩
theorem MV {w w':World}{B e E n:Nat}{v:Value}{xs:List Value}(G:w.ownsRow B e E v n xs)(F:Below w.heap.size w w'):w'.ownsRow B e E v n xs:=
 G.kept (Sy F) (by cases H:v.ownBlock with
  |none=>exact .inl rfl
  |some k=>exact .inr (by simp))
end Go.Proofs.YtleocpdblhbimaaGreatDoor
namespace Go.Proofs.YtleocpdblhbimaaGreatDoor
open Go.RowKit
set_option linter.unusedVariables false
set_option maxRecDepth 100000
def BsIn (w:World)(a:Option Addr)(c:Nat)(bs:List UInt8):Prop:=
 (a=none/\bs= []/\c=0)\/ (bs= []/\∃ad,a=some ad)\/∃b o,a=some ⟨b,o,none⟩/\b<w.heap.size/\bs.length<=c/\∀j,j<bs.length->w.cell? ⟨b,o+j,none⟩=some (.int .u8 (((bs.getD j 0).toNat:Nat):Int))
theorem BsIn.below {w w':World}{B:Nat}{a:Option Addr}{c:Nat}{bs:List UInt8}(E:BsIn w a c bs)(F:Below B w w')(T:w.heap.size<=B):BsIn w' a c bs:=by
 rcases E with E|E|⟨b,o,O,H,G,M⟩
 . exact .inl E
 . exact .inr (.inl E)
 . refine .inr (.inr ?_);exact⟨b,o,O,VG H F.size,G,fun j I=>(F.cell (p:=⟨b,o+j,none⟩) (by simp;omega)).trans (M j I)⟩
abbrev Z4g (bs:List UInt8):List Int:=bs.map fun x:UInt8=>((x.toNat:Nat):Int)
theorem NF (bs:List UInt8)(j:Nat):(Z4g bs).getD j 0=(((bs.getD j 0).toNat:Nat):Int):=by
 unfold Z4g
 by_cases h:j<bs.length
 . simp[List.getD,h]
 . simp[List.getD,h]
theorem Z6k (bs:List UInt8):(Z4g bs).map (fun n=>UInt8.ofNat n.toNat)=bs:=by
 unfold Z4g;rw[ZU];have:((fun n:Int=>UInt8.ofNat n.toNat) ∘ fun x:UInt8=>((x.toNat:Nat):Int))=id:=by funext x;simp
 rw[this,List.map_id]
theorem R7 (bs:List UInt8):strOfNums (Z4g bs)=B bs:=by
 unfold strOfNums B;rw[Z6k]
theorem Po {w:World}{a:Option Addr}{c:Nat}{bs:List UInt8}(E:BsIn w a c bs):(convert 23 9 (.slice a bs.length c)).run Tryz.prog w=.ok (.string (B bs)) w:=by
 rcases E with ⟨rfl,rfl,rfl⟩|⟨rfl,ad,rfl⟩|⟨b,o,rfl,H,G,F⟩
 . exact run_convert_bytes_nil w _ _ Tryz.underlying23 Tryz.underlying5 0 0 _ Tryz.underlying9
 . show (convert 23 9 (.slice (some ad) 0 c)).run Tryz.prog w=.ok (.string (B [])) w
   rw[run_convert_bytes_string w _ _ _ (some ad) 0 c Tryz.underlying23 Tryz.underlying5 Tryz.underlying9];exact(run_bytesToString (P:=Tryz.prog) w ad 0 c [] (by rfl)).trans rfl
 . have:=run_convert_bytes_arg (P:=Tryz.prog) w _ _ Tryz.underlying23 Tryz.underlying5 b o bs.length c (Z4g bs) (by simp[Z4g]) (fun i hi=>by rw[F i hi,NF]) _ Tryz.underlying9
   rw[this,R7]
structure Fv where
 f:Fl
 a:Option Addr
 c:Nat
def Fv.sl (x:Fv):Value:=.slice x.a x.f.bytes.length x.c
def Fv.val (x:Fv):Value:=.agg #[.string (B x.f.name),x.sl,.int .i64 x.f.stamp,.int .i64 x.f.node,.bool x.f.gone]
def Fv.cells (x:Fv):List Value:= [.string (B x.f.name),x.sl,.int .i64 x.f.stamp,.int .i64 x.f.node,.bool x.f.gone]
structure FvIn (w:World)(x:Fv):Prop where
 bs:BsIn w x.a x.c x.f.bytes
 big:x.f.bytes.length<=140737488355328
 txt:x.f.name.length<=140737488355328
theorem FvIn.below {w w':World}{B:Nat}{x:Fv}(E:FvIn w x)(G:Below B w w')(F:w.heap.size<=B):FvIn w' x:=⟨E.bs.below G F,E.big,E.txt⟩
theorem FvIn.alloc {w:World}{x:Fv}(E:FvIn w x)(o:Obj):FvIn (w.alloc o) x:=E.below ((Below.refl w.heap.size w).alloc (VB _) o) (VB _)
def Fs (w:World)(b o:Nat)(xs:List Fv):Prop:=∀j x,xs[j]? =some x->w.cell? ⟨b,o+j*5,none⟩=some (.string (B x.f.name))/\w.cell? ⟨b,o+j*5+1,none⟩=some x.sl/\w.cell? ⟨b,o+j*5+2,none⟩=some (.int .i64 x.f.stamp)/\w.cell? ⟨b,o+j*5+3,none⟩=some (.int .i64 x.f.node)/\w.cell? ⟨b,o+j*5+4,none⟩=some (.bool x.f.gone)
structure FsIn (w:World)(ad:Option Addr)(c:Nat)(xs:List Fv):Prop where
 at_:xs= []\/∃b o,ad=some ⟨b,o,none⟩/\b<w.heap.size/\Fs w b o xs
 cap:xs.length<=c
 capm:c<=9223372036854775807
 lim:xs.length<=2199023255552
 all:∀x∈xs,FvIn w x
theorem FsIn.below {w w':World}{B:Nat}{I:Option Addr}{c:Nat}{xs:List Fv}(G:FsIn w I c xs)(E:Below B w w')(Z:w.heap.size<=B):FsIn w' I c xs:=by
 refine⟨?_,G.cap,G.capm,G.lim,fun x M=>(G.all x M).below E Z⟩
 rcases G.at_ with H|⟨b,o,H,Y,O⟩
 . exact .inl H
 . refine .inr ⟨b,o,H,VG Y E.size, ?_⟩;intro j x aa;obtain⟨k1,k2,T,ab,U⟩:=O j x aa;have F:b<B:=by omega
   exact⟨(E.cell (p:=⟨b,_,none⟩) F).trans k1,(E.cell (p:=⟨b,_,none⟩) F).trans k2,(E.cell (p:=⟨b,_,none⟩) F).trans T,(E.cell (p:=⟨b,_,none⟩) F).trans ab,(E.cell (p:=⟨b,_,none⟩) F).trans U⟩
theorem FsIn.nil (w:World):FsIn w none 0 []:=⟨.inl rfl,VB _,by omega,by simp,fun x E=>by cases E⟩
theorem FsIn.get {w w':World}{F:Option Addr}{c k:Nat}{xs:List Fv}{x:Fv}(H:FsIn w F c xs)(Y:Below w.heap.size w w')(E:xs[k]? =some x):
 ∃b o,F=some ⟨b,o,none⟩/\b<w.heap.size/\w'.cell? ⟨b,o+k*5,none⟩=some (.string (B x.f.name))/\w'.cell? ⟨b,o+k*5+1,none⟩=some x.sl/\w'.cell? ⟨b,o+k*5+2,none⟩=some (.int .i64 x.f.stamp)/\w'.cell? ⟨b,o+k*5+3,none⟩=some (.int .i64 x.f.node)/\w'.cell? ⟨b,o+k*5+4,none⟩=some (.bool x.f.gone):=by
 rcases(H.below Y (VB _)).at_ with rfl|⟨b,o,I,ac,M⟩
 . simp at E
 . rcases H.at_ with rfl|⟨aa,ab,G,U,_⟩
   . simp at E
   . rw[I]at G
     cases G
     obtain⟨k1,k2,O,Z,T⟩:=M k x E;exact⟨b,o,I,U,k1,k2,O,Z,T⟩
theorem Ob {xs:List Fv}{k:Nat}(E:k<xs.length):∃x,xs[k]? =some x/\x∈xs:=⟨xs[k],VP E,WK E⟩
abbrev fls (xs:List Fv):List Fl:=xs.map Fv.f
theorem Nw (x:Fv):x.val=.agg #[.string (B x.f.name),.slice x.a x.f.bytes.length x.c,.int .i64 x.f.stamp,.int .i64 x.f.node,.bool x.f.gone]:=rfl
theorem Fh (l:List UInt8):(B l).toList=l:=by rw[ByteArray.toList_eq];rfl
theorem Z1q {w:World}{a H:Option Addr}{c F:Nat}{x y:List UInt8}(G:BsIn w a c x)(E:BsIn w H F y):
 Calls Tryz.prog 13 #[.slice a x.length c,.slice H y.length F] w fun e w'=>e=.returned (.bool (decide (x=y)))/\w'=w:=by
 have I:=Po G;have e2:=Po E;have e3:((B x).toList==(B y).toList)=decide (x=y):=by rw[Fh,Fh,XZ,beq_iff_eq,decide_eq_true_iff]
 clear G E;generalize B x=s at*;generalize B y=t at*;go_enter Tryz.func13,Tryz.ntmps13
 go_wp2;go_ret;exact⟨rfl,rfl⟩
end Go.Proofs.YtleocpdblhbimaaGreatDoor
