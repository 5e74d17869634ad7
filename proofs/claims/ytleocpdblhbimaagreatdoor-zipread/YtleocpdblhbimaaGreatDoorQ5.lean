import Derived.Test.YtleocpdblhbimaaGreatDoorQ4
import Derived.Laws.BytesArg
import Derived.Laws.Externs
import Derived.Lib.BytesEntry
import Derived.Laws.ResultCell
set_option linter.unusedSimpArgs false
set_option maxHeartbeats 4000000
namespace Go.Proofs.YtleocpdblhbimaaGreatDoor
open Go.RowKit
set_option linter.unusedVariables false
set_option maxRecDepth 100000
theorem Ar (n size:Nat)(w:World)(hn:n<=9223372036854775807)(hs:size<=100):
 Calls Tryz.prog 62 #[.int .i64 (n:Int),.int .i64 (size:Int)] w fun e w'=>∃a l c,e=.returned (.slice a l c)/\PIn w' (.slice a l c) (Ag n size)/\Below w.heap.size w w':=by
 refine(Z4q n size w hn hs).mono ?_;rintro e w' ⟨v,rfl,h1,h2⟩;obtain⟨a,c,rfl,k1,k2,k3,_⟩:=Ve h1;exact⟨a,size,c,rfl,⟨a,c,by rw[k3],by rw[k3];exact k2,k1⟩,h2⟩
inductive PIns (w:World):List Value->List (List Nat)->Prop
 |nil:PIns w [] []
 |cons {v:Value} {b:List Nat} {vs:List Value} {bs:List (List Nat)}:PIn w v b->PIns w vs bs->PIns w (v::vs) (b::bs)
theorem PIns.rows {w:World}{vs:List Value}{bs:List (List Nat)}(h:PIns w vs bs):∃ps:List (Option Addr×Nat×List Nat),vs=ps.map (fun p=>.slice p.1 p.2.2.length p.2.1)/\bs=ps.map (fun p=>p.2.2)/\∀p∈ps,BytesIn w p.1 p.2.2:=by
 induction h with
 |nil=>exact⟨[],rfl,rfl,fun p hp=>by cases hp⟩
 |cons h1 _ ih=>
  obtain⟨a,c,rfl,_,h2⟩:=h1;obtain⟨ps,rfl,rfl,h3⟩:=ih;refine⟨(a,c,_)::ps,rfl,rfl,fun p hp=> ?_⟩
  rcases WH.1 hp with rfl|hp
  . exact h2.1
  . exact h3 p hp
theorem O2:∀(ps:List (Option Addr×Nat×List Nat)) (k:Nat),k<=ps.length->Iu ps k=((ps.take k).map (fun p=>p.2.2)).flatten
 |ps,0,_=>by simp[Iu]
 |ps,k+1,h=>by
  rw[Iu,O2 ps k (by omega),XM,WU,List.flatten_append];simp[List.getD,VP (show k<ps.length by omega)]
theorem Cz (w:World)(vs:List Value)(bs:List (List Nat))(A:Array Value)(t:TypeId)(n cap:Nat)(h:PIns w vs bs)(hA:A=vs.toArray)(hn:vs.length=n)(hl:n<=100)(hb:bs.flatten.length<=281474976710656):
 Calls Tryz.prog 29 #[.slice (some ⟨w.heap.size,0,none⟩) n cap] (w.alloc (.cells A t)) fun e w'=>∃a l c,e=.returned (.slice a l c)/\PIn w' (.slice a l c) bs.flatten/\Below w.heap.size w w':=by
 obtain⟨ps,rfl,rfl,h3⟩:=h.rows;have hpl:ps.length=n:=by simpa using hn
 subst hpl;have e:Iu ps ps.length=(ps.map (fun p=>p.2.2)).flatten:=by rw[O2 ps _ (VB _),VV (VB _)]
 refine(IY w.heap.size 0 ps.length cap ps _ (by simp) (fun j hj=> ?_) (fun j hj=> ?_) (by rw[e];exact hb) hl).mono ?_
 . rw[WG,cell_of_row _ _ _ _ _ _ (heap_alloc_new w _),hA];simp[List.getD,hj]
 . have hm:ps.getD j (none,0,[])∈ps:=by simp[List.getD,hj]
   exact(h3 _ hm).alloc _
 . rintro e' w' ⟨a,c,h1,rfl,h2,h4,h5⟩;rw[e]at h1 h2 ⊢;exact⟨a,_,c,rfl,⟨a,c,rfl,h1,h2,h5⟩,((Below.refl w.heap.size w).alloc (VB _) _).trans (h4.mono (by simp))⟩
theorem Z42 (k:Nat):256^k=2^(8*k):=by rw[Nat.pow_mul]
theorem ZC.new {B b:Nat}{w:World}{xs:List Nat}{ov:Value}(h:ZC B w b xs ov):w.cell? ⟨b,0,none⟩=some ov/\w.frozen? ⟨b,0,none⟩=false:=⟨Ac h.cell,frozen_of_row w b 0 _ _ h.cell⟩
theorem Z6c {W:World}{blk y:Nat}(h:W.cell? ⟨blk,0,none⟩=some (.int .u8 (y:Int))):PkIn W (some ⟨blk,0,none⟩) 1 [y]:=by
 refine⟨.inr ⟨blk,0,rfl, ?_, ?_⟩,fun e=>by cases e⟩
 . simp only[World.cell?]at h
   cases hb:W.heap[blk]? with
   |none=>rw[hb]at h;cases h
   |some o=>exact(VK.1 hb).1
 . intro j hj;obtain rfl:j=0:=by simpa using hj
   simpa using h
theorem Z3r (n k:Nat)(hk:k<=10)(hn:n<4294967296)(W:World):(Op.shift .shr .u32 (n:Int) .i64 (IntKind.i64.wrap (8*(k:Int)))).run Tryz.prog W=.ok (.int .u32 ((n/256^k:Nat):Int)) W:=by
 have e:IntKind.i64.wrap (8*(k:Int))=((8*k:Nat):Int):=by
  simp[IntKind.wrap,IntKind.bits,IntKind.signed]
  omega
 rw[e,Z42];have hd:n/2^(8*k)<=n:=YO _ _
 have h2:(n:Int).fdiv (2^min (8*k) 32)=((n/2^(8*k):Nat):Int):=by
  rw[Int.fdiv_eq_ediv_of_nonneg _ (by exact_mod_cast VH _)]
  by_cases h8:8*k<=32
  . rw[YP h8];push_cast;rfl
  . rw[YG (by omega)];have h3:n/2^(8*k)=0:=Nat.div_eq_of_lt (VG hn (show (4294967296:Nat)<=2^(8*k) from VO (n:=2) (i:=32) (j:=8*k) (by decide) (by omega)));rw[h3];omega
 unfold Op.shift;rw[if_neg (by omega),WM];show Result.ok (Value.int .u32 ((n:Int).fdiv (2^min (8*k) 32))) W=_
 rw[h2]
theorem Bb (B b size n:Nat)(xs:List Nat)(w:World)(h:∃ov,ZC B w b xs ov)(hs:size<=10)(hn:n<4294967296)(hx:xs.length<=900000):
 Calls Tryz.prog 77 #[.pointer (some ⟨b,0,none⟩),.int .i64 (size:Int),.int .u32 (n:Int)] w fun e w'=>e=.returned (.tuple #[])/\ZUp B w b (xs++Ag n size) w':=by
 obtain⟨ov0,h0⟩:=h;have H:=Ab h0;clear h0;go_enter Tryz.func77,Tryz.ntmps77
 go_wp2;go_loopw [8] (fun i wr=>∃k:Nat,k<=size/\i=.int .i64 (k:Int)/\Hid (ZUp B w b (xs++Ag n k) wr)) (fun i _=>size-(intOf i).toNat)
 case atStart=>exact⟨0,VH _,rfl,Ab (by simpa[Ag]using ZUp.refl (Aa H))⟩
 case round=>
  obtain⟨k,hk,rfl,hU⟩:=hrel
  by_cases hlt:k<size
  . obtain⟨ov,hC⟩:=(Aa hU).is;have hsn:=Ri k n;have hlen:=Ai k n;obtain⟨c0,f0⟩:=hC.new;have hsh:=Z3r n k (by omega) hn;obtain⟨z,hz⟩:∃z,n/256^k=z:=⟨_,rfl⟩
    rw[hz]at hsn hsh;obtain⟨y,hy⟩:∃y,z%256=y:=⟨_,rfl⟩
    rw[hy]at hsn
    have hw8:IntKind.u8.wrap (z:Int)=(y:Int):=by
     simp[IntKind.wrap,IntKind.bits,IntKind.signed]
     omega
    have c0':∀o:Obj,(wr.alloc o).cell? ⟨b,0,none⟩=some ov:=fun o=>(World.cell?_alloc_lt wr o _ hC.lt).trans c0
    have HSN:=Ab hsn;have hyl:(xs++Ag n k).length+1<=1000000:=by rw[VE,hlen];omega
    have HYL:=Ab hyl;have HC:=Ab hC;clear hC hsn hlen hyl hy hz;go_wp2;go_region_law (refine LM rfl (.tmp 15) (.tmp 21) rfl wr B b _ [y] _ rfl (Aa HC) (by repeat (first|with_reducible exact Aw _ _|with_reducible refine Cb ?_|with_reducible refine ga ?_ _)) _ 1 1 rfl rfl (Z6c (by repeat (first|with_reducible refine QY ?_|with_reducible exact Jo (by simp)|with_reducible exact QX (by simp)))) (Aa HYL) ?_;intro a' l' c' w' c1 c2 c3)
    all_goals
     have HN:Hid (ZUp B w b (xs++Ag n (k+1)) (w'.setCell ⟨b,0,none⟩ (.slice a' l' c'))):=Ab (by
      rw[Aa HSN,<-VS];exact(Aa hU).trans (Aa c3))
     clear c1 c2 c3;go_wp2;go_roundw
     case rel=>exact⟨k+1,by omega,by go_num,HN⟩
     case measure=>simp[intOf];omega
  . obtain rfl:size=k:=by omega
    go_wp2;go_end0
    exact⟨rfl,Aa hU⟩
theorem Hc (B b size:Nat)(xs:List Nat)(w:World)(h:∃ov,ZC B w b xs ov)(hs:size<=10)(hx:xs.length<=900000):
 Calls Tryz.prog 80 #[.pointer (some ⟨b,0,none⟩),.int .i64 (size:Int)] w fun e w'=>e=.returned (.tuple #[])/\ZUp B w b (xs++Ag 0 size) w':=by
 have H:=Ab (Bb B b size 0 xs w h hs (by decide) hx);clear h;go_enter Tryz.func80,Tryz.ntmps80
 go_wp2_with fail
 refine(Aa H).mono ?_;rintro e w' ⟨rfl,hU⟩;have HU:=Ab hU;clear hU;go_wp2;go_end0
 exact⟨rfl,Aa HU⟩
end Go.Proofs.YtleocpdblhbimaaGreatDoor
namespace Go.Proofs.YtleocpdblhbimaaGreatDoor
open Go.RowKit
set_option linter.unusedVariables false
theorem Sy {w w':World}(h:Below w.heap.size w w'):w.grownBy w' none:=⟨h.os,h.tape,h.output,h.size,fun k hk _=>h.block k hk⟩
theorem MV {w w':World}{B e size n:Nat}{v:Value}{xs:List Value}(h:w.ownsRow B e size v n xs)(hg:Below w.heap.size w w'):w'.ownsRow B e size v n xs:=
 h.kept (Sy hg) (by cases hv:v.ownBlock with
  |none=>exact .inl rfl
  |some k=>exact .inr (by simp))
end Go.Proofs.YtleocpdblhbimaaGreatDoor
namespace Go.Proofs.YtleocpdblhbimaaGreatDoor
open Go.RowKit
set_option linter.unusedVariables false
set_option maxRecDepth 100000
def BsIn (w:World)(a:Option Addr)(c:Nat)(bs:List UInt8):Prop:=
 (a=none/\bs= []/\c=0)\/ (bs= []/\∃ad,a=some ad)\/∃b o,a=some ⟨b,o,none⟩/\b<w.heap.size/\bs.length<=c/\∀j,j<bs.length->w.cell? ⟨b,o+j,none⟩=some (.int .u8 (((bs.getD j 0).toNat:Nat):Int))
theorem BsIn.below {w w':World}{B:Nat}{a:Option Addr}{c:Nat}{bs:List UInt8}(h:BsIn w a c bs)(hB:Below B w w')(hb:w.heap.size<=B):BsIn w' a c bs:=by
 rcases h with h|h|⟨b,o,h1,h2,h3,h4⟩
 . exact .inl h
 . exact .inr (.inl h)
 . refine .inr (.inr ?_);exact⟨b,o,h1,VG h2 hB.size,h3,fun j hj=>(hB.cell (p:=⟨b,o+j,none⟩) (by simp;omega)).trans (h4 j hj)⟩
abbrev Z4g (bs:List UInt8):List Int:=bs.map fun x:UInt8=>((x.toNat:Nat):Int)
theorem NF (bs:List UInt8)(j:Nat):(Z4g bs).getD j 0=(((bs.getD j 0).toNat:Nat):Int):=by
 unfold Z4g
 by_cases h:j<bs.length
 . simp[List.getD,h]
 . simp[List.getD,h]
theorem Z6k (bs:List UInt8):(Z4g bs).map (fun n=>UInt8.ofNat n.toNat)=bs:=by
 unfold Z4g;rw[ZU];have:((fun n:Int=>UInt8.ofNat n.toNat) ∘ fun x:UInt8=>((x.toNat:Nat):Int))=id:=by funext x;simp
 rw[this,List.map_id]
theorem R7 (bs:List UInt8):strOfNums (Z4g bs)=B bs:=by
 unfold strOfNums B;rw[Z6k]
theorem Po {w:World}{a:Option Addr}{c:Nat}{bs:List UInt8}(h:BsIn w a c bs):(convert 23 9 (.slice a bs.length c)).run Tryz.prog w=.ok (.string (B bs)) w:=by
 rcases h with ⟨rfl,rfl,rfl⟩|⟨rfl,ad,rfl⟩|⟨b,o,rfl,h2,h3,h4⟩
 . exact run_convert_bytes_nil w _ _ Tryz.underlying23 Tryz.underlying5 0 0 _ Tryz.underlying9
 . show (convert 23 9 (.slice (some ad) 0 c)).run Tryz.prog w=.ok (.string (B [])) w
   rw[run_convert_bytes_string w _ _ _ (some ad) 0 c Tryz.underlying23 Tryz.underlying5 Tryz.underlying9];exact(run_bytesToString (P:=Tryz.prog) w ad 0 c [] (by rfl)).trans rfl
 . have:=run_convert_bytes_arg (P:=Tryz.prog) w _ _ Tryz.underlying23 Tryz.underlying5 b o bs.length c (Z4g bs) (by simp[Z4g]) (fun i hi=>by rw[h4 i hi,NF]) _ Tryz.underlying9
   rw[this,R7]
structure Fv where
 f:Fl
 a:Option Addr
 c:Nat
def Fv.sl (x:Fv):Value:=.slice x.a x.f.bytes.length x.c
def Fv.val (x:Fv):Value:=.agg #[.string (B x.f.name),x.sl,.int .i64 x.f.stamp,.int .i64 x.f.node,.bool x.f.gone]
def Fv.cells (x:Fv):List Value:= [.string (B x.f.name),x.sl,.int .i64 x.f.stamp,.int .i64 x.f.node,.bool x.f.gone]
structure FvIn (w:World)(x:Fv):Prop where
 bs:BsIn w x.a x.c x.f.bytes
 big:x.f.bytes.length<=140737488355328
 txt:x.f.name.length<=140737488355328
theorem FvIn.below {w w':World}{B:Nat}{x:Fv}(h:FvIn w x)(hB:Below B w w')(hb:w.heap.size<=B):FvIn w' x:=⟨h.bs.below hB hb,h.big,h.txt⟩
theorem FvIn.alloc {w:World}{x:Fv}(h:FvIn w x)(o:Obj):FvIn (w.alloc o) x:=h.below ((Below.refl w.heap.size w).alloc (VB _) o) (VB _)
def Fs (w:World)(b o:Nat)(xs:List Fv):Prop:=∀j x,xs[j]? =some x->w.cell? ⟨b,o+j*5,none⟩=some (.string (B x.f.name))/\w.cell? ⟨b,o+j*5+1,none⟩=some x.sl/\w.cell? ⟨b,o+j*5+2,none⟩=some (.int .i64 x.f.stamp)/\w.cell? ⟨b,o+j*5+3,none⟩=some (.int .i64 x.f.node)/\w.cell? ⟨b,o+j*5+4,none⟩=some (.bool x.f.gone)
structure FsIn (w:World)(ad:Option Addr)(c:Nat)(xs:List Fv):Prop where
 at_:xs= []\/∃b o,ad=some ⟨b,o,none⟩/\b<w.heap.size/\Fs w b o xs
 cap:xs.length<=c
 capm:c<=9223372036854775807
 lim:xs.length<=2199023255552
 all:∀x∈xs,FvIn w x
theorem FsIn.below {w w':World}{B:Nat}{ad:Option Addr}{c:Nat}{xs:List Fv}(h:FsIn w ad c xs)(hB:Below B w w')(hb:w.heap.size<=B):FsIn w' ad c xs:=by
 refine⟨?_,h.cap,h.capm,h.lim,fun x hx=>(h.all x hx).below hB hb⟩
 rcases h.at_ with h1|⟨b,o,h1,h2,h3⟩
 . exact .inl h1
 . refine .inr ⟨b,o,h1,VG h2 hB.size, ?_⟩;intro j x hj;obtain⟨k1,k2,k3,k4,k5⟩:=h3 j x hj;have hbB:b<B:=by omega
   exact⟨(hB.cell (p:=⟨b,_,none⟩) hbB).trans k1,(hB.cell (p:=⟨b,_,none⟩) hbB).trans k2,(hB.cell (p:=⟨b,_,none⟩) hbB).trans k3,(hB.cell (p:=⟨b,_,none⟩) hbB).trans k4,(hB.cell (p:=⟨b,_,none⟩) hbB).trans k5⟩
theorem FsIn.nil (w:World):FsIn w none 0 []:=⟨.inl rfl,VB _,by omega,by simp,fun x hx=>by cases hx⟩
theorem FsIn.get {w w':World}{ad:Option Addr}{c k:Nat}{xs:List Fv}{x:Fv}(h:FsIn w ad c xs)(hB:Below w.heap.size w w')(hk:xs[k]? =some x):
 ∃b o,ad=some ⟨b,o,none⟩/\b<w.heap.size/\w'.cell? ⟨b,o+k*5,none⟩=some (.string (B x.f.name))/\w'.cell? ⟨b,o+k*5+1,none⟩=some x.sl/\w'.cell? ⟨b,o+k*5+2,none⟩=some (.int .i64 x.f.stamp)/\w'.cell? ⟨b,o+k*5+3,none⟩=some (.int .i64 x.f.node)/\w'.cell? ⟨b,o+k*5+4,none⟩=some (.bool x.f.gone):=by
 rcases(h.below hB (VB _)).at_ with rfl|⟨b,o,h1,h2,h3⟩
 . simp at hk
 . rcases h.at_ with rfl|⟨b',o',h1',h2',_⟩
   . simp at hk
   . rw[h1]at h1'
     cases h1'
     obtain⟨k1,k2,k3,k4,k5⟩:=h3 k x hk;exact⟨b,o,h1,h2',k1,k2,k3,k4,k5⟩
theorem Ob {xs:List Fv}{k:Nat}(h:k<xs.length):∃x,xs[k]? =some x/\x∈xs:=⟨xs[k],VP h,WK h⟩
abbrev fls (xs:List Fv):List Fl:=xs.map Fv.f
theorem Nw (x:Fv):x.val=.agg #[.string (B x.f.name),.slice x.a x.f.bytes.length x.c,.int .i64 x.f.stamp,.int .i64 x.f.node,.bool x.f.gone]:=rfl
theorem Fh (l:List UInt8):(B l).toList=l:=by rw[ByteArray.toList_eq];rfl
theorem Z1q {w:World}{a a2:Option Addr}{c c2:Nat}{x y:List UInt8}(h:BsIn w a c x)(h2:BsIn w a2 c2 y):
 Calls Tryz.prog 13 #[.slice a x.length c,.slice a2 y.length c2] w fun e w'=>e=.returned (.bool (decide (x=y)))/\w'=w:=by
 have e1:=Po h;have e2:=Po h2;have e3:((B x).toList==(B y).toList)=decide (x=y):=by rw[Fh,Fh,XZ,beq_iff_eq,decide_eq_true_iff]
 clear h h2;generalize B x=s at*;generalize B y=t at*;go_enter Tryz.func13,Tryz.ntmps13
 go_wp2;go_ret;exact⟨rfl,rfl⟩
end Go.Proofs.YtleocpdblhbimaaGreatDoor
