import Derived.Test.YtleocpdblhbimaaGreatDoorQ5
import Derived.Laws.BytesArg
import Derived.Laws.Externs
import Derived.Lib.BytesEntry
import Derived.Laws.ResultCell
set_option linter.unusedSimpArgs false
namespace Go.Proofs.YtleocpdblhbimaaGreatDoor
open Go.RowKit
set_option linter.unusedVariables false
set_option maxRecDepth 100000
def BsIn (w:World)(a:Option Addr)(c:Nat)(bs:List UInt8):Prop:=
 (a=none/\bs= []/\c=0)\/ (bs= []/\∃ad,a=some ad)\/∃b o,a=some ⟨b,o,none⟩/\b<w.heap.size/\bs.length<=c/\∀j,j<bs.length->w.cell? ⟨b,o+j,none⟩=some (.int .u8 (((bs.getD j 0).toNat:Nat):Int))
theorem BsIn.below {w w':World}{B:Nat}{a:Option Addr}{c:Nat}{bs:List UInt8}(h:BsIn w a c bs)(hB:Below B w w')(hb:w.heap.size<=B):BsIn w' a c bs:=by
 rcases h with h|h|⟨b,o,h1,h2,h3,h4⟩
 . exact .inl h
 . exact .inr (.inl h)
 . refine .inr (.inr ?_);exact⟨b,o,h1,VG h2 hB.size,h3,fun j hj=>(hB.cell (p:=⟨b,o+j,none⟩) (by simp;omega)).trans (h4 j hj)⟩
abbrev Z1h (bs:List UInt8):List Int:=bs.map fun x:UInt8=>((x.toNat:Nat):Int)
theorem JL (bs:List UInt8)(j:Nat):(Z1h bs).getD j 0=(((bs.getD j 0).toNat:Nat):Int):=by
 unfold Z1h
 by_cases h:j<bs.length
 . simp[List.getD,h]
 . simp[List.getD,h]
theorem Z3j (bs:List UInt8):(Z1h bs).map (fun n=>UInt8.ofNat n.toNat)=bs:=by
 unfold Z1h;rw[ZL];have:((fun n:Int=>UInt8.ofNat n.toNat) ∘ fun x:UInt8=>((x.toNat:Nat):Int))=id:=by funext x;simp
 rw[this,List.map_id]
theorem K7 (bs:List UInt8):strOfNums (Z1h bs)=B bs:=by
 unfold strOfNums B;rw[Z3j]
theorem Pn {w:World}{a:Option Addr}{c:Nat}{bs:List UInt8}(h:BsIn w a c bs):(convert 23 9 (.slice a bs.length c)).run Tryz.prog w=.ok (.string (B bs)) w:=by
 rcases h with ⟨rfl,rfl,rfl⟩|⟨rfl,ad,rfl⟩|⟨b,o,rfl,h2,h3,h4⟩
 . exact run_convert_bytes_nil w _ _ Tryz.underlying23 Tryz.underlying5 0 0 _ Tryz.underlying9
 . show (convert 23 9 (.slice (some ad) 0 c)).run Tryz.prog w=.ok (.string (B [])) w
   rw[run_convert_bytes_string w _ _ _ (some ad) 0 c Tryz.underlying23 Tryz.underlying5 Tryz.underlying9];exact(run_bytesToString (P:=Tryz.prog) w ad 0 c [] (by rfl)).trans rfl
 . have:=run_convert_bytes_arg (P:=Tryz.prog) w _ _ Tryz.underlying23 Tryz.underlying5 b o bs.length c (Z1h bs) (by simp[Z1h]) (fun i hi=>by rw[h4 i hi,JL]) _ Tryz.underlying9
   rw[this,K7]
structure Fv where
 f:Fl
 a:Option Addr
 c:Nat
def Fv.sl (x:Fv):Value:=.slice x.a x.f.bytes.length x.c
def Fv.val (x:Fv):Value:=.agg #[.string (B x.f.name),x.sl,.int .i64 x.f.stamp,.int .i64 x.f.node,.bool x.f.gone]
def Fv.cells (x:Fv):List Value:= [.string (B x.f.name),x.sl,.int .i64 x.f.stamp,.int .i64 x.f.node,.bool x.f.gone]
structure FvIn (w:World)(x:Fv):Prop where
 bs:BsIn w x.a x.c x.f.bytes
 big:x.f.bytes.length<=140737488355328
 txt:x.f.name.length<=140737488355328
theorem FvIn.below {w w':World}{B:Nat}{x:Fv}(h:FvIn w x)(hB:Below B w w')(hb:w.heap.size<=B):FvIn w' x:=⟨h.bs.below hB hb,h.big,h.txt⟩
theorem FvIn.alloc {w:World}{x:Fv}(h:FvIn w x)(o:Obj):FvIn (w.alloc o) x:=h.below ((Below.refl w.heap.size w).alloc (VC _) o) (VC _)
def Fs (w:World)(b o:Nat)(xs:List Fv):Prop:=∀j x,xs[j]? =some x->w.cell? ⟨b,o+j*5,none⟩=some (.string (B x.f.name))/\w.cell? ⟨b,o+j*5+1,none⟩=some x.sl/\w.cell? ⟨b,o+j*5+2,none⟩=some (.int .i64 x.f.stamp)/\w.cell? ⟨b,o+j*5+3,none⟩=some (.int .i64 x.f.node)/\w.cell? ⟨b,o+j*5+4,none⟩=some (.bool x.f.gone)
structure FsIn (w:World)(ad:Option Addr)(c:Nat)(xs:List Fv):Prop where
 at_:xs= []\/∃b o,ad=some ⟨b,o,none⟩/\b<w.heap.size/\Fs w b o xs
 cap:xs.length<=c
 capm:c<=9223372036854775807
 lim:xs.length<=2199023255552
 all:∀x∈xs,FvIn w x
theorem FsIn.below {w w':World}{B:Nat}{ad:Option Addr}{c:Nat}{xs:List Fv}(h:FsIn w ad c xs)(hB:Below B w w')(hb:w.heap.size<=B):FsIn w' ad c xs:=by
 refine⟨?_,h.cap,h.capm,h.lim,fun x hx=>(h.all x hx).below hB hb⟩
 rcases h.at_ with h1|⟨b,o,h1,h2,h3⟩
 . exact .inl h1
 . refine .inr ⟨b,o,h1,VG h2 hB.size, ?_⟩;intro j x hj;obtain⟨k1,k2,k3,k4,k5⟩:=h3 j x hj;have hbB:b<B:=by omega
   exact⟨(hB.cell (p:=⟨b,_,none⟩) hbB).trans k1,(hB.cell (p:=⟨b,_,none⟩) hbB).trans k2,(hB.cell (p:=⟨b,_,none⟩) hbB).trans k3,(hB.cell (p:=⟨b,_,none⟩) hbB).trans k4,(hB.cell (p:=⟨b,_,none⟩) hbB).trans k5⟩
theorem FsIn.nil (w:World):FsIn w none 0 []:=⟨.inl rfl,VC _,by omega,by simp,fun x hx=>by cases hx⟩
theorem FsIn.get {w w':World}{ad:Option Addr}{c k:Nat}{xs:List Fv}{x:Fv}(h:FsIn w ad c xs)(hB:Below w.heap.size w w')(hk:xs[k]? =some x):
 ∃b o,ad=some ⟨b,o,none⟩/\b<w.heap.size/\w'.cell? ⟨b,o+k*5,none⟩=some (.string (B x.f.name))/\w'.cell? ⟨b,o+k*5+1,none⟩=some x.sl/\w'.cell? ⟨b,o+k*5+2,none⟩=some (.int .i64 x.f.stamp)/\w'.cell? ⟨b,o+k*5+3,none⟩=some (.int .i64 x.f.node)/\w'.cell? ⟨b,o+k*5+4,none⟩=some (.bool x.f.gone):=by
 rcases(h.below hB (VC _)).at_ with rfl|⟨b,o,h1,h2,h3⟩
 . simp at hk
 . rcases h.at_ with rfl|⟨b',o',h1',h2',_⟩
   . simp at hk
   . rw[h1]at h1'
     cases h1'
     obtain⟨k1,k2,k3,k4,k5⟩:=h3 k x hk;exact⟨b,o,h1,h2',k1,k2,k3,k4,k5⟩
theorem Ri {xs:List Fv}{k:Nat}(h:k<xs.length):∃x,xs[k]? =some x/\x∈xs:=⟨xs[k],VR h,WK h⟩
abbrev fls (xs:List Fv):List Fl:=xs.map Fv.f
theorem Tj (x:Fv):x.val=.agg #[.string (B x.f.name),.slice x.a x.f.bytes.length x.c,.int .i64 x.f.stamp,.int .i64 x.f.node,.bool x.f.gone]:=rfl
theorem Fc (l:List UInt8):(B l).toList=l:=by rw[ByteArray.toList_eq];rfl
theorem RQ {w:World}{a a2:Option Addr}{c c2:Nat}{x y:List UInt8}(h:BsIn w a c x)(h2:BsIn w a2 c2 y):
 Calls Tryz.prog 13 #[.slice a x.length c,.slice a2 y.length c2] w fun e w'=>e=.returned (.bool (decide (x=y)))/\w'=w:=by
 have e1:=Pn h;have e2:=Pn h2;have e3:((B x).toList==(B y).toList)=decide (x=y):=by rw[Fc,Fc,YR,beq_iff_eq,decide_eq_true_iff]
 clear h h2;generalize B x=s at*;generalize B y=t at*;go_enter Tryz.func13,Tryz.ntmps13
 go_wp2;go_ret;exact⟨rfl,rfl⟩
end Go.Proofs.YtleocpdblhbimaaGreatDoor
