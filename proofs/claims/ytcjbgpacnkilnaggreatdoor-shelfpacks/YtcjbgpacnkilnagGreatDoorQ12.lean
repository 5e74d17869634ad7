import Derived.Test.YtcjbgpacnkilnagGreatDoorQ3
import Derived.Test.YtcjbgpacnkilnagGreatDoorQ11
import Derived.Laws.BytesArg
import Derived.Laws.Externs
import Derived.Lib.BytesEntry
import Derived.Laws.ResultCell
import Derived.Test.YtcjbgpacnkilnagGreatDoorQ0
import Derived.Test.YtcjbgpacnkilnagGreatDoorQ2
import Derived.Shelf.Strings.Split
set_option maxHeartbeats 1000000
namespace Go.Proofs.YtcjbgpacnkilnagGreatDoor
open Go.RowKit
set_option linter.unusedVariables false
set_option maxRecDepth 100000
def BsIn (w:World)(a:Option Addr)(c:Nat)(bs:List UInt8):Prop:=
 (a=none/\bs= []/\c=0)\/ (bs= []/\∃ad,a=some ad)\/∃b o,a=some ⟨b,o,none⟩/\b<w.heap.size/\bs.length<=c/\∀j,j<bs.length->w.cell? ⟨b,o+j,none⟩=some (.int .u8 (((bs.getD j 0).toNat:Nat):Int))
theorem BsIn.below {w w':World}{B:Nat}{a:Option Addr}{c:Nat}{bs:List UInt8}(h:BsIn w a c bs)(hB:Below B w w')(hb:w.heap.size<=B):BsIn w' a c bs:=by
 rcases h with h|h|⟨b,o,h1,h2,h3,h4⟩
 . exact .inl h
 . exact .inr (.inl h)
 . refine .inr (.inr ?_);exact⟨b,o,h1,Nat.lt_of_lt_of_le h2 hB.size,h3,fun j hj=>(hB.cell (p:=⟨b,o+j,none⟩) (by simp;omega)).trans (h4 j hj)⟩
theorem BsIn.grown {w w':World}{r:Option Nat}{a:Option Addr}{c:Nat}{bs:List UInt8}(h:BsIn w a c bs)(hg:w.grownBy w' r)(hr:∀b o,a=some ⟨b,o,none⟩->some b≠r):BsIn w' a c bs:=by
 rcases h with h|h|⟨b,o,h1,h2,h3,h4⟩
 . exact .inl h
 . exact .inr (.inl h)
 . refine .inr (.inr ?_);exact⟨b,o,h1,Nat.lt_of_lt_of_le h2 hg.size,h3,fun j hj=>hg.cell (h4 j hj) (hr b o h1)⟩
abbrev Z53 (bs:List UInt8):List Int:=bs.map fun x:UInt8=>((x.toNat:Nat):Int)
theorem Zb8 (bs:List UInt8)(j:Nat):(Z53 bs).getD j 0=(((bs.getD j 0).toNat:Nat):Int):=by
 unfold Z53
 by_cases h:j<bs.length
 . simp[List.getD,h]
 . simp[List.getD,h]
theorem Zhr (bs:List UInt8):(Z53 bs).map (fun n=>UInt8.ofNat n.toNat)=bs:=by
 unfold Z53;rw[List.map_map];have:((fun n:Int=>UInt8.ofNat n.toNat) ∘ fun x:UInt8=>((x.toNat:Nat):Int))=id:=by funext x;simp
 rw[this,List.map_id]
theorem Z29 (bs:List UInt8):strOfNums (Z53 bs)=B bs:=by
 unfold strOfNums B;rw[Zhr]
theorem Wz {w:World}{a:Option Addr}{c:Nat}{bs:List UInt8}(h:BsIn w a c bs):(convert 22 9 (.slice a bs.length c)).run Tryz.prog w=.ok (.string (B bs)) w:=by
 rcases h with ⟨rfl,rfl,rfl⟩|⟨rfl,ad,rfl⟩|⟨b,o,rfl,h2,h3,h4⟩
 . exact run_convert_bytes_nil w _ _ Tryz.underlying22 Tryz.underlying5 0 0 _ Tryz.underlying9
 . show (convert 22 9 (.slice (some ad) 0 c)).run Tryz.prog w=.ok (.string (B [])) w
   rw[run_convert_bytes_string w _ _ _ (some ad) 0 c Tryz.underlying22 Tryz.underlying5 Tryz.underlying9];exact(run_bytesToString (P:=Tryz.prog) w ad 0 c [] (by rfl)).trans rfl
 . have:=run_convert_bytes_arg (P:=Tryz.prog) w _ _ Tryz.underlying22 Tryz.underlying5 b o bs.length c (Z53 bs) (by simp[Z53]) (fun i hi=>by rw[h4 i hi,Zb8]) _ Tryz.underlying9
   rw[this,Z29]
structure Fv where
 f:Fl
 a:Option Addr
 c:Nat
def Fv.sl (x:Fv):Value:=.slice x.a x.f.bytes.length x.c
def Fv.val (x:Fv):Value:=.agg #[.string (B x.f.name),x.sl,.int .i64 x.f.stamp,.int .i64 x.f.node,.bool x.f.gone]
def Fv.cells (x:Fv):List Value:= [.string (B x.f.name),x.sl,.int .i64 x.f.stamp,.int .i64 x.f.node,.bool x.f.gone]
structure FvIn (w:World)(x:Fv):Prop where
 bs:BsIn w x.a x.c x.f.bytes
 big:x.f.bytes.length<=140737488355328
 txt:x.f.name.length<=140737488355328
theorem FvIn.below {w w':World}{B:Nat}{x:Fv}(h:FvIn w x)(hB:Below B w w')(hb:w.heap.size<=B):FvIn w' x:=⟨h.bs.below hB hb,h.big,h.txt⟩
theorem FvIn.grown {w w':World}{r:Option Nat}{x:Fv}(h:FvIn w x)(hg:w.grownBy w' r)(hr:∀b o,x.a=some ⟨b,o,none⟩->some b≠r):FvIn w' x:=⟨h.bs.grown hg hr,h.big,h.txt⟩
theorem FvIn.alloc {w:World}{x:Fv}(h:FvIn w x)(o:Obj):FvIn (w.alloc o) x:=h.below ((Below.refl w.heap.size w).alloc (Nat.le_refl _) o) (Nat.le_refl _)
def Fs (w:World)(b o:Nat)(xs:List Fv):Prop:=∀j x,xs[j]? =some x->w.cell? ⟨b,o+j*5,none⟩=some (.string (B x.f.name))/\w.cell? ⟨b,o+j*5+1,none⟩=some x.sl/\w.cell? ⟨b,o+j*5+2,none⟩=some (.int .i64 x.f.stamp)/\w.cell? ⟨b,o+j*5+3,none⟩=some (.int .i64 x.f.node)/\w.cell? ⟨b,o+j*5+4,none⟩=some (.bool x.f.gone)
structure FsIn (w:World)(ad:Option Addr)(c:Nat)(xs:List Fv):Prop where
 at_:xs= []\/∃b o,ad=some ⟨b,o,none⟩/\b<w.heap.size/\Fs w b o xs
 cap:xs.length<=c
 capm:c<=9223372036854775807
 lim:xs.length<=2199023255552
 all:∀x∈xs,FvIn w x
theorem FsIn.below {w w':World}{B:Nat}{ad:Option Addr}{c:Nat}{xs:List Fv}(h:FsIn w ad c xs)(hB:Below B w w')(hb:w.heap.size<=B):FsIn w' ad c xs:=by
 refine⟨?_,h.cap,h.capm,h.lim,fun x hx=>(h.all x hx).below hB hb⟩
 rcases h.at_ with h1|⟨b,o,h1,h2,h3⟩
 . exact .inl h1
 . refine .inr ⟨b,o,h1,Nat.lt_of_lt_of_le h2 hB.size, ?_⟩;intro j x hj;obtain⟨k1,k2,k3,k4,k5⟩:=h3 j x hj;have hbB:b<B:=by omega
   exact⟨(hB.cell (p:=⟨b,_,none⟩) hbB).trans k1,(hB.cell (p:=⟨b,_,none⟩) hbB).trans k2,(hB.cell (p:=⟨b,_,none⟩) hbB).trans k3,(hB.cell (p:=⟨b,_,none⟩) hbB).trans k4,(hB.cell (p:=⟨b,_,none⟩) hbB).trans k5⟩
theorem FsIn.nil (w:World):FsIn w none 0 []:=⟨.inl rfl,Nat.le_refl _,by omega,by simp,fun x hx=>by cases hx⟩
theorem FsIn.get {w w':World}{ad:Option Addr}{c k:Nat}{xs:List Fv}{x:Fv}(h:FsIn w ad c xs)(hB:Below w.heap.size w w')(hk:xs[k]? =some x):
 ∃b o,ad=some ⟨b,o,none⟩/\b<w.heap.size/\w'.cell? ⟨b,o+k*5,none⟩=some (.string (B x.f.name))/\w'.cell? ⟨b,o+k*5+1,none⟩=some x.sl/\w'.cell? ⟨b,o+k*5+2,none⟩=some (.int .i64 x.f.stamp)/\w'.cell? ⟨b,o+k*5+3,none⟩=some (.int .i64 x.f.node)/\w'.cell? ⟨b,o+k*5+4,none⟩=some (.bool x.f.gone):=by
 rcases(h.below hB (Nat.le_refl _)).at_ with rfl|⟨b,o,h1,h2,h3⟩
 . simp at hk
 . rcases h.at_ with rfl|⟨b',o',h1',h2',_⟩
   . simp at hk
   . rw[h1]at h1'
     cases h1'
     obtain⟨k1,k2,k3,k4,k5⟩:=h3 k x hk;exact⟨b,o,h1,h2',k1,k2,k3,k4,k5⟩
theorem Qw {xs:List Fv}{k:Nat}(h:k<xs.length):∃x,xs[k]? =some x/\x∈xs:=⟨xs[k],List.getElem?_eq_getElem h,List.getElem_mem h⟩
abbrev fls (xs:List Fv):List Fl:=xs.map Fv.f
theorem Eb (x:Fv):x.val=.agg #[.string (B x.f.name),.slice x.a x.f.bytes.length x.c,.int .i64 x.f.stamp,.int .i64 x.f.node,.bool x.f.gone]:=rfl
theorem Dl (l:List UInt8):(B l).toList=l:=by rw[ByteArray.toList_eq];rfl
theorem Um {w:World}{a:Option Addr}{c:Nat}{bs:List UInt8}(h:BsIn w a c bs):(Extern.Bytes.bytesOf (.slice a bs.length c)).run Tryz.prog w=.ok (B bs) w:=by
 rcases h with ⟨rfl,rfl,rfl⟩|⟨rfl,ad,rfl⟩|⟨b,o,rfl,h2,h3,h4⟩
 . rfl
 . rfl
 . have:=Lib.run_loadBytesX (P:=Tryz.prog) w (Z53 bs) ⟨b,o,none⟩ .empty (fun j x hj=>by
    have hj2:j<bs.length:=by
     by_cases k:j<bs.length
     . exact k
     . rw[List.getElem?_eq_none (by simp[Z53];omega)]at hj;cases hj
    have e2:(⟨b,o,none⟩:Addr).add j=⟨b,o+j,none⟩:=by unfold Addr.add;split<;>simp_all
    rw[e2,h4 j hj2];simp[Z53,hj2]at hj
    subst hj;simp[List.getD,hj2])
   have hl:(Z53 bs).length=bs.length:=by simp[Z53]
   rw[hl]at this;show (Extern.Bytes.loadBytes ⟨b,o,none⟩ bs.length .empty).run Tryz.prog w=_
   rw[this]
   congr 1
   have e3:Lib.bytesOf (Z53 bs)=bs:=by
    unfold Lib.bytesOf
    first|exact Zhr bs|(simp[Z53])
   rw[e3];simp[B,ByteArray.empty,ByteArray.emptyWithCapacity]
   rfl
theorem Zgt {w:World}{a a2:Option Addr}{c c2:Nat}{x y:List UInt8}(h:BsIn w a c x)(h2:BsIn w a2 c2 y):
 Calls Tryz.prog 16 #[.slice a x.length c,.slice a2 y.length c2] w fun e w'=>e=.returned (.bool (decide (x=y)))/\w'=w:=by
 have e1:=Wz h;have e2:=Wz h2;have e3:((B x).toList==(B y).toList)=decide (x=y):=by rw[Dl,Dl,Bool.eq_iff_iff,beq_iff_eq,decide_eq_true_iff]
 clear h h2;generalize B x=s at*;generalize B y=t at*;go_enter Tryz.func16,Tryz.ntmps16
 go_wp2;go_ret;exact⟨rfl,rfl⟩
theorem Qr (x:Int)(w:World):Calls Tryz.prog 66 #[.int .i64 x] w fun e w'=>e=.returned (.bool false)/\w'=w:=by
 have h:(x !=x)=false:=by simp
 go_enter Tryz.func66,Tryz.ntmps66
 go_wp2;go_ret;exact⟨rfl,rfl⟩
theorem Zbx (x:ByteArray)(w:World):Calls Tryz.prog 65 #[.string x] w fun e w'=>e=.returned (.bool false)/\w'=w:=by
 have h:(x.toList==x.toList)=true:=by simp
 go_enter Tryz.func65,Tryz.ntmps65
 go_wp2;go_ret;exact⟨rfl,rfl⟩
theorem Zkn (x y:Int)(w:World):Calls Tryz.prog 55 #[.int .i64 x,.int .i64 y] w fun e w'=>e=.returned (.int .i64 (Zi5 x y))/\w'=w:=by
 unfold Zi5
 rcases Int.lt_trichotomy x y with h|h|h
 . rw[if_pos h];go_enter Tryz.func55,Tryz.ntmps55
   go_wp2_with (go_at_call 66;refine(Qr _ _).mono ?_;rintro e w' ⟨rfl,rfl⟩)
   go_ret;exact⟨rfl,rfl⟩
 . subst h;rw[if_neg (by omega),if_neg (by omega)];go_enter Tryz.func55,Tryz.ntmps55
   go_wp2_with (go_at_call 66;refine(Qr _ _).mono ?_;rintro e w' ⟨rfl,rfl⟩)
   go_ret;exact⟨rfl,rfl⟩
 . rw[if_neg (by omega),if_pos h];have h2:¬x<y:=by omega
   go_enter Tryz.func55,Tryz.ntmps55
   go_wp2_with (go_at_call 66;refine(Qr _ _).mono ?_;rintro e w' ⟨rfl,rfl⟩)
   go_ret;exact⟨rfl,rfl⟩
theorem Zkm (x y:List UInt8)(w:World):Calls Tryz.prog 54 #[.string (B x),.string (B y)] w fun e w'=>e=.returned (.int .i64 (Fe x y))/\w'=w:=by
 have h1:Op.bytesLess (B x).toList (B y).toList=decide (Fe x y<0):=by rw[Dl,Dl,Wd]
 have h2:((B x).toList==(B y).toList)=decide (Fe x y=0):=by
  rw[Dl,Dl,Bool.eq_iff_iff,beq_iff_eq,decide_eq_true_iff,Z19]
 rcases Er x y with h|h|h
 all_goals (
  rw[h]at h1 h2 ⊢;simp only[Int.reduceLT,Int.reduceEq,Int.reduceNeg,decide_true,decide_false]at h1 h2;clear h;generalize B x=s at*;generalize B y=t at*;go_enter Tryz.func54,Tryz.ntmps54
  go_wp2_with (go_at_call 65;refine(Zbx _ _).mono ?_;rintro e w' ⟨rfl,rfl⟩)
  go_ret;exact⟨rfl,rfl⟩)
theorem Zgh (x y:Bool)(w:World):Calls Tryz.prog 56 #[.bool x,.bool y] w fun e w'=>e=.returned (.int .i64 (Zmw x y))/\w'=w:=by
 cases x<;>cases y
 all_goals (
  go_enter Tryz.func56,Tryz.ntmps56
  go_wp2;go_ret;exact⟨rfl,rfl⟩)
theorem Zdf {w:World}{a a2:Option Addr}{c c2:Nat}{x y:List UInt8}(h:BsIn w a c x)(h2:BsIn w a2 c2 y):
 Calls Tryz.prog 57 #[.slice a x.length c,.slice a2 y.length c2] w fun e w'=>e=.returned (.int .i64 (Fe x y))/\w'=w:=by
 have e1:=Um h;have e2:=Um h2
 have e3:(Extern.BytealgCompare.compare #[.slice a x.length c,.slice a2 y.length c2]).run Tryz.prog w=.ok (.int .i64 (Fe x y)) w:=by
  change Sem.run Tryz.prog (do pure (goInt (Extern.BytealgCompare.cmp (<- Extern.Bytes.bytesOf (.slice a x.length c)) (<- Extern.Bytes.bytesOf (.slice a2 y.length c2))))) w=_
  simp only[Sem.run_bind,e1,e2,Sem.run_pure,Result.andThen];rw[Lib.cmp_eq];rfl
 clear h h2 e1 e2;go_enter Tryz.func57,Tryz.ntmps57
 go_wp2;rw[run_callFunc_extern Tryz.func67 (by kernel_rfl) (by kernel_rfl) (by kernel_rfl) (e:=Extern.BytealgCompare.compare) (by kernel_rfl),e3];simp only[Result.andThen];rw[Oper.upon_value];go_wp2;go_ret;exact⟨rfl,rfl⟩
def spn:List (Nat×Nat):= [(97,122),(65,90),(48,57),(46,46),(95,95),(45,45)]
def Mr (c:Nat)(p:Nat×Nat):Bool:=decide (p.1<=c)&&decide (c<=p.2)
theorem Zb6:∀c:UInt8,okB c=spn.any (Mr c.toNat):=by
 have h:∀n:Fin 256,okB (UInt8.ofNat n.val)=spn.any (Mr n.val):=by decide+kernel
 intro c;have:=h ⟨c.toNat,c.toNat_lt⟩
 simpa using this
theorem Znd (W:World):(Instr.index 164 (.agg #[.int .u8 97,.int .u8 122,.int .u8 65,.int .u8 90,.int .u8 48,.int .u8 57,.int .u8 46,.int .u8 46,.int .u8 95,.int .u8 95,.int .u8 45,.int .u8 45]) (.int .i64 0)).run Tryz.prog W=.ok (.agg #[.int .u8 97,.int .u8 122]) W:=by kernel_rfl
theorem Znc (W:World):(Instr.index 164 (.agg #[.int .u8 97,.int .u8 122,.int .u8 65,.int .u8 90,.int .u8 48,.int .u8 57,.int .u8 46,.int .u8 46,.int .u8 95,.int .u8 95,.int .u8 45,.int .u8 45]) (.int .i64 1)).run Tryz.prog W=.ok (.agg #[.int .u8 65,.int .u8 90]) W:=by kernel_rfl
theorem Znb (W:World):(Instr.index 164 (.agg #[.int .u8 97,.int .u8 122,.int .u8 65,.int .u8 90,.int .u8 48,.int .u8 57,.int .u8 46,.int .u8 46,.int .u8 95,.int .u8 95,.int .u8 45,.int .u8 45]) (.int .i64 2)).run Tryz.prog W=.ok (.agg #[.int .u8 48,.int .u8 57]) W:=by kernel_rfl
theorem Zna (W:World):(Instr.index 164 (.agg #[.int .u8 97,.int .u8 122,.int .u8 65,.int .u8 90,.int .u8 48,.int .u8 57,.int .u8 46,.int .u8 46,.int .u8 95,.int .u8 95,.int .u8 45,.int .u8 45]) (.int .i64 3)).run Tryz.prog W=.ok (.agg #[.int .u8 46,.int .u8 46]) W:=by kernel_rfl
theorem Zn9 (W:World):(Instr.index 164 (.agg #[.int .u8 97,.int .u8 122,.int .u8 65,.int .u8 90,.int .u8 48,.int .u8 57,.int .u8 46,.int .u8 46,.int .u8 95,.int .u8 95,.int .u8 45,.int .u8 45]) (.int .i64 4)).run Tryz.prog W=.ok (.agg #[.int .u8 95,.int .u8 95]) W:=by kernel_rfl
theorem Zn8 (W:World):(Instr.index 164 (.agg #[.int .u8 97,.int .u8 122,.int .u8 65,.int .u8 90,.int .u8 48,.int .u8 57,.int .u8 46,.int .u8 46,.int .u8 95,.int .u8 95,.int .u8 45,.int .u8 45]) (.int .i64 5)).run Tryz.prog W=.ok (.agg #[.int .u8 45,.int .u8 45]) W:=by kernel_rfl
theorem Zo0 (k:Nat)(hk:k<6)(W:World):(Instr.index 164 (.agg #[.int .u8 97,.int .u8 122,.int .u8 65,.int .u8 90,.int .u8 48,.int .u8 57,.int .u8 46,.int .u8 46,.int .u8 95,.int .u8 95,.int .u8 45,.int .u8 45]) (.int .i64 (k:Int))).run Tryz.prog W=.ok (.agg #[.int .u8 ((spn.getD k (0,0)).1:Nat),.int .u8 ((spn.getD k (0,0)).2:Nat)]) W:=by
 have h:k=0\/k=1\/k=2\/k=3\/k=4\/k=5:=by omega
 rcases h with rfl|rfl|rfl|rfl|rfl|rfl
 . exact Znd W
 . exact Znc W
 . exact Znb W
 . exact Zna W
 . exact Zn9 W
 . exact Zn8 W
theorem Zli (k:Nat):(spn.getD k (0,0)).1<256/\(spn.getD k (0,0)).2<256:=by
 match k with
 |0=>decide
 |1=>decide
 |2=>decide
 |3=>decide
 |4=>decide
 |5=>decide
 |k+6=>simp[spn]
theorem Zix (n k:Nat)(hk:k<6)(h:Mr n (spn.getD k (0,0))=true):spn.any (Mr n)=true:=by
 rw[List.any_eq_true];refine⟨spn.getD k (0,0), ?_,h⟩;have hl:k<spn.length:=hk;simp[List.getD,hl]
theorem Zf1 (n:Nat)(h:∀j,j<6->Mr n (spn.getD j (0,0))=false):spn.any (Mr n)=false:=by
 rw[List.any_eq_false];intro x hx;obtain⟨j,hj,rfl⟩:=List.mem_iff_getElem.1 hx;have:=h j hj
 simp[List.getD,hj]at this
 simp[this]
theorem Zy (n:Nat)(hn:n<256)(w:World):
 Calls Tryz.prog 82 #[.int .u8 n] w fun e w'=>e=.returned (.bool (spn.any (Mr n)))/\Below w.heap.size w w':=by
 have hI:=Zo0;go_enter Tryz.func82,Tryz.ntmps82
 go_wp2;go_loopw [12] (fun i wr=>∃k:Nat,k<=6/\i=.int .i64 k/\Hid (∀j,j<k->Mr n (spn.getD j (0,0))=false)/\Hid (Below w.heap.size w wr)) (fun i _=>6-(intOf i).toNat)
 case atStart=>exact⟨0,Nat.zero_le _,rfl,fun j hj=>absurd hj (by omega),Below.refl _ _⟩
 case round=>
  obtain⟨k,hk,rfl,HN,HB⟩:=hrel
  by_cases hlt:k<6
  . have hix:=hI k hlt;obtain⟨h1,h2⟩:=Zli k;have HS:Hid (Mr n (spn.getD k (0,0))=(decide ((spn.getD k (0,0)).1<=n)&&decide (n<=(spn.getD k (0,0)).2))):=rfl;have HY:=Ab (Zix n k hlt);generalize (spn.getD k (0,0)).1=lo at*;generalize (spn.getD k (0,0)).2=hi at*;clear hI;have hz:=(Aa HB).size
    by_cases ha:lo<=n
    . by_cases hb:n<=hi
      . go_wp2;go_ret;refine⟨Hi ((Aa HY) ?_).symm,(Aa HB).alloc (Aa HB).size _⟩;rw[Aa HS];simp[ha,hb]
      . go_wp2;go_roundw
        case rel=>
         refine⟨k+1,by omega,by go_num,fun j hj=> ?_,(Aa HB).alloc (Aa HB).size _⟩
         by_cases hjk:j=k
         . subst hjk;rw[Aa HS];simp[hb]
         . exact(Aa HN) j (by omega)
        case measure=>simp[intOf];omega
    . go_wp2;go_roundw
      case rel=>
       refine⟨k+1,by omega,by go_num,fun j hj=> ?_,(Aa HB).alloc (Aa HB).size _⟩
       by_cases hjk:j=k
       . subst hjk;rw[Aa HS];simp[ha]
       . exact(Aa HN) j (by omega)
      case measure=>simp[intOf];omega
  . obtain rfl:k=6:=by omega
    go_wp2;go_ret;exact⟨Hi (Zf1 n (Aa HN)).symm,Aa HB⟩
theorem Zb5 (p:ByteArray)(h0:p.data.toList≠ [])(h1:p.data.toList≠ [46])(h2:p.data.toList≠ [46,46])(hall:∀j (h:j<p.size),spn.any (Mr (p[j]'h).toNat)=true):okP p.data.toList=true:=by
 simp only[okP,Bool.and_eq_true,bne_iff_ne];refine⟨⟨⟨h0,h1⟩,h2⟩, ?_⟩;rw[List.all_eq_true];intro x hx;obtain⟨j,hj,rfl⟩:=List.mem_iff_getElem.1 hx;rw[Zb6];have hs:j<p.size:=by rw[Zf5];exact hj
 exact hall j hs
theorem Zjn (p:ByteArray)(j:Nat)(h:j<p.size)(hbad:spn.any (Mr (p[j]'h).toNat)=false):okP p.data.toList=false:=by
 have hb:okB (p[j]'h)=false:=by rw[Zb6];exact hbad
 have:p.data.toList.all okB=false:=by
  rw[List.all_eq_false];refine⟨p[j]'h, ?_,by simp[hb]⟩;exact Array.mem_toList_iff.2 (Array.getElem_mem _)
 simp[okP,this]
theorem Zhd (p:ByteArray)(l:List UInt8)(h:¬p.data.toList=l):(p.toList==l)=false:=by
 rw[Lib.toList_data];simpa using h
theorem Zex (p:ByteArray)(h:¬p.data.toList= []):p.toList.isEmpty=false:=by
 rw[Lib.toList_data]
 cases hl:p.data.toList with
 |nil=>exact absurd hl h
 |cons x xs=>rfl
theorem Z7j (p:ByteArray)(hp:p.size<=maxLen)(w:World):
 Calls Tryz.prog 73 #[.string p] w fun e w'=>e=.returned (.bool (okP p.data.toList))/\Below w.heap.size w w':=by
 by_cases h0:p.data.toList= []
 . obtain rfl:p=⟨#[]⟩:=by rw[<-Z6b p,h0];rfl
   go_enter Tryz.func73,Tryz.ntmps73
   go_wp2;go_ret;exact⟨rfl,Below.refl _ _⟩
 by_cases h1:p.data.toList= [46]
 . obtain rfl:p=⟨#[46]⟩:=by rw[<-Z6b p,h1];rfl
   go_enter Tryz.func73,Tryz.ntmps73
   go_wp2;go_ret;exact⟨rfl,Below.refl _ _⟩
 by_cases h2:p.data.toList= [46,46]
 . obtain rfl:p=⟨#[46,46]⟩:=by rw[<-Z6b p,h2];rfl
   go_enter Tryz.func73,Tryz.ntmps73
   go_wp2;go_ret;exact⟨rfl,Below.refl _ _⟩
 have HP:=Ab (Zb5 p h0 h1 h2);have e0:=Zex p h0;have e1:=Zhd p [46] h1;have e2:=Zhd p [46,46] h2;clear h0 h1 h2;have HQ:=Ab (Zjn p);go_enter Tryz.func73,Tryz.ntmps73
 go_wp2;go_loopw [3,16] (fun _ i wr=>∃k:Nat,k<=p.size/\i=.int .i64 k/\Hid (∀j (h:j<p.size),j<k->spn.any (Mr (p[j]'h).toNat)=true)/\Hid (Below w.heap.size w wr)) (fun _ i _=>p.size-(intOf i).toNat)
 case atStart=>exact⟨0,Nat.zero_le _,rfl,fun j _ hj=>absurd hj (by omega),Below.refl _ _⟩
 case round=>
  obtain⟨k,hk,rfl,HN,HB⟩:=hrel;unfold maxLen at hp;have hz:=(Aa HB).size
  by_cases hlt:k<p.size
  . have HM:=Ab (fun W=>Zy (p[k]'hlt).toNat (p[k]'hlt).toNat_lt W)
    cases hm:spn.any (Mr (p[k]'hlt).toNat)with
    |true=>
     rw[hm]at HM;have HM2:=Ab hm;clear hm;go_wp2_with (go_at_call 82;refine((Aa HM) _).mono ?_;rintro e w1 ⟨rfl,hb1⟩;have HB1:=Ab ((Aa HB).trans (hb1.mono hz));clear hb1)
     go_roundw
     case rel=>
      refine⟨k+1,by omega,by go_num,fun j h hj=> ?_,Aa HB1⟩
      by_cases hjk:j=k
      . subst hjk;exact Aa HM2
      . exact(Aa HN) j h (by omega)
     case measure=>simp[intOf];omega
    |false=>
     rw[hm]at HM;have HM2:=Ab hm;clear hm;go_wp2_with (go_at_call 82;refine((Aa HM) _).mono ?_;rintro e w1 ⟨rfl,hb1⟩;have HB1:=Ab ((Aa HB).trans (hb1.mono hz));clear hb1)
     go_ret;exact⟨Hi ((Aa HQ) k hlt (Aa HM2)).symm,Aa HB1⟩
  . obtain rfl:k=p.size:=by omega
    go_wp2;go_ret;exact⟨Hi ((Aa HP) (fun j h=>(Aa HN) j h h)).symm,Aa HB⟩
def Yt:Go.Shelf.Ren:=⟨fun|221=>81|268=>95|138=>96|143=>97|195=>107|197=>108|218=>109|219=>110|260=>129|217=>130|225=>131|224=>132|267=>133|266=>151|314=>152|n=>n,fun|9=>9|3=>3|31=>112|4=>4|0=>0|105=>185|21=>21|5=>5|46=>106|119=>226|139=>229|138=>228|146=>230|51=>60|n=>n,fun|1=>0|3=>1|4=>2|n=>n⟩
theorem Z2b:Go.Proofs.Lays.n221 Tryz.prog Yt:= {
 mixed:=by kernel_rfl
 f138:=Tryz.func96.trans (congrArg some (by kernel_rfl))
 f143:=Tryz.func97.trans (congrArg some (by kernel_rfl))
 f195:=Tryz.func107.trans (congrArg some (by kernel_rfl))
 f197:=Tryz.func108.trans (congrArg some (by kernel_rfl))
 f217:=Tryz.func130.trans (congrArg some (by kernel_rfl))
 f218:=Tryz.func109.trans (congrArg some (by kernel_rfl))
 f219:=Tryz.func110.trans (congrArg some (by kernel_rfl))
 f221:=Tryz.func81.trans (congrArg some (by kernel_rfl))
 f224:=Tryz.func132.trans (congrArg some (by kernel_rfl))
 f225:=Tryz.func131.trans (congrArg some (by kernel_rfl))
 f260:=Tryz.func129.trans (congrArg some (by kernel_rfl))
 f266:=Tryz.func151.trans (congrArg some (by kernel_rfl))
 f267:=Tryz.func133.trans (congrArg some (by kernel_rfl))
 f268:=Tryz.func95.trans (congrArg some (by kernel_rfl))
 f314:=Tryz.func152.trans (congrArg some (by kernel_rfl))
 t0:=Tryz.underlying0
 a0:=Tryz.isAgg0
 z0:=Tryz.sizeOf0
 v0:=Tryz.zeroValue0
 t3:=Tryz.underlying3
 a3:=Tryz.isAgg3
 z3:=Tryz.sizeOf3
 v3:=Tryz.zeroValue3
 t4:=Tryz.underlying4
 a4:=Tryz.isAgg4
 z4:=Tryz.sizeOf4
 v4:=Tryz.zeroValue4
 t5:=Tryz.underlying5
 a5:=Tryz.isAgg5
 z5:=Tryz.sizeOf5
 v5:=Tryz.zeroValue5
 t9:=Tryz.underlying9
 a9:=Tryz.isAgg9
 z9:=Tryz.sizeOf9
 v9:=Tryz.zeroValue9
 t21:=Tryz.underlying21
 a21:=Tryz.isAgg21
 z21:=Tryz.sizeOf21
 v21:=Tryz.zeroValue21
 t31:=Tryz.underlying112
 a31:=Tryz.isAgg112
 z31:=Tryz.sizeOf112
 v31:=Tryz.zeroValue112
 t46:=Tryz.underlying106
 a46:=Tryz.isAgg106
 z46:=Tryz.sizeOf106
 v46:=Tryz.zeroValue106
 t51:=Tryz.underlying60
 a51:=Tryz.isAgg60
 z51:=Tryz.sizeOf60
 v51:=Tryz.zeroValue60
 t105:=Tryz.underlying185
 a105:=Tryz.isAgg185
 z105:=Tryz.sizeOf185
 v105:=Tryz.zeroValue185
 t119:=Tryz.underlying226
 a119:=Tryz.isAgg226
 z119:=Tryz.sizeOf226
 t138:=Tryz.underlying228
 a138:=Tryz.isAgg228
 z138:=Tryz.sizeOf228
 v138:=Tryz.zeroValue228
 t139:=Tryz.underlying229
 a139:=Tryz.isAgg229
 z139:=Tryz.sizeOf229
 v139:=Tryz.zeroValue229
 t146:=Tryz.underlying230
 a146:=Tryz.isAgg230
 z146:=Tryz.sizeOf230
 v146:=Tryz.zeroValue230
 g1:=by kernel_rfl
 g3:=by kernel_rfl
 g4:=by kernel_rfl}
def Za5 (ps:List (List UInt8)):List Value:=ps.map fun p=>.string (B p)
theorem Zg9:(Tryz.prog.info? 9).map (fun i=>(i.zero,i.size,i.bytes))=some (some (.string ByteArray.empty),1,16):=by kernel_rfl
theorem Z0j (s:ByteArray)(w:World)(hs:s.size<4294967281):
 Calls Tryz.prog 81 #[.string s,.string ⟨#[47]⟩,.int .i64 0,.int .i64 (-1)] w fun e w'=>
  e=.returned (.slice (some ⟨w.heap.size,0,none⟩) (spl s.data.toList).length (spl s.data.toList).length)/\w'=w.alloc (.cells (Za5 (spl s.data.toList)).toArray 9):=by
 have hsz:(⟨#[47]⟩:ByteArray).size=1:=rfl;have hle:=Lib.countB_le ⟨#[47]⟩ (by rw[hsz];decide) s.size s (Nat.le_refl _);have hlen:=Lib.splitB_all ⟨#[47]⟩ (by rw[hsz];decide) 0 _ s rfl
 have hI:∀(x:ByteArray) (c:Array Value),x.size<=s.size->Calls Tryz.prog (Yt.f 143) #[.string x,.string ⟨#[47]⟩] (w.alloc (.cells c (Yt.t 9))) fun e w'=>e=.returned (.int .i64 (Lib.indexB x ⟨#[47]⟩))/\w'=w.alloc (.cells c (Yt.t 9)):=by
  intro x c _;refine(Any.strings_Index_one {Z2b with} x 47 _).mono ?_;rintro e w' ⟨rfl,rfl⟩;refine⟨?_,rfl⟩;show _=Ending.returned (Value.int .i64 (Lib.index x.data.toList [47]))
  rw[Lib.index_one]
 have hC:Calls Tryz.prog (Yt.f 138) #[.string s,.string ⟨#[47]⟩] w fun e w'=>e=.returned (.int .i64 (Lib.countB s ⟨#[47]⟩))/\w'=w:=by
  refine(Any.strings_Count_one {Z2b with} s 47 w).mono ?_;rintro e w' ⟨rfl,rfl⟩;refine⟨?_,rfl⟩;show _=Ending.returned (Value.int .i64 ((Lib.count s.data.toList [47]:Nat):Int))
  rw[Lib.count_one];rfl
 have c:=Any.strings_genSplit_core Z2b Zg9 s ⟨#[47]⟩ 0 (-1) (Lib.countB s ⟨#[47]⟩+1) w hs (by rw[hsz];decide) (Nat.zero_le _) hI hC (by decide) (by decide) (by rw[if_pos (by decide)];omega);rw[Nat.add_sub_cancel]at c;have e2:Lib.cellsOf (Lib.splitB ⟨#[47]⟩ 0 (Lib.countB s ⟨#[47]⟩) s) (Lib.countB s ⟨#[47]⟩+1)=((Lib.splitB ⟨#[47]⟩ 0 (Lib.countB s ⟨#[47]⟩) s).map Value.string).toArray:=by rw[<-hlen];exact Lib.cellsOf_full _
 rw[e2,Z6v,Z8a]at c;refine c.mono ?_;rintro e w' ⟨rfl,rfl⟩;refine⟨by simp, ?_⟩;simp only[Za5,List.map_map];rfl
theorem Zab (s:ByteArray)(w:World)(hs:s.size<4294967281):
 Calls Tryz.prog 72 #[.string s,.string ⟨#[47]⟩] w fun e w'=>
  e=.returned (.slice (some ⟨w.heap.size,0,none⟩) (spl s.data.toList).length (spl s.data.toList).length)/\w'=w.alloc (.cells (Za5 (spl s.data.toList)).toArray 9):=by
 have c:=Z0j s w hs;go_enter Tryz.func72,Tryz.ntmps72
 go_wp2_with (go_at_call 81;refine c.mono ?_;rintro e w' ⟨rfl,hw⟩;rw[hw])
 go_ret;exact⟨rfl,rfl⟩
def SRow (w:World)(b:Nat)(v:Value)(ps:List (List UInt8)):Prop:=w.ownsRow b 9 1 v ps.length (Za5 ps)
theorem Ve (ps:List (List UInt8)):(Za5 ps).length=ps.length:=by simp[Za5]
theorem SRow.nil (w:World)(b:Nat):SRow w b (.slice none 0 0) []:=World.ownsRow_nil _ _ _ _
theorem SRow.new (w:World)(ps:List (List UInt8))(h:ps.length<=maxLen):SRow (w.alloc (.cells (Za5 ps).toArray 9)) w.heap.size (.slice (some ⟨w.heap.size,0,none⟩) ps.length ps.length) ps:=
 ⟨by rw[Ve];omega,.inr ⟨w.heap.size,ps.length,(Za5 ps).toArray,rfl,Nat.le_refl _,heap_alloc_new w _,Nat.le_refl _,h,by simp[Ve],by simp[<-Ve]⟩⟩
theorem SRow.below {w w':World}{b:Nat}{v:Value}{ps:List (List UInt8)}(h:SRow w b v ps)(hg:Below w.heap.size w w'):SRow w' b v ps:=Zo h hg
theorem Zcv {s:List UInt8}(h:40<s.length):Nr s=2:=by unfold Nr;rw[if_pos h]
theorem Zgp {s:List UInt8}(h:s.length<=40){p:List UInt8}(hp:p∈spl s)(hb:okP p=false):Nr s=1:=by
 unfold Nr;rw[if_neg (by omega),if_neg];intro hall;have:=List.all_eq_true.1 hall p hp
 rw[hb]at this;exact absurd this (by simp)
theorem Zf2 {s:List UInt8}(h:s.length<=40):(spl s).length<=41:=by
 have:=List.count_le_length (a:=(47:UInt8)) (l:=s)
 rw[Zac];omega
def Zlq (s:List UInt8):List (List UInt8):=if Nr s=0 then spl s else []
theorem Zjc {s:List UInt8}(h:Nr s=0):Zlq s=spl s:=by unfold Zlq;rw[if_pos h]
theorem Z4r {s:List UInt8}(h:Nr s≠0):Zlq s= []:=by unfold Zlq;rw[if_neg h]
theorem Z1i (w:World)(o:Obj):Below w.heap.size w (w.alloc o):=(Below.refl _ _).alloc (Nat.le_refl _) o
theorem Zax (s:List UInt8)(w:World)(hs:s.length<=maxLen):
 Calls Tryz.prog 62 #[.string (B s)] w fun e w'=>∃v,e=.returned (.tuple #[v,.int .i64 (Nr s:Nat)])/\SRow w' w.heap.size v (Zlq s)/\Below w.heap.size w w'/\(Nr s≠0->v=.slice none 0 0):=by
 have hsz:=Ut s;unfold maxLen at hs
 by_cases h40:40<s.length
 . have HE:=Ab (Zcv h40);have h40':40<(B s).size:=by rw[hsz];omega
   have hms:(B s).size<=9223372036854775807:=by rw[hsz];omega
   clear hsz h40 hs;generalize B s=t at*;go_enter Tryz.func62,Tryz.ntmps62
   go_wp2;go_ret2;rw[Z4r (by rw[Aa HE];decide),Aa HE];exact⟨_,rfl,SRow.nil _ _,Below.refl _ _,fun _=>rfl⟩
 . have hsp:=Zab (B s) w (by rw[hsz];omega);rw[Zi3]at hsp;have h40':(B s).size<=40:=by rw[hsz];omega
   have h41:=Zf2 (s:=s) (by omega);have HR:=Ab (SRow.new w (spl s) (by unfold maxLen;omega));have HE:=Ab (fun p hp hb=>Zgp (s:=s) (p:=p) (by omega) hp hb);have HO:=Ab (Zkh (l:=s) (by omega));have hmem:∀p∈spl s,p.length<=s.length:=Zlj s;obtain⟨L,hL⟩:∃L,(spl s).length=L:=⟨_,rfl⟩
   rw[hL]at hsp HR h41;have HL:=Ab hL
   have HC:Hid (∀j (hj:j<(spl s).length) (W:World),Below (w.heap.size+1) (w.alloc (.cells (Za5 (spl s)).toArray 9)) W->W.cell? ⟨w.heap.size,j,none⟩=some (.string (B ((spl s)[j]'hj)))):=by
    intro j hj W hW;rw[hW.cell (p:=⟨w.heap.size,j,none⟩) (Nat.lt_succ_self _),World.cell?_alloc_at _ _ _ _ rfl];simp[Za5,hj]
   have hs40:s.length<=40:=by omega
   clear hL hsz h40 hs;generalize B s=t at*;go_enter Tryz.func62,Tryz.ntmps62
   go_wp2_with (go_at_call 72;refine hsp.mono ?_;rintro e w' ⟨rfl,hw⟩;rw[hw])
   clear hsp;go_loopw [6,14] (fun _ i wr=>∃k:Nat,k<=L/\i=.int .i64 k/\Hid (∀j (hj:j<(spl s).length),j<k->okP ((spl s)[j]'hj)=true)/\Hid (Below (w.heap.size+1) (w.alloc (.cells (Za5 (spl s)).toArray 9)) wr)) (fun _ i _=>L-(intOf i).toNat)
   case atStart=>exact⟨0,Nat.zero_le _,rfl,fun j _ hj=>absurd hj (by omega),Below.refl _ _⟩
   case round=>
    obtain⟨k,hk,rfl,HN,HB⟩:=hrel
    by_cases hlt:k<L
    . have hlt':k<(spl s).length:=by rw[Aa HL];exact hlt
      have hcell:=(Aa HC) k hlt' wr (Aa HB);have hz:=(Aa HB).size;have hlen:=hmem _ (List.getElem_mem hlt');have HM:=Ab (List.getElem_mem hlt');have HQ:=Ab (fun h=>(Aa HE) _ (Aa HM) h)
      have HN2:Hid (okP ((spl s)[k]'hlt')=true->∀j (hj:j<(spl s).length),j<k+1->okP ((spl s)[j]'hj)=true):=by
       intro h j hj hjk
       by_cases e:j=k
       . subst e;exact h
       . exact(Aa HN) j hj (by omega)
      generalize (spl s)[k]'hlt'=q at*;have hI:=Z7j (B q) (by rw[Ut];unfold maxLen;omega) wr;rw[Zi3]at hI;clear HM;generalize B q=qb at*;have hz2:w.heap.size+1<=wr.heap.size:=by simp at hz;omega
      cases ho:okP q with
      |true=>
       rw[ho]at hI;have HO2:=Ab ho;clear ho;go_wp2_with (go_at_call 73;refine hI.mono ?_;rintro e w1 ⟨rfl,hb1⟩;have HB1:=Ab ((Aa HB).trans (hb1.mono hz2));clear hb1)
       go_roundw
       case rel=>exact⟨k+1,by omega,by go_num,(Aa HN2) (Aa HO2),Aa HB1⟩
       case measure=>simp[intOf];omega
      |false=>
       rw[ho]at hI;have HO2:=Ab ho;clear ho;go_wp2_with (go_at_call 73;refine hI.mono ?_;rintro e w1 ⟨rfl,hb1⟩;have HB1:=Ab ((Aa HB).trans (hb1.mono hz2));clear hb1)
       go_ret2;have he:=(Aa HQ) (Aa HO2)
       rw[Z4r (by rw[he];decide),he];exact⟨_,rfl,SRow.nil _ _,(Z1i w _).trans ((Aa HB1).mono (Nat.le_succ _)),fun _=>rfl⟩
    . obtain rfl:k=L:=by omega
      have HZ:Hid (Nr s=0):=(Aa HO) (by
       rw[List.all_eq_true];intro p hp;obtain⟨j,hj,rfl⟩:=List.mem_iff_getElem.1 hp;exact(Aa HN) j hj (by rw[Aa HL]at hj;exact hj))
      go_wp2;go_ret2;rw[Zjc (Aa HZ),Aa HZ];refine⟨_,rfl, ?_,(Z1i w _).trans ((Aa HB).mono (Nat.le_succ _)),fun h=>absurd rfl h⟩;exact(Aa HR).below (by simpa using Aa HB)
theorem Zdi (s:List UInt8)(w:World)(hs:s.length<=maxLen):
 Calls Tryz.prog 48 #[.string (B s)] w fun e w'=>e=.returned (.int .i64 (Nr s:Nat))/\Below w.heap.size w w':=by
 have c:=Zax s w hs;generalize B s=t at*;go_enter Tryz.func48,Tryz.ntmps48
 go_wp2_with (go_at_call 62;refine c.mono ?_;rintro e w' ⟨v,rfl,_,hb,_⟩;have HB:=Ab hb;clear hb)
 go_ret;exact⟨rfl,Aa HB⟩
end Go.Proofs.YtcjbgpacnkilnagGreatDoor
