import Derived.Test.YtcjbgpacnkilnaiGreatDoorQ3
import Derived.Test.YtcjbgpacnkilnaiGreatDoorQ11
import Derived.Laws.BytesArg
import Derived.Laws.Externs
import Derived.Lib.BytesEntry
import Derived.Laws.ResultCell
import Derived.Test.YtcjbgpacnkilnaiGreatDoorQ0
import Derived.Test.YtcjbgpacnkilnaiGreatDoorQ2
import Derived.Shelf.Strings.Split
set_option maxHeartbeats 1000000
namespace Go.Proofs.YtcjbgpacnkilnaiGreatDoor
open Go.RowKit
set_option linter.unusedVariables false
set_option maxRecDepth 100000
def BsIn (w:World)(a:Option Addr)(c:Nat)(bs:List UInt8):Prop:=
 (a=none/\bs= []/\c=0)\/ (bs= []/\∃ad,a=some ad)\/∃b o,a=some ⟨b,o,none⟩/\b<w.heap.size/\bs.length<=c/\∀j,j<bs.length->w.cell? ⟨b,o+j,none⟩=some (.int .u8 (((bs.getD j 0).toNat:Nat):Int))
theorem BsIn.below {w w':World}{B:Nat}{a:Option Addr}{c:Nat}{bs:List UInt8}(h:BsIn w a c bs)(hB:Below B w w')(hb:w.heap.size<=B):BsIn w' a c bs:=by
 rcases h with h|h|⟨b,o,h1,h2,h3,h4⟩
 . exact .inl h
 . exact .inr (.inl h)
 . refine .inr (.inr ?_);exact⟨b,o,h1,Nat.lt_of_lt_of_le h2 hB.size,h3,fun j hj=>(hB.cell (p:=⟨b,o+j,none⟩) (by simp;omega)).trans (h4 j hj)⟩
theorem BsIn.grown {w w':World}{r:Option Nat}{a:Option Addr}{c:Nat}{bs:List UInt8}(h:BsIn w a c bs)(hg:w.grownBy w' r)(hr:∀b o,a=some ⟨b,o,none⟩->some b≠r):BsIn w' a c bs:=by
 rcases h with h|h|⟨b,o,h1,h2,h3,h4⟩
 . exact .inl h
 . exact .inr (.inl h)
 . refine .inr (.inr ?_);exact⟨b,o,h1,Nat.lt_of_lt_of_le h2 hg.size,h3,fun j hj=>hg.cell (h4 j hj) (hr b o h1)⟩
abbrev Z2q (bs:List UInt8):List Int:=bs.map fun x:UInt8=>((x.toNat:Nat):Int)
theorem Z8m (bs:List UInt8)(j:Nat):(Z2q bs).getD j 0=(((bs.getD j 0).toNat:Nat):Int):=by
 unfold Z2q
 by_cases h:j<bs.length
 . simp[List.getD,h]
 . simp[List.getD,h]
theorem Zep (bs:List UInt8):(Z2q bs).map (fun n=>UInt8.ofNat n.toNat)=bs:=by
 unfold Z2q;rw[List.map_map];have:((fun n:Int=>UInt8.ofNat n.toNat) ∘ fun x:UInt8=>((x.toNat:Nat):Int))=id:=by funext x;simp
 rw[this,List.map_id]
theorem Z06 (bs:List UInt8):strOfNums (Z2q bs)=B bs:=by
 unfold strOfNums B;rw[Zep]
theorem Ze4 {w:World}{a:Option Addr}{c:Nat}{bs:List UInt8}(h:BsIn w a c bs):(convert 22 9 (.slice a bs.length c)).run Tryz.prog w=.ok (.string (B bs)) w:=by
 rcases h with ⟨rfl,rfl,rfl⟩|⟨rfl,ad,rfl⟩|⟨b,o,rfl,h2,h3,h4⟩
 . exact run_convert_bytes_nil w _ _ Tryz.underlying22 Tryz.underlying5 0 0 _ Tryz.underlying9
 . show (convert 22 9 (.slice (some ad) 0 c)).run Tryz.prog w=.ok (.string (B [])) w
   rw[run_convert_bytes_string w _ _ _ (some ad) 0 c Tryz.underlying22 Tryz.underlying5 Tryz.underlying9];exact(run_bytesToString (P:=Tryz.prog) w ad 0 c [] (by rfl)).trans rfl
 . have:=run_convert_bytes_arg (P:=Tryz.prog) w _ _ Tryz.underlying22 Tryz.underlying5 b o bs.length c (Z2q bs) (by simp[Z2q]) (fun i hi=>by rw[h4 i hi,Z8m]) _ Tryz.underlying9
   rw[this,Z06]
structure Fv where
 f:Fl
 a:Option Addr
 c:Nat
def Fv.sl (x:Fv):Value:=.slice x.a x.f.bytes.length x.c
def Fv.val (x:Fv):Value:=.agg #[.string (B x.f.name),x.sl,.int .i64 x.f.stamp,.int .i64 x.f.node,.bool x.f.gone]
def Fv.cells (x:Fv):List Value:= [.string (B x.f.name),x.sl,.int .i64 x.f.stamp,.int .i64 x.f.node,.bool x.f.gone]
structure FvIn (w:World)(x:Fv):Prop where
 bs:BsIn w x.a x.c x.f.bytes
 big:x.f.bytes.length<=140737488355328
 txt:x.f.name.length<=140737488355328
theorem FvIn.below {w w':World}{B:Nat}{x:Fv}(h:FvIn w x)(hB:Below B w w')(hb:w.heap.size<=B):FvIn w' x:=⟨h.bs.below hB hb,h.big,h.txt⟩
theorem FvIn.grown {w w':World}{r:Option Nat}{x:Fv}(h:FvIn w x)(hg:w.grownBy w' r)(hr:∀b o,x.a=some ⟨b,o,none⟩->some b≠r):FvIn w' x:=⟨h.bs.grown hg hr,h.big,h.txt⟩
theorem FvIn.alloc {w:World}{x:Fv}(h:FvIn w x)(o:Obj):FvIn (w.alloc o) x:=h.below ((Below.refl w.heap.size w).alloc (Nat.le_refl _) o) (Nat.le_refl _)
def Fs (w:World)(b o:Nat)(xs:List Fv):Prop:=∀j x,xs[j]? =some x->w.cell? ⟨b,o+j*5,none⟩=some (.string (B x.f.name))/\w.cell? ⟨b,o+j*5+1,none⟩=some x.sl/\w.cell? ⟨b,o+j*5+2,none⟩=some (.int .i64 x.f.stamp)/\w.cell? ⟨b,o+j*5+3,none⟩=some (.int .i64 x.f.node)/\w.cell? ⟨b,o+j*5+4,none⟩=some (.bool x.f.gone)
structure FsIn (w:World)(ad:Option Addr)(c:Nat)(xs:List Fv):Prop where
 at_:xs= []\/∃b o,ad=some ⟨b,o,none⟩/\b<w.heap.size/\Fs w b o xs
 cap:xs.length<=c
 capm:c<=9223372036854775807
 lim:xs.length<=2199023255552
 all:∀x∈xs,FvIn w x
theorem FsIn.below {w w':World}{B:Nat}{ad:Option Addr}{c:Nat}{xs:List Fv}(h:FsIn w ad c xs)(hB:Below B w w')(hb:w.heap.size<=B):FsIn w' ad c xs:=by
 refine⟨?_,h.cap,h.capm,h.lim,fun x hx=>(h.all x hx).below hB hb⟩
 rcases h.at_ with h1|⟨b,o,h1,h2,h3⟩
 . exact .inl h1
 . refine .inr ⟨b,o,h1,Nat.lt_of_lt_of_le h2 hB.size, ?_⟩;intro j x hj;obtain⟨k1,k2,k3,k4,k5⟩:=h3 j x hj;have hbB:b<B:=by omega
   exact⟨(hB.cell (p:=⟨b,_,none⟩) hbB).trans k1,(hB.cell (p:=⟨b,_,none⟩) hbB).trans k2,(hB.cell (p:=⟨b,_,none⟩) hbB).trans k3,(hB.cell (p:=⟨b,_,none⟩) hbB).trans k4,(hB.cell (p:=⟨b,_,none⟩) hbB).trans k5⟩
theorem FsIn.nil (w:World):FsIn w none 0 []:=⟨.inl rfl,Nat.le_refl _,by omega,by simp,fun x hx=>by cases hx⟩
theorem FsIn.get {w w':World}{ad:Option Addr}{c k:Nat}{xs:List Fv}{x:Fv}(h:FsIn w ad c xs)(hB:Below w.heap.size w w')(hk:xs[k]? =some x):
 ∃b o,ad=some ⟨b,o,none⟩/\b<w.heap.size/\w'.cell? ⟨b,o+k*5,none⟩=some (.string (B x.f.name))/\w'.cell? ⟨b,o+k*5+1,none⟩=some x.sl/\w'.cell? ⟨b,o+k*5+2,none⟩=some (.int .i64 x.f.stamp)/\w'.cell? ⟨b,o+k*5+3,none⟩=some (.int .i64 x.f.node)/\w'.cell? ⟨b,o+k*5+4,none⟩=some (.bool x.f.gone):=by
 rcases(h.below hB (Nat.le_refl _)).at_ with rfl|⟨b,o,h1,h2,h3⟩
 . simp at hk
 . rcases h.at_ with rfl|⟨b',o',h1',h2',_⟩
   . simp at hk
   . rw[h1]at h1'
     cases h1'
     obtain⟨k1,k2,k3,k4,k5⟩:=h3 k x hk;exact⟨b,o,h1,h2',k1,k2,k3,k4,k5⟩
theorem Ye {xs:List Fv}{k:Nat}(h:k<xs.length):∃x,xs[k]? =some x/\x∈xs:=⟨xs[k],List.getElem?_eq_getElem h,List.getElem_mem h⟩
abbrev fls (xs:List Fv):List Fl:=xs.map Fv.f
theorem Er (x:Fv):x.val=.agg #[.string (B x.f.name),.slice x.a x.f.bytes.length x.c,.int .i64 x.f.stamp,.int .i64 x.f.node,.bool x.f.gone]:=rfl
theorem Fi (l:List UInt8):(B l).toList=l:=by rw[ByteArray.toList_eq];rfl
theorem Sn {w:World}{a:Option Addr}{c:Nat}{bs:List UInt8}(h:BsIn w a c bs):(Extern.Bytes.bytesOf (.slice a bs.length c)).run Tryz.prog w=.ok (B bs) w:=by
 rcases h with ⟨rfl,rfl,rfl⟩|⟨rfl,ad,rfl⟩|⟨b,o,rfl,h2,h3,h4⟩
 . rfl
 . rfl
 . have:=Lib.run_loadBytesX (P:=Tryz.prog) w (Z2q bs) ⟨b,o,none⟩ .empty (fun j x hj=>by
    have hj2:j<bs.length:=by
     by_cases k:j<bs.length
     . exact k
     . rw[List.getElem?_eq_none (by simp[Z2q];omega)]at hj;cases hj
    have e2:(⟨b,o,none⟩:Addr).add j=⟨b,o+j,none⟩:=by unfold Addr.add;split<;>simp_all
    rw[e2,h4 j hj2];simp[Z2q,hj2]at hj
    subst hj;simp[List.getD,hj2])
   have hl:(Z2q bs).length=bs.length:=by simp[Z2q]
   rw[hl]at this;show (Extern.Bytes.loadBytes ⟨b,o,none⟩ bs.length .empty).run Tryz.prog w=_
   rw[this]
   congr 1
   have e3:Lib.bytesOf (Z2q bs)=bs:=by
    unfold Lib.bytesOf
    first|exact Zep bs|(simp[Z2q])
   rw[e3];simp[B,ByteArray.empty,ByteArray.emptyWithCapacity]
   rfl
theorem Ox (x:Int)(w:World):Calls Tryz.prog 103 #[.int .i64 x] w fun e w'=>e=.returned (.bool false)/\w'=w:=by
 have h:(x !=x)=false:=by simp
 go_enter Tryz.func103,Tryz.ntmps103
 go_wp2;go_ret;exact⟨rfl,rfl⟩
theorem Z98 (x:ByteArray)(w:World):Calls Tryz.prog 102 #[.string x] w fun e w'=>e=.returned (.bool false)/\w'=w:=by
 have h:(x.toList==x.toList)=true:=by simp
 go_enter Tryz.func102,Tryz.ntmps102
 go_wp2;go_ret;exact⟨rfl,rfl⟩
theorem Zh8 (x y:Int)(w:World):Calls Tryz.prog 83 #[.int .i64 x,.int .i64 y] w fun e w'=>e=.returned (.int .i64 (Zf2 x y))/\w'=w:=by
 unfold Zf2
 rcases Int.lt_trichotomy x y with h|h|h
 . rw[if_pos h];go_enter Tryz.func83,Tryz.ntmps83
   go_wp2_with (go_at_call 103;refine(Ox _ _).mono ?_;rintro e w' ⟨rfl,rfl⟩)
   go_ret;exact⟨rfl,rfl⟩
 . subst h;rw[if_neg (by omega),if_neg (by omega)];go_enter Tryz.func83,Tryz.ntmps83
   go_wp2_with (go_at_call 103;refine(Ox _ _).mono ?_;rintro e w' ⟨rfl,rfl⟩)
   go_ret;exact⟨rfl,rfl⟩
 . rw[if_neg (by omega),if_pos h];have h2:¬x<y:=by omega
   go_enter Tryz.func83,Tryz.ntmps83
   go_wp2_with (go_at_call 103;refine(Ox _ _).mono ?_;rintro e w' ⟨rfl,rfl⟩)
   go_ret;exact⟨rfl,rfl⟩
theorem Zh7 (x y:List UInt8)(w:World):Calls Tryz.prog 82 #[.string (B x),.string (B y)] w fun e w'=>e=.returned (.int .i64 (He x y))/\w'=w:=by
 have h1:Op.bytesLess (B x).toList (B y).toList=decide (He x y<0):=by rw[Fi,Fi,Ty]
 have h2:((B x).toList==(B y).toList)=decide (He x y=0):=by
  rw[Fi,Fi,Bool.eq_iff_iff,beq_iff_eq,decide_eq_true_iff,Zc]
 rcases Ik x y with h|h|h
 all_goals (
  rw[h]at h1 h2 ⊢;simp only[Int.reduceLT,Int.reduceEq,Int.reduceNeg,decide_true,decide_false]at h1 h2;clear h;generalize B x=s at*;generalize B y=t at*;go_enter Tryz.func82,Tryz.ntmps82
  go_wp2_with (go_at_call 102;refine(Z98 _ _).mono ?_;rintro e w' ⟨rfl,rfl⟩)
  go_ret;exact⟨rfl,rfl⟩)
theorem Zdo (x y:Bool)(w:World):Calls Tryz.prog 84 #[.bool x,.bool y] w fun e w'=>e=.returned (.int .i64 (Zjj x y))/\w'=w:=by
 cases x<;>cases y
 all_goals (
  go_enter Tryz.func84,Tryz.ntmps84
  go_wp2;go_ret;exact⟨rfl,rfl⟩)
theorem Zap {w:World}{a a2:Option Addr}{c c2:Nat}{x y:List UInt8}(h:BsIn w a c x)(h2:BsIn w a2 c2 y):
 Calls Tryz.prog 85 #[.slice a x.length c,.slice a2 y.length c2] w fun e w'=>e=.returned (.int .i64 (He x y))/\w'=w:=by
 have e1:=Sn h;have e2:=Sn h2
 have e3:(Extern.BytealgCompare.compare #[.slice a x.length c,.slice a2 y.length c2]).run Tryz.prog w=.ok (.int .i64 (He x y)) w:=by
  change Sem.run Tryz.prog (do pure (goInt (Extern.BytealgCompare.cmp (<- Extern.Bytes.bytesOf (.slice a x.length c)) (<- Extern.Bytes.bytesOf (.slice a2 y.length c2))))) w=_
  simp only[Sem.run_bind,e1,e2,Sem.run_pure,Result.andThen];rw[Lib.cmp_eq];rfl
 clear h h2 e1 e2;go_enter Tryz.func85,Tryz.ntmps85
 go_wp2;rw[run_callFunc_extern Tryz.func104 (by kernel_rfl) (by kernel_rfl) (by kernel_rfl) (e:=Extern.BytealgCompare.compare) (by kernel_rfl),e3];simp only[Result.andThen];rw[Oper.upon_value];go_wp2;go_ret;exact⟨rfl,rfl⟩
def spn:List (Nat×Nat):= [(97,122),(65,90),(48,57),(46,46),(95,95),(45,45)]
def Ld (c:Nat)(p:Nat×Nat):Bool:=decide (p.1<=c)&&decide (c<=p.2)
theorem Z8k:∀c:UInt8,okB c=spn.any (Ld c.toNat):=by
 have h:∀n:Fin 256,okB (UInt8.ofNat n.val)=spn.any (Ld n.val):=by decide+kernel
 intro c;have:=h ⟨c.toNat,c.toNat_lt⟩
 simpa using this
theorem Zjz (W:World):(Instr.index 171 (.agg #[.int .u8 97,.int .u8 122,.int .u8 65,.int .u8 90,.int .u8 48,.int .u8 57,.int .u8 46,.int .u8 46,.int .u8 95,.int .u8 95,.int .u8 45,.int .u8 45]) (.int .i64 0)).run Tryz.prog W=.ok (.agg #[.int .u8 97,.int .u8 122]) W:=by kernel_rfl
theorem Zjy (W:World):(Instr.index 171 (.agg #[.int .u8 97,.int .u8 122,.int .u8 65,.int .u8 90,.int .u8 48,.int .u8 57,.int .u8 46,.int .u8 46,.int .u8 95,.int .u8 95,.int .u8 45,.int .u8 45]) (.int .i64 1)).run Tryz.prog W=.ok (.agg #[.int .u8 65,.int .u8 90]) W:=by kernel_rfl
theorem Zjx (W:World):(Instr.index 171 (.agg #[.int .u8 97,.int .u8 122,.int .u8 65,.int .u8 90,.int .u8 48,.int .u8 57,.int .u8 46,.int .u8 46,.int .u8 95,.int .u8 95,.int .u8 45,.int .u8 45]) (.int .i64 2)).run Tryz.prog W=.ok (.agg #[.int .u8 48,.int .u8 57]) W:=by kernel_rfl
theorem Zjw (W:World):(Instr.index 171 (.agg #[.int .u8 97,.int .u8 122,.int .u8 65,.int .u8 90,.int .u8 48,.int .u8 57,.int .u8 46,.int .u8 46,.int .u8 95,.int .u8 95,.int .u8 45,.int .u8 45]) (.int .i64 3)).run Tryz.prog W=.ok (.agg #[.int .u8 46,.int .u8 46]) W:=by kernel_rfl
theorem Zjv (W:World):(Instr.index 171 (.agg #[.int .u8 97,.int .u8 122,.int .u8 65,.int .u8 90,.int .u8 48,.int .u8 57,.int .u8 46,.int .u8 46,.int .u8 95,.int .u8 95,.int .u8 45,.int .u8 45]) (.int .i64 4)).run Tryz.prog W=.ok (.agg #[.int .u8 95,.int .u8 95]) W:=by kernel_rfl
theorem Zju (W:World):(Instr.index 171 (.agg #[.int .u8 97,.int .u8 122,.int .u8 65,.int .u8 90,.int .u8 48,.int .u8 57,.int .u8 46,.int .u8 46,.int .u8 95,.int .u8 95,.int .u8 45,.int .u8 45]) (.int .i64 5)).run Tryz.prog W=.ok (.agg #[.int .u8 45,.int .u8 45]) W:=by kernel_rfl
theorem Zkn (k:Nat)(hk:k<6)(W:World):(Instr.index 171 (.agg #[.int .u8 97,.int .u8 122,.int .u8 65,.int .u8 90,.int .u8 48,.int .u8 57,.int .u8 46,.int .u8 46,.int .u8 95,.int .u8 95,.int .u8 45,.int .u8 45]) (.int .i64 (k:Int))).run Tryz.prog W=.ok (.agg #[.int .u8 ((spn.getD k (0,0)).1:Nat),.int .u8 ((spn.getD k (0,0)).2:Nat)]) W:=by
 have h:k=0\/k=1\/k=2\/k=3\/k=4\/k=5:=by omega
 rcases h with rfl|rfl|rfl|rfl|rfl|rfl
 . exact Zjz W
 . exact Zjy W
 . exact Zjx W
 . exact Zjw W
 . exact Zjv W
 . exact Zju W
theorem Zi5 (k:Nat):(spn.getD k (0,0)).1<256/\(spn.getD k (0,0)).2<256:=by
 match k with
 |0=>decide
 |1=>decide
 |2=>decide
 |3=>decide
 |4=>decide
 |5=>decide
 |k+6=>simp[spn]
theorem Zfm (n k:Nat)(hk:k<6)(h:Ld n (spn.getD k (0,0))=true):spn.any (Ld n)=true:=by
 rw[List.any_eq_true];refine⟨spn.getD k (0,0), ?_,h⟩;have hl:k<spn.length:=hk;simp[List.getD,hl]
theorem Zcb (n:Nat)(h:∀j,j<6->Ld n (spn.getD j (0,0))=false):spn.any (Ld n)=false:=by
 rw[List.any_eq_false];intro x hx;obtain⟨j,hj,rfl⟩:=List.mem_iff_getElem.1 hx;have:=h j hj
 simp[List.getD,hj]at this
 simp[this]
theorem Xl (n:Nat)(hn:n<256)(w:World):
 Calls Tryz.prog 81 #[.int .u8 n] w fun e w'=>e=.returned (.bool (spn.any (Ld n)))/\Below w.heap.size w w':=by
 have hI:=Zkn;go_enter Tryz.func81,Tryz.ntmps81
 go_wp2;go_loopw [12] (fun i wr=>∃k:Nat,k<=6/\i=.int .i64 k/\Hid (∀j,j<k->Ld n (spn.getD j (0,0))=false)/\Hid (Below w.heap.size w wr)) (fun i _=>6-(intOf i).toNat)
 case atStart=>exact⟨0,Nat.zero_le _,rfl,fun j hj=>absurd hj (by omega),Below.refl _ _⟩
 case round=>
  obtain⟨k,hk,rfl,HN,HB⟩:=hrel
  by_cases hlt:k<6
  . have hix:=hI k hlt;obtain⟨h1,h2⟩:=Zi5 k;have HS:Hid (Ld n (spn.getD k (0,0))=(decide ((spn.getD k (0,0)).1<=n)&&decide (n<=(spn.getD k (0,0)).2))):=rfl;have HY:=Ab (Zfm n k hlt);generalize (spn.getD k (0,0)).1=lo at*;generalize (spn.getD k (0,0)).2=hi at*;clear hI;have hz:=(Aa HB).size
    by_cases ha:lo<=n
    . by_cases hb:n<=hi
      . go_wp2;go_ret;refine⟨Id ((Aa HY) ?_).symm,(Aa HB).alloc (Aa HB).size _⟩;rw[Aa HS];simp[ha,hb]
      . go_wp2;go_roundw
        case rel=>
         refine⟨k+1,by omega,by go_num,fun j hj=> ?_,(Aa HB).alloc (Aa HB).size _⟩
         by_cases hjk:j=k
         . subst hjk;rw[Aa HS];simp[hb]
         . exact(Aa HN) j (by omega)
        case measure=>simp[intOf];omega
    . go_wp2;go_roundw
      case rel=>
       refine⟨k+1,by omega,by go_num,fun j hj=> ?_,(Aa HB).alloc (Aa HB).size _⟩
       by_cases hjk:j=k
       . subst hjk;rw[Aa HS];simp[ha]
       . exact(Aa HN) j (by omega)
      case measure=>simp[intOf];omega
  . obtain rfl:k=6:=by omega
    go_wp2;go_ret;exact⟨Id (Zcb n (Aa HN)).symm,Aa HB⟩
theorem Z8j (p:ByteArray)(h0:p.data.toList≠ [])(h1:p.data.toList≠ [46])(h2:p.data.toList≠ [46,46])(hall:∀j (h:j<p.size),spn.any (Ld (p[j]'h).toNat)=true):okP p.data.toList=true:=by
 simp only[okP,Bool.and_eq_true,bne_iff_ne];refine⟨⟨⟨h0,h1⟩,h2⟩, ?_⟩;rw[List.all_eq_true];intro x hx;obtain⟨j,hj,rfl⟩:=List.mem_iff_getElem.1 hx;rw[Z8k];have hs:j<p.size:=by rw[Zcf];exact hj
 exact hall j hs
theorem Zga (p:ByteArray)(j:Nat)(h:j<p.size)(hbad:spn.any (Ld (p[j]'h).toNat)=false):okP p.data.toList=false:=by
 have hb:okB (p[j]'h)=false:=by rw[Z8k];exact hbad
 have:p.data.toList.all okB=false:=by
  rw[List.all_eq_false];refine⟨p[j]'h, ?_,by simp[hb]⟩;exact Array.mem_toList_iff.2 (Array.getElem_mem _)
 simp[okP,this]
theorem Zeh (p:ByteArray)(l:List UInt8)(h:¬p.data.toList=l):(p.toList==l)=false:=by
 rw[Lib.toList_data];simpa using h
theorem Zc7 (p:ByteArray)(h:¬p.data.toList= []):p.toList.isEmpty=false:=by
 rw[Lib.toList_data]
 cases hl:p.data.toList with
 |nil=>exact absurd hl h
 |cons x xs=>rfl
theorem Z55 (p:ByteArray)(hp:p.size<=maxLen)(w:World):
 Calls Tryz.prog 69 #[.string p] w fun e w'=>e=.returned (.bool (okP p.data.toList))/\Below w.heap.size w w':=by
 by_cases h0:p.data.toList= []
 . obtain rfl:p=⟨#[]⟩:=by rw[<-Z40 p,h0];rfl
   go_enter Tryz.func69,Tryz.ntmps69
   go_wp2;go_ret;exact⟨rfl,Below.refl _ _⟩
 by_cases h1:p.data.toList= [46]
 . obtain rfl:p=⟨#[46]⟩:=by rw[<-Z40 p,h1];rfl
   go_enter Tryz.func69,Tryz.ntmps69
   go_wp2;go_ret;exact⟨rfl,Below.refl _ _⟩
 by_cases h2:p.data.toList= [46,46]
 . obtain rfl:p=⟨#[46,46]⟩:=by rw[<-Z40 p,h2];rfl
   go_enter Tryz.func69,Tryz.ntmps69
   go_wp2;go_ret;exact⟨rfl,Below.refl _ _⟩
 have HP:=Ab (Z8j p h0 h1 h2);have e0:=Zc7 p h0;have e1:=Zeh p [46] h1;have e2:=Zeh p [46,46] h2;clear h0 h1 h2;have HQ:=Ab (Zga p);go_enter Tryz.func69,Tryz.ntmps69
 go_wp2;go_loopw [3,16] (fun _ i wr=>∃k:Nat,k<=p.size/\i=.int .i64 k/\Hid (∀j (h:j<p.size),j<k->spn.any (Ld (p[j]'h).toNat)=true)/\Hid (Below w.heap.size w wr)) (fun _ i _=>p.size-(intOf i).toNat)
 case atStart=>exact⟨0,Nat.zero_le _,rfl,fun j _ hj=>absurd hj (by omega),Below.refl _ _⟩
 case round=>
  obtain⟨k,hk,rfl,HN,HB⟩:=hrel;unfold maxLen at hp;have hz:=(Aa HB).size
  by_cases hlt:k<p.size
  . have HM:=Ab (fun W=>Xl (p[k]'hlt).toNat (p[k]'hlt).toNat_lt W)
    cases hm:spn.any (Ld (p[k]'hlt).toNat)with
    |true=>
     rw[hm]at HM;have HM2:=Ab hm;clear hm;go_wp2_with (go_at_call 81;refine((Aa HM) _).mono ?_;rintro e w1 ⟨rfl,hb1⟩;have HB1:=Ab ((Aa HB).trans (hb1.mono hz));clear hb1)
     go_roundw
     case rel=>
      refine⟨k+1,by omega,by go_num,fun j h hj=> ?_,Aa HB1⟩
      by_cases hjk:j=k
      . subst hjk;exact Aa HM2
      . exact(Aa HN) j h (by omega)
     case measure=>simp[intOf];omega
    |false=>
     rw[hm]at HM;have HM2:=Ab hm;clear hm;go_wp2_with (go_at_call 81;refine((Aa HM) _).mono ?_;rintro e w1 ⟨rfl,hb1⟩;have HB1:=Ab ((Aa HB).trans (hb1.mono hz));clear hb1)
     go_ret;exact⟨Id ((Aa HQ) k hlt (Aa HM2)).symm,Aa HB1⟩
  . obtain rfl:k=p.size:=by omega
    go_wp2;go_ret;exact⟨Id ((Aa HP) (fun j h=>(Aa HN) j h h)).symm,Aa HB⟩
def Wh:Go.Shelf.Ren:=⟨fun|221=>80|268=>99|138=>100|143=>101|195=>115|197=>116|218=>117|219=>118|260=>140|217=>141|225=>142|224=>143|267=>144|266=>164|314=>165|n=>n,fun|9=>9|3=>3|31=>50|4=>4|0=>0|105=>192|21=>21|5=>5|46=>117|119=>233|139=>236|138=>235|146=>237|51=>54|n=>n,fun|1=>0|3=>1|4=>2|n=>n⟩
theorem Z08:Go.Proofs.Lays.n221 Tryz.prog Wh:= {
 mixed:=by kernel_rfl
 f138:=Tryz.func100.trans (congrArg some (by kernel_rfl))
 f143:=Tryz.func101.trans (congrArg some (by kernel_rfl))
 f195:=Tryz.func115.trans (congrArg some (by kernel_rfl))
 f197:=Tryz.func116.trans (congrArg some (by kernel_rfl))
 f217:=Tryz.func141.trans (congrArg some (by kernel_rfl))
 f218:=Tryz.func117.trans (congrArg some (by kernel_rfl))
 f219:=Tryz.func118.trans (congrArg some (by kernel_rfl))
 f221:=Tryz.func80.trans (congrArg some (by kernel_rfl))
 f224:=Tryz.func143.trans (congrArg some (by kernel_rfl))
 f225:=Tryz.func142.trans (congrArg some (by kernel_rfl))
 f260:=Tryz.func140.trans (congrArg some (by kernel_rfl))
 f266:=Tryz.func164.trans (congrArg some (by kernel_rfl))
 f267:=Tryz.func144.trans (congrArg some (by kernel_rfl))
 f268:=Tryz.func99.trans (congrArg some (by kernel_rfl))
 f314:=Tryz.func165.trans (congrArg some (by kernel_rfl))
 t0:=Tryz.underlying0
 a0:=Tryz.isAgg0
 z0:=Tryz.sizeOf0
 v0:=Tryz.zeroValue0
 t3:=Tryz.underlying3
 a3:=Tryz.isAgg3
 z3:=Tryz.sizeOf3
 v3:=Tryz.zeroValue3
 t4:=Tryz.underlying4
 a4:=Tryz.isAgg4
 z4:=Tryz.sizeOf4
 v4:=Tryz.zeroValue4
 t5:=Tryz.underlying5
 a5:=Tryz.isAgg5
 z5:=Tryz.sizeOf5
 v5:=Tryz.zeroValue5
 t9:=Tryz.underlying9
 a9:=Tryz.isAgg9
 z9:=Tryz.sizeOf9
 v9:=Tryz.zeroValue9
 t21:=Tryz.underlying21
 a21:=Tryz.isAgg21
 z21:=Tryz.sizeOf21
 v21:=Tryz.zeroValue21
 t31:=Tryz.underlying50
 a31:=Tryz.isAgg50
 z31:=Tryz.sizeOf50
 v31:=Tryz.zeroValue50
 t46:=Tryz.underlying117
 a46:=Tryz.isAgg117
 z46:=Tryz.sizeOf117
 v46:=Tryz.zeroValue117
 t51:=Tryz.underlying54
 a51:=Tryz.isAgg54
 z51:=Tryz.sizeOf54
 v51:=Tryz.zeroValue54
 t105:=Tryz.underlying192
 a105:=Tryz.isAgg192
 z105:=Tryz.sizeOf192
 v105:=Tryz.zeroValue192
 t119:=Tryz.underlying233
 a119:=Tryz.isAgg233
 z119:=Tryz.sizeOf233
 t138:=Tryz.underlying235
 a138:=Tryz.isAgg235
 z138:=Tryz.sizeOf235
 v138:=Tryz.zeroValue235
 t139:=Tryz.underlying236
 a139:=Tryz.isAgg236
 z139:=Tryz.sizeOf236
 v139:=Tryz.zeroValue236
 t146:=Tryz.underlying237
 a146:=Tryz.isAgg237
 z146:=Tryz.sizeOf237
 v146:=Tryz.zeroValue237
 g1:=by kernel_rfl
 g3:=by kernel_rfl
 g4:=by kernel_rfl}
def Z7n (ps:List (List UInt8)):List Value:=ps.map fun p=>.string (B p)
theorem Zdg:(Tryz.prog.info? 9).map (fun i=>(i.zero,i.size,i.bytes))=some (some (.string ByteArray.empty),1,16):=by kernel_rfl
theorem Yg (s:ByteArray)(w:World)(hs:s.size<4294967281):
 Calls Tryz.prog 80 #[.string s,.string ⟨#[47]⟩,.int .i64 0,.int .i64 (-1)] w fun e w'=>
  e=.returned (.slice (some ⟨w.heap.size,0,none⟩) (spl s.data.toList).length (spl s.data.toList).length)/\w'=w.alloc (.cells (Z7n (spl s.data.toList)).toArray 9):=by
 have hsz:(⟨#[47]⟩:ByteArray).size=1:=rfl;have hle:=Lib.countB_le ⟨#[47]⟩ (by rw[hsz];decide) s.size s (Nat.le_refl _);have hlen:=Lib.splitB_all ⟨#[47]⟩ (by rw[hsz];decide) 0 _ s rfl
 have hI:∀(x:ByteArray) (c:Array Value),x.size<=s.size->Calls Tryz.prog (Wh.f 143) #[.string x,.string ⟨#[47]⟩] (w.alloc (.cells c (Wh.t 9))) fun e w'=>e=.returned (.int .i64 (Lib.indexB x ⟨#[47]⟩))/\w'=w.alloc (.cells c (Wh.t 9)):=by
  intro x c _;refine(Any.strings_Index_one {Z08 with} x 47 _).mono ?_;rintro e w' ⟨rfl,rfl⟩;refine⟨?_,rfl⟩;show _=Ending.returned (Value.int .i64 (Lib.index x.data.toList [47]))
  rw[Lib.index_one]
 have hC:Calls Tryz.prog (Wh.f 138) #[.string s,.string ⟨#[47]⟩] w fun e w'=>e=.returned (.int .i64 (Lib.countB s ⟨#[47]⟩))/\w'=w:=by
  refine(Any.strings_Count_one {Z08 with} s 47 w).mono ?_;rintro e w' ⟨rfl,rfl⟩;refine⟨?_,rfl⟩;show _=Ending.returned (Value.int .i64 ((Lib.count s.data.toList [47]:Nat):Int))
  rw[Lib.count_one];rfl
 have c:=Any.strings_genSplit_core Z08 Zdg s ⟨#[47]⟩ 0 (-1) (Lib.countB s ⟨#[47]⟩+1) w hs (by rw[hsz];decide) (Nat.zero_le _) hI hC (by decide) (by decide) (by rw[if_pos (by decide)];omega);rw[Nat.add_sub_cancel]at c;have e2:Lib.cellsOf (Lib.splitB ⟨#[47]⟩ 0 (Lib.countB s ⟨#[47]⟩) s) (Lib.countB s ⟨#[47]⟩+1)=((Lib.splitB ⟨#[47]⟩ 0 (Lib.countB s ⟨#[47]⟩) s).map Value.string).toArray:=by rw[<-hlen];exact Lib.cellsOf_full _
 rw[e2,Z4k,Z5x]at c;refine c.mono ?_;rintro e w' ⟨rfl,rfl⟩;refine⟨by simp, ?_⟩;simp only[Z7n,List.map_map];rfl
theorem Z7t (s:ByteArray)(w:World)(hs:s.size<4294967281):
 Calls Tryz.prog 68 #[.string s,.string ⟨#[47]⟩] w fun e w'=>
  e=.returned (.slice (some ⟨w.heap.size,0,none⟩) (spl s.data.toList).length (spl s.data.toList).length)/\w'=w.alloc (.cells (Z7n (spl s.data.toList)).toArray 9):=by
 have c:=Yg s w hs;go_enter Tryz.func68,Tryz.ntmps68
 go_wp2_with (go_at_call 80;refine c.mono ?_;rintro e w' ⟨rfl,hw⟩;rw[hw])
 go_ret;exact⟨rfl,rfl⟩
def SRow (w:World)(b:Nat)(v:Value)(ps:List (List UInt8)):Prop:=w.ownsRow b 9 1 v ps.length (Z7n ps)
theorem Te (ps:List (List UInt8)):(Z7n ps).length=ps.length:=by simp[Z7n]
theorem SRow.nil (w:World)(b:Nat):SRow w b (.slice none 0 0) []:=World.ownsRow_nil _ _ _ _
theorem SRow.new (w:World)(ps:List (List UInt8))(h:ps.length<=maxLen):SRow (w.alloc (.cells (Z7n ps).toArray 9)) w.heap.size (.slice (some ⟨w.heap.size,0,none⟩) ps.length ps.length) ps:=
 ⟨by rw[Te];omega,.inr ⟨w.heap.size,ps.length,(Z7n ps).toArray,rfl,Nat.le_refl _,heap_alloc_new w _,Nat.le_refl _,h,by simp[Te],by simp[<-Te]⟩⟩
theorem SRow.below {w w':World}{b:Nat}{v:Value}{ps:List (List UInt8)}(h:SRow w b v ps)(hg:Below w.heap.size w w'):SRow w' b v ps:=Xb h hg
theorem Za4 {s:List UInt8}(h:40<s.length):Md s=2:=by unfold Md;rw[if_pos h]
theorem Zdx {s:List UInt8}(h:s.length<=40){p:List UInt8}(hp:p∈spl s)(hb:okP p=false):Md s=1:=by
 unfold Md;rw[if_neg (by omega),if_neg];intro hall;have:=List.all_eq_true.1 hall p hp
 rw[hb]at this;exact absurd this (by simp)
theorem Zcc {s:List UInt8}(h:s.length<=40):(spl s).length<=41:=by
 have:=List.count_le_length (a:=(47:UInt8)) (l:=s)
 rw[Z7u];omega
def Zia (s:List UInt8):List (List UInt8):=if Md s=0 then spl s else []
theorem Zg0 {s:List UInt8}(h:Md s=0):Zia s=spl s:=by unfold Zia;rw[if_pos h]
theorem Z2i {s:List UInt8}(h:Md s≠0):Zia s= []:=by unfold Zia;rw[if_neg h]
theorem Zl (w:World)(o:Obj):Below w.heap.size w (w.alloc o):=(Below.refl _ _).alloc (Nat.le_refl _) o
theorem Z8c (s:List UInt8)(w:World)(hs:s.length<=maxLen):
 Calls Tryz.prog 56 #[.string (B s)] w fun e w'=>∃v,e=.returned (.tuple #[v,.int .i64 (Md s:Nat)])/\SRow w' w.heap.size v (Zia s)/\Below w.heap.size w w'/\(Md s≠0->v=.slice none 0 0):=by
 have hsz:=St s;unfold maxLen at hs
 by_cases h40:40<s.length
 . have HE:=Ab (Za4 h40);have h40':40<(B s).size:=by rw[hsz];omega
   have hms:(B s).size<=9223372036854775807:=by rw[hsz];omega
   clear hsz h40 hs;generalize B s=t at*;go_enter Tryz.func56,Tryz.ntmps56
   go_wp2;go_ret2;rw[Z2i (by rw[Aa HE];decide),Aa HE];exact⟨_,rfl,SRow.nil _ _,Below.refl _ _,fun _=>rfl⟩
 . have hsp:=Z7t (B s) w (by rw[hsz];omega);rw[Zf0]at hsp;have h40':(B s).size<=40:=by rw[hsz];omega
   have h41:=Zcc (s:=s) (by omega);have HR:=Ab (SRow.new w (spl s) (by unfold maxLen;omega));have HE:=Ab (fun p hp hb=>Zdx (s:=s) (p:=p) (by omega) hp hb);have HO:=Ab (Zh3 (l:=s) (by omega));have hmem:∀p∈spl s,p.length<=s.length:=Zi6 s;obtain⟨L,hL⟩:∃L,(spl s).length=L:=⟨_,rfl⟩
   rw[hL]at hsp HR h41;have HL:=Ab hL
   have HC:Hid (∀j (hj:j<(spl s).length) (W:World),Below (w.heap.size+1) (w.alloc (.cells (Z7n (spl s)).toArray 9)) W->W.cell? ⟨w.heap.size,j,none⟩=some (.string (B ((spl s)[j]'hj)))):=by
    intro j hj W hW;rw[hW.cell (p:=⟨w.heap.size,j,none⟩) (Nat.lt_succ_self _),World.cell?_alloc_at _ _ _ _ rfl];simp[Z7n,hj]
   have hs40:s.length<=40:=by omega
   clear hL hsz h40 hs;generalize B s=t at*;go_enter Tryz.func56,Tryz.ntmps56
   go_wp2_with (go_at_call 68;refine hsp.mono ?_;rintro e w' ⟨rfl,hw⟩;rw[hw])
   clear hsp;go_loopw [6,14] (fun _ i wr=>∃k:Nat,k<=L/\i=.int .i64 k/\Hid (∀j (hj:j<(spl s).length),j<k->okP ((spl s)[j]'hj)=true)/\Hid (Below (w.heap.size+1) (w.alloc (.cells (Z7n (spl s)).toArray 9)) wr)) (fun _ i _=>L-(intOf i).toNat)
   case atStart=>exact⟨0,Nat.zero_le _,rfl,fun j _ hj=>absurd hj (by omega),Below.refl _ _⟩
   case round=>
    obtain⟨k,hk,rfl,HN,HB⟩:=hrel
    by_cases hlt:k<L
    . have hlt':k<(spl s).length:=by rw[Aa HL];exact hlt
      have hcell:=(Aa HC) k hlt' wr (Aa HB);have hz:=(Aa HB).size;have hlen:=hmem _ (List.getElem_mem hlt');have HM:=Ab (List.getElem_mem hlt');have HQ:=Ab (fun h=>(Aa HE) _ (Aa HM) h)
      have HN2:Hid (okP ((spl s)[k]'hlt')=true->∀j (hj:j<(spl s).length),j<k+1->okP ((spl s)[j]'hj)=true):=by
       intro h j hj hjk
       by_cases e:j=k
       . subst e;exact h
       . exact(Aa HN) j hj (by omega)
      generalize (spl s)[k]'hlt'=q at*;have hI:=Z55 (B q) (by rw[St];unfold maxLen;omega) wr;rw[Zf0]at hI;clear HM;generalize B q=qb at*;have hz2:w.heap.size+1<=wr.heap.size:=by simp at hz;omega
      cases ho:okP q with
      |true=>
       rw[ho]at hI;have HO2:=Ab ho;clear ho;go_wp2_with (go_at_call 69;refine hI.mono ?_;rintro e w1 ⟨rfl,hb1⟩;have HB1:=Ab ((Aa HB).trans (hb1.mono hz2));clear hb1)
       go_roundw
       case rel=>exact⟨k+1,by omega,by go_num,(Aa HN2) (Aa HO2),Aa HB1⟩
       case measure=>simp[intOf];omega
      |false=>
       rw[ho]at hI;have HO2:=Ab ho;clear ho;go_wp2_with (go_at_call 69;refine hI.mono ?_;rintro e w1 ⟨rfl,hb1⟩;have HB1:=Ab ((Aa HB).trans (hb1.mono hz2));clear hb1)
       go_ret2;have he:=(Aa HQ) (Aa HO2)
       rw[Z2i (by rw[he];decide),he];exact⟨_,rfl,SRow.nil _ _,(Zl w _).trans ((Aa HB1).mono (Nat.le_succ _)),fun _=>rfl⟩
    . obtain rfl:k=L:=by omega
      have HZ:Hid (Md s=0):=(Aa HO) (by
       rw[List.all_eq_true];intro p hp;obtain⟨j,hj,rfl⟩:=List.mem_iff_getElem.1 hp;exact(Aa HN) j hj (by rw[Aa HL]at hj;exact hj))
      go_wp2;go_ret2;rw[Zg0 (Aa HZ),Aa HZ];refine⟨_,rfl, ?_,(Zl w _).trans ((Aa HB).mono (Nat.le_succ _)),fun h=>absurd rfl h⟩;exact(Aa HR).below (by simpa using Aa HB)
theorem Zau (s:List UInt8)(w:World)(hs:s.length<=maxLen):
 Calls Tryz.prog 41 #[.string (B s)] w fun e w'=>e=.returned (.int .i64 (Md s:Nat))/\Below w.heap.size w w':=by
 have c:=Z8c s w hs;generalize B s=t at*;go_enter Tryz.func41,Tryz.ntmps41
 go_wp2_with (go_at_call 56;refine c.mono ?_;rintro e w' ⟨v,rfl,_,hb,_⟩;have HB:=Ab hb;clear hb)
 go_ret;exact⟨rfl,Aa HB⟩
end Go.Proofs.YtcjbgpacnkilnaiGreatDoor
