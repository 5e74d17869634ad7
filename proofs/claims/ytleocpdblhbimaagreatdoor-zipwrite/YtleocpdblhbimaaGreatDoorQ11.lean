import Derived.Test.YtleocpdblhbimaaGreatDoorQ10
import Derived.Laws.BytesArg
import Derived.Lib.Strings
set_option linter.unusedSimpArgs false
namespace Go.Proofs.YtleocpdblhbimaaGreatDoor
set_option linter.unusedVariables false
set_option maxRecDepth 100000
theorem Rg (row:List Bool)(N:Nat)(hN:row.length=8*N):∀(F:Nat) (u:US),u.e=0->u.p<=row.length->u.out.length<=3000->row.length+1<=u.p+F->(Cr row F u).e=0->u.p+3<=(Cr row F u).p/\(Cr row F u).p<=row.length/\(Cr row F u).out.length<=3000/\u.ks.length+1<=(Cr row F u).ks.length/\(Cr row F u).ks.length+u.p<=u.ks.length+(Cr row F u).p
 |0,u,he,hp,ho,hF,h=>by omega
 |F+1,u,he,hp,ho,hF,h=>by
  rw[Cr]at h ⊢
  by_cases c:(Bv row u).1=0/\(Bv row u).2.e=0
  . rw[if_pos c]at h ⊢;obtain⟨a1,a2,a3,a4⟩:=Jt row N hN u he hp ho c.2;obtain⟨i1,i2,i3,i4,i5⟩:=Rg row N hN F _ c.2 a3 a4 (by omega) h;exact⟨by omega,i2,i3,by omega,by omega⟩
  . rw[if_neg c]at h ⊢;obtain⟨a1,a2,a3,a4⟩:=Jt row N hN u he hp ho h;exact⟨by omega,a3,a4,by omega,by omega⟩
theorem Rc (row:List Bool)(N:Nat)(hN:row.length=8*N)(h:(Db row).e=0):3<=(Db row).p/\(Db row).p<=row.length/\(Db row).out.length<=3000/\1<=(Db row).ks.length/\(Db row).ks.length<=row.length:=by
 have:=Rg row N hN (row.length+1) US0 rfl (VK _) (VK _) (by show _<=0+_;omega) h
 obtain⟨i1,i2,i3,i4,i5⟩:=this;have z1:US0.p=0:=rfl;have z2:US0.ks.length=0:=rfl;unfold Db;exact⟨by omega,i2,i3,by omega,by omega⟩
end Go.Proofs.YtleocpdblhbimaaGreatDoor
namespace Go.Proofs.YtleocpdblhbimaaGreatDoor
open Go.RowKit
set_option linter.unusedVariables false
set_option maxRecDepth 100000
theorem R6 (v1 v2:Value)(s1 s2:ByteArray)(w:World)(h1:(convert 23 9 v1).run Tryz.prog w=.ok (.string s1) w)(h2:(convert 23 9 v2).run Tryz.prog w=.ok (.string s2) w):
 Calls Tryz.prog 13 #[v1,v2] w fun e w'=>e=.returned (.bool (s1.toList==s2.toList))/\w'=w:=by
 go_enter Tryz.func13,Tryz.ntmps13
 go_wp2;go_ret;exact⟨rfl,rfl⟩
def Z2w (xs:List Nat):ByteArray:=⟨(xs.map UInt8.ofNat).toArray⟩
theorem Qc (xs:List Nat):(Z2w xs).toList=xs.map UInt8.ofNat:=by
 rw[Lib.toList_data];rfl
theorem Q4 (a:Option Addr)(len cap:Nat)(xs:List Nat)(w:World)(hl:xs.length=len)(hB:BytesIn w a xs):
 (convert 23 9 (.slice a len cap)).run Tryz.prog w=.ok (.string (Z2w xs)) w:=by
 rcases hB with rfl|⟨b,o,rfl,_,hB⟩
 . obtain rfl:len=0:=by simp at hl;omega
   rw[run_convert_bytes_string w 23 9 5 _ 0 cap Tryz.underlying23 Tryz.underlying5 Tryz.underlying9]
   cases a<;>simp[Conv.bytesToString,loadCells,Z2w]
   all_goals rfl
 . have h:=run_convert_bytes_arg (P:=Tryz.prog) w 23 5 Tryz.underlying23 Tryz.underlying5 b o len cap (xs.map fun x:Nat=>(x:Int)) (by simpa using hl) (by
    intro i hi;rw[hB i (by omega)];have:i<xs.length:=by omega
    simp[List.getD,this]) 9 Tryz.underlying9
   rw[h];simp[strOfNums,Z2w,YZ]
theorem JJ {xs ys:List Nat}(hx:∀j,xs.getD j 0<256)(hy:∀j,ys.getD j 0<256)(h:xs.map UInt8.ofNat=ys.map UInt8.ofNat):xs=ys:=by
 have hl:xs.length=ys.length:=by have:=congrArg List.length h;simpa using this
 apply XK hl
 intro j h1 h2;have e:=congrArg (fun l:List UInt8=>l[j]?) h;simp[h1,h2]at e
 have a1:=hx j;have a2:=hy j;simp[List.getD,h1]at a1
 simp[List.getD,h2]at a2
 have e2:=congrArg UInt8.toNat e;simp only[UInt8.toNat_ofNat']at e2;omega
theorem Sj (a1 a2:Option Addr)(l1 c1 l2 c2:Nat)(xs ys:List Nat)(w:World)(h1:xs.length=l1)(h2:ys.length=l2)(hx:∀j,xs.getD j 0<256)(hy:∀j,ys.getD j 0<256)(hB1:BytesIn w a1 xs)(hB2:BytesIn w a2 ys):
 Calls Tryz.prog 13 #[.slice a1 l1 c1,.slice a2 l2 c2] w fun e w'=>e=.returned (.bool (xs==ys))/\w'=w:=by
 refine(R6 _ _ (Z2w xs) (Z2w ys) w (Q4 a1 l1 c1 xs w h1 hB1) (Q4 a2 l2 c2 ys w h2 hB2)).mono ?_;rintro e w' ⟨rfl,rfl⟩;refine⟨De ?_,rfl⟩;rw[Qc,Qc,YR,beq_iff_eq,beq_iff_eq];exact⟨JJ hx hy,fun h=>by rw[h]⟩
end Go.Proofs.YtleocpdblhbimaaGreatDoor
