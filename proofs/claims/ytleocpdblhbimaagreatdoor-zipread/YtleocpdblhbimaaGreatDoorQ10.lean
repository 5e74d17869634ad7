import Derived.Test.YtleocpdblhbimaaGreatDoorQ9
import Derived.Laws.BytesArg
import Derived.Lib.Strings
set_option linter.unusedSimpArgs false
namespace Go.Proofs.YtleocpdblhbimaaGreatDoor
set_option linter.unusedVariables false
set_option maxRecDepth 100000
theorem Jr (row:List Bool):∀(ks:List Nat) (s:List Int) (u:US),u.e≠0->(usmall row ks s u).2=u
 | [],s,u,h=>rfl
 |k::r,s,u,h=>by
  rw[usmall,Fj row 3 u h];exact Jr row r _ u h
theorem Ua (x:Int)(u:US)(h:u.e≠0):Am x u=u:=by unfold Am;rw[if_neg h]
theorem KI (row:List Bool)(l:List Int)(k:Nat)(u:US)(h:u.e≠0):(ukind row l k u).2.2=u:=by
 unfold ukind
 split
 . split
   . exact Ua 8 u h
   . exact Fj row 2 u h
 . split
   . exact Fj row 3 u h
   . split
     . exact Fj row 7 u h
     . rfl
theorem Zl (tot:Nat)(l:List Int)(r:Int×Nat×US)(h:r.2.2.e≠0):(Td tot l r).2=r.2.2:=by
 unfold Td;simp only
 rw[if_neg (fun c=>h c.1)]
theorem SQ (row:List Bool)(u u1 u2 u3 us:US)(m0 n0 c0:Nat)(S:List Int)(g1:uget row 5 u=(m0,u1))(g2:uget row 5 u1=(n0,u2))(g3:uget row 4 u2=(c0,u3))(hm:m0+257<=286)(hn:n0+1<=30)(sm:usmall row (ord19.take (c0+4)) (List.replicate 19 0) u3=(S,us))(es:us.e=0)(cs:errL S=0):Db row u=Gl (m0+257) (ulens row S (m0+257+(n0+1)) (m0+257+(n0+1)) [] us):=by
 have hs:Gk row (m0+257) (n0+1) (c0+4) u3=(S,us):=by
  unfold Gk;rw[if_neg (by omega)];exact sm
 have hu:Qa (S,us)=us:=by
  unfold Qa;rw[if_neg (fun c=>c.2 cs)]
 unfold Db;simp only[g1,g2,g3];rw[hs];unfold Ke;rw[hu,if_neg (fun c=>c es)]
theorem My (row:List Bool)(u u1 u2 u3:US)(m0 n0 c0:Nat)(g1:uget row 5 u=(m0,u1))(g2:uget row 5 u1=(n0,u2))(g3:uget row 4 u2=(c0,u3))(x:US)(hx:x.e≠0)(sm:(usmall row (ord19.take (c0+4)) (List.replicate 19 0) (if 286<m0+257\/30<n0+1 then Am 8 u3 else u3)).2=x):(Db row u).2=x:=by
 obtain⟨s,hs⟩:∃s,Gk row (m0+257) (n0+1) (c0+4) u3=s:=⟨_,rfl⟩
 have h2:s.2=x:=by rw[<-hs];exact sm
 have hu:Qa s=x:=by
  unfold Qa;rw[if_neg (fun c=>hx (by rw[<-h2];exact c.1))];exact h2
 unfold Db;simp only[g1,g2,g3];rw[hs];unfold Ke;rw[hu,if_pos hx]
theorem Rt (row:List Bool)(N:Nat)(hN:row.length=8*N):∀(F:Nat) (u:US),u.e=0->u.p<=row.length->u.out.length<=3000->row.length+1<=u.p+F->(Bw row F u).e=0->u.p+3<=(Bw row F u).p/\(Bw row F u).p<=row.length/\(Bw row F u).out.length<=3000/\u.ks.length+1<=(Bw row F u).ks.length/\(Bw row F u).ks.length+u.p<=u.ks.length+(Bw row F u).p
 |0,u,he,hp,ho,hF,h=>by omega
 |F+1,u,he,hp,ho,hF,h=>by
  rw[Bw]at h ⊢
  by_cases c:(Bj row u).1=0/\(Bj row u).2.e=0
  . rw[if_pos c]at h ⊢;obtain⟨a1,a2,a3,a4⟩:=Hl row N hN u he hp ho c.2;obtain⟨i1,i2,i3,i4,i5⟩:=Rt row N hN F _ c.2 a3 a4 (by omega) h;exact⟨by omega,i2,i3,by omega,by omega⟩
  . rw[if_neg c]at h ⊢;obtain⟨a1,a2,a3,a4⟩:=Hl row N hN u he hp ho h;exact⟨by omega,a3,a4,by omega,by omega⟩
theorem Rn (row:List Bool)(N:Nat)(hN:row.length=8*N)(h:(Dk row).e=0):3<=(Dk row).p/\(Dk row).p<=row.length/\(Dk row).out.length<=3000/\1<=(Dk row).ks.length/\(Dk row).ks.length<=row.length:=by
 have:=Rt row N hN (row.length+1) US0 rfl (VH _) (VH _) (by show _<=0+_;omega) h
 obtain⟨i1,i2,i3,i4,i5⟩:=this;have z1:US0.p=0:=rfl;have z2:US0.ks.length=0:=rfl;unfold Dk;exact⟨by omega,i2,i3,by omega,by omega⟩
end Go.Proofs.YtleocpdblhbimaaGreatDoor
namespace Go.Proofs.YtleocpdblhbimaaGreatDoor
open Go.RowKit
set_option linter.unusedVariables false
set_option maxRecDepth 100000
theorem AH (v1 v2:Value)(s1 s2:ByteArray)(w:World)(h1:(convert 23 9 v1).run Tryz.prog w=.ok (.string s1) w)(h2:(convert 23 9 v2).run Tryz.prog w=.ok (.string s2) w):
 Calls Tryz.prog 13 #[v1,v2] w fun e w'=>e=.returned (.bool (s1.toList==s2.toList))/\w'=w:=by
 go_enter Tryz.func13,Tryz.ntmps13
 go_wp2;go_ret;exact⟨rfl,rfl⟩
def Z5v (xs:List Nat):ByteArray:=⟨(xs.map UInt8.ofNat).toArray⟩
theorem Qk (xs:List Nat):(Z5v xs).toList=xs.map UInt8.ofNat:=by
 rw[Lib.toList_data];rfl
theorem Z7 (a:Option Addr)(len cap:Nat)(xs:List Nat)(w:World)(hl:xs.length=len)(hB:BytesIn w a xs):
 (convert 23 9 (.slice a len cap)).run Tryz.prog w=.ok (.string (Z5v xs)) w:=by
 rcases hB with rfl|⟨b,o,rfl,_,hB⟩
 . obtain rfl:len=0:=by simp at hl;omega
   rw[run_convert_bytes_string w 23 9 5 _ 0 cap Tryz.underlying23 Tryz.underlying5 Tryz.underlying9]
   cases a<;>simp[Conv.bytesToString,loadCells,Z5v]
   all_goals rfl
 . have h:=run_convert_bytes_arg (P:=Tryz.prog) w 23 5 Tryz.underlying23 Tryz.underlying5 b o len cap (xs.map fun x:Nat=>(x:Int)) (by simpa using hl) (by
    intro i hi;rw[hB i (by omega)];have:i<xs.length:=by omega
    simp[List.getD,this]) 9 Tryz.underlying9
   rw[h];simp[strOfNums,Z5v,ZA]
theorem NC {xs ys:List Nat}(hx:∀j,xs.getD j 0<256)(hy:∀j,ys.getD j 0<256)(h:xs.map UInt8.ofNat=ys.map UInt8.ofNat):xs=ys:=by
 have hl:xs.length=ys.length:=by have:=congrArg List.length h;simpa using this
 apply XK hl
 intro j h1 h2;have e:=congrArg (fun l:List UInt8=>l[j]?) h;simp[h1,h2]at e
 have a1:=hx j;have a2:=hy j;simp[List.getD,h1]at a1
 simp[List.getD,h2]at a2
 have e2:=congrArg UInt8.toNat e;simp only[UInt8.toNat_ofNat']at e2;omega
theorem P4 (a1 a2:Option Addr)(l1 c1 l2 c2:Nat)(xs ys:List Nat)(w:World)(h1:xs.length=l1)(h2:ys.length=l2)(hx:∀j,xs.getD j 0<256)(hy:∀j,ys.getD j 0<256)(hB1:BytesIn w a1 xs)(hB2:BytesIn w a2 ys):
 Calls Tryz.prog 13 #[.slice a1 l1 c1,.slice a2 l2 c2] w fun e w'=>e=.returned (.bool (xs==ys))/\w'=w:=by
 refine(AH _ _ (Z5v xs) (Z5v ys) w (Z7 a1 l1 c1 xs w h1 hB1) (Z7 a2 l2 c2 ys w h2 hB2)).mono ?_;rintro e w' ⟨rfl,rfl⟩;refine⟨Dq ?_,rfl⟩;rw[Qk,Qk,XZ,beq_iff_eq,beq_iff_eq];exact⟨NC hx hy,fun h=>by rw[h]⟩
end Go.Proofs.YtleocpdblhbimaaGreatDoor
