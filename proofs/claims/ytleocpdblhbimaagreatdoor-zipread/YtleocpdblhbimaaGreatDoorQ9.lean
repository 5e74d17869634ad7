import Derived.Test.YtleocpdblhbimaaGreatDoorQ8
import Derived.Laws.BytesArg
import Derived.Lib.Strings
set_option linter.unusedSimpArgs false
namespace Go.Proofs.YtleocpdblhbimaaGreatDoor
set_option linter.unusedVariables false
set_option maxRecDepth 100000
theorem Jr (row:List Bool):∀(ks:List Nat) (s:List Int) (u:US),u.e≠0->(usmall row ks s u).2=u
 | [],s,u,h=>rfl
 |k::r,s,u,h=>by
  rw[usmall,Fj row 3 u h];exact Jr row r _ u h
theorem Ua (x:Int)(u:US)(E:u.e≠0):Am x u=u:=by unfold Am;rw[if_neg E]
theorem KI (row:List Bool)(l:List Int)(k:Nat)(u:US)(E:u.e≠0):(ukind row l k u).2.2=u:=by
 unfold ukind
 split
 . split
   . exact Ua 8 u E
   . exact Fj row 2 u E
 . split
   . exact Fj row 3 u E
   . split
     . exact Fj row 7 u E
     . rfl
theorem Zl (tot:Nat)(l:List Int)(r:Int×Nat×US)(E:r.2.2.e≠0):(Td tot l r).2=r.2.2:=by
 unfold Td;simp only
 rw[if_neg (fun c=>E c.1)]
theorem SQ (row:List Bool)(u u1 u2 u3 F:US)(E G H:Nat)(S:List Int)(g1:uget row 5 u=(E,u1))(g2:uget row 5 u1=(G,u2))(Y:uget row 4 u2=(H,u3))(aa:E+257<=286)(Z:G+1<=30)(O:usmall row (ord19.take (H+4)) (List.replicate 19 0) u3=(S,F))(U:F.e=0)(I:errL S=0):Db row u=Gl (E+257) (ulens row S (E+257+(G+1)) (E+257+(G+1)) [] F):=by
 have M:Gk row (E+257) (G+1) (H+4) u3=(S,F):=by
  unfold Gk;rw[if_neg (by omega)];exact O
 have T:Qa (S,F)=F:=by
  unfold Qa;rw[if_neg (fun c=>c.2 I)]
 unfold Db;simp only[g1,g2,Y];rw[M];unfold Ke;rw[T,if_neg (fun c=>c U)]
theorem My (row:List Bool)(u u1 u2 u3:US)(F G E:Nat)(g1:uget row 5 u=(F,u1))(g2:uget row 5 u1=(G,u2))(U:uget row 4 u2=(E,u3))(x:US)(H:x.e≠0)(T:(usmall row (ord19.take (E+4)) (List.replicate 19 0) (if 286<F+257\/30<G+1 then Am 8 u3 else u3)).2=x):(Db row u).2=x:=by
 obtain⟨s,I⟩:=exq (Gk row (F+257) (G+1) (E+4) u3);have M:s.2=x:=by rw[<-I];exact T
 have O:Qa s=x:=by
  unfold Qa;rw[if_neg (fun c=>H (by rw[<-M];exact c.1))];exact M
 unfold Db;simp only[g1,g2,U];rw[I];unfold Ke;rw[O,if_pos H]
theorem Rt (row:List Bool)(N:Nat)(E:row.length=8*N):∀(F:Nat) (u:US),u.e=0->u.p<=row.length->u.out.length<=3000->row.length+1<=u.p+F->(Bw row F u).e=0->u.p+3<=(Bw row F u).p/\(Bw row F u).p<=row.length/\(Bw row F u).out.length<=3000/\u.ks.length+1<=(Bw row F u).ks.length/\(Bw row F u).ks.length+u.p<=u.ks.length+(Bw row F u).p
 |0,u,he,hp,ho,hF,h=>by omega
 |F+1,u,he,hp,ho,hF,h=>by
  rw[Bw]at h ⊢
  by_cases c:(Bj row u).1=0/\(Bj row u).2.e=0
  . rw[if_pos c]at h ⊢;obtain⟨T,I,G,H⟩:=Hl row N E u he hp ho c.2;obtain⟨Y,M,O,Z,U⟩:=Rt row N E F _ c.2 G H (by omega) h;exact⟨by omega,M,O,by omega,by omega⟩
  . rw[if_neg c]at h ⊢;obtain⟨T,I,G,H⟩:=Hl row N E u he hp ho h;exact⟨by omega,G,H,by omega,by omega⟩
theorem Rn (row:List Bool)(N:Nat)(E:row.length=8*N)(H:(Dk row).e=0):3<=(Dk row).p/\(Dk row).p<=row.length/\(Dk row).out.length<=3000/\1<=(Dk row).ks.length/\(Dk row).ks.length<=row.length:=by
 have:=Rt row N E (row.length+1) US0 rfl (VH _) (VH _) (by show _<=0+_;omega) H
 obtain⟨M,G,F,T,O⟩:=this;have I:US0.p=0:=rfl;have U:US0.ks.length=0:=rfl;unfold Dk;exact⟨by omega,G,F,by omega,by omega⟩
end Go.Proofs.YtleocpdblhbimaaGreatDoor
namespace Go.Proofs.YtleocpdblhbimaaGreatDoor
open Go.RowKit
set_option linter.unusedVariables false
set_option maxRecDepth 100000
theorem AH (G E:Value)(H F:ByteArray)(w:World)(I:(convert 23 9 G).run Tryz.prog w=.ok (.string H) w)(M:(convert 23 9 E).run Tryz.prog w=.ok (.string F) w):
 Calls Tryz.prog 13 #[G,E] w fun e w'=>e=.returned (.bool (H.toList==F.toList))/\w'=w:=by
 go_enter Tryz.func13,Tryz.ntmps13
 go_wp2;go_ret;exact⟨rfl,rfl⟩
def Z5v (xs:List Nat):ByteArray:=⟨(xs.map UInt8.ofNat).toArray⟩
theorem Qk (xs:List Nat):(Z5v xs).toList=xs.map UInt8.ofNat:=by
 rw[Lib.toList_data];rfl
theorem Z7 (a:Option Addr)(E G:Nat)(xs:List Nat)(w:World)(H:xs.length=E)(F:BytesIn w a xs):
 (convert 23 9 (.slice a E G)).run Tryz.prog w=.ok (.string (Z5v xs)) w:=by
 rcases F with rfl|⟨b,o,rfl,_,F⟩
 . obtain rfl:E=0:=by simp at H;omega
   rw[run_convert_bytes_string w 23 9 5 _ 0 G Tryz.underlying23 Tryz.underlying5 Tryz.underlying9]
   cases a<;>simp[Conv.bytesToString,loadCells,Z5v]
   all_goals rfl
 . have h:=run_convert_bytes_arg (P:=Tryz.prog) w 23 5 Tryz.underlying23 Tryz.underlying5 b o E G (xs.map fun x:Nat=>(x:Int)) (by simpa using H) (by
    intro i hi;rw[F i (by omega)];have:i<xs.length:=by omega
    simp[List.getD,this]) 9 Tryz.underlying9
   rw[h];simp[strOfNums,Z5v,ZA]
theorem NC {xs ys:List Nat}(H:∀j,xs.getD j 0<256)(M:∀j,ys.getD j 0<256)(G:xs.map UInt8.ofNat=ys.map UInt8.ofNat):xs=ys:=by
 have hl:xs.length=ys.length:=by have:=congrArg List.length G;simpa using this
 apply XK hl
 intro j E F;have e:=congrArg (fun l:List UInt8=>l[j]?) G;simp[E,F]at e
 have O:=H j;have I:=M j;simp[List.getD,E]at O
 simp[List.getD,F]at I
 have e2:=congrArg UInt8.toNat e;simp only[UInt8.toNat_ofNat']at e2;omega
theorem P4 (H E:Option Addr)(F I G M:Nat)(xs ys:List Nat)(w:World)(T:xs.length=F)(U:ys.length=G)(O:∀j,xs.getD j 0<256)(Z:∀j,ys.getD j 0<256)(Y:BytesIn w H xs)(aa:BytesIn w E ys):
 Calls Tryz.prog 13 #[.slice H F I,.slice E G M] w fun e w'=>e=.returned (.bool (xs==ys))/\w'=w:=by
 refine(AH _ _ (Z5v xs) (Z5v ys) w (Z7 H F I xs w T Y) (Z7 E G M ys w U aa)).mono ?_;rintro e w' ⟨rfl,rfl⟩;refine⟨Dq ?_,rfl⟩;rw[Qk,Qk,XZ,beq_iff_eq,beq_iff_eq];exact⟨NC O Z,fun h=>by rw[h]⟩
end Go.Proofs.YtleocpdblhbimaaGreatDoor
