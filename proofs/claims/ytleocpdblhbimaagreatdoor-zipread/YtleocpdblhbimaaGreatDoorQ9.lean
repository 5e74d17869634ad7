import Derived.Test.YtleocpdblhbimaaGreatDoorQ8
import Derived.Laws.BytesArg
import Derived.Lib.Strings
set_option linter.unusedSimpArgs false
set_option linter.unusedVariables false
set_option maxRecDepth 100000
namespace Go.Proofs.YtleocpdblhbimaaGreatDoor
theorem Jr (row:List Bool):∀(ks:List Nat) (s:List Int) (u:US),u.e≠0->(usmall row ks s u).2=u
 | [],s,u,h=>rfl
 |k::r,s,u,h=>by rw[usmall,Fj row 3 u h];exact Jr row r _ u h
theorem Ua (x:Int)(u:US)(E:u.e≠0):Am x u=u:=by unfold Am;rw[if_neg E]
theorem KI (row:List Bool)(l:List Int)(k:Nat)(u:US)(E:u.e≠0):(ukind row l k u).2.2=u:=by unfold ukind;split;(. split;exact Ua 8 u E;exact Fj row 2 u E);. split;exact Fj row 3 u E;. split;exact Fj row 7 u E;rfl
theorem Zl (tot:Nat)(l:List Int)(r:Int×Nat×US)(E:r.2.2.e≠0):(Td tot l r).2=r.2.2:=by unfold Td;simp only;rw[if_neg (fun c=>E c.1)]
theorem SQ (row:List Bool)(u u1 u2 u3 F:US)(E G H:Nat)(S:List Int)(g1:uget row 5 u=(E,u1))(g2:uget row 5 u1=(G,u2))(O:uget row 4 u2=(H,u3))(aa:E+257<=286)(Z:G+1<=30)(M:usmall row (ord19.take (H+4)) (List.replicate 19 0) u3=(S,F))(I:F.e=0)(T:errL S=0):Db row u=Gl (E+257) (ulens row S (E+257+(G+1)) (E+257+(G+1)) [] F):=by(have U:Gk row (E+257) (G+1) (H+4) u3=(S,F):=by unfold Gk;rw[if_neg om];exact M);(have Y:Qa (S,F)=F:=by unfold Qa;rw[if_neg (fun c=>c.2 T)]);unfold Db;simp only[g1,g2,O];rw[U];unfold Ke;rw[Y,if_neg (fun c=>c I)]
theorem My (row:List Bool)(u u1 u2 u3:US)(E G F:Nat)(g1:uget row 5 u=(E,u1))(g2:uget row 5 u1=(G,u2))(T:uget row 4 u2=(F,u3))(x:US)(M:x.e≠0)(O:(usmall row (ord19.take (F+4)) (List.replicate 19 0) (if 286<E+257\/30<G+1 then Am 8 u3 else u3)).2=x):(Db row u).2=x:=by obtain⟨s,I⟩:=exq (Gk row (E+257) (G+1) (F+4) u3);(have H:s.2=x:=by rw[<-I];exact O);(have U:Qa s=x:=by unfold Qa;rw[if_neg (fun c=>M (by rw[<-H];exact c.1))];exact H);unfold Db;simp only[g1,g2,T];rw[I];unfold Ke;rw[U,if_pos M]
theorem Rt (row:List Bool)(N:Nat)(G:row.length=8*N):∀(F:Nat) (u:US),u.e=0->u.p<=row.length->u.out.length<=3000->row.length+1<=u.p+F->(Bw row F u).e=0->u.p+3<=(Bw row F u).p/\(Bw row F u).p<=row.length/\(Bw row F u).out.length<=3000/\u.ks.length+1<=(Bw row F u).ks.length/\(Bw row F u).ks.length+u.p<=u.ks.length+(Bw row F u).p
 |0,u,he,hp,ho,hF,h=>om
 |F+1,u,he,hp,ho,hF,h=>by rw[Bw]at h ⊢;by_cases c:(Bj row u).1=0/\(Bj row u).2.e=0;rw[if_pos c]at h ⊢;obtain⟨I,O,H,E⟩:=Hl row N G u he hp ho c.2;obtain⟨U,M,T,Y,Z⟩:=Rt row N G F _ c.2 H E om h;exact⟨om,M,T,om,om⟩;rw[if_neg c]at h ⊢;obtain⟨I,O,H,E⟩:=Hl row N G u he hp ho h;exact⟨om,H,E,om,om⟩
theorem Rn (row:List Bool)(N:Nat)(G:row.length=8*N)(H:(Dk row).e=0):3<=(Dk row).p/\(Dk row).p<=row.length/\(Dk row).out.length<=3000/\1<=(Dk row).ks.length/\(Dk row).ks.length<=row.length:=by have:=Rt row N G (row.length+1) US0 rfl (VH _) (VH _) (by show _<=0+_;omega) H;obtain⟨I,E,F,O,U⟩:=this;have T:US0.p=0:=rfl;have M:US0.ks.length=0:=rfl;unfold Dk;exact⟨om,E,F,om,om⟩
open Go.RowKit
theorem AH (F E:Value)(G H:ByteArray)(w:World)(M:(convert 23 9 F).run Tryz.prog w=.ok (.string G) w)(I:(convert 23 9 E).run Tryz.prog w=.ok (.string H) w):Calls Tryz.prog 13 #[F,E] w fun e w'=>e=.returned (.bool (G.toList==H.toList))/\w'=w:=by go_enter Tryz.func13,Tryz.ntmps13;go_wp2;go_ret;exact⟨rfl,rfl⟩
def Z5v (xs:List Nat):ByteArray:=⟨(xs.map UInt8.ofNat).toArray⟩
theorem Qk (xs:List Nat):(Z5v xs).toList=xs.map UInt8.ofNat:=by rw[Lib.toList_data];rfl
theorem Z7 (a:Option Addr)(E G:Nat)(xs:List Nat)(w:World)(H:xs.length=E)(F:BytesIn w a xs):(convert 23 9 (.slice a E G)).run Tryz.prog w=.ok (.string (Z5v xs)) w:=by rcases F with rfl|⟨b,o,rfl,_,F⟩;(. (obtain rfl:E=0:=by simp at H;omega);rw[run_convert_bytes_string w 23 9 5 _ 0 G Tryz.underlying23 Tryz.underlying5 Tryz.underlying9];cases a<;>simp[Conv.bytesToString,loadCells,Z5v];all_goals rfl);have h:=run_convert_bytes_arg (P:=Tryz.prog) w 23 5 Tryz.underlying23 Tryz.underlying5 b o E G (xs.map fun x:Nat=>(x:Int)) (by simpa using H) (by intro i hi;rw[F i om];have:i<xs.length:=om;simp[List.getD,this]) 9 Tryz.underlying9;rw[h];simp[strOfNums,Z5v,ZA]
theorem NC {xs ys:List Nat}(O:∀j,xs.getD j 0<256)(I:∀j,ys.getD j 0<256)(G:xs.map UInt8.ofNat=ys.map UInt8.ofNat):xs=ys:=by(have hl:xs.length=ys.length:=by have:=congrArg List.length G;simpa using this);apply XK hl;intro j F E;have e:=congrArg (fun l:List UInt8=>l[j]?) G;simp[F,E]at e;have H:=O j;have M:=I j;simp[List.getD,F]at H;simp[List.getD,E]at M;have e2:=congrArg UInt8.toNat e;simp only[UInt8.toNat_ofNat']at e2;omega
theorem P4 (E F:Option Addr)(G M H I:Nat)(xs ys:List Nat)(w:World)(T:xs.length=G)(O:ys.length=H)(aa:∀j,xs.getD j 0<256)(U:∀j,ys.getD j 0<256)(Y:BytesIn w E xs)(Z:BytesIn w F ys):Calls Tryz.prog 13 #[.slice E G M,.slice F H I] w fun e w'=>e=.returned (.bool (xs==ys))/\w'=w:=by refine(AH _ _ (Z5v xs) (Z5v ys) w (Z7 E G M xs w T Y) (Z7 F H I ys w O Z)).mono ?_;rintro e w' ⟨rfl,rfl⟩;refine⟨Dq ?_,rfl⟩;rw[Qk,Qk,XZ,beq_iff_eq,beq_iff_eq];exact⟨NC aa U,fun h=>by rw[h]⟩
end Go.Proofs.YtleocpdblhbimaaGreatDoor
