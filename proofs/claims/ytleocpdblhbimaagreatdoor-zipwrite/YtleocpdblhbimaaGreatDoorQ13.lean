import Derived.Test.YtleocpdblhbimaaGreatDoorQ12
set_option linter.unusedSimpArgs false
namespace Go.Proofs.YtleocpdblhbimaaGreatDoor
set_option linter.unusedVariables false
set_option maxRecDepth 100000
theorem Rg (row:List Bool)(N:Nat)(hN:row.length=8*N):∀(F:Nat) (u:US),u.e=0->u.p<=row.length->u.out.length<=3000->row.length+1<=u.p+F->(Cr row F u).e=0->u.p+3<=(Cr row F u).p/\(Cr row F u).p<=row.length/\(Cr row F u).out.length<=3000/\u.ks.length+1<=(Cr row F u).ks.length/\(Cr row F u).ks.length+u.p<=u.ks.length+(Cr row F u).p
 |0,u,he,hp,ho,hF,h=>by omega
 |F+1,u,he,hp,ho,hF,h=>by
  rw[Cr]at h ⊢
  by_cases c:(Bv row u).1=0/\(Bv row u).2.e=0
  . rw[if_pos c]at h ⊢;obtain⟨a1,a2,a3,a4⟩:=Jt row N hN u he hp ho c.2;obtain⟨i1,i2,i3,i4,i5⟩:=Rg row N hN F _ c.2 a3 a4 (by omega) h;exact⟨by omega,i2,i3,by omega,by omega⟩
  . rw[if_neg c]at h ⊢;obtain⟨a1,a2,a3,a4⟩:=Jt row N hN u he hp ho h;exact⟨by omega,a3,a4,by omega,by omega⟩
theorem Rc (row:List Bool)(N:Nat)(hN:row.length=8*N)(h:(Db row).e=0):3<=(Db row).p/\(Db row).p<=row.length/\(Db row).out.length<=3000/\1<=(Db row).ks.length/\(Db row).ks.length<=row.length:=by
 have:=Rg row N hN (row.length+1) US0 rfl (VK _) (VK _) (by show _<=0+_;omega) h
 obtain⟨i1,i2,i3,i4,i5⟩:=this;have z1:US0.p=0:=rfl;have z2:US0.ks.length=0:=rfl;unfold Db;exact⟨by omega,i2,i3,by omega,by omega⟩
end Go.Proofs.YtleocpdblhbimaaGreatDoor
