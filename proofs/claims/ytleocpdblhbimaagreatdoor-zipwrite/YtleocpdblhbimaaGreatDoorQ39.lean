import Derived.Test.YtleocpdblhbimaaGreatDoorQ16
import Derived.Test.YtleocpdblhbimaaGreatDoorQ14
import Derived.Deep.Slices
import Derived.SizedLaws
import Derived.Deep.Strs
set_option linter.unusedSimpArgs false
set_option maxHeartbeats 2000000
namespace Go.Proofs.YtleocpdblhbimaaGreatDoor
open Go.RowKit
set_option linter.unusedVariables false
set_option maxRecDepth 100000
theorem Z56 (a b:Fl):(a=b)↔(a.name=b.name/\a.bytes=b.bytes/\a.stamp=b.stamp/\a.node=b.node/\a.gone=b.gone):=by
 cases a;cases b;simp
theorem PN (x y:Fv)(w:World)(hx:FvIn w x)(hy:FvIn w y):
 Calls Tryz.prog 11 #[x.val,y.val] w fun e w'=>e=.returned (.bool (decide (x.f=y.f)))/\Below w.heap.size w w':=by
 have HE:=Ab (fun W (hW:Below w.heap.size w W)=>RQ (hx.bs.below hW (VC _)) (hy.bs.below hW (VC _)));have hq:=Z56 x.f y.f
 have hn:((B x.f.name).toList==(B y.f.name).toList)=decide (x.f.name=y.f.name):=by
  rw[Fc,Fc,YR,beq_iff_eq,decide_eq_true_iff]
 rw[Tj,Tj];obtain⟨r,hr⟩:∃r,decide (x.f=y.f)=r:=⟨_,rfl⟩
 have hr2:r=decide (x.f.name=y.f.name/\x.f.bytes=y.f.bytes/\x.f.stamp=y.f.stamp/\x.f.node=y.f.node/\x.f.gone=y.f.gone):=by rw[<-hr];exact decide_eq_decide.2 hq
 rw[hr];clear hq hr hx hy;have HR:=Ab hr2;clear hr2
 by_cases h1:x.f.name=y.f.name
 . rw[decide_eq_true h1]at hn
   by_cases h2:x.f.bytes=y.f.bytes
   . by_cases h3:x.f.stamp=y.f.stamp
     . by_cases h4:x.f.node=y.f.node
       . have h5:r=decide (x.f.gone=y.f.gone):=by rw[Aa HR];exact decide_eq_decide.2 ⟨fun k=>k.2.2.2.2,fun k=>⟨h1,h2,h3,h4,k⟩⟩
         rw[h5];rw[decide_eq_true h2]at HE;clear h1 h2 h5 HR;generalize B x.f.name=t at*;generalize B y.f.name=t2 at*;generalize x.f.bytes.length=n at*;generalize y.f.bytes.length=n2 at*;generalize x.f.stamp=s1 at*;generalize y.f.stamp=s2 at*;generalize x.f.node=d1 at*;generalize y.f.node=d2 at*;generalize x.f.gone=g1 at*;generalize y.f.gone=g2 at*;subst h3;subst h4;go_enter Tryz.func11,Tryz.ntmps11
         go_wp2_with (go_at_call 13;refine(Aa HE _ (Ch (Ch (Below.refl _ _) _) _)).mono ?_;rintro e w' ⟨rfl,rfl⟩)
         go_ret;exact⟨De (by cases g1<;>cases g2<;>rfl),Ch (Ch (Below.refl _ _) _) _⟩
       . have h5:r=false:=by rw[Aa HR];exact decide_eq_false (fun k=>h4 k.2.2.2.1)
         have hb:(x.f.node==y.f.node)=false:=by simpa using h4
         rw[h5];rw[decide_eq_true h2]at HE;clear h1 h2 h5 HR h4;generalize B x.f.name=t at*;generalize B y.f.name=t2 at*;generalize x.f.bytes.length=n at*;generalize y.f.bytes.length=n2 at*;generalize x.f.stamp=s1 at*;generalize y.f.stamp=s2 at*;subst h3;go_enter Tryz.func11,Tryz.ntmps11
         go_wp2_with (go_at_call 13;refine(Aa HE _ (Ch (Ch (Below.refl _ _) _) _)).mono ?_;rintro e w' ⟨rfl,rfl⟩)
         go_ret;exact⟨rfl,Ch (Ch (Below.refl _ _) _) _⟩
     . have h5:r=false:=by rw[Aa HR];exact decide_eq_false (fun k=>h3 k.2.2.1)
       have hb:(x.f.stamp==y.f.stamp)=false:=by simpa using h3
       rw[h5];rw[decide_eq_true h2]at HE;clear h1 h2 h5 HR h3;generalize B x.f.name=t at*;generalize B y.f.name=t2 at*;generalize x.f.bytes.length=n at*;generalize y.f.bytes.length=n2 at*;go_enter Tryz.func11,Tryz.ntmps11
       go_wp2_with (go_at_call 13;refine(Aa HE _ (Ch (Ch (Below.refl _ _) _) _)).mono ?_;rintro e w' ⟨rfl,rfl⟩)
       go_ret;exact⟨rfl,Ch (Ch (Below.refl _ _) _) _⟩
   . have h5:r=false:=by rw[Aa HR];exact decide_eq_false (fun k=>h2 k.2.1)
     rw[h5];rw[decide_eq_false h2]at HE;clear h1 h2 h5 HR;generalize B x.f.name=t at*;generalize B y.f.name=t2 at*;generalize x.f.bytes.length=n at*;generalize y.f.bytes.length=n2 at*;go_enter Tryz.func11,Tryz.ntmps11
     go_wp2_with (go_at_call 13;refine(Aa HE _ (Ch (Ch (Below.refl _ _) _) _)).mono ?_;rintro e w' ⟨rfl,rfl⟩)
     go_ret;exact⟨rfl,Ch (Ch (Below.refl _ _) _) _⟩
 . have h5:r=false:=by rw[Aa HR];exact decide_eq_false (fun k=>h1 k.1)
   rw[h5];rw[decide_eq_false h1]at hn;clear h1 h5 HR HE;generalize B x.f.name=t at*;generalize B y.f.name=t2 at*;generalize x.f.bytes.length=n at*;generalize y.f.bytes.length=n2 at*;go_enter Tryz.func11,Tryz.ntmps11
   go_wp2;go_ret;exact⟨rfl,Ch (Ch (Below.refl _ _) _) _⟩
def NW (c x k:Nat):Nat:=Hz k (c^^^x%2^k)
theorem MI (c x:Nat):NW c x 0=c:=by simp[NW,Hz,Nat.mod_one]
theorem MJ (c x k:Nat):NW c x (k+1)=lft (NW c x k^^^x/2^k%2):=JX c x k
theorem RY {c x:Nat}(hx:x<256):NW c x 8=RX c x:=by
 unfold NW RX;rw[ZH (by simpa using hx)]
theorem Z2e {c x:Nat}(k:Nat)(hc:c<4294967296)(hx:x<256):NW c x k<4294967296:=by
 unfold NW;refine Qz k (Nat.xor_lt_two_pow (n:=32) hc ?_);have:=Nat.mod_le x (2^k)
 omega
theorem Z5f {m x j:Nat}(hm:m<4294967296)(hx:x<256)(hj:j<8):bits .xor .u32 (bits .and .u32 (m:Int) 1) (bits .and .u8 ((x:Int)/2^j) 1%4294967296)=(((m%2^^^x/2^j%2):Nat):Int):=by
 have h1:bits .and .u8 ((x/2^j:Nat):Int) ((1:Nat):Int)=((x/2^j&&&1:Nat):Int):=u8_and_nat _ _ (XU (YY _ _) hx) (by decide);rw[Nat.and_one_is_mod]at h1;have e:((x/2^j:Nat):Int)=(x:Int)/2^j:=by push_cast;rfl
 rw[e]at h1;rw[Z59 hm,show (1:Int)=((1:Nat):Int) from rfl,h1,show (((x/2^j%2:Nat):Int))%4294967296=((x/2^j%2:Nat):Int) by omega];exact u32_xor_nat _ _ (by omega) (by omega)
theorem MH (p:Nat)(a:Option Addr)(n cap:Nat)(bs:List Nat)(w:World)(hl:bs.length=n)(hn:n<=12000)(hp:p<4294967296)(hby:BytesIn w a bs)(hv:∀j,bs.getD j 0<256):
 Calls Tryz.prog 12 #[.int .u32 (p:Int),.slice a n cap] w fun e w'=>e=.returned (.int .u32 (crcN p bs:Nat))/\w'=w:=by
 have HBY:=Ab hby;have HV:=Ab hv;have HL:=Ab hl;clear hby hv hl;go_enter Tryz.func12,Tryz.ntmps12
 go_wp2;rw[Z4d hp];go_loop [5,14] (fun r i=>∃k:Nat,k<=n/\i=.int .i64 (k:Int)/\r=.int .u32 (Sa (p^^^4294967295) (bs.take k):Nat)) (fun _ i=>n-(intOf i).toNat)
 case atStart=>exact⟨0,by omega,rfl,rfl⟩
 case round=>
  obtain⟨k,hk,rfl,rfl⟩:=hrel
  have hr:Sa (p^^^4294967295) (bs.take k)<4294967296:=Ry _ _ (fun y hy=>by
   obtain⟨i,hi,rfl⟩:=XF hy;have:=Aa HV i
   rw[VM]at hi;rw[ZB];rw[List.getD,VR (by omega)]at this;exact this) (Zs hp)
  by_cases hlt:k<n
  . have hkl:k<bs.length:=by rw[Aa HL];exact hlt
    obtain⟨b,o,rfl,hb,hc⟩:=BB (Aa HBY) hkl;have hx:=Aa HV k;have HC:Hid (Sa (p^^^4294967295) (bs.take (k+1))=RX (Sa (p^^^4294967295) (bs.take k)) (bs.getD k 0)):=Ab (by rw[Yj hkl,E7]);generalize Sa (p^^^4294967295) (bs.take k)=r at*;generalize bs.getD k 0=x at*;clear hkl;go_wp2;go_loop [5,18] (fun r1 i=>∃j:Nat,j<=8/\i=.int .i64 (j:Int)/\r1=.int .u32 (NW r x j:Nat)) (fun _ i=>8-(intOf i).toNat)
    case atStart=>exact⟨0,by omega,rfl,by rw[MI]⟩
    case round=>
     obtain⟨j,hj,rfl,rfl⟩:=hrel
     by_cases hjl:j<8
     . have HN:=Ab (MJ r x j);have hm:=Z2e j hr hx;generalize NW r x j=m at*
       by_cases hodd:(m%2^^^x/2^j%2)=1
       . have h1:(bits .xor .u32 (bits .and .u32 (m:Int) 1) (bits .and .u8 ((x:Int)/2^j) 1%4294967296)==1)=true:=by rw[Z5f hm hx hjl,hodd];rfl
         have HL1:Hid (lft (m^^^x/2^j%2)=m/2^^^3988292384):=Ab (by rw[JY _ _ (Nat.mod_lt _ (by decide)),if_pos hodd]);have HX:=Ab (Z5c hm);clear hodd;go_wp2;go_round
         case rel=>exact⟨j+1,by omega,by go_num,by rw[Aa HN,Aa HL1,Aa HX]⟩
         case measure=>simp[intOf];omega
       . have h1:=Z5f hm hx hjl;have h2:((((m%2^^^x/2^j%2):Nat):Int)==1)=false:=by rw[beq_eq_false_iff_ne];omega
         rw[<-h1]at h2;have HL1:Hid (lft (m^^^x/2^j%2)=m/2):=Ab (by rw[JY _ _ (Nat.mod_lt _ (by decide)),if_neg hodd]);clear hodd h1;go_wp2;go_round
         case rel=>exact⟨j+1,by omega,by go_num,by rw[Aa HN,Aa HL1];rfl⟩
         case measure=>simp[intOf];omega
     . obtain rfl:j=8:=by omega
       go_wp2;go_round
       case rel=>exact⟨k+1,by omega,by go_num,by rw[Aa HC,RY hx]⟩
       case measure=>simp[intOf];omega
  . have e:k=n:=by omega
    subst e;have HE:Hid (Sa (p^^^4294967295) (bs.take k)^^^4294967295=crcN p bs):=Ab (by rw[VP (by rw[Aa HL];exact VC _)];rfl);have HNN:=Ab (Z4d hr);clear hr;go_wp2;go_ret;exact⟨by rw[Aa HNN,Aa HE];rfl,rfl⟩
end Go.Proofs.YtleocpdblhbimaaGreatDoor
namespace Go.Proofs.YtleocpdblhbimaaGreatDoor
open Go.RowKit Go.ChangeShapes Go.WideShapes Go.ChangeAt Go.Deep
set_option linter.unusedVariables false
theorem I3 (b o j:Nat):(⟨b,o,none⟩:Addr).add j=⟨b,o+j,none⟩:=by unfold Addr.add;split<;>simp_all
theorem Z47:Tryz.prog.cellsOf 5=1:=by kernel_rfl
end Go.Proofs.YtleocpdblhbimaaGreatDoor
namespace Go.Proofs.YtleocpdblhbimaaGreatDoor
open Go.RowKit Go.ChangeShapes Go.WideShapes Go.ChangeAt Go.Deep
set_option linter.unusedVariables false
set_option maxRecDepth 100000
theorem F6:Tryz.prog.cellsOf 30=5:=by kernel_rfl
theorem SG:Tryz.prog.cellsOf 9=1:=by kernel_rfl
theorem SH:Tryz.prog.cellsOf 3=1:=by kernel_rfl
theorem MZ:Tryz.prog.cellsOf 4=1:=by kernel_rfl
theorem Z2h:Tryz.prog.cellsOf 23=1:=by kernel_rfl
theorem Z2k:Tryz.prog.bytesOf 5=1:=by kernel_rfl
theorem NE:Tryz.prog.bytesOf 30=64:=by kernel_rfl
theorem Yb {H:Type}{enc:TypeId×Value->H}{P:Program}{w:World}{base:Nat}{spare:Nat->Bool}{held:Bool}{t:TypeId}{f0 f1 f2 f3 f4:Field}{fuel:Nat}{cs:List Value}{x:DataW H×List MemPlace}(ht:P.underlying t=some (.struct #[f0,f1,f2,f3,f4]))(h:DataW.trod enc P w base spare held fuel t cs=some x):
 ∃y0 y1 y2 y3 y4 n,x=(.agg [y0.1,y1.1,y2.1,y3.1,y4.1],y0.2++(y1.2++(y2.2++(y3.2++y4.2))))/\cs.length=P.cellsOf t/\DataW.trod enc P w base spare held n f0.type ((cs.drop f0.offset).take (P.cellsOf f0.type))=some y0/\
  DataW.trod enc P w base spare held n f1.type ((cs.drop f1.offset).take (P.cellsOf f1.type))=some y1/\DataW.trod enc P w base spare held n f2.type ((cs.drop f2.offset).take (P.cellsOf f2.type))=some y2/\
  DataW.trod enc P w base spare held n f3.type ((cs.drop f3.offset).take (P.cellsOf f3.type))=some y3/\DataW.trod enc P w base spare held n f4.type ((cs.drop f4.offset).take (P.cellsOf f4.type))=some y4:=by
 obtain⟨xs,n,_,rfl,hl,hlen,hf⟩:=DataW.trod_struct ht h
 match xs,hlen with
 | [y0,y1,y2,y3,y4],_=>exact⟨y0,y1,y2,y3,y4,n,by simp,hl,by simpa using hf 0 f0 rfl,by simpa using hf 1 f1 rfl,by simpa using hf 2 f2 rfl,by simpa using hf 3 f3 rfl,by simpa using hf 4 f4 rfl⟩
theorem Z1c {H:Type}{enc:TypeId×Value->H}{w:World}{fuel:Nat}{v:Value}{x:DataW H×List MemPlace}
 (h:DataW.trod enc Tryz.prog w 0 (fun _=>true) true fuel 23 [v]=some x) (hw:∀n∈x.1.weights Tryz.prog 23,n<=140737488351232):∃a c bs,v=.slice a bs.length c/\BsIn w a c bs/\bs.length<=140737488351232:=by
 rcases open_ints Tryz.underlying23 Tryz.underlying5 Z47 h with ⟨hcs,_⟩|⟨a,l,c,zs,hcs,_,hl,hm,hz,hx,hcell,hwz⟩
 . simp at hcs
   subst hcs;exact⟨none,0,[],rfl,.inl ⟨rfl,rfl,rfl⟩,by simp⟩
 . simp at hcs
   subst hcs;have hz':zs.length=c:=by simpa using hz
   have hb:∀j,j<zs.length->0<=zs.getD j 0/\zs.getD j 0<=255:=by
    intro j hj;have hmem:zs.getD j 0∈zs:=by simp[List.getD,hj]
    have:=hwz _ hmem
    simpa[Lit.wf,IntKind.min,IntKind.max,IntKind.signed,IntKind.bits]using this
   have hlen:((zs.take l).map fun n=>UInt8.ofNat n.toNat).length=l:=by simp;omega
   have hc:c<=140737488351232:=by
    apply hw
    rw[hx];simp only[DataW.weights,Tryz.underlying23,Z2k];refine WE.2 (.inl ?_);simp[lits]
    omega
   refine⟨some a,c,(zs.take l).map fun n=>UInt8.ofNat n.toNat,by rw[hlen], ?_,by rw[hlen];omega⟩
   by_cases h0:l=0
   . subst h0;exact .inr (.inl ⟨by simp,a,rfl⟩)
   . obtain⟨b,o,spot⟩:=a;have hc0:=hcell 0 (by omega);have hspot:spot=none:=by simpa[Addr.add]using World.cell?_spot hc0
     subst hspot;refine .inr (.inr ⟨b,o,rfl, ?_,by rw[hlen];exact hl, ?_⟩)
     . have:=World.block_lt_of_cell? _ _ hc0
       simpa[Addr.add]using this
     . intro j hj;rw[hlen]at hj;have h1:=hcell j (by omega);rw[I3]at h1;rw[h1];have hjz:j<zs.length:=by omega
       have hbj:=hb j hjz;have e:((zs.take l).map fun n=>UInt8.ofNat n.toNat).getD j 0=UInt8.ofNat (zs.getD j 0).toNat:=by simp[List.getD,hj,hjz]
       rw[e]
       have e2:(UInt8.ofNat (zs.getD j 0).toNat).toNat=(zs.getD j 0).toNat:=by
        rw[UInt8.toNat_ofNat'];omega
       rw[e2,XX hbj.1]
instance:Inhabited Fv:=⟨⟨⟨[],[],0,0,false⟩,none,0⟩⟩
theorem JE {H:Type}{enc:TypeId×Value->H}{w:World}{fuel:Nat}{cs:List Value}{x:DataW H×List MemPlace}
 (h:DataW.trod enc Tryz.prog w 0 (fun _=>true) true fuel 30 cs=some x) (hw:∀n∈x.1.weights Tryz.prog 30,n<=140737488351232):∃z:Fv,cs=z.cells/\FvIn w z:=by
 obtain⟨y0,y1,y2,y3,y4,k,hx,hlen,g0,g1,g2,g3,g4⟩:=Yb Tryz.underlying30 h;rw[F6]at hlen
 match cs,hlen with
 | [v0,v1,v2,v3,v4],_=>
  simp only[SG,SH,MZ,Z2h]at g0 g1 g2 g3 g4;simp at g0 g1 g2 g3 g4
  have hws:∀n,n∈y0.1.weights Tryz.prog 9\/n∈y1.1.weights Tryz.prog 23->n<=140737488351232:=by
   intro n hn;apply hw
   rw[hx];simp only[DataW.weights,Tryz.underlying30]
   rcases hn with hn|hn
   . exact DataW.weights_mem_each (j:=0) rfl rfl n hn
   . exact DataW.weights_mem_each (j:=1) rfl rfl n hn
  obtain⟨s,e0,hs,_⟩:=DataW.trod_string Tryz.underlying9 g0;obtain⟨a,c,bs,e1,hB,hbl⟩:=Z1c g1 (fun n hn=>hws n (.inr hn));obtain⟨n2,e2,_,_⟩:=DataW.trod_int Tryz.underlying3 g2;obtain⟨n3,e3,_,_⟩:=DataW.trod_int Tryz.underlying3 g3;obtain⟨n4,e4,_⟩:=DataW.trod_bool Tryz.underlying4 g4;simp at e0 e2 e3 e4
  subst e0;subst e1;subst e2;subst e3;subst e4;have hsl:s.data.toList.length<=140737488351232:=hws _ (.inl (by rw[hs];simp[DataW.weights]));exact⟨⟨⟨s.data.toList,bs,n2,n3,n4⟩,a,c⟩,by simp[Fv.cells,Fv.sl,I7],⟨hB,by simp only;omega,by simp only;omega⟩⟩
theorem Jy {H:Type}{P:Program}{e:TypeId}:∀ {ds:List (DataW H)} {d:DataW H},d∈ds->∀n∈d.weights P e,n∈DataW.weightsAll P e ds
 |x::r,d,h,n,hn=>by
  simp only[DataW.weightsAll,WJ]
  rcases WE.1 h with e|e
  . subst e;exact .inl hn
  . exact .inr (Jy e n hn)
 | [],d,h,n,hn=>by cases h
theorem CT {H:Type}{enc:TypeId×Value->H}{w:World}{fuel:Nat}{a0:Option Addr}{l0 c0:Nat}{d:DataW H}{p:List MemPlace}
 (h:DataW.trod enc Tryz.prog w 0 (fun _=>true) true fuel 22 [.slice a0 l0 c0]=some (d,p)) {ts:List TypeId} {ds:List (DataW H)} {j:Nat}
 (hsz:(DataW.weightsEach Tryz.prog ts ds).all (· <=reachBytes)=true) (ht:ts[j]? =some 22) (hd:ds[j]? =some d):∃xs,xs.length=l0/\FsIn w a0 c0 xs:=by
 have hw:∀n∈d.weights Tryz.prog 22,n<=140737488351232:=by
  intro n hn;have h3:=WT.1 hsz _ (DataW.weights_mem_each ht hd _ hn);have h4:n<=reachBytes:=by simpa using h3
  have:reachBytes=140737488351232:=rfl
  omega
 rcases open_slice Tryz.underlying22 h with ⟨hcs,_⟩|⟨a,len,cap,m,n,D,Pl,hcs,_,hl,hm,hmm,hx1,hx⟩
 . simp at hcs
   obtain⟨rfl,rfl,rfl⟩:=hcs;exact⟨[],rfl,FsIn.nil w⟩
 . simp at hcs
   obtain⟨rfl,rfl,rfl⟩:=hcs;simp only[if_true]at hmm;subst hmm;have hd1:=congrArg Prod.fst hx1;simp only at hd1
   have hcap:m*64<=140737488351232:=by
    apply hw
    rw[hd1];simp only[DataW.weights,Tryz.underlying22,NE];refine WE.2 (.inl ?_);simp
    omega
   have each:∀i,i<l0->∃z:Fv,FvIn w z/\∀k,k<5->w.cell? (a.add (i*5+k))=z.cells[k]? :=by
    intro i hi;obtain⟨cs',h1,h2⟩:=hx i (by omega);rw[F6]at h1;obtain⟨_,hlen,hcell⟩:=World.cells?_some h1
    obtain⟨z,hz,hF⟩:=JE h2 (fun n hn=>hw n (by
     rw[hd1];simp only[DataW.weights,Tryz.underlying22];exact WM _ (WJ.2 (.inl (Jy (XC.2 ⟨i,List.mem_range.2 hi,rfl⟩) _ hn)))))
    refine⟨z,hF,fun k hk=> ?_⟩;have:=hcell k hk
    rw[add_add]at this;rw[this,hz]
   obtain⟨f,hf⟩:=choose_lt each;refine⟨(List.range l0).map f,by simp,⟨?_,by simp;omega,by unfold maxLen at hm;omega,by simp;omega, ?_⟩⟩
   . by_cases h0:l0=0
     . subst h0;exact .inl rfl
     . obtain⟨b,o,spot⟩:=a;have hc:=(hf 0 (by omega)).2 0 (by omega);have hc':w.cell? (Addr.add ⟨b,o,spot⟩ (0*5+0))=some (.string (B (f 0).f.name)):=hc;have hspot:spot=none:=by simpa[Addr.add]using World.cell?_spot hc'
       subst hspot;refine .inr ⟨b,o,rfl, ?_, ?_⟩
       . have:=World.block_lt_of_cell? _ _ hc'
         simpa[Addr.add]using this
       . intro j x hj
         have hj':j<l0:=by
          rcases YW j l0 with h'|h'
          . exact h'
          . rw[WN (by simpa using h')]at hj;cases hj
         simp[hj']at hj
         subst hj;have q:=(hf j hj').2;have q0:=q 0 (by decide);have q1:=q 1 (by decide);have q2:=q 2 (by decide);have q3:=q 3 (by decide);have q4:=q 4 (by decide);rw[I3]at q0 q1 q2 q3 q4;exact⟨q0,by rw[WH];exact q1,by rw[WH];exact q2,by rw[WH];exact q3,by rw[WH];exact q4⟩
   . intro x hx;obtain⟨i,hi,rfl⟩:=XC.1 hx;exact(hf i (List.mem_range.1 hi)).1
end Go.Proofs.YtleocpdblhbimaaGreatDoor
