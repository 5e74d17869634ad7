import Derived.Laws.BytesArg
import Derived.Laws.Externs
import Derived.Lib.BytesEntry
import Derived.Laws.ResultCell
import Derived.Test.YtieianhejdcgdaaGreatDoorQ10
import Derived.Maps.AppendAt
import Derived.Laws.AppendOwnNone
import Derived.Lib.AppendStr
import Derived.Deep.RegionLaw
import Derived.Deep.DeepCutAuto
set_option maxHeartbeats 4000000
namespace Go.Proofs.YtieianhejdcgdaaGreatDoor
open Go.RowKit
set_option linter.unusedVariables false
theorem W8 {w w':World}(h:Below w.heap.size w w'):w.grownBy w' none:=⟨h.os,h.tape,h.output,h.size,fun k hk _=>h.block k hk⟩
theorem B4 {w w':World}{B e size n:Nat}{v:Value}{xs:List Value}(h:w.ownsRow B e size v n xs)(hg:Below w.heap.size w w'):w'.ownsRow B e size v n xs:=
 h.kept (W8 hg) (by cases hv:v.ownBlock with
  |none=>exact .inl rfl
  |some k=>exact .inr (by simp))
end Go.Proofs.YtieianhejdcgdaaGreatDoor
namespace Go.Proofs.YtieianhejdcgdaaGreatDoor
open Go.RowKit
set_option linter.unusedVariables false
set_option maxRecDepth 100000
def BsIn (w:World)(a:Option Addr)(c:Nat)(bs:List UInt8):Prop:=
 (a=none/\bs= []/\c=0)\/ (bs= []/\∃ad,a=some ad)\/∃b o,a=some ⟨b,o,none⟩/\b<w.heap.size/\bs.length<=c/\∀j,j<bs.length->w.cell? ⟨b,o+j,none⟩=some (.int .u8 (((bs.getD j 0).toNat:Nat):Int))
theorem BsIn.below {w w':World}{B:Nat}{a:Option Addr}{c:Nat}{bs:List UInt8}(h:BsIn w a c bs)(hB:Below B w w')(hb:w.heap.size<=B):BsIn w' a c bs:=by
 rcases h with h|h|⟨b,o,h1,h2,h3,h4⟩
 . exact .inl h
 . exact .inr (.inl h)
 . refine .inr (.inr ?_);exact⟨b,o,h1,VK h2 hB.size,h3,fun j hj=>(hB.cell (p:=⟨b,o+j,none⟩) (by simp;omega)).trans (h4 j hj)⟩
theorem BsIn.grown {w w':World}{r:Option Nat}{a:Option Addr}{c:Nat}{bs:List UInt8}(h:BsIn w a c bs)(hg:w.grownBy w' r)(hr:∀b o,a=some ⟨b,o,none⟩->some b≠r):BsIn w' a c bs:=by
 rcases h with h|h|⟨b,o,h1,h2,h3,h4⟩
 . exact .inl h
 . exact .inr (.inl h)
 . refine .inr (.inr ?_);exact⟨b,o,h1,VK h2 hg.size,h3,fun j hj=>hg.cell (h4 j hj) (hr b o h1)⟩
abbrev AQ (bs:List UInt8):List Int:=bs.map fun x:UInt8=>((x.toNat:Nat):Int)
theorem LH (bs:List UInt8)(j:Nat):(AQ bs).getD j 0=(((bs.getD j 0).toNat:Nat):Int):=by
 unfold AQ
 by_cases h:j<bs.length
 . simp[List.getD,h]
 . simp[List.getD,h]
theorem Z0y (bs:List UInt8):(AQ bs).map (fun n=>UInt8.ofNat n.toNat)=bs:=by
 unfold AQ;rw[List.map_map];have:((fun n:Int=>UInt8.ofNat n.toNat) ∘ fun x:UInt8=>((x.toNat:Nat):Int))=id:=by funext x;simp
 rw[this,List.map_id]
theorem P6 (bs:List UInt8):strOfNums (AQ bs)=B bs:=by
 unfold strOfNums B;rw[Z0y]
theorem Xr {w:World}{a:Option Addr}{c:Nat}{bs:List UInt8}(h:BsIn w a c bs):(convert 23 9 (.slice a bs.length c)).run Tryz.prog w=.ok (.string (B bs)) w:=by
 rcases h with ⟨rfl,rfl,rfl⟩|⟨rfl,ad,rfl⟩|⟨b,o,rfl,h2,h3,h4⟩
 . exact run_convert_bytes_nil w _ _ Tryz.underlying23 Tryz.underlying5 0 0 _ Tryz.underlying9
 . show (convert 23 9 (.slice (some ad) 0 c)).run Tryz.prog w=.ok (.string (B [])) w
   rw[run_convert_bytes_string w _ _ _ (some ad) 0 c Tryz.underlying23 Tryz.underlying5 Tryz.underlying9];exact(run_bytesToString (P:=Tryz.prog) w ad 0 c [] (by rfl)).trans rfl
 . have:=run_convert_bytes_arg (P:=Tryz.prog) w _ _ Tryz.underlying23 Tryz.underlying5 b o bs.length c (AQ bs) (by simp[AQ]) (fun i hi=>by rw[h4 i hi,LH]) _ Tryz.underlying9
   rw[this,P6]
structure Fv where
 f:Fl
 a:Option Addr
 c:Nat
def Fv.sl (x:Fv):Value:=.slice x.a x.f.bytes.length x.c
def Fv.val (x:Fv):Value:=.agg #[.string (B x.f.name),x.sl,.int .i64 x.f.stamp,.int .i64 x.f.node,.bool x.f.gone]
def Fv.cells (x:Fv):List Value:= [.string (B x.f.name),x.sl,.int .i64 x.f.stamp,.int .i64 x.f.node,.bool x.f.gone]
structure FvIn (w:World)(x:Fv):Prop where
 bs:BsIn w x.a x.c x.f.bytes
 big:x.f.bytes.length<=140737488355328
 txt:x.f.name.length<=140737488355328
theorem FvIn.below {w w':World}{B:Nat}{x:Fv}(h:FvIn w x)(hB:Below B w w')(hb:w.heap.size<=B):FvIn w' x:=⟨h.bs.below hB hb,h.big,h.txt⟩
theorem FvIn.grown {w w':World}{r:Option Nat}{x:Fv}(h:FvIn w x)(hg:w.grownBy w' r)(hr:∀b o,x.a=some ⟨b,o,none⟩->some b≠r):FvIn w' x:=⟨h.bs.grown hg hr,h.big,h.txt⟩
theorem FvIn.alloc {w:World}{x:Fv}(h:FvIn w x)(o:Obj):FvIn (w.alloc o) x:=h.below ((Below.refl w.heap.size w).alloc (VC _) o) (VC _)
def Fs (w:World)(b o:Nat)(xs:List Fv):Prop:=∀j x,xs[j]? =some x->w.cell? ⟨b,o+j*5,none⟩=some (.string (B x.f.name))/\w.cell? ⟨b,o+j*5+1,none⟩=some x.sl/\w.cell? ⟨b,o+j*5+2,none⟩=some (.int .i64 x.f.stamp)/\w.cell? ⟨b,o+j*5+3,none⟩=some (.int .i64 x.f.node)/\w.cell? ⟨b,o+j*5+4,none⟩=some (.bool x.f.gone)
structure FsIn (w:World)(ad:Option Addr)(c:Nat)(xs:List Fv):Prop where
 at_:xs= []\/∃b o,ad=some ⟨b,o,none⟩/\b<w.heap.size/\Fs w b o xs
 cap:xs.length<=c
 capm:c<=9223372036854775807
 lim:xs.length<=2199023255552
 all:∀x∈xs,FvIn w x
theorem FsIn.below {w w':World}{B:Nat}{ad:Option Addr}{c:Nat}{xs:List Fv}(h:FsIn w ad c xs)(hB:Below B w w')(hb:w.heap.size<=B):FsIn w' ad c xs:=by
 refine⟨?_,h.cap,h.capm,h.lim,fun x hx=>(h.all x hx).below hB hb⟩
 rcases h.at_ with h1|⟨b,o,h1,h2,h3⟩
 . exact .inl h1
 . refine .inr ⟨b,o,h1,VK h2 hB.size, ?_⟩;intro j x hj;obtain⟨k1,k2,k3,k4,k5⟩:=h3 j x hj;have hbB:b<B:=by omega
   exact⟨(hB.cell (p:=⟨b,_,none⟩) hbB).trans k1,(hB.cell (p:=⟨b,_,none⟩) hbB).trans k2,(hB.cell (p:=⟨b,_,none⟩) hbB).trans k3,(hB.cell (p:=⟨b,_,none⟩) hbB).trans k4,(hB.cell (p:=⟨b,_,none⟩) hbB).trans k5⟩
theorem FsIn.nil (w:World):FsIn w none 0 []:=⟨.inl rfl,VC _,by omega,by simp,fun x hx=>by cases hx⟩
theorem FsIn.get {w w':World}{ad:Option Addr}{c k:Nat}{xs:List Fv}{x:Fv}(h:FsIn w ad c xs)(hB:Below w.heap.size w w')(hk:xs[k]? =some x):
 ∃b o,ad=some ⟨b,o,none⟩/\b<w.heap.size/\w'.cell? ⟨b,o+k*5,none⟩=some (.string (B x.f.name))/\w'.cell? ⟨b,o+k*5+1,none⟩=some x.sl/\w'.cell? ⟨b,o+k*5+2,none⟩=some (.int .i64 x.f.stamp)/\w'.cell? ⟨b,o+k*5+3,none⟩=some (.int .i64 x.f.node)/\w'.cell? ⟨b,o+k*5+4,none⟩=some (.bool x.f.gone):=by
 rcases(h.below hB (VC _)).at_ with rfl|⟨b,o,h1,h2,h3⟩
 . simp at hk
 . rcases h.at_ with rfl|⟨b',o',h1',h2',_⟩
   . simp at hk
   . rw[h1]at h1'
     cases h1'
     obtain⟨k1,k2,k3,k4,k5⟩:=h3 k x hk;exact⟨b,o,h1,h2',k1,k2,k3,k4,k5⟩
theorem Rj {xs:List Fv}{k:Nat}(h:k<xs.length):∃x,xs[k]? =some x/\x∈xs:=⟨xs[k],VR h,WR h⟩
abbrev fls (xs:List Fv):List Fl:=xs.map Fv.f
theorem Dz (x:Fv):x.val=.agg #[.string (B x.f.name),.slice x.a x.f.bytes.length x.c,.int .i64 x.f.stamp,.int .i64 x.f.node,.bool x.f.gone]:=rfl
theorem Dk (l:List UInt8):(B l).toList=l:=by rw[ByteArray.toList_eq];rfl
theorem Ve {w:World}{a:Option Addr}{c:Nat}{bs:List UInt8}(h:BsIn w a c bs):(Extern.Bytes.bytesOf (.slice a bs.length c)).run Tryz.prog w=.ok (B bs) w:=by
 rcases h with ⟨rfl,rfl,rfl⟩|⟨rfl,ad,rfl⟩|⟨b,o,rfl,h2,h3,h4⟩
 . rfl
 . rfl
 . have:=Lib.run_loadBytesX (P:=Tryz.prog) w (AQ bs) ⟨b,o,none⟩ .empty (fun j x hj=>by
    have hj2:j<bs.length:=by
     by_cases k:j<bs.length
     . exact k
     . rw[WA (by simp[AQ];omega)]at hj;cases hj
    have e2:(⟨b,o,none⟩:Addr).add j=⟨b,o+j,none⟩:=by unfold Addr.add;split<;>simp_all
    rw[e2,h4 j hj2];simp[AQ,hj2]at hj
    subst hj;simp[List.getD,hj2])
   have hl:(AQ bs).length=bs.length:=by simp[AQ]
   rw[hl]at this;show (Extern.Bytes.loadBytes ⟨b,o,none⟩ bs.length .empty).run Tryz.prog w=_
   rw[this]
   congr 1
   have e3:Lib.bytesOf (AQ bs)=bs:=by
    unfold Lib.bytesOf
    first|exact Z0y bs|(simp[AQ])
   rw[e3];simp[B,ByteArray.empty,ByteArray.emptyWithCapacity]
   rfl
theorem Z02 {w:World}{a a2:Option Addr}{c c2:Nat}{x y:List UInt8}(h:BsIn w a c x)(h2:BsIn w a2 c2 y):
 Calls Tryz.prog 15 #[.slice a x.length c,.slice a2 y.length c2] w fun e w'=>e=.returned (.bool (decide (x=y)))/\w'=w:=by
 have e1:=Xr h;have e2:=Xr h2;have e3:((B x).toList==(B y).toList)=decide (x=y):=by rw[Dk,Dk,YK,beq_iff_eq,decide_eq_true_iff]
 clear h h2;generalize B x=s at*;generalize B y=t at*;go_enter Tryz.func15,Tryz.ntmps15
 go_wp2;go_ret;exact⟨rfl,rfl⟩
def KpT (w w':World):Prop:=∀(g:Nat) (cs:Array Value) (t:TypeId) (fz:Nat×Nat),t≠5->t≠106->w.heap[g]? =some (Obj.cells cs t fz)->w'.heap[g]? =some (Obj.cells cs t fz)
theorem KpT.refl (w:World):KpT w w:=fun _ _ _ _ _ _ h=>h
theorem KpT.trans {a b c:World}(h:KpT a b)(k:KpT b c):KpT a c:=fun g cs t fz h1 h2 h3=>k g cs t fz h1 h2 (h g cs t fz h1 h2 h3)
theorem KpT.below {w w':World}(h:Below w.heap.size w w'):KpT w w':=fun g cs t fz _ _ h3=>(h.block g (VG.1 h3).1).trans h3
structure ZC (B:Nat)(w:World)(b:Nat)(xs:List Nat)(ov:Value):Prop where
 base:B<=b
 cell:w.heap[b]? =some (.cells #[ov] 106 (0,0))
 own:w.ownsRow (b+1) 5 1 ov xs.length (u8s xs)
theorem ZC.lt {B b:Nat}{w:World}{xs:List Nat}{ov:Value}(h:ZC B w b xs ov):b<w.heap.size:=(VG.1 h.cell).1
structure ZUp (B:Nat)(w:World)(b:Nat)(xs:List Nat)(w':World):Prop where
 is:∃ov,ZC B w' b xs ov
 below:Below B w w'
 kp:KpT w w'
theorem ZUp.refl {B b:Nat}{w:World}{xs:List Nat}{ov:Value}(h:ZC B w b xs ov):ZUp B w b xs w:=⟨⟨ov,h⟩,Below.refl _ _,KpT.refl _⟩
theorem ZUp.trans {B b:Nat}{w w1 w2:World}{xs ys:List Nat}(h:ZUp B w b xs w1)(k:ZUp B w1 b ys w2):ZUp B w b ys w2:=⟨k.is,h.below.trans k.below,h.kp.trans k.kp⟩
theorem ZC.later {B b:Nat}{w w':World}{xs:List Nat}{ov:Value}(h:ZC B w b xs ov)(hB:Below w.heap.size w w'):ZC B w' b xs ov:=
 ⟨h.base,(hB.block b h.lt).trans h.cell,Ar h.own (fun g hg=>hB.block g (h.own.lt g hg).2)⟩
theorem ZC.apart {B b:Nat}{w:World}{xs:List Nat}{ov:Value}(h:ZC B w b xs ov):ov.ownBlock=none\/ov.ownBlock≠some b:=by
 cases hx:ov.ownBlock with
 |none=>exact .inl rfl
 |some g=>
  refine .inr (fun e=> ?_);have:=(h.own.lt g hx).1
  cases e
  omega
theorem Oy {w:World}{B e size n g:Nat}{v:Value}{xs:List Value}(h:w.ownsRow B e size v n xs)(hg:v.ownBlock=some g):∃cs,w.heap[g]? =some (.cells cs e (0,0)):=by
 rcases h.2 with ⟨h1,_⟩|⟨g',cap,cur,h1,h2,h3,_⟩
 . subst h1;cases hg
 . subst h1
   cases hg
   exact⟨_,h3⟩
theorem ZC.put {B b:Nat}{r W w':World}{xs ys:List Nat}{ov v':Value}(h:ZC B r b xs ov)(hW:r.grownBy W none)(hg:W.grownBy w' ov.ownBlock)(ho:w'.ownsRow (b+1) 5 1 v' (xs.length+ys.length) (u8s xs++u8s ys)):
 w'.cell? ⟨b,0,none⟩=some ov/\w'.frozen? ⟨b,0,none⟩=false/\ZUp B r b (xs++ys) (w'.setCell ⟨b,0,none⟩ v'):=by
 have hlt:=h.lt;have hWs:=hW.size;have hgs:=hg.size;have hbW:W.heap[b]? =some (.cells #[ov] 106 (0,0)):=(hW.block b hlt (by simp)).trans h.cell;have hb':w'.heap[b]? =some (.cells #[ov] 106 (0,0)):=(hg.block b (by omega) (fun e=>by rcases h.apart with h|h;rw[h]at e;cases e;exact h e.symm)).trans hbW;have hset:=Ad w' b 0 v'
 have hv'b:v'.ownBlock=none\/v'.ownBlock≠some b:=by
  cases hx:v'.ownBlock with
  |none=>exact .inl rfl
  |some g=>
   refine .inr (fun e=> ?_);have:=(ho.lt g hx).1
   cases e
   omega
 have hbb:=h.base;refine⟨Ac hb',frozen_of_row w' b 0 _ _ hb',⟨v',hbb, ?_, ?_⟩, ?_, ?_⟩
 . rw[heap_setCell_same w' b 0 _ _ _ hb'];rfl
 . have:=ho.kept hset hv'b
   rw[VB,u8s,XO];exact this
 . have b0:=(Below.refl B r).grown hW (by omega) (fun g e=>by cases e);have b1:=b0.grown hg (by omega) (fun g e=>by have:=(h.own.lt g e).1;omega);exact b1.grown hset (by omega) (fun g e=>by cases e;exact hbb)
 . intro g cs t fz h1 h2 h3;have hgl:=(VG.1 h3).1;have e1:W.heap[g]? =some (.cells cs t fz):=(hW.block g hgl (by simp)).trans h3
   have hne:some g≠ov.ownBlock:=by
    intro e;obtain⟨cs',hc⟩:=Oy h.own e.symm;rw[h3]at hc
    injection hc with hc
    injection hc with _ hc2
    exact h1 hc2
   have e2:w'.heap[g]? =some (.cells cs t fz):=(hg.block g (by omega) hne).trans e1
   have hgb:g≠b:=by
    intro e;rw[e,h.cell]at h3
    injection h3 with h3
    injection h3 with _ h4
    exact h2 h4.symm
   exact(hset.block g (by omega) (fun e=>hgb (VN e))).trans e2
def PkIn (w:World)(a:Option Addr)(c:Nat)(ys:List Nat):Prop:=BytesIn w a ys/\(a=none->c=0)
theorem PkIn.below {w w':World}{a:Option Addr}{c:Nat}{ys:List Nat}(h:PkIn w a c ys)(hB:Below w.heap.size w w'):PkIn w' a c ys:=by
 refine⟨?_,h.2⟩
 rcases h.1 with h|⟨b,o,e,hb,hc⟩
 . exact .inl h
 . exact .inr ⟨b,o,e,VK hb hB.size,fun j hj=>(World.cell?_of_block (w:=w) (a:=⟨b,_,none⟩) (hB.block b hb)).trans (hc j hj)⟩
theorem BJ:(Tryz.prog.info? 5).map (fun i=>(i.zero,i.size,i.bytes))=some (some (.int .u8 0),1,1):=by kernel_rfl
theorem Kz (w:World)(ty:TypeId)(base:Nat)(v:Value)(xs ys:List Nat)(hown:w.ownsRow base 5 1 v xs.length (u8s xs))(ad:Option Addr)(m c:Nat)(hm:ys.length=m)(hP:PkIn w ad c ys)(hsz:xs.length+m<=140737488355328)(hbase:base<=w.heap.size):
 ∃v' w',(Builtin.append_ #[23,23] ty #[v,.slice ad m c]).run Tryz.prog w=.ok v' w'/\w'.ownsRow base 5 1 v' (xs.length+ys.length) (u8s xs++u8s ys)/\w.grownBy w' v.ownBlock:=by
 obtain⟨i0,hi,hz0,hz1,hz2⟩:=info_parts BJ;subst hm
 cases ad with
 |none=>
  have hc:c=0:=hP.2 rfl;subst hc
  have hys:ys= []:=by
   rcases hP.1 with h|⟨b,o,e,_⟩
   . exact h
   . cases e
  subst hys;have hr:=run_append_owned_none (P:=Tryz.prog) (w:=w) base 23 ty 5 i0 1 Tryz.underlying23 hi v xs.length (u8s xs) hown;exact⟨v,w,hr,by simpa using hown,Ap _ _⟩
 |some ad=>
  obtain⟨v',w',h1,h2,h3,_⟩:=run_append_own_at (P:=Tryz.prog) w base 23 ty 5 i0 (.int .u8 0) 1 1 Tryz.underlying23 hi hz0 hz1 hz2 rfl (by decide) v xs.length (u8s xs) hown ad ys.length c (u8s ys) (by simp) (by
   intro j u hj
   have hj':j<ys.length:=by
    have:=(WQ.1 hj).1
    simpa using this
   rcases hP.1 with h|⟨b,o,e,_,hB⟩
   . subst h;simp at hj'
   . cases e
     have hu:u=.int .u8 ((ys.getD j 0:Nat):Int):=by
      simp[u8s,hj']at hj
      simp[List.getD,hj',hj]
     rw[hu];have:=hB j hj'
     by_cases h0:j=0
     . subst h0;simpa[Addr.add]using this
     . simpa[Addr.add,h0]using this) (by
   intro u hu;obtain⟨x,_,rfl⟩:=WY.1 hu;rfl) (by unfold maxLen;omega) (by omega) hbase
  exact⟨v',w',h1,h2,h3⟩
theorem JT {ops:Array Oper}{o:Oper}{a:Act}{W:World}{K:Act->World->Prop}{Q:Exit->Act->World->Prop}{E:Prop}(hgd:o.guard=none)(s x:Operand)
 (ho:o.op=.call {callee:=.builtin .append,args:= #[s,x],argTypes:= #[23,23]})
 (r:World) (B b:Nat) (xs ys:List Nat) (ov:Value) (hs:a.eval s=ov) (hC:ZC B r b xs ov) (hW:r.grownBy W none) (ad:Option Addr) (m c:Nat) (hx:a.eval x=.slice ad m c) (hm:ys.length=m) (hP:PkIn W ad c ys) (hk:xs.length+m<=1000000)
 (h:∀a' l' c' w',w'.cell? ⟨b,0,none⟩=some ov->w'.frozen? ⟨b,0,none⟩=false->Hid (ZUp B r b (xs++ys) (w'.setCell ⟨b,0,none⟩ (.slice a' l' c')))->K (a.put o.dst (.slice a' l' c')) w'):
 if Region.wanted o (yielded ops a.tmps)=true then Oper.wp Tryz.prog o a W K Q else E:=by
 have hw:Region.wanted o (yielded ops a.tmps)=true:=by simp[Region.wanted,hgd]
 rw[if_pos hw];have hlt:=hC.lt;have hsz:=hW.size;obtain⟨v',w',hr,h2,h3⟩:=Kz W o.type (b+1) ov xs ys (Lg hC.own hW) ad m c hm hP (by omega) (by omega);obtain⟨c1,c2,c3⟩:=hC.put hW h3 h2;obtain⟨a',c',rfl⟩:=Ao h2;unfold Oper.wp execOp;simp only[ho,resolve,invoke,builtin,Sem.run_bind,Sem.run_pure,Result.andThen_ok,YD,WG,YB,hs,hx,hr];exact h a' _ c' w' c1 c2 (Ab c3)
theorem DI (l:List UInt8):Lib.strCells (B l)=u8s (n8 l):=by simp[Lib.strCells,B,u8s,n8,YR]
theorem JS {ops:Array Oper}{o:Oper}{a:Act}{W:World}{K:Act->World->Prop}{Q:Exit->Act->World->Prop}{E:Prop}(hgd:o.guard=none)(s x:Operand)
 (ho:o.op=.call {callee:=.builtin .append,args:= #[s,x],argTypes:= #[23,9]})
 (r:World) (Bs b:Nat) (xs:List Nat) (l:List UInt8) (ov:Value) (hs:a.eval s=ov) (hC:ZC Bs r b xs ov) (hW:r.grownBy W none) (hx:a.eval x=.string (B l)) (hk:xs.length+l.length<=1000000)
 (h:∀a' l' c' w',w'.cell? ⟨b,0,none⟩=some ov->w'.frozen? ⟨b,0,none⟩=false->Hid (ZUp Bs r b (xs++n8 l) (w'.setCell ⟨b,0,none⟩ (.slice a' l' c')))->K (a.put o.dst (.slice a' l' c')) w'):
 if Region.wanted o (yielded ops a.tmps)=true then Oper.wp Tryz.prog o a W K Q else E:=by
 have hw:Region.wanted o (yielded ops a.tmps)=true:=by simp[Region.wanted,hgd]
 rw[if_pos hw];have hlt:=hC.lt;have hsz:=hW.size;obtain⟨i0,hi,hz0,hz1,hz2⟩:=info_parts BJ;have hB:(B l).size=l.length:=by simp[B,ByteArray.size]
 obtain⟨v',w',hr,h2,h3,_⟩:=Lib.run_append_own_string (P:=Tryz.prog) W (b+1) 23 9 o.type 5 i0 Tryz.underlying23 Tryz.underlying9 hi hz0 hz1 hz2 ov xs.length (u8s xs) (Lg hC.own hW) (B l) (by rw[hB];unfold maxLen;omega) (by rw[hB];omega) (by omega);rw[hB,DI,<-Gn]at h2;obtain⟨c1,c2,c3⟩:=hC.put hW h3 h2;obtain⟨a',c',rfl⟩:=Ao h2;unfold Oper.wp execOp;simp only[ho,resolve,invoke,builtin,Sem.run_bind,Sem.run_pure,Result.andThen_ok,YD,WG,YB,hs,hx,hr];exact h a' _ c' w' c1 c2 (Ab c3)
theorem Z2l (k:Nat):256^k=2^(8*k):=by rw[Nat.pow_mul]
theorem ZC.new {B b:Nat}{w:World}{xs:List Nat}{ov:Value}(h:ZC B w b xs ov):w.cell? ⟨b,0,none⟩=some ov/\w.frozen? ⟨b,0,none⟩=false:=⟨Ac h.cell,frozen_of_row w b 0 _ _ h.cell⟩
theorem Z53 {W:World}{blk y:Nat}(h:W.cell? ⟨blk,0,none⟩=some (.int .u8 (y:Int))):PkIn W (some ⟨blk,0,none⟩) 1 [y]:=by
 refine⟨.inr ⟨blk,0,rfl, ?_, ?_⟩,fun e=>by cases e⟩
 . simp only[World.cell?]at h
   cases hb:W.heap[blk]? with
   |none=>rw[hb]at h;cases h
   |some o=>exact(VG.1 hb).1
 . intro j hj;obtain rfl:j=0:=by simpa using hj
   simpa using h
theorem Z26 (n k:Nat)(hk:k<=10)(hn:n<4294967296)(W:World):(Op.shift .shr .u32 (n:Int) .i64 (IntKind.i64.wrap (8*(k:Int)))).run Tryz.prog W=.ok (.int .u32 ((n/256^k:Nat):Int)) W:=by
 have e:IntKind.i64.wrap (8*(k:Int))=((8*k:Nat):Int):=by
  simp[IntKind.wrap,IntKind.bits,IntKind.signed]
  omega
 rw[e,Z2l];have hd:n/2^(8*k)<=n:=Nat.div_le_self _ _
 have h2:(n:Int).fdiv (2^min (8*k) 32)=((n/2^(8*k):Nat):Int):=by
  rw[Int.fdiv_eq_ediv_of_nonneg _ (by exact_mod_cast VM _)]
  by_cases h8:8*k<=32
  . rw[YC h8];push_cast;rfl
  . rw[Nat.min_eq_right (by omega)];have h3:n/2^(8*k)=0:=Nat.div_eq_of_lt (VK hn (show (4294967296:Nat)<=2^(8*k) from VV (n:=2) (i:=32) (j:=8*k) (by decide) (by omega)));rw[h3];omega
 unfold Op.shift;rw[if_neg (by omega),WL];show Result.ok (Value.int .u32 ((n:Int).fdiv (2^min (8*k) 32))) W=_
 rw[h2]
theorem Ax (B b size n:Nat)(xs:List Nat)(w:World)(h:∃ov,ZC B w b xs ov)(hs:size<=10)(hn:n<4294967296)(hx:xs.length<=900000):
 Calls Tryz.prog 85 #[.pointer (some ⟨b,0,none⟩),.int .i64 (size:Int),.int .u32 (n:Int)] w fun e w'=>e=.returned (.tuple #[])/\ZUp B w b (xs++Bd n size) w':=by
 obtain⟨ov0,h0⟩:=h;have H:=Ab h0;clear h0;go_enter Tryz.func85,Tryz.ntmps85
 go_wp2;go_loopw [8] (fun i wr=>∃k:Nat,k<=size/\i=.int .i64 (k:Int)/\Hid (ZUp B w b (xs++Bd n k) wr)) (fun i _=>size-(intOf i).toNat)
 case atStart=>exact⟨0,VM _,rfl,Ab (by simpa[Bd]using ZUp.refl (Aa H))⟩
 case round=>
  obtain⟨k,hk,rfl,hU⟩:=hrel
  by_cases hlt:k<size
  . obtain⟨ov,hC⟩:=(Aa hU).is;have hsn:=C8 k n;have hlen:=Ak k n;obtain⟨c0,f0⟩:=hC.new;have hsh:=Z26 n k (by omega) hn;obtain⟨z,hz⟩:∃z,n/256^k=z:=⟨_,rfl⟩
    rw[hz]at hsn hsh;obtain⟨y,hy⟩:∃y,z%256=y:=⟨_,rfl⟩
    rw[hy]at hsn
    have hw8:IntKind.u8.wrap (z:Int)=(y:Int):=by
     simp[IntKind.wrap,IntKind.bits,IntKind.signed]
     omega
    have c0':∀o:Obj,(wr.alloc o).cell? ⟨b,0,none⟩=some ov:=fun o=>(World.cell?_alloc_lt wr o _ hC.lt).trans c0
    have HSN:=Ab hsn;have hyl:(xs++Bd n k).length+1<=1000000:=by rw[VB,hlen];omega
    have HYL:=Ab hyl;have HC:=Ab hC;clear hC hsn hlen hyl hy hz;go_wp2;go_region_law (refine JT rfl (.tmp 15) (.tmp 21) rfl wr B b _ [y] _ rfl (Aa HC) (by repeat (first|with_reducible exact Ap _ _|with_reducible refine Bp ?_|with_reducible refine ga ?_ _)) _ 1 1 rfl rfl (Z53 (by repeat (first|with_reducible refine PE ?_|with_reducible exact L8 (by simp)|with_reducible exact PD (by simp)))) (Aa HYL) ?_;intro a' l' c' w' c1 c2 c3)
    all_goals
     have HN:Hid (ZUp B w b (xs++Bd n (k+1)) (w'.setCell ⟨b,0,none⟩ (.slice a' l' c'))):=Ab (by
      rw[Aa HSN,<-VJ];exact(Aa hU).trans (Aa c3))
     clear c1 c2 c3;go_wp2;go_roundw
     case rel=>exact⟨k+1,by omega,by go_num,HN⟩
     case measure=>simp[intOf];omega
  . obtain rfl:size=k:=by omega
    go_wp2;go_end0
    exact⟨rfl,Aa hU⟩
theorem Ha (B b size:Nat)(xs:List Nat)(w:World)(h:∃ov,ZC B w b xs ov)(hs:size<=10)(hx:xs.length<=900000):
 Calls Tryz.prog 88 #[.pointer (some ⟨b,0,none⟩),.int .i64 (size:Int)] w fun e w'=>e=.returned (.tuple #[])/\ZUp B w b (xs++Bd 0 size) w':=by
 have H:=Ab (Ax B b size 0 xs w h hs (by decide) hx);clear h;go_enter Tryz.func88,Tryz.ntmps88
 go_wp2_with fail
 refine(Aa H).mono ?_;rintro e w' ⟨rfl,hU⟩;have HU:=Ab hU;clear hU;go_wp2;go_end0
 exact⟨rfl,Aa HU⟩
end Go.Proofs.YtieianhejdcgdaaGreatDoor
