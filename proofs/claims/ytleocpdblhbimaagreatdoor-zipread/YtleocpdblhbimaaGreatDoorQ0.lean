import Derived.Test.YtleocpdblhbimaaGreatDoorQA
import Derived.Test.YtleocpdblhbimaaGreatDoorRows
import Derived.WalkKit
import Derived.ProofKit
import Derived.OpenShut
import Derived.ShutString
import Derived.ChangeOld
import Derived.Below
import Derived.BigQuiet
import Derived.BigRegion
import Derived.Deep.QuietTactic
import Derived.WalkSpells
import Derived.WalkLawsBesides
import Derived.Maps.AppendAt
import Derived.Lib.SplitLaws
import Derived.Lib.Strings
import Derived.Lib.Join
import Derived.Lib.SlTrimSet
import Derived.Lib.Bytealg
import GoSem.Op.String
set_option linter.unusedSimpArgs false
set_option maxHeartbeats 2000000
namespace Go.Proofs.YtleocpdblhbimaaGreatDoor
open Go.RowKit
theorem own:ownKnob Tryz.prog.godebug=none:=by kernel_rfl
theorem Z4t:laidOutB Tryz.prog=true:=by kernel_rfl
def Row (k:IntKind)(w:World)(b o:Nat)(xs:List Int):Prop:=∀j,j<xs.length->w.cell? ⟨b,o+j,none⟩=some (.int k (xs.getD j 0))
theorem Row.new (k:IntKind)(w:World)(xs:List Int)(t:TypeId)(A:Array Value)(b:Nat)(hb:b=w.heap.size)(hA:A=(xs.map (Value.int k)).toArray):Row k (w.alloc (.cells A t)) b 0 xs:=by
 intro j hj;rw[World.cell?_alloc_at _ _ _ _ hb,hA];simp[List.getD,hj]
theorem Row.alloc {k:IntKind}{w:World}{b o:Nat}{xs:List Int}(h:Row k w b o xs)(hb:b<w.heap.size)(x:Obj):Row k (w.alloc x) b o xs:=by
 intro j hj;rw[World.cell?_alloc_past _ _ _ hb];exact h j hj
theorem Row.below {k:IntKind}{w w':World}{B b o:Nat}{xs:List Int}(h:Row k w b o xs)(hB:Below B w w')(hb:b<B):Row k w' b o xs:=by
 intro j hj;rw[hB.cell (p:=⟨b,o+j,none⟩) hb];exact h j hj
theorem Ae {B:Nat}{a w:World}(h:Below B a w)(n:Nat):Below B a (w.drewN n):=⟨h.os,h.tape,h.output,h.size,h.block⟩
theorem Ab {p:Prop}(h:p):Hid p:=h
theorem Aa {p:Prop}(h:Hid p):p:=h
theorem Dq {a b:Bool}(h:a=b):Ending.returned (.bool a)=.returned (.bool b):=by rw[h]
theorem Dd {k:IntKind}{a b:Int}(h:a=b):Ending.returned (.int k a)=.returned (.int k b):=by rw[h]
end Go.Proofs.YtleocpdblhbimaaGreatDoor
namespace Go.Proofs.YtleocpdblhbimaaGreatDoor
open Go
set_option linter.unusedVariables false
def Ag:Nat->Nat->List Nat
 |_,0=> []
 |n,k+1=>n%256::Ag (n/256) k
def Ak:List Nat->Nat
 | []=>0
 |x::r=>x+256*Ak r
theorem Ai:∀(k n:Nat),(Ag n k).length=k
 |0,n=>rfl
 |k+1,n=>by rw[Ag,VJ,Ai k]
theorem Fi:∀(k n:Nat),∀x∈Ag n k,x<256
 |0,n,x,h=>by cases h
 |k+1,n,x,h=>by
  rw[Ag]at h
  rcases WH.1 h with rfl|h
  . omega
  . exact Fi k _ x h
theorem Cu:∀(k n:Nat),n<256^k->Ak (Ag n k)=n
 |0,n,h=>by simp at h;subst h;rfl
 |k+1,n,h=>by
  rw[Ag,Ak,Cu k (n/256) (by rw[XC]at h;omega)];omega
theorem NR:∀(l:List Nat),(∀x∈l,x<256)->Ag (Ak l) l.length=l
 | [],_=>rfl
 |x::r,h=>by
  have hx:=h x (by simp);have ih:=NR r (fun y hy=>h y (WR _ hy));rw[Ak,VJ,Ag];have e1:(x+256*Ak r)%256=x:=by omega
  have e2:(x+256*Ak r)/256=Ak r:=by omega
  rw[e1,e2,ih]
theorem Jx:∀(l:List Nat),(∀x∈l,x<256)->Ak l<256^l.length
 | [],_=>by simp[Ak]
 |x::r,h=>by
  have hx:=h x (by simp);have ih:=Jx r (fun y hy=>h y (WR _ hy));rw[Ak,VJ,XC];omega
theorem Ri:∀(k n:Nat),Ag n (k+1)=Ag n k++ [n/256^k%256]
 |0,n=>by simp[Ag]
 |k+1,n=>by
  rw[Ag,Ri k (n/256),Ag,Nat.div_div_eq_div_mul,XC,YF (256^k) 256];rfl
theorem FP {l:List Nat}{k:Nat}(h:k<l.length):Ak (l.drop k)=256*Ak (l.drop (k+1))+l.getD k 0:=by
 rw[WS h,Ak];simp[List.getD,h]
 omega
end Go.Proofs.YtleocpdblhbimaaGreatDoor
namespace Go.Proofs.YtleocpdblhbimaaGreatDoor
open Go.RowKit
set_option linter.unusedVariables false
def Bytes (w:World)(b o:Nat)(xs:List Nat):Prop:=∀j,j<xs.length->w.cell? ⟨b,o+j,none⟩=some (.int .u8 ((xs.getD j 0:Nat):Int))
abbrev u8s (xs:List Nat):List Value:=xs.map fun x:Nat=>Value.int .u8 (x:Int)
theorem Aw (w:World)(r:Option Nat):w.grownBy w r:=⟨rfl,rfl,rfl,VB _,fun _ _ _=>rfl⟩
theorem Aj {a b c:World}{r:Option Nat}(h:a.grownBy b r)(k:b.grownBy c r):a.grownBy c r:=
 ⟨k.os.trans h.os,k.tape.trans h.tape,k.output.trans h.output,VU h.size k.size,fun i hi hr=>(k.block i (VG hi h.size) hr).trans (h.block i hi hr)⟩
theorem Ad (w:World)(b j:Nat)(v:Value):w.grownBy (w.setCell ⟨b,j,none⟩ v) (some b):=⟨rfl,rfl,rfl,by simp,fun i hi hr=>Below.heap_setCell w _ v i (fun e=>hr (by rw[e]))⟩
theorem Cb {a b:World}{r:Option Nat}(h:a.grownBy b r):a.grownBy b.drew r:=⟨h.os,h.tape,h.output,h.size,h.block⟩
theorem Gz:(Tryz.prog.info? 5).map (fun i=>(i.zero,i.size,i.bytes))=some (some (.int .u8 0),1,1):=by kernel_rfl
theorem Bv:(Tryz.prog.info? 3).map (fun i=>(i.zero,i.size,i.bytes))=some (some (.int .i64 0),1,8):=by kernel_rfl
theorem Ml (p:Nat->Bool):∀n,(∀j,j<n->p j=true)\/∃j,j<n/\p j=false/\∀i,i<j->p i=true
 |0=>.inl (fun j h=>by omega)
 |n+1=>by
  rcases Ml p n with h|⟨j,h1,h2,h3⟩
  . cases hp:p n with
    |true=>exact .inl (fun j hj=>by
     by_cases e:j=n
     . rw[e];exact hp
     . exact h j (by omega))
    |false=>exact .inr ⟨n,by omega,hp,h⟩
  . exact .inr ⟨j,by omega,h2,h3⟩
def RowIn (k:IntKind)(w:World)(a:Option Addr)(xs:List Int):Prop:=xs= []\/∃b o,a=some ⟨b,o,none⟩/\b<w.heap.size/\Row k w b o xs
def BytesIn (w:World)(a:Option Addr)(xs:List Nat):Prop:=xs= []\/∃b o,a=some ⟨b,o,none⟩/\b<w.heap.size/\Bytes w b o xs
theorem Bytes.below {w w':World}{B b o:Nat}{xs:List Nat}(h:Bytes w b o xs)(hB:Below B w w')(hb:b<B):Bytes w' b o xs:=by
 intro j hj;rw[hB.cell (p:=⟨b,o+j,none⟩) hb];exact h j hj
theorem BytesIn.below {w w':World}{B:Nat}{a:Option Addr}{xs:List Nat}(h:BytesIn w a xs)(hB:Below B w w')(hb:w.heap.size<=B):BytesIn w' a xs:=by
 rcases h with h|⟨b,o,h1,h2,h3⟩
 . exact .inl h
 . exact .inr ⟨b,o,h1,VG h2 hB.size,h3.below hB (by omega)⟩
theorem BytesIn.own {w:World}{B g n cap:Nat}{xs:List Nat}(h:w.ownsRow B 5 1 (.slice (some ⟨g,0,none⟩) n cap) n (u8s xs)):BytesIn w (some ⟨g,0,none⟩) xs:=by
 refine .inr ⟨g,0,rfl,(h.lt g rfl).2, ?_⟩;intro j hj;have hn:xs.length=n:=by have:=h.1;simpa using this
 rw[WG,h.cellAt j (by omega)];simp[u8s,List.getD,hj]
abbrev i64s (xs:List Nat):List Value:=xs.map fun x:Nat=>Value.int .i64 (x:Int)
theorem CC (n:Nat):(madeCells #[Value.int .i64 0] n).toList=i64s (List.replicate n 0):=by
 rw[toList_madeCells_one];simp[i64s]
theorem BytesIn.alloc {w:World}{a:Option Addr}{xs:List Nat}(h:BytesIn w a xs)(x:Obj):BytesIn (w.alloc x) a xs:=
 h.below ((Below.refl w.heap.size w).alloc (VB _) x) (VB _)
theorem RowIn.new (k:IntKind)(w:World)(xs:List Int)(t:TypeId)(A:Array Value)(b:Nat)(hb:b=w.heap.size)(hA:A=(xs.map (Value.int k)).toArray):RowIn k (w.alloc (.cells A t)) (some ⟨b,0,none⟩) xs:=
 .inr ⟨b,0,rfl,by rw[hb];simp,Row.new k w xs t A b hb hA⟩
theorem RowIn.below {k:IntKind}{w w':World}{B:Nat}{a:Option Addr}{xs:List Int}(h:RowIn k w a xs)(hB:Below B w w')(hb:w.heap.size<=B):RowIn k w' a xs:=by
 rcases h with h|⟨b,o,h1,h2,h3⟩
 . exact .inl h
 . exact .inr ⟨b,o,h1,VG h2 hB.size,h3.below hB (by omega)⟩
theorem RowIn.alloc {k:IntKind}{w:World}{a:Option Addr}{xs:List Int}(h:RowIn k w a xs)(x:Obj):RowIn k (w.alloc x) a xs:=
 h.below ((Below.refl w.heap.size w).alloc (VB _) x) (VB _)
abbrev iv (xs:List Int):List Value:=xs.map (Value.int .i64)
theorem ga {a b:World}{r:Option Nat}(h:a.grownBy b r)(o:Obj):a.grownBy (b.alloc o) r:=Aj h (World.grownBy_alloc b o r)
theorem Z0f {w:World}{B e size n:Nat}{v:Value}{xs:List Value}(h:w.ownsRow B e size v n xs):w.drew.ownsRow B e size v n xs:=h
theorem Hv {w w':World}{B e size n:Nat}{v:Value}{xs:List Value}(h:w.ownsRow B e size v n xs)(hg:w.grownBy w' none):w'.ownsRow B e size v n xs:=
 h.kept hg (by cases hv:v.ownBlock with
  |none=>exact .inl rfl
  |some k=>exact .inr (by simp))
theorem Hq {B:Nat}{a w w':World}(h:Below B a w)(hg:w.grownBy w' none)(hB:B<=w.heap.size):Below B a w':=h.grown hg hB (fun k e=>by cases e)
theorem Lu {W:World}{b:Nat}{x u:Value}{j:Nat}(h:W.cell? ⟨b,0,none⟩=some x)(hj: [x][j]? =some u):W.cell? ((⟨b,0,none⟩:Addr).add j)=some u:=by
 match j,hj with
 |0,hj=>simp at hj;subst hj;simpa[Addr.add]using h
theorem Jo {w:World}{x:Value}{t:TypeId}{b:Nat}(hb:b=w.heap.size):(w.alloc (.cells #[x] t)).cell? ⟨b,0,none⟩=some x:=by
 rw[World.cell?_alloc_at _ _ _ _ hb];rfl
theorem QX {w:World}{x:Value}{t:TypeId}{o:Obj}{b:Nat}(hb:b=w.heap.size):((w.alloc (.cells #[x] t)).alloc o).cell? ⟨b,0,none⟩=some x:=by
 rw[World.cell?_alloc_past _ _ _ (by rw[hb];simp),World.cell?_alloc_at _ _ _ _ hb];rfl
theorem QY {w:World}{b:Nat}{v:Value}(h:w.cell? ⟨b,0,none⟩=some v):w.drew.cell? ⟨b,0,none⟩=some v:=h
theorem Bc {x:Value}(h:x.oneCell'=true):∀u∈ [x],u.oneCell'=true:=by
 intro u hu;simp at hu;subst hu;exact h
theorem RowIn.iv {w:World}{B g n cap:Nat}{xs:List Int}(h:w.ownsRow B 3 1 (.slice (some ⟨g,0,none⟩) n cap) n (iv xs)):RowIn .i64 w (some ⟨g,0,none⟩) xs:=by
 refine .inr ⟨g,0,rfl,(h.lt g rfl).2, ?_⟩;intro j hj;have hn:xs.length=n:=by have:=h.1;simpa using this
 rw[WG,h.cellAt j (by omega)];simp[List.getD,hj]
theorem Ac {w:World}{b i:Nat}{cs:Array Value}{t:TypeId}(h:w.heap[b]? =some (.cells cs t (0,0))):w.cell? ⟨b,i,none⟩=cs[i]? :=cell_of_row w b i _ _ _ h
def Kp (No:Nat->Prop)(w w':World):Prop:=∀g,g<w.heap.size->No g->w'.heap[g]? =w.heap[g]?
theorem Kp.refl (No:Nat->Prop)(w:World):Kp No w w:=fun _ _ _=>rfl
theorem Kp.trans {No:Nat->Prop}{a b c:World}(h:Kp No a b)(k:Kp No b c)(hs:a.heap.size<=b.heap.size):Kp No a c:=fun g hg hn=>(k g (by omega) hn).trans (h g hg hn)
theorem Kp.grown {No:Nat->Prop}{a w w':World}{r:Option Nat}(h:Kp No a w)(hg:w.grownBy w' r)(hs:a.heap.size<=w.heap.size)(hr:∀j,r=some j->¬No j):Kp No a w':=by
 intro g h1 h2;rw[hg.block g (by omega) (fun e=>hr g e.symm h2)];exact h g h1 h2
theorem Bytes.grown {w w':World}{b o:Nat}{xs:List Nat}{r:Option Nat}(h:Bytes w b o xs)(hg:w.grownBy w' r)(hr:some b≠r):Bytes w' b o xs:=fun j hj=>hg.cell (h j hj) hr
theorem Kp.weaken {No No':Nat->Prop}{w w':World}(h:Kp No' w w')(hn:∀g,No g->No' g):Kp No w w':=fun g h1 h2=>h g h1 (hn g h2)
theorem Au {w w':World}{B e size n:Nat}{v:Value}{xs:List Value}(h:w.ownsRow B e size v n xs)(hk:∀g,v.ownBlock=some g->w'.heap[g]? =w.heap[g]?):w'.ownsRow B e size v n xs:=by
 refine⟨h.1, ?_⟩
 rcases h.2 with h1|⟨g,cap,cur,h1,h2,h3,h4⟩
 . exact .inl h1
 . exact .inr ⟨g,cap,cur,h1,h2,(hk g (by rw[h1];rfl)).trans h3,h4⟩
theorem Pa {w:World}{B B' e size n:Nat}{v:Value}{xs:List Value}(h:w.ownsRow B e size v n xs)(hB:B'<=B):w.ownsRow B' e size v n xs:=by
 refine⟨h.1, ?_⟩
 rcases h.2 with h1|⟨g,cap,cur,h1,h2,h3⟩
 . exact .inl h1
 . exact .inr ⟨g,cap,cur,h1,VU hB h2,h3⟩
theorem Ba {w:World}{B e size n:Nat}{v:Value}{xs:List Value}(h:w.ownsRow B e size v n xs)(hn:0<n):∃g cap,v=.slice (some ⟨g,0,none⟩) n cap/\B<=g/\g<w.heap.size:=by
 rcases h.2 with ⟨h1,h2⟩|⟨g,cap,cur,h1,h2,h3⟩
 . omega
 . exact⟨g,cap,h1,h2,(h.lt g (by rw[h1];rfl)).2⟩
theorem Wx (xs:List Nat)(y:Nat):u8s (xs++ [y])=u8s xs++ [.int .u8 (y:Int)]:=by simp[u8s]
theorem Dz {w:World}{a:Option Addr}{bs:List Nat}(h:BytesIn w a bs)(hp:0<bs.length):∃b o,a=some ⟨b,o,none⟩/\b<w.heap.size/\Bytes w b o bs:=by
 rcases h with rfl|h
 . simp at hp
 . exact h
theorem BytesIn.ofOwn {w:World}{B n:Nat}{v:Value}{xs:List Nat}(h:w.ownsRow B 5 1 v n (u8s xs)):xs.length=n/\∃a c,v=.slice a n c/\BytesIn w a xs:=by
 have hn:xs.length=n:=by have:=h.1;simpa using this
 refine⟨hn, ?_⟩
 rcases h.2 with ⟨h1,h2⟩|⟨g,cap,cur,h1,_⟩
 . subst h2;exact⟨none,0,h1,.inl (WV hn)⟩
 . subst h1;exact⟨_,_,rfl,BytesIn.own h⟩
theorem An {w:World}{B e size n:Nat}{v:Value}{xs:List Value}(h:w.ownsRow B e size v n xs):∃a c,v=.slice a n c:=by
 rcases h.2 with ⟨h1,h2⟩|⟨g,cap,cur,h1,_⟩
 . subst h2;exact⟨none,0,h1⟩
 . exact⟨_,_,h1⟩
end Go.Proofs.YtleocpdblhbimaaGreatDoor
namespace Go.Proofs.YtleocpdblhbimaaGreatDoor
open Go.RowKit
set_option linter.unusedVariables false
set_option maxRecDepth 100000
theorem Z4q (n size:Nat)(w:World)(hn:n<=9223372036854775807)(hs:size<=100):
 Calls Tryz.prog 62 #[.int .i64 (n:Int),.int .i64 (size:Int)] w fun e w'=>∃v,e=.returned v/\w'.ownsRow w.heap.size 5 1 v size (u8s (Ag n size))/\Below w.heap.size w w':=by
 obtain⟨i0,hi,hz0,hz1,hz2⟩:=info_parts Gz;go_enter Tryz.func62,Tryz.ntmps62
 go_wp2;go_loopw [0,5,7] (fun v0 v5 i wr=>∃k:Nat,k<=size/\i=.int .i64 (k:Int)/\v0=.int .i64 ((n/256^k:Nat):Int)/\Hid (wr.ownsRow w.heap.size 5 1 v5 k (u8s (Ag n k))/\Below w.heap.size w wr)) (fun _ _ i _=>size-(intOf i).toNat)
 case atStart=>exact⟨0,VH _,rfl,by simp,World.ownsRow_nil _ _ _ _,Below.refl _ _⟩
 case round=>
  obtain⟨k,hk,rfl,rfl,HS⟩:=hrel
  by_cases hlt:k<size
  . obtain⟨q,hq⟩:∃q,n/256^k=q:=⟨_,rfl⟩
    have hqn:q<=n:=by rw[<-hq];exact YO _ _
    have hnx:n/256^(k+1)=q/256:=by rw[XC,<-Nat.div_div_eq_div_mul,hq]
    have hsn:=Ri k n;rw[hq]at hsn ⊢;have HNX:=Ab hnx;have HSN:=Ab hsn;have hz:=(Aa HS).2.size;have hr:((q:Int)).tmod 256=((q%256:Nat):Int):=by rw[Int.tmod_eq_emod_of_nonneg (by omega)];omega
    have hd:((q:Int)).tdiv 256=((q/256:Nat):Int):=by rw[Int.tdiv_eq_ediv_of_nonneg (by omega)];omega
    have hw:IntKind.u8.wrap ((q%256:Nat):Int)=((q%256:Nat):Int):=by
     simp[IntKind.wrap,IntKind.bits,IntKind.signed]
     try omega
    have HO:=Ab ((Aa HS).1.alloc (.cells #[.int .u8 ((q%256:Nat):Int)] 5));have HB:=Ab ((Aa HS).2.alloc hz (.cells #[.int .u8 ((q%256:Nat):Int)] 5));have HC:=Ab (Jo (w:=wr) (x:=.int .u8 ((q%256:Nat):Int)) (t:=5) rfl);clear hq hnx hsn;go_wp2_with (at_builtin;refine wpList_append_own_at _ rfl _ _ 23 rfl w.heap.size 5 i0 (.int .u8 0) 1 1 Tryz.underlying23 hi hz0 hz1 hz2 rfl (by decide) _ k (u8s (Ag n k)) rfl (Aa HO) ⟨wr.heap.size,0,none⟩ 1 1 [.int .u8 ((q%256:Nat):Int)] rfl rfl (fun j u hj=>Lu (Aa HC) hj) (Bc rfl) (by unfold maxLen;omega) (by omega) (by simp;omega) ?_)
    intro v' w3 hO3 hg3 _ _;have HB3:=Ab ((Aa HB).grown hg3 (by simp;omega) (fun g e=>((Aa HS).1.lt g e).1))
    have HO3:Hid (w3.ownsRow w.heap.size 5 1 v' (k+1) (u8s (Ag n (k+1)))):=by
     rw[Aa HSN,Wx];exact hO3
    clear hO3 hg3;go_wp2;go_roundw
    case rel=>exact⟨k+1,by omega,by go_num,by rw[Aa HNX,Int.natCast_ediv];rfl,Aa HO3,Aa HB3⟩
    case measure=>simp[intOf];omega
  . obtain rfl:size=k:=by omega
    go_wp2;go_ret;exact⟨_,rfl,(Aa HS).1,(Aa HS).2⟩
theorem NE (a:Option Addr)(n c:Nat)(bs:List Nat)(w:World)(hl:bs.length=n)(hn:n<=7)(h:BytesIn w a bs)(hv:∀x∈bs,x<256):
 Calls Tryz.prog 38 #[.slice a n c] w fun e w'=>e=.returned (.int .i64 ((Ak bs:Nat):Int))/\w'=w:=by
 have HB:=Ab h;have HL:=Ab hl
 have hbd:∀k,1<=k->k<=n->Ak (bs.drop k)<256^6:=by
  intro k hk1 hk;have h1:=Jx (bs.drop k) (fun x hx=>hv x (VW hx));refine VG h1 (VO (by decide) ?_);rw[VQ];omega
 have HBD:=Ab hbd;have hst:∀k,k<n->Ak (bs.drop k)=256*Ak (bs.drop (k+1))+bs.getD k 0:=fun k hk=>FP (by omega)
 have HST:=Ab hst
 have hv2:∀k,bs.getD k 0<256:=by
  intro k
  by_cases hk:k<bs.length
  . have e:bs.getD k 0=bs[k]:=by simp[List.getD,hk]
    rw[e];exact hv _ (WK hk)
  . simp[List.getD,hk]
 have HV2:=Ab hv2;clear h hl hbd hst hv hv2;go_enter Tryz.func38,Tryz.ntmps38
 go_wp2;go_loopw [3,4] (fun v3 v4 wr=>∃k:Nat,k<=n/\v4=.int .i64 ((k:Int)-1)/\v3=.int .i64 ((Ak (bs.drop k):Nat):Int)/\Hid (wr=w)) (fun _ v4 _=>(intOf v4+1).toNat)
 case atStart=>exact⟨n,VB _,rfl,by rw[XQ (by rw[Aa HL];exact VB _)];rfl,Ab rfl⟩
 case round=>
  obtain⟨k,hk,rfl,rfl,hwr⟩:=hrel;have hwr':wr=w:=Aa hwr;subst hwr';clear hwr
  cases k with
  |zero=>
   go_wp2;go_ret;exact⟨rfl,rfl⟩
  |succ j=>
   obtain⟨b,o,rfl,hb,hB⟩:=Dz (Aa HB) (by rw[Aa HL];omega);have hc:=hB j (by rw[Aa HL];omega);have hstep:=Aa HST j (by omega);have hbnd:=Aa HBD (j+1) (by omega) hk;have hbj:=Aa HV2 j;have HSTP:=Ab hstep;obtain⟨q,hq⟩:∃q,Ak (bs.drop (j+1))=q:=⟨_,rfl⟩
   obtain⟨y,hy⟩:∃y,bs.getD j 0=y:=⟨_,rfl⟩
   rw[hq,hy]at HSTP;rw[hq]at hbnd ⊢;rw[hy]at hc hbj;clear hq hy hstep hB;have hj1:((j+1:Nat):Int)-1=(j:Int):=by omega
   rw[hj1];have hjn:(j:Int)<(n:Int):=by omega
   simp only[Nat.reducePow]at hbnd;go_wp2;go_roundw
   case rel=>exact⟨j,by omega,by go_num,by rw[Aa HSTP];go_num,by first|exact Ab rfl|exact Ab trivial⟩
   case measure=>simp[intOf]
end Go.Proofs.YtleocpdblhbimaaGreatDoor
namespace Go.Proofs.YtleocpdblhbimaaGreatDoor
open Go
set_option linter.unusedVariables false
def B (l:List UInt8):ByteArray:=⟨l.toArray⟩
theorem DZ (s:ByteArray):B s.data.toList=s:=by cases s;rfl
theorem QE (l:List UInt8):(B l).data.toList=l:=rfl
theorem Im (l:List UInt8):(B l).size=l.length:=by simp[B,ByteArray.size]
theorem Z00 (s:ByteArray):s.size=s.data.toList.length:=(Array.length_toList).symm
def spl:List UInt8->List (List UInt8)
 | []=> [[]]
 |c::r=>if c=47 then []::spl r else
  match spl r with
  | []=> [[c]]
  |p::ps=>(c::p)::ps
theorem Z2f (l:List UInt8):spl l≠ []:=by
 cases l with
 |nil=>simp[spl]
 |cons c r=>
  simp only[spl]
  split
  . simp
  . split<;>simp
theorem Hs {c:UInt8}{r:List UInt8}(h:c≠47):∃p ps,spl r=p::ps/\spl (c::r)=(c::p)::ps:=by
 cases hs:spl r with
 |nil=>exact absurd hs (Z2f r)
 |cons p ps=>exact⟨p,ps,rfl,by simp[spl,h,hs]⟩
def jn (ps:List (List UInt8)):List UInt8:=Lib.join ps [47]
theorem Z2s (p:List UInt8):jn [p]=p:=Lib.join_one _ _
theorem Z2r (p q:List UInt8)(r:List (List UInt8)):jn (p::q::r)=p++47::jn (q::r):=by
 unfold jn;rw[Lib.join_cons,Lib.join_cons];simp[Lib.joinTail]
theorem Z6y:∀l:List UInt8,jn (spl l)=l
 | []=>by simp[spl,Z2s]
 |c::r=>by
  have ih:=Z6y r
  by_cases h:c=47
  . subst h
    cases hs:spl r with
    |nil=>exact absurd hs (Z2f r)
    |cons p ps=>
     rw[show spl (47::r)= []::spl r from by simp[spl],hs,Z2r,<-hs,ih];rfl
  . obtain⟨p,ps,h1,h2⟩:=Hs (r:=r) h;rw[h2];rw[h1]at ih
    cases ps with
    |nil=>rw[Z2s]at ih ⊢;rw[ih]
    |cons q ps=>rw[Z2r]at ih ⊢;rw[<-ih];simp
theorem LQ (l:List UInt8):(spl l).length=l.count 47+1:=by
 induction l with
 |nil=>simp[spl]
 |cons c r ih=>
  by_cases h:c=47
  . subst h;simp[spl,ih]
  . obtain⟨p,ps,h1,h2⟩:=Hs (r:=r) h;rw[h2,List.count_cons_of_ne (by simpa using h),<-ih,h1];simp
theorem Z2g (l:List UInt8):∀p∈spl l,p.length<=l.length:=by
 induction l with
 |nil=>intro p hp;simp[spl]at hp;subst hp;simp
 |cons c r ih=>
  by_cases h:c=47
  . subst h;intro p hp;rw[show spl (47::r)= []::spl r from by simp[spl]]at hp
    rcases WH.1 hp with h1|h1
    . subst h1;simp
    . have:=ih p h1;simp;omega
  . obtain⟨q,qs,h1,h2⟩:=Hs (r:=r) h;intro p hp;rw[h2]at hp
    rcases WH.1 hp with h3|h3
    . subst h3;have:=ih q (by rw[h1];simp)
      simp;omega
    . have:=ih p (by rw[h1];simp[h3]);simp;omega
theorem Uu:∀(l:List UInt8),Lib.splitK [47] 0 (Lib.count l [47]) l=spl l
 | []=>by
  rw[Lib.count_one];simp[spl,Lib.splitK]
 |c::r=>by
  have ih:=Uu r
  by_cases h:c=47
  . subst h;rw[Lib.count_cons_eq,Nat.add_comm];have hix:Lib.index (47::r) [47]=0:=by rw[Lib.index];simp[List.isPrefixOf]
    rw[Lib.splitK,hix];simp[spl,ih]
  . rw[Lib.count_cons_ne _ _ _ h];obtain⟨p,ps,h1,h2⟩:=Hs (r:=r) h;rw[h2]
    have hix:Lib.index (c::r) [47]=if Lib.index r [47]== -1 then-1 else Lib.index r [47]+1:=by
     rw[Lib.index];have hp:([47]:List UInt8).isPrefixOf (c::r)=false:=by simp[List.isPrefixOf,Ne.symm h]
     rw[hp];simp
    rw[h1]at ih
    cases hk:Lib.count r [47]with
    |zero=>
     rw[hk]at ih;simp only[Lib.splitK]at ih ⊢
     injection ih with i1 i2
     rw[i1,<-i2]
    |succ k=>
     rw[hk]at ih;simp only[Lib.splitK]at ih ⊢
     by_cases hm:Lib.index r [47]= -1
     . rw[if_pos (by rw[hix,if_pos (by simp[hm])];rfl)];rw[if_pos (by simp[hm])]at ih
       injection ih with i1 i2
       rw[i1,<-i2]
     . have hge:=Lib.index_ge r [47];obtain⟨j,hj⟩:∃j:Nat,Lib.index r [47]=j:=⟨(Lib.index r [47]).toNat,by omega⟩
       have hix':Lib.index (c::r) [47]=((j+1:Nat):Int):=by rw[hix,if_neg (by simp[hm]),hj];omega
       rw[hj]at ih;rw[hix'];rw[if_neg (by simp)]at ih;rw[if_neg (by simp;omega)]
       injection ih with i1 i2
       simp only[WM,XN,XU]at i1 ⊢;rw[i1]
       congr 1
theorem EZ (s:ByteArray):Lib.splitB ⟨#[47]⟩ 0 (Lib.countB s ⟨#[47]⟩) s=(spl s.data.toList).map B:=by
 have h:=Lib.splitB_data ⟨#[47]⟩ 0 (Lib.countB s ⟨#[47]⟩) s;have h2:Lib.countB s ⟨#[47]⟩=Lib.count s.data.toList [47]:=rfl;have h3:(⟨#[47]⟩:ByteArray).data.toList= [47]:=rfl;rw[h2,h3,Uu]at h;rw[h2,<-h,ZU];have:(B ∘ fun x:ByteArray=>x.data.toList)=id:=by funext x;exact DZ x
 rw[this,List.map_id]
theorem IP (s:ByteArray):Lib.countB s ⟨#[47]⟩+1=(spl s.data.toList).length:=by
 rw[LQ];have h2:Lib.countB s ⟨#[47]⟩=Lib.count s.data.toList [47]:=rfl;rw[h2,Lib.count_one]
def okB (c:UInt8):Bool:=(97<=c&&c<=122)||(65<=c&&c<=90)||(48<=c&&c<=57)||c==46||c==95||c==45
def okP (p:List UInt8):Bool:=p != []&&p != [46]&&p != [46,46]&&p.all okB
def Kg (l:List UInt8):Nat:=if 40<l.length then 2 else if (spl l).all okP then 0 else 1
theorem Z57 {l:List UInt8}(h:Kg l=0):l.length<=40/\(spl l).all okP=true:=by
 unfold Kg at h
 split at h
 . omega
 . split at h
   . exact⟨by omega,by assumption⟩
   . omega
theorem PV {l:List UInt8}(h:l.length<=40)(h2:(spl l).all okP=true):Kg l=0:=by
 unfold Kg;rw[if_neg (by omega),if_pos h2]
def Ho:List UInt8:= [97,98,99,100,101,102,103,104,105,106,107,108,109,110,111,112,113,114,115,116,117,118,119,120,121,122,65,66,67,68,69,70,71,72,73,74,75,76,77,78,79,80,81,82,83,84,85,86,87,88,89,90,48,49,50,51,52,53,54,55,56,57,46,95,45]
theorem Z4f:∀c:UInt8,Ho.contains c=okB c:=by
 have h:∀n:Fin 256,Ho.contains (UInt8.ofNat n.val)=okB (UInt8.ofNat n.val):=by decide+kernel
 intro c;have:=h ⟨c.toNat,c.toNat_lt⟩
 simpa using this
theorem PZ {f:UInt8->Bool}{l:List UInt8}:l.dropWhile f= []↔∀x∈l,f x=true:=by
 induction l with
 |nil=>simp
 |cons c r ih=>
  rw[List.dropWhile_cons]
  split
  . rename_i h;rw[ih];simp[h]
  . rename_i h;simp[h]
theorem TH {l:List UInt8}:Lib.trimS l Ho= []↔l.all okB=true:=by
 have e:(fun b=>Ho.contains b)=okB:=by funext c;exact Z4f c
 unfold Lib.trimS Lib.trimLeftS Lib.trimRightS;rw[e]
 constructor
 . intro h;rw[PZ]at h
   have h2:l.reverse.dropWhile okB= []:=by
    cases hd:l.reverse.dropWhile okB with
    |nil=>rfl
    |cons x xs=>
     have hx:¬okB x=true:=by
      have:=List.head_dropWhile_not okB (l:=l.reverse) (by rw[hd];simp)
      simpa[hd]using this
     exact absurd (h x (by rw[hd];simp)) hx
   rw[PZ]at h2;rw[WX];intro x hx;exact h2 x (by simpa using hx)
 . intro h
   have h2:l.reverse.dropWhile okB= []:=by
    rw[PZ];intro x hx;exact WX.1 h x (by simpa using hx)
   rw[h2];rfl
structure Fl where
 name:List UInt8
 bytes:List UInt8
 stamp:Int
 node:Int
 gone:Bool
deriving DecidableEq
abbrev Pq (a b:List UInt8):Int:=Lib.compareBytes a b
theorem Hp (a b:UInt8)(x y:List UInt8):Pq (a::x) (b::y)=if a<b then-1 else if b<a then 1 else Pq x y:=rfl
theorem TD (a b:UInt8):(a<b)=(a.toNat<b.toNat):=by rw[UInt8.lt_iff_toNat_lt]
theorem Z61 {a b:UInt8}(h1:¬a<b)(h2:¬b<a):a=b:=by
 rw[TD]at h1 h2;exact UInt8.toNat_inj.1 (by omega)
theorem O0:∀a:List UInt8,Pq a a=0
 | []=>rfl
 |a::x=>by
  rw[Hp,if_neg (by rw[TD];omega),if_neg (by rw[TD];omega)];exact O0 x
theorem QR:∀ {a b:List UInt8},Pq a b=0->a=b
 | [],[],_=>rfl
 | [],_::_,h=>by cases h
 |_::_,[],h=>by cases h
 |a::x,b::y,h=>by
  rw[Hp]at h
  split at h
  . cases h
  . split at h
    . cases h
    . rename_i h1 h2
      rw[Z61 h1 h2,QR h]
theorem QQ {a b:List UInt8}:Pq a b=0↔a=b:=⟨QR,fun h=>by rw[h,O0]⟩
theorem Kd:∀a b:List UInt8,Pq a b= -1\/Pq a b=0\/Pq a b=1
 | [],[]=>.inr (.inl rfl)
 | [],_::_=>.inl rfl
 |_::_,[]=>.inr (.inr rfl)
 |a::x,b::y=>by
  rw[Hp]
  split
  . exact .inl rfl
  . split
    . exact .inr (.inr rfl)
    . exact Kd x y
theorem Su:∀a b:List UInt8,Pq b a= -Pq a b
 | [],[]=>rfl
 | [],_::_=>rfl
 |_::_,[]=>rfl
 |a::x,b::y=>by
  rw[Hp,Hp]
  by_cases h1:a<b
  . have h2:¬b<a:=by rw[TD]at h1 ⊢;omega
    rw[if_neg h2,if_pos h1,if_pos h1];rfl
  . by_cases h2:b<a
    . rw[if_pos h2,if_neg h1,if_pos h2]
    . rw[if_neg h2,if_neg h1,if_neg h1,if_neg h2];exact Su x y
theorem CG:∀a b:List UInt8,Op.bytesLess a b=decide (Pq a b<0)
 | [],[]=>rfl
 | [],_::_=>rfl
 |_::_,[]=>rfl
 |a::x,b::y=>by
  show (decide (a<b)||(a==b&&Op.bytesLess x y))=_
  rw[Hp,CG x y]
  by_cases h1:a<b
  . simp[h1]
  . rw[if_neg h1]
    by_cases h2:b<a
    . have:(a==b)=false:=by
       rw[beq_eq_false_iff_ne];rintro rfl;exact h1 h2
      rw[if_pos h2,this];simp[h1]
    . have:=Z61 h1 h2
      subst this;rw[if_neg h2];simp[h1]
def Mq (f:Fl):Nat:=
 if Kg f.name≠0 then Kg f.name else if 3000<f.bytes.length then 2 else if f.stamp<0\/1000000<f.stamp\/f.node<0\/3<f.node then 3
 else if f.gone=true/\0<f.bytes.length then 4 else 0
def behind:Option Fl->Fl->Bool
 |none,_=>true
 |some x,f=>decide (Pq x.name f.name<0)
def DH:Option Fl->List Fl->Nat
 |_,[]=>0
 |p,f::r=>if Mq f≠0 then Mq f else if behind p f=false then 4 else DH (some f) r
def errM (l:List Fl):Nat:=if 12<l.length then 2 else DH none l
end Go.Proofs.YtleocpdblhbimaaGreatDoor
