import Derived.Test.YtleocpdblhbimaaGreatDoorQA
import Derived.Test.YtleocpdblhbimaaGreatDoorRows
import Derived.WalkKit
import Derived.ProofKit
import Derived.OpenShut
import Derived.ShutString
import Derived.ChangeOld
import Derived.Below
import Derived.BigQuiet
import Derived.BigRegion
import Derived.Deep.QuietTactic
import Derived.WalkSpells
import Derived.WalkLawsBesides
import Derived.Maps.AppendAt
import Derived.Lib.SplitLaws
import Derived.Lib.Strings
import Derived.Lib.Join
import Derived.Lib.SlTrimSet
import Derived.Lib.Bytealg
import GoSem.Op.String
set_option linter.unusedSimpArgs false
set_option linter.unusedVariables false
set_option maxRecDepth 100000
set_option maxHeartbeats 2000000
namespace Go.Proofs.YtleocpdblhbimaaGreatDoor
open Go.RowKit
theorem own:ownKnob Tryz.prog.godebug=none:=by kernel_rfl
theorem Z4t:laidOutB Tryz.prog=true:=by kernel_rfl
def Row (k:IntKind)(w:World)(b o:Nat)(xs:List Int):Prop:=∀j,j<xs.length->w.cell? ⟨b,o+j,none⟩=some (.int k (xs.getD j 0))
theorem Row.new (k:IntKind)(w:World)(xs:List Int)(t:TypeId)(E:Array Value)(b:Nat)(H:b=w.heap.size)(G:E=(xs.map (Value.int k)).toArray):Row k (w.alloc (.cells E t)) b 0 xs:=by intro j F;rw[World.cell?_alloc_at _ _ _ _ H,G];simp[List.getD,F]
theorem Row.alloc {k:IntKind}{w:World}{b o:Nat}{xs:List Int}(F:Row k w b o xs)(G:b<w.heap.size)(x:Obj):Row k (w.alloc x) b o xs:=by intro j E;rw[World.cell?_alloc_past _ _ _ G];exact F j E
theorem Row.below {k:IntKind}{w w':World}{B b o:Nat}{xs:List Int}(G:Row k w b o xs)(E:Below B w w')(H:b<B):Row k w' b o xs:=by intro j F;rw[E.cell (p:=⟨b,o+j,none⟩) H];exact G j F
theorem Ae {B:Nat}{a w:World}(E:Below B a w)(n:Nat):Below B a (w.drewN n):=⟨E.os,E.tape,E.output,E.size,E.block⟩
theorem Ab {p:Prop}(E:p):Hid p:=E
theorem Aa {p:Prop}(E:Hid p):p:=E
theorem Dq {a b:Bool}(E:a=b):Ending.returned (.bool a)=.returned (.bool b):=by rw[E]
theorem Dd {k:IntKind}{a b:Int}(E:a=b):Ending.returned (.int k a)=.returned (.int k b):=by rw[E]
theorem oR {p:Prop}(E:p:=by kernel_rfl):p:=E
theorem ou {p:Prop}(E:p:=by unfold maxLen;omega):p:=E
theorem oh {q p:Prop}(F:Hid q)(E:q->p:=by omega):p:=E (Aa F)
theorem oI {q p:Prop}(F:q)(E:q->p:=by omega):p:=E F
open Go
def Ag:Nat->Nat->List Nat
 |_,0=> []
 |n,k+1=>n%256::Ag (n/256) k
def Ak:List Nat->Nat
 | []=>0
 |x::r=>x+256*Ak r
theorem Ai:∀(k n:Nat),(Ag n k).length=k
 |0,n=>rfl
 |k+1,n=>by rw[Ag,VJ,Ai k]
theorem Fi:∀(k n:Nat),∀x∈Ag n k,x<256
 |0,n,x,h=>by cases h
 |k+1,n,x,h=>by rw[Ag]at h;rcases WH.1 h with rfl|h;omega;exact Fi k _ x h
theorem Cu:∀(k n:Nat),n<256^k->Ak (Ag n k)=n
 |0,n,h=>by simp at h;subst h;rfl
 |k+1,n,h=>by rw[Ag,Ak,Cu k (n/256) (by rw[XC]at h;omega)];omega
theorem NR:∀(l:List Nat),(∀x∈l,x<256)->Ag (Ak l) l.length=l
 | [],_=>rfl
 |x::r,h=>by have G:=h x oS;have ih:=NR r (fun y F=>h y (WR _ F));rw[Ak,VJ,Ag];have E:(x+256*Ak r)%256=x:=om;have e2:(x+256*Ak r)/256=Ak r:=om;rw[E,e2,ih]
theorem Jx:∀(l:List Nat),(∀x∈l,x<256)->Ak l<256^l.length
 | [],_=>by simp[Ak]
 |x::r,h=>by have F:=h x oS;have ih:=Jx r (fun y E=>h y (WR _ E));rw[Ak,VJ,XC];omega
theorem Ri:∀(k n:Nat),Ag n (k+1)=Ag n k++ [n/256^k%256]
 |0,n=>by simp[Ag]
 |k+1,n=>by rw[Ag,Ri k (n/256),Ag,Nat.div_div_eq_div_mul,XC,YF (256^k) 256];rfl
theorem FP {l:List Nat}{k:Nat}(E:k<l.length):Ak (l.drop k)=256*Ak (l.drop (k+1))+l.getD k 0:=by rw[WS E,Ak];simp[List.getD,E];omega
def Bytes (w:World)(b o:Nat)(xs:List Nat):Prop:=∀j,j<xs.length->w.cell? ⟨b,o+j,none⟩=some (.int .u8 ((xs.getD j 0:Nat):Int))
abbrev u8s (xs:List Nat):List Value:=xs.map fun x:Nat=>Value.int .u8 (x:Int)
theorem Aw (w:World)(r:Option Nat):w.grownBy w r:=⟨rfl,rfl,rfl,VB _,fun _ _ _=>rfl⟩
theorem Aj {a b c:World}{r:Option Nat}(E:a.grownBy b r)(k:b.grownBy c r):a.grownBy c r:=
 ⟨k.os.trans E.os,k.tape.trans E.tape,k.output.trans E.output,VU E.size k.size,fun i hi hr=>(k.block i (VG hi E.size) hr).trans (E.block i hi hr)⟩
theorem Ad (w:World)(b j:Nat)(v:Value):w.grownBy (w.setCell ⟨b,j,none⟩ v) (some b):=⟨rfl,rfl,rfl,oS,fun i hi hr=>Below.heap_setCell w _ v i (fun e=>hr (by rw[e]))⟩
theorem Cb {a b:World}{r:Option Nat}(E:a.grownBy b r):a.grownBy b.drew r:=⟨E.os,E.tape,E.output,E.size,E.block⟩
theorem Gz:(Tryz.prog.info? 5).map (fun i=>(i.zero,i.size,i.bytes))=some (some (.int .u8 0),1,1):=oR
theorem Bv:(Tryz.prog.info? 3).map (fun i=>(i.zero,i.size,i.bytes))=some (some (.int .i64 0),1,8):=oR
theorem Ml (p:Nat->Bool):∀n,(∀j,j<n->p j=true)\/∃j,j<n/\p j=false/\∀i,i<j->p i=true
 |0=>.inl (fun j h=>om)
 |n+1=>by
  rcases Ml p n with h|⟨j,H,F,G⟩
  . cases E:p n with
    |true=>exact .inl (fun j I=>by
     by_cases e:j=n
     . rw[e];exact E
     . exact h j om)
    |false=>exact .inr ⟨n,om,E,h⟩
  exact .inr ⟨j,om,F,G⟩
def RowIn (k:IntKind)(w:World)(a:Option Addr)(xs:List Int):Prop:=xs= []\/∃b o,a=some ⟨b,o,none⟩/\b<w.heap.size/\Row k w b o xs
def BytesIn (w:World)(a:Option Addr)(xs:List Nat):Prop:=xs= []\/∃b o,a=some ⟨b,o,none⟩/\b<w.heap.size/\Bytes w b o xs
theorem Bytes.below {w w':World}{B b o:Nat}{xs:List Nat}(G:Bytes w b o xs)(E:Below B w w')(H:b<B):Bytes w' b o xs:=by intro j F;rw[E.cell (p:=⟨b,o+j,none⟩) H];exact G j F
theorem BytesIn.below {w w':World}{B:Nat}{a:Option Addr}{xs:List Nat}(E:BytesIn w a xs)(F:Below B w w')(M:w.heap.size<=B):BytesIn w' a xs:=by rcases E with E|⟨b,o,I,G,H⟩;exact .inl E;exact .inr ⟨b,o,I,VG G F.size,H.below F om⟩
theorem BytesIn.own {w:World}{B E n H:Nat}{xs:List Nat}(F:w.ownsRow B 5 1 (.slice (some ⟨E,0,none⟩) n H) n (u8s xs)):BytesIn w (some ⟨E,0,none⟩) xs:=by refine .inr ⟨E,0,rfl,(F.lt E rfl).2, ?_⟩;intro j G;(have hn:xs.length=n:=by have:=F.1;simpa using this);rw[WG,F.cellAt j om];simp[u8s,List.getD,G]
abbrev i64s (xs:List Nat):List Value:=xs.map fun x:Nat=>Value.int .i64 (x:Int)
theorem CC (n:Nat):(madeCells #[Value.int .i64 0] n).toList=i64s (List.replicate n 0):=by rw[toList_madeCells_one];simp[i64s]
theorem BytesIn.alloc {w:World}{a:Option Addr}{xs:List Nat}(E:BytesIn w a xs)(x:Obj):BytesIn (w.alloc x) a xs:=
 E.below ((Below.refl w.heap.size w).alloc (VB _) x) (VB _)
theorem RowIn.new (k:IntKind)(w:World)(xs:List Int)(t:TypeId)(E:Array Value)(b:Nat)(F:b=w.heap.size)(G:E=(xs.map (Value.int k)).toArray):RowIn k (w.alloc (.cells E t)) (some ⟨b,0,none⟩) xs:=
 .inr ⟨b,0,rfl,by rw[F];simp,Row.new k w xs t E b F G⟩
theorem RowIn.below {k:IntKind}{w w':World}{B:Nat}{a:Option Addr}{xs:List Int}(E:RowIn k w a xs)(F:Below B w w')(M:w.heap.size<=B):RowIn k w' a xs:=by rcases E with E|⟨b,o,I,G,H⟩;exact .inl E;exact .inr ⟨b,o,I,VG G F.size,H.below F om⟩
theorem RowIn.alloc {k:IntKind}{w:World}{a:Option Addr}{xs:List Int}(E:RowIn k w a xs)(x:Obj):RowIn k (w.alloc x) a xs:=
 E.below ((Below.refl w.heap.size w).alloc (VB _) x) (VB _)
abbrev iv (xs:List Int):List Value:=xs.map (Value.int .i64)
theorem ga {a b:World}{r:Option Nat}(E:a.grownBy b r)(o:Obj):a.grownBy (b.alloc o) r:=Aj E (World.grownBy_alloc b o r)
theorem Z0f {w:World}{B e E n:Nat}{v:Value}{xs:List Value}(F:w.ownsRow B e E v n xs):w.drew.ownsRow B e E v n xs:=F
theorem Hv {w w':World}{B e E n:Nat}{v:Value}{xs:List Value}(F:w.ownsRow B e E v n xs)(G:w.grownBy w' none):w'.ownsRow B e E v n xs:=
 F.kept G (by cases H:v.ownBlock with
  |none=>exact .inl rfl
  |some k=>exact .inr oS)
theorem Hq {B:Nat}{a w w':World}(F:Below B a w)(G:w.grownBy w' none)(E:B<=w.heap.size):Below B a w':=F.grown G E (fun k e=>by cases e)
theorem Lu {W:World}{b:Nat}{x u:Value}{j:Nat}(F:W.cell? ⟨b,0,none⟩=some x)(E: [x][j]? =some u):W.cell? ((⟨b,0,none⟩:Addr).add j)=some u:=by
 match j,E with
 |0,E=>simp at E;subst E;simpa[Addr.add]using F
theorem Jo {w:World}{x:Value}{t:TypeId}{b:Nat}(E:b=w.heap.size):(w.alloc (.cells #[x] t)).cell? ⟨b,0,none⟩=some x:=by rw[World.cell?_alloc_at _ _ _ _ E];rfl
theorem QX {w:World}{x:Value}{t:TypeId}{o:Obj}{b:Nat}(E:b=w.heap.size):((w.alloc (.cells #[x] t)).alloc o).cell? ⟨b,0,none⟩=some x:=by rw[World.cell?_alloc_past _ _ _ (by rw[E];simp),World.cell?_alloc_at _ _ _ _ E];rfl
theorem QY {w:World}{b:Nat}{v:Value}(E:w.cell? ⟨b,0,none⟩=some v):w.drew.cell? ⟨b,0,none⟩=some v:=E
theorem Bc {x:Value}(F:x.oneCell'=true):∀u∈ [x],u.oneCell'=true:=by intro u E;simp at E;subst E;exact F
theorem RowIn.iv {w:World}{B E n H:Nat}{xs:List Int}(F:w.ownsRow B 3 1 (.slice (some ⟨E,0,none⟩) n H) n (iv xs)):RowIn .i64 w (some ⟨E,0,none⟩) xs:=by refine .inr ⟨E,0,rfl,(F.lt E rfl).2, ?_⟩;intro j G;(have hn:xs.length=n:=by have:=F.1;simpa using this);rw[WG,F.cellAt j om];simp[List.getD,G]
theorem Ac {w:World}{b i:Nat}{E:Array Value}{t:TypeId}(F:w.heap[b]? =some (.cells E t (0,0))):w.cell? ⟨b,i,none⟩=E[i]? :=cell_of_row w b i _ _ _ F
def Kp (No:Nat->Prop)(w w':World):Prop:=∀g,g<w.heap.size->No g->w'.heap[g]? =w.heap[g]?
theorem Kp.refl (No:Nat->Prop)(w:World):Kp No w w:=fun _ _ _=>rfl
theorem Kp.trans {No:Nat->Prop}{a b c:World}(E:Kp No a b)(k:Kp No b c)(G:a.heap.size<=b.heap.size):Kp No a c:=fun g F hn=>(k g om hn).trans (E g F hn)
theorem Kp.grown {No:Nat->Prop}{a w w':World}{r:Option Nat}(I:Kp No a w)(H:w.grownBy w' r)(M:a.heap.size<=w.heap.size)(G:∀j,r=some j->¬No j):Kp No a w':=by intro g F E;rw[H.block g om (fun e=>G g e.symm E)];exact I g F E
theorem Bytes.grown {w w':World}{b o:Nat}{xs:List Nat}{r:Option Nat}(F:Bytes w b o xs)(H:w.grownBy w' r)(G:some b≠r):Bytes w' b o xs:=fun j E=>H.cell (F j E) G
theorem Kp.weaken {No No':Nat->Prop}{w w':World}(G:Kp No' w w')(H:∀g,No g->No' g):Kp No w w':=fun g F E=>G g F (H g E)
theorem Au {w w':World}{B e F n:Nat}{v:Value}{xs:List Value}(G:w.ownsRow B e F v n xs)(O:∀g,v.ownBlock=some g->w'.heap[g]? =w.heap[g]?):w'.ownsRow B e F v n xs:=by refine⟨G.1, ?_⟩;rcases G.2 with E|⟨g,cap,cur,E,H,I,M⟩;exact .inl E;exact .inr ⟨g,cap,cur,E,H,(O g (by rw[E];rfl)).trans I,M⟩
theorem Pa {w:World}{B B' e F n:Nat}{v:Value}{xs:List Value}(G:w.ownsRow B e F v n xs)(M:B'<=B):w.ownsRow B' e F v n xs:=by refine⟨G.1, ?_⟩;rcases G.2 with E|⟨g,cap,cur,E,H,I⟩;exact .inl E;exact .inr ⟨g,cap,cur,E,VU M H,I⟩
theorem Ba {w:World}{B e H n:Nat}{v:Value}{xs:List Value}(G:w.ownsRow B e H v n xs)(M:0<n):∃g cap,v=.slice (some ⟨g,0,none⟩) n cap/\B<=g/\g<w.heap.size:=by(rcases G.2 with ⟨E,F⟩|⟨g,cap,cur,E,F,I⟩);omega;exact⟨g,cap,E,F,(G.lt g (by rw[E];rfl)).2⟩
theorem Wx (xs:List Nat)(y:Nat):u8s (xs++ [y])=u8s xs++ [.int .u8 (y:Int)]:=by simp[u8s]
theorem Dz {w:World}{a:Option Addr}{bs:List Nat}(E:BytesIn w a bs)(F:0<bs.length):∃b o,a=some ⟨b,o,none⟩/\b<w.heap.size/\Bytes w b o bs:=by rcases E with rfl|E;simp at F;exact E
theorem BytesIn.ofOwn {w:World}{B n:Nat}{v:Value}{xs:List Nat}(F:w.ownsRow B 5 1 v n (u8s xs)):xs.length=n/\∃a c,v=.slice a n c/\BytesIn w a xs:=by(have hn:xs.length=n:=by have:=F.1;simpa using this);refine⟨hn, ?_⟩;(rcases F.2 with ⟨E,G⟩|⟨g,cap,cur,E,_⟩);subst G;exact⟨none,0,E,.inl (WV hn)⟩;subst E;exact⟨_,_,rfl,BytesIn.own F⟩
theorem An {w:World}{B e G n:Nat}{v:Value}{xs:List Value}(H:w.ownsRow B e G v n xs):∃a c,v=.slice a n c:=by(rcases H.2 with ⟨E,F⟩|⟨g,cap,cur,E,_⟩);subst F;exact⟨none,0,E⟩;exact⟨_,_,E⟩
theorem Z4q (n E:Nat)(w:World)(aw:n<=9223372036854775807)(au:E<=100):Calls Tryz.prog 62 #[.int .i64 (n:Int),.int .i64 (E:Int)] w fun e w'=>∃v,e=.returned v/\w'.ownsRow w.heap.size 5 1 v E (u8s (Ag n E))/\Below w.heap.size w w':=by obtain⟨ak,hi,Y,ac,ae⟩:=info_parts Gz;go_enter Tryz.func62,Tryz.ntmps62;go_wp2;go_loopw [0,5,7] (fun al aa i wr=>∃k:Nat,k<=E/\i=.int .i64 (k:Int)/\al=.int .i64 ((n/256^k:Nat):Int)/\Hid (wr.ownsRow w.heap.size 5 1 aa k (u8s (Ag n k))/\Below w.heap.size w wr)) (fun _ _ i _=>E-(intOf i).toNat);(case atStart=>exact⟨0,VH _,rfl,oS,World.ownsRow_nil _ _ _ _,Below.refl _ _⟩);case round=>obtain⟨k,ay,rfl,rfl,F⟩:=hrel;by_cases ax:k<E;(. obtain⟨q,G⟩:=exq (n/256^k);(have ap:q<=n:=by rw[<-G];exact YO _ _);(have M:n/256^(k+1)=q/256:=by rw[XC,<-Nat.div_div_eq_div_mul,G]);have H:=Ri k n;rw[G]at H ⊢;have ag:=Ab M;have Z:=Ab H;have ai:=(Aa F).2.size;(have hr:((q:Int)).tmod 256=((q%256:Nat):Int):=by rw[Int.tmod_eq_emod_of_nonneg om];omega);(have av:((q:Int)).tdiv 256=((q/256:Nat):Int):=by rw[Int.tdiv_eq_ediv_of_nonneg om];omega);(have ar:IntKind.u8.wrap ((q%256:Nat):Int)=((q%256:Nat):Int):=by simp[IntKind.wrap,IntKind.bits,IntKind.signed];try omega);have ao:=Ab ((Aa F).1.alloc (.cells #[.int .u8 ((q%256:Nat):Int)] 5));have aj:=Ab ((Aa F).2.alloc ai (.cells #[.int .u8 ((q%256:Nat):Int)] 5));have ah:=Ab (Jo (w:=wr) (x:=.int .u8 ((q%256:Nat):Int)) (t:=5) rfl);clear G M H;go_wp2_with (at_builtin;refine wpList_append_own_at _ rfl _ _ 23 rfl w.heap.size 5 ak (.int .u8 0) 1 1 Tryz.underlying23 hi Y ac ae rfl od _ k (u8s (Ag n k)) rfl (Aa ao) ⟨wr.heap.size,0,none⟩ 1 1 [.int .u8 ((q%256:Nat):Int)] rfl rfl (fun j u af=>Lu (Aa ah) af) (Bc rfl) ou om oO ?_);intro v' w3 O I _ _;have T:=Ab ((Aa aj).grown I oO (fun g e=>((Aa F).1.lt g e).1));(have U:Hid (w3.ownsRow w.heap.size 5 1 v' (k+1) (u8s (Ag n (k+1)))):=by rw[Aa Z,Wx];exact O);clear O I;go_wp2;go_roundw;(case rel=>exact⟨k+1,om,by go_num,by rw[Aa ag,Int.natCast_ediv];rfl,Aa U,Aa T⟩);case measure=>simp[intOf];omega);. obtain rfl:E=k:=om;go_wp2;go_ret;exact⟨_,rfl,(Aa F).1,(Aa F).2⟩
theorem NE (a:Option Addr)(n c:Nat)(bs:List Nat)(w:World)(Y:bs.length=n)(aw:n<=7)(h:BytesIn w a bs)(H:∀x∈bs,x<256):Calls Tryz.prog 38 #[.slice a n c] w fun e w'=>e=.returned (.int .i64 ((Ak bs:Nat):Int))/\w'=w:=by
 have ap:=Ab h;have M:=Ab Y;(have O:∀k,1<=k->k<=n->Ak (bs.drop k)<256^6:=by intro k ax E;have ai:=Jx (bs.drop k) (fun x au=>H x (VW au));refine VG ai (VO od ?_);rw[VQ];omega);have ah:=Ab O;have ae:∀k,k<n->Ak (bs.drop k)=256*Ak (bs.drop (k+1))+bs.getD k 0:=fun k E=>FP om;have ar:=Ab ae;(have Z:∀k,bs.getD k 0<256:=by intro k;by_cases E:k<bs.length;(have e:bs.getD k 0=bs[k]:=by simp[List.getD,E]);rw[e];exact H _ (WK E);simp[List.getD,E]);have ak:=Ab Z;clear h Y O ae H Z;go_enter Tryz.func38,Tryz.ntmps38;go_wp2;go_loopw [3,4] (fun ag I wr=>∃k:Nat,k<=n/\I=.int .i64 ((k:Int)-1)/\ag=.int .i64 ((Ak (bs.drop k):Nat):Int)/\Hid (wr=w)) (fun _ I _=>(intOf I+1).toNat);case atStart=>exact⟨n,VB _,rfl,by rw[XQ (by rw[Aa M];exact VB _)];rfl,Ab rfl⟩
 case round=>
  obtain⟨k,E,rfl,rfl,U⟩:=hrel;have ao:wr=w:=Aa U;subst ao;clear U
  cases k with
  |zero=>go_wp2;go_ret;exact⟨rfl,rfl⟩
  |succ j=>obtain⟨b,o,rfl,hb,af⟩:=Dz (Aa ap) (by rw[Aa M];omega);have hc:=af j (by rw[Aa M];omega);have aa:=Aa ar j om;have ac:=Aa ah (j+1) om E;have al:=Aa ak j;have T:=Ab aa;obtain⟨q,G⟩:=exq (Ak (bs.drop (j+1)));obtain⟨y,F⟩:=exq (bs.getD j 0);rw[G,F]at T;rw[G]at ac ⊢;rw[F]at hc al;clear G F aa af;have aj:((j+1:Nat):Int)-1=(j:Int):=om;rw[aj];have av:(j:Int)<(n:Int):=om;simp only[Nat.reducePow]at ac;go_wp2;go_roundw;(case rel=>exact⟨j,om,by go_num,by rw[Aa T];go_num,by first|exact Ab rfl|exact Ab trivial⟩);case measure=>simp[intOf]
open Go
def B (l:List UInt8):ByteArray:=⟨l.toArray⟩
theorem DZ (s:ByteArray):B s.data.toList=s:=by cases s;rfl
theorem QE (l:List UInt8):(B l).data.toList=l:=rfl
theorem Im (l:List UInt8):(B l).size=l.length:=by simp[B,ByteArray.size]
theorem Z00 (s:ByteArray):s.size=s.data.toList.length:=(Array.length_toList).symm
def spl:List UInt8->List (List UInt8)
 | []=> [[]]
 |c::r=>if c=47 then []::spl r else
  match spl r with
  | []=> [[c]]
  |p::ps=>(c::p)::ps
theorem Z2f (l:List UInt8):spl l≠ []:=by
 cases l with
 |nil=>simp[spl]
 |cons c r=>simp only[spl];split;simp;. split<;>simp
theorem Hs {c:UInt8}{r:List UInt8}(F:c≠47):∃p ps,spl r=p::ps/\spl (c::r)=(c::p)::ps:=by
 cases E:spl r with
 |nil=>exact absurd E (Z2f r)
 |cons p ps=>exact⟨p,ps,rfl,by simp[spl,F,E]⟩
def jn (ps:List (List UInt8)):List UInt8:=Lib.join ps [47]
theorem Z2s (p:List UInt8):jn [p]=p:=Lib.join_one _ _
theorem Z2r (p q:List UInt8)(r:List (List UInt8)):jn (p::q::r)=p++47::jn (q::r):=by unfold jn;rw[Lib.join_cons,Lib.join_cons];simp[Lib.joinTail]
theorem Z6y:∀l:List UInt8,jn (spl l)=l
 | []=>by simp[spl,Z2s]
 |c::r=>by
  have ih:=Z6y r;by_cases h:c=47
  . subst h
    cases E:spl r with
    |nil=>exact absurd E (Z2f r)
    |cons p ps=>rw[show spl (47::r)= []::spl r from by simp[spl],E,Z2r,<-E,ih];rfl
  . obtain⟨p,ps,G,F⟩:=Hs (r:=r) h;rw[F];rw[G]at ih
    cases ps with
    |nil=>rw[Z2s]at ih ⊢;rw[ih]
    |cons q ps=>rw[Z2r]at ih ⊢;rw[<-ih];simp
theorem LQ (l:List UInt8):(spl l).length=l.count 47+1:=by
 induction l with
 |nil=>simp[spl]
 |cons c r ih=>by_cases h:c=47;subst h;simp[spl,ih];obtain⟨p,ps,F,E⟩:=Hs (r:=r) h;rw[E,List.count_cons_of_ne (by simpa using h),<-ih,F];simp
theorem Z2g (l:List UInt8):∀p∈spl l,p.length<=l.length:=by
 induction l with
 |nil=>intro p E;simp[spl]at E;subst E;simp
 |cons c r ih=>by_cases h:c=47;subst h;intro p E;rw[show spl (47::r)= []::spl r from by simp[spl]]at E;rcases WH.1 E with F|F;subst F;simp;have:=ih p F;simp;omega;obtain⟨q,I,F,H⟩:=Hs (r:=r) h;intro p E;rw[H]at E;rcases WH.1 E with G|G;subst G;have:=ih q (by rw[F];simp);simp;omega;have:=ih p (by rw[F];simp[G]);simp;omega
theorem Uu:∀(l:List UInt8),Lib.splitK [47] 0 (Lib.count l [47]) l=spl l
 | []=>by rw[Lib.count_one];simp[spl,Lib.splitK]
 |c::r=>by
  have ih:=Uu r;by_cases h:c=47;subst h;rw[Lib.count_cons_eq,Nat.add_comm];(have E:Lib.index (47::r) [47]=0:=by rw[Lib.index];simp[List.isPrefixOf]);rw[Lib.splitK,E];simp[spl,ih]
  . rw[Lib.count_cons_ne _ _ _ h];obtain⟨p,ps,I,H⟩:=Hs (r:=r) h;rw[H];(have E:Lib.index (c::r) [47]=if Lib.index r [47]== -1 then-1 else Lib.index r [47]+1:=by rw[Lib.index];(have M:([47]:List UInt8).isPrefixOf (c::r)=false:=by simp[List.isPrefixOf,Ne.symm h]);rw[M];simp);rw[I]at ih
    cases F:Lib.count r [47]with
    |zero=>rw[F]at ih;simp only[Lib.splitK]at ih ⊢;injection ih with i1 i2;rw[i1,<-i2]
    |succ k=>rw[F]at ih;simp only[Lib.splitK]at ih ⊢;by_cases hm:Lib.index r [47]= -1;rw[if_pos (by rw[E,if_pos (by simp[hm])];rfl)];rw[if_pos (by simp[hm])]at ih;injection ih with i1 i2;rw[i1,<-i2];have T:=Lib.index_ge r [47];obtain⟨j,G⟩:∃j:Nat,Lib.index r [47]=j:=⟨(Lib.index r [47]).toNat,om⟩;(have O:Lib.index (c::r) [47]=((j+1:Nat):Int):=by rw[E,if_neg (by simp[hm]),G];omega);rw[G]at ih;rw[O];rw[if_neg oS]at ih;rw[if_neg oO];injection ih with i1 i2;simp only[WM,XN,XU]at i1 ⊢;rw[i1];congr 1
theorem EZ (s:ByteArray):Lib.splitB ⟨#[47]⟩ 0 (Lib.countB s ⟨#[47]⟩) s=(spl s.data.toList).map B:=by have h:=Lib.splitB_data ⟨#[47]⟩ 0 (Lib.countB s ⟨#[47]⟩) s;have E:Lib.countB s ⟨#[47]⟩=Lib.count s.data.toList [47]:=rfl;have F:(⟨#[47]⟩:ByteArray).data.toList= [47]:=rfl;rw[E,F,Uu]at h;rw[E,<-h,ZU];(have:(B ∘ fun x:ByteArray=>x.data.toList)=id:=by funext x;exact DZ x);rw[this,List.map_id]
theorem IP (s:ByteArray):Lib.countB s ⟨#[47]⟩+1=(spl s.data.toList).length:=by rw[LQ];have E:Lib.countB s ⟨#[47]⟩=Lib.count s.data.toList [47]:=rfl;rw[E,Lib.count_one]
def okB (c:UInt8):Bool:=(97<=c&&c<=122)||(65<=c&&c<=90)||(48<=c&&c<=57)||c==46||c==95||c==45
def okP (p:List UInt8):Bool:=p != []&&p != [46]&&p != [46,46]&&p.all okB
def Kg (l:List UInt8):Nat:=if 40<l.length then 2 else if (spl l).all okP then 0 else 1
theorem Z57 {l:List UInt8}(E:Kg l=0):l.length<=40/\(spl l).all okP=true:=by unfold Kg at E;split at E;omega;. split at E;exact⟨om,by assumption⟩;omega
theorem PV {l:List UInt8}(F:l.length<=40)(E:(spl l).all okP=true):Kg l=0:=by unfold Kg;rw[if_neg om,if_pos E]
def Ho:List UInt8:= [97,98,99,100,101,102,103,104,105,106,107,108,109,110,111,112,113,114,115,116,117,118,119,120,121,122,65,66,67,68,69,70,71,72,73,74,75,76,77,78,79,80,81,82,83,84,85,86,87,88,89,90,48,49,50,51,52,53,54,55,56,57,46,95,45]
theorem Z4f:∀c:UInt8,Ho.contains c=okB c:=by(have h:∀n:Fin 256,Ho.contains (UInt8.ofNat n.val)=okB (UInt8.ofNat n.val):=by decide+kernel);intro c;have:=h ⟨c.toNat,c.toNat_lt⟩;simpa using this
theorem PZ {f:UInt8->Bool}{l:List UInt8}:l.dropWhile f= []↔∀x∈l,f x=true:=by
 induction l with
 |nil=>simp
 |cons c r ih=>rw[List.dropWhile_cons];split;(. rename_i h;rw[ih];simp[h]);. rename_i h;simp[h]
theorem TH {l:List UInt8}:Lib.trimS l Ho= []↔l.all okB=true:=by
 (have e:(fun b=>Ho.contains b)=okB:=by funext c;exact Z4f c);unfold Lib.trimS Lib.trimLeftS Lib.trimRightS;rw[e];constructor
 . intro h;rw[PZ]at h
   have F:l.reverse.dropWhile okB= []:=by
    cases G:l.reverse.dropWhile okB with
    |nil=>rfl
    |cons x xs=>(have E:¬okB x=true:=by have:=List.head_dropWhile_not okB (l:=l.reverse) (by rw[G];simp);simpa[G]using this);exact absurd (h x (by rw[G];simp)) E
   rw[PZ]at F;rw[WX];intro x E;exact F x (by simpa using E)
 intro h;(have F:l.reverse.dropWhile okB= []:=by rw[PZ];intro x E;exact WX.1 h x (by simpa using E));rw[F];rfl
open Go
structure Fl where
 name:List UInt8
 bytes:List UInt8
 stamp:Int
 node:Int
 gone:Bool
deriving DecidableEq
abbrev Pq (a b:List UInt8):Int:=Lib.compareBytes a b
theorem Hp (a b:UInt8)(x y:List UInt8):Pq (a::x) (b::y)=if a<b then-1 else if b<a then 1 else Pq x y:=rfl
theorem TD (a b:UInt8):(a<b)=(a.toNat<b.toNat):=by rw[UInt8.lt_iff_toNat_lt]
theorem Z61 {a b:UInt8}(F:¬a<b)(E:¬b<a):a=b:=by rw[TD]at F E;exact UInt8.toNat_inj.1 om
theorem O0:∀a:List UInt8,Pq a a=0
 | []=>rfl
 |a::x=>by rw[Hp,if_neg (by rw[TD];omega),if_neg (by rw[TD];omega)];exact O0 x
theorem QR:∀ {a b:List UInt8},Pq a b=0->a=b
 | [],[],_=>rfl
 | [],_::_,h=>by cases h
 |_::_,[],h=>by cases h
 |a::x,b::y,h=>by rw[Hp]at h;split at h;(. cases h);. split at h;(. cases h);. rename_i F E;rw[Z61 F E,QR h]
theorem QQ {a b:List UInt8}:Pq a b=0↔a=b:=⟨QR,fun h=>by rw[h,O0]⟩
theorem Kd:∀a b:List UInt8,Pq a b= -1\/Pq a b=0\/Pq a b=1
 | [],[]=>.inr (.inl rfl)
 | [],_::_=>.inl rfl
 |_::_,[]=>.inr (.inr rfl)
 |a::x,b::y=>by rw[Hp];split;exact .inl rfl;. split;exact .inr (.inr rfl);exact Kd x y
theorem Su:∀a b:List UInt8,Pq b a= -Pq a b
 | [],[]=>rfl
 | [],_::_=>rfl
 |_::_,[]=>rfl
 |a::x,b::y=>by rw[Hp,Hp];by_cases F:a<b;(have E:¬b<a:=by rw[TD]at F ⊢;omega);rw[if_neg E,if_pos F,if_pos F];rfl;by_cases E:b<a;rw[if_pos E,if_neg F,if_pos E];rw[if_neg E,if_neg F,if_neg F,if_neg E];exact Su x y
theorem CG:∀a b:List UInt8,Op.bytesLess a b=decide (Pq a b<0)
 | [],[]=>rfl
 | [],_::_=>rfl
 |_::_,[]=>rfl
 |a::x,b::y=>by show (decide (a<b)||(a==b&&Op.bytesLess x y))=_;rw[Hp,CG x y];by_cases E:a<b;simp[E];rw[if_neg E];by_cases F:b<a;(have:(a==b)=false:=by rw[beq_eq_false_iff_ne];rintro rfl;exact E F);rw[if_pos F,this];simp[E];have:=Z61 E F;subst this;rw[if_neg F];simp[E]
def Mq (f:Fl):Nat:=
 if Kg f.name≠0 then Kg f.name else if 3000<f.bytes.length then 2 else if f.stamp<0\/1000000<f.stamp\/f.node<0\/3<f.node then 3
 else if f.gone=true/\0<f.bytes.length then 4 else 0
def behind:Option Fl->Fl->Bool
 |none,_=>true
 |some x,f=>decide (Pq x.name f.name<0)
def DH:Option Fl->List Fl->Nat
 |_,[]=>0
 |p,f::r=>if Mq f≠0 then Mq f else if behind p f=false then 4 else DH (some f) r
def errM (l:List Fl):Nat:=if 12<l.length then 2 else DH none l
end Go.Proofs.YtleocpdblhbimaaGreatDoor
