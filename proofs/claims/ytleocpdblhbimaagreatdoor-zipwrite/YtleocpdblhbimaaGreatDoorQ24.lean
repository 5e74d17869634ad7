import Derived.Test.YtleocpdblhbimaaGreatDoorQ16
import Derived.OwnWalk
import Derived.Maps.GroupsBeside
import Derived.WideKeyPair
import Derived.WideKeyEntry
import Derived.Laws.Cover3
set_option linter.unusedSimpArgs false
set_option maxHeartbeats 2000000
namespace Go.Proofs.YtleocpdblhbimaaGreatDoor
open Go.RowKit
set_option linter.unusedVariables false
set_option maxRecDepth 100000
theorem Z0o (g n s:Nat)(hg:1<=g)(hn:n<8192)(hs:s=12):n/2^s<2*g:=by
 subst hs;have:n/2^12<2:=Nat.div_lt_of_lt_mul (by omega)
 omega
theorem BX (g n f s:Nat)(h:n/2^s<2*g):Qd g n f s=s:=by
 cases f with
 |zero=>rfl
 |succ f=>rw[Qd,if_pos h]
theorem BW (g n s:Nat)(hs:s<12)(h:¬n/2^s<2*g):Qd g n (12-s) s=Qd g n (12-(s+1)) (s+1):=by
 rw[show 12-s=(12-(s+1))+1 by omega,Qd,if_neg h]
theorem QS (n s:Nat)(hn:n<8192)(hs:s<=12):bits .and .i64 (n:Int) (2^s-1)=((n%2^s:Nat):Int):=by
 have hp:2^s<=2^12:=VU (by decide) hs;have h1:0<2^s:=YN s
 have e:((2:Int)^s-1)=((2^s-1:Nat):Int):=by
  have h2:((2^s:Nat):Int)=(2:Int)^s:=by push_cast;rfl
  omega
 rw[e,Rh n (2^s-1) (by omega) (by omega),Nat.and_two_pow_sub_one_eq_mod]
theorem OC (Y X:Nat)(hY:Y<=48)(hX:X<8192):wrap64 (wrap64 (Y:Int)+(X:Int))=((Y+X:Nat):Int):=by unfold wrap64;omega
theorem FL (Q:Nat)(h1:0<Q)(h:Q<=4096):wrap64 (wrap64 (Q:Int)-1)=(Q:Int)-1:=by unfold wrap64;omega
theorem Ty (n g:Nat)(w:World)(hg:1<=g)(hg4:g<=4)(hn:n<8192):
 Calls Tryz.prog 234 #[.int .i64 (n:Int),.int .i64 (g:Int)] w fun e w'=>e=.returned (.tuple #[.int .i64 (Vt g n:Nat),.int .i64 (Sp g n:Nat),.int .i64 (Lb g n:Nat)])/\∃q,w'=w.drewN q:=by
 go_enter Tryz.func234,Tryz.ntmps234
 go_wp2;go_loop [6] (fun v=>∃s:Nat,s<=12/\v=.int .i64 (s:Int)/\Hid (Qd g n (12-s) s=Lb g n)) (fun v=>12-(intOf v).toNat)
 case atStart=>exact⟨0,by decide,rfl,Ab rfl⟩
 case round=>
  obtain⟨s,hs,rfl,hz⟩:=hrel
  by_cases hd:n/2^s<2*g
  . have E:Hid (Lb g n=s):=Ab (by rw[<-Aa hz];exact BX g n _ s hd);have hd2:¬(2:Int)*(g:Int)<=(n:Int)/2^s:=by rw[Er];omega
    have hk:Hid (Vt g n=g*s+n/2^s):=Ab (by unfold Vt;rw[Aa E]);have hr:Hid (Sp g n=n%2^s):=Ab (by unfold Sp;rw[Aa E]);have hm:=QS n s hn hs;have hp:2^s<=4096:=VU (j:=12) (by decide) hs;have hgs:g*s<=48:=Nat.mul_le_mul hg4 hs;have hdv:n/2^s<=n:=YY _ _;have HP:=Ab hp;have HD:=Ab hdv;have HGS:=Ab hgs;clear hz hd hp hdv hgs;go_wp2;go_quiet (fail)
    go_wp2;go_ret3;refine⟨?_,_,rfl⟩;have hp:=Aa HP;have hdv:=Aa HD;have hgs:=Aa HGS;have e1:(g:Int)*(s:Int)=((g*s:Nat):Int):=by push_cast;rfl
    have e2:((2:Int)^s)=((2^s:Nat):Int):=by push_cast;rfl
    have h1:0<2^s:=YN s
    have w1:wrap64 (wrap64 ((g:Int)*s)+(n:Int)/2^s)=((g*s+n/2^s:Nat):Int):=by
     rw[e1,Er];exact OC _ _ hgs (XU hdv hn)
    have w2:wrap64 (wrap64 ((2:Int)^s)-1)=2^s-1:=by
     rw[e2];exact FL _ h1 hp
    show Ending.returned (.tuple #[.int .i64 (wrap64 (wrap64 ((g:Int)*s)+(n:Int)/2^s)),.int .i64 (bits .and .i64 (n:Int) (wrap64 (wrap64 ((2:Int)^s)-1))),.int .i64 (s:Int)])=_
    rw[w1,w2,hm,Aa hk,Aa hr,Aa E]
  . have hs2:s<12:=by
     rcases YW s 12 with h|h
     . exact h
     . exact absurd (Z0o g n s hg hn (by omega)) hd
    have hd2:(2:Int)*(g:Int)<=(n:Int)/2^s:=by rw[Er];omega
    have HZ:=Ab (BW g n s hs2 hd);go_wp2;go_round
    case rel=>exact⟨s+1,by omega,by go_num,Ab (by rw[<-Aa HZ];exact Aa hz)⟩
    case measure=>simp[intOf];omega
theorem PF (g n:Nat)(hg:1<=g)(hn:n<8192):Lb g n<=12/\Vt g n<=g*12+n/\Sp g n<=n:=by
 have:∀f s,f+s=12->Qd g n f s<=12:=by
  intro f
  induction f with
  |zero=>intro s h;rw[Qd];omega
  |succ f ih=>intro s h;rw[Qd];split;omega;exact ih _ (by omega)
 have h1:=this 12 0 rfl;have h2:n/2^Lb g n<=n:=YY _ _;have h3:g*Lb g n<=g*12:=Nat.mul_le_mul_left _ h1;exact⟨h1,Nat.add_le_add h3 h2,by unfold Sp;exact Nat.mod_le _ _⟩
theorem P5 (n:Nat)(w:World)(h3:3<=n)(hn:n<=258):
 Calls Tryz.prog 208 #[.int .i64 (n:Int)] w fun e w'=>e=.returned (.tuple #[.int .i64 ((Cb n).1:Nat),.int .i64 ((Cb n).2.1:Nat),.int .i64 ((Cb n).2.2:Nat)])/\∃q,w'=w.drewN q:=by
 by_cases h:n=258
 . subst h;have e:Cb 258=(285,0,0):=rfl;rw[e];go_enter Tryz.func208,Tryz.ntmps208
   go_wp2;go_ret3;exact⟨rfl,0,rfl⟩
 . have e:Hid (Cb n=(257+Vt 4 (n-3),Sp 4 (n-3),Lb 4 (n-3))):=Ab (by unfold Cb;rw[if_neg h]);have hb:((n:Int)==258)=false:=by rw[beq_eq_false_iff_ne];omega
   have hle:=PF 4 (n-3) (by omega) (by omega);have HC:=Ab (Ty (n-3) 4 w (by omega) (by omega) (by omega));have hsub:((n:Int)-3)=((n-3:Nat):Int):=by omega
   rw[Aa e];generalize Vt 4 (n-3)=K at*;generalize Sp 4 (n-3)=R at*;generalize Lb 4 (n-3)=Z at*;rw[<-hsub]at HC;clear hsub e;go_enter Tryz.func208,Tryz.ntmps208
   go_wp2_with fail
   refine(Aa HC).mono ?_;rintro e w1 ⟨rfl,q,rfl⟩;go_wp2;go_ret3;refine⟨?_,q,rfl⟩;simp only[Int.natCast_add];rfl
theorem DN (d:Nat)(w:World)(h1:1<=d)(hd:d<=3000):
 Calls Tryz.prog 209 #[.int .i64 (d:Int)] w fun e w'=>e=.returned (.tuple #[.int .i64 ((Ie d).1:Nat),.int .i64 ((Ie d).2.1:Nat),.int .i64 ((Ie d).2.2:Nat)])/\∃q,w'=w.drewN q:=by
 have HC:=Ab (Ty (d-1) 2 w (by omega) (by omega) (by omega));have hsub:((d:Int)-1)=((d-1:Nat):Int):=by omega
 unfold Ie;simp only
 generalize Vt 2 (d-1)=K at*;generalize Sp 2 (d-1)=R at*;generalize Lb 2 (d-1)=Z at*;rw[<-hsub]at HC;clear hsub;go_enter Tryz.func209,Tryz.ntmps209
 go_wp2_with fail
 refine(Aa HC).mono ?_;rintro e w1 ⟨rfl,q,rfl⟩;go_wp2;go_ret3;exact⟨rfl,q,rfl⟩
end Go.Proofs.YtleocpdblhbimaaGreatDoor
namespace Go.Proofs.YtleocpdblhbimaaGreatDoor
open Go.RowKit Go.Maps Go.WideMaps Go.ChangeShapes
set_option linter.unusedVariables false
theorem Z5g:ArrKey Tryz.prog 313 5 3:=⟨Tryz.underlying313,by kernel_rfl,by kernel_rfl,by kernel_rfl⟩
theorem Z4u:Keyed Tryz.prog 313:=Keyed.of_law Z5g.law
theorem SR:∃m,Tryz.prog.types.size=m+1:=⟨Tryz.prog.types.size-1,by have:0<Tryz.prog.types.size:=of_decide_eq_true (by kernel_rfl);omega⟩
abbrev C3:=Nat×Nat×Nat
def KB (c:C3):Array Value:= #[.int .u8 (c.1:Int),.int .u8 (c.2.1:Int),.int .u8 (c.2.2:Int)]
def kv (c:C3):Value:=.agg (KB c)
def kl (c:C3):Lit:=.string (keyBytes [.int .u8 (c.1:Int),.int .u8 (c.2.1:Int),.int .u8 (c.2.2:Int)])
def Ok3 (c:C3):Prop:=c.1<256/\c.2.1<256/\c.2.2<256
theorem N5 {bs:List Nat}(hb:∀j,bs.getD j 0<256)(p:Nat):Ok3 (Gv bs p):=⟨hb _,hb _,hb _⟩
theorem Z07 {x:Nat}(h:x<256):(Lit.int .u8 (x:Int)).wf=true:=by
 simp[Lit.wf,IntKind.min,IntKind.max,IntKind.signed,IntKind.bits];omega
theorem Pd {c:C3}(h:Ok3 c):keyOf Tryz.prog 313 (kv c)=some (kl c):=by
 have A:=Z5g;have hkt:=A.keyType SR;obtain⟨m,hm⟩:=SR;have he:Tryz.prog.underlying 5=some (.int .u8):=Tryz.underlying5;have w1:=Z07 h.1;have w2:=Z07 h.2.1;have w3:=Z07 h.2.2;unfold keyOf kv kl KB;simp only[A.hu];rw[if_pos (by simp[hkt,Value.formed,A.hu,A.size]),hm];unfold Program.keyLits;simp only[A.hu,Value.cells];rw[if_pos (by rw[A.size];rfl),show List.range 3= [0,1,2] from rfl,List.mapM_cons,List.mapM_cons,List.mapM_cons,List.mapM_nil];simp[A.one,Program.keyLits,he,w1,w2,w3]
theorem Z3v {c d:C3}(hc:Ok3 c)(hd:Ok3 d)(h:kl c=kl d):c=d:=by
 have:=Z4u.inj (Pd hc) (by rw[h];exact Pd hd)
 obtain⟨c1,c2,c3⟩:=c;obtain⟨d1,d2,d3⟩:=d;simp[kv,KB]at this
 simp only[YU];omega
theorem Z3u (c:C3):WideAt.IsKeyLit (kl c):=by
 first|trivial|exact⟨⟩|(unfold kl WideAt.IsKeyLit;simp)
def datum (zs:List Nat):DataW Unit:=match zs with| []=>.nil|z::r=>.slice (lits .i64 ((z::r).map fun x:Nat=>(x:Int))) []
abbrev NU (w:World)(base mb n:Nat)(D:DataW Unit):Prop:=w.ownsGroups Tryz.prog 313 base 3 .i64 mb n D
def Grp (w:World)(base mb:Nat)(bs:List Nat)(kn:Nat):Prop:=∃D:DataW Unit,NU w base mb kn D/\∀c,Ok3 c->D.atKey (kl c) .nil=datum (plc bs kn c)
theorem C0 {w:World}{base mb n:Nat}{D:DataW Unit}(h:NU w base mb n D):IsMap D:=by
 obtain⟨es,clock,hb,F,_,rfl,_⟩:=h;exact⟨_,rfl⟩
theorem QX {xs ys:List Int}(h:lits (H:=Unit) .i64 xs=lits .i64 ys):xs=ys:=by
 unfold lits at h;exact(List.map_inj_right (fun a b hab=>by simpa using hab)).1 h
theorem Ua {w:World}{base:Nat}{v:Value}{zs:List Int}{ps:List Nat}(ho:w.ownsInts base 3 .i64 v zs)(h:datum ps=rowDatum .i64 v zs):zs=ps.map fun x:Nat=>(x:Int):=by
 cases ps with
 |nil=>
  rcases ho.datum (H:=Unit)with ⟨_,e⟩|e
  . rw[e];rfl
  . rw[e]at h;simp[datum]at h
 |cons z r=>
  rcases ho.datum (H:=Unit)with ⟨e,_⟩|e
  . rw[e]at h;simp[datum]at h
  . rw[e]at h;simp only[datum,DataW.slice.injEq,and_true]at h;exact(QX h).symm
theorem Grp.made (w:World)(base:Nat)(bs:List Nat)(hb:w.heap.size<base):Grp (w.alloc (.map #[] 0)) base w.heap.size bs 0:=by
 refine⟨.map [],⟨#[],0,(MapKept.heap_alloc w _).1,⟨by simp,MapKept.stamped_empty 0,by simp⟩,VC _,rfl,hb,by simp,by simp⟩, ?_⟩;intro c _;simp[plc,datum,DataW.atKey]
theorem Grp.kept {w w':World}{base mb kn:Nat}{bs:List Nat}{row:Option Nat}(h:Grp w base mb bs kn)(hg:w.grownBy w' row)(hr:∀j,row=some j->j<base/\j≠mb):Grp w' base mb bs kn:=by
 obtain⟨D,hD,hA⟩:=h;refine⟨D,hD.kept hg ?_ (hD.rowsAbove (fun j e=>(hr j e).1)),hA⟩;intro e;exact(hr mb e.symm).2 rfl
theorem Grp.lt {w:World}{base mb kn:Nat}{bs:List Nat}(h:Grp w base mb bs kn):mb<base/\mb<w.heap.size:=by
 obtain⟨D,⟨es,clock,hb,F,_,rfl,h1,_⟩,_⟩:=h;exact⟨h1,(VL.1 hb).1⟩
theorem Grp.step {w:World}{base mb kn:Nat}{bs:List Nat}{D:DataW Unit}{v':Value}{zs':List Int}(hb:∀j,bs.getD j 0<256)(hA:∀c,Ok3 c->D.atKey (kl c) .nil=datum (plc bs kn c))(hM:IsMap D)
 (hG:NU w base mb (kn+1) (D.put (kl (Gv bs kn)) (rowDatum .i64 v' zs'))) (ho:w.ownsInts base 3 .i64 v' zs') (hz:zs'=((plc bs kn (Gv bs kn)).map fun x:Nat=>(x:Int))++ [(kn:Int)]):Grp w base mb bs (kn+1):=by
 refine⟨_,hG, ?_⟩;intro c hc;rw[PU]
 by_cases e:Gv bs kn=c
 . subst e;rw[if_pos rfl,atKey_put_same hM (Z3u _),ho.datum_pos (by rw[hz];simp),hz]
   cases hp:plc bs kn (Gv bs kn)with
   |nil=>simp[datum]
   |cons z r=>simp[datum]
 . rw[if_neg e,WZ,atKey_put_other (fun h=>e (Z3v hc (N5 hb kn) h).symm),hA c hc]
def Pst (w:World)(b:Nat)(bv:Value)(mb kn:Nat):Prop:=w.heap[b]? =some (.cells #[bv,.map (some mb),.int .i64 (kn:Int)] 292 (0,0))
theorem Pst.cell0 {w:World}{b mb kn:Nat}{bv:Value}(h:Pst w b bv mb kn):w.cell? ⟨b,0,none⟩=some bv:=Ac h
theorem Pst.cell1 {w:World}{b mb kn:Nat}{bv:Value}(h:Pst w b bv mb kn):w.cell? ⟨b,1,none⟩=some (.map (some mb)):=Ac h
theorem Pst.cell2 {w:World}{b mb kn:Nat}{bv:Value}(h:Pst w b bv mb kn):w.cell? ⟨b,2,none⟩=some (.int .i64 (kn:Int)):=Ac h
theorem Pst.frozen {w:World}{b mb kn:Nat}{bv:Value}(h:Pst w b bv mb kn)(j:Nat):w.frozen? ⟨b,j,none⟩=false:=frozen_of_row w b j _ _ h
theorem Pst.lt {w:World}{b mb kn:Nat}{bv:Value}(h:Pst w b bv mb kn):b<w.heap.size:=(VL.1 h).1
theorem Pst.grown {w w':World}{b mb kn:Nat}{bv:Value}{r:Option Nat}(h:Pst w b bv mb kn)(hg:w.grownBy w' r)(hr:some b≠r):Pst w' b bv mb kn:=(hg.block b h.lt hr).trans h
theorem Pst.set {w:World}{b mb kn:Nat}{bv:Value}(h:Pst w b bv mb kn)(q:Nat):Pst (w.setCell ⟨b,2,none⟩ (.int .i64 (q:Int))) b bv mb q:=by
 unfold Pst;rw[heap_setCell_same w b 2 _ _ _ h];rfl
structure Geo (No:Nat->Prop)(B p mb base b:Nat)(bs:List Nat):Prop where
 bB:b<B
 pB:B<=p
 mB:B<=mb
 pm:p≠mb
 pb:p<base
 nop:¬No p
 nom:¬No mb
 len:bs.length<=3000
 byte:∀j,bs.getD j 0<256
structure Pas (No:Nat->Prop)(w:World)(p mb base b o n cap:Nat)(bs:List Nat)(kn:Nat):Prop where
 pst:Pst w p (.slice (some ⟨b,o,none⟩) n cap) mb kn
 grp:Grp w base mb bs kn
 shun:w.Shuns mb No
 row:Bytes w b o bs
 size:base<=w.heap.size
theorem Pas.drewN {No:Nat->Prop}{w:World}{p mb base b o n cap kn:Nat}{bs:List Nat}(h:Pas No w p mb base b o n cap bs kn)(q:Nat):Pas No (w.drewN q) p mb base b o n cap bs kn:=by
 have hg:w.grownBy (w.drewN q) none:=⟨rfl,rfl,rfl,VC _,fun _ _ _=>rfl⟩
 exact⟨h.pst,h.grp.kept hg (fun j e=>by cases e),h.shun,h.row,h.size⟩
theorem Pas.grown {No:Nat->Prop}{w w':World}{B p mb base b o n cap kn:Nat}{bs:List Nat}{r:Option Nat}(h:Pas No w p mb base b o n cap bs kn)(G:Geo No B p mb base b bs)(hg:w.grownBy w' r)(hr:∀j,r=some j->j≠p/\j≠mb/\j≠b/\(No j\/j<base)):Pas No w' p mb base b o n cap bs kn:=by
 obtain⟨D,hD,hA⟩:=h.grp;have hmr:some mb≠r:=fun e=>(hr mb e.symm).2.1 rfl
 refine⟨h.pst.grown hg (fun e=>(hr p e.symm).1 rfl),⟨D,hD.kept hg hmr ?_,hA⟩,h.shun.kept hg h.grp.lt.2 hmr,h.row.grown hg (fun e=>(hr b e.symm).2.2.1 rfl),WC h.size hg.size⟩;intro es clock hb x hx
 cases hx':x.val.ownBlock with
 |none=>exact .inl rfl
 |some g=>
  refine .inr (fun e1=> ?_)
  rcases(hr g e1.symm).2.2.2 with h1|h1
  . exact h.shun es clock hb x hx g hx' h1
  . rcases hD.rowsAbove (row:=r) (fun j e=>by
     by_cases c:j<base
     . exact c
     . have:=(hr j e)
       rw[<-e1]at e
       cases e
       omega) es clock hb x hx with h2|h2
    . rw[h2]at hx';cases hx'
    . exact h2 (by rw[hx'];exact e1)
end Go.Proofs.YtleocpdblhbimaaGreatDoor
namespace Go.Proofs.YtleocpdblhbimaaGreatDoor
open Go.RowKit Go.Maps Go.WideElems Go.MapKept Go.ChangeMaps
set_option linter.unusedVariables false
theorem C6 {H:Type}{P:Program}{k:TypeId}(K:Keyed P k){R:Value->Option (DataW H×List MemPlace)}{es:Array MapEntry}{clock:Nat}(F:Fit P k R es clock){x:Value}{lx:Lit}(hx:keyOf P k x=some lx)(w w':World){r:Option (Nat×Value)}
 (h:(Instr.findKey k x es.toList).run P w=.ok r w):(Instr.findKey k x es.toList).run P w'=.ok r w':=by
 rcases K.find w hx es.toList F.keys with ⟨h1,h2⟩|⟨j,e0,h1,h2,h3⟩<;>rcases K.find w' hx es.toList F.keys with ⟨i1,i2⟩|⟨i,e1,i1,i2,i3⟩
 . rw[h1]at h
   cases h
   exact i1
 . exact absurd i3 (h2 e1 (List.mem_of_getElem? i2))
 . exact absurd h3 (i2 e0 (List.mem_of_getElem? h2))
 . have e:i=j:=by
    by_cases c:i=j
    . exact c
    . exact absurd (i3.trans h3.symm) (other_key F h2 i2 c)
   subst e;rw[h2]at i2
   cases i2
   rw[h1]at h
   cases h
   exact i1
theorem Sq (w:World)(b:Nat)(x y:Obj):setBlock (setBlock w b x) b y=setBlock w b y:=by
 simp[setBlock]
theorem Co {w:World}{b:Nat}{es:Array MapEntry}{clock:Nat}(hb:w.heap[b]? =some (.map es clock))(es':Array MapEntry)(clock':Nat):w.grownBy (setBlock w b (.map es' clock')) (some b):=
 ⟨rfl,rfl,rfl,by simp[setBlock],fun i _ hi=>heap_setBlock_other hb _ (fun e1=>hi (by rw[e1]))⟩
def I5 {H:Type}(w w1:World)(P:Program)(t k:TypeId)(base:Nat)(e:TypeId)(q:IntKind)(b n st:Nat)(D:DataW H)(kl:Lit)(v:Value):Prop:=
 ∀(w2:World) (v':Value) (zs':List Int),w1.grownBy w2 v.ownBlock->w2.ownsInts base e q v' zs'->zs'.length<=n+1->(v'.ownBlock=v.ownBlock\/∃g,v'.ownBlock=some g/\w1.heap.size<=g)->
  ∃w3,(Instr.entryStore t (.map (some b)) (goInt st) v').run P w2=.ok () w3/\w3.ownsGroups P k base e q b (n+1) (D.put kl (rowDatum q v' zs'))/\w2.grownBy w3 (some b)/\
   (∀No:Nat->Prop,w.Shuns b No->(∀g,v'.ownBlock=some g->¬No g)->w3.Shuns b No)
theorem E5 {H:Type}{P:Program}{w:World}{t E k e:TypeId}{q:IntKind}{base b n:Nat}{D:DataW H}{key:Value}{kl:Lit}(h:w.ownsGroups P k base e q b n D)(K:Keyed P k)(ht:P.underlying t=some (.map k E))(hz:∀u:World,(zeroValue E).run P u=.ok (.slice none 0 0) u)(hn:n<maxLen)(hkey:keyOf P k key=some kl):
 ∃(v:Value) (zs:List Int) (st:Nat) (w1:World),(Instr.mapEntry t (.map (some b)) key).run P w=.ok (.tuple #[v,goInt st]) w1/\w.grownBy w1 (some b)/\w1.heap.size=w.heap.size/\D.atKey kl .nil=rowDatum q v zs/\w1.ownsInts base e q v zs/\zs.length<=n/\(∀No:Nat->Prop,w.Shuns b No->∀g,v.ownBlock=some g->¬No g)/\
  I5 w w1 P t k base e q b n st D kl v:=by
 obtain⟨v,zs,hrun,hat,hoi,hzl,hback⟩:=h.at K ht (hz w) hn hkey;obtain⟨es,clock,hb,F,hs,_,hbb,_⟩:=h;have hblt:b<w.heap.size:=(VL.1 hb).1
 have hvb:v.ownBlock=none\/v.ownBlock≠some b:=by
  cases hv:v.ownBlock with
  |none=>exact .inl rfl
  |some g=>
   refine .inr (fun e1=> ?_);have:=(hoi.1.lt g hv).1
   cases e1
   omega
 obtain⟨s1,s2,_⟩:=F.stamped
 have finish:∀(es1:Array MapEntry) (clock1 st:Nat),
  (∀(w2:World) (val:Value),w2.heap[b]? =some (.map es1 clock1)->∃es' clock',(Instr.entryStore t (.map (some b)) (goInt st) val).run P w2=.ok () (setBlock w2 b (.map es' clock'))/\
   ∀u:World,u.heap[b]? =some (.map es clock)->(Instr.mapUpdate t (.map (some b)) key val).run P u=.ok () (setBlock u b (.map es' clock')))->
  I5 w (setBlock w b (.map es1 clock1)) P t k base e q b n st D kl v:=by
  intro es1 clock1 st hst w2 v' zs' hg ho' hl' hloc;have hsz1:(setBlock w b (.map es1 clock1)).heap.size=w.heap.size:=by simp[setBlock]
  have hb2:w2.heap[b]? =some (.map es1 clock1):=by
   rw[hg.block b (by rw[hsz1];exact hblt) (fun e1=>by
    rcases hvb with h1|h1
    . rw[h1]at e1;cases e1
    . exact h1 e1.symm)]
   exact heap_setBlock_same hb _
  obtain⟨es',clock',hE,hU⟩:=hst w2 v' hb2;have hb2':(setBlock w2 b (.map es clock)).heap[b]? =some (.map es clock):=heap_setBlock_same hb2 _;have hg2':=Co hb2 es clock
  have hgw:w.grownBy (setBlock w2 b (.map es clock)) v.ownBlock:=by
   refine⟨hg.os,hg.tape,hg.output, ?_, ?_⟩
   . have:=hg.size
     rw[hsz1]at this;exact WC this hg2'.size
   . intro i hi hr
     by_cases c:i=b
     . subst c;rw[hb2',hb]
     . rw[hg2'.block i (by have:=hg.size;rw[hsz1]at this;omega) (fun e1=>c (by simpa using e1)),hg.block i (by rw[hsz1];exact hi) hr];exact heap_setBlock_other hb _ c
  have ho2:(setBlock w2 b (.map es clock)).ownsInts base e q v' zs':=ho'.kept hg2' (by
   cases hv:v'.ownBlock with
   |none=>exact .inl rfl
   |some g=>
    refine .inr (fun e1=> ?_);have:=(ho'.1.lt g hv).1
    cases e1
    omega)
  obtain⟨w3,hrun3,hG3,hg3⟩:=hback _ v' zs' hgw ho2 hl' (by
   rcases hloc with h1|⟨g,h1,h2⟩
   . exact .inl h1
   . exact .inr ⟨g,h1,by rw[hsz1]at h2;exact h2⟩)
  have hsh:=stored_who K ht hb2' F (XU hs hn) hkey hrun3;rw[hU _ hb2',Sq]at hrun3;obtain rfl:setBlock w2 b (.map es' clock')=w3:=by simpa using hrun3
  refine⟨_,hE,hG3,Co hb2 es' clock', ?_⟩;intro No hno hv' es2 clock2 hb3 x hx g hxg;obtain⟨es3,clock3,hb4,hwho⟩:=hsh;obtain⟨rfl,rfl⟩:es3=es2/\clock3=clock2:=by rw[hb4]at hb3;simpa using hb3
  rcases hwho x hx with ⟨hx0,_⟩|⟨_,hval⟩
  . exact hno es clock hb x hx0 g hxg
  . exact hv' g (by rw[<-hval];exact hxg)
 rcases K.find w hkey es.toList F.keys with ⟨h1,h2⟩|⟨j,e0,h1,h2,h3⟩
 . have hv:v=.slice none 0 0:=by
    simp[Instr.lookup,run_underlying ht,MapKept.run_getObj_map hb,K.check w _ hkey,h1,hz w,Result.andThen]at hrun
    exact hrun.symm
   refine⟨v,zs,clock,setBlock w b (.map (es.push ⟨key,v,clock⟩) (clock+1)), ?_,Co hb _ _,by simp[setBlock],hat,hoi.kept (Co hb _ _) hvb,hzl, ?_,finish _ _ _ ?_⟩
   . rw[hv];simp[Instr.mapEntry,run_underlying ht,MapKept.run_getObj_map hb,K.check w false hkey,h1,hz,MapKept.run_setObj_map _ hb,Result.andThen,setBlock]
   . intro No _ g hg;rw[hv]at hg
     cases hg
   . intro w2 val hw2;refine⟨es.push ⟨key,val,clock⟩,clock+1, ?_, ?_⟩
     . have hidx:(es.push ⟨key,v,clock⟩).findIdx? (fun e=>((e.born:Nat):Int)==((clock:Nat):Int))=some es.size:=by
        rw[findIdx_arr]
        have:=findIdx_born (l:=(es.push ⟨key,v,clock⟩).toList) (j:=es.size) (e0:=⟨key,v,clock⟩) (by
         simp only[Array.toList_push,WS,WP,ZF];refine List.nodup_append.2 ⟨s2,by simp,fun a ha c hc e1=> ?_⟩;simp only[WQ]at hc;obtain⟨x,hx,rfl⟩:=XC.1 ha;have:=s1 x hx
         omega) (by simp)
        exact this
       have hmod:(es.push ⟨key,v,clock⟩).modify es.size (fun e=> {e with val:=val})=es.push ⟨key,val,clock⟩:=by
        apply Array.ext'
        rw[Array.toList_modify,Array.toList_push,Array.toList_push,<-Array.length_toList,modify_last]
       simp[Instr.entryStore,MapKept.run_getObj_map hw2,asInt,asIntOf,goInt,hidx,hmod,MapKept.run_setObj_map _ hw2,Result.andThen,setBlock]
     . intro u hu;have h1u:=C6 K F hkey w u h1;simp[Instr.mapUpdate,run_underlying ht,MapKept.run_getObj_map hu,K.check u false hkey,h1u,MapKept.run_setObj_map _ hu,Result.andThen,setBlock]
 . have hj:es[j]? =some e0:=by simpa using h2
   have hv:v=e0.val:=by
    simp[Instr.lookup,run_underlying ht,MapKept.run_getObj_map hb,K.check w _ hkey,h1,Result.andThen]at hrun
    exact hrun.symm
   have hsame:es.modify j (fun e=> {e with key:=key})=es:=by
    apply Array.ext'
    rw[Array.toList_modify,modify_eq_set _ _ _ _ h2];have:({e0 with key:=key}:MapEntry)=e0:=by rw[<-h3]
    rw[this];exact set_self _ _ _ h2
   refine⟨v,zs,e0.born,setBlock w b (.map es clock), ?_,Co hb _ _,by simp[setBlock],hat,hoi.kept (Co hb _ _) hvb,hzl, ?_,finish _ _ _ ?_⟩
   . rw[hv];simp[Instr.mapEntry,run_underlying ht,MapKept.run_getObj_map hb,K.check w false hkey,h1,hj,h3,K.stays w hkey,hsame,MapKept.run_setObj_map _ hb,Result.andThen,setBlock]
   . intro No hno g hg;exact hno es clock hb e0 (List.mem_of_getElem? h2) g (by rw[<-hv];exact hg)
   . intro w2 val hw2;refine⟨es.modify j (fun e'=> {e' with key:=key,val:=val}),clock, ?_, ?_⟩
     . have hidx:es.findIdx? (fun e=>((e.born:Nat):Int)==((e0.born:Nat):Int))=some j:=by
        rw[findIdx_arr];exact findIdx_born s2 h2
       have hmod:es.modify j (fun e=> {e with val:=val})=es.modify j (fun e'=> {e' with key:=key,val:=val}):=by
        apply Array.ext'
        rw[Array.toList_modify,Array.toList_modify,modify_eq_set _ _ _ _ h2,modify_eq_set _ _ _ _ h2,<-h3]
       simp[Instr.entryStore,MapKept.run_getObj_map hw2,asInt,asIntOf,goInt,hidx,hmod,MapKept.run_setObj_map _ hw2,Result.andThen,setBlock]
     . intro u hu;have h1u:=C6 K F hkey w u h1;simp[Instr.mapUpdate,run_underlying ht,MapKept.run_getObj_map hu,K.check u false hkey,h1u,hj,h3,K.stays u hkey,MapKept.run_setObj_map _ hu,Result.andThen,setBlock]
end Go.Proofs.YtleocpdblhbimaaGreatDoor
namespace Go.Proofs.YtleocpdblhbimaaGreatDoor
open Go.RowKit
set_option linter.unusedVariables false
set_option maxRecDepth 100000
theorem AV (w:World)(q r:Nat):(w.drewN q).drewN r=w.drewN (r+q):=by
 first|rfl|(simp[World.drewN];try omega)
theorem JR (p b o n cap i k nn m:Nat)(bs:List Nat)(w:World)(c0:w.cell? ⟨p,0,none⟩=some (.slice (some ⟨b,o,none⟩) n cap))(hB:Bytes w b o bs)(hl:bs.length=n)(hn:n<=3000)(hx:∀j,bs.getD j 0<256)(hik:i<k)(hnm:nn<m)(hkm:k+m<=n)(r:Nat)(hr:Hid (r=if bs.getD (i+nn) 0=bs.getD (k+nn) 0 then lcp bs i k m else 0)):
 Calls Tryz.prog 233 #[.pointer (some ⟨p,0,none⟩),.int .i64 (i:Int),.int .i64 (k:Int),.int .i64 (nn:Int),.int .i64 (m:Int)] w fun e w'=>e=.returned (.int .i64 (r:Int))/\∃q,w'=w.drewN q:=by
 have HL:=Ab hl;have HX:=Ab hx;have HB:=Ab hB;have ci:=hB (i+nn) (by omega);have ck:=hB (k+nn) (by omega);clear hB hx;rw[show o+(i+nn)=o+(i+nn) from rfl]at ci;go_enter Tryz.func233,Tryz.ntmps233
 go_wp2
 by_cases he:bs.getD (i+nn) 0=bs.getD (k+nn) 0
 . rw[if_pos he]at hr;have hb1:(((bs.getD (i+nn) 0:Nat):Int)!=((bs.getD (k+nn) 0:Nat):Int))=false:=by rw[he];simp
   clear he;generalize bs.getD (i+nn) 0=x at*;generalize bs.getD (k+nn) 0=y at*;go_quiet (fail)
   clear ci ck hb1;go_wp2;go_loopw [11] (fun s wr=>∃j q:Nat,j<=m/\s=.int .i64 (j:Int)/\(∀j',j'<j->bs.getD (i+j') 0=bs.getD (k+j') 0)/\wr=w.drewN q) (fun s _=>m-(intOf s).toNat)
   case atStart=>exact⟨0,nq,VK _,rfl,fun j' h=>by omega,rfl⟩
   case round=>
    obtain⟨j,q,hj,rfl,hs,rfl⟩:=hrel;have HS:=Ab hs;clear hs
    by_cases hlt:j<m
    . have hd:decide ((j:Int)<(m:Int))=true:=decide_eq_true (by omega);have ci:=(Aa HB) (i+j) (by omega)
      have ck:=(Aa HB) (k+j) (by omega)
      by_cases he:bs.getD (i+j) 0=bs.getD (k+j) 0
      . have HE:=Ab he;have hb1:(((bs.getD (i+j) 0:Nat):Int)==((bs.getD (k+j) 0:Nat):Int))=true:=by rw[he];simp
        clear he;generalize bs.getD (i+j) 0=x at ci ck hb1;generalize bs.getD (k+j) 0=y at ci ck hb1;go_wp2;go_quiet (fail)
        go_wp2;go_roundw
        case rel=>exact⟨j+1,_,by omega,by go_num,fun j' h=>by
         by_cases c:j'=j
         . subst c;exact Aa HE
         . exact Aa HS j' (by omega),rfl⟩
        case measure=>simp[intOf];omega
      . have HE:=Ab he;have hb1:(((bs.getD (i+j) 0:Nat):Int)==((bs.getD (k+j) 0:Nat):Int))=false:=by rw[beq_eq_false_iff_ne];omega
        clear he;generalize bs.getD (i+j) 0=x at ci ck hb1;generalize bs.getD (k+j) 0=y at ci ck hb1;go_wp2;go_quiet (fail)
        go_wp2;go_ret;exact⟨Cz (by rw[Aa hr,TL hj (Aa HS) (.inr (Aa HE))]),_,AV w q nq⟩
    . obtain rfl:m=j:=by omega
      have hd:decide ((m:Int)<(m:Int))=false:=decide_eq_false (by omega);go_wp2;go_quiet (fail)
      go_wp2;go_ret;exact⟨Cz (by rw[Aa hr,TL (VC _) (Aa HS) (.inl rfl)]),_,AV w q nq⟩
 . rw[if_neg he]at hr;have hb1:(((bs.getD (i+nn) 0:Nat):Int)!=((bs.getD (k+nn) 0:Nat):Int))=true:=by rw[bne_iff_ne];omega
   clear he;generalize bs.getD (i+nn) 0=x at*;generalize bs.getD (k+nn) 0=y at*;obtain rfl:=Aa hr;go_quiet (fail)
   go_wp2;go_ret;exact⟨rfl,nq,rfl⟩
theorem S8 (w:World):(zeroValue 76).run Tryz.prog w=.ok (.slice none 0 0) w:=by kernel_rfl
structure Mid (No:Nat->Prop)(B:Nat)(R w3:World)(p mb base b o n cap:Nat)(bs:List Nat)(j:Nat):Prop where
 pst:Pst w3 p (.slice (some ⟨b,o,none⟩) n cap) mb j
 grp:Grp w3 base mb bs (j+1)
 shun:w3.Shuns mb No
 row:Bytes w3 b o bs
 size:R.heap.size<=w3.heap.size
 room:base<=R.heap.size
 below:Below B R w3
 kp:Kp No R w3
theorem Mid.next {No:Nat->Prop}{B:Nat}{w R w3:World}{p mb base b o n cap j:Nat}{bs:List Nat}(M:Mid No B R w3 p mb base b o n cap bs j)(G:Geo No B p mb base b bs)(hB:Below B w R)(hK:Kp No w R)(hs:w.heap.size<=R.heap.size):
 Pas No (w3.setCell ⟨p,2,none⟩ (.int .i64 ((j:Int)+1))) p mb base b o n cap bs (j+1)/\Below B w (w3.setCell ⟨p,2,none⟩ (.int .i64 ((j:Int)+1)))/\Kp No w (w3.setCell ⟨p,2,none⟩ (.int .i64 ((j:Int)+1))):=by
 have hg:=Ad w3 p 2 (.int .i64 ((j:Int)+1));have hm:=M.grp.lt;have hb3:Below B w w3:=hB.trans (M.below);refine⟨⟨M.pst.set (j+1),M.grp.kept hg (fun i e=>by cases e;exact⟨G.pb,G.pm⟩),M.shun.kept hg hm.2 (fun e=>G.pm (by simpa using e.symm)),M.row.grown hg (fun e=>by have:=G.bB;have:=G.pB;simp at e;omega), ?_⟩, ?_, ?_⟩
 . exact WC M.room (WC M.size hg.size)
 . exact hb3.grown hg (by have:=hs;have:=M.size;have:=M.pst.lt;have:=G.pB;omega) (fun i e=>by cases e;exact G.pB)
 . exact(hK.trans M.kp hs).grown hg (WC hs M.size) (fun i e=>by cases e;exact G.nop)
theorem Uw (No:Nat->Prop)(B p mb base b o n cap j:Nat)(bs:List Nat)(R:World)(G:Geo No B p mb base b bs)(hl:bs.length=n)(hP:Pas No R p mb base b o n cap bs j)(hjn:j+3<=n)(hNo:∀g,R.heap.size<=g->¬No g)(x0 x1 x2:Nat)(HX:Gv bs j=(x0,x1,x2)):
 ∃(v:Value) (st:Nat) (w1:World),(Instr.mapEntry 290 (.map (some mb)) (.agg #[.int .u8 (x0:Int),.int .u8 (x1:Int),.int .u8 (x2:Int)])).run Tryz.prog R=.ok (.tuple #[v,.int .i64 (st:Int)]) w1/\R.grownBy w1 (some mb)/\w1.heap.size=R.heap.size/\
  ∀(W:World) (X:Nat),w1.grownBy W none->W.cell? ⟨X,0,none⟩=some (.int .i64 (j:Int))->∃(v':Value) (w2 w3:World),(∀ty,(Builtin.append_ #[76,76] ty #[v,.slice (some ⟨X,0,none⟩) 1 1]).run Tryz.prog W=.ok v' w2)/\
   (Instr.entryStore 290 (.map (some mb)) (.int .i64 (st:Int)) v').run Tryz.prog w2=.ok () w3/\Mid No B R w3 p mb base b o n cap bs j:=by
 obtain⟨i0,hi,hz0,hz1,hz2⟩:=info_parts Cc;have hn:=G.len;have ok:=N5 G.byte j;obtain⟨D,hD,hA⟩:=hP.grp;obtain⟨v,zs,st,w1,hrun,hg1,hs1,hat,hoi,hzl,hno,hback⟩:=E5 hD Z4u Tryz.underlying290 S8 (by unfold maxLen;omega) (Pd ok);have hzs:zs=(plc bs j (Gv bs j)).map fun x:Nat=>(x:Int):=Ua hoi (by rw[<-hat];exact(hA _ ok).symm)
 refine⟨v,st,w1, ?_,hg1,hs1, ?_⟩
 . rw[show (Value.agg #[.int .u8 (x0:Int),.int .u8 (x1:Int),.int .u8 (x2:Int)])=kv (Gv bs j) by rw[HX];rfl];exact hrun
 intro W X hW hX;have hbm:base<=w1.heap.size:=by rw[hs1];exact hP.size
 have hoW:W.ownsInts base 3 .i64 v zs:=hoi.kept hW (by cases hv:v.ownBlock with
  |none=>exact .inl rfl
  |some g=>exact .inr (by simp))
 obtain⟨v',w2,hrA,hown',hgrow,_,hspot⟩:=run_append_own_at W base 76 76 3 i0 (.int .i64 0) 1 8 Tryz.underlying76 hi hz0 hz1 hz2 rfl (by decide) v zs.length _ hoW.1 ⟨X,0,none⟩ 1 1 [.int .i64 (j:Int)] rfl (fun i u hi=>Pa hX hi) (Fd rfl) (by unfold maxLen;omega) (by omega) (WC hbm hW.size);have hoi':w2.ownsInts base 3 .i64 v' (zs++ [(j:Int)]):=hoW.appended hown' (WalkArith.wf_i64 (by omega));have hg12:w1.grownBy w2 v.ownBlock:=⟨hgrow.os.trans hW.os,hgrow.tape.trans hW.tape,hgrow.output.trans hW.output,WC hW.size hgrow.size,fun i h1 h2=>(hgrow.block i (VG h1 hW.size) h2).trans (hW.block i h1 (by simp))⟩
 obtain⟨w3,hrS,hG3,hg3,hsh⟩:=hback w2 v' _ hg12 hoi' (by simp;omega) (by
  rcases hspot with h|h
  . exact .inl h
  . exact .inr ⟨_,h,hW.size⟩)
 have hoi3:w3.ownsInts base 3 .i64 v' (zs++ [(j:Int)]):=hoi'.kept hg3 (by
  cases hv:v'.ownBlock with
  |none=>exact .inl rfl
  |some g=>
   refine .inr (fun e=> ?_);have:=(hoi'.1.lt g hv).1
   have:=hP.grp.lt.1
   cases e
   omega)
 have hvlt:∀g,v.ownBlock=some g->base<=g:=fun g e=>(hoi.1.lt g e).1
 have hblk:∀g,g<R.heap.size->g≠mb->v.ownBlock≠some g->w3.heap[g]? =R.heap[g]? :=by
  intro g h1 h2 h3;have h1':g<w1.heap.size:=by rw[hs1];exact h1
  rw[hg3.block g (VG h1' hg12.size) (fun e=>h2 (by simpa using e)),hg12.block g h1' (fun e=>h3 e.symm),hg1.block g h1 (fun e=>h2 (by simpa using e))]
 have hsz:R.heap.size<=w3.heap.size:=by
  have:=hg12.size
  have:=hg3.size
  omega
 have hpR:=hP.pst.lt;have hpv:v.ownBlock≠some p:=fun e=>by have:=hvlt p e;have:=G.pb;omega
 have hbv:v.ownBlock≠some b:=fun e=>by have:=hvlt b e;have:=G.pb;have:=G.bB;have:=G.pB;omega
 refine⟨v',w2,w3,fun ty=>hrA,hrS, ?_, ?_, ?_, ?_,hsz,hP.size, ?_, ?_⟩
 . exact(hblk p hpR G.pm hpv).trans hP.pst
 . exact Grp.step G.byte hA (C0 hD) hG3 hoi3 (by rw[hzs])
 . refine hsh No hP.shun ?_;intro g hg
   rcases hspot with h|h
   . exact hno No hP.shun g (by rw[<-h];exact hg)
   . rw[h]at hg
     cases hg
     have:=hW.size
     exact hNo _ (by omega)
 . intro i hi;have hbR:b<R.heap.size:=by have:=G.bB;have:=G.pB;omega
   have e:=hblk b hbR (by have:=G.bB;have:=G.mB;omega) hbv;have:=hP.row i hi
   unfold World.cell? at this ⊢;rw[e];exact this
 . refine⟨hg3.os.trans (hg12.os.trans hg1.os),hg3.tape.trans (hg12.tape.trans hg1.tape),hg3.output.trans (hg12.output.trans hg1.output),hsz, ?_⟩;intro g hg;have:=G.pB
   have:=G.mB
   exact hblk g (by omega) (by omega) (fun e=>by have:=hvlt g e;have:=G.pb;omega)
 . intro g hg hN;exact hblk g hg (fun e=>G.nom (by rw[<-e];exact hN)) (fun e=>hno No hP.shun g e hN)
theorem LW (No:Nat->Prop)(B p mb base b o n cap kn k:Nat)(bs:List Nat)(w:World)(G:Geo No B p mb base b bs)(hl:bs.length=n)(hcap:n<=cap)(hP:Pas No w p mb base b o n cap bs kn)(hk:kn<=k)(hkn:k+3<=n)(hNo:∀g,w.heap.size<=g->¬No g):
 Calls Tryz.prog 232 #[.pointer (some ⟨p,0,none⟩),.int .i64 (k:Int)] w fun e w'=>e=.returned (.tuple #[])/\Pas No w' p mb base b o n cap bs k/\Below B w w'/\Kp No w w':=by
 have HG:=Ab G;have HP:=Ab hP;have HN:=Ab hNo;have hn:=G.len;have hpm:=G.pm;clear G hP hNo;go_enter Tryz.func232,Tryz.ntmps232
 go_wp2;go_loopw [4] (fun _ wr=>∃j:Nat,kn<=j/\j<=k/\Pas No wr p mb base b o n cap bs j/\Below B w wr/\Kp No w wr) (fun _ wr=>k-((wr.cell? ⟨p,2,none⟩).map (fun v=>(intOf v).toNat)).getD 0)
 case atStart=>exact⟨kn,VC _,hk,Aa HP,Below.refl _ _,Kp.refl _ _⟩
 case round=>
  obtain⟨j,hj1,hj2,hPj,hBj,hKj⟩:=hrel;have HPj:=Ab hPj;have HBj:=Ab hBj;have HKj:=Ab hKj;have c2:=hPj.pst.cell2
  by_cases hlt:j<k
  . have c0:=hPj.pst.cell0;have c1:=hPj.pst.cell1;have b0:=hPj.row j (by omega);have b1:=hPj.row (j+1) (by omega);have b2:=hPj.row (j+2) (by omega);rw[<-WH]at b1 b2;have hsz:=hBj.size;have hpl:=hPj.pst.lt;have hbl:b<wr.heap.size:=Nat.lt_trans (VG (Aa HG).bB (Aa HG).pB) hpl;clear hPj hBj hKj;generalize hx0:bs.getD j 0=x0 at b0;generalize hx1:bs.getD (j+1) 0=x1 at b1;generalize hx2:bs.getD (j+2) 0=x2 at b2;have HX:Hid (Gv bs j=(x0,x1,x2)):=by rw[<-hx0,<-hx1,<-hx2];rfl
    clear hx0 hx1 hx2;have hcj:¬cap=j:=by omega
    have har:∀(a:Option Addr) (c:Nat) (W:World),(Instr.arrayAt 313 (.slice a (n-j) c)).run Tryz.prog W=.ok (.pointer a) W:=fun a c W=>run_arrayAt _ _ _ _ _ _ _ Tryz.underlying313 (by omega)
    go_wp2;go_big_region
    clear b0 b1 b2 har;have HPr:Hid (Pas No (wr.alloc (.cells #[.int .u8 (x0:Int),.int .u8 (x1:Int),.int .u8 (x2:Int)] 313)).drew p mb base b o n cap bs j):=((Aa HPj).grown (Aa HG) (World.grownBy_alloc wr _ none) (fun j e=>by cases e)).drewN 1;have HBr:Hid (Below B w (wr.alloc (.cells #[.int .u8 (x0:Int),.int .u8 (x1:Int),.int .u8 (x2:Int)] 313)).drew):=(Af ((Aa HBj).alloc (WC (WC (Aa HG).pB (Nat.le_of_lt (Aa HP).pst.lt)) hsz) (.cells #[.int .u8 (x0:Int),.int .u8 (x1:Int),.int .u8 (x2:Int)] 313)) 1)
    have HKr:Hid (Kp No w (wr.alloc (.cells #[.int .u8 (x0:Int),.int .u8 (x1:Int),.int .u8 (x2:Int)] 313)).drew):=((Aa HKj).grown (Br (World.grownBy_alloc wr (.cells #[.int .u8 (x0:Int),.int .u8 (x1:Int),.int .u8 (x2:Int)] 313) none)) hsz (fun j e=>by cases e))
    have q0:(wr.alloc (.cells #[.int .u8 (x0:Int),.int .u8 (x1:Int),.int .u8 (x2:Int)] 313)).drew.cell? ⟨wr.heap.size,0,none⟩=some (.int .u8 (x0:Int)):=by simp
    have q1:(wr.alloc (.cells #[.int .u8 (x0:Int),.int .u8 (x1:Int),.int .u8 (x2:Int)] 313)).drew.cell? ⟨wr.heap.size,1,none⟩=some (.int .u8 (x1:Int)):=by simp
    have q2:(wr.alloc (.cells #[.int .u8 (x0:Int),.int .u8 (x1:Int),.int .u8 (x2:Int)] 313)).drew.cell? ⟨wr.heap.size,2,none⟩=some (.int .u8 (x2:Int)):=by simp
    have hb4:wr.heap.size<(wr.alloc (.cells #[.int .u8 (x0:Int),.int .u8 (x1:Int),.int .u8 (x2:Int)] 313)).drew.heap.size:=by simp
    have hsr:w.heap.size<=(wr.alloc (.cells #[.int .u8 (x0:Int),.int .u8 (x1:Int),.int .u8 (x2:Int)] 313)).drew.heap.size:=by simp;omega
    clear c0 c1 HBj HKj;generalize (wr.alloc (.cells #[.int .u8 (x0:Int),.int .u8 (x1:Int),.int .u8 (x2:Int)] 313)).drew=r at*;generalize wr.heap.size=b4 at*;have d1:=(Aa HPr).pst.cell1;have d2:=(Aa HPr).pst.cell2;have hpr:=(Aa HPr).pst.lt;have HPd:Hid (Pas No r.drew p mb base b o n cap bs j):=(Aa HPr).drewN 1;have HPe:Hid (Pas No (r.alloc (.cells #[.int .i64 (j:Int)] 3)).drew p mb base b o n cap bs j):=((Aa HPr).grown (Aa HG) (World.grownBy_alloc r _ none) (fun j e=>by cases e)).drewN 1;obtain⟨vA,stA,wA,eA,gA,sA,fA⟩:=Uw No B p mb base b o n cap j bs r.drew (Aa HG) hl (Aa HPd) (by omega) (fun g h=>Aa HN g (WC hsr h)) x0 x1 x2 (Aa HX);obtain⟨vA',w2A,w3A,aA,tA,mA⟩:=fA (wA.alloc (.cells #[.int .i64 (j:Int)] 3)) wA.heap.size (World.grownBy_alloc _ _ _) (by simp);obtain⟨vB,stB,wB,eB,gB,sB,fB⟩:=Uw No B p mb base b o n cap j bs (r.alloc (.cells #[.int .i64 (j:Int)] 3)).drew (Aa HG) hl (Aa HPe) (by omega) (fun g h=>Aa HN g (WC (WC hsr (by simp)) h)) x0 x1 x2 (Aa HX)
    obtain⟨vB',w2B,w3B,aB,tB,mB⟩:=fB wB r.heap.size (Au _ _) (gB.cell (by simp) (by
     have:=(Aa HPr).grp.lt.2
     simp;omega))
    have d2A:=gA.cell (a:=⟨p,2,none⟩) d2 (by simpa using hpm);replace aA:=aA 76;replace aB:=aB 76;simp[go_sem]at aA aB
    have MA:=Ab mA;have MB:=Ab mB;clear fA fB mA mB gA gB;have ccA:=(Aa MA).pst.cell2;have ffA:=(Aa MA).pst.frozen 2;have ccB:=(Aa MB).pst.cell2;have ffB:=(Aa MB).pst.frozen 2;have FA:=Ab ((Aa MA).next (Aa HG) (Af (Aa HBr) 1) (Aa HKr) hsr);have FB:=Ab ((Aa MB).next (Aa HG) (Af ((Aa HBr).alloc (WC (Aa HG).pB (Nat.le_of_lt hpr)) (.cells #[.int .i64 (j:Int)] 3)) 1) ((Aa HKr).grown (Br (World.grownBy_alloc r (.cells #[.int .i64 (j:Int)] 3) none)) hsr (fun j e=>by cases e)) (WC hsr (by simp)));go_wp2;go_big_region
    all_goals clear aA aB eA eB tA tB q0 q1 q2 d1 d2 d2A
    all_goals
     go_wp2;go_roundw
     case rel=>first|exact⟨j+1,by omega,by omega,Aa FA⟩|exact⟨j+1,by omega,by omega,Aa FB⟩
     case measure=>
      rw[c2]
      first|rw[(Aa FA).1.pst.cell2]|rw[(Aa FB).1.pst.cell2]
      simp[intOf];omega
  . obtain rfl:k=j:=by omega
    clear hPj hBj hKj;go_wp2;go_end0
    exact⟨rfl,Aa HPj,Aa HBj,Aa HKj⟩
end Go.Proofs.YtleocpdblhbimaaGreatDoor
