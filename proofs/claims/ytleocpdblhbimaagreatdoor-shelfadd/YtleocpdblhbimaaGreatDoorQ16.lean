import Derived.Maps.GroupsBeside
import Derived.WideKeyEntry
import Derived.Test.YtleocpdblhbimaaGreatDoorQ9
set_option linter.unusedVariables false
set_option linter.unusedSimpArgs false
set_option maxRecDepth 100000
set_option maxHeartbeats 2000000
namespace Go.Proofs.YtleocpdblhbimaaGreatDoor
open Go.Value renaming int->so,slice->va,pointer->vc,tuple->vd,agg->vf
open Go.IntKind renaming i64->vh,u8->vi
open Go.Obj renaming cells->vl
open Go.Ending renaming returned->vm
open Option renaming none->vn,some->vp
open Bool renaming false->vq
open Go renaming World->wd,Value->vt,Calls->vu,IntKind->vv,Addr->vw
open Go.RowKit renaming Below->vx,intOf->vy,Hid->vz
open Go.Proofs.Tryz renaming prog->v8
section
open Go.RowKit Go.Proofs.Tryz Go.Maps Go.WideMaps Go.ChangeShapes
variable{Z xs:List Int}{af bs:List Nat}{G aa ac b base n o p:Nat}{No:Nat->Prop}{r:Option Nat}{E v v':Value}{w w':World}
theorem Zhi:ArrKey v8 313 5 3:=⟨underlying313,oR,oR,oR⟩
theorem Zhf:Keyed v8 313:=Keyed.of_law Zhi.law
theorem Zgl:∃m,Tryz.prog.types.size=m+1:=⟨Tryz.prog.types.size-1,by have:0<Tryz.prog.types.size:=LN oR;omega⟩
abbrev C3:=Nat×Nat×Nat
def Zg2(c:C3):Array Value:= #[.int .u8 (c.1:Int),.int .u8 (c.2.1:Int),.int .u8 (c.2.2:Int)]
def kv(c:C3):Value:=.agg (Zg2 c)
def kl(c:C3):Lit:=.string (keyBytes [.int .u8 (c.1:Int),.int .u8 (c.2.1:Int),.int .u8 (c.2.2:Int)])
def Ok3(c:C3):Prop:=c.1<256/\c.2.1<256/\c.2.2<256
theorem Zf9(E:∀j,bs.getD j 0<256)(p:Nat):Ok3 (B7 bs p):=⟨E _,E _,E _⟩
theorem Zgr{x:Nat}(h:x<256):(Lit.int .u8 x).wf=true:=by exact qBI
theorem Z4e{c:C3}(h:Ok3 c):keyOf v8 313 (kv c)=vp (kl c):=by have A:=Zhi;have G:=A.keyType Zgl;obtain⟨m,hm⟩:=Zgl;have E:Tryz.prog.underlying 5=vp (.int .u8):=underlying5;have F:=Zgr h.1;have H:=Zgr h.2.1;have w3:=Zgr h.2.2;unfold keyOf kv kl Zg2;simp only[A.hu];rw[A1 (by simp[G,Value.formed,A.hu,A.size]),hm];unfold Program.keyLits;simp only[A.hu,Value.cells];rw[A1 (by rw[A.size];rfl),show List.range 3= [0,1,2] from rfl,List.mapM_cons,List.mapM_cons,List.mapM_cons,List.mapM_nil];simp[A.one,Program.keyLits,E,F,H,w3]
theorem Zh8{c d:C3}(F:Ok3 c)(E:Ok3 d)(h:kl c=kl d):c=d:=by have:=Zhf.inj (Z4e F) (by rw[h];exact Z4e E);obtain⟨c1,c2,I⟩:=c;obtain⟨d1,G,H⟩:=d;simp[kv,Zg2]at this;simp only[ZH];omega
theorem Zh7(c:C3):WideAt.IsKeyLit (kl c):=by first|trivial|exact⟨⟩|(unfold kl WideAt.IsKeyLit;simp)
def datum(zs:List Nat):DataW Unit:=match zs with| []=>.nil|z::r=>.slice (lits .i64 ((z::r).map λx:Nat=>(x:Int))) []
abbrev Zga(w:wd)(base mb n:Nat)(D:DataW Unit):Prop:=w.ownsGroups v8 313 base 3 .i64 mb n D
def Grp(w:wd)(base mb:Nat)(bs:List Nat)(kn:Nat):Prop:=∃D:DataW Unit,Zga w base mb kn D/\∀c,Ok3 c->D.atKey (kl c) .nil=datum (FB bs kn c)
theorem Zex{E:DataW Unit}(h:Zga w base ac n E):IsMap E:=by obtain⟨es,clock,hb,F,_,rfl,_⟩:=h;exact⟨_,rfl⟩
theorem Zgh{ys:List Int}(h:lits (H:=Unit) .i64 xs=lits .i64 ys):xs=ys:=by unfold lits at h;exact(List.map_inj_right (λa b E=>by simpa using E)).1 h
theorem Zem(E:w.ownsInts base 3 .i64 v Z)(h:datum af=rowDatum .i64 v Z):Z=af.map λx:Nat=>(x:Int):=by
 cases af with
 |nil=>(rcases E.datum (H:=Unit)with ⟨_,e⟩|e);rw[e];rfl;rw[e]at h;simp[datum]at h
 |cons z r=>(rcases E.datum (H:=Unit)with ⟨e,_⟩|e);rw[e]at h;simp[datum]at h;rw[e]at h;simp only[datum,DataW.slice.injEq,and_true]at h;exact(Zgh h).symm
theorem Grp.made(w:wd)(base:Nat)(bs:List Nat)(E:w.heap.size<base):Grp (w.alloc (.map #[] 0)) base w.heap.size bs 0:=by refine⟨.map [],⟨#[],0,(MapKept.heap_alloc w _).1,⟨oS,MapKept.stamped_empty 0,oS⟩,VA _,rfl,E,oS,oS⟩,?_⟩;intro c _;simp[FB,datum,DataW.atKey]
theorem Grp.kept{row:Option Nat}(h:Grp w base ac bs G)(H:w.grownBy w' row)(E:∀j,row=vp j->j<base/\j≠ac):Grp w' base ac bs G:=by obtain⟨D,F,I⟩:=h;refine⟨D,F.kept H ?_ (F.rowsAbove (λj e=>(E j e).1)),I⟩;intro e;exact(E ac e.symm).2 rfl
theorem Grp.lt(h:Grp w base ac bs G):ac<base/\ac<w.heap.size:=by obtain⟨D,⟨es,clock,hb,F,_,rfl,E,_⟩,_⟩:=h;exact⟨E,(VD.1 hb).1⟩
theorem Grp.step{E:DataW Unit}(O:∀j,bs.getD j 0<256)(U:∀c,Ok3 c->E.atKey (kl c) .nil=datum (FB bs ac c))(I:IsMap E) (aa:Zga w base G (ac+1) (E.put (kl (B7 bs ac)) (rowDatum .i64 v' Z))) (H:w.ownsInts base 3 .i64 v' Z) (F:Z=((FB bs ac (B7 bs ac)).map λx:Nat=>(x:Int))++ [(ac:Int)]):Grp w base G bs (ac+1):=by
 refine⟨_,aa,?_⟩;intro c hc;rw[Zge];by_cases e:B7 bs ac=c
 . subst e;rw[A1 rfl,atKey_put_same I (Zh7 _),H.datum_pos (by rw[F];simp),F]
   cases ae:FB bs ac (B7 bs ac)with
   |nil=>simp[datum]
   |cons z r=>simp[datum]
 rw[A0 e,XB,atKey_put_other (λh=>e (Zh8 hc (Zf9 O ac) h).symm),U c hc]
def Pst(w:wd)(b:Nat)(bv:vt)(mb kn:Nat):Prop:=w.heap[b]? =vp (vl #[bv,.map (vp mb),.int .i64 kn] 292 (0,0))
theorem Pst.cell0(h:Pst w b E ac G):w.cell? ⟨b,0,vn⟩=vp E:=Ac h
theorem Pst.cell1(h:Pst w b E ac G):w.cell? ⟨b,1,vn⟩=vp (.map (vp ac)):=Ac h
theorem Pst.cell2(h:Pst w b E G ac):w.cell? ⟨b,2,vn⟩=vp (.int .i64 ac):=Ac h
theorem Pst.frozen(h:Pst w b E ac G)(j:Nat):w.frozen? ⟨b,j,vn⟩=false:=B1 w b j _ _ h
theorem Pst.lt(h:Pst w b E ac G):b<w.heap.size:=(VD.1 h).1
theorem Pst.grown(h:Pst w b E ac G)(H:w.grownBy w' r)(F:vp b≠r):Pst w' b E ac G:=(H.block b h.lt F).trans h
theorem Pst.set(h:Pst w b E ac G)(q:Nat):Pst (w.setCell ⟨b,2,vn⟩ (.int .i64 q)) b E ac q:=by unfold Pst;rw[CR w b 2 _ _ _ h];rfl
structure Geo(No:Nat->Prop)(B p mb base b:Nat)(bs:List Nat):Prop where
 bB:b<B
 pB:B<=p
 mB:B<=mb
 pm:p≠mb
 pb:p<base
 nop:¬No p
 nom:¬No mb
 len:bs.length<=3000
 byte:∀j,bs.getD j 0<256
structure pdT(No:Nat->Prop)(w:wd)(p mb base b o n cap:Nat)(bs:List Nat)(kn:Nat):Prop where
 pst:Pst w p (.slice (vp ⟨b,o,vn⟩) n cap) mb kn
 grp:Grp w base mb bs kn
 shun:w.Shuns mb No
 row:Bytes w b o bs
 size:base<=w.heap.size
theorem pdT.drewN(h:pdT No w p ac base b o n G bs aa)(q:Nat):pdT No (w.drewN q) p ac base b o n G bs aa:=by have E:w.grownBy (w.drewN q) none:=⟨rfl,rfl,rfl,VA _,λ_ _ _=>rfl⟩;exact⟨h.pst,h.grp.kept E (λj e=>by cases e),h.shun,h.row,h.size⟩
theorem pdT.grown{B:Nat}(h:pdT No w p ac base b o n G bs aa)(ah:Geo No B p ac base b bs)(F:w.grownBy w' r)(E:∀j,r=vp j->j≠p/\j≠ac/\j≠b/\(No j\/j<base)):pdT No w' p ac base b o n G bs aa:=by
 obtain⟨D,af,ag⟩:=h.grp;have U:vp ac≠r:=λe=>(E ac e.symm).2.1 rfl;refine⟨h.pst.grown F (λe=>(E p e.symm).1 rfl),⟨D,af.kept F U ?_,ag⟩,h.shun.kept F h.grp.lt.2 U,h.row.grown F (λe=>(E b e.symm).2.2.1 rfl),WJ h.size F.size⟩;intro es clock hb x ae
 cases H:x.val.ownBlock with
 |none=>exact .inl rfl
 |some g=>
  refine .inr (λI=> ?_);rcases(E g I.symm).2.2.2 with Z|Z;exact h.shun es clock hb x ae g H Z
  . rcases af.rowsAbove (row:=r) (λj e=>by
     by_cases c:j<base
     . exact c
     . have:=(E j e)
       rw[<-I]at e
       cases e
       omega) es clock hb x ae with O|O
    (. rw[O]at H;cases H);exact O (by rw[H];exact I)
end
section
open Go.RowKit Go.Proofs.Tryz Go.Maps Go.WideElems Go.MapKept Go.ChangeMaps
variable{ac b base n:Nat}{w:World}
theorem Zey{H:Type}{P:Program}{k:TypeId}(K:Keyed P k){R:vt->Option (DataW H×List MemPlace)}{I:Array MapEntry}(F:Fit P k R I ac){x:vt}{af:Lit}(ae:keyOf P k x=vp af)(w w':wd){r:Option (Nat×vt)} (h:(Instr.findKey k x I.toList).run P w=.ok r w):(Instr.findKey k x I.toList).run P w'=.ok r w':=by(rcases K.find w ae I.toList F.keys with ⟨U,G⟩|⟨j,e0,U,G,aa⟩<;>rcases K.find w' ae I.toList F.keys with ⟨O,E⟩|⟨i,ag,O,E,Z⟩);(. rw[U]at h;cases h;exact O);exact absurd Z (G ag (YR E));exact absurd aa (E e0 (YR G));. (have e:i=j:=by by_cases c:i=j;exact c;exact absurd (Z.trans aa.symm) (other_key F G E c));subst e;rw[G]at E;cases E;rw[U]at h;cases h;exact O
theorem Zej(w:wd)(b:Nat)(x y:Obj):setBlock (setBlock w b x) b y=setBlock w b y:=by simp[setBlock]
theorem Jy{G:Array MapEntry}(H:w.heap[b]? =vp (.map G ac))(I:Array MapEntry)(F:Nat):w.grownBy (setBlock w b (.map I F)) (vp b):=
 ⟨rfl,rfl,rfl,by simp[setBlock],λi _ hi=>heap_setBlock_other H _ (λE=>hi (by rw[E]))⟩
def Zf2{H:Type}(w w1:wd)(P:Program)(t k:TypeId)(base:Nat)(e:TypeId)(q:vv)(b n st:Nat)(D:DataW H)(kl:Lit)(v:vt):Prop:=
 ∀(w2:wd) (v':vt) (zs':List Int),w1.grownBy w2 v.ownBlock->w2.ownsInts base e q v' zs'->zs'.length<=n+1->(v'.ownBlock=v.ownBlock\/∃g,v'.ownBlock=vp g/\w1.heap.size<=g)->
  ∃w3,(Instr.entryStore t (.map (vp b)) (goInt st) v').run P w2=.ok () w3/\w3.ownsGroups P k base e q b (n+1) (D.put kl (rowDatum q v' zs'))/\w2.grownBy w3 (vp b)/\
   (∀No:Nat->Prop,w.Shuns b No->(∀g,v'.ownBlock=vp g->¬No g)->w3.Shuns b No)
theorem Zez{H:Type}{P:Program}{t E k e:TypeId}{q:vv}{ap:DataW H}{key:vt}{aw:Lit}(h:w.ownsGroups P k base e q b n ap)(K:Keyed P k)(ae:P.underlying t=vp (.map k E))(a5:∀u:wd,(zeroValue E).run P u=.ok (.slice vn 0 0) u)(bh:n<maxLen)(I:keyOf P k key=vp aw):∃(v:vt) (af:List Int) (st:Nat) (ag:wd),(Instr.mapEntry t (.map (vp b)) key).run P w=.ok (.tuple #[v,goInt st]) ag/\w.grownBy ag (vp b)/\ag.heap.size=w.heap.size/\ap.atKey aw .nil=rowDatum q v af/\ag.ownsInts base e q v af/\af.length<=n/\(∀No:Nat->Prop,w.Shuns b No->∀g,v.ownBlock=vp g->¬No g)/\Zf2 w ag P t k base e q b n st ap aw v:=by
 obtain⟨v,af,ar,ba,a9,bf,b9⟩:=h.at K ae (a5 w) bh I;obtain⟨es,clock,hb,F,cd,_,cq,_⟩:=h;have bk:b<w.heap.size:=(VD.1 hb).1
 have ay:v.ownBlock=vn\/v.ownBlock≠vp b:=by
  cases ac:v.ownBlock with
  |none=>exact .inl rfl
  |some g=>refine .inr (λaa=> ?_);have:=(a9.1.lt g ac).1;cases aa;omega
 obtain⟨b8,bd,_⟩:=F.stamped
 have finish:∀(ai:Array MapEntry) (ah st:Nat),
  (∀(U:wd) (val:vt),U.heap[b]? =vp (.map ai ah)->∃aj ak,(Instr.entryStore t (.map (vp b)) (goInt st) val).run P U=.ok () (setBlock U b (.map aj ak))/\
   ∀u:wd,u.heap[b]? =vp (.map es clock)->(Instr.mapUpdate t (.map (vp b)) key val).run P u=.ok () (setBlock u b (.map aj ak)))->
  Zf2 w (setBlock w b (.map ai ah)) P t k base e q b n st ap aw v:=by
  intro ai ah st bq U v' bb O bg b7 bw
  have ao:(setBlock w b (.map ai ah)).heap.size=w.heap.size:=by simp[setBlock]
  have av:U.heap[b]? =vp (.map ai ah):=by
   rw[O.block b (by rw[ao];exact bk) (λaa=>by
    rcases ay with G|G
    . rw[G]at aa;cases aa
    . exact G aa.symm)]
   exact heap_setBlock_same hb _
  obtain⟨aj,ak,b5,b0⟩:=bq U v' av
  have a8:(setBlock U b (.map es clock)).heap[b]? =vp (.map es clock):=heap_setBlock_same av _
  have a6:=Jy av es clock
  have bo:w.grownBy (setBlock U b (.map es clock)) v.ownBlock:=by
   refine⟨O.os,O.tape,O.output,?_,?_⟩
   . have:=O.size
     rw[ao]at this
     exact WJ this a6.size
   . intro i hi hr
     by_cases c:i=b
     . subst c
       rw[a8,hb]
     . rw[a6.block i (by have:=O.size;rw[ao]at this;omega) (λaa=>c (by simpa using aa)),O.block i (by rw[ao];exact hi) hr]
       exact heap_setBlock_other hb _ c
  have co:(setBlock U b (.map es clock)).ownsInts base e q v' bb:=bg.kept a6 (by
   cases ac:v'.ownBlock with
   |none=>exact .inl rfl
   |some g=>
    refine .inr (λaa=> ?_)
    have:=(bg.1.lt g ac).1
    cases aa
    omega)
  obtain⟨w3,a3,bm,cp⟩:=b9 _ v' bb bo co b7 (by
   rcases bw with G|⟨g,G,Z⟩
   . exact .inl G
   . exact .inr ⟨g,G,by rw[ao]at Z;exact Z⟩)
  have cg:=stored_who K ae a8 F (UJ cd bh) I a3
  rw[b0 _ a8,Zej]at a3
  obtain rfl:setBlock U b (.map aj ak)=w3:=by simpa using a3
  refine⟨_,b5,bm,Jy av aj ak,?_⟩
  intro No ax bu cj b4 bj x a7 g bc
  obtain⟨cn,bn,cm,bv⟩:=cg
  obtain⟨rfl,rfl⟩:cn=cj/\bn=b4:=by rw[cm]at bj;simpa using bj
  rcases bv x a7 with ⟨ci,_⟩|⟨_,bz⟩
  . exact ax es clock hb x ci g bc
  . exact bu g (by rw[<-bz];exact bc)
 (rcases K.find w I es.toList F.keys with ⟨G,Z⟩|⟨j,e0,G,Z,au⟩);(. (have ac:v=.slice vn 0 0:=by simp[Instr.lookup,run_underlying ae,MapKept.run_getObj_map hb,K.check w _ I,G,a5 w,Result.andThen]at ar;exact ar.symm);refine⟨v,af,clock,setBlock w b (.map (es.push ⟨key,v,clock⟩) (clock+1)),?_,Jy hb _ _,by simp[setBlock],ba,a9.kept (Jy hb _ _) ay,bf,?_,finish _ _ _ ?_⟩;rw[ac];simp[Instr.mapEntry,run_underlying ae,MapKept.run_getObj_map hb,K.check w vq I,G,a5,MapKept.run_setObj_map _ hb,Result.andThen,setBlock];(. intro No _ g O;rw[ac]at O;cases O);intro U val ua;refine⟨es.push ⟨key,val,clock⟩,clock+1,?_,?_⟩;(have ub:(es.push ⟨key,v,clock⟩).findIdx? (λe=>((e.born:Nat):Int)==((clock:Nat):Int))=vp es.size:=by rw[findIdx_arr];have:=findIdx_born (l:=(es.push ⟨key,v,clock⟩).toList) (j:=es.size) (e0:=⟨key,v,clock⟩) (by simp only[Array.toList_push,XC,WN,YT];refine List.nodup_append.2 ⟨bd,oS,λa ck c hc aa=> ?_⟩;simp only[WR]at hc;obtain⟨x,a7,rfl⟩:=WU.1 ck;have:=b8 x a7;omega) oS;exact this);(have uc:(es.push ⟨key,v,clock⟩).modify es.size (λe=> {e with val:=val})=es.push ⟨key,val,clock⟩:=by apply Array.ext';rw[Array.toList_modify,Array.toList_push,Array.toList_push,<-Array.length_toList,modify_last]);exact qBE;intro u al;have az:=Zey K F I w u G;simp[Instr.mapUpdate,run_underlying ae,MapKept.run_getObj_map al,K.check u vq I,az,MapKept.run_setObj_map _ al,Result.andThen,setBlock]);(have bi:es[j]? =vp e0:=by simpa using Z);(have ac:v=e0.val:=by simp[Instr.lookup,run_underlying ae,MapKept.run_getObj_map hb,K.check w _ I,G,Result.andThen]at ar;exact ar.symm);(have ce:es.modify j (λe=> {e with key:=key})=es:=by apply Array.ext';rw[Array.toList_modify,modify_eq_set _ _ _ _ Z];(have:({e0 with key:=key}:MapEntry)=e0:=by rw[<-au]);rw[this];exact set_self _ _ _ Z);refine⟨v,af,e0.born,setBlock w b (.map es clock),?_,Jy hb _ _,by simp[setBlock],ba,a9.kept (Jy hb _ _) ay,bf,?_,finish _ _ _ ?_⟩;rw[ac];simp[Instr.mapEntry,run_underlying ae,MapKept.run_getObj_map hb,K.check w vq I,G,bi,au,K.stays w I,ce,MapKept.run_setObj_map _ hb,Result.andThen,setBlock];intro No ax g O;exact ax es clock hb e0 (YR Z) g (by rw[<-ac];exact O);intro U val ua;refine⟨es.modify j (λa4=> {a4 with key:=key,val:=val}),clock,?_,?_⟩;(have ub:es.findIdx? (λe=>((e.born:Nat):Int)==((e0.born:Nat):Int))=vp j:=by rw[findIdx_arr];exact findIdx_born bd Z);(have uc:es.modify j (λe=> {e with val:=val})=es.modify j (λa4=> {a4 with key:=key,val:=val}):=by apply Array.ext';rw[Array.toList_modify,Array.toList_modify,modify_eq_set _ _ _ _ Z,modify_eq_set _ _ _ _ Z,<-au]);exact qBE;intro u al;have az:=Zey K F I w u G;simp[Instr.mapUpdate,run_underlying ae,MapKept.run_getObj_map al,K.check u vq I,az,bi,au,K.stays u I,MapKept.run_setObj_map _ al,Result.andThen,setBlock]
end
section
open Go.RowKit Go.Proofs.Tryz
variable{bs:List Nat}{G aa ac b base g j k m n o p:Nat}{No No':Nat->Prop}{a:Option Addr}{r:Option Nat}{O W w:World}
theorem Zfh(w:wd)(q r:Nat):(w.drewN q).drewN r=w.drewN (r+q):=by first|rfl|(simp[World.drewN];try omega)
theorem Zfz(p:Nat)(ai i:Nat)(w:wd)(aw:w.cell? ⟨p,0,vn⟩=vp (va (vp ⟨b,o,vn⟩) n ai))(U:Bytes w b o bs)(aj:bs.length=n)(au:n<=3000)(ag:∀j,bs.getD j 0<256)(ap:i<k)(av:ac<m)(ao:k+m<=n){r:Nat}(O:vz (r=if bs.getD (i+ac) 0=bs.getD (k+ac) 0 then lcp bs i k m else 0)):vu v8 233 #[vc (vp ⟨p,0,vn⟩),so vh i,so vh k,so vh ac,so vh m] w λe w'=>e=vm (so vh r)/\∃q,w'=w.drewN q:=by
 obtain⟨ar,ax,ae⟩:=Bq aj ag U;have H:=U (i+ac) om;have I:=U (k+ac) om;clear U ag;rw[show o+(i+ac)=o+(i+ac) from rfl]at H;go_enter func233,ntmps233;go_wp2;by_cases E:bs.getD (i+ac) 0=bs.getD (k+ac) 0
 . rw[A1 E]at O;(have F:(((bs.getD (i+ac) 0:Nat):Int)!=((bs.getD (k+ac) 0:Nat):Int))=false:=by rw[E];simp);clear E;generalize bs.getD (i+ac) 0=x at*;generalize bs.getD (k+ac) 0=y at*;go_quiet (fail);clear H I F;go_wp2;go_loopw [11] (λs wr=>∃j q:Nat,j<=m/\s=so vh j/\(∀G,G<j->bs.getD (i+G) 0=bs.getD (k+G) 0)/\wr=w.drewN q) (λs _=>m-(vy s).toNat);exact⟨0,nq,VF _,rfl,λG h=>om,rfl⟩;obtain⟨j,q,ak,rfl,af,rfl⟩:=hrel;have Z:=Ab af;clear af;by_cases al:j<m
   . have ah:decide ((j:Int)<m)=true:=H6 om;have H:=(Aa ae) (i+j) om;have I:=(Aa ae) (k+j) om;by_cases E:bs.getD (i+j) 0=bs.getD (k+j) 0
     . have aa:=Ab E;(have F:(((bs.getD (i+j) 0:Nat):Int)==((bs.getD (k+j) 0:Nat):Int))=true:=by rw[E];simp);clear E;generalize bs.getD (i+j) 0=x at H I F;generalize bs.getD (k+j) 0=y at H I F;go_wp2;go_quiet (fail);go_wp2;go_roundw
       . exact⟨j+1,_,om,by go_num,λG h=>by
          by_cases c:G=j
          . subst c;exact Aa aa
          . exact Z G om,rfl⟩
       simp[vy];omega
     . have aa:=Ab E;have F:(((bs.getD (i+j) 0:Nat):Int)==((bs.getD (k+j) 0:Nat):Int))=false:=sV;clear E;generalize bs.getD (i+j) 0=x at H I F;generalize bs.getD (k+j) 0=y at H I F;go_wp2;go_quiet (fail);go_wp2;go_ret;exact⟨Bm (by rw[Aa O,Zgo ak (Aa Z) (.inr (Aa aa))]),_,Zfh w q nq⟩
   . obtain rfl:m=j:=om;have ah:decide ((m:Int)<m)=false:=H2 om;go_wp2;go_quiet (fail);go_wp2;go_ret;exact⟨Bm (by rw[Aa O,Zgo (VA _) (Aa Z) (.inl rfl)]),_,Zfh w q nq⟩
 . rw[A0 E]at O;(have F:(((bs.getD (i+ac) 0:Nat):Int)!=((bs.getD (k+ac) 0:Nat):Int))=true:=by rw[HV];omega);clear E;generalize bs.getD (i+ac) 0=x at*;generalize bs.getD (k+ac) 0=y at*;obtain rfl:=Aa O;go_quiet (fail);go_wp2;go_ret;exact⟨rfl,nq,rfl⟩
theorem Zfc(w:wd):(zeroValue 76).run v8 w=.ok (va vn 0 0) w:=oR
structure Mid(No:Nat->Prop)(B:Nat)(R w3:wd)(p mb base b o n cap:Nat)(bs:List Nat)(j:Nat):Prop where
 pst:Pst w3 p (va (vp ⟨b,o,vn⟩) n cap) mb j
 grp:Grp w3 base mb bs (j+1)
 shun:w3.Shuns mb No
 row:Bytes w3 b o bs
 size:R.heap.size<=w3.heap.size
 room:base<=R.heap.size
 below:vx B R w3
 kp:Kp No R w3
theorem Mid.next{B:Nat}{R:wd}(M:Mid No B R O p ac base b o n G bs j)(E:Geo No B p ac base b bs)(I:vx B w R)(hK:Kp No w R)(H:w.heap.size<=R.heap.size):pdT No (O.setCell ⟨p,2,vn⟩ (so vh ((j:Int)+1))) p ac base b o n G bs (j+1)/\vx B w (O.setCell ⟨p,2,vn⟩ (so vh ((j:Int)+1)))/\Kp No w (O.setCell ⟨p,2,vn⟩ (so vh ((j:Int)+1))):=by have F:=Ad O p 2 (so vh ((j:Int)+1));have hm:=M.grp.lt;have U:vx B w O:=I.trans (M.below);refine⟨⟨M.pst.set (j+1),M.grp.kept F (λi e=>by cases e;exact⟨E.pb,E.pm⟩),M.shun.kept F hm.2 (λe=>E.pm (by simpa using e.symm)),M.row.grown F (λe=>by have:=E.bB;have:=E.pB;simp at e;omega),?_⟩,?_,?_⟩;exact WJ M.room (WJ M.size F.size);exact U.grown F (by have:=H;have:=M.size;have:=M.pst.lt;have:=E.pB;omega) (λi e=>by cases e;exact E.pB);exact(hK.trans M.kp H).grown F (WJ H M.size) (λi e=>by cases e;exact E.nop)
theorem Zen{B:Nat}(R:wd)(E:Geo No B p ac base b bs)(cd:bs.length=n)(H:pdT No R p ac base b o n G bs j)(b9:j+3<=n)(bg:∀g,R.heap.size<=g->¬No g)(ak au ar:Nat)(b7:B7 bs j=(ak,au,ar)):∃(v:vt) (st:Nat) (I:wd),(Instr.mapEntry 290 (.map (vp ac)) (vf #[so vi ak,so vi au,so vi ar])).run v8 R=.ok (vd #[v,so vh st]) I/\R.grownBy I (vp ac)/\I.heap.size=R.heap.size/\∀(W:wd) (X:Nat),I.grownBy W vn->W.cell? ⟨X,0,vn⟩=vp (so vh j)->∃(v':vt) (U w3:wd),(∀a6,(Builtin.append_ #[76,76] a6 #[v,va (vp ⟨X,0,vn⟩) 1 1]).run v8 W=.ok v' U)/\(Instr.entryStore 290 (.map (vp ac)) (so vh st) v').run v8 U=.ok () w3/\Mid No B R w3 p ac base b o n G bs j:=by
 obtain⟨bm,hi,bb,bj,bk⟩:=EM Ce;have hn:=E.len;have ok:=Zf9 E.byte j;obtain⟨D,ax,ay⟩:=H.grp;obtain⟨v,aa,st,I,bn,ag,ap,bh,av,b8,aw,bu⟩:=Zez ax Zhf underlying290 Zfc ou (Z4e ok);have bz:aa=(FB bs j (B7 bs j)).map λx:Nat=>(x:Int):=Zem av (by rw[<-bh];exact(ay _ ok).symm);refine⟨v,st,I,?_,ag,ap,?_⟩;rw[show (vf #[so vi ak,so vi au,so vi ar])=kv (B7 bs j) by rw[b7];rfl];exact bn;intro W X F bf;have bd:base<=I.heap.size:=by rw[ap];exact H.size
 have az:W.ownsInts base 3 vh v aa:=av.kept F (by cases a7:v.ownBlock with
  |none=>exact .inl rfl
  |some g=>exact .inr oS)
 obtain⟨v',U,bo,bw,ah,_,a4⟩:=run_append_own_at W base 76 76 3 bm (so vh 0) 1 8 underlying76 hi bb bj bk rfl od v aa.length _ az.1 ⟨X,0,vn⟩ 1 1 [so vh j] rfl (λi u hi=>Rm bf hi) (Df rfl) ou om (WJ bd F.size);have al:U.ownsInts base 3 vh v' (aa++ [(j:Int)]):=az.appended bw (WalkArith.wf_i64 om);have O:I.grownBy U v.ownBlock:=⟨ah.os.trans F.os,ah.tape.trans F.tape,ah.output.trans F.output,WJ F.size ah.size,λi ae ai=>(ah.block i (VC ae F.size) ai).trans (F.block i ae oS)⟩
 obtain⟨w3,b5,ba,Z,b4⟩:=bu U v' _ O al oO (by
  rcases a4 with h|h
  . exact .inl h
  . exact .inr ⟨_,h,F.size⟩)
 have b0:w3.ownsInts base 3 vh v' (aa++ [(j:Int)]):=al.kept Z (by
  cases a7:v'.ownBlock with
  |none=>exact .inl rfl
  |some g=>
   refine .inr (λe=> ?_)
   have:=(al.1.lt g a7).1
   have:=H.grp.lt.1
   cases e
   omega)
 have ao:∀g,v.ownBlock=vp g->base<=g:=λg e=>(av.1.lt g e).1;(have aj:∀g,g<R.heap.size->g≠ac->v.ownBlock≠vp g->w3.heap[g]? =R.heap[g]? :=by intro g ae ai bq;(have a5:g<I.heap.size:=by rw[ap];exact ae);rw[Z.block g (VC a5 O.size) (λe=>ai qBV),O.block g a5 (λe=>bq e.symm),ag.block g ae (λe=>ai qBV)]);(have a3:R.heap.size<=w3.heap.size:=by have:=O.size;have:=Z.size;omega);have a9:=H.pst.lt;(have bv:v.ownBlock≠vp p:=λe=>by have:=ao p e;have:=E.pb;omega);(have bc:v.ownBlock≠vp b:=λe=>by have:=ao b e;have:=E.pb;have:=E.bB;have:=E.pB;omega);refine⟨v',U,w3,λa6=>bo,b5,?_,?_,?_,?_,a3,H.size,?_,?_⟩;exact(aj p a9 E.pm bv).trans H.pst;exact Grp.step E.byte ay (Zex ax) ba b0 (by rw[bz]);(. refine b4 No H.shun ?_;intro g af;rcases a4 with h|h;exact aw No H.shun g qAI;. rw[h]at af;cases af;have:=F.size;exact bg _ om);intro i hi;(have bi:b<R.heap.size:=by have:=E.bB;have:=E.pB;omega);have e:=aj b bi (by have:=E.bB;have:=E.mB;omega) bc;have:=H.row i hi;unfold World.cell? at this ⊢;rw[e];exact this;refine⟨Z.os.trans (O.os.trans ag.os),Z.tape.trans (O.tape.trans ag.tape),Z.output.trans (O.output.trans ag.output),a3,?_⟩;intro g af;have:=E.pB;have:=E.mB;exact aj g om om (λe=>by have:=ao g e;have:=E.pb;omega);intro g af a8;exact aj g af (λe=>E.nom (by rw[<-e];exact a8)) (λe=>aw No H.shun g e a8)
theorem Zg5{B:Nat}(U:Geo No B p G base b bs)(a3:bs.length=n)(ce:n<=ac)(a5:pdT No w p G base b o n ac bs aa)(bm:aa<=k)(b7:k+3<=n)(a7:∀g,w.heap.size<=g->¬No g):vu v8 232 #[vc (vp ⟨p,0,vn⟩),so vh k] w λe w'=>e=vm (vd #[])/\pdT No w' p G base b o n ac bs k/\vx B w w'/\Kp No w w':=by obtain⟨E,bd,a4⟩:=Bq U a5 a7;have hn:=U.len;have bi:=U.pm;clear U a5 a7;go_enter func232,ntmps232;go_wp2;go_loopw [4] (λ_ wr=>∃j:Nat,aa<=j/\j<=k/\pdT No wr p G base b o n ac bs j/\vx B w wr/\Kp No w wr) (λ_ wr=>k-((wr.cell? ⟨p,2,vn⟩).map (λv=>(vy v).toNat)).getD 0);exact⟨aa,VA _,bm,bd,A2 _ _,Kp.refl _ _⟩;obtain⟨j,ck,c8,F,Z,ah⟩:=hrel;obtain⟨ba,ag,aj⟩:=Bq F Z ah;have c2:=F.pst.cell2;by_cases cj:j<k;(. have c0:=F.pst.cell0;have c1:=F.pst.cell1;have ap:=F.row j om;have b1:=F.row (j+1) om;have b2:=F.row (j+2) om;rw[<-WV]at b1 b2;have au:=Z.size;have bn:=F.pst.lt;have cp:b<wr.heap.size:=Nat.lt_trans (VC E.bB E.pB) bn;clear F Z ah;generalize aw:bs.getD j 0=x0 at ap;generalize a8:bs.getD (j+1) 0=x1 at b1;generalize al:bs.getD (j+2) 0=x2 at b2;(have bf:vz (B7 bs j=(x0,x1,x2)):=by rw[<-aw,<-a8,<-al];rfl);clear aw a8 al;have b9:¬ac=j:=om;have bg:∀(a:Option vw) (c:Nat) (W:wd),(Instr.arrayAt 313 (va a (n-j) c)).run v8 W=.ok (vc a) W:=λa c W=>run_arrayAt _ _ _ _ _ _ _ underlying313 om;go_wp2;go_big_region;clear ap b1 b2 bg;have H:vz (pdT No (wr.alloc (vl #[so vi x0,so vi x1,so vi x2] 313)).drew p G base b o n ac bs j):=(ba.grown E (K1 wr _ vn) (λj e=>by cases e)).drewN 1;have ax:vz (vx B w (wr.alloc (vl #[so vi x0,so vi x1,so vi x2] 313)).drew):=(Ae (ag.alloc (WJ (WJ E.pB (UG bd.pst.lt)) au) (vl #[so vi x0,so vi x1,so vi x2] 313)) 1);have a9:vz (Kp No w (wr.alloc (vl #[so vi x0,so vi x1,so vi x2] 313)).drew):=(aj.grown (Cw (K1 wr (vl #[so vi x0,so vi x1,so vi x2] 313) vn)) au (λj e=>by cases e));have b0:(wr.alloc (vl #[so vi x0,so vi x1,so vi x2] 313)).drew.cell? ⟨wr.heap.size,0,vn⟩=vp (so vi x0):=oS;have b5:(wr.alloc (vl #[so vi x0,so vi x1,so vi x2] 313)).drew.cell? ⟨wr.heap.size,1,vn⟩=vp (so vi x1):=oS;have bz:(wr.alloc (vl #[so vi x0,so vi x1,so vi x2] 313)).drew.cell? ⟨wr.heap.size,2,vn⟩=vp (so vi x2):=oS;have c7:wr.heap.size<(wr.alloc (vl #[so vi x0,so vi x1,so vi x2] 313)).drew.heap.size:=oS;have I:w.heap.size<=(wr.alloc (vl #[so vi x0,so vi x1,so vi x2] 313)).drew.heap.size:=oO;clear c0 c1 ag aj;generalize (wr.alloc (vl #[so vi x0,so vi x1,so vi x2] 313)).drew=r at*;generalize wr.heap.size=c6 at*;have d1:=H.pst.cell1;have ak:=H.pst.cell2;have bq:=H.pst.lt;have bw:vz (pdT No r.drew p G base b o n ac bs j):=H.drewN 1;have bu:vz (pdT No (r.alloc (vl #[so vh j] 3)).drew p G base b o n ac bs j):=(H.grown E (K1 r _ vn) (λj e=>by cases e)).drewN 1;obtain⟨b8,stA,a6,b4,bb,cu,ao⟩:=Zen r.drew E a3 bw om (λg h=>Aa a4 g (WJ I h)) x0 x1 x2 (Aa bf);obtain⟨cz,cq,c5,ae,bk,ay⟩:=ao (a6.alloc (vl #[so vh j] 3)) a6.heap.size (K1 _ _ _) oS;obtain⟨cd,ct,bh,bj,ar,cw,az⟩:=Zen (r.alloc (vl #[so vh j] 3)).drew E a3 bu om (λg h=>Aa a4 g (WJ (WJ I oS) h)) x0 x1 x2 (Aa bf);obtain⟨cy,cn,cm,O,bo,mB⟩:=az bh r.heap.size (Av _ _) (ar.cell oS (by have:=H.grp.lt.2;simp;omega));have bv:=bb.cell (a:=⟨p,2,vn⟩) ak (by simpa using bi);replace ae:=ae 76;replace O:=O 76;simp[go_sem]at ae O;have af:=Ab ay;have ai:=Ab mB;clear ao az ay mB bb ar;have ci:=af.pst.cell2;have cv:=af.pst.frozen 2;have co:=ai.pst.cell2;have cg:=ai.pst.frozen 2;have av:=Ab (af.next E (Ae ax 1) a9 I);have bc:=Ab (ai.next E (Ae (ax.alloc (WJ E.pB (UG bq)) (vl #[so vh j] 3)) 1) (a9.grown (Cw (K1 r (vl #[so vh j] 3) vn)) I (λj e=>by cases e)) (WJ I oS));go_wp2;go_big_region;(all_goals clear ae O b4 bj bk bo b0 b5 bz d1 ak bv);all_goals (go_wp2;go_roundw;(. first|exact⟨j+1,om,om,av⟩|exact⟨j+1,om,om,bc⟩);rw[c2];(first|rw[(Aa av).1.pst.cell2]|rw[(Aa bc).1.pst.cell2]);simp[vy];omega));. obtain rfl:k=j:=om;clear F Z ah;go_wp2;go_end0;exact⟨rfl,ba,ag,aj⟩
theorem pdT.row3(h:pdT No w p ac base b o n G bs k)(ao:∀j,bs.getD j 0<256)(au:k<=3000)(E I H:Nat)(ar:B7 bs k=(E,I,H)):∃(a:Option vw) (c L:Nat),(FB bs k (B7 bs k)).length=L/\(Instr.lookup 290 (.map (vp ac)) (vf #[so vi E,so vi I,so vi H]) vq).run v8 w=.ok (va a L c) w/\L<=k/\∀j,j<L->∃g,a=vp ⟨g,0,vn⟩/\w.cell? ⟨g,j,vn⟩=vp (so vh (((FB bs k (B7 bs k)).getD j 0:Nat):Int)):=by have ok:=Zf9 ao k;obtain⟨D,ah,aj⟩:=h.grp;obtain⟨v,O,al,ag,U,ai,_⟩:=ah.at Zhf underlying290 (Zfc w) ou (Z4e ok);have ae:O=(FB bs k (B7 bs k)).map λx:Nat=>(x:Int):=Zem U (by rw[<-ag];exact(aj _ ok).symm);(have ak:O.length=(FB bs k (B7 bs k)).length:=by rw[ae];simp);(have aa:(Instr.lookup 290 (.map (vp ac)) (vf #[so vi E,so vi I,so vi H]) vq).run v8 w=.ok v w:=by rw[show (vf #[so vi E,so vi I,so vi H])=kv (B7 bs k) by rw[ar];rfl];exact al);(rcases U.1.2 with ⟨F,af⟩|⟨g,c,cur,F,af⟩);refine⟨vn,0,0,om,by rw[aa,F],VF _,λj ap=>om⟩;refine⟨vp ⟨g,0,vn⟩,c,O.length,ak.symm,by rw[aa,F],ai,λj ap=>⟨g,rfl,?_⟩⟩;have Z:=U.1;rw[F]at Z;rw[Z.cellAt j om];have:j<(FB bs k (B7 bs k)).length:=om;simp[ae,List.getD,this]
theorem Zg0(h:mst bs.length k<3):HL bs k=(0,0):=
 Zfe (λd E F=>UJ (aM _ _ _ _) h)
theorem Z84(B p Z base:Nat)(aj k:Nat)(ak:Geo No B p Z base b bs)(ap:bs.length=n)(b0:n<=ac)(ar:pdT No w p Z base b o n ac bs aj)(bc:aj<=k)(cv:k<=n)(bn:∀g,w.heap.size<=g->¬No g)(H ae:Nat)(bq:vz (HL bs k=(H,ae))):vu v8 207 #[vc (vp ⟨p,0,vn⟩),so vh k] w λe w'=>e=vm (vd #[so vh H,so vh ae])/\(∃a6,a6<=k/\pdT No w' p Z base b o n ac bs a6)/\vx B w w'/\Kp No w w':=by obtain⟨ao,bv,ce,O⟩:=Do ak ar bn ap;have hn:=ak.len;have c0:=ar.pst.cell0;clear ak ar bn;go_enter func207,ntmps207;by_cases a4:mst n k<3;(. obtain⟨m,hm⟩:∃m,m=mst n k:=⟨_,rfl⟩;have bi:=qBN;have au:m<3:=om;have bj:=Aa bq;rw[Zg0 (by rw[ap];exact a4)]at bj;(obtain⟨rfl,rfl⟩:0=H/\0=ae:=by simpa using bj);go_wp2;go_ret2;exact⟨rfl,⟨aj,bc,bv⟩,A2 _ _,Kp.refl _ _⟩);. obtain⟨m,hm⟩:∃m,m=mst n k:=⟨_,rfl⟩;have bi:=qBN;have au:3<=m:=om;(have b7:k+m<=n:=by rw[hm];unfold mst;omega);(have c7:m<=258:=by rw[hm];unfold mst;omega);have U:=Ab hm;clear hm a4;go_wp2_with fail;refine(Zg5 ao ap b0 bv bc om ce).mono ?_;rintro e aa ⟨rfl,F,ay,ba⟩;obtain⟨av,bk,a3⟩:=Bq F ay ba;have d0:=F.pst.cell0;have d1:=F.pst.cell1;have az:=F.row k om;have b1:=F.row (k+1) om;have b2:=F.row (k+2) om;rw[<-WV]at b1 b2;clear F ay ba c0;generalize a8:bs.getD k 0=x0 at az;generalize bo:bs.getD (k+1) 0=x1 at b1;generalize ax:bs.getD (k+2) 0=x2 at b2;(have cu:vz (B7 bs k=(x0,x1,x2)):=by rw[<-a8,<-bo,<-ax];rfl);clear a8 bo ax;have cy:¬ac=k:=om;have bw:∀(a:Option vw) (c:Nat) (W:wd),(Instr.arrayAt 313 (va a (n-k) c)).run v8 W=.ok (vc a) W:=λa c W=>run_arrayAt _ _ _ _ _ _ _ underlying313 om;have a7:vz (pdT No aa.drew p Z base b o n ac bs k):=av.drewN 1;obtain⟨a,c,L,bh,cj,c9,a5⟩:=a7.row3 ao.byte om x0 x1 x2 cu;have I:=Ab bh;have co:=Ab a5;clear bh a5;go_wp2;go_big_region;clear az b1 b2 bw cj d1 bi;have cm:=Ab ao.byte;have bz:vz (M8 bs k (FB bs k (B7 bs k)) (L-L) 0 0):=.inl ⟨om,rfl,rfl⟩;(have bg:vz (∀j,j<(FB bs k (B7 bs k)).length->3<=lcp bs ((FB bs k (B7 bs k)).getD j 0) k (mst bs.length k)):=by intro j ag;refine(Zfg ?_).1 (Zfx bs k (B7 bs k) ag).2;rw[Aa O,<-Aa U];exact au);have b4:=Ab (λj (ag:j<L)=>(Zfx bs k (B7 bs k) (j:=j) (by rw[Aa I];exact ag)).1);have b9:vz (∀q x y,M8 bs k (FB bs k (B7 bs k)) q x y->(q=L\/x=m)->HL bs k=(x,y)):=λq x y h cg=>h.lng (by rw[Aa O,<-Aa U];exact au) (by rw[Aa O,<-Aa U,Aa I];exact cg);(have a9:vz (mst bs.length k=m):=by rw[Aa O];exact U.symm);have bd:=a7.row;have cd:=Ab bd;clear bd;generalize FB bs k (B7 bs k)=E at*;go_wp2;go_loopw [4,5,8] (λv4 ct ah wr=>∃t x y q:Nat,t<=L/\ah=so vh ((t:Int)-1)/\v4=so vh x/\ct=so vh y/\M8 bs k E (L-t) x y/\wr=aa.drewN q) (λ_ _ ah _=>((vy ah)+1).toNat);exact⟨L,0,0,1,VA _,rfl,rfl,rfl,bz,rfl⟩;obtain⟨t,x,y,q,cw,rfl,rfl,rfl,al,rfl⟩:=hrel;have aw:=Ab al;(have c6:x<=m:=by have:=al.le.1;rw[Aa a9]at this;exact this);clear al;by_cases cq:0<t/\x<m;(. obtain⟨ck,cp⟩:=cq;obtain⟨t,rfl⟩:∃af,t=af+1:=⟨t-1,om⟩;obtain⟨g,rfl,hc⟩:=Aa co t om;have c5:aa.cell? ⟨g,t,vn⟩=vp (so vh (E.getD t 0:Nat)):=hc;have b5:=Aa b4 t om;(have ez:E.length-1-(L-(t+1))=t:=by rw[Aa I];omega);(obtain⟨r,G⟩:∃r,r=if bs.getD (E.getD t 0+x) 0=bs.getD (k+x) 0 then lcp bs (E.getD t 0) k m else 0:=⟨_,rfl⟩);have b8:=Ab (Zfz p ac (E.getD t 0) (aa.drewN q) d0 cd O om cm b5 cp b7 G);(have bf:vz ((r<=x->M8 bs k E (L-t) x y)/\(x<r->M8 bs k E (L-t) r (k-E.getD t 0))):=by have bb:=aw.more (by rw[Aa I];omega) bg;have bu:=aw.less (by rw[Aa I];omega) bg;rw[ez,show L-(t+1)+1=L-t by omega,Aa a9]at bb bu;constructor;intro h;refine bu ?_;by_cases e:bs.getD (E.getD t 0+x) 0=bs.getD (k+x) 0;rw[A1 e]at G;omega;exact Zew e;intro h;(have e:bs.getD (E.getD t 0+x) 0=bs.getD (k+x) 0:=by by_cases e:bs.getD (E.getD t 0+x) 0=bs.getD (k+x) 0;exact e;rw[A0 e]at G;omega);rw[A1 e]at G;rw[G]at h ⊢;exact bb h);(have cz:r<=m:=by rw[G];split;exact aM _ _ _ _;omega);clear G hc ez;generalize E.getD t 0=z at*;go_wp2_with fail;refine b8.mono ?_;rintro e da ⟨rfl,c8,rfl⟩;by_cases ci:x<r;(. have ai:=Ab (bf.2 ci);go_wp2;go_quiet (fail);go_wp2;go_roundw;exact⟨t,r,k-z,_,om,by go_num,rfl,by go_num,ai,rfl⟩;(simp[vy];try omega));. have ai:=Ab (bf.1 om);go_wp2;go_roundw;exact⟨t,x,y,_,om,by go_num,rfl,rfl,ai,rfl⟩;(simp[vy];try omega));. have bm:HL bs k=(x,y):=Aa b9 (L-t) x y (Aa aw) om;rw[Aa bq]at bm;(obtain⟨rfl,rfl⟩:H=x/\ae=y:=by simpa using bm);by_cases ck:0<t;(. have cn:H=m:=om;obtain⟨t,rfl⟩:∃af,t=af+1:=⟨t-1,om⟩;subst cn;go_wp2;go_ret2;exact⟨rfl,⟨k,VA _,av.drewN q⟩,Ae bk q,a3⟩);. obtain rfl:t=0:=om;go_wp2;go_ret2;exact⟨rfl,⟨k,VA _,av.drewN q⟩,Ae bk q,a3⟩
theorem pdT.weaken(h:pdT No' w p ac base b o n G bs aa)(I:∀g,No g->No' g):pdT No w p ac base b o n G bs aa:=
 ⟨h.pst,h.grp,λes clock hb x H g E F=>h.shun es clock hb x H g E (I g F),h.row,h.size⟩
theorem pdT.more(h:pdT No w p ac base b o n G bs aa)(F:∀g,No' g->No g\/w.heap.size<=g):pdT No' w p ac base b o n G bs aa:=by obtain⟨D,E,_⟩:=h.grp;exact⟨h.pst,h.grp,h.shun.reno E F,h.row,h.size⟩
theorem Geo.more{B:Nat}(E:Geo No B p ac base b bs)(F:¬No' p)(G:¬No' ac):Geo No' B p ac base b bs:=⟨E.bB,E.pB,E.mB,E.pm,E.pb,F,G,E.len,E.byte⟩
theorem Zg3:(Tryz.prog.info? 244).map (·.size)=vp 3:=oR
theorem Zf7{F:Func}{p:Tmp}(h:F.results= #[.cell p 244])(ht:Array vt)(w:wd)(g:Nat)(E:Array vt)(H:E.size=3)(ce:ht.getD p undef=vc (vp ⟨g,0,vn⟩))(I:w.heap[g]? =vp (vl E 244 (0,0))):(results F ht).run v8 w=.ok (vf E) w:=by have hl:(loadVar 244 ⟨g,0,vn⟩).run v8 w=.ok (vf E) w:=run_loadVar_row w g _ _ _ _ _ I underlying244 rfl (by rw[H];exact Zg3);have G:=pX;simp only[results,h];simp[G,asAddr,hl]
theorem Zf6{x y z a b c:vt}(h:w.heap[g]? =vp (vl #[x,y,z] 244 (0,0))):(((w.setCell ⟨g,0,vn⟩ a).setCell ⟨g,1,vn⟩ b).setCell ⟨g,2,vn⟩ c).heap[g]? =vp (vl #[a,b,c] 244 (0,0)):=by rw[CR _ g 2 _ _ _ (CR _ g 1 _ _ _ (CR w g 0 _ _ _ h))];rfl
theorem Zft(w:wd)(g:Nat)(a b c:vt):w.grownBy (((w.setCell ⟨g,0,vn⟩ a).setCell ⟨g,1,vn⟩ b).setCell ⟨g,2,vn⟩ c) (vp g):=
 Aj (Aj (Ad w g 0 a) (Ad _ g 1 b)) (Ad _ g 2 c)
theorem Zfp(B p I base:Nat)(H:Geo No B p I base b bs)(ax:bs.length=n)(a8:n<=ac)(ae:pdT No w p I base b o n ac bs G)(bo:G<=k)(bj:k<n)(ar:∀g,w.heap.size<=g->¬No g)(O:Nat)(ts ah:Int)(a3:vz (HN bs k=(O,ts,ah))):vu v8 178 #[vc (vp ⟨p,0,vn⟩),so vh k] w λe w'=>e=vm (vf #[so vi O,so vh ts,so vh ah])/\(∃ai,ai<=k+1/\pdT No w' p I base b o n ac bs ai)/\vx B w w'/\Kp No w w':=by
 obtain⟨bq,bi,b4,ce⟩:=Do H ae ar ax;have hn:=H.len;have aw:B<=w.heap.size:=WJ H.pB (UG ae.pst.lt);have al:vz (Geo (λg=>No g\/g=w.heap.size) B p I base b bs):=H.more (by rintro (h|h);exact H.nop h;have:=ae.pst.lt;omega) (by rintro (h|h);exact H.nom h;have:=ae.grp.lt.2;omega);have a5:vz (pdT (λg=>No g\/g=w.heap.size) (w.alloc (vl #[so vi 0,so vh 0,so vh 0] 244)) p I base b o n ac bs G):=(ae.more (No':=λg=>No g\/g=w.heap.size) (by rintro g (h|h);exact .inl h;exact .inr om)).grown (Aa al) (K1 w _ vn) (λj e=>by cases e);(have bg:vz (∀g,(w.alloc (vl #[so vi 0,so vh 0,so vh 0] 244)).heap.size<=g->¬(No g\/g=w.heap.size)):=by intro g Z;simp at Z;rintro (h|h);exact ar g om h;omega);have bf:=Ab ((A2 B w).alloc aw (vl #[so vi 0,so vh 0,so vh 0] 244));have a4:(w.alloc (vl #[so vi 0,so vh 0,so vh 0] 244)).heap[w.heap.size]? =vp (vl #[so vi 0,so vh 0,so vh 0] 244 (0,0)):=B2 w _;have ba:=Ab a4;clear H ae ar a4;obtain⟨n1,f1,ag⟩:∃n1 f1,HL bs k=(n1,f1):=⟨_,_,rfl⟩;obtain⟨n2,f2,af⟩:∃n2 f2,HL bs (k+1)=(n2,f2):=⟨_,_,rfl⟩;have b0:=Ab ag;have b7:=Ab af;(have E:HN bs k=if n1=0 then (bs.getD k 0,0,0)else if n1<n2 then (bs.getD k 0,0,0)else (0,(n1:Int),(f1:Int)):=by unfold HN;rw[ag,af]);rw[Aa a3]at E;clear ag af a3;go_enter func178,ntmps178;go_wp2_with fail;refine(Z84 B p I base G k al ax a8 a5 bo om bg n1 f1 b0).mono ?_;rintro e F ⟨rfl,⟨a6,b8,aj⟩,ap,az⟩;have bw:=ap.size;simp only[CL]at bw;have aa:F.heap[w.heap.size]? =vp (vl #[so vi 0,so vh 0,so vh 0] 244 (0,0)):=(az w.heap.size oS (.inr rfl)).trans (Aa ba);have bb:=Ab aj;have bc:=Ab (bf.trans ap);have a7:vz (Kp No w F):=((Kp.refl No w).grown (K1 w (vl #[so vi 0,so vh 0,so vh 0] 244) vn) (VA _) (λj e=>by cases e)).trans (az.weaken (λg h=>.inl h)) oS;have c0:=aj.pst.cell0;have bh:=aj.row k om;clear aj ap az a5 bg bf ba;have r0:F.cell? ⟨w.heap.size,0,vn⟩=vp (so vi 0):=Ac aa;have r1:F.cell? ⟨w.heap.size,1,vn⟩=vp (so vh 0):=Ac aa;have r2:F.cell? ⟨w.heap.size,2,vn⟩=vp (so vh 0):=Ac aa;have a9:∀j,F.frozen? ⟨w.heap.size,j,vn⟩=false:=λj=>B1 F _ j _ _ aa
 have ri:vz (∀(W:wd) (ao:Nat) (x y z:vt),ao<=k+1->pdT (λg=>No g\/g=w.heap.size) W p I base b o n ac bs ao->vx B w W->Kp No w W->w.heap.size<=W.heap.size->
  (∃ai,ai<=k+1/\pdT No (((W.setCell ⟨w.heap.size,0,vn⟩ x).setCell ⟨w.heap.size,1,vn⟩ y).setCell ⟨w.heap.size,2,vn⟩ z) p I base b o n ac bs ai)/\vx B w (((W.setCell ⟨w.heap.size,0,vn⟩ x).setCell ⟨w.heap.size,1,vn⟩ y).setCell ⟨w.heap.size,2,vn⟩ z)/\Kp No w (((W.setCell ⟨w.heap.size,0,vn⟩ x).setCell ⟨w.heap.size,1,vn⟩ y).setCell ⟨w.heap.size,2,vn⟩ z)):=by
  intro W ao x y z bu bn bz bm bk
  have Z:=Zft W w.heap.size x y z
  have H:=Aa bq
  have cg:=bi.pst.lt
  have b9:=bi.grp.lt.2
  refine⟨⟨ao,bu,(bn.grown al Z (λj e=> ?_)).weaken (λg h=>.inl h)⟩,bz.grown Z (WJ aw bk) (λj e=>by cases e;exact aw),?_⟩
  . cases e
    have:=H.bB
    exact⟨om,om,om,.inl (.inr rfl)⟩
  . intro g ag af
    rw[Z.block g om (λe=>by simp at e;omega)]
    exact bm g ag af
 by_cases au:n1=0;(. rw[A1 au]at E;generalize bs.getD k 0=x at*;(obtain⟨rfl,rfl,rfl⟩:O=x/\ts=0/\ah=0:=by simpa using E);subst au;have ck:=Ab (Zf6 (a:=so vi O) (b:=so vh 0) (c:=so vh 0) aa);go_wp2;exact E1 (Zf7 rfl _ _ _ _ rfl rfl ck) rfl ⟨rfl,Aa ri F a6 _ _ _ om (Aa bb) (Aa bc) (Aa a7) om⟩);. rw[A0 au]at E;have ci:((n1:Int)==0)=false:=sV;have b5:k+1<=n:=bj;clear c0 bh r0 r1 r2 a9;go_wp2_with fail;(have bv:vz (∀g,F.heap.size<=g->¬(No g\/g=w.heap.size)):=by intro g Z;rintro (h|h);exact b4 g om h;omega);refine(Z84 B p I base a6 (k+1) al ax a8 bb om b5 bv n2 f2 b7).mono ?_;rintro e gh ⟨rfl,⟨ug,dv,ak⟩,ay,av⟩;have cd:=ay.size;have U:gh.heap[w.heap.size]? =vp (vl #[so vi 0,so vh 0,so vh 0] 244 (0,0)):=(av w.heap.size om (.inr rfl)).trans aa;have rq:=Ab ak;have pz:=Ab (bc.trans ay);have mz:vz (Kp No w gh):=a7.trans (av.weaken (λg h=>.inl h)) om;have c0:=ak.pst.cell0;have bh:=ak.row k om;clear ak ay av;have r0:gh.cell? ⟨w.heap.size,0,vn⟩=vp (so vi 0):=Ac U;have r1:gh.cell? ⟨w.heap.size,1,vn⟩=vp (so vh 0):=Ac U;have r2:gh.cell? ⟨w.heap.size,2,vn⟩=vp (so vh 0):=Ac U;have a9:∀j,gh.frozen? ⟨w.heap.size,j,vn⟩=false:=λj=>B1 gh _ j _ _ U;by_cases bd:n1<n2;(. rw[A1 bd]at E;generalize bs.getD k 0=x at*;(obtain⟨rfl,rfl,rfl⟩:O=x/\ts=0/\ah=0:=by simpa using E);have ck:=Ab (Zf6 (a:=so vi O) (b:=so vh 0) (c:=so vh 0) U);go_wp2;exact qBG);. rw[A0 bd]at E;(obtain⟨rfl,rfl,rfl⟩:0=O/\(n1:Int)=ts/\(f1:Int)=ah:=by simp only[ZH]at E;exact⟨E.1.symm,E.2.1.symm,E.2.2.symm⟩);have ck:=Ab (Zf6 (a:=so vi 0) (b:=so vh n1) (c:=so vh f1) U);go_wp2;exact qBG
theorem pdT.turn(h:pdT No W p ac base b o n G bs aa)(E:pdT No O p ac base b o n G bs aa)(H:W.grownBy O r)(F:vp ac≠r)(I:∀g,No' g->No g\/W.heap.size<=g):pdT No' O p ac base b o n G bs aa:=
 ⟨E.pst,E.grp,(h.more I).shun.kept H h.grp.lt.2 F,E.row,E.size⟩
theorem Z6i(n G:Nat)(ct:bs.length=n)(dn:n<=3000)(b9:n<=G)(b8:b<w.heap.size)(bd:Bytes w b o bs)(al:∀j,bs.getD j 0<256):vu v8 149 #[va (vp ⟨b,o,vn⟩) n G] w λe w'=>∃v,e=vm (vd #[v,so vh 0])/\w'.ownsRow w.heap.size 244 3 v (Ie bs).length (HZ (Ie bs))/\vx w.heap.size w w':=by
 obtain⟨cm,hi,ci,c8,cp⟩:=EM Z5n;have bm:=Ab ct;have dq:=Ab al;have b4:vz (∀No:Nat->Prop,¬No (w.heap.size+1)->¬No w.heap.size->Geo No w.heap.size (w.heap.size+1) w.heap.size (w.heap.size+2) b bs):=λNo c7 co=>⟨b8,om,VA _,om,om,c7,co,om,al⟩;(have a7:vz (pdT (λg=>(va vn 0 0).ownBlock=vp g) ((w.alloc (.map #[] 0)).alloc (vl #[va (vp ⟨b,o,vn⟩) n G,.map (vp w.heap.size),so vh 0] 292)) (w.heap.size+1) w.heap.size (w.heap.size+2) b o n G bs 0):=by have af:=K1 (w.alloc (.map #[] 0)) (vl #[va (vp ⟨b,o,vn⟩) n G,.map (vp w.heap.size),so vh 0] 292) vn;refine⟨?_,(Grp.made w (w.heap.size+2) bs om).kept af (λj e=>by cases e),(World.Shuns_made w _).kept af oS oS,?_,oS⟩;have:=B2 (w.alloc (.map #[] 0)) (vl #[va (vp ⟨b,o,vn⟩) n G,.map (vp w.heap.size),so vh 0] 292);rw[CL]at this;exact this;exact(bd.grown (K1 w _ vn) oS).grown af oS);have bf:=Ab (((A2 w.heap.size w).alloc (VA _) (.map #[] 0)).alloc oS (vl #[va (vp ⟨b,o,vn⟩) n G,.map (vp w.heap.size),so vh 0] 292));clear bd al;go_enter func149,ntmps149;go_wp2_with fail;refine(EB (vp ⟨b,o,vn⟩) n G w).mono ?_;rintro e bo ⟨rfl,ak⟩;(have bw:vz (pdT (λg=>(va vn 0 0).ownBlock=vp g) bo (w.heap.size+1) w.heap.size (w.heap.size+2) b o n G bs 0):=by rw[ak];exact Aa a7);(have bn:vz (vx w.heap.size w bo):=by rw[ak];exact Aa bf);clear ak a7 bf;have cw:vz (∀l,l=Ie bs->l=Ie bs):=λl h=>h;generalize U:Ie bs=T at*;have bc:=Ab U;clear U cw;go_wp2;go_loopw [4,6] (λv4 ap wr=>∃(k fuel kn:Nat) (acc:List Tk),k<=n/\ap=so vh k/\acc++Is bs fuel k=T/\n<=k+fuel/\acc.length<=k/\kn<=k/\wr.ownsRow (w.heap.size+2) 244 3 v4 acc.length (HZ acc)/\pdT (λg=>v4.ownBlock=vp g) wr (w.heap.size+1) w.heap.size (w.heap.size+2) b o n G bs kn/\vx w.heap.size w wr) (λ_ ap _=>n-(vy ap).toNat);exact⟨0,n,0,[],VF _,rfl,by rw[<-Aa bc];simp[Ie,Aa bm],om,VA _,VA _,HM _ _ _ _,bw,bn⟩;obtain⟨k,fuel,kn,acc,db,rfl,U,de,dm,b7,O,ah,ai⟩:=hrel;obtain⟨a4,ac,b5,ar⟩:=Do U O ah ai;have dl:=ai.size;have df:=ah.size;clear U;by_cases ce:k<n
 . obtain⟨bq,bk,c9⟩:=Zgc bs fuel k om om;have dj:=G8 bs k om;have a3:=Zek bs k om;have ax:=Zgq a3;have di:=Zh1 a3;obtain⟨E,ts,F,aa⟩:∃E ts F,HN bs k=(E,ts,F):=⟨_,_,_,rfl⟩;have cg:=Ab aa;(have cy:max ts 1=((HC (HN bs k):Nat):Int):=by rw[aa]at ax ⊢;exact ax);(have cd:vz ((acc++ [(E,ts,F)])++Is bs bq (k+HC (HN bs k))=T):=by rw[<-Aa a4,bk,aa,VO];rfl);generalize HC (HN bs k)=a9 at*;(have c5:vz (∀g,wr.heap.size<=g->¬(u4.ownBlock=vp g)):=λg af e=>by have:=(O.lt g e).2;omega);have ag:∀g,u4.ownBlock=vp g->w.heap.size+2<=g:=λg e=>(O.lt g e).1;have ay:=Ab ag;have ae:vz (Geo (λg=>u4.ownBlock=vp g) w.heap.size (w.heap.size+1) w.heap.size (w.heap.size+2) b bs):=Aa b4 _ (λe=>by have:=ag _ e;omega) (λe=>by have:=ag _ e;omega);clear O ah ai ax a3 bk aa ag;go_wp2_with fail;refine(Zfp w.heap.size (w.heap.size+1) w.heap.size (w.heap.size+2) ae bm b9 b5 b7 ce c5 E ts F cg).mono ?_;rintro e H ⟨rfl,⟨bz,da,bv⟩,av,bu⟩;have dc:=av.size;have a8:=Ab bv;have bb:=Ab (ar.trans av);have au:vz (H.ownsRow (w.heap.size+2) 244 3 u4 acc.length (HZ acc)):=Bv ac (λg af=>bu g (ac.lt g af).2 af);clear bv av bu b5 ac ar bw bn;obtain⟨b0,aw,bg,bi⟩:=Do ((au.alloc (vl #[so vi E,so vh ts,so vh F] 244)).alloc (vl #[so vi E,so vh ts,so vh F] 244)) ((a8.grown ae (K1 H (vl #[so vi E,so vh ts,so vh F] 244) vn) (λj e=>by cases e)).grown (Aa ae) (K1 _ (vl #[so vi E,so vh ts,so vh F] 244) vn) (λj e=>by cases e)) ((bb.alloc om (vl #[so vi E,so vh ts,so vh F] 244)).alloc oO (vl #[so vi E,so vh ts,so vh F] 244)) (RJ (H.alloc (vl #[so vi E,so vh ts,so vh F] 244)) (so vi E) (so vh ts) (so vh F) 244);go_wp2_with (at_builtin;refine HG _ rfl _ _ 215 rfl (w.heap.size+2) 244 cm _ 3 24 underlying215 hi ci c8 cp rfl od u4 acc.length (HZ acc) rfl b0 ⟨H.heap.size+1,0,vn⟩ 1 1 [so vi E,so vh ts,so vh F] rfl rfl (by have:=Aa bi;simp only[CL]at this;exact this) qBW ou om oO ?_);intro v' w3 bj I _ a5;(have Z:vp H.heap.size≠u4.ownBlock:=λe=>by have:=(au.lt _ e.symm).2;omega);have cz:w3.cell? ⟨H.heap.size,0,vn⟩=vp (so vi E):=I.cell oS Z;have c6:w3.cell? ⟨H.heap.size,1,vn⟩=vp (so vh ts):=I.cell oS Z;have cv:w3.cell? ⟨H.heap.size,2,vn⟩=vp (so vh F):=I.cell oS Z;(have az:vz (w3.ownsRow (w.heap.size+2) 244 3 v' (acc++ [(E,ts,F)]).length (HZ (acc++ [(E,ts,F)]))):=by rw[LM,VB];exact bj);have bh:=Ab (bg.grown I oO (λg e=>by have:=Aa ay g e;omega));have a6:=Ab (aw.grown ae I (λg e=>by have:=Aa ay g e;exact⟨om,om,om,.inl e⟩))
   have cj:vz (pdT (λg=>v'.ownBlock=vp g) w3 (w.heap.size+1) w.heap.size (w.heap.size+2) b o n G bs bz):=aw.turn a6 I (λe=>by have:=Aa ay _ e.symm;omega) (λg af=>by
    rcases a5 with h|h
    . exact .inl qAI
    . refine .inr ?_
      have ba:v'.ownBlock=vp g:=af
      rw[h]at ba
      have:=VK ba
      simp only[CL]at this ⊢
      omega)
   clear bj I a5 Z a6 aw bg b0 bi a8 bb au;go_wp2_with fail;refine(Zfb E ts F w3 a9 cy).mono ?_;rintro e dh ⟨rfl,aj⟩;obtain⟨cn,cu,ck⟩:=Bq (Lb az aj) (Li bh aj bh.size) (cj.grown (b4 _ (λe=>by have:=(az.lt _ e).1;omega) (λe=>by have:=(az.lt _ e).1;omega)) aj (λj e=>by cases e));clear aj cz c6 cv;go_wp2;go_roundw;exact⟨k+a9,bq,bz,acc++ [(E,ts,F)],om,by go_num,cd,om,oO,om,cn,ck,cu⟩;simp[vy];omega
 . obtain rfl:n=k:=om;(have e:acc=T:=by have:=Aa a4;rw[Zgd bs fuel n om,XB]at this;exact this);have ao:=D0 ac (show w.heap.size<=w.heap.size+2 by omega);rw[e,<-Aa bc]at ao;have cq:=Ab ao;clear O ah ai ao;go_wp2;go_ret2;exact⟨u4,rfl,cq,ar⟩
theorem Zfk(F:bs.length=n)(af:n<=3000)(aa:n<=ac)(U:BytesIn w a bs)(ae:∀j,bs.getD j 0<256)(H:vz ((Ie bs).length=G)):vu v8 149 #[va a n ac] w λe w'=>∃a1 c1,e=vm (vd #[va a1 G c1,so vh 0])/\TokIn w' a1 (Ie bs)/\(∀b o,a1=vp ⟨b,o,vn⟩->Ie bs≠ []->w.heap.size<=b/\b<w'.heap.size)/\vx w.heap.size w w':=by by_cases Z:n=0;subst Z;obtain rfl:bs= []:=WK F;obtain rfl:0=G:=Aa H;refine(CW a ac w).mono ?_;rintro e w' ⟨rfl,h⟩;exact⟨vn,0,rfl,.inl rfl,(λb o e=>by cases e),h⟩;obtain⟨b,o,rfl,hb,I⟩:=Cb U om;refine(Z6i n ac F af aa hb I ae).mono ?_;rintro e w' ⟨v,rfl,E,h⟩;obtain⟨ag,a1,c1,rfl,O⟩:=TokIn.ofOwn E;rw[Aa H]at E ⊢;refine⟨a1,c1,rfl,O,λb o e _=> ?_,h⟩;subst e;exact E.lt b rfl
theorem Zhj(E:∀j,bs.getD j 0<256)(I:bs.length<=3000):V9 bs:=⟨Zgs E I,Zfd bs,λa n cap w hl G F H=>Zfk hl G F H E (Ab rfl)⟩
end
end Go.Proofs.YtleocpdblhbimaaGreatDoor
