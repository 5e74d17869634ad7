import Derived.Test.YtleocpdblhbimaaGreatDoorQ15
import Derived.Shelf.Strings.SlTrimAscii
set_option linter.unusedSimpArgs false
set_option linter.unusedVariables false
set_option maxRecDepth 100000
set_option maxHeartbeats 4000000
namespace Go.Proofs.YtleocpdblhbimaaGreatDoor
open Go.RowKit
theorem FsIn.new (w:World)(xs:List Fv)(t:TypeId)(E:Array Value)(n:Nat)(F:E=(fcells xs).toArray)(G:xs.length=n)(T:∀x∈xs,FvIn w x)(H:xs.length<=2199023255552):FsIn (w.alloc (.cells E t)) (some ⟨w.heap.size,0,none⟩) n xs:=by subst G;refine⟨.inr ⟨w.heap.size,0,rfl,oS, ?_⟩,VB _,om,H,fun x O=>(T x O).alloc _⟩;intro j x M;(have hc:∀i u,i<5->x.cells[i]? =some u->(w.alloc (.cells E t)).cell? ⟨w.heap.size,0+j*5+i,none⟩=some u:=by intro i u hi I;rw[World.cell?_alloc_at _ _ _ _ rfl,F];have e:=Sa xs j x i M hi;rw[WG];simpa using e.trans I);exact⟨hc 0 _ od rfl,hc 1 _ od rfl,hc 2 _ od rfl,hc 3 _ od rfl,hc 4 _ od rfl⟩
def LIn (w:World)(v:Value)(l:List Fl):Prop:=∃ad c out,v=.slice ad l.length c/\FsIn w ad c out/\fls out=l
theorem LIn.below {w w':World}{v:Value}{l:List Fl}(I:LIn w v l)(H:Below w.heap.size w w'):LIn w' v l:=by obtain⟨ad,c,out,G,E,F⟩:=I;exact⟨ad,c,out,G,E.below H (VB _),F⟩
theorem LIn.shape {w:World}{v:Value}{l:List Fl}(F:LIn w v l):∃ad c,v=.slice ad l.length c:=by obtain⟨ad,c,out,E,_⟩:=F;exact⟨ad,c,E⟩
theorem PH {out:List Fv}{l:List Fl}(E:fls out=l):out.length=l.length:=by rw[<-E];simp[fls]
theorem Z6s {w:World}{E:Option Addr}{c n:Nat}{xs:List Fv}(F:FsIn w E c xs)(G:xs.length=n):LIn w (.slice E n c) (fls xs):=⟨E,c,xs,by rw[<-G];simp[fls],F,rfl⟩
def RdA (w:World)(bs:List Nat)(e:Ending)(w':World):Prop:=∃v,e=.returned (.tuple #[v,.int .i64 (readE bs:Nat)])/\LIn w' v (readL bs)/\Below w.heap.size w w'
theorem LIn.nil (w:World):LIn w (.slice none 0 0) []:=⟨none,0,[],rfl,FsIn.nil w,rfl⟩
theorem RdA.bad {w w':World}{bs:List Nat}{k:Nat}(E:readE bs=k)(G:k≠0)(F:Below w.heap.size w w'):RdA w bs (.returned (.tuple #[.slice none 0 0,.int .i64 (k:Int)])) w':=by(have hl:readL bs= []:=by unfold readL;rw[if_pos (by rw[E];exact G)]);exact⟨.slice none 0 0,by rw[E],by rw[hl];exact LIn.nil _,F⟩
theorem DA (E:List Ev):fls (E.map Ev.fv)=(E.map Ev.e).map En.f:=by simp[fls,Ev.fv,ZA]
theorem Ps (n Z:Nat)(a:Option Addr)(bs:List Nat)(w:World)(U:bs.length=n)(c9:n<=Z)(ag:PkIn w a Z bs)(af:∀x∈bs,x<256)(dv:n<=9223372036854775807)(I:Z5x bs):Calls Tryz.prog 14 #[.slice a n Z] w fun e w'=>RdA w bs e w':=by
 by_cases hn:12000<n;. have F:=Ab (RdA.bad (w:=w) (w':=w) (bs:=bs) (k:=2) (by unfold readE;rw[if_pos om]) od (Below.refl _ _));have de:(12000:Int)<(n:Int):=om;clear ag af U I;go_enter Tryz.func14,Tryz.ntmps14;go_wp2;go_ret2;exact Aa F
 . have H:readE bs=match Cd (n+1) bs with
    |none=>7
    |some l=>if errM (l.map En.f)≠0\/Be l≠bs then 7 else if sumsF l=false then 10 else 0:=by
    conv=>lhs;unfold readE
    rw[if_neg om,U]
    cases Cd (n+1) bs<;>rfl
   (have M:readL bs=if readE bs≠0 then []else ((Cd (n+1) bs).getD []).map En.f:=by unfold readL;rw[U]);have de:¬(12000:Int)<(n:Int):=om;have bz:=Ab (Yk n Z a bs w U om c9 ag af I);have db:=Ab ag;have aw:=Ab af;have a1:=Ab H;have b4:=Ab M;have ay:=Ab U;clear ag af H M U I;go_enter Tryz.func14,Tryz.ntmps14;go_wp2_with fail;refine(Aa bz).mono ?_;rintro e cd ⟨al,(⟨G,rfl⟩|⟨v,es,G,rfl,b5,_⟩)⟩;. have F:=Ab (RdA.bad (w:=w) (w':=cd) (bs:=bs) (k:=7) (by rw[Aa a1,G]) od al);clear al G;go_wp2;go_ret2;exact Aa F
   . obtain⟨ad,c,rfl,au⟩:=b5.entries;obtain⟨cn,bi⟩:=Sg (Aa aw) G;have bg:=Sf G (Aa aw);have H:=Aa a1;rw[G]at H;dsimp only at H;have M:=Aa b4;rw[G]at M;obtain⟨l,ah⟩:=exq (es.map Ev.e);obtain⟨k,aa⟩:=exq (es.length);(have dc:l.length=k:=by rw[<-ah];simpa using aa);rw[ah]at bi H M G cn bg;have c8:=Ab bg;rw[aa];(have b7:k<=20000:=by have:=Aa ay;omega);have bm:=Ab (Z1 ad c k es cd au aa b7);have b3:=Ab au;have O:=Ab ah;have T:=Ab aa;have co:=Ab bi;have ap:=Ab H;have cp:=Ab M;have cm:=Ab al;clear al b5 au cn bi H M G ah aa dc bg bz a1 b4;go_wp2_with fail;refine(Aa bm).mono ?_;rintro e da ⟨du,rfl,ce,a3⟩;obtain⟨ac,c2,rfl,bd⟩:=ce.files (by rw[Aa T];omega);rw[Aa T];have av:=Ab (Sv ac c2 (es.map Ev.fv) da bd k (by simpa using Aa T));obtain⟨E,ak⟩:=exq (errM (fls (es.map Ev.fv)));rw[ak]at av;rw[DA,Aa O]at ak;have a6:=Ab ak;have cq:=Ab bd;have di:=(Aa cm).size;have b8:=Ab ((Aa cm).trans (a3.mono di));have bk:=Ab a3;clear ce bd a3 ak bm;go_wp2_with fail;refine(Aa av).mono ?_;rintro e w3 ⟨rfl,ao⟩;have dj:=(Aa b8).size;have ae:=Ab ((Aa b8).trans (ao.mono dj));have a7:=Ab ((Aa bk).trans (ao.mono (Aa bk).size));have ck:=Ab ao;clear ao av;by_cases az:E=0
     . subst az;have ar:=Mr (Aa a6);(have a5:∀x∈es,ENum x.e:=fun x a9=>by(have b0:x.e∈l:=by rw[<-Aa O];exact XV a9);have ba:=Aa co x.e b0;have dr:=Yi (ar.2 x.e.f (XV b0));have ds:=Aa ay;have dp:=ba.pl;exact⟨⟨om,om⟩,⟨om,om⟩,om,om,om,ba.cr,ba.mt⟩);(have c5:k<=12:=by have:=ar.1;rw[<-Aa O]at this;simpa[Aa T]using this);have bc:=Ab (Sz ad c k es w3 ((Aa b3).below (Aa a7)) (Aa T) c5 a5);rw[Aa O]at bc;have c6:Hid (∀x∈es,x.e.f.bytes.length<=12000):=Ab (fun x a9=>by have:=(a5 x a9).bl;omega);have cv:Hid (∀y∈Be l,y<256):=Ab (Yx l (Aa c8));clear ar a5;go_wp2_with fail;refine(Aa bc).mono ?_;rintro e dm ⟨dt,rfl,bv,Y⟩;obtain⟨ct,dh,rfl,bq,c7,dl,cy⟩:=Ve bv;have cj:=Ab (((Aa db).below (Aa ae)).below Y);have dn:=(Aa ae).size;have bh:=Ab ((Aa ae).trans (Y.mono dn));have df:=Ab ((Aa a7).trans (Y.mono (Aa a7).size));have dd:=Ab ((Aa ck).trans (Y.mono (Aa ck).size));have ai:=Ab (P4 ct a _ dh n Z (Be l) bs dm rfl (Aa ay) (Er (Aa cv)) (Er (Aa aw)) bq.1 (Aa cj).1);obtain⟨dq,ax⟩:=exq ((Be l).length);obtain⟨cu,a4⟩:=exq ((Be l==bs));rw[ax,a4]at ai;rw[ax];have ci:=Ab a4;clear bv Y bq c7 dl cy ax a4 bc cj;go_wp2_with fail;refine(Aa ai).mono ?_;rintro e b9 ⟨rfl,rfl⟩
       cases cu with
       |false=>(have bj:Be l≠bs:=by have:=Aa ci;rw[beq_eq_false_iff_ne]at this;exact this);have F:=Ab (RdA.bad (w:=w) (w':=b9) (bs:=bs) (k:=7) (by rw[Aa ap,if_pos (.inr bj)]) od (Aa bh));clear bj ai;go_wp2;go_ret2;exact Aa F
       |true=>
        have bw:Be l=bs:=eq_of_beq (Aa ci);have a2:=Aa ap;rw[if_neg (by rintro (h|h);exact h (Aa a6);exact h bw)]at a2;have cg:=Ab a2;obtain⟨S,I⟩:=exq (sumsF l);have a8:=Ab (A7 ad c k es b9 ((Aa b3).below (Aa df)) (Aa T) b7 (Aa c6) S (by rw[Aa O];exact I));have bn:=Ab I;clear bw a2 I ai;go_wp2_with fail;refine(Aa a8).mono ?_;rintro e w6 ⟨rfl,aj⟩;have cz:=(Aa bh).size;have bu:=Ab ((Aa bh).trans (aj.mono cz))
        cases S with
        |false=>have F:=Ab (RdA.bad (w:=w) (w':=w6) (bs:=bs) (k:=10) (by rw[Aa cg,if_pos (Aa bn)]) od (Aa bu));clear aj a8;go_wp2;go_ret2;exact Aa F
        |true=>(have bf:readE bs=0:=by rw[Aa cg,if_neg (by rw[Aa bn];decide)]);(have bb:readL bs=l.map En.f:=by have:=Aa cp;rw[if_neg (by rw[bf];decide)]at this;exact this);have bo:FsIn w6 ac c2 (es.map Ev.fv):=((Aa cq).below (Aa dd) (VB _)).below (aj.mono om) (VB _);have F:Hid (RdA w bs (.returned (.tuple #[.slice ac k c2,.int .i64 0])) w6):=Ab ⟨.slice ac k c2,by rw[bf];rfl,⟨ac,c2,es.map Ev.fv,by rw[bb,<-Aa O];simp[Aa T],bo,by rw[DA,Aa O,bb]⟩,Aa bu⟩;clear aj a8 bf bb bo;go_wp2;go_ret2;exact Aa F
     . have F:=Ab (RdA.bad (w:=w) (w':=w3) (bs:=bs) (k:=7) (by rw[Aa ap,if_pos (.inl (by rw[Aa a6];exact az))]) od (Aa ae));(have cw:((E:Int)==0)=false:=by rw[beq_eq_false_iff_ne];omega);(have dw:((E:Int)!=0)=true:=by rw[bne,cw];rfl);clear az;go_wp2;go_ret2;exact Aa F
def Z65:Go.Shelf.Ren:=⟨fun|160=>59|232=>83|231=>82|227=>84|234=>86|233=>85|236=>88|235=>87|228=>116|271=>119|151=>118|197=>117|120=>157|152=>156|260=>155|137=>191|119=>192|224=>189|225=>188|217=>187|266=>214|n=>n,fun|9=>9|4=>4|3=>3|5=>5|117=>143|116=>142|0=>0|124=>146|21=>21|105=>183|46=>66|119=>261|139=>264|138=>263|n=>n,fun|3=>1|4=>2|n=>n⟩
theorem Z3c:Go.Proofs.Lays.n160 Tryz.prog Z65:= {
 mixed:=oR
 f119:=Tryz.func192.trans (congrArg some oR)
 f120:=Tryz.func157.trans (congrArg some oR)
 f137:=Tryz.func191.trans (congrArg some oR)
 f151:=Tryz.func118.trans (congrArg some oR)
 f152:=Tryz.func156.trans (congrArg some oR)
 f160:=Tryz.func59.trans (congrArg some oR)
 f197:=Tryz.func117.trans (congrArg some oR)
 f217:=Tryz.func187.trans (congrArg some oR)
 f224:=Tryz.func189.trans (congrArg some oR)
 f225:=Tryz.func188.trans (congrArg some oR)
 f227:=Tryz.func84.trans (congrArg some oR)
 f228:=Tryz.func116.trans (congrArg some oR)
 f231:=Tryz.func82.trans (congrArg some oR)
 f232:=Tryz.func83.trans (congrArg some oR)
 f233:=Tryz.func85.trans (congrArg some oR)
 f234:=Tryz.func86.trans (congrArg some oR)
 f235:=Tryz.func87.trans (congrArg some oR)
 f236:=Tryz.func88.trans (congrArg some oR)
 f260:=Tryz.func155.trans (congrArg some oR)
 f266:=Tryz.func214.trans (congrArg some oR)
 f271:=Tryz.func119.trans (congrArg some oR)
 t0:=Tryz.underlying0
 a0:=Tryz.isAgg0
 z0:=Tryz.sizeOf0
 v0:=Tryz.zeroValue0
 t3:=Tryz.underlying3
 a3:=Tryz.isAgg3
 z3:=Tryz.sizeOf3
 v3:=Tryz.zeroValue3
 t4:=Tryz.underlying4
 a4:=Tryz.isAgg4
 z4:=Tryz.sizeOf4
 v4:=Tryz.zeroValue4
 t5:=Tryz.underlying5
 a5:=Tryz.isAgg5
 z5:=Tryz.sizeOf5
 v5:=Tryz.zeroValue5
 t9:=Tryz.underlying9
 a9:=Tryz.isAgg9
 z9:=Tryz.sizeOf9
 v9:=Tryz.zeroValue9
 t21:=Tryz.underlying21
 a21:=Tryz.isAgg21
 z21:=Tryz.sizeOf21
 v21:=Tryz.zeroValue21
 t46:=Tryz.underlying66
 a46:=Tryz.isAgg66
 z46:=Tryz.sizeOf66
 v46:=Tryz.zeroValue66
 t105:=Tryz.underlying183
 a105:=Tryz.isAgg183
 z105:=Tryz.sizeOf183
 v105:=Tryz.zeroValue183
 t116:=Tryz.underlying142
 a116:=Tryz.isAgg142
 z116:=Tryz.sizeOf142
 t117:=Tryz.underlying143
 a117:=Tryz.isAgg143
 z117:=Tryz.sizeOf143
 v117:=Tryz.zeroValue143
 t119:=Tryz.underlying261
 a119:=Tryz.isAgg261
 z119:=Tryz.sizeOf261
 t124:=Tryz.underlying146
 a124:=Tryz.isAgg146
 z124:=Tryz.sizeOf146
 v124:=Tryz.zeroValue146
 t138:=Tryz.underlying263
 a138:=Tryz.isAgg263
 z138:=Tryz.sizeOf263
 v138:=Tryz.zeroValue263
 t139:=Tryz.underlying264
 a139:=Tryz.isAgg264
 z139:=Tryz.sizeOf264
 v139:=Tryz.zeroValue264
 g3:=oR
 g4:=oR}
theorem KS:(Tryz.prog.info? 142).map (fun i=>(i.zero,i.size))=some (some (.agg (Array.replicate 256 (.bool false))),256):=oR
theorem trimS (p:List UInt8)(w:World)(E:p.length<=maxLen):
 Calls Tryz.prog 59 #[.string (B p),.string (B Ho)] w fun e w'=>e=.returned (.string (B (Lib.trimS p Ho)))/\Below w.heap.size w w':=
 Any.strings_Trim_laid Z3c KS (B p) (B Ho) w (by rw[Im];exact E) od (ascii_of_all (l:=Ho) od)
theorem Z0n {p:List UInt8}(G:p≠ [])(F:p≠ [46])(E:p≠ [46,46]):okP p=true↔Lib.trimS p Ho= []:=by rw[TH];simp[okP,G,F,E]
theorem FM (s:List UInt8)(w:World)(ai:s.length<=maxLen):Calls Tryz.prog 37 #[.string (B s)] w fun e w'=>∃v,e=.returned (.tuple #[v,.int .i64 (Kg s:Nat)])/\SRow w' w.heap.size v (Z41 s)/\Below w.heap.size w w'/\(Kg s≠0->v=.slice none 0 0):=by
 have O:=Im s;unfold maxLen at ai;by_cases ah:40<s.length;. have af:=Ab (N3 ah);(have a8:40<(B s).size:=by rw[O];omega);(have bi:(B s).size<=9223372036854775807:=by rw[O];omega);clear O ah ai;generalize B s=t at*;go_enter Tryz.func37,Tryz.ntmps37;go_wp2;go_ret2;rw[Ox (by rw[Aa af];decide),Aa af];exact⟨_,rfl,SRow.nil _ _,Below.refl _ _,fun _=>rfl⟩
 . have ae:=B3 (B s) w (by rw[O];omega);rw[QE]at ae;(have a8:(B s).size<=40:=by rw[O];omega);have a3:=BL (s:=s) om;have ap:=Ab (SRow.new w (spl s) ou);have af:=Ab (fun p ag hb=>DI (s:=s) (p:=p) om ag hb);have bd:=Ab (PV (l:=s) om);have bf:∀p∈spl s,p.length<=s.length:=Z2g s;obtain⟨L,ak⟩:=exq ((spl s).length);rw[ak]at ae ap a3;have av:=Ab ak;(have ba:Hid (∀j (E:j<(spl s).length) (W:World),Below (w.heap.size+1) (w.alloc (.cells (Qj (spl s)).toArray 9)) W->W.cell? ⟨w.heap.size,j,none⟩=some (.string (B ((spl s)[j]'E)))):=by intro j E W a7;rw[a7.cell (p:=⟨w.heap.size,j,none⟩) (Nat.lt_succ_self _),World.cell?_alloc_at _ _ _ _ rfl];simp[Qj,E]);have bj:s.length<=40:=om;clear ak O ah ai;generalize B s=t at*;go_enter Tryz.func37,Tryz.ntmps37;go_wp2_with (go_at_call 58;refine ae.mono ?_;rintro e w' ⟨rfl,a4⟩;rw[a4]);clear ae;go_loopw [6,14] (fun _ i wr=>∃k:Nat,k<=L/\i=.int .i64 k/\Hid (∀j (E:j<(spl s).length),j<k->okP ((spl s)[j]'E)=true)/\Hid (Below (w.heap.size+1) (w.alloc (.cells (Qj (spl s)).toArray 9)) wr)) (fun _ i _=>L-(intOf i).toNat);case atStart=>exact⟨0,VH _,rfl,fun j _ E=>absurd E om,Below.refl _ _⟩
   case round=>
    obtain⟨k,bq,rfl,ay,G⟩:=hrel;by_cases bc:k<L
    . (have Y:k<(spl s).length:=by rw[Aa av];exact bc);have I:=(Aa ba) k Y wr (Aa G);have bb:=(Aa G).size;have bo:=bf _ (WK Y);have a1:=Ab (WK Y);have bg:=Ab (fun h=>(Aa af) _ (Aa a1) h);(have a6:Hid (okP ((spl s)[k]'Y)=true->∀j (E:j<(spl s).length),j<k+1->okP ((spl s)[j]'E)=true):=by intro h j E bk;by_cases e:j=k;subst e;exact h;exact(Aa ay) j E om);generalize (spl s)[k]'Y=q at*;(have aw:w.heap.size+1<=wr.heap.size:=by simp at bb;omega);clear a1;(have F:∀W,Hid (Below (w.heap.size+1) (w.alloc (.cells (Qj (spl s)).toArray 9)) W)->Hid (okP q=false)->Hid (SRow W w.heap.size (.slice none 0 0) (Z41 s)/\Kg s=1/\Below w.heap.size w W):=by intro W M H;have az:=(Aa bg) (Aa H);refine⟨?_,az,(Mv w _).trans ((Aa M).mono (Nat.le_succ _))⟩;rw[Ox (by rw[az];decide)];exact SRow.nil _ _);by_cases aa:q= [];(. subst aa;have au:wr.cell? ⟨w.heap.size,k,none⟩=some (.string ⟨#[]⟩):=I;have Z:=F wr G rfl;clear I F;go_wp2;go_ret2;obtain⟨x1,x2,x3⟩:=Aa Z;rw[x2];exact⟨_,rfl,x1,x3,fun _=>rfl⟩);by_cases M:q= [46];(. subst M;have au:wr.cell? ⟨w.heap.size,k,none⟩=some (.string ⟨#[46]⟩):=I;have Z:=F wr G rfl;clear I F;go_wp2;go_ret2;obtain⟨x1,x2,x3⟩:=Aa Z;rw[x2];exact⟨_,rfl,x1,x3,fun _=>rfl⟩);by_cases H:q= [46,46];(. subst H;have au:wr.cell? ⟨w.heap.size,k,none⟩=some (.string ⟨#[46,46]⟩):=I;have Z:=F wr G rfl;clear I F;go_wp2;go_ret2;obtain⟨x1,x2,x3⟩:=Aa Z;rw[x2];exact⟨_,rfl,x1,x3,fun _=>rfl⟩);have ac:=Ab (Z0n aa M H);have e0:=Xb (B q) aa;have bu:=BK (B q) [46] M;have e2:=BK (B q) [46,46] H;have aj:=trimS q wr ou;clear aa M H;generalize B q=bn at*;by_cases T:Lib.trimS q Ho= [];. have al:=Ab ((Aa ac).2 T);(have a2:B (Lib.trimS q Ho)=⟨#[]⟩:=by rw[T];rfl);rw[a2]at aj;clear T a2 ac F;go_wp2_with (go_at_call 59;refine aj.mono ?_;rintro e ar ⟨rfl,U⟩;have ao:=Ab ((Aa G).trans (U.mono aw));clear U);go_roundw;(case rel=>exact⟨k+1,om,by go_num,(Aa a6) (Aa al),Aa ao⟩);case measure=>simp[intOf];omega
      . have al:Hid (okP q=false):=by
         cases a5:okP q with
         |false=>rfl
         |true=>exact absurd ((Aa ac).1 a5) T
        have bm:=Xb (B (Lib.trimS q Ho)) T;clear T ac;generalize B (Lib.trimS q Ho)=bh at*;have a9:=Ab F;clear F;go_wp2_with (go_at_call 59;refine aj.mono ?_;rintro e ar ⟨rfl,U⟩;have ao:=Ab ((Aa G).trans (U.mono aw));clear U);go_ret2;obtain⟨x1,x2,x3⟩:=Aa ((Aa a9) ar ao al);rw[x2];exact⟨_,rfl,x1,x3,fun _=>rfl⟩
    . obtain rfl:k=L:=om;have ax:Hid (Kg s=0):=(Aa bd) (by rw[WX];intro p ag;obtain⟨j,E,rfl⟩:=List.mem_iff_getElem.1 ag;exact(Aa ay) j E (by rw[Aa av]at E;exact E));go_wp2;go_ret2;rw[MG (Aa ax),Aa ax];refine⟨_,rfl, ?_,(Mv w _).trans ((Aa G).mono (Nat.le_succ _)),fun h=>absurd rfl h⟩;exact(Aa ap).below (by simpa using Aa G)
theorem PT {f:Fl}(I:Kg f.name=0)(n:Nat)(G:f.bytes.length=n)(E:Nat)(T:Mq f=E):(E=2/\3000<n)\/ (E=3/\n<=3000/\(f.stamp<0\/ (0<=f.stamp/\1000000<f.stamp)\/ (0<=f.stamp/\f.stamp<=1000000/\f.node<0)\/ (0<=f.stamp/\f.stamp<=1000000/\0<=f.node/\3<f.node)))\/ (E=4/\n<=3000/\0<=f.stamp/\f.stamp<=1000000/\0<=f.node/\f.node<=3/\f.gone=true/\0<n)\/ (E=0/\n<=3000/\0<=f.stamp/\f.stamp<=1000000/\0<=f.node/\f.node<=3/\f.gone=true/\n=0)\/ (E=0/\n<=3000/\0<=f.stamp/\f.stamp<=1000000/\0<=f.node/\f.node<=3/\f.gone=false):=by
 subst G;subst T;by_cases H:3000<f.bytes.length;exact .inl ⟨M4 I H,H⟩
 . by_cases M:f.stamp<0\/1000000<f.stamp\/f.node<0\/3<f.node;exact .inr (.inl ⟨Vs I H M,om,om⟩)
   . have F:=M2 I H M
     cases O:f.gone with
     |true=>by_cases G:0<f.bytes.length;rw[if_pos ⟨O,G⟩]at F;exact .inr (.inr (.inl ⟨F,om,om,om,om,om,rfl,G⟩));rw[if_neg (fun k=>G k.2)]at F;exact .inr (.inr (.inr (.inl ⟨F,om,om,om,om,om,rfl,om⟩)))
     |false=>rw[if_neg (fun k=>by rw[O]at k;cases k.1)]at F;exact .inr (.inr (.inr (.inr ⟨F,om,om,om,om,om,rfl⟩)))
def ahn (xs:List Fv):Nat->List UInt8
 |0=> []
 |k+1=>(((fls xs)[k]?).map Fl.name).getD []
theorem Z5e (E:Option Addr)(n c:Nat)(w:World)(F:12<n):Calls Tryz.prog 8 #[.slice E n c] w fun e w'=>e=.returned (.int .i64 2)/\w'=w:=by go_enter Tryz.func8,Tryz.ntmps8;go_wp2;go_ret;exact⟨rfl,rfl⟩
theorem Tw (bc:Option Addr)(c:Nat)(xs:List Fv)(w:World)(h:FsIn w bc c xs)(n:Nat)(bd:xs.length=n):Calls Tryz.prog 8 #[.slice bc n c] w fun e w'=>e=.returned (.int .i64 (errM (fls xs):Nat))/\Below w.heap.size w w':=by
 (have hl:(fls xs).length=n:=by simp[fls,bd]);by_cases hm:12<n;(have e:errM (fls xs)=2:=by unfold errM;rw[if_pos om]);rw[e];refine(Z5e bc n c w hm).mono ?_;rintro e w' ⟨rfl,rfl⟩;exact⟨rfl,Below.refl _ _⟩
 . (have e:errM (fls xs)=DH none (fls xs):=by unfold errM;rw[if_neg om]);obtain⟨E,a8⟩:=exq (DH none (fls xs));rw[e,a8];have bn:=Ab h;have b8:=Ab bd;have co:=Ab a8;have bi:=Ab hl;clear h e a8 bd hl;go_enter Tryz.func8,Tryz.ntmps8;go_wp2;go_loopw [3,4,5,6,7,13] (fun cg _ _ _ _ i wr=>∃k:Nat,k<=n/\i=.int .i64 (k:Int)/\cg=.string (B (ahn xs k))/\Hid (DH (ahd xs k) ((fls xs).drop k)=E)/\Hid (Below w.heap.size w wr)) (fun _ _ _ _ _ i _=>n-(intOf i).toNat);case atStart=>exact⟨0,VH _,rfl,rfl,Aa co,Below.refl _ _⟩
   case round=>
    obtain⟨k,cp,rfl,rfl,bo,a2⟩:=hrel;by_cases ce:k<n
    . obtain⟨x,ay,bu⟩:=Ob (xs:=xs) (k:=k) (by rw[Aa b8];exact ce);obtain⟨b,o,rfl,hb,c0,c1,c2,cd,ck⟩:=(Aa bn).get (Aa a2) ay;have a5:=M5 ay;rw[Aa bo]at a5;have b9:=(Aa a2).size;have U:=Ab (fun W=>FM x.f.name W (by have:=((Aa bn).all x bu).txt;unfold maxLen;omega));have ar:=Ab a5;(have bv:ahn xs (k+1)=x.f.name:=by show (((fls xs)[k]?).map Fl.name).getD []=_;simp[fls,ay]);have bz:=Ab bv;have bk:x.sl=.slice x.a x.f.bytes.length x.c:=rfl;rw[bk]at c1;have Z:=Ab (fun b3=>(Aa a2).alloc b9 b3);obtain⟨a9,ba⟩:=exq (x.f.bytes.length);obtain⟨er,a4⟩:=exq (Mq x.f);have a3:=Ab (fun cn=>PT (f:=x.f) cn a9 ba er a4);have au:=Ab (@M3 x.f);rw[a4]at ar au
      have bm:Hid ((k=0/\behind (ahd xs k) x.f=true)\/ (0<k/\behind (ahd xs k) x.f=decide (Pq x.f.name (ahn xs k)=1))):=by
       cases k with
       |zero=>exact .inl ⟨rfl,rfl⟩
       |succ j=>refine .inr ⟨om, ?_⟩;(have b7:j<(fls xs).length:=by rw[Aa bi];omega);show behind ((fls xs)[j]?) x.f=decide (Pq x.f.name ((((fls xs)[j]?).map Fl.name).getD [])=1);rw[VP b7];show decide (Pq (fls xs)[j].name x.f.name<0)=decide (Pq x.f.name (fls xs)[j].name=1);rw[decide_eq_decide];have cq:=Su x.f.name (fls xs)[j].name;have aw:=Kd x.f.name (fls xs)[j].name;omega
      have ak:=Z2c x.f.name (ahn xs k);have al:=Z2d x.f.name (ahn xs k);have b4:=Kd x.f.name (ahn xs k);obtain⟨ap,bh⟩:=exq (Pq x.f.name (ahn xs k));rw[bh]at ak al b4;(have az:Hid ((k=0/\behind (ahd xs k) x.f=true)\/ (0<k/\behind (ahd xs k) x.f=decide (ap=1))):=by have:=Aa bm;rw[bh]at this;exact this);clear a5 bu ay bk a4 bv bm bh;rw[ba]at c1;clear ba;obtain⟨b0,av⟩:=exq (Kg x.f.name);rw[av]at U a3 au;clear av;obtain⟨t,aw⟩:=exq (B x.f.name);obtain⟨bq,bf⟩:∃bq,B (ahn xs k)=bq:=⟨_,rfl⟩;rw[aw]at U c0 ak al;rw[bf]at ak al;rw[bf];have cm:=Ab aw;clear aw bf;generalize x.f.stamp=st at*;generalize x.f.node=nd at*;generalize x.f.gone=gn at*;by_cases a6:b0=0
      . subst a6;have bb:=Aa a3 rfl;clear a3 au;have I:=Aa ar;clear ar;by_cases a1:er=0
        . subst a1;(have b5:(a9<=3000/\0<=st/\st<=1000000/\0<=nd/\nd<=3)/\((gn=true/\a9=0)\/gn=false):=by(rcases bb with ⟨h,_⟩|⟨h,_⟩|⟨h,_⟩|⟨_,ai,Y,aa,ae,aj,ax,bw⟩|⟨_,ai,Y,aa,ae,aj,ax⟩);omega;omega;omega;exact⟨⟨ai,Y,aa,ae,aj⟩,.inl ⟨ax,bw⟩⟩;exact⟨⟨ai,Y,aa,ae,aj⟩,.inr ax⟩);obtain⟨⟨ai,Y,aa,ae,aj⟩,bj⟩:=b5;rw[if_neg oS]at I;clear bb;(have ci:(Hid (behind (ahd xs k) x.f=true)/\(k=0\/ (0<k/\ap=1)))\/ (Hid (behind (ahd xs k) x.f=false)/\0<k/\(ap= -1\/ap=0)):=by(rcases Aa az with ⟨M,O⟩|⟨M,O⟩);exact .inl ⟨O,.inl M⟩;by_cases bg:ap=1;exact .inl ⟨by rw[O];exact decide_eq_true bg,.inr ⟨M,bg⟩⟩;exact .inr ⟨by rw[O];exact decide_eq_false bg,M,om⟩);clear az;rcases ci with ⟨ao,a7⟩|⟨ao,cj,a7⟩
          . rw[if_neg (by rw[Aa ao];simp)]at I;have T:=Ab I;clear I ao;rcases bj with ⟨rfl,rfl⟩|rfl
            all_goals (
             rcases a7 with rfl|⟨cj,rfl⟩
             all_goals (
              try simp only[YJ,XN]at c0 c1 c2 cd ck
              try simp only[Int.reduceLT,Int.reduceEq,decide_false]at ak al
              go_wp2_with fail
              refine(Aa U _).mono ?_
              rintro e G ⟨ac,rfl,_,F,_⟩
              have H:=Ab ((Aa Z _).trans (F.mono oO))
              have ag:G.cell? ⟨wr.heap.size,0,none⟩=some (.string t):=(F.cell (p:=⟨wr.heap.size,0,none⟩) oS).trans oS
              have M:=(F.cell (p:=⟨wr.heap.size,1,none⟩) oS).trans (by simp;rfl)
              have O:G.cell? ⟨wr.heap.size,2,none⟩=some (.int .i64 st):=(F.cell (p:=⟨wr.heap.size,2,none⟩) oS).trans oS
              have ah:G.cell? ⟨wr.heap.size,3,none⟩=some (.int .i64 nd):=(F.cell (p:=⟨wr.heap.size,3,none⟩) oS).trans oS
              have af:=(F.cell (p:=⟨wr.heap.size,4,none⟩) oS).trans (by simp;rfl)
              clear F
              go_wp2
              go_roundw
              case rel=>exact⟨_,om,by go_num,by rw[Aa bz,Aa cm],(Aa T).symm,Aa H⟩
              case measure=>simp[intOf];omega))
          . rw[if_pos (Aa ao)]at I;have T:=Ab I;clear I ao;have ct:(0:Int)<(k:Int):=om;rcases bj with ⟨rfl,rfl⟩|rfl
            all_goals (
             rcases a7 with rfl|rfl
             all_goals (
              try simp only[Int.reduceLT,Int.reduceEq,Int.reduceNeg,decide_true,decide_false]at ak al
              go_wp2_with fail
              refine(Aa U _).mono ?_
              rintro e G ⟨ac,rfl,_,F,_⟩
              have H:=Ab ((Aa Z _).trans (F.mono oO))
              have ag:G.cell? ⟨wr.heap.size,0,none⟩=some (.string t):=(F.cell (p:=⟨wr.heap.size,0,none⟩) oS).trans oS
              have M:=(F.cell (p:=⟨wr.heap.size,1,none⟩) oS).trans (by simp;rfl)
              have O:G.cell? ⟨wr.heap.size,2,none⟩=some (.int .i64 st):=(F.cell (p:=⟨wr.heap.size,2,none⟩) oS).trans oS
              have ah:G.cell? ⟨wr.heap.size,3,none⟩=some (.int .i64 nd):=(F.cell (p:=⟨wr.heap.size,3,none⟩) oS).trans oS
              have af:=(F.cell (p:=⟨wr.heap.size,4,none⟩) oS).trans (by simp;rfl)
              clear F
              go_wp2
              go_ret
              exact⟨Dd (by rw[Aa T];rfl),Aa H⟩))
        . rw[if_pos (by simpa using a1)]at I;have T:=Ab I;clear I az;(rcases bb with ⟨rfl,ai⟩|⟨rfl,ai,Y|⟨Y,aa⟩|⟨Y,aa,ae⟩|⟨Y,aa,ae,aj⟩⟩|⟨rfl,ai,Y,aa,ae,aj,rfl,ax⟩|⟨rfl,_⟩|⟨rfl,_⟩);(. skip;go_wp2_with fail;refine(Aa U _).mono ?_;rintro e G ⟨ac,rfl,_,F,_⟩;have H:=Ab ((Aa Z _).trans (F.mono oO));have ag:G.cell? ⟨wr.heap.size,0,none⟩=some (.string t):=(F.cell (p:=⟨wr.heap.size,0,none⟩) oS).trans oS;have M:=(F.cell (p:=⟨wr.heap.size,1,none⟩) oS).trans (by simp;rfl);have O:G.cell? ⟨wr.heap.size,2,none⟩=some (.int .i64 st):=(F.cell (p:=⟨wr.heap.size,2,none⟩) oS).trans oS;have ah:G.cell? ⟨wr.heap.size,3,none⟩=some (.int .i64 nd):=(F.cell (p:=⟨wr.heap.size,3,none⟩) oS).trans oS;have af:=(F.cell (p:=⟨wr.heap.size,4,none⟩) oS).trans (by simp;rfl);clear F;go_wp2;go_ret;exact⟨Dd (by rw[Aa T];rfl),Aa H⟩);(. skip;go_wp2_with fail;refine(Aa U _).mono ?_;rintro e G ⟨ac,rfl,_,F,_⟩;have H:=Ab ((Aa Z _).trans (F.mono oO));have ag:G.cell? ⟨wr.heap.size,0,none⟩=some (.string t):=(F.cell (p:=⟨wr.heap.size,0,none⟩) oS).trans oS;have M:=(F.cell (p:=⟨wr.heap.size,1,none⟩) oS).trans (by simp;rfl);have O:G.cell? ⟨wr.heap.size,2,none⟩=some (.int .i64 st):=(F.cell (p:=⟨wr.heap.size,2,none⟩) oS).trans oS;have ah:G.cell? ⟨wr.heap.size,3,none⟩=some (.int .i64 nd):=(F.cell (p:=⟨wr.heap.size,3,none⟩) oS).trans oS;have af:=(F.cell (p:=⟨wr.heap.size,4,none⟩) oS).trans (by simp;rfl);clear F;go_wp2;go_ret;exact⟨Dd (by rw[Aa T];rfl),Aa H⟩);(. skip;go_wp2_with fail;refine(Aa U _).mono ?_;rintro e G ⟨ac,rfl,_,F,_⟩;have H:=Ab ((Aa Z _).trans (F.mono oO));have ag:G.cell? ⟨wr.heap.size,0,none⟩=some (.string t):=(F.cell (p:=⟨wr.heap.size,0,none⟩) oS).trans oS;have M:=(F.cell (p:=⟨wr.heap.size,1,none⟩) oS).trans (by simp;rfl);have O:G.cell? ⟨wr.heap.size,2,none⟩=some (.int .i64 st):=(F.cell (p:=⟨wr.heap.size,2,none⟩) oS).trans oS;have ah:G.cell? ⟨wr.heap.size,3,none⟩=some (.int .i64 nd):=(F.cell (p:=⟨wr.heap.size,3,none⟩) oS).trans oS;have af:=(F.cell (p:=⟨wr.heap.size,4,none⟩) oS).trans (by simp;rfl);clear F;go_wp2;go_ret;exact⟨Dd (by rw[Aa T];rfl),Aa H⟩);(. skip;go_wp2_with fail;refine(Aa U _).mono ?_;rintro e G ⟨ac,rfl,_,F,_⟩;have H:=Ab ((Aa Z _).trans (F.mono oO));have ag:G.cell? ⟨wr.heap.size,0,none⟩=some (.string t):=(F.cell (p:=⟨wr.heap.size,0,none⟩) oS).trans oS;have M:=(F.cell (p:=⟨wr.heap.size,1,none⟩) oS).trans (by simp;rfl);have O:G.cell? ⟨wr.heap.size,2,none⟩=some (.int .i64 st):=(F.cell (p:=⟨wr.heap.size,2,none⟩) oS).trans oS;have ah:G.cell? ⟨wr.heap.size,3,none⟩=some (.int .i64 nd):=(F.cell (p:=⟨wr.heap.size,3,none⟩) oS).trans oS;have af:=(F.cell (p:=⟨wr.heap.size,4,none⟩) oS).trans (by simp;rfl);clear F;go_wp2;go_ret;exact⟨Dd (by rw[Aa T];rfl),Aa H⟩);(. skip;go_wp2_with fail;refine(Aa U _).mono ?_;rintro e G ⟨ac,rfl,_,F,_⟩;have H:=Ab ((Aa Z _).trans (F.mono oO));have ag:G.cell? ⟨wr.heap.size,0,none⟩=some (.string t):=(F.cell (p:=⟨wr.heap.size,0,none⟩) oS).trans oS;have M:=(F.cell (p:=⟨wr.heap.size,1,none⟩) oS).trans (by simp;rfl);have O:G.cell? ⟨wr.heap.size,2,none⟩=some (.int .i64 st):=(F.cell (p:=⟨wr.heap.size,2,none⟩) oS).trans oS;have ah:G.cell? ⟨wr.heap.size,3,none⟩=some (.int .i64 nd):=(F.cell (p:=⟨wr.heap.size,3,none⟩) oS).trans oS;have af:=(F.cell (p:=⟨wr.heap.size,4,none⟩) oS).trans (by simp;rfl);clear F;go_wp2;go_ret;exact⟨Dd (by rw[Aa T];rfl),Aa H⟩);(. skip;go_wp2_with fail;refine(Aa U _).mono ?_;rintro e G ⟨ac,rfl,_,F,_⟩;have H:=Ab ((Aa Z _).trans (F.mono oO));have ag:G.cell? ⟨wr.heap.size,0,none⟩=some (.string t):=(F.cell (p:=⟨wr.heap.size,0,none⟩) oS).trans oS;have M:=(F.cell (p:=⟨wr.heap.size,1,none⟩) oS).trans (by simp;rfl);have O:G.cell? ⟨wr.heap.size,2,none⟩=some (.int .i64 st):=(F.cell (p:=⟨wr.heap.size,2,none⟩) oS).trans oS;have ah:G.cell? ⟨wr.heap.size,3,none⟩=some (.int .i64 nd):=(F.cell (p:=⟨wr.heap.size,3,none⟩) oS).trans oS;have af:=(F.cell (p:=⟨wr.heap.size,4,none⟩) oS).trans (by simp;rfl);clear F;go_wp2;go_ret;exact⟨Dd (by rw[Aa T];rfl),Aa H⟩);exact absurd rfl a1;exact absurd rfl a1
      . have av:=Aa au a6;have I:=Aa ar;rw[av,if_pos (by simpa using a6)]at I;have T:=Ab I;clear I av ar a3 au az;go_wp2_with fail;refine(Aa U _).mono ?_;rintro e G ⟨ac,rfl,_,F,_⟩;have H:=Ab ((Aa Z _).trans (F.mono oO));clear F;go_wp2;go_ret;exact⟨Dd (by rw[Aa T]),Aa H⟩
    . obtain rfl:n=k:=om;go_wp2;go_ret;have:=Aa bo;rw[XQ (by rw[Aa bi];exact VB _)]at this;exact⟨Dd (by rw[<-this];rfl),Aa a2⟩
def SG (c x k:Nat):Nat:=Ik k (c^^^x%2^k)
theorem QG (c x:Nat):SG c x 0=c:=by simp[SG,Ik,Nat.mod_one]
theorem QH (c x k:Nat):SG c x (k+1)=lft (SG c x k^^^x/2^k%2):=NU c x k
theorem Z1y {c x:Nat}(E:x<256):SG c x 8=Z1x c x:=by unfold SG Z1x;rw[ZJ (by simpa using E)]
theorem Z5c {c x:Nat}(k:Nat)(E:c<4294967296)(F:x<256):SG c x k<4294967296:=by unfold SG;refine Rl k (ZO (n:=32) E ?_);have:=Nat.mod_le x (2^k);omega
theorem Z8o {m x j:Nat}(G:m<4294967296)(F:x<256)(H:j<8):bits .xor .u32 (bits .and .u32 (m:Int) 1) (bits .and .u8 ((x:Int)/2^j) 1%4294967296)=(((m%2^^^x/2^j%2):Nat):Int):=by have E:bits .and .u8 ((x/2^j:Nat):Int) ((1:Nat):Int)=((x/2^j&&&1:Nat):Int):=u8_and_nat _ _ (XO (YO _ _) F) od;rw[Nat.and_one_is_mod]at E;(have e:((x/2^j:Nat):Int)=(x:Int)/2^j:=by push_cast;rfl);rw[e]at E;rw[Z8g G,show (1:Int)=((1:Nat):Int) from rfl,E,show (((x/2^j%2:Nat):Int))%4294967296=((x/2^j%2:Nat):Int) by omega];exact u32_xor_nat _ _ om om
theorem QF (p:Nat)(a:Option Addr)(n ai:Nat)(bs:List Nat)(w:World)(O:bs.length=n)(ar:n<=12000)(M:p<4294967296)(ac:BytesIn w a bs)(Z:∀j,bs.getD j 0<256):Calls Tryz.prog 12 #[.int .u32 (p:Int),.slice a n ai] w fun e w'=>e=.returned (.int .u32 (crcN p bs:Nat))/\w'=w:=by have ao:=Ab ac;have U:=Ab Z;have Y:=Ab O;clear ac Z O;go_enter Tryz.func12,Tryz.ntmps12;go_wp2;rw[Z7h M];go_loop [5,14] (fun r i=>∃k:Nat,k<=n/\i=.int .i64 (k:Int)/\r=.int .u32 (Sn (p^^^4294967295) (bs.take k):Nat)) (fun _ i=>n-(intOf i).toNat);(case atStart=>exact⟨0,om,rfl,rfl⟩);case round=>obtain⟨k,au,rfl,rfl⟩:=hrel;have hr:Sn (p^^^4294967295) (bs.take k)<4294967296:=Sl _ _ (fun y ag=>by obtain⟨i,hi,rfl⟩:=XI ag;have:=Aa U i;rw[VL]at hi;rw[YN];rw[List.getD,VP om]at this;exact this) (E5 M);by_cases aj:k<n;(. (have G:k<bs.length:=by rw[Aa Y];exact aj);obtain⟨b,o,rfl,hb,hc⟩:=DS (Aa ao) G;have F:=Aa U k;have ah:Hid (Sn (p^^^4294967295) (bs.take (k+1))=Z1x (Sn (p^^^4294967295) (bs.take k)) (bs.getD k 0)):=Ab (by rw[Zy G,N7]);generalize Sn (p^^^4294967295) (bs.take k)=r at*;generalize bs.getD k 0=x at*;clear G;go_wp2;go_loop [5,18] (fun r1 i=>∃j:Nat,j<=8/\i=.int .i64 (j:Int)/\r1=.int .u32 (SG r x j:Nat)) (fun _ i=>8-(intOf i).toNat);(case atStart=>exact⟨0,om,rfl,by rw[QG]⟩);case round=>obtain⟨j,ap,rfl,rfl⟩:=hrel;by_cases T:j<8;(. have aa:=Ab (QH r x j);have hm:=Z5c j hr F;generalize SG r x j=m at*;by_cases E:(m%2^^^x/2^j%2)=1;(. (have H:(bits .xor .u32 (bits .and .u32 (m:Int) 1) (bits .and .u8 ((x:Int)/2^j) 1%4294967296)==1)=true:=by rw[Z8o hm F T,E];rfl);have I:Hid (lft (m^^^x/2^j%2)=m/2^^^3988292384):=Ab (by rw[NV _ _ (Nat.mod_lt _ od),if_pos E]);have ak:=Ab (Z8k hm);clear E;go_wp2;go_round;(case rel=>exact⟨j+1,om,by go_num,by rw[Aa aa,Aa I,Aa ak]⟩);case measure=>simp[intOf];omega);. have H:=Z8o hm F T;(have af:((((m%2^^^x/2^j%2):Nat):Int)==1)=false:=by rw[beq_eq_false_iff_ne];omega);rw[<-H]at af;have I:Hid (lft (m^^^x/2^j%2)=m/2):=Ab (by rw[NV _ _ (Nat.mod_lt _ od),if_neg E]);clear E H;go_wp2;go_round;(case rel=>exact⟨j+1,om,by go_num,by rw[Aa aa,Aa I];rfl⟩);case measure=>simp[intOf];omega);. obtain rfl:j=8:=om;go_wp2;go_round;(case rel=>exact⟨k+1,om,by go_num,by rw[Aa ah,Z1y F]⟩);case measure=>simp[intOf];omega);. have e:k=n:=om;subst e;have al:Hid (Sn (p^^^4294967295) (bs.take k)^^^4294967295=crcN p bs):=Ab (by rw[VV (by rw[Aa Y];exact VB _)];rfl);have ae:=Ab (Z7h hr);clear hr;go_wp2;go_ret;exact⟨by rw[Aa ae,Aa al];rfl,rfl⟩
end Go.Proofs.YtleocpdblhbimaaGreatDoor
