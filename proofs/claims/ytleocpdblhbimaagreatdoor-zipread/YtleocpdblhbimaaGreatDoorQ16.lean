import Derived.Test.YtleocpdblhbimaaGreatDoorQ15
import Derived.Shelf.Strings.SlTrimAscii
set_option linter.unusedSimpArgs false
set_option maxHeartbeats 4000000
namespace Go.Proofs.YtleocpdblhbimaaGreatDoor
open Go.RowKit
set_option linter.unusedVariables false
set_option maxRecDepth 100000
theorem FsIn.new (w:World)(xs:List Fv)(t:TypeId)(E:Array Value)(n:Nat)(O:E=(fcells xs).toArray)(I:xs.length=n)(T:∀x∈xs,FvIn w x)(G:xs.length<=2199023255552):FsIn (w.alloc (.cells E t)) (some ⟨w.heap.size,0,none⟩) n xs:=by
 subst I;refine⟨.inr ⟨w.heap.size,0,rfl,by simp, ?_⟩,VB _,by omega,G,fun x F=>(T x F).alloc _⟩;intro j x M
 have hc:∀i u,i<5->x.cells[i]? =some u->(w.alloc (.cells E t)).cell? ⟨w.heap.size,0+j*5+i,none⟩=some u:=by
  intro i u hi H;rw[World.cell?_alloc_at _ _ _ _ rfl,O];have e:=Sa xs j x i M hi;rw[WG];simpa using e.trans H
 exact⟨hc 0 _ (by decide) rfl,hc 1 _ (by decide) rfl,hc 2 _ (by decide) rfl,hc 3 _ (by decide) rfl,hc 4 _ (by decide) rfl⟩
def LIn (w:World)(v:Value)(l:List Fl):Prop:=∃ad c out,v=.slice ad l.length c/\FsIn w ad c out/\fls out=l
theorem LIn.below {w w':World}{v:Value}{l:List Fl}(H:LIn w v l)(I:Below w.heap.size w w'):LIn w' v l:=by
 obtain⟨ad,c,out,E,G,F⟩:=H;exact⟨ad,c,out,E,G.below I (VB _),F⟩
theorem LIn.shape {w:World}{v:Value}{l:List Fl}(E:LIn w v l):∃ad c,v=.slice ad l.length c:=by
 obtain⟨ad,c,out,F,_⟩:=E;exact⟨ad,c,F⟩
theorem PH {out:List Fv}{l:List Fl}(E:fls out=l):out.length=l.length:=by rw[<-E];simp[fls]
theorem Z6s {w:World}{E:Option Addr}{c n:Nat}{xs:List Fv}(F:FsIn w E c xs)(G:xs.length=n):LIn w (.slice E n c) (fls xs):=⟨E,c,xs,by rw[<-G];simp[fls],F,rfl⟩
def RdA (w:World)(bs:List Nat)(e:Ending)(w':World):Prop:=∃v,e=.returned (.tuple #[v,.int .i64 (readE bs:Nat)])/\LIn w' v (readL bs)/\Below w.heap.size w w'
theorem LIn.nil (w:World):LIn w (.slice none 0 0) []:=⟨none,0,[],rfl,FsIn.nil w,rfl⟩
theorem RdA.bad {w w':World}{bs:List Nat}{k:Nat}(E:readE bs=k)(F:k≠0)(G:Below w.heap.size w w'):RdA w bs (.returned (.tuple #[.slice none 0 0,.int .i64 (k:Int)])) w':=by
 have hl:readL bs= []:=by unfold readL;rw[if_pos (by rw[E];exact F)]
 exact⟨.slice none 0 0,by rw[E],by rw[hl];exact LIn.nil _,G⟩
theorem DA (E:List Ev):fls (E.map Ev.fv)=(E.map Ev.e).map En.f:=by simp[fls,Ev.fv,ZA]
theorem Ps (n Z:Nat)(a:Option Addr)(bs:List Nat)(w:World)(U:bs.length=n)(cv:n<=Z)(af:PkIn w a Z bs)(ae:∀x∈bs,x<256)(dt:n<=9223372036854775807)(O:Z5x bs):
 Calls Tryz.prog 14 #[.slice a n Z] w fun e w'=>RdA w bs e w':=by
 by_cases hn:12000<n
 . have F:=Ab (RdA.bad (w:=w) (w':=w) (bs:=bs) (k:=2) (by unfold readE;rw[if_pos (by omega)]) (by decide) (Below.refl _ _));have db:(12000:Int)<(n:Int):=by omega
   clear af ae U O;go_enter Tryz.func14,Tryz.ntmps14
   go_wp2;go_ret2;exact Aa F
 . have H:readE bs=match Cd (n+1) bs with
    |none=>7
    |some l=>if errM (l.map En.f)≠0\/Be l≠bs then 7 else if sumsF l=false then 10 else 0:=by
    conv=>lhs;unfold readE
    rw[if_neg (by omega),U]
    cases Cd (n+1) bs<;>rfl
   have I:readL bs=if readE bs≠0 then []else ((Cd (n+1) bs).getD []).map En.f:=by unfold readL;rw[U]
   have db:¬(12000:Int)<(n:Int):=by omega
   have bj:=Ab (Yk n Z a bs w U (by omega) cv af ae O);have di:=Ab af;have bc:=Ab ae;have ar:=Ab H;have b9:=Ab I;have a4:=Ab U;clear af ae H I U O;go_enter Tryz.func14,Tryz.ntmps14
   go_wp2_with fail
   refine(Aa bj).mono ?_;rintro e bk ⟨ah,(⟨G,rfl⟩|⟨v,es,G,rfl,bu,_⟩)⟩
   . have F:=Ab (RdA.bad (w:=w) (w':=bk) (bs:=bs) (k:=7) (by rw[Aa ar,G]) (by decide) ah);clear ah G;go_wp2;go_ret2;exact Aa F
   . obtain⟨ad,c,rfl,a2⟩:=bu.entries;obtain⟨ci,az⟩:=Sg (Aa bc) G;have a3:=Sf G (Aa bc);have H:=Aa ar;rw[G]at H;dsimp only at H;have I:=Aa b9;rw[G]at I;obtain⟨l,ao⟩:=exq (es.map Ev.e);obtain⟨k,Y⟩:=exq (es.length);have cu:l.length=k:=by rw[<-ao];simpa using Y
     rw[ao]at az H I G ci a3;have ct:=Ab a3;rw[Y];have ck:k<=20000:=by have:=Aa a4;omega
     have cj:=Ab (Z1 ad c k es bk a2 Y ck);have b7:=Ab a2;have T:=Ab ao;have M:=Ab Y;have dj:=Ab az;have a7:=Ab H;have c6:=Ab I;have b8:=Ab ah;clear ah bu a2 ci az H I G ao Y cu a3 bj ar b9;go_wp2_with fail
     refine(Aa cj).mono ?_;rintro e c9 ⟨dq,rfl,cg,ba⟩;obtain⟨ac,c2,rfl,a5⟩:=cg.files (by rw[Aa M];omega);rw[Aa M];have ay:=Ab (Sv ac c2 (es.map Ev.fv) c9 a5 k (by simpa using Aa M));obtain⟨E,al⟩:=exq (errM (fls (es.map Ev.fv)));rw[al]at ay;rw[DA,Aa T]at al;have av:=Ab al;have df:=Ab a5;have dm:=(Aa b8).size;have cm:=Ab ((Aa b8).trans (ba.mono dm));have cd:=Ab ba;clear cg a5 ba al cj;go_wp2_with fail
     refine(Aa ay).mono ?_;rintro e w3 ⟨rfl,aj⟩;have dh:=(Aa cm).size;have ai:=Ab ((Aa cm).trans (aj.mono dh));have bf:=Ab ((Aa cd).trans (aj.mono (Aa cd).size));have b4:=Ab aj;clear aj ay
     by_cases bb:E=0
     . subst bb;have ax:=Mr (Aa av)
       have a8:∀x∈es,ENum x.e:=fun x bg=>by
        have bm:x.e∈l:=by rw[<-Aa T];exact XV bg
        have ap:=Aa dj x.e bm;have ds:=Yi (ax.2 x.e.f (XV bm));have dr:=Aa a4;have dw:=ap.pl;exact⟨⟨by omega,by omega⟩,⟨by omega,by omega⟩,by omega,by omega,by omega,ap.cr,ap.mt⟩
       have dc:k<=12:=by
        have:=ax.1
        rw[<-Aa T]at this;simpa[Aa M]using this
       have bd:=Ab (Sz ad c k es w3 ((Aa b7).below (Aa bf)) (Aa M) dc a8);rw[Aa T]at bd;have dd:Hid (∀x∈es,x.e.f.bytes.length<=12000):=Ab (fun x bg=>by have:=(a8 x bg).bl;omega);have c7:Hid (∀y∈Be l,y<256):=Ab (Yx l (Aa ct));clear ax a8;go_wp2_with fail
       refine(Aa bd).mono ?_;rintro e c5 ⟨du,rfl,b0,aa⟩;obtain⟨cz,cp,rfl,bn,cy,co,cq⟩:=Ve b0;have b5:=Ab (((Aa di).below (Aa ai)).below aa);have da:=(Aa ai).size;have a1:=Ab ((Aa ai).trans (aa.mono da));have de:=Ab ((Aa bf).trans (aa.mono (Aa bf).size));have dl:=Ab ((Aa b4).trans (aa.mono (Aa b4).size));have ak:=Ab (P4 cz a _ cp n Z (Be l) bs c5 rfl (Aa a4) (Er (Aa c7)) (Er (Aa bc)) bn.1 (Aa b5).1);obtain⟨dp,au⟩:=exq ((Be l).length);obtain⟨c8,bi⟩:=exq ((Be l==bs));rw[au,bi]at ak;rw[au];have ce:=Ab bi;clear b0 aa bn cy co cq au bi bd b5;go_wp2_with fail
       refine(Aa ak).mono ?_;rintro e bz ⟨rfl,rfl⟩
       cases c8 with
       |false=>
        have bw:Be l≠bs:=by
         have:=Aa ce
         rw[beq_eq_false_iff_ne]at this;exact this
        have F:=Ab (RdA.bad (w:=w) (w':=bz) (bs:=bs) (k:=7) (by rw[Aa a7,if_pos (.inr bw)]) (by decide) (Aa a1));clear bw ak;go_wp2;go_ret2;exact Aa F
       |true=>
        have bq:Be l=bs:=eq_of_beq (Aa ce);have a6:=Aa a7;rw[if_neg (by rintro (h|h);exact h (Aa av);exact h bq)]at a6;have b3:=Ab a6;obtain⟨S,O⟩:=exq (sumsF l);have aw:=Ab (A7 ad c k es bz ((Aa b7).below (Aa de)) (Aa M) ck (Aa dd) S (by rw[Aa T];exact O));have bv:=Ab O;clear bq a6 O ak;go_wp2_with fail
        refine(Aa aw).mono ?_;rintro e w6 ⟨rfl,ag⟩;have dn:=(Aa a1).size;have cn:=Ab ((Aa a1).trans (ag.mono dn))
        cases S with
        |false=>
         have F:=Ab (RdA.bad (w:=w) (w':=w6) (bs:=bs) (k:=10) (by rw[Aa b3,if_pos (Aa bv)]) (by decide) (Aa cn));clear ag aw;go_wp2;go_ret2;exact Aa F
        |true=>
         have a9:readE bs=0:=by rw[Aa b3,if_neg (by rw[Aa bv];decide)]
         have bh:readL bs=l.map En.f:=by
          have:=Aa c6
          rw[if_neg (by rw[a9];decide)]at this;exact this
         have bo:FsIn w6 ac c2 (es.map Ev.fv):=((Aa df).below (Aa dl) (VB _)).below (ag.mono (by omega)) (VB _);have F:Hid (RdA w bs (.returned (.tuple #[.slice ac k c2,.int .i64 0])) w6):=Ab ⟨.slice ac k c2,by rw[a9];rfl,⟨ac,c2,es.map Ev.fv,by rw[bh,<-Aa T];simp[Aa M],bo,by rw[DA,Aa T,bh]⟩,Aa cn⟩;clear ag aw a9 bh bo;go_wp2;go_ret2;exact Aa F
     . have F:=Ab (RdA.bad (w:=w) (w':=w3) (bs:=bs) (k:=7) (by rw[Aa a7,if_pos (.inl (by rw[Aa av];exact bb))]) (by decide) (Aa ai));have cw:((E:Int)==0)=false:=by rw[beq_eq_false_iff_ne];omega
       have dv:((E:Int)!=0)=true:=by rw[bne,cw];rfl
       clear bb;go_wp2;go_ret2;exact Aa F
def Z65:Go.Shelf.Ren:=⟨fun|160=>59|232=>83|231=>82|227=>84|234=>86|233=>85|236=>88|235=>87|228=>116|271=>119|151=>118|197=>117|120=>157|152=>156|260=>155|137=>191|119=>192|224=>189|225=>188|217=>187|266=>214|n=>n,fun|9=>9|4=>4|3=>3|5=>5|117=>143|116=>142|0=>0|124=>146|21=>21|105=>183|46=>66|119=>261|139=>264|138=>263|n=>n,fun|3=>1|4=>2|n=>n⟩
theorem Z3c:Go.Proofs.Lays.n160 Tryz.prog Z65:= {
 mixed:=by kernel_rfl
 f119:=Tryz.func192.trans (congrArg some (by kernel_rfl))
 f120:=Tryz.func157.trans (congrArg some (by kernel_rfl))
 f137:=Tryz.func191.trans (congrArg some (by kernel_rfl))
 f151:=Tryz.func118.trans (congrArg some (by kernel_rfl))
 f152:=Tryz.func156.trans (congrArg some (by kernel_rfl))
 f160:=Tryz.func59.trans (congrArg some (by kernel_rfl))
 f197:=Tryz.func117.trans (congrArg some (by kernel_rfl))
 f217:=Tryz.func187.trans (congrArg some (by kernel_rfl))
 f224:=Tryz.func189.trans (congrArg some (by kernel_rfl))
 f225:=Tryz.func188.trans (congrArg some (by kernel_rfl))
 f227:=Tryz.func84.trans (congrArg some (by kernel_rfl))
 f228:=Tryz.func116.trans (congrArg some (by kernel_rfl))
 f231:=Tryz.func82.trans (congrArg some (by kernel_rfl))
 f232:=Tryz.func83.trans (congrArg some (by kernel_rfl))
 f233:=Tryz.func85.trans (congrArg some (by kernel_rfl))
 f234:=Tryz.func86.trans (congrArg some (by kernel_rfl))
 f235:=Tryz.func87.trans (congrArg some (by kernel_rfl))
 f236:=Tryz.func88.trans (congrArg some (by kernel_rfl))
 f260:=Tryz.func155.trans (congrArg some (by kernel_rfl))
 f266:=Tryz.func214.trans (congrArg some (by kernel_rfl))
 f271:=Tryz.func119.trans (congrArg some (by kernel_rfl))
 t0:=Tryz.underlying0
 a0:=Tryz.isAgg0
 z0:=Tryz.sizeOf0
 v0:=Tryz.zeroValue0
 t3:=Tryz.underlying3
 a3:=Tryz.isAgg3
 z3:=Tryz.sizeOf3
 v3:=Tryz.zeroValue3
 t4:=Tryz.underlying4
 a4:=Tryz.isAgg4
 z4:=Tryz.sizeOf4
 v4:=Tryz.zeroValue4
 t5:=Tryz.underlying5
 a5:=Tryz.isAgg5
 z5:=Tryz.sizeOf5
 v5:=Tryz.zeroValue5
 t9:=Tryz.underlying9
 a9:=Tryz.isAgg9
 z9:=Tryz.sizeOf9
 v9:=Tryz.zeroValue9
 t21:=Tryz.underlying21
 a21:=Tryz.isAgg21
 z21:=Tryz.sizeOf21
 v21:=Tryz.zeroValue21
 t46:=Tryz.underlying66
 a46:=Tryz.isAgg66
 z46:=Tryz.sizeOf66
 v46:=Tryz.zeroValue66
 t105:=Tryz.underlying183
 a105:=Tryz.isAgg183
 z105:=Tryz.sizeOf183
 v105:=Tryz.zeroValue183
 t116:=Tryz.underlying142
 a116:=Tryz.isAgg142
 z116:=Tryz.sizeOf142
 t117:=Tryz.underlying143
 a117:=Tryz.isAgg143
 z117:=Tryz.sizeOf143
 v117:=Tryz.zeroValue143
 t119:=Tryz.underlying261
 a119:=Tryz.isAgg261
 z119:=Tryz.sizeOf261
 t124:=Tryz.underlying146
 a124:=Tryz.isAgg146
 z124:=Tryz.sizeOf146
 v124:=Tryz.zeroValue146
 t138:=Tryz.underlying263
 a138:=Tryz.isAgg263
 z138:=Tryz.sizeOf263
 v138:=Tryz.zeroValue263
 t139:=Tryz.underlying264
 a139:=Tryz.isAgg264
 z139:=Tryz.sizeOf264
 v139:=Tryz.zeroValue264
 g3:=by kernel_rfl
 g4:=by kernel_rfl}
theorem KS:(Tryz.prog.info? 142).map (fun i=>(i.zero,i.size))=some (some (.agg (Array.replicate 256 (.bool false))),256):=by kernel_rfl
theorem trimS (p:List UInt8)(w:World)(E:p.length<=maxLen):
 Calls Tryz.prog 59 #[.string (B p),.string (B Ho)] w fun e w'=>e=.returned (.string (B (Lib.trimS p Ho)))/\Below w.heap.size w w':=
 Any.strings_Trim_laid Z3c KS (B p) (B Ho) w (by rw[Im];exact E) (by decide) (ascii_of_all (l:=Ho) (by decide))
theorem Z0n {p:List UInt8}(G:p≠ [])(F:p≠ [46])(E:p≠ [46,46]):okP p=true↔Lib.trimS p Ho= []:=by
 rw[TH];simp[okP,G,F,E]
theorem FM (s:List UInt8)(w:World)(ai:s.length<=maxLen):
 Calls Tryz.prog 37 #[.string (B s)] w fun e w'=>∃v,e=.returned (.tuple #[v,.int .i64 (Kg s:Nat)])/\SRow w' w.heap.size v (Z41 s)/\Below w.heap.size w w'/\(Kg s≠0->v=.slice none 0 0):=by
 have I:=Im s;unfold maxLen at ai
 by_cases af:40<s.length
 . have ae:=Ab (N3 af);have ba:40<(B s).size:=by rw[I];omega
   have bi:(B s).size<=9223372036854775807:=by rw[I];omega
   clear I af ai;generalize B s=t at*;go_enter Tryz.func37,Tryz.ntmps37
   go_wp2;go_ret2;rw[Ox (by rw[Aa ae];decide),Aa ae];exact⟨_,rfl,SRow.nil _ _,Below.refl _ _,fun _=>rfl⟩
 . have ac:=B3 (B s) w (by rw[I];omega);rw[QE]at ac;have ba:(B s).size<=40:=by rw[I];omega
   have a9:=BL (s:=s) (by omega);have a1:=Ab (SRow.new w (spl s) (by unfold maxLen;omega));have ae:=Ab (fun p aj hb=>DI (s:=s) (p:=p) (by omega) aj hb);have bc:=Ab (PV (l:=s) (by omega));have a5:∀p∈spl s,p.length<=s.length:=Z2g s;obtain⟨L,al⟩:=exq ((spl s).length);rw[al]at ac a1 a9;have ap:=Ab al
   have a3:Hid (∀j (E:j<(spl s).length) (W:World),Below (w.heap.size+1) (w.alloc (.cells (Qj (spl s)).toArray 9)) W->W.cell? ⟨w.heap.size,j,none⟩=some (.string (B ((spl s)[j]'hj)))):=by
    intro j E W a6;rw[a6.cell (p:=⟨w.heap.size,j,none⟩) (Nat.lt_succ_self _),World.cell?_alloc_at _ _ _ _ rfl];simp[Qj,E]
   have bq:s.length<=40:=by omega
   clear al I af ai;generalize B s=t at*;go_enter Tryz.func37,Tryz.ntmps37
   go_wp2_with (go_at_call 58;refine ac.mono ?_;rintro e w' ⟨rfl,bg⟩;rw[bg])
   clear ac;go_loopw [6,14] (fun _ i wr=>∃k:Nat,k<=L/\i=.int .i64 k/\Hid (∀j (E:j<(spl s).length),j<k->okP ((spl s)[j]'hj)=true)/\Hid (Below (w.heap.size+1) (w.alloc (.cells (Qj (spl s)).toArray 9)) wr)) (fun _ i _=>L-(intOf i).toNat)
   case atStart=>exact⟨0,VH _,rfl,fun j _ E=>absurd E (by omega),Below.refl _ _⟩
   case round=>
    obtain⟨k,bn,rfl,ay,G⟩:=hrel
    by_cases a4:k<L
    . have ak:k<(spl s).length:=by rw[Aa ap];exact a4
      have M:=(Aa a3) k ak wr (Aa G);have a7:=(Aa G).size;have bu:=a5 _ (WK ak);have a2:=Ab (WK ak);have bb:=Ab (fun h=>(Aa ae) _ (Aa a2) h)
      have bd:Hid (okP ((spl s)[k]'hlt')=true->∀j (E:j<(spl s).length),j<k+1->okP ((spl s)[j]'hj)=true):=by
       intro h j E bm
       by_cases e:j=k
       . subst e;exact h
       . exact(Aa ay) j E (by omega)
      generalize (spl s)[k]'hlt'=q at*;have av:w.heap.size+1<=wr.heap.size:=by simp at a7;omega
      clear a2
      have F:∀W,Hid (Below (w.heap.size+1) (w.alloc (.cells (Qj (spl s)).toArray 9)) W)->Hid (okP q=false)->Hid (SRow W w.heap.size (.slice none 0 0) (Z41 s)/\Kg s=1/\Below w.heap.size w W):=by
       intro W H O;have az:=(Aa bb) (Aa O)
       refine⟨?_,az,(Mv w _).trans ((Aa H).mono (Nat.le_succ _))⟩;rw[Ox (by rw[az];decide)];exact SRow.nil _ _
      by_cases aa:q= []
      . subst aa;have au:wr.cell? ⟨w.heap.size,k,none⟩=some (.string ⟨#[]⟩):=M;have Y:=F wr G rfl;clear M F;go_wp2;go_ret2;obtain⟨x1,x2,x3⟩:=Aa Y;rw[x2];exact⟨_,rfl,x1,x3,fun _=>rfl⟩
      by_cases H:q= [46]
      . subst H;have au:wr.cell? ⟨w.heap.size,k,none⟩=some (.string ⟨#[46]⟩):=M;have Y:=F wr G rfl;clear M F;go_wp2;go_ret2;obtain⟨x1,x2,x3⟩:=Aa Y;rw[x2];exact⟨_,rfl,x1,x3,fun _=>rfl⟩
      by_cases O:q= [46,46]
      . subst O;have au:wr.cell? ⟨w.heap.size,k,none⟩=some (.string ⟨#[46,46]⟩):=M;have Y:=F wr G rfl;clear M F;go_wp2;go_ret2;obtain⟨x1,x2,x3⟩:=Aa Y;rw[x2];exact⟨_,rfl,x1,x3,fun _=>rfl⟩
      have Z:=Ab (Z0n aa H O);have e0:=Xb (B q) aa;have bh:=BK (B q) [46] H;have e2:=BK (B q) [46,46] O;have ah:=trimS q wr (by unfold maxLen;omega);clear aa H O;generalize B q=bk at*
      by_cases T:Lib.trimS q Ho= []
      . have ao:=Ab ((Aa Z).2 T);have ax:B (Lib.trimS q Ho)=⟨#[]⟩:=by rw[T];rfl
        rw[ax]at ah;clear T ax Z F;go_wp2_with (go_at_call 59;refine ah.mono ?_;rintro e ar ⟨rfl,U⟩;have ag:=Ab ((Aa G).trans (U.mono av));clear U)
        go_roundw
        case rel=>exact⟨k+1,by omega,by go_num,(Aa bd) (Aa ao),Aa ag⟩
        case measure=>simp[intOf];omega
      . have ao:Hid (okP q=false):=by
         cases bf:okP q with
         |false=>rfl
         |true=>exact absurd ((Aa Z).1 bf) T
        have bo:=Xb (B (Lib.trimS q Ho)) T;clear T Z;generalize B (Lib.trimS q Ho)=bj at*;have a8:=Ab F;clear F;go_wp2_with (go_at_call 59;refine ah.mono ?_;rintro e ar ⟨rfl,U⟩;have ag:=Ab ((Aa G).trans (U.mono av));clear U)
        go_ret2;obtain⟨x1,x2,x3⟩:=Aa ((Aa a8) ar ag ao);rw[x2];exact⟨_,rfl,x1,x3,fun _=>rfl⟩
    . obtain rfl:k=L:=by omega
      have aw:Hid (Kg s=0):=(Aa bc) (by
       rw[WX];intro p aj;obtain⟨j,E,rfl⟩:=List.mem_iff_getElem.1 aj;exact(Aa ay) j E (by rw[Aa ap]at E;exact E))
      go_wp2;go_ret2;rw[MG (Aa aw),Aa aw];refine⟨_,rfl, ?_,(Mv w _).trans ((Aa G).mono (Nat.le_succ _)),fun h=>absurd rfl h⟩;exact(Aa a1).below (by simpa using Aa G)
theorem PT {f:Fl}(I:Kg f.name=0)(n:Nat)(G:f.bytes.length=n)(F:Nat)(T:Mq f=F):(F=2/\3000<n)\/ (F=3/\n<=3000/\(f.stamp<0\/ (0<=f.stamp/\1000000<f.stamp)\/ (0<=f.stamp/\f.stamp<=1000000/\f.node<0)\/ (0<=f.stamp/\f.stamp<=1000000/\0<=f.node/\3<f.node)))\/ (F=4/\n<=3000/\0<=f.stamp/\f.stamp<=1000000/\0<=f.node/\f.node<=3/\f.gone=true/\0<n)\/ (F=0/\n<=3000/\0<=f.stamp/\f.stamp<=1000000/\0<=f.node/\f.node<=3/\f.gone=true/\n=0)\/ (F=0/\n<=3000/\0<=f.stamp/\f.stamp<=1000000/\0<=f.node/\f.node<=3/\f.gone=false):=by
 subst G;subst T
 by_cases H:3000<f.bytes.length
 . exact .inl ⟨M4 I H,H⟩
 . by_cases M:f.stamp<0\/1000000<f.stamp\/f.node<0\/3<f.node
   . exact .inr (.inl ⟨Vs I H M,by omega,by omega⟩)
   . have E:=M2 I H M
     cases O:f.gone with
     |true=>
      by_cases G:0<f.bytes.length
      . rw[if_pos ⟨O,G⟩]at E;exact .inr (.inr (.inl ⟨E,by omega,by omega,by omega,by omega,by omega,rfl,G⟩))
      . rw[if_neg (fun k=>G k.2)]at E;exact .inr (.inr (.inr (.inl ⟨E,by omega,by omega,by omega,by omega,by omega,rfl,by omega⟩)))
     |false=>
      rw[if_neg (fun k=>by rw[O]at k;cases k.1)]at E;exact .inr (.inr (.inr (.inr ⟨E,by omega,by omega,by omega,by omega,by omega,rfl⟩)))
def ahn (xs:List Fv):Nat->List UInt8
 |0=> []
 |k+1=>(((fls xs)[k]?).map Fl.name).getD []
theorem Z5e (E:Option Addr)(n c:Nat)(w:World)(F:12<n):Calls Tryz.prog 8 #[.slice E n c] w fun e w'=>e=.returned (.int .i64 2)/\w'=w:=by
 go_enter Tryz.func8,Tryz.ntmps8
 go_wp2;go_ret;exact⟨rfl,rfl⟩
theorem Tw (a5:Option Addr)(c:Nat)(xs:List Fv)(w:World)(h:FsIn w a5 c xs)(n:Nat)(a4:xs.length=n):
 Calls Tryz.prog 8 #[.slice a5 n c] w fun e w'=>e=.returned (.int .i64 (errM (fls xs):Nat))/\Below w.heap.size w w':=by
 have hl:(fls xs).length=n:=by simp[fls,a4]
 by_cases hm:12<n
 . have e:errM (fls xs)=2:=by unfold errM;rw[if_pos (by omega)]
   rw[e];refine(Z5e a5 n c w hm).mono ?_;rintro e w' ⟨rfl,rfl⟩;exact⟨rfl,Below.refl _ _⟩
 . have e:errM (fls xs)=DH none (fls xs):=by unfold errM;rw[if_neg (by omega)]
   obtain⟨E,bd⟩:=exq (DH none (fls xs));rw[e,bd];have bu:=Ab h;have ck:=Ab a4;have cj:=Ab bd;have bn:=Ab hl;clear h e bd a4 hl;go_enter Tryz.func8,Tryz.ntmps8
   go_wp2;go_loopw [3,4,5,6,7,13] (fun cg _ _ _ _ i wr=>∃k:Nat,k<=n/\i=.int .i64 (k:Int)/\cg=.string (B (ahn xs k))/\Hid (DH (ahd xs k) ((fls xs).drop k)=E)/\Hid (Below w.heap.size w wr)) (fun _ _ _ _ _ i _=>n-(intOf i).toNat)
   case atStart=>exact⟨0,VH _,rfl,rfl,Aa cj,Below.refl _ _⟩
   case round=>
    obtain⟨k,cp,rfl,rfl,bv,ax⟩:=hrel
    by_cases b8:k<n
    . obtain⟨x,a2,bq⟩:=Ob (xs:=xs) (k:=k) (by rw[Aa ck];exact b8);obtain⟨b,o,rfl,hb,c0,c1,c2,b0,bw⟩:=(Aa bu).get (Aa ax) a2;have bg:=M5 a2;rw[Aa bv]at bg;have bz:=(Aa ax).size;have U:=Ab (fun W=>FM x.f.name W (by have:=((Aa bu).all x bq).txt;unfold maxLen;omega));have ar:=Ab bg;have bk:ahn xs (k+1)=x.f.name:=by show (((fls xs)[k]?).map Fl.name).getD []=_;simp[fls,a2]
      have cn:=Ab bk;have bi:x.sl=.slice x.a x.f.bytes.length x.c:=rfl;rw[bi]at c1;have Z:=Ab (fun cm=>(Aa ax).alloc bz cm);obtain⟨a7,bb⟩:=exq (x.f.bytes.length);obtain⟨er,a9⟩:=exq (Mq x.f);have aw:=Ab (fun b9=>PT (f:=x.f) b9 a7 bb er a9);have ap:=Ab (@M3 x.f);rw[a9]at ar ap
      have bm:Hid ((k=0/\behind (ahd xs k) x.f=true)\/ (0<k/\behind (ahd xs k) x.f=decide (Pq x.f.name (ahn xs k)=1))):=by
       cases k with
       |zero=>exact .inl ⟨rfl,rfl⟩
       |succ j=>
        refine .inr ⟨by omega, ?_⟩;have b4:j<(fls xs).length:=by rw[Aa bn];omega
        show behind ((fls xs)[j]?) x.f=decide (Pq x.f.name ((((fls xs)[j]?).map Fl.name).getD [])=1)
        rw[VP b4];show decide (Pq (fls xs)[j].name x.f.name<0)=decide (Pq x.f.name (fls xs)[j].name=1)
        rw[decide_eq_decide];have cq:=Su x.f.name (fls xs)[j].name;have a3:=Kd x.f.name (fls xs)[j].name;omega
      have av:=Z2c x.f.name (ahn xs k);have ak:=Z2d x.f.name (ahn xs k);have b3:=Kd x.f.name (ahn xs k);obtain⟨au,bc⟩:=exq (Pq x.f.name (ahn xs k));rw[bc]at av ak b3;have ay:Hid ((k=0/\behind (ahd xs k) x.f=true)\/ (0<k/\behind (ahd xs k) x.f=decide (au=1))):=by have:=Aa bm;rw[bc]at this;exact this
      clear bg bq a2 bi a9 bk bm bc;rw[bb]at c1;clear bb;obtain⟨ci,ao⟩:=exq (Kg x.f.name);rw[ao]at U aw ap;clear ao;obtain⟨t,a3⟩:=exq (B x.f.name);obtain⟨bo,a8⟩:∃bo,B (ahn xs k)=bo:=⟨_,rfl⟩
      rw[a3]at U c0 av ak;rw[a8]at av ak;rw[a8];have cd:=Ab a3;clear a3 a8;generalize x.f.stamp=st at*;generalize x.f.node=nd at*;generalize x.f.gone=gn at*
      by_cases bf:ci=0
      . subst bf;have bh:=Aa aw rfl;clear aw ap;have I:=Aa ar;clear ar
        by_cases az:er=0
        . subst az
          have b7:(a7<=3000/\0<=st/\st<=1000000/\0<=nd/\nd<=3)/\((gn=true/\a7=0)\/gn=false):=by
           rcases bh with ⟨h,_⟩|⟨h,_⟩|⟨h,_⟩|⟨_,ah,Y,ac,ag,aj,a1,co⟩|⟨_,ah,Y,ac,ag,aj,a1⟩
           . omega
           . omega
           . omega
           . exact⟨⟨ah,Y,ac,ag,aj⟩,.inl ⟨a1,co⟩⟩
           . exact⟨⟨ah,Y,ac,ag,aj⟩,.inr a1⟩
          obtain⟨⟨ah,Y,ac,ag,aj⟩,bj⟩:=b7;rw[if_neg (by simp)]at I;clear bh
          have ce:(Hid (behind (ahd xs k) x.f=true)/\(k=0\/ (0<k/\au=1)))\/ (Hid (behind (ahd xs k) x.f=false)/\0<k/\(au= -1\/au=0)):=by
           rcases Aa ay with ⟨M,O⟩|⟨M,O⟩
           . exact .inl ⟨O,.inl M⟩
           . by_cases ba:au=1
             . exact .inl ⟨by rw[O];exact decide_eq_true ba,.inr ⟨M,ba⟩⟩
             . exact .inr ⟨by rw[O];exact decide_eq_false ba,M,by omega⟩
          clear ay
          rcases ce with ⟨al,a6⟩|⟨al,b5,a6⟩
          . rw[if_neg (by rw[Aa al];simp)]at I;have T:=Ab I;clear I al
            rcases bj with ⟨rfl,rfl⟩|rfl
            all_goals (
             rcases a6 with rfl|⟨b5,rfl⟩
             all_goals (
              try simp only[YJ,XN]at c0 c1 c2 b0 bw
              try simp only[Int.reduceLT,Int.reduceEq,decide_false]at av ak
              go_wp2_with fail
              refine(Aa U _).mono ?_;rintro e G ⟨aa,rfl,_,F,_⟩;have H:=Ab ((Aa Z _).trans (F.mono (by simp;omega)));have ai:G.cell? ⟨wr.heap.size,0,none⟩=some (.string t):=(F.cell (p:=⟨wr.heap.size,0,none⟩) (by simp)).trans (by simp);have M:=(F.cell (p:=⟨wr.heap.size,1,none⟩) (by simp)).trans (by simp;rfl);have O:G.cell? ⟨wr.heap.size,2,none⟩=some (.int .i64 st):=(F.cell (p:=⟨wr.heap.size,2,none⟩) (by simp)).trans (by simp);have ae:G.cell? ⟨wr.heap.size,3,none⟩=some (.int .i64 nd):=(F.cell (p:=⟨wr.heap.size,3,none⟩) (by simp)).trans (by simp);have af:=(F.cell (p:=⟨wr.heap.size,4,none⟩) (by simp)).trans (by simp;rfl);clear F;go_wp2;go_roundw
              case rel=>exact⟨_,by omega,by go_num,by rw[Aa cn,Aa cd],(Aa T).symm,Aa H⟩
              case measure=>simp[intOf];omega))
          . rw[if_pos (Aa al)]at I;have T:=Ab I;clear I al;have ct:(0:Int)<(k:Int):=by omega
            rcases bj with ⟨rfl,rfl⟩|rfl
            all_goals (
             rcases a6 with rfl|rfl
             all_goals (
              try simp only[Int.reduceLT,Int.reduceEq,Int.reduceNeg,decide_true,decide_false]at av ak
              go_wp2_with fail
              refine(Aa U _).mono ?_;rintro e G ⟨aa,rfl,_,F,_⟩;have H:=Ab ((Aa Z _).trans (F.mono (by simp;omega)));have ai:G.cell? ⟨wr.heap.size,0,none⟩=some (.string t):=(F.cell (p:=⟨wr.heap.size,0,none⟩) (by simp)).trans (by simp);have M:=(F.cell (p:=⟨wr.heap.size,1,none⟩) (by simp)).trans (by simp;rfl);have O:G.cell? ⟨wr.heap.size,2,none⟩=some (.int .i64 st):=(F.cell (p:=⟨wr.heap.size,2,none⟩) (by simp)).trans (by simp);have ae:G.cell? ⟨wr.heap.size,3,none⟩=some (.int .i64 nd):=(F.cell (p:=⟨wr.heap.size,3,none⟩) (by simp)).trans (by simp);have af:=(F.cell (p:=⟨wr.heap.size,4,none⟩) (by simp)).trans (by simp;rfl);clear F;go_wp2;go_ret;exact⟨Dd (by rw[Aa T];rfl),Aa H⟩))
        . rw[if_pos (by simpa using az)]at I;have T:=Ab I;clear I ay
          rcases bh with ⟨rfl,ah⟩|⟨rfl,ah,Y|⟨Y,ac⟩|⟨Y,ac,ag⟩|⟨Y,ac,ag,aj⟩⟩|⟨rfl,ah,Y,ac,ag,aj,rfl,a1⟩|⟨rfl,_⟩|⟨rfl,_⟩
          . skip
            go_wp2_with fail
            refine(Aa U _).mono ?_;rintro e G ⟨aa,rfl,_,F,_⟩;have H:=Ab ((Aa Z _).trans (F.mono (by simp;omega)));have ai:G.cell? ⟨wr.heap.size,0,none⟩=some (.string t):=(F.cell (p:=⟨wr.heap.size,0,none⟩) (by simp)).trans (by simp);have M:=(F.cell (p:=⟨wr.heap.size,1,none⟩) (by simp)).trans (by simp;rfl);have O:G.cell? ⟨wr.heap.size,2,none⟩=some (.int .i64 st):=(F.cell (p:=⟨wr.heap.size,2,none⟩) (by simp)).trans (by simp);have ae:G.cell? ⟨wr.heap.size,3,none⟩=some (.int .i64 nd):=(F.cell (p:=⟨wr.heap.size,3,none⟩) (by simp)).trans (by simp);have af:=(F.cell (p:=⟨wr.heap.size,4,none⟩) (by simp)).trans (by simp;rfl);clear F;go_wp2;go_ret;exact⟨Dd (by rw[Aa T];rfl),Aa H⟩
          . skip
            go_wp2_with fail
            refine(Aa U _).mono ?_;rintro e G ⟨aa,rfl,_,F,_⟩;have H:=Ab ((Aa Z _).trans (F.mono (by simp;omega)));have ai:G.cell? ⟨wr.heap.size,0,none⟩=some (.string t):=(F.cell (p:=⟨wr.heap.size,0,none⟩) (by simp)).trans (by simp);have M:=(F.cell (p:=⟨wr.heap.size,1,none⟩) (by simp)).trans (by simp;rfl);have O:G.cell? ⟨wr.heap.size,2,none⟩=some (.int .i64 st):=(F.cell (p:=⟨wr.heap.size,2,none⟩) (by simp)).trans (by simp);have ae:G.cell? ⟨wr.heap.size,3,none⟩=some (.int .i64 nd):=(F.cell (p:=⟨wr.heap.size,3,none⟩) (by simp)).trans (by simp);have af:=(F.cell (p:=⟨wr.heap.size,4,none⟩) (by simp)).trans (by simp;rfl);clear F;go_wp2;go_ret;exact⟨Dd (by rw[Aa T];rfl),Aa H⟩
          . skip
            go_wp2_with fail
            refine(Aa U _).mono ?_;rintro e G ⟨aa,rfl,_,F,_⟩;have H:=Ab ((Aa Z _).trans (F.mono (by simp;omega)));have ai:G.cell? ⟨wr.heap.size,0,none⟩=some (.string t):=(F.cell (p:=⟨wr.heap.size,0,none⟩) (by simp)).trans (by simp);have M:=(F.cell (p:=⟨wr.heap.size,1,none⟩) (by simp)).trans (by simp;rfl);have O:G.cell? ⟨wr.heap.size,2,none⟩=some (.int .i64 st):=(F.cell (p:=⟨wr.heap.size,2,none⟩) (by simp)).trans (by simp);have ae:G.cell? ⟨wr.heap.size,3,none⟩=some (.int .i64 nd):=(F.cell (p:=⟨wr.heap.size,3,none⟩) (by simp)).trans (by simp);have af:=(F.cell (p:=⟨wr.heap.size,4,none⟩) (by simp)).trans (by simp;rfl);clear F;go_wp2;go_ret;exact⟨Dd (by rw[Aa T];rfl),Aa H⟩
          . skip
            go_wp2_with fail
            refine(Aa U _).mono ?_;rintro e G ⟨aa,rfl,_,F,_⟩;have H:=Ab ((Aa Z _).trans (F.mono (by simp;omega)));have ai:G.cell? ⟨wr.heap.size,0,none⟩=some (.string t):=(F.cell (p:=⟨wr.heap.size,0,none⟩) (by simp)).trans (by simp);have M:=(F.cell (p:=⟨wr.heap.size,1,none⟩) (by simp)).trans (by simp;rfl);have O:G.cell? ⟨wr.heap.size,2,none⟩=some (.int .i64 st):=(F.cell (p:=⟨wr.heap.size,2,none⟩) (by simp)).trans (by simp);have ae:G.cell? ⟨wr.heap.size,3,none⟩=some (.int .i64 nd):=(F.cell (p:=⟨wr.heap.size,3,none⟩) (by simp)).trans (by simp);have af:=(F.cell (p:=⟨wr.heap.size,4,none⟩) (by simp)).trans (by simp;rfl);clear F;go_wp2;go_ret;exact⟨Dd (by rw[Aa T];rfl),Aa H⟩
          . skip
            go_wp2_with fail
            refine(Aa U _).mono ?_;rintro e G ⟨aa,rfl,_,F,_⟩;have H:=Ab ((Aa Z _).trans (F.mono (by simp;omega)));have ai:G.cell? ⟨wr.heap.size,0,none⟩=some (.string t):=(F.cell (p:=⟨wr.heap.size,0,none⟩) (by simp)).trans (by simp);have M:=(F.cell (p:=⟨wr.heap.size,1,none⟩) (by simp)).trans (by simp;rfl);have O:G.cell? ⟨wr.heap.size,2,none⟩=some (.int .i64 st):=(F.cell (p:=⟨wr.heap.size,2,none⟩) (by simp)).trans (by simp);have ae:G.cell? ⟨wr.heap.size,3,none⟩=some (.int .i64 nd):=(F.cell (p:=⟨wr.heap.size,3,none⟩) (by simp)).trans (by simp);have af:=(F.cell (p:=⟨wr.heap.size,4,none⟩) (by simp)).trans (by simp;rfl);clear F;go_wp2;go_ret;exact⟨Dd (by rw[Aa T];rfl),Aa H⟩
          . skip
            go_wp2_with fail
            refine(Aa U _).mono ?_;rintro e G ⟨aa,rfl,_,F,_⟩;have H:=Ab ((Aa Z _).trans (F.mono (by simp;omega)));have ai:G.cell? ⟨wr.heap.size,0,none⟩=some (.string t):=(F.cell (p:=⟨wr.heap.size,0,none⟩) (by simp)).trans (by simp);have M:=(F.cell (p:=⟨wr.heap.size,1,none⟩) (by simp)).trans (by simp;rfl);have O:G.cell? ⟨wr.heap.size,2,none⟩=some (.int .i64 st):=(F.cell (p:=⟨wr.heap.size,2,none⟩) (by simp)).trans (by simp);have ae:G.cell? ⟨wr.heap.size,3,none⟩=some (.int .i64 nd):=(F.cell (p:=⟨wr.heap.size,3,none⟩) (by simp)).trans (by simp);have af:=(F.cell (p:=⟨wr.heap.size,4,none⟩) (by simp)).trans (by simp;rfl);clear F;go_wp2;go_ret;exact⟨Dd (by rw[Aa T];rfl),Aa H⟩
          . exact absurd rfl az
          . exact absurd rfl az
      . have ao:=Aa ap bf;have I:=Aa ar;rw[ao,if_pos (by simpa using bf)]at I;have T:=Ab I;clear I ao ar aw ap ay;go_wp2_with fail
        refine(Aa U _).mono ?_;rintro e G ⟨aa,rfl,_,F,_⟩;have H:=Ab ((Aa Z _).trans (F.mono (by simp;omega)));clear F;go_wp2;go_ret;exact⟨Dd (by rw[Aa T]),Aa H⟩
    . obtain rfl:n=k:=by omega
      go_wp2;go_ret;have:=Aa bv
      rw[XQ (by rw[Aa bn];exact VB _)]at this;exact⟨Dd (by rw[<-this];rfl),Aa ax⟩
def SG (c x k:Nat):Nat:=Ik k (c^^^x%2^k)
theorem QG (c x:Nat):SG c x 0=c:=by simp[SG,Ik,Nat.mod_one]
theorem QH (c x k:Nat):SG c x (k+1)=lft (SG c x k^^^x/2^k%2):=NU c x k
theorem Z1y {c x:Nat}(E:x<256):SG c x 8=Z1x c x:=by
 unfold SG Z1x;rw[ZJ (by simpa using E)]
theorem Z5c {c x:Nat}(k:Nat)(E:c<4294967296)(F:x<256):SG c x k<4294967296:=by
 unfold SG;refine Rl k (ZO (n:=32) E ?_);have:=Nat.mod_le x (2^k)
 omega
theorem Z8o {m x j:Nat}(G:m<4294967296)(F:x<256)(H:j<8):bits .xor .u32 (bits .and .u32 (m:Int) 1) (bits .and .u8 ((x:Int)/2^j) 1%4294967296)=(((m%2^^^x/2^j%2):Nat):Int):=by
 have E:bits .and .u8 ((x/2^j:Nat):Int) ((1:Nat):Int)=((x/2^j&&&1:Nat):Int):=u8_and_nat _ _ (XO (YO _ _) F) (by decide);rw[Nat.and_one_is_mod]at E;have e:((x/2^j:Nat):Int)=(x:Int)/2^j:=by push_cast;rfl
 rw[e]at E;rw[Z8g G,show (1:Int)=((1:Nat):Int) from rfl,E,show (((x/2^j%2:Nat):Int))%4294967296=((x/2^j%2:Nat):Int) by omega];exact u32_xor_nat _ _ (by omega) (by omega)
theorem QF (p:Nat)(a:Option Addr)(n ak:Nat)(bs:List Nat)(w:World)(Z:bs.length=n)(ap:n<=12000)(Y:p<4294967296)(ac:BytesIn w a bs)(O:∀j,bs.getD j 0<256):
 Calls Tryz.prog 12 #[.int .u32 (p:Int),.slice a n ak] w fun e w'=>e=.returned (.int .u32 (crcN p bs:Nat))/\w'=w:=by
 have af:=Ab ac;have U:=Ab O;have M:=Ab Z;clear ac O Z;go_enter Tryz.func12,Tryz.ntmps12
 go_wp2;rw[Z7h Y];go_loop [5,14] (fun r i=>∃k:Nat,k<=n/\i=.int .i64 (k:Int)/\r=.int .u32 (Sn (p^^^4294967295) (bs.take k):Nat)) (fun _ i=>n-(intOf i).toNat)
 case atStart=>exact⟨0,by omega,rfl,rfl⟩
 case round=>
  obtain⟨k,ar,rfl,rfl⟩:=hrel
  have hr:Sn (p^^^4294967295) (bs.take k)<4294967296:=Sl _ _ (fun y ai=>by
   obtain⟨i,hi,rfl⟩:=XI ai;have:=Aa U i
   rw[VL]at hi;rw[YN];rw[List.getD,VP (by omega)]at this;exact this) (E5 Y)
  by_cases ag:k<n
  . have H:k<bs.length:=by rw[Aa M];exact ag
    obtain⟨b,o,rfl,hb,hc⟩:=DS (Aa af) H;have F:=Aa U k;have ae:Hid (Sn (p^^^4294967295) (bs.take (k+1))=Z1x (Sn (p^^^4294967295) (bs.take k)) (bs.getD k 0)):=Ab (by rw[Zy H,N7]);generalize Sn (p^^^4294967295) (bs.take k)=r at*;generalize bs.getD k 0=x at*;clear H;go_wp2;go_loop [5,18] (fun r1 i=>∃j:Nat,j<=8/\i=.int .i64 (j:Int)/\r1=.int .u32 (SG r x j:Nat)) (fun _ i=>8-(intOf i).toNat)
    case atStart=>exact⟨0,by omega,rfl,by rw[QG]⟩
    case round=>
     obtain⟨j,au,rfl,rfl⟩:=hrel
     by_cases aa:j<8
     . have T:=Ab (QH r x j);have hm:=Z5c j hr F;generalize SG r x j=m at*
       by_cases E:(m%2^^^x/2^j%2)=1
       . have G:(bits .xor .u32 (bits .and .u32 (m:Int) 1) (bits .and .u8 ((x:Int)/2^j) 1%4294967296)==1)=true:=by rw[Z8o hm F aa,E];rfl
         have I:Hid (lft (m^^^x/2^j%2)=m/2^^^3988292384):=Ab (by rw[NV _ _ (Nat.mod_lt _ (by decide)),if_pos E]);have ao:=Ab (Z8k hm);clear E;go_wp2;go_round
         case rel=>exact⟨j+1,by omega,by go_num,by rw[Aa T,Aa I,Aa ao]⟩
         case measure=>simp[intOf];omega
       . have G:=Z8o hm F aa;have al:((((m%2^^^x/2^j%2):Nat):Int)==1)=false:=by rw[beq_eq_false_iff_ne];omega
         rw[<-G]at al;have I:Hid (lft (m^^^x/2^j%2)=m/2):=Ab (by rw[NV _ _ (Nat.mod_lt _ (by decide)),if_neg E]);clear E G;go_wp2;go_round
         case rel=>exact⟨j+1,by omega,by go_num,by rw[Aa T,Aa I];rfl⟩
         case measure=>simp[intOf];omega
     . obtain rfl:j=8:=by omega
       go_wp2;go_round
       case rel=>exact⟨k+1,by omega,by go_num,by rw[Aa ae,Z1y F]⟩
       case measure=>simp[intOf];omega
  . have e:k=n:=by omega
    subst e;have aj:Hid (Sn (p^^^4294967295) (bs.take k)^^^4294967295=crcN p bs):=Ab (by rw[VV (by rw[Aa M];exact VB _)];rfl);have ah:=Ab (Z7h hr);clear hr;go_wp2;go_ret;exact⟨by rw[Aa ah,Aa aj];rfl,rfl⟩
end Go.Proofs.YtleocpdblhbimaaGreatDoor
