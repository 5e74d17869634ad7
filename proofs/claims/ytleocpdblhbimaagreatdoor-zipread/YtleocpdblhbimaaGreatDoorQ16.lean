import Derived.Test.YtleocpdblhbimaaGreatDoorQ15
import Derived.Shelf.Strings.SlTrimAscii
set_option linter.unusedSimpArgs false
set_option linter.unusedVariables false
set_option maxRecDepth 100000
set_option maxHeartbeats 4000000
namespace Go.Proofs.YtleocpdblhbimaaGreatDoor
open Go.RowKit
theorem FsIn.new (w:World)(xs:List Fv)(t:TypeId)(E:Array Value)(n:Nat)(O:E=(fcells xs).toArray)(T:xs.length=n)(F:∀x∈xs,FvIn w x)(G:xs.length<=2199023255552):FsIn (w.alloc (.cells E t)) (some ⟨w.heap.size,0,none⟩) n xs:=by
 subst T;refine⟨.inr ⟨w.heap.size,0,rfl,by simp, ?_⟩,VB _,by omega,G,fun x M=>(F x M).alloc _⟩;intro j x I
 have hc:∀i u,i<5->x.cells[i]? =some u->(w.alloc (.cells E t)).cell? ⟨w.heap.size,0+j*5+i,none⟩=some u:=by
  intro i u hi H;rw[World.cell?_alloc_at _ _ _ _ rfl,O];have e:=Sa xs j x i I hi;rw[WG];simpa using e.trans H
 exact⟨hc 0 _ (by decide) rfl,hc 1 _ (by decide) rfl,hc 2 _ (by decide) rfl,hc 3 _ (by decide) rfl,hc 4 _ (by decide) rfl⟩
def LIn (w:World)(v:Value)(l:List Fl):Prop:=∃ad c out,v=.slice ad l.length c/\FsIn w ad c out/\fls out=l
theorem LIn.below {w w':World}{v:Value}{l:List Fl}(F:LIn w v l)(G:Below w.heap.size w w'):LIn w' v l:=by
 obtain⟨ad,c,out,H,E,I⟩:=F;exact⟨ad,c,out,H,E.below G (VB _),I⟩
theorem LIn.shape {w:World}{v:Value}{l:List Fl}(F:LIn w v l):∃ad c,v=.slice ad l.length c:=by
 obtain⟨ad,c,out,E,_⟩:=F;exact⟨ad,c,E⟩
theorem PH {out:List Fv}{l:List Fl}(E:fls out=l):out.length=l.length:=by rw[<-E];simp[fls]
theorem Z6s {w:World}{E:Option Addr}{c n:Nat}{xs:List Fv}(F:FsIn w E c xs)(G:xs.length=n):LIn w (.slice E n c) (fls xs):=⟨E,c,xs,by rw[<-G];simp[fls],F,rfl⟩
def RdA (w:World)(bs:List Nat)(e:Ending)(w':World):Prop:=∃v,e=.returned (.tuple #[v,.int .i64 (readE bs:Nat)])/\LIn w' v (readL bs)/\Below w.heap.size w w'
theorem LIn.nil (w:World):LIn w (.slice none 0 0) []:=⟨none,0,[],rfl,FsIn.nil w,rfl⟩
theorem RdA.bad {w w':World}{bs:List Nat}{k:Nat}(E:readE bs=k)(G:k≠0)(F:Below w.heap.size w w'):RdA w bs (.returned (.tuple #[.slice none 0 0,.int .i64 (k:Int)])) w':=by
 have hl:readL bs= []:=by unfold readL;rw[if_pos (by rw[E];exact G)]
 exact⟨.slice none 0 0,by rw[E],by rw[hl];exact LIn.nil _,F⟩
theorem DA (E:List Ev):fls (E.map Ev.fv)=(E.map Ev.e).map En.f:=by simp[fls,Ev.fv,ZA]
theorem Ps (n Y:Nat)(a:Option Addr)(bs:List Nat)(w:World)(U:bs.length=n)(c7:n<=Y)(ah:PkIn w a Y bs)(af:∀x∈bs,x<256)(dw:n<=9223372036854775807)(O:Z5x bs):
 Calls Tryz.prog 14 #[.slice a n Y] w fun e w'=>RdA w bs e w':=by
 by_cases hn:12000<n
 . have F:=Ab (RdA.bad (w:=w) (w':=w) (bs:=bs) (k:=2) (by unfold readE;rw[if_pos (by omega)]) (by decide) (Below.refl _ _));have da:(12000:Int)<(n:Int):=by omega
   clear ah af U O;go_enter Tryz.func14,Tryz.ntmps14
   go_wp2;go_ret2;exact Aa F
 . have H:readE bs=match Cd (n+1) bs with
    |none=>7
    |some l=>if errM (l.map En.f)≠0\/Be l≠bs then 7 else if sumsF l=false then 10 else 0:=by
    conv=>lhs;unfold readE
    rw[if_neg (by omega),U]
    cases Cd (n+1) bs<;>rfl
   have M:readL bs=if readE bs≠0 then []else ((Cd (n+1) bs).getD []).map En.f:=by unfold readL;rw[U]
   have da:¬(12000:Int)<(n:Int):=by omega
   have cd:=Ab (Yk n Y a bs w U (by omega) c7 ah af O);have db:=Ab ah;have ax:=Ab af;have bf:=Ab H;have ce:=Ab M;have a1:=Ab U;clear ah af H M U O;go_enter Tryz.func14,Tryz.ntmps14
   go_wp2_with fail
   refine(Aa cd).mono ?_;rintro e bk ⟨ai,(⟨G,rfl⟩|⟨v,es,G,rfl,bw,_⟩)⟩
   . have F:=Ab (RdA.bad (w:=w) (w':=bk) (bs:=bs) (k:=7) (by rw[Aa bf,G]) (by decide) ai);clear ai G;go_wp2;go_ret2;exact Aa F
   . obtain⟨ad,c,rfl,a7⟩:=bw.entries;obtain⟨bm,ar⟩:=Sg (Aa ax) G;have bc:=Sf G (Aa ax);have H:=Aa bf;rw[G]at H;dsimp only at H;have M:=Aa ce;rw[G]at M;obtain⟨l,ak⟩:=exq (es.map Ev.e);obtain⟨k,ac⟩:=exq (es.length);have di:l.length=k:=by rw[<-ak];simpa using ac
     rw[ak]at ar H M G bm bc;have dd:=Ab bc;rw[ac];have b5:k<=20000:=by have:=Aa a1;omega
     have b8:=Ab (Z1 ad c k es bk a7 ac b5);have cm:=Ab a7;have I:=Ab ak;have T:=Ab ac;have dj:=Ab ar;have bb:=Ab H;have cq:=Ab M;have bj:=Ab ai;clear ai bw a7 bm ar H M G ak ac di bc cd bf ce;go_wp2_with fail
     refine(Aa b8).mono ?_;rintro e cp ⟨du,rfl,ck,az⟩;obtain⟨Z,c2,rfl,au⟩:=ck.files (by rw[Aa T];omega);rw[Aa T];have a5:=Ab (Sv Z c2 (es.map Ev.fv) cp au k (by simpa using Aa T));obtain⟨E,ae⟩:=exq (errM (fls (es.map Ev.fv)));rw[ae]at a5;rw[DA,Aa I]at ae;have av:=Ab ae;have dn:=Ab au;have c6:=(Aa bj).size;have b0:=Ab ((Aa bj).trans (az.mono c6));have b4:=Ab az;clear ck au az ae b8;go_wp2_with fail
     refine(Aa a5).mono ?_;rintro e w3 ⟨rfl,aj⟩;have cy:=(Aa b0).size;have ao:=Ab ((Aa b0).trans (aj.mono cy));have a2:=Ab ((Aa b4).trans (aj.mono (Aa b4).size));have bo:=Ab aj;clear aj a5
     by_cases a6:E=0
     . subst a6;have a3:=Mr (Aa av)
       have a8:∀x∈es,ENum x.e:=fun x bi=>by
        have b9:x.e∈l:=by rw[<-Aa I];exact XV bi
        have bh:=Aa dj x.e b9;have dr:=Yi (a3.2 x.e.f (XV b9));have dt:=Aa a1;have ds:=bh.pl;exact⟨⟨by omega,by omega⟩,⟨by omega,by omega⟩,by omega,by omega,by omega,bh.cr,bh.mt⟩
       have c9:k<=12:=by
        have:=a3.1
        rw[<-Aa I]at this;simpa[Aa T]using this
       have aw:=Ab (Sz ad c k es w3 ((Aa cm).below (Aa a2)) (Aa T) c9 a8);rw[Aa I]at aw;have cu:Hid (∀x∈es,x.e.f.bytes.length<=12000):=Ab (fun x bi=>by have:=(a8 x bi).bl;omega);have cv:Hid (∀y∈Be l,y<256):=Ab (Yx l (Aa dd));clear a3 a8;go_wp2_with fail
       refine(Aa aw).mono ?_;rintro e dm ⟨dv,rfl,ci,aa⟩;obtain⟨dc,cw,rfl,bz,dh,df,co⟩:=Ve ci;have bu:=Ab (((Aa db).below (Aa ao)).below aa);have cz:=(Aa ao).size;have ap:=Ab ((Aa ao).trans (aa.mono cz));have c8:=Ab ((Aa a2).trans (aa.mono (Aa a2).size));have dl:=Ab ((Aa bo).trans (aa.mono (Aa bo).size));have ag:=Ab (P4 dc a _ cw n Y (Be l) bs dm rfl (Aa a1) (Er (Aa cv)) (Er (Aa ax)) bz.1 (Aa bu).1);obtain⟨dp,bg⟩:=exq ((Be l).length);obtain⟨c5,bd⟩:=exq ((Be l==bs));rw[bg,bd]at ag;rw[bg];have bn:=Ab bd;clear ci aa bz dh df co bg bd aw bu;go_wp2_with fail
       refine(Aa ag).mono ?_;rintro e b3 ⟨rfl,rfl⟩
       cases c5 with
       |false=>
        have cg:Be l≠bs:=by
         have:=Aa bn
         rw[beq_eq_false_iff_ne]at this;exact this
        have F:=Ab (RdA.bad (w:=w) (w':=b3) (bs:=bs) (k:=7) (by rw[Aa bb,if_pos (.inr cg)]) (by decide) (Aa ap));clear cg ag;go_wp2;go_ret2;exact Aa F
       |true=>
        have bv:Be l=bs:=eq_of_beq (Aa bn);have a4:=Aa bb;rw[if_neg (by rintro (h|h);exact h (Aa av);exact h bv)]at a4;have b7:=Ab a4;obtain⟨S,O⟩:=exq (sumsF l);have ba:=Ab (A7 ad c k es b3 ((Aa cm).below (Aa c8)) (Aa T) b5 (Aa cu) S (by rw[Aa I];exact O));have bq:=Ab O;clear bv a4 O ag;go_wp2_with fail
        refine(Aa ba).mono ?_;rintro e w6 ⟨rfl,al⟩;have ct:=(Aa ap).size;have cj:=Ab ((Aa ap).trans (al.mono ct))
        cases S with
        |false=>
         have F:=Ab (RdA.bad (w:=w) (w':=w6) (bs:=bs) (k:=10) (by rw[Aa b7,if_pos (Aa bq)]) (by decide) (Aa cj));clear al ba;go_wp2;go_ret2;exact Aa F
        |true=>
         have ay:readE bs=0:=by rw[Aa b7,if_neg (by rw[Aa bq];decide)]
         have a9:readL bs=l.map En.f:=by
          have:=Aa cq
          rw[if_neg (by rw[ay];decide)]at this;exact this
         have cn:FsIn w6 Z c2 (es.map Ev.fv):=((Aa dn).below (Aa dl) (VB _)).below (al.mono (by omega)) (VB _);have F:Hid (RdA w bs (.returned (.tuple #[.slice Z k c2,.int .i64 0])) w6):=Ab ⟨.slice Z k c2,by rw[ay];rfl,⟨Z,c2,es.map Ev.fv,by rw[a9,<-Aa I];simp[Aa T],cn,by rw[DA,Aa I,a9]⟩,Aa cj⟩;clear al ba ay a9 cn;go_wp2;go_ret2;exact Aa F
     . have F:=Ab (RdA.bad (w:=w) (w':=w3) (bs:=bs) (k:=7) (by rw[Aa bb,if_pos (.inl (by rw[Aa av];exact a6))]) (by decide) (Aa ao));have de:((E:Int)==0)=false:=by rw[beq_eq_false_iff_ne];omega
       have dq:((E:Int)!=0)=true:=by rw[bne,de];rfl
       clear a6;go_wp2;go_ret2;exact Aa F
def Z65:Go.Shelf.Ren:=⟨fun|160=>59|232=>83|231=>82|227=>84|234=>86|233=>85|236=>88|235=>87|228=>116|271=>119|151=>118|197=>117|120=>157|152=>156|260=>155|137=>191|119=>192|224=>189|225=>188|217=>187|266=>214|n=>n,fun|9=>9|4=>4|3=>3|5=>5|117=>143|116=>142|0=>0|124=>146|21=>21|105=>183|46=>66|119=>261|139=>264|138=>263|n=>n,fun|3=>1|4=>2|n=>n⟩
theorem Z3c:Go.Proofs.Lays.n160 Tryz.prog Z65:= {
 mixed:=by kernel_rfl
 f119:=Tryz.func192.trans (congrArg some (by kernel_rfl))
 f120:=Tryz.func157.trans (congrArg some (by kernel_rfl))
 f137:=Tryz.func191.trans (congrArg some (by kernel_rfl))
 f151:=Tryz.func118.trans (congrArg some (by kernel_rfl))
 f152:=Tryz.func156.trans (congrArg some (by kernel_rfl))
 f160:=Tryz.func59.trans (congrArg some (by kernel_rfl))
 f197:=Tryz.func117.trans (congrArg some (by kernel_rfl))
 f217:=Tryz.func187.trans (congrArg some (by kernel_rfl))
 f224:=Tryz.func189.trans (congrArg some (by kernel_rfl))
 f225:=Tryz.func188.trans (congrArg some (by kernel_rfl))
 f227:=Tryz.func84.trans (congrArg some (by kernel_rfl))
 f228:=Tryz.func116.trans (congrArg some (by kernel_rfl))
 f231:=Tryz.func82.trans (congrArg some (by kernel_rfl))
 f232:=Tryz.func83.trans (congrArg some (by kernel_rfl))
 f233:=Tryz.func85.trans (congrArg some (by kernel_rfl))
 f234:=Tryz.func86.trans (congrArg some (by kernel_rfl))
 f235:=Tryz.func87.trans (congrArg some (by kernel_rfl))
 f236:=Tryz.func88.trans (congrArg some (by kernel_rfl))
 f260:=Tryz.func155.trans (congrArg some (by kernel_rfl))
 f266:=Tryz.func214.trans (congrArg some (by kernel_rfl))
 f271:=Tryz.func119.trans (congrArg some (by kernel_rfl))
 t0:=Tryz.underlying0
 a0:=Tryz.isAgg0
 z0:=Tryz.sizeOf0
 v0:=Tryz.zeroValue0
 t3:=Tryz.underlying3
 a3:=Tryz.isAgg3
 z3:=Tryz.sizeOf3
 v3:=Tryz.zeroValue3
 t4:=Tryz.underlying4
 a4:=Tryz.isAgg4
 z4:=Tryz.sizeOf4
 v4:=Tryz.zeroValue4
 t5:=Tryz.underlying5
 a5:=Tryz.isAgg5
 z5:=Tryz.sizeOf5
 v5:=Tryz.zeroValue5
 t9:=Tryz.underlying9
 a9:=Tryz.isAgg9
 z9:=Tryz.sizeOf9
 v9:=Tryz.zeroValue9
 t21:=Tryz.underlying21
 a21:=Tryz.isAgg21
 z21:=Tryz.sizeOf21
 v21:=Tryz.zeroValue21
 t46:=Tryz.underlying66
 a46:=Tryz.isAgg66
 z46:=Tryz.sizeOf66
 v46:=Tryz.zeroValue66
 t105:=Tryz.underlying183
 a105:=Tryz.isAgg183
 z105:=Tryz.sizeOf183
 v105:=Tryz.zeroValue183
 t116:=Tryz.underlying142
 a116:=Tryz.isAgg142
 z116:=Tryz.sizeOf142
 t117:=Tryz.underlying143
 a117:=Tryz.isAgg143
 z117:=Tryz.sizeOf143
 v117:=Tryz.zeroValue143
 t119:=Tryz.underlying261
 a119:=Tryz.isAgg261
 z119:=Tryz.sizeOf261
 t124:=Tryz.underlying146
 a124:=Tryz.isAgg146
 z124:=Tryz.sizeOf146
 v124:=Tryz.zeroValue146
 t138:=Tryz.underlying263
 a138:=Tryz.isAgg263
 z138:=Tryz.sizeOf263
 v138:=Tryz.zeroValue263
 t139:=Tryz.underlying264
 a139:=Tryz.isAgg264
 z139:=Tryz.sizeOf264
 v139:=Tryz.zeroValue264
 g3:=by kernel_rfl
 g4:=by kernel_rfl}
theorem KS:(Tryz.prog.info? 142).map (fun i=>(i.zero,i.size))=some (some (.agg (Array.replicate 256 (.bool false))),256):=by kernel_rfl
theorem trimS (p:List UInt8)(w:World)(E:p.length<=maxLen):
 Calls Tryz.prog 59 #[.string (B p),.string (B Ho)] w fun e w'=>e=.returned (.string (B (Lib.trimS p Ho)))/\Below w.heap.size w w':=
 Any.strings_Trim_laid Z3c KS (B p) (B Ho) w (by rw[Im];exact E) (by decide) (ascii_of_all (l:=Ho) (by decide))
theorem Z0n {p:List UInt8}(G:p≠ [])(E:p≠ [46])(F:p≠ [46,46]):okP p=true↔Lib.trimS p Ho= []:=by
 rw[TH];simp[okP,G,E,F]
theorem FM (s:List UInt8)(w:World)(ao:s.length<=maxLen):
 Calls Tryz.prog 37 #[.string (B s)] w fun e w'=>∃v,e=.returned (.tuple #[v,.int .i64 (Kg s:Nat)])/\SRow w' w.heap.size v (Z41 s)/\Below w.heap.size w w'/\(Kg s≠0->v=.slice none 0 0):=by
 have H:=Im s;unfold maxLen at ao
 by_cases ai:40<s.length
 . have ae:=Ab (N3 ai);have a4:40<(B s).size:=by rw[H];omega
   have bj:(B s).size<=9223372036854775807:=by rw[H];omega
   clear H ai ao;generalize B s=t at*;go_enter Tryz.func37,Tryz.ntmps37
   go_wp2;go_ret2;rw[Ox (by rw[Aa ae];decide),Aa ae];exact⟨_,rfl,SRow.nil _ _,Below.refl _ _,fun _=>rfl⟩
 . have aa:=B3 (B s) w (by rw[H];omega);rw[QE]at aa;have a4:(B s).size<=40:=by rw[H];omega
   have bb:=BL (s:=s) (by omega);have a2:=Ab (SRow.new w (spl s) (by unfold maxLen;omega));have ae:=Ab (fun p ag hb=>DI (s:=s) (p:=p) (by omega) ag hb);have bc:=Ab (PV (l:=s) (by omega));have a9:∀p∈spl s,p.length<=s.length:=Z2g s;obtain⟨L,al⟩:=exq ((spl s).length);rw[al]at aa a2 bb;have a1:=Ab al
   have a6:Hid (∀j (E:j<(spl s).length) (W:World),Below (w.heap.size+1) (w.alloc (.cells (Qj (spl s)).toArray 9)) W->W.cell? ⟨w.heap.size,j,none⟩=some (.string (B ((spl s)[j]'E)))):=by
    intro j E W bg;rw[bg.cell (p:=⟨w.heap.size,j,none⟩) (Nat.lt_succ_self _),World.cell?_alloc_at _ _ _ _ rfl];simp[Qj,E]
   have bk:s.length<=40:=by omega
   clear al H ai ao;generalize B s=t at*;go_enter Tryz.func37,Tryz.ntmps37
   go_wp2_with (go_at_call 58;refine aa.mono ?_;rintro e w' ⟨rfl,a8⟩;rw[a8])
   clear aa;go_loopw [6,14] (fun _ i wr=>∃k:Nat,k<=L/\i=.int .i64 k/\Hid (∀j (E:j<(spl s).length),j<k->okP ((spl s)[j]'E)=true)/\Hid (Below (w.heap.size+1) (w.alloc (.cells (Qj (spl s)).toArray 9)) wr)) (fun _ i _=>L-(intOf i).toNat)
   case atStart=>exact⟨0,VH _,rfl,fun j _ E=>absurd E (by omega),Below.refl _ _⟩
   case round=>
    obtain⟨k,bn,rfl,ap,G⟩:=hrel
    by_cases a5:k<L
    . have Z:k<(spl s).length:=by rw[Aa a1];exact a5
      have O:=(Aa a6) k Z wr (Aa G);have bd:=(Aa G).size;have bm:=a9 _ (WK Z);have av:=Ab (WK Z);have a7:=Ab (fun h=>(Aa ae) _ (Aa av) h)
      have bf:Hid (okP ((spl s)[k]'Z)=true->∀j (E:j<(spl s).length),j<k+1->okP ((spl s)[j]'E)=true):=by
       intro h j E bq
       by_cases e:j=k
       . subst e;exact h
       . exact(Aa ap) j E (by omega)
      generalize (spl s)[k]'Z=q at*;have ax:w.heap.size+1<=wr.heap.size:=by simp at bd;omega
      clear av
      have F:∀W,Hid (Below (w.heap.size+1) (w.alloc (.cells (Qj (spl s)).toArray 9)) W)->Hid (okP q=false)->Hid (SRow W w.heap.size (.slice none 0 0) (Z41 s)/\Kg s=1/\Below w.heap.size w W):=by
       intro W T I;have au:=(Aa a7) (Aa I)
       refine⟨?_,au,(Mv w _).trans ((Aa T).mono (Nat.le_succ _))⟩;rw[Ox (by rw[au];decide)];exact SRow.nil _ _
      by_cases af:q= []
      . subst af;have aw:wr.cell? ⟨w.heap.size,k,none⟩=some (.string ⟨#[]⟩):=O;have U:=F wr G rfl;clear O F;go_wp2;go_ret2;obtain⟨x1,x2,x3⟩:=Aa U;rw[x2];exact⟨_,rfl,x1,x3,fun _=>rfl⟩
      by_cases T:q= [46]
      . subst T;have aw:wr.cell? ⟨w.heap.size,k,none⟩=some (.string ⟨#[46]⟩):=O;have U:=F wr G rfl;clear O F;go_wp2;go_ret2;obtain⟨x1,x2,x3⟩:=Aa U;rw[x2];exact⟨_,rfl,x1,x3,fun _=>rfl⟩
      by_cases I:q= [46,46]
      . subst I;have aw:wr.cell? ⟨w.heap.size,k,none⟩=some (.string ⟨#[46,46]⟩):=O;have U:=F wr G rfl;clear O F;go_wp2;go_ret2;obtain⟨x1,x2,x3⟩:=Aa U;rw[x2];exact⟨_,rfl,x1,x3,fun _=>rfl⟩
      have ac:=Ab (Z0n af T I);have e0:=Xb (B q) af;have bi:=BK (B q) [46] T;have e2:=BK (B q) [46,46] I;have ak:=trimS q wr (by unfold maxLen;omega);clear af T I;generalize B q=bo at*
      by_cases M:Lib.trimS q Ho= []
      . have aj:=Ab ((Aa ac).2 M);have az:B (Lib.trimS q Ho)=⟨#[]⟩:=by rw[M];rfl
        rw[az]at ak;clear M az ac F;go_wp2_with (go_at_call 59;refine ak.mono ?_;rintro e ar ⟨rfl,Y⟩;have ah:=Ab ((Aa G).trans (Y.mono ax));clear Y)
        go_roundw
        case rel=>exact⟨k+1,by omega,by go_num,(Aa bf) (Aa aj),Aa ah⟩
        case measure=>simp[intOf];omega
      . have aj:Hid (okP q=false):=by
         cases ba:okP q with
         |false=>rfl
         |true=>exact absurd ((Aa ac).1 ba) M
        have bu:=Xb (B (Lib.trimS q Ho)) M;clear M ac;generalize B (Lib.trimS q Ho)=bh at*;have a3:=Ab F;clear F;go_wp2_with (go_at_call 59;refine ak.mono ?_;rintro e ar ⟨rfl,Y⟩;have ah:=Ab ((Aa G).trans (Y.mono ax));clear Y)
        go_ret2;obtain⟨x1,x2,x3⟩:=Aa ((Aa a3) ar ah aj);rw[x2];exact⟨_,rfl,x1,x3,fun _=>rfl⟩
    . obtain rfl:k=L:=by omega
      have ay:Hid (Kg s=0):=(Aa bc) (by
       rw[WX];intro p ag;obtain⟨j,E,rfl⟩:=List.mem_iff_getElem.1 ag;exact(Aa ap) j E (by rw[Aa a1]at E;exact E))
      go_wp2;go_ret2;rw[MG (Aa ay),Aa ay];refine⟨_,rfl, ?_,(Mv w _).trans ((Aa G).mono (Nat.le_succ _)),fun h=>absurd rfl h⟩;exact(Aa a2).below (by simpa using Aa G)
theorem PT {f:Fl}(I:Kg f.name=0)(n:Nat)(G:f.bytes.length=n)(F:Nat)(T:Mq f=F):(F=2/\3000<n)\/ (F=3/\n<=3000/\(f.stamp<0\/ (0<=f.stamp/\1000000<f.stamp)\/ (0<=f.stamp/\f.stamp<=1000000/\f.node<0)\/ (0<=f.stamp/\f.stamp<=1000000/\0<=f.node/\3<f.node)))\/ (F=4/\n<=3000/\0<=f.stamp/\f.stamp<=1000000/\0<=f.node/\f.node<=3/\f.gone=true/\0<n)\/ (F=0/\n<=3000/\0<=f.stamp/\f.stamp<=1000000/\0<=f.node/\f.node<=3/\f.gone=true/\n=0)\/ (F=0/\n<=3000/\0<=f.stamp/\f.stamp<=1000000/\0<=f.node/\f.node<=3/\f.gone=false):=by
 subst G;subst T
 by_cases H:3000<f.bytes.length
 . exact .inl ⟨M4 I H,H⟩
 . by_cases O:f.stamp<0\/1000000<f.stamp\/f.node<0\/3<f.node
   . exact .inr (.inl ⟨Vs I H O,by omega,by omega⟩)
   . have E:=M2 I H O
     cases M:f.gone with
     |true=>
      by_cases G:0<f.bytes.length
      . rw[if_pos ⟨M,G⟩]at E;exact .inr (.inr (.inl ⟨E,by omega,by omega,by omega,by omega,by omega,rfl,G⟩))
      . rw[if_neg (fun k=>G k.2)]at E;exact .inr (.inr (.inr (.inl ⟨E,by omega,by omega,by omega,by omega,by omega,rfl,by omega⟩)))
     |false=>
      rw[if_neg (fun k=>by rw[M]at k;cases k.1)]at E;exact .inr (.inr (.inr (.inr ⟨E,by omega,by omega,by omega,by omega,by omega,rfl⟩)))
def ahn (xs:List Fv):Nat->List UInt8
 |0=> []
 |k+1=>(((fls xs)[k]?).map Fl.name).getD []
theorem Z5e (E:Option Addr)(n c:Nat)(w:World)(F:12<n):Calls Tryz.prog 8 #[.slice E n c] w fun e w'=>e=.returned (.int .i64 2)/\w'=w:=by
 go_enter Tryz.func8,Tryz.ntmps8
 go_wp2;go_ret;exact⟨rfl,rfl⟩
theorem Tw (ba:Option Addr)(c:Nat)(xs:List Fv)(w:World)(h:FsIn w ba c xs)(n:Nat)(bh:xs.length=n):
 Calls Tryz.prog 8 #[.slice ba n c] w fun e w'=>e=.returned (.int .i64 (errM (fls xs):Nat))/\Below w.heap.size w w':=by
 have hl:(fls xs).length=n:=by simp[fls,bh]
 by_cases hm:12<n
 . have e:errM (fls xs)=2:=by unfold errM;rw[if_pos (by omega)]
   rw[e];refine(Z5e ba n c w hm).mono ?_;rintro e w' ⟨rfl,rfl⟩;exact⟨rfl,Below.refl _ _⟩
 . have e:errM (fls xs)=DH none (fls xs):=by unfold errM;rw[if_neg (by omega)]
   obtain⟨E,a6⟩:=exq (DH none (fls xs));rw[e,a6];have bu:=Ab h;have bw:=Ab bh;have cj:=Ab a6;have bm:=Ab hl;clear h e a6 bh hl;go_enter Tryz.func8,Tryz.ntmps8
   go_wp2;go_loopw [3,4,5,6,7,13] (fun b9 _ _ _ _ i wr=>∃k:Nat,k<=n/\i=.int .i64 (k:Int)/\b9=.string (B (ahn xs k))/\Hid (DH (ahd xs k) ((fls xs).drop k)=E)/\Hid (Below w.heap.size w wr)) (fun _ _ _ _ _ i _=>n-(intOf i).toNat)
   case atStart=>exact⟨0,VH _,rfl,rfl,Aa cj,Below.refl _ _⟩
   case round=>
    obtain⟨k,ct,rfl,rfl,bo,a3⟩:=hrel
    by_cases cd:k<n
    . obtain⟨x,a2,bv⟩:=Ob (xs:=xs) (k:=k) (by rw[Aa bw];exact cd);obtain⟨b,o,rfl,hb,c0,c1,c2,ce,b3⟩:=(Aa bu).get (Aa a3) a2;have a4:=M5 a2;rw[Aa bo]at a4;have ck:=(Aa a3).size;have U:=Ab (fun W=>FM x.f.name W (by have:=((Aa bu).all x bv).txt;unfold maxLen;omega));have au:=Ab a4;have bj:ahn xs (k+1)=x.f.name:=by show (((fls xs)[k]?).map Fl.name).getD []=_;simp[fls,a2]
      have b5:=Ab bj;have bi:x.sl=.slice x.a x.f.bytes.length x.c:=rfl;rw[bi]at c1;have Z:=Ab (fun bz=>(Aa a3).alloc ck bz);obtain⟨a7,a9⟩:=exq (x.f.bytes.length);obtain⟨er,bf⟩:=exq (Mq x.f);have ax:=Ab (fun b4=>PT (f:=x.f) b4 a7 a9 er bf);have ak:=Ab (@M3 x.f);rw[bf]at au ak
      have bk:Hid ((k=0/\behind (ahd xs k) x.f=true)\/ (0<k/\behind (ahd xs k) x.f=decide (Pq x.f.name (ahn xs k)=1))):=by
       cases k with
       |zero=>exact .inl ⟨rfl,rfl⟩
       |succ j=>
        refine .inr ⟨by omega, ?_⟩;have b0:j<(fls xs).length:=by rw[Aa bm];omega
        show behind ((fls xs)[j]?) x.f=decide (Pq x.f.name ((((fls xs)[j]?).map Fl.name).getD [])=1)
        rw[VP b0];show decide (Pq (fls xs)[j].name x.f.name<0)=decide (Pq x.f.name (fls xs)[j].name=1)
        rw[decide_eq_decide];have cp:=Su x.f.name (fls xs)[j].name;have ay:=Kd x.f.name (fls xs)[j].name;omega
      have al:=Z2c x.f.name (ahn xs k);have ap:=Z2d x.f.name (ahn xs k);have b7:=Kd x.f.name (ahn xs k);obtain⟨ao,bd⟩:=exq (Pq x.f.name (ahn xs k));rw[bd]at al ap b7;have aw:Hid ((k=0/\behind (ahd xs k) x.f=true)\/ (0<k/\behind (ahd xs k) x.f=decide (ao=1))):=by have:=Aa bk;rw[bd]at this;exact this
      clear a4 bv a2 bi bf bj bk bd;rw[a9]at c1;clear a9;obtain⟨cm,av⟩:=exq (Kg x.f.name);rw[av]at U ax ak;clear av;obtain⟨t,ay⟩:=exq (B x.f.name);obtain⟨bq,bc⟩:∃bq,B (ahn xs k)=bq:=⟨_,rfl⟩
      rw[ay]at U c0 al ap;rw[bc]at al ap;rw[bc];have ci:=Ab ay;clear ay bc;generalize x.f.stamp=st at*;generalize x.f.node=nd at*;generalize x.f.gone=gn at*
      by_cases a5:cm=0
      . subst a5;have a8:=Aa ax rfl;clear ax ak;have I:=Aa au;clear au
        by_cases az:er=0
        . subst az
          have cn:(a7<=3000/\0<=st/\st<=1000000/\0<=nd/\nd<=3)/\((gn=true/\a7=0)\/gn=false):=by
           rcases a8 with ⟨h,_⟩|⟨h,_⟩|⟨h,_⟩|⟨_,af,Y,ac,ah,aj,a1,b8⟩|⟨_,af,Y,ac,ah,aj,a1⟩
           . omega
           . omega
           . omega
           . exact⟨⟨af,Y,ac,ah,aj⟩,.inl ⟨a1,b8⟩⟩
           . exact⟨⟨af,Y,ac,ah,aj⟩,.inr a1⟩
          obtain⟨⟨af,Y,ac,ah,aj⟩,bn⟩:=cn;rw[if_neg (by simp)]at I;clear a8
          have co:(Hid (behind (ahd xs k) x.f=true)/\(k=0\/ (0<k/\ao=1)))\/ (Hid (behind (ahd xs k) x.f=false)/\0<k/\(ao= -1\/ao=0)):=by
           rcases Aa aw with ⟨O,T⟩|⟨O,T⟩
           . exact .inl ⟨T,.inl O⟩
           . by_cases bg:ao=1
             . exact .inl ⟨by rw[T];exact decide_eq_true bg,.inr ⟨O,bg⟩⟩
             . exact .inr ⟨by rw[T];exact decide_eq_false bg,O,by omega⟩
          clear aw
          rcases co with ⟨ar,bb⟩|⟨ar,cg,bb⟩
          . rw[if_neg (by rw[Aa ar];simp)]at I;have M:=Ab I;clear I ar
            rcases bn with ⟨rfl,rfl⟩|rfl
            all_goals (
             rcases bb with rfl|⟨cg,rfl⟩
             all_goals (
              try simp only[YJ,XN]at c0 c1 c2 ce b3
              try simp only[Int.reduceLT,Int.reduceEq,decide_false]at al ap
              go_wp2_with fail
              refine(Aa U _).mono ?_;rintro e G ⟨aa,rfl,_,F,_⟩;have H:=Ab ((Aa Z _).trans (F.mono (by simp;omega)));have ag:G.cell? ⟨wr.heap.size,0,none⟩=some (.string t):=(F.cell (p:=⟨wr.heap.size,0,none⟩) (by simp)).trans (by simp);have O:=(F.cell (p:=⟨wr.heap.size,1,none⟩) (by simp)).trans (by simp;rfl);have T:G.cell? ⟨wr.heap.size,2,none⟩=some (.int .i64 st):=(F.cell (p:=⟨wr.heap.size,2,none⟩) (by simp)).trans (by simp);have ai:G.cell? ⟨wr.heap.size,3,none⟩=some (.int .i64 nd):=(F.cell (p:=⟨wr.heap.size,3,none⟩) (by simp)).trans (by simp);have ae:=(F.cell (p:=⟨wr.heap.size,4,none⟩) (by simp)).trans (by simp;rfl);clear F;go_wp2;go_roundw
              case rel=>exact⟨_,by omega,by go_num,by rw[Aa b5,Aa ci],(Aa M).symm,Aa H⟩
              case measure=>simp[intOf];omega))
          . rw[if_pos (Aa ar)]at I;have M:=Ab I;clear I ar;have cq:(0:Int)<(k:Int):=by omega
            rcases bn with ⟨rfl,rfl⟩|rfl
            all_goals (
             rcases bb with rfl|rfl
             all_goals (
              try simp only[Int.reduceLT,Int.reduceEq,Int.reduceNeg,decide_true,decide_false]at al ap
              go_wp2_with fail
              refine(Aa U _).mono ?_;rintro e G ⟨aa,rfl,_,F,_⟩;have H:=Ab ((Aa Z _).trans (F.mono (by simp;omega)));have ag:G.cell? ⟨wr.heap.size,0,none⟩=some (.string t):=(F.cell (p:=⟨wr.heap.size,0,none⟩) (by simp)).trans (by simp);have O:=(F.cell (p:=⟨wr.heap.size,1,none⟩) (by simp)).trans (by simp;rfl);have T:G.cell? ⟨wr.heap.size,2,none⟩=some (.int .i64 st):=(F.cell (p:=⟨wr.heap.size,2,none⟩) (by simp)).trans (by simp);have ai:G.cell? ⟨wr.heap.size,3,none⟩=some (.int .i64 nd):=(F.cell (p:=⟨wr.heap.size,3,none⟩) (by simp)).trans (by simp);have ae:=(F.cell (p:=⟨wr.heap.size,4,none⟩) (by simp)).trans (by simp;rfl);clear F;go_wp2;go_ret;exact⟨Dd (by rw[Aa M];rfl),Aa H⟩))
        . rw[if_pos (by simpa using az)]at I;have M:=Ab I;clear I aw
          rcases a8 with ⟨rfl,af⟩|⟨rfl,af,Y|⟨Y,ac⟩|⟨Y,ac,ah⟩|⟨Y,ac,ah,aj⟩⟩|⟨rfl,af,Y,ac,ah,aj,rfl,a1⟩|⟨rfl,_⟩|⟨rfl,_⟩
          . skip
            go_wp2_with fail
            refine(Aa U _).mono ?_;rintro e G ⟨aa,rfl,_,F,_⟩;have H:=Ab ((Aa Z _).trans (F.mono (by simp;omega)));have ag:G.cell? ⟨wr.heap.size,0,none⟩=some (.string t):=(F.cell (p:=⟨wr.heap.size,0,none⟩) (by simp)).trans (by simp);have O:=(F.cell (p:=⟨wr.heap.size,1,none⟩) (by simp)).trans (by simp;rfl);have T:G.cell? ⟨wr.heap.size,2,none⟩=some (.int .i64 st):=(F.cell (p:=⟨wr.heap.size,2,none⟩) (by simp)).trans (by simp);have ai:G.cell? ⟨wr.heap.size,3,none⟩=some (.int .i64 nd):=(F.cell (p:=⟨wr.heap.size,3,none⟩) (by simp)).trans (by simp);have ae:=(F.cell (p:=⟨wr.heap.size,4,none⟩) (by simp)).trans (by simp;rfl);clear F;go_wp2;go_ret;exact⟨Dd (by rw[Aa M];rfl),Aa H⟩
          . skip
            go_wp2_with fail
            refine(Aa U _).mono ?_;rintro e G ⟨aa,rfl,_,F,_⟩;have H:=Ab ((Aa Z _).trans (F.mono (by simp;omega)));have ag:G.cell? ⟨wr.heap.size,0,none⟩=some (.string t):=(F.cell (p:=⟨wr.heap.size,0,none⟩) (by simp)).trans (by simp);have O:=(F.cell (p:=⟨wr.heap.size,1,none⟩) (by simp)).trans (by simp;rfl);have T:G.cell? ⟨wr.heap.size,2,none⟩=some (.int .i64 st):=(F.cell (p:=⟨wr.heap.size,2,none⟩) (by simp)).trans (by simp);have ai:G.cell? ⟨wr.heap.size,3,none⟩=some (.int .i64 nd):=(F.cell (p:=⟨wr.heap.size,3,none⟩) (by simp)).trans (by simp);have ae:=(F.cell (p:=⟨wr.heap.size,4,none⟩) (by simp)).trans (by simp;rfl);clear F;go_wp2;go_ret;exact⟨Dd (by rw[Aa M];rfl),Aa H⟩
          . skip
            go_wp2_with fail
            refine(Aa U _).mono ?_;rintro e G ⟨aa,rfl,_,F,_⟩;have H:=Ab ((Aa Z _).trans (F.mono (by simp;omega)));have ag:G.cell? ⟨wr.heap.size,0,none⟩=some (.string t):=(F.cell (p:=⟨wr.heap.size,0,none⟩) (by simp)).trans (by simp);have O:=(F.cell (p:=⟨wr.heap.size,1,none⟩) (by simp)).trans (by simp;rfl);have T:G.cell? ⟨wr.heap.size,2,none⟩=some (.int .i64 st):=(F.cell (p:=⟨wr.heap.size,2,none⟩) (by simp)).trans (by simp);have ai:G.cell? ⟨wr.heap.size,3,none⟩=some (.int .i64 nd):=(F.cell (p:=⟨wr.heap.size,3,none⟩) (by simp)).trans (by simp);have ae:=(F.cell (p:=⟨wr.heap.size,4,none⟩) (by simp)).trans (by simp;rfl);clear F;go_wp2;go_ret;exact⟨Dd (by rw[Aa M];rfl),Aa H⟩
          . skip
            go_wp2_with fail
            refine(Aa U _).mono ?_;rintro e G ⟨aa,rfl,_,F,_⟩;have H:=Ab ((Aa Z _).trans (F.mono (by simp;omega)));have ag:G.cell? ⟨wr.heap.size,0,none⟩=some (.string t):=(F.cell (p:=⟨wr.heap.size,0,none⟩) (by simp)).trans (by simp);have O:=(F.cell (p:=⟨wr.heap.size,1,none⟩) (by simp)).trans (by simp;rfl);have T:G.cell? ⟨wr.heap.size,2,none⟩=some (.int .i64 st):=(F.cell (p:=⟨wr.heap.size,2,none⟩) (by simp)).trans (by simp);have ai:G.cell? ⟨wr.heap.size,3,none⟩=some (.int .i64 nd):=(F.cell (p:=⟨wr.heap.size,3,none⟩) (by simp)).trans (by simp);have ae:=(F.cell (p:=⟨wr.heap.size,4,none⟩) (by simp)).trans (by simp;rfl);clear F;go_wp2;go_ret;exact⟨Dd (by rw[Aa M];rfl),Aa H⟩
          . skip
            go_wp2_with fail
            refine(Aa U _).mono ?_;rintro e G ⟨aa,rfl,_,F,_⟩;have H:=Ab ((Aa Z _).trans (F.mono (by simp;omega)));have ag:G.cell? ⟨wr.heap.size,0,none⟩=some (.string t):=(F.cell (p:=⟨wr.heap.size,0,none⟩) (by simp)).trans (by simp);have O:=(F.cell (p:=⟨wr.heap.size,1,none⟩) (by simp)).trans (by simp;rfl);have T:G.cell? ⟨wr.heap.size,2,none⟩=some (.int .i64 st):=(F.cell (p:=⟨wr.heap.size,2,none⟩) (by simp)).trans (by simp);have ai:G.cell? ⟨wr.heap.size,3,none⟩=some (.int .i64 nd):=(F.cell (p:=⟨wr.heap.size,3,none⟩) (by simp)).trans (by simp);have ae:=(F.cell (p:=⟨wr.heap.size,4,none⟩) (by simp)).trans (by simp;rfl);clear F;go_wp2;go_ret;exact⟨Dd (by rw[Aa M];rfl),Aa H⟩
          . skip
            go_wp2_with fail
            refine(Aa U _).mono ?_;rintro e G ⟨aa,rfl,_,F,_⟩;have H:=Ab ((Aa Z _).trans (F.mono (by simp;omega)));have ag:G.cell? ⟨wr.heap.size,0,none⟩=some (.string t):=(F.cell (p:=⟨wr.heap.size,0,none⟩) (by simp)).trans (by simp);have O:=(F.cell (p:=⟨wr.heap.size,1,none⟩) (by simp)).trans (by simp;rfl);have T:G.cell? ⟨wr.heap.size,2,none⟩=some (.int .i64 st):=(F.cell (p:=⟨wr.heap.size,2,none⟩) (by simp)).trans (by simp);have ai:G.cell? ⟨wr.heap.size,3,none⟩=some (.int .i64 nd):=(F.cell (p:=⟨wr.heap.size,3,none⟩) (by simp)).trans (by simp);have ae:=(F.cell (p:=⟨wr.heap.size,4,none⟩) (by simp)).trans (by simp;rfl);clear F;go_wp2;go_ret;exact⟨Dd (by rw[Aa M];rfl),Aa H⟩
          . exact absurd rfl az
          . exact absurd rfl az
      . have av:=Aa ak a5;have I:=Aa au;rw[av,if_pos (by simpa using a5)]at I;have M:=Ab I;clear I av au ax ak aw;go_wp2_with fail
        refine(Aa U _).mono ?_;rintro e G ⟨aa,rfl,_,F,_⟩;have H:=Ab ((Aa Z _).trans (F.mono (by simp;omega)));clear F;go_wp2;go_ret;exact⟨Dd (by rw[Aa M]),Aa H⟩
    . obtain rfl:n=k:=by omega
      go_wp2;go_ret;have:=Aa bo
      rw[XQ (by rw[Aa bm];exact VB _)]at this;exact⟨Dd (by rw[<-this];rfl),Aa a3⟩
def SG (c x k:Nat):Nat:=Ik k (c^^^x%2^k)
theorem QG (c x:Nat):SG c x 0=c:=by simp[SG,Ik,Nat.mod_one]
theorem QH (c x k:Nat):SG c x (k+1)=lft (SG c x k^^^x/2^k%2):=NU c x k
theorem Z1y {c x:Nat}(E:x<256):SG c x 8=Z1x c x:=by
 unfold SG Z1x;rw[ZJ (by simpa using E)]
theorem Z5c {c x:Nat}(k:Nat)(E:c<4294967296)(F:x<256):SG c x k<4294967296:=by
 unfold SG;refine Rl k (ZO (n:=32) E ?_);have:=Nat.mod_le x (2^k)
 omega
theorem Z8o {m x j:Nat}(F:m<4294967296)(G:x<256)(H:j<8):bits .xor .u32 (bits .and .u32 (m:Int) 1) (bits .and .u8 ((x:Int)/2^j) 1%4294967296)=(((m%2^^^x/2^j%2):Nat):Int):=by
 have E:bits .and .u8 ((x/2^j:Nat):Int) ((1:Nat):Int)=((x/2^j&&&1:Nat):Int):=u8_and_nat _ _ (XO (YO _ _) G) (by decide);rw[Nat.and_one_is_mod]at E;have e:((x/2^j:Nat):Int)=(x:Int)/2^j:=by push_cast;rfl
 rw[e]at E;rw[Z8g F,show (1:Int)=((1:Nat):Int) from rfl,E,show (((x/2^j%2:Nat):Int))%4294967296=((x/2^j%2:Nat):Int) by omega];exact u32_xor_nat _ _ (by omega) (by omega)
theorem QF (p:Nat)(a:Option Addr)(n af:Nat)(bs:List Nat)(w:World)(U:bs.length=n)(au:n<=12000)(O:p<4294967296)(Z:BytesIn w a bs)(Y:∀j,bs.getD j 0<256):
 Calls Tryz.prog 12 #[.int .u32 (p:Int),.slice a n af] w fun e w'=>e=.returned (.int .u32 (crcN p bs:Nat))/\w'=w:=by
 have ai:=Ab Z;have aa:=Ab Y;have ac:=Ab U;clear Z Y U;go_enter Tryz.func12,Tryz.ntmps12
 go_wp2;rw[Z7h O];go_loop [5,14] (fun r i=>∃k:Nat,k<=n/\i=.int .i64 (k:Int)/\r=.int .u32 (Sn (p^^^4294967295) (bs.take k):Nat)) (fun _ i=>n-(intOf i).toNat)
 case atStart=>exact⟨0,by omega,rfl,rfl⟩
 case round=>
  obtain⟨k,ar,rfl,rfl⟩:=hrel
  have hr:Sn (p^^^4294967295) (bs.take k)<4294967296:=Sl _ _ (fun y ak=>by
   obtain⟨i,hi,rfl⟩:=XI ak;have:=Aa aa i
   rw[VL]at hi;rw[YN];rw[List.getD,VP (by omega)]at this;exact this) (E5 O)
  by_cases ag:k<n
  . have G:k<bs.length:=by rw[Aa ac];exact ag
    obtain⟨b,o,rfl,hb,hc⟩:=DS (Aa ai) G;have F:=Aa aa k;have ah:Hid (Sn (p^^^4294967295) (bs.take (k+1))=Z1x (Sn (p^^^4294967295) (bs.take k)) (bs.getD k 0)):=Ab (by rw[Zy G,N7]);generalize Sn (p^^^4294967295) (bs.take k)=r at*;generalize bs.getD k 0=x at*;clear G;go_wp2;go_loop [5,18] (fun r1 i=>∃j:Nat,j<=8/\i=.int .i64 (j:Int)/\r1=.int .u32 (SG r x j:Nat)) (fun _ i=>8-(intOf i).toNat)
    case atStart=>exact⟨0,by omega,rfl,by rw[QG]⟩
    case round=>
     obtain⟨j,ap,rfl,rfl⟩:=hrel
     by_cases M:j<8
     . have T:=Ab (QH r x j);have hm:=Z5c j hr F;generalize SG r x j=m at*
       by_cases E:(m%2^^^x/2^j%2)=1
       . have I:(bits .xor .u32 (bits .and .u32 (m:Int) 1) (bits .and .u8 ((x:Int)/2^j) 1%4294967296)==1)=true:=by rw[Z8o hm F M,E];rfl
         have H:Hid (lft (m^^^x/2^j%2)=m/2^^^3988292384):=Ab (by rw[NV _ _ (Nat.mod_lt _ (by decide)),if_pos E]);have ae:=Ab (Z8k hm);clear E;go_wp2;go_round
         case rel=>exact⟨j+1,by omega,by go_num,by rw[Aa T,Aa H,Aa ae]⟩
         case measure=>simp[intOf];omega
       . have I:=Z8o hm F M;have al:((((m%2^^^x/2^j%2):Nat):Int)==1)=false:=by rw[beq_eq_false_iff_ne];omega
         rw[<-I]at al;have H:Hid (lft (m^^^x/2^j%2)=m/2):=Ab (by rw[NV _ _ (Nat.mod_lt _ (by decide)),if_neg E]);clear E I;go_wp2;go_round
         case rel=>exact⟨j+1,by omega,by go_num,by rw[Aa T,Aa H];rfl⟩
         case measure=>simp[intOf];omega
     . obtain rfl:j=8:=by omega
       go_wp2;go_round
       case rel=>exact⟨k+1,by omega,by go_num,by rw[Aa ah,Z1y F]⟩
       case measure=>simp[intOf];omega
  . have e:k=n:=by omega
    subst e;have ao:Hid (Sn (p^^^4294967295) (bs.take k)^^^4294967295=crcN p bs):=Ab (by rw[VV (by rw[Aa ac];exact VB _)];rfl);have aj:=Ab (Z7h hr);clear hr;go_wp2;go_ret;exact⟨by rw[Aa aj,Aa ao];rfl,rfl⟩
end Go.Proofs.YtleocpdblhbimaaGreatDoor
