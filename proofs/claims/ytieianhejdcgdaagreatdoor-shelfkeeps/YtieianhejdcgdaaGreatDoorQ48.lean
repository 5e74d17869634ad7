import Derived.Test.YtieianhejdcgdaaGreatDoorQ47
import Derived.Deep.DeepAppendRoom
import Derived.OwnWalk
import Derived.Test.YtieianhejdcgdaaGreatDoorQ43
set_option linter.unusedSimpArgs false
set_option maxHeartbeats 2000000
namespace Go.Proofs.YtieianhejdcgdaaGreatDoor
open Go.RowKit
set_option linter.unusedVariables false
set_option maxRecDepth 100000
def WaA (w:World)(fs:List Fl)(ar:List Nat)(e:Ending)(w':World):Prop:=
 Below w.heap.size w w'/\((Ew ar=0/\Ct fs (Dn ar)=0/\∃v,e=.returned (.tuple #[v,.bool true])/\LIn w' v (Gz fs (Dn ar)))\/ (¬(Ew ar=0/\Ct fs (Dn ar)=0)/\∃v,e=.returned (.tuple #[v,.bool false])))
theorem Pu (v:Value)(fs:List Fl)(x:Option Addr)(m z:Nat)(ar:List Nat)(w:World)(hf:LIn w v fs)(hl:ar.length=m)(hc:m<=z)(hP:PkIn w x z ar)(hv:∀y∈ar,y<256)(hm:m<=12000):
 Calls Tryz.prog 75 #[v,.slice x m z] w fun e w'=>WaA w fs ar e w':=by
 have HRD:=Ab (GX m z x ar w hl hc hP hv (by omega));unfold RdA at HRD;obtain⟨E,hE⟩:∃E,Ew ar=E:=⟨_,rfl⟩
 obtain⟨gs,hgs⟩:∃gs,Dn ar=gs:=⟨_,rfl⟩
 rw[hE,hgs]at HRD;have HLF:=Ab hf;have HE:=Ab hE;have HG:=Ab hgs;clear hE hgs hf hP hv hl;go_enter Tryz.func75,Tryz.ntmps75
 go_wp2_with fail
 refine(Aa HRD).mono ?_;rintro e w1 ⟨v1,rfl,hL1,hB1⟩
 by_cases hE0:E=0
 . subst hE0;have HBO:=Ab (Z1e ((Aa HLF).below hB1) hL1);have HB1:=Ab hB1;clear hL1 hB1 HRD;go_wp2_with fail
   refine(Aa HBO).mono ?_;rintro e w2 ⟨v2,rfl,hl2,hb2⟩;have HB2:=Ab ((Aa HB1).trans (hb2.mono (Aa HB1).size));have HL2:=Ab hl2;obtain⟨F,hF⟩:∃F,Ct fs gs=F:=⟨_,rfl⟩
   rw[hF];have HFF:=Ab hF;clear hl2 hb2 HBO hF
   by_cases hF0:F=0
   . subst hF0;have HF:Hid (WaA w fs ar (.returned (.tuple #[v2,.bool true])) w2):=Ab ⟨Aa HB2,.inl ⟨Aa HE,by rw[Aa HG];exact Aa HFF,_,rfl,by rw[Aa HG];exact Aa HL2⟩⟩;go_wp2;go_ret2;exact Aa HF
   . have hFb:((F:Int)==0)=false:=by rw[beq_eq_false_iff_ne];omega
     have HF:Hid (WaA w fs ar (.returned (.tuple #[v2,.bool false])) w2):=Ab ⟨Aa HB2,.inr ⟨fun h=>hF0 (by rw[<-Aa HFF,<-Aa HG];exact h.2),_,rfl⟩⟩;clear hF0;go_wp2;go_ret2;exact Aa HF
 . have hEb:((E:Int)==0)=false:=by rw[beq_eq_false_iff_ne];omega
   have hEc:((E:Int)!=0)=true:=by rw[bne,hEb];rfl
   have HF:Hid (WaA w fs ar (.returned (.tuple #[.slice none 0 0,.bool false])) w1):=Ab ⟨hB1,.inr ⟨fun h=>hE0 (by rw[<-Aa HE];exact h.1),_,rfl⟩⟩;clear hE0 hL1 hB1;go_wp2;go_ret2;exact Aa HF
def ToA (w:World)(bs:List Nat)(e:Ending)(w':World):Prop:=∃v fs m,e=.returned (.tuple #[v,.int .i64 ((m:Nat):Int)])/\LIn w' v fs/\Recs [] bs fs m/\Below w.heap.size w w'
theorem Hi (a:Option Addr)(n cap:Nat)(bs:List Nat)(w:World)(hl:bs.length=n)(hc:n<=cap)(hP:PkIn w a cap bs)(hv:∀x∈bs,x<256)(hm:n<=140737488355328):
 Calls Tryz.prog 52 #[.slice a n cap] w fun e w'=>ToA w bs e w':=by
 have HP:=Ab hP;have HV:=Ab hv;have HL:=Ab hl;clear hP hv hl;go_enter Tryz.func52,Tryz.ntmps52
 go_wp2;go_loopw [2,3] (fun v2 v3 wr=>∃(fs:List Fl) (q:Nat),v3=.int .i64 (q:Int)/\q<=n/\Hid (LIn wr v2 fs/\Below w.heap.size w wr/\∀f m,Recs fs (bs.drop q) f m->Recs [] bs f (q+m))) (fun _ v3 _=>n-(intOf v3).toNat)
 case atStart=>exact⟨[],0,rfl,VM _,Ab ⟨LIn.nil _,Below.refl _ _,fun f m h=>by rw[WI];exact h⟩⟩
 case round=>
  obtain⟨fs,q,rfl,hq,hst⟩:=hrel;obtain⟨hLr,hBr,hRr⟩:=Aa hst;obtain⟨a',hsl,ha1,ha2⟩:=Q0 a q n cap hq hc (Aa HP).2;have hPr:=(Aa HP).below hBr;have hdl:(bs.drop q).length=n-q:=by rw[VO,Aa HL]
  have hdp:∀W,PkIn W a cap bs->PkIn W a' (cap-q) (bs.drop q):=fun W hW=>KT hW (Aa HL) ha1 ha2
  have hdv:=OE (Aa HV) q;have HFA:=Ab (Ol a' (n-q) (cap-q) (bs.drop q) wr hdl (by omega) (hdp wr hPr) hdv (by omega));unfold FaA at HFA
  have HWA:Hid (∀(W:World) (ar:List Nat) (x:Option Addr) (z:Nat),Below wr.heap.size wr W->So (bs.drop q)=some ar->ar.length<=z->PkIn W x z ar->Calls Tryz.prog 75 #[u2,.slice x ar.length z] W fun e w'=>WaA W fs ar e w'):=Ab (fun W ar x z hW hr hz hp=>by
   obtain⟨_,r2,_,r4,_⟩:=Im hr;refine Pu u2 fs x ar.length z ar W (hLr.below hW) rfl hz hp (fun y hy=> ?_) r2;rw[r4]at hy;exact hdv y (WB (VS hy)))
  obtain⟨d,hd⟩:∃d,n-q=d:=⟨_,rfl⟩
  obtain⟨k,hk⟩:∃k,cap-q=k:=⟨_,rfl⟩
  rw[hd,hk]at hsl HFA;have HPR:=Ab (fun W (hW:Below wr.heap.size wr W)=>hdp W (hPr.below hW));rw[hk]at HPR;have HLr:=Ab hLr;have HBr:=Ab hBr;have HRr:=Ab hRr;have HD:=Ab hd;clear hLr hBr hRr hst ha1 ha2 hPr hdl hdp hdv hd hk;go_wp2_with fail
  refine(Aa HFA).mono ?_;rintro e w1 ⟨hB1,(⟨hr,x,y,z,rfl⟩|⟨ar,x,z,hr,rfl,hz,hpk⟩)⟩
  . have HF:Hid (ToA w bs (.returned (.tuple #[u2,.int .i64 (q:Int)])) w1):=Ab ⟨u2,fs,q,rfl,(Aa HLr).below hB1,by
     have h1:Recs fs (bs.drop q) fs 0:=.stop (by unfold stepF;rw[hr];rfl);exact Aa HRr _ _ h1,(Aa HBr).trans (hB1.mono (Aa HBr).size)⟩
    clear hB1 hr HFA;go_wp2;go_ret2;exact Aa HF
  . have HW2:=Ab (Aa HWA w1 ar x z hB1 hr hz (hpk w1 (Aa HPR w1 hB1)));unfold WaA at HW2;obtain⟨m,hma⟩:∃m,ar.length=m:=⟨_,rfl⟩
    have hrs:=Im hr;have hmq:8+m<=n-q:=by have h2:=hrs.1;rw[VO,Aa HL,hma]at h2;exact h2
    rw[hma]at HW2 ⊢;have HB1:=Ab ((Aa HBr).trans (hB1.mono (Aa HBr).size));have HB1r:=Ab hB1;have HRC:=Ab hr;have HMA:=Ab hma;clear hB1 hr hz hpk HFA HWA hma hrs;go_wp2_with fail
    refine(Aa HW2).mono ?_;rintro e w2 ⟨hB2,(⟨h1,h2,v',rfl,hL2⟩|⟨h1,v',rfl⟩)⟩
    . have hs1:((q:Int)+8)=((q+8:Nat):Int):=by omega
      have hs2:(((q+8:Nat):Int)+(m:Int))=((q+8+m:Nat):Int):=by omega
      have hw1:IntKind.i64.wrap ((q:Int)+8)=(q:Int)+8:=by simp[IntKind.wrap,IntKind.signed,IntKind.bits];omega
      have hw2:IntKind.i64.wrap ((q:Int)+8+(m:Int))=(q:Int)+8+(m:Int):=by simp[IntKind.wrap,IntKind.signed,IntKind.bits];omega
      have HF:Hid (LIn w2 v' (Gz fs (Dn ar))/\Below w.heap.size w w2/\∀f m',Recs (Gz fs (Dn ar)) (bs.drop (q+8+m)) f m'->Recs [] bs f (q+8+m+m')):=Ab ⟨hL2,(Aa HB1).trans (hB2.mono (Aa HB1).size),fun f m' hf=>by
       have h3:=Ou (fs:=fs) (Aa HRC) h1 h2;rw[Aa HMA]at h3;have h4:Recs fs (bs.drop q) f (8+m+m'):=.more h3 (by rw[YY];rw[show q+(8+m)=q+8+m by omega];exact hf);have:=Aa HRr _ _ h4
       rw[show q+(8+m+m')=q+8+m+m' by omega]at this;exact this⟩
      have HS:=Ab (show ((q:Int)+8+(m:Int))=((q+8+m:Nat):Int) by omega);clear h1 h2 hL2 hB2 HW2 hs1 hs2;go_wp2;refine⟨⟨Gz fs (Dn ar),q+8+m,by rw[Aa HS],by omega,Aa HF|>Ab⟩, ?_⟩;simp[intOf]
      omega
    . have HF:Hid (ToA w bs (.returned (.tuple #[u2,.int .i64 (q:Int)])) w2):=Ab ⟨u2,fs,q,rfl,((Aa HLr).below (Aa HB1r)).below hB2,by
       have h3:Recs fs (bs.drop q) fs 0:=.stop (by unfold stepF;rw[Aa HRC,VF,if_neg h1]);exact Aa HRr _ _ h3,(Aa HB1).trans (hB2.mono (Aa HB1).size)⟩
      clear h1 hB2 HW2;go_wp2;go_ret2;exact Aa HF
end Go.Proofs.YtieianhejdcgdaaGreatDoor
namespace Go.Proofs.YtieianhejdcgdaaGreatDoor
open Go.RowKit
set_option linter.unusedVariables false
set_option maxRecDepth 100000
theorem X7 (n:Nat):(Builtin.zeroCells (Value.int .u8 0).cells n).toList=u8s (List.replicate n 0):=by
 show (Builtin.zeroCells #[Value.int .u8 0] n).toList=_
 unfold Builtin.zeroCells;apply List.ext_getElem?
 intro i
 by_cases h:i<n
 . simp[h,Nat.mod_one]
 . simp[h]
theorem Oh (w:World)(ty:TypeId)(n:Nat)(h0:0<n)(hn:n<=281474976710656):
 ∃c w',(Builtin.append_ #[23,3] ty #[.slice none 0 0,.int .i64 (n:Int)]).run Tryz.prog w=.ok (.slice (some ⟨w.heap.size,0,none⟩) n c) w'/\n<=c/\c<=maxLen/\w'.heap[w.heap.size]? =some (.cells (u8s (List.replicate c 0)).toArray 5 (0,0))/\w.grownBy w' none:=by
 obtain⟨i0,hi,hz0,hz1,hz2⟩:=info_parts Hs;have hge:=grownCap_ge w n 0 5;have hle:=grownCap_le_maxLen w n 0 5 (by unfold maxLen;omega);have hnz:n≠0:=by omega
 have h63':¬(9223372036854775807<(n:Int)):=by omega
 have hneg:¬((n:Int)<0):=by omega
 have h48:¬(281474976710656<(n:Int)):=by omega
 have h48':¬(281474976710656<Builtin.nextslicecap n 0):=by rw[nextslicecap_zero h0];omega
 have hw:IntKind.i64.wrap (n:Int)=(n:Int):=by simp[IntKind.wrap,IntKind.signed,IntKind.bits];omega
 refine⟨grownCap w n 0 5,w.drew.alloc (.cells (Builtin.zeroCells (Value.int .u8 0).cells n++Builtin.zeroCells (Value.int .u8 0).cells (grownCap w n 0 5-n)) 5), ?_,hge,hle, ?_, ?_⟩
 . simp[Builtin.append_,run_underlying Tryz.underlying23,run_underlying Tryz.underlying3,sizeOf,typeInfo,zeroValue,hi,hz0,hz1,hz2,asInt,asIntOf,hw,hneg,h48,hnz,h63',h48',Question.forced,run_firstCells_none,newRow,grownCap]
 . have:=heap_alloc_new w.drew (.cells (Builtin.zeroCells (Value.int .u8 0).cells n++Builtin.zeroCells (Value.int .u8 0).cells (grownCap w n 0 5-n)) 5)
   rw[show w.drew.heap.size=w.heap.size from rfl]at this;rw[this]
   congr 2
   apply Array.ext'
   rw[Array.toList_append,X7,X7];show _=u8s (List.replicate (grownCap w n 0 5) 0)
   unfold u8s;rw[<-XO,List.replicate_append_replicate]
   congr 2
   omega
 . exact⟨rfl,rfl,rfl,by simp,fun k hk _=>Below.heap_alloc w.drew _ k hk⟩
theorem Jz (w:World){ops:Array Oper}{rest:List Oper}{o:Oper}{a:Act}{Q:Exit->Act->World->Prop}(hgd:o.guard=none)(s x:Operand)
 (ho:o.op=.call {callee:=.builtin .append,args:= #[s,x],argTypes:= #[23,3]}) (n:Nat) (hs:a.eval s=.slice none 0 0) (hx:a.eval x=.int .i64 (n:Int)) (h0:0<n) (hn:n<=281474976710656)
 (h:∀c w',n<=c->c<=maxLen->w'.heap[w.heap.size]? =some (.cells (u8s (List.replicate c 0)).toArray 5 (0,0))->w.grownBy w' none->wpList Tryz.prog ops Q rest (a.put o.dst (.slice (some ⟨w.heap.size,0,none⟩) n c)) w'):
 wpList Tryz.prog ops Q (o::rest) a w:=by
 refine wpList_plain hgd fun K hK=> ?_
 obtain⟨c,w',hr,h2,h3,h4,h5⟩:=Oh w o.type n h0 hn;unfold Oper.wp execOp;simp only[ho,resolve,invoke,builtin,Sem.run_bind,Sem.run_pure,Result.andThen_ok,YD,WG,YB,hs,hx,hr];exact hK _ _ (h c w' h2 h3 h4 h5)
theorem NG (n:Nat)(w:World)(h0:0<n)(hn:n<=281474976710656):Calls Tryz.prog 54 #[.slice none 0 0,.int .i64 (n:Int)] w fun e w'=>∃c,n<=c/\e=.returned (.slice (some ⟨w.heap.size,0,none⟩) 0 c)/\w'.ownsRow w.heap.size 5 1 (.slice (some ⟨w.heap.size,0,none⟩) 0 c) 0 (u8s [])/\Below w.heap.size w w':=by
 go_enter Tryz.func54,Tryz.ntmps54
 go_wp2_with (refine Jz w rfl (.tmp 20) (.tmp 21) rfl n rfl rfl h0 hn ?_)
 intro c w2 hc1 hc2 hg hgr;have HB:=Ab (Nl (Below.refl w.heap.size w) hgr (VC _));have HO:Hid (w2.ownsRow w.heap.size 5 1 (.slice (some ⟨w.heap.size,0,none⟩) 0 c) 0 (u8s [])):=⟨rfl,.inr ⟨w.heap.size,c,_,rfl,VC _,hg,VM _,hc2,by simp,rfl⟩⟩
 clear hg hgr;go_wp2;go_ret;exact⟨c,hc1,rfl,Aa HO,Aa HB⟩
theorem Wb (w:World)(ty:TypeId)(base x:Option Addr)(n cap c:Nat)(h:n<=cap):
 (Builtin.append_ #[23,23] ty #[.slice base n cap,.slice x 0 c]).run Tryz.prog w=.ok (.slice base n cap) w:=by
 obtain⟨i0,hi,hz0,hz1,hz2⟩:=info_parts Hs
 have hf:(Builtin.firstCells i0.size 0 (.slice x 0 c)).run Tryz.prog w=.ok #[] w:=by
  cases x with
  |none=>exact run_firstCells_none w i0.size 0 0 c
  |some b=>exact run_firstCells_some w i0.size 0 b 0 c [] (by simp) (by simp)
 rw[hz1]at hf
 cases base<;>simp[Builtin.append_,run_underlying Tryz.underlying23,sizeOf,typeInfo,hi,hz1,Builtin.lenOf,hf,h,storeCells]
theorem Hw (w:World){ops:Array Oper}{rest:List Oper}{o:Oper}{a:Act}{Q:Exit->Act->World->Prop}(hgd:o.guard=none)(s x:Operand)
 (ho:o.op=.call {callee:=.builtin .append,args:= #[s,x],argTypes:= #[23,23]}) (base y:Option Addr) (n cap c:Nat) (hs:a.eval s=.slice base n cap) (hx:a.eval x=.slice y 0 c) (hn:n<=cap)
 (h:wpList Tryz.prog ops Q rest (a.put o.dst (.slice base n cap)) w):wpList Tryz.prog ops Q (o::rest) a w:=by
 refine wpList_plain hgd fun K hK=> ?_
 unfold Oper.wp execOp;simp only[ho,resolve,invoke,builtin,Sem.run_bind,Sem.run_pure,Result.andThen_ok,YD,WG,YB,hs,hx,Wb w o.type base y n cap c hn];exact hK _ _ h
theorem NF (w:World):Calls Tryz.prog 54 #[.slice none 0 0,.int .i64 0] w fun e w'=>e=.returned (.slice none 0 0)/\w'=w:=by
 go_enter Tryz.func54,Tryz.ntmps54
 go_wp2;go_ret
 trivial
def Jd (ps:List (Option Addr×Nat×List Nat)):Nat->List Nat
 |0=> []
 |k+1=>Jd ps k++(ps.getD k (none,0,[])).2.2
theorem Z40 (ps:List (Option Addr×Nat×List Nat)){j k:Nat}(h:j<=k):(Jd ps j).length<=(Jd ps k).length:=by
 induction k with
 |zero=>rw[show j=0 by omega];exact VC _
 |succ k ih=>
  by_cases e:j=k+1
  . rw[e];exact VC _
  . have:=ih (by omega)
    rw[Jd,VB];omega
theorem W4 {w:World}{b o:Nat}{xs:List Nat}(h:Bytes w b o xs):∀j u,(u8s xs)[j]? =some u->w.cell? ((⟨b,o,none⟩:Addr).add j)=some u:=by
 intro j u hj;have e:(⟨b,o,none⟩:Addr).add j=⟨b,o+j,none⟩:=by unfold Addr.add;split<;>simp_all
 have hj2:j<xs.length:=by
  by_cases c:j<xs.length
  . exact c
  . rw[WA (by simp[u8s];omega)]at hj;cases hj
 have:=h j hj2
 rw[e,this];simp[u8s,hj2]at hj
 subst hj;simp[List.getD,hj2]
theorem Z1u (xs:List Nat):∀u∈u8s xs,u.oneCell'=true:=by intro u hu;obtain⟨x,_,rfl⟩:=WY.1 hu;rfl
theorem GG (b o len cap:Nat)(ps:List (Option Addr×Nat×List Nat))(w:World)(hb:b<w.heap.size)(hc:∀j,j<len->w.cell? ⟨b,o+j,none⟩=some (.slice (ps.getD j (none,0,[])).1 (ps.getD j (none,0,[])).2.2.length (ps.getD j (none,0,[])).2.1))
 (hr:∀j,j<len->BytesIn w (ps.getD j (none,0,[])).1 (ps.getD j (none,0,[])).2.2) (hsum:(Jd ps len).length<=281474976710656) (hlen:len<=100):
 Calls Tryz.prog 32 #[.slice (some ⟨b,o,none⟩) len cap] w fun e w'=>∃a c,(Jd ps len).length<=c/\e=.returned (.slice a (Jd ps len).length c)/\BytesIn w' a (Jd ps len)/\Below w.heap.size w w'/\(a=none->c=0):=by
 obtain⟨i0,hi,hz0,hz1,hz2⟩:=info_parts Hs;have HC:=Ab hc;have HR:=Ab hr;obtain⟨T,hT⟩:∃T,(Jd ps len).length=T:=⟨_,rfl⟩
 rw[hT]at hsum;have HTT:=Ab hT;have HS:Hid (∀k,k<=len->(Jd ps k).length<=T):=Ab (fun k hk=>by rw[<-hT];exact Z40 ps hk);clear hc hr hT;go_enter Tryz.func32,Tryz.ntmps32
 go_wp2;go_loop [3,11] (fun v3 v11=>∃k:Nat,k<=len/\v11=.int .i64 (k:Int)/\v3=.int .i64 ((Jd ps k).length:Int)) (fun _ v11=>len-(intOf v11).toNat)
 case atStart=>exact⟨0,VM _,rfl,rfl⟩
 case round=>
  obtain⟨k,hk,rfl,rfl⟩:=hrel
  by_cases hlt:k<len
  . have c1:=Aa HC k hlt;have hs:=Aa HS (k+1) (by omega);have HN:Hid ((Jd ps (k+1)).length=(Jd ps k).length+(ps.getD k (none,0,[])).2.2.length):=Ab (by rw[Jd,VB]);rw[Aa HN]at hs;generalize (ps.getD k (none,0,[])).2.2.length=m at*;generalize (ps.getD k (none,0,[])).2.1=mc at*;generalize (ps.getD k (none,0,[])).1=g at*;generalize (Jd ps k).length=L at*;go_wp2;go_round
    case rel=>exact⟨k+1,by omega,by go_num,by rw[Aa HN];go_num⟩
    case measure=>simp[intOf];omega
  . obtain rfl:len=k:=by omega
    rw[Aa HTT]
    by_cases hT0:T=0
    . subst hT0;go_wp2_with fail
      refine(NF w).mono ?_;rintro e w2 ⟨rfl,rfl⟩;go_wp2;go_loop [6,27] (fun v6 v27=>∃k:Nat,k<=len/\v27=.int .i64 (k:Int)/\v6=.slice none 0 0) (fun _ v27=>len-(intOf v27).toNat)
      case atStart=>exact⟨0,VM _,rfl,rfl⟩
      case round=>
       obtain⟨k,hk2,rfl,rfl⟩:=hrel
       by_cases hlt2:k<len
       . have c1:=Aa HC k hlt2;have hs:=Aa HS (k+1) (by omega);rw[Jd,VB]at hs;have h0:(ps.getD k (none,0,[])).2.2.length=0:=by omega
         rw[h0]at c1;generalize (ps.getD k (none,0,[])).2.1=mc at*;generalize (ps.getD k (none,0,[])).1=g at*;clear hs h0;go_wp2_with (at_builtin;refine Hw _ rfl (.tmp 31) (.tmp 32) rfl none g 0 0 mc rfl rfl (VC _) ?_)
         go_round
         case rel=>exact⟨k+1,by omega,by go_num,rfl⟩
         case measure=>simp[intOf];omega
       . obtain rfl:len=k:=by omega
         go_wp2;go_ret;exact⟨none,0,by rw[Aa HTT];exact VC _,by rw[Aa HTT];rfl,.inl (List.length_eq_zero_iff.1 (Aa HTT)),Below.refl _ _,fun _=>rfl⟩
    . go_wp2_with fail
      refine(NG T w (by omega) hsum).mono ?_;rintro e w2 ⟨c,hTc,rfl,hO2,hB2⟩;have HO2:=Ab hO2;have HB2:=Ab hB2;clear hO2 hB2;go_wp2;go_loopw [6,27] (fun v6 v27 wr=>∃k:Nat,k<=len/\v27=.int .i64 (k:Int)/\v6=.slice (some ⟨w.heap.size,0,none⟩) (Jd ps k).length c/\Hid (wr.ownsRow w.heap.size 5 1 (.slice (some ⟨w.heap.size,0,none⟩) (Jd ps k).length c) (Jd ps k).length (u8s (Jd ps k)))/\Hid (Below w.heap.size w wr)) (fun _ v27 _=>len-(intOf v27).toNat)
      case atStart=>exact⟨0,VM _,rfl,rfl,HO2,HB2⟩
      case round=>
       obtain⟨k,hk2,rfl,rfl,HO,HBr⟩:=hrel
       by_cases hlt2:k<len
       . have c1:=((Aa HBr).cell (p:=⟨b,o+k,none⟩) hb).trans (Aa HC k hlt2);have hrow:=(Aa HR k hlt2).below (Aa HBr) (VC _);have hs:=Aa HS (k+1) (by omega);have HN:Hid (Jd ps (k+1)=Jd ps k++(ps.getD k (none,0,[])).2.2):=Ab rfl;rw[Aa HN,VB]at hs;generalize (ps.getD k (none,0,[])).2.2=xs at*;generalize (ps.getD k (none,0,[])).1=g at*;generalize (ps.getD k (none,0,[])).2.1=mc at*
         rcases hrow with rfl|⟨gb,go,rfl,hgb,hrow⟩
         . have HN2:Hid (Jd ps (k+1)=Jd ps k):=Ab (by rw[Aa HN,WO]);simp only[VQ]at c1 hs;generalize hL:(Jd ps k).length=L at*;clear HN;go_wp2_with (at_builtin;refine Hw _ rfl (.tmp 31) (.tmp 32) rfl _ g L c mc rfl rfl (by omega) ?_)
           go_roundw
           case rel=>exact⟨k+1,by omega,by go_num,by rw[Aa HN2,hL],Ab (by rw[Aa HN2,hL];exact Aa HO),HBr⟩
           case measure=>simp[intOf];omega
         . have HRC:=Ab (W4 hrow);obtain⟨m,hm⟩:∃m,xs.length=m:=⟨_,rfl⟩
           obtain⟨L,hL⟩:∃L,(Jd ps k).length=L:=⟨_,rfl⟩
           rw[hm]at c1 hs;rw[hL]at hs HO ⊢;have HM:=Ab hm;have HLL:=Ab hL;clear hrow hm hL;go_wp2_with (at_builtin;refine wpList_append_own_spare _ rfl (.tmp 31) (.tmp 32) 23 rfl w.heap.size 5 i0 1 Tryz.underlying23 hi hz1 w.heap.size L c (u8s (Jd ps k)) rfl (Aa HO) ⟨gb,go,none⟩ m mc (u8s xs) rfl (by simp[u8s,Aa HM]) (Aa HRC) (Z1u xs) (by omega) ?_)
           intro w4 hO4 hgrow
           have HO4:Hid (w4.ownsRow w.heap.size 5 1 (.slice (some ⟨w.heap.size,0,none⟩) (Jd ps (k+1)).length c) (Jd ps (k+1)).length (u8s (Jd ps (k+1)))):=by
            rw[Aa HN,VB,Aa HLL,Aa HM];show w4.ownsRow w.heap.size 5 1 _ (L+m) (List.map _ (Jd ps k++xs))
            rw[XO];exact hO4
           have HB4:=Ab ((Aa HBr).grown hgrow (Aa HBr).size (fun g e=>by cases e;exact VC _));have HLN:Hid ((Jd ps (k+1)).length=L+m):=Ab (by rw[Aa HN,VB,Aa HLL,Aa HM]);clear hO4 hgrow c1 HRC;go_wp2;go_roundw
           case rel=>exact⟨k+1,by omega,by go_num,by rw[Aa HLN],HO4,HB4⟩
           case measure=>simp[intOf];omega
       . obtain rfl:len=k:=by omega
         rw[Aa HTT]at HO ⊢;go_wp2;go_ret;exact⟨_,c,by rw[Aa HTT];exact hTc,by rw[Aa HTT];rfl,BytesIn.own (Aa HO),Aa HBr,fun e=>by cases e⟩
theorem DA (w:World)(v0 v1:Value)(t:TypeId):(w.alloc (.cells #[v0,v1] t)).cell? ⟨w.heap.size,0+0,none⟩=some v0/\(w.alloc (.cells #[v0,v1] t)).cell? ⟨w.heap.size,0+1,none⟩=some v1:=by
 constructor<;>rw[cell_of_row _ _ _ _ _ _ (heap_alloc_new w _)]<;>rfl
theorem Gs (w:World)(a b:Option Addr)(la lb ca cb cap:Nat)(xs ys:List Nat)(t:TypeId)(hla:xs.length=la)(hlb:ys.length=lb)(hba:BytesIn w a xs)(hbb:BytesIn w b ys)(hs:la+lb<=281474976710656):
 Calls Tryz.prog 32 #[.slice (some ⟨w.heap.size,0,none⟩) 2 cap] (w.alloc (.cells #[.slice a la ca,.slice b lb cb] t)) fun e w'=>∃x c,la+lb<=c/\e=.returned (.slice x (la+lb) c)/\BytesIn w' x (xs++ys)/\Below w.heap.size w w'/\(x=none->c=0):=by
 subst hla hlb;have e:Jd [(a,ca,xs),(b,cb,ys)] 2=xs++ys:=by simp[Jd]
 have hl:(Jd [(a,ca,xs),(b,cb,ys)] 2).length=xs.length+ys.length:=by rw[e,VB]
 refine(GG w.heap.size 0 2 cap [(a,ca,xs),(b,cb,ys)] _ (by simp) ?_ ?_ (by rw[hl];exact hs) (by decide)).mono ?_
 . intro j hj;have h:=DA w (.slice a xs.length ca) (.slice b ys.length cb) t;have:j=0\/j=1:=by omega
   rcases this with rfl|rfl
   . exact h.1
   . exact h.2
 . intro j hj;have:j=0\/j=1:=by omega
   rcases this with rfl|rfl
   . exact hba.alloc _
   . exact hbb.alloc _
 . rintro e' w' ⟨x,c,h1,rfl,h2,h3,h4⟩;rw[hl]at h1;rw[e]at h2;exact⟨x,c,h1,by rw[hl],h2,((Below.refl w.heap.size w).alloc (VC _) _).trans (h3.mono (by simp)),h4⟩
end Go.Proofs.YtieianhejdcgdaaGreatDoor
namespace Go.Proofs.YtieianhejdcgdaaGreatDoor
open Go.RowKit
set_option linter.unusedVariables false
set_option maxRecDepth 100000
theorem El {fn:Func}{p u:Tmp}{ty:TypeId}(h:fn.results= #[.cell p ty,.tmp u])(tmps:Array Value)(w:World)(g:Nat)(v x:Value)
 (hp:tmps.getD p undef=.pointer (some ⟨g,0,none⟩)) (hv:(loadVar ty ⟨g,0,none⟩).run Tryz.prog w=.ok v w) (hx:tmps.getD u undef=x):
 (results fn tmps).run Tryz.prog w=.ok (.tuple #[v,x]) w:=by
 have hp':tmps[p]?.getD undef=.pointer (some ⟨g,0,none⟩):=by simpa using hp
 have hx':tmps[u]?.getD undef=x:=by simpa using hx
 simp[results,h,hp',hx',asAddr,hv]
theorem Ek {fn:Func}{p u r:Tmp}{ty:TypeId}(h:fn.results= #[.cell p ty,.tmp u,.tmp r])(tmps:Array Value)(w:World)(g:Nat)(v x y:Value)
 (hp:tmps.getD p undef=.pointer (some ⟨g,0,none⟩)) (hv:(loadVar ty ⟨g,0,none⟩).run Tryz.prog w=.ok v w) (hx:tmps.getD u undef=x) (hy:tmps.getD r undef=y):
 (results fn tmps).run Tryz.prog w=.ok (.tuple #[v,x,y]) w:=by
 have hp':tmps[p]?.getD undef=.pointer (some ⟨g,0,none⟩):=by simpa using hp
 have hx':tmps[u]?.getD undef=x:=by simpa using hx
 have hy':tmps[r]?.getD undef=y:=by simpa using hy
 simp[results,h,hp',hx',hy',asAddr,hv]
theorem Df {w:World}{g:Nat}{u v:Value}(h:w.heap[g]? =some (.cells #[u,v] 52 (0,0))):(loadVar 52 ⟨g,0,none⟩).run Tryz.prog w=.ok (.agg #[u,v]) w:=
 run_loadVar_row w g 52 52 #[u,v] (0,0) _ h Tryz.underlying52 rfl (by kernel_rfl)
def PIn (w:World)(v:Value)(bs:List Nat):Prop:=∃a c,v=.slice a bs.length c/\bs.length<=c/\PkIn w a c bs
theorem PIn.below {w w':World}{v:Value}{bs:List Nat}(h:PIn w v bs)(hB:Below w.heap.size w w'):PIn w' v bs:=by
 obtain⟨a,c,h1,h2,h3⟩:=h;exact⟨a,c,h1,h2,h3.below hB⟩
theorem PIn.nil (w:World):PIn w (.slice none 0 0) []:=⟨none,0,rfl,VC _,.inl rfl,fun _=>rfl⟩
def DIn (w:World)(v:Value)(S T:List Nat):Prop:=∃s t,v=.agg #[s,t]/\PIn w s S/\PIn w t T
theorem DIn.below {w w':World}{v:Value}{S T:List Nat}(h:DIn w v S T)(hB:Below w.heap.size w w'):DIn w' v S T:=by
 obtain⟨s,t,h1,h2,h3⟩:=h;exact⟨s,t,h1,h2.below hB,h3.below hB⟩
theorem DIn.nil (w:World):DIn w (.agg #[.slice none 0 0,.slice none 0 0]) [] []:=⟨_,_,rfl,PIn.nil w,PIn.nil w⟩
theorem X0 (w:World):w.ownsRow w.heap.size 5 1 (.slice none 0 0) ([]:List Nat).length (u8s []):=World.ownsRow_nil _ _ _ _
theorem Sa (a:Option Addr)(n cap:Nat)(bs:List Nat)(w:World)(hl:bs.length=n)(hP:PkIn w a cap bs)(hm:n<=140737488355328):
 Calls Tryz.prog 53 #[.slice a n cap] w fun e w'=>∃v,e=.returned v/\PIn w' v bs/\Below w.heap.size w w':=by
 have HP:=Ab hP;have HL:=Ab hl;clear hP hl;go_enter Tryz.func53,Tryz.ntmps53
 go_wp2_with (refine Hx rfl (.const (.slice none 0 0)) (.tmp 3) rfl w.heap.size (.slice none 0 0) [] bs rfl (X0 w) a n cap rfl (Aa HL) (Aa HP) (by simpa using hm) (VC _) ?_)
 intro v' w' h1 h2;have h3:w'.ownsRow w.heap.size 5 1 v' bs.length (u8s bs):=by simpa using h1
 obtain⟨x,c,rfl,k1,k2,k3,_⟩:=B3 h3;have HF:Hid (∃v,Ending.returned (Value.slice x bs.length c)=.returned v/\PIn w' v bs/\Below w.heap.size w w'):=Ab ⟨_,rfl,⟨x,c,rfl,k2,k1⟩,(Below.refl w.heap.size w).grown h2 (VC _) (fun g e=>by cases e)⟩;clear h1 h2 h3 k1 k2 k3;go_wp2;go_ret;exact Aa HF
def Fj (b:List Nat)(f:List Fl):Prop:=Recs [] b f b.length
open Classical in
noncomputable def dskE (S T:List Nat):Nat:=if 40000<S.length+T.length then 2 else if (∃f,Fj S f)/\∃f,Fj (S++T) f then 0 else 7
theorem OD {S T:List Nat}(h:40000<S.length+T.length):dskE S T=2:=by unfold dskE;rw[if_pos h]
theorem Nc {S T:List Nat}{f g:List Fl}(h:¬40000<S.length+T.length)(h1:Fj S f)(h2:Fj (S++T) g):dskE S T=0:=by unfold dskE;rw[if_neg h,if_pos ⟨⟨f,h1⟩,⟨g,h2⟩⟩]
theorem J5 {S T:List Nat}(h:¬40000<S.length+T.length)(h1:¬((∃f,Fj S f)/\∃f,Fj (S++T) f)):dskE S T=7:=by unfold dskE;rw[if_neg h,if_neg h1]
theorem Ry {S T:List Nat}(h:dskE S T=0):S.length+T.length<=40000/\(∃f,Fj S f)/\∃f,Fj (S++T) f:=by
 unfold dskE at h
 split at h
 . cases h
 . split at h
   . rename_i h1 h2
     exact⟨by omega,h2⟩
   . cases h
theorem C0 {b:List Nat}{f:List Fl}{m:Nat}(h:Recs [] b f m)(hm:m<b.length):¬ ∃f,Fj b f:=by
 rintro ⟨g,hg⟩;have:=(h.one hg).2
 omega
theorem KA (a:Option Addr)(m n cap:Nat)(h:m<=n)(hn:n<=cap)(W:World):(Instr.slice 23 (.slice a n cap) none (some (.int .i64 (m:Int))) none).run Tryz.prog W=.ok (.slice a m cap) W:=by
 have hs:=Tryz.sizeOf5;have ht:=Tryz.underlying23;have h2:(m:Int)<=(cap:Int):=by omega
 cases a<;>simp[go_sem,ht,hs,h2]
theorem QJ {n m:Nat}(h:m<=n)(hn:n<=140737488355328):IntKind.i64.wrap ((n:Int)-(m:Int))=(n:Int)-(m:Int):=by
 simp[IntKind.wrap,IntKind.signed,IntKind.bits]
 omega
def RcA (w:World)(bs:List Nat)(e:Ending)(w':World):Prop:=
 Below w.heap.size w w'/\((40000<bs.length/\e=.returned (.tuple #[.agg #[.slice none 0 0,.slice none 0 0],.int .i64 0,.int .i64 2]))\/ (bs.length<=40000/\∃f m v,Recs [] bs f m/\e=.returned (.tuple #[.agg #[v,.slice none 0 0],.int .i64 ((bs.length-m:Nat):Int),.int .i64 0])/\PIn w' v (bs.take m)))
theorem V4 {w W:World}{g:Nat}{o0 o1:Value}{T:TypeId}(hB:Below w.heap.size w W)(hg:w.heap.size<=g)(h:W.heap[g]? =some (.cells #[o0,o1] T (0,0)))(u v:Value):
 ((W.setCell ⟨g,0,none⟩ u).setCell ⟨g,1,none⟩ v).heap[g]? =some (.cells #[u,v] T (0,0))/\Below w.heap.size w ((W.setCell ⟨g,0,none⟩ u).setCell ⟨g,1,none⟩ v):=by
 have h2:=hB.grown (Ad W g 0 u) hB.size (fun g' e=>by cases e;exact hg);refine⟨?_,h2.grown (Ad _ g 1 v) h2.size (fun g' e=>by cases e;exact hg)⟩;rw[heap_setCell_same _ g 1 _ _ _ (heap_setCell_same W g 0 _ _ _ h)];rfl
theorem Z0v {W:World}{N c l1 c1 l2 c2:Nat}{a a1 a2:Option Addr}{ys:List Nat}{T:TypeId}(hP:PkIn W a c ys)(h:W.heap[N]? =some (.cells #[.slice a1 l1 c1,.slice a2 l2 c2] T (0,0))):∀g o,a=some ⟨g,o,none⟩->ys≠ []->some g≠some N:=by
 rintro g o rfl hne e
 cases e
 have hpos:0<ys.length:=YJ.2 hne;obtain⟨b,o',e,hb,hB⟩:=Ca hP.1 hpos
 cases e
 have h0:=hB 0 hpos;rw[Ac h]at h0
 rcases(by omega:o+0=0\/o+0=1\/2<=o+0)with e|e|e
 . rw[e]at h0;simp at h0
 . rw[e]at h0;simp at h0
 . rw[XX (by simpa using e)]at h0;cases h0
theorem PIn.put {W:World}{N l1 c1 l2 c2:Nat}{a1 a2:Option Addr}{x u v:Value}{ys:List Nat}{T:TypeId}(hP:PIn W x ys)(h:W.heap[N]? =some (.cells #[.slice a1 l1 c1,.slice a2 l2 c2] T (0,0)))(u0:∃a l c,u=.slice a l c):PIn ((W.setCell ⟨N,0,none⟩ u).setCell ⟨N,1,none⟩ v) x ys:=by
 obtain⟨a,c,rfl,h1,h2⟩:=hP;obtain⟨a3,l3,c3,rfl⟩:=u0;have h3:=h2.grown (Ad W N 0 (.slice a3 l3 c3)) (Z0v h2 h);have h4:=heap_setCell_same W N 0 _ _ (.slice a3 l3 c3) h;exact⟨a,c,rfl,h1,h3.grown (Ad _ N 1 v) (Z0v h3 h4)⟩
theorem Q8 (a:Option Addr)(n cap:Nat)(bs:List Nat)(w:World)(hl:bs.length=n)(hc:n<=cap)(hP:PkIn w a cap bs)(hv:∀x∈bs,x<256)(hm:n<=140737488355328):
 Calls Tryz.prog 25 #[.slice a n cap] w fun e w'=>RcA w bs e w':=by
 obtain⟨N,hN⟩:∃N,w.heap.size=N:=⟨_,rfl⟩
 have hud:=Tryz.underlying52;have hnew:(w.alloc (.cells #[.slice none 0 0,.slice none 0 0] 52)).heap[N]? =some (.cells #[.slice none 0 0,.slice none 0 0] 52 (0,0)):=by rw[<-hN];exact heap_alloc_new _ _
 have hBn:Below w.heap.size w (w.alloc (.cells #[.slice none 0 0,.slice none 0 0] 52)):=(Below.refl w.heap.size w).alloc (VC _) _
 by_cases h4:40000<n
 . have h4I:(40000:Int)<(n:Int):=by omega
   have d0:=Ac (i:=0) hnew;have d1:=Ac (i:=1) hnew;have f0:=frozen_of_row _ N 0 _ _ hnew;have f1:=frozen_of_row _ N 1 _ _ hnew;have HD:=Ab (And.intro hnew hBn);have HF:Hid (∀W,Below w.heap.size w W->RcA w bs (.returned (.tuple #[.agg #[.slice none 0 0,.slice none 0 0],.int .i64 0,.int .i64 2])) W):=Ab (fun W hW=>⟨hW,.inl ⟨by omega,rfl⟩⟩);clear hP hv hl hnew hBn;go_enter Tryz.func25,Tryz.ntmps25
   go_wp2;refine bodyPost_ret (v:=.tuple #[.agg #[.slice none 0 0,.slice none 0 0],.int .i64 0,.int .i64 2]) ?_ rfl (Aa HF _ (Aa HD).2);exact Ek rfl _ _ N _ _ _ rfl (Df (Aa HD).1) rfl rfl
 . have h4I:¬(40000:Int)<(n:Int):=by omega
   have HT:=Ab (Hi a n cap bs _ hl hc (hP.below hBn) hv hm);unfold ToA at HT;have HP:=Ab hP;have HV:=Ab hv;have HL:=Ab hl;have HN:=Ab hnew;have HBN:=Ab hBn;clear hP hv hl hnew hBn;go_enter Tryz.func25,Tryz.ntmps25
   go_wp2_with fail
   refine(Aa HT).mono ?_;rintro e w1 ⟨v1,fs,m,rfl,hL1,hR1,hB1⟩;have hmn:m<=n:=by have:=hR1.le;rw[Aa HL]at this;exact this
   have hB01:=(Aa HBN).trans (hB1.mono (Aa HBN).size);have hN1:=(hB1.block N (VG.1 (Aa HN)).1).trans (Aa HN);have HCO:=Ab (Sa a m cap (bs.take m) w1 (by rw[VL,Aa HL];omega) (Wj ((Aa HP).below hB01) m) (by omega));have hsl:=KA a m n cap hmn hc;have hsb:=QJ hmn hm;have HB01:=Ab hB01;have HN1:=Ab hN1;have HR1:=Ab hR1;have HM:=Ab hmn;have HE:Hid ((n:Int)-(m:Int)=((n-m:Nat):Int)):=Ab (by omega);clear hL1 hR1 hB1 hB01 hN1 HT hmn;go_wp2_with fail
   refine(Aa HCO).mono ?_;rintro e w2 ⟨v2,rfl,hP2,hB2⟩;have hB02:=(Aa HB01).trans (hB2.mono (Aa HB01).size);have hN2:=(hB2.block N (VG.1 (Aa HN1)).1).trans (Aa HN1);obtain⟨a2,c2,hv2,k1,k2⟩:=id hP2;have htl:(bs.take m).length=m:=by rw[VL,Aa HL];have:=Aa HM;omega
   rw[htl]at hv2;have hD:=V4 hB02 (ZJ hN) hN2 v2 (.slice none 0 0);have d0:=Ac (i:=0) hN2;have d1:=Ac (i:=1) hN2;have f0:=frozen_of_row _ N 0 _ _ hN2;have f1:=frozen_of_row _ N 1 _ _ hN2;have hP3:=hP2.put (u:=v2) (v:=.slice none 0 0) hN2 ⟨_,_,_,hv2⟩;have HD:=Ab hD;have HF:Hid (RcA w bs (.returned (.tuple #[.agg #[v2,.slice none 0 0],.int .i64 ((n:Int)-(m:Int)),.int .i64 0])) ((w2.setCell ⟨N,0,none⟩ v2).setCell ⟨N,1,none⟩ (.slice none 0 0))):=Ab ⟨hD.2,.inr ⟨by rw[Aa HL];omega,fs,m,v2,Aa HR1,by rw[Aa HE,Aa HL],hP3⟩⟩;subst hv2;clear hP2 hB2 hB02 hN2 k1 k2 hD hP3 htl;go_wp2;refine bodyPost_ret (v:=.tuple #[.agg #[.slice a2 m c2,.slice none 0 0],.int .i64 ((n:Int)-(m:Int)),.int .i64 0]) ?_ rfl (Aa HF);exact Ek rfl _ _ N _ _ _ rfl (Df (Aa HD).1) rfl rfl
end Go.Proofs.YtieianhejdcgdaaGreatDoor
namespace Go.Proofs.YtieianhejdcgdaaGreatDoor
open Go.RowKit
set_option linter.unusedVariables false
set_option maxRecDepth 100000
def FiA (w:World)(S T:List Nat)(e:Ending)(w':World):Prop:=Below w.heap.size w w'/\∃v l,e=.returned (.tuple #[v,.int .i64 (dskE S T:Nat)])/\LIn w' v l/\(dskE S T=0->Fj (S++T) l)/\(dskE S T≠0->l= [])
theorem FiA.bad {w w':World}{S T:List Nat}{k:Nat}(hB:Below w.heap.size w w')(h:dskE S T=k)(hk:k≠0):FiA w S T (.returned (.tuple #[.slice none 0 0,.int .i64 (k:Int)])) w':=⟨hB,_,[],by rw[h],LIn.nil _,fun e=>absurd (h.symm.trans e) hk,fun _=>rfl⟩
theorem Iz (v:Value)(S T:List Nat)(w:World)(hD:DIn w v S T)(hv1:∀x∈S,x<256)(hv2:∀x∈T,x<256)(hm1:S.length<=140737488355328)(hm2:T.length<=140737488355328):
 Calls Tryz.prog 22 #[v] w fun e w'=>FiA w S T e w':=by
 obtain⟨s,t,rfl,⟨a1,c1,rfl,hc1,hP1⟩,⟨a2,c2,rfl,hc2,hP2⟩⟩:=hD;obtain⟨N,hN⟩:∃N,w.heap.size=N:=⟨_,rfl⟩
 obtain⟨n1,hn1⟩:∃n1,S.length=n1:=⟨_,rfl⟩
 obtain⟨n2,hn2⟩:∃n2,T.length=n2:=⟨_,rfl⟩
 rw[hn1]at hm1 hc1 ⊢;rw[hn2]at hm2 hc2 ⊢;have hwr:IntKind.i64.wrap ((40000:Int)-(n1:Int))=(40000:Int)-(n1:Int):=by simp[IntKind.wrap,IntKind.signed,IntKind.bits];omega
 have HM1:=Ab hn1;have HM2:=Ab hn2
 by_cases h4:40000<n1+n2
 . have h4I:(40000:Int)-(n1:Int)<(n2:Int):=by omega
   have HF:Hid (FiA w S T (.returned (.tuple #[.slice none 0 0,.int .i64 ((2:Nat):Int)])) (w.alloc (.cells #[.slice a1 n1 c1,.slice a2 n2 c2] 52))):=Ab (FiA.bad ((Below.refl w.heap.size w).alloc (VC _) _) (OD (by omega)) (by decide));clear hP1 hP2 hv1 hv2 hn1 hn2 h4;go_enter Tryz.func22,Tryz.ntmps22
   go_wp2;go_ret2;exact Aa HF
 have h4I:¬(40000:Int)-(n1:Int)<(n2:Int):=by omega
 have hnd:¬40000<S.length+T.length:=by omega
 have hnew:(w.alloc (.cells #[.slice a1 n1 c1,.slice a2 n2 c2] 52)).heap[N]? =some (.cells #[.slice a1 n1 c1,.slice a2 n2 c2] 52 (0,0)):=by rw[<-hN];exact heap_alloc_new _ _
 have hBn:Below w.heap.size w (w.alloc (.cells #[.slice a1 n1 c1,.slice a2 n2 c2] 52)):=(Below.refl w.heap.size w).alloc (VC _) _;have HT:=Ab (Hi a1 n1 c1 S _ hn1 hc1 (hP1.below hBn) hv1 hm1);unfold ToA at HT;have HP1:=Ab hP1;have HP2:=Ab hP2;have HV1:=Ab hv1;have HV2:=Ab hv2;have HN:=Ab hnew;have HBN:=Ab hBn;have HND:=Ab hnd;clear hP1 hP2 hv1 hv2 hnew hBn hn1 hn2 hnd;go_enter Tryz.func22,Tryz.ntmps22
 go_wp2_with fail
 refine(Aa HT).mono ?_;rintro e w1 ⟨v1,fs,m,rfl,hL1,hR1,hB1⟩;have hmn:m<=n1:=by have:=hR1.le;rw[Aa HM1]at this;exact this
 have hB01:=(Aa HBN).trans (hB1.mono (Aa HBN).size);have hN1:=(hB1.block N (VG.1 (Aa HN)).1).trans (Aa HN);have d0:=Ac (i:=0) hN1;have d1:=Ac (i:=1) hN1
 by_cases hmlt:m<n1
 . have HF:Hid (FiA w S T (.returned (.tuple #[.slice none 0 0,.int .i64 ((7:Nat):Int)])) w1):=Ab (FiA.bad hB01 (J5 (Aa HND) (fun h=>C0 hR1 (by rw[Aa HM1];exact hmlt) h.1)) (by decide));have hmI:(m:Int)<(n1:Int):=by omega
   clear hL1 hR1 hB1 hB01 hN1 HT hmlt hmn;go_wp2;go_ret2;exact Aa HF
 obtain rfl:n1=m:=by omega
 have hW1:Fj S fs:=by unfold Fj;rw[Aa HM1];exact hR1
 have HCC:=Ab (Gs w1 a1 a2 n1 n2 c1 c2 2 S T 23 (Aa HM1) (Aa HM2) ((Aa HP1).below hB01).1 ((Aa HP2).below hB01).1 (by omega));have HB01:=Ab hB01;have HW1:=Ab hW1;have hself:¬(n1:Int)<(n1:Int):=by omega
 clear hL1 hR1 hB1 hB01 hN1 HT hmlt hmn hW1;go_wp2_with fail
 refine(Aa HCC).mono ?_;rintro e w2 ⟨x,c,hxc,rfl,hBy,hB2,hnil⟩;have hB02:=(Aa HB01).trans (hB2.mono (Aa HB01).size);obtain⟨n3,hn3⟩:∃n3,n1+n2=n3:=⟨_,rfl⟩
 have hl3:(S++T).length=n3:=by rw[VB,Aa HM1,Aa HM2,hn3]
 have hv3:∀y∈S++T,y<256:=fun y hy=>by rcases VZ.1 hy with h|h;exact Aa HV1 y h;exact Aa HV2 y h
 rw[hn3]at hxc ⊢;have HT2:=Ab (Hi x n3 c (S++T) w2 hl3 hxc ⟨hBy,hnil⟩ hv3 (by omega));unfold ToA at HT2;have HB02:=Ab hB02;have HL3:=Ab hl3;clear hBy hB2 hB02 hnil HCC hl3 hv3 hn3;go_wp2_with fail
 refine(Aa HT2).mono ?_;rintro e w3 ⟨v3,gs,m3,rfl,hL3,hR3,hB3⟩;have hB03:=(Aa HB02).trans (hB3.mono (Aa HB02).size);have hmn3:m3<=n3:=by have:=hR3.le;rw[Aa HL3]at this;exact this
 by_cases hm3:m3<n3
 . have HF:Hid (FiA w S T (.returned (.tuple #[.slice none 0 0,.int .i64 ((7:Nat):Int)])) w3):=Ab (FiA.bad hB03 (J5 (Aa HND) (fun h=>C0 hR3 (by rw[Aa HL3];exact hm3) h.2)) (by decide));have hmI:(m3:Int)<(n3:Int):=by omega
   clear hL3 hR3 hB3 hB03 hm3 hmn3 HT2;go_wp2;go_ret2;exact Aa HF
 . obtain rfl:n3=m3:=by omega
   have hW3:Fj (S++T) gs:=by unfold Fj;rw[Aa HL3];exact hR3
   have hd:=Nc (Aa HND) (Aa HW1) hW3;have HF:Hid (FiA w S T (.returned (.tuple #[v3,.int .i64 0])) w3):=Ab ⟨hB03,v3,gs,by rw[hd];rfl,hL3,fun _=>hW3,fun e=>absurd hd e⟩;have hself:¬(n3:Int)<(n3:Int):=by omega
   clear hL3 hR3 hB3 hB03 hm3 hmn3 HT2 hW3 hd;go_wp2;go_ret2;exact Aa HF
theorem Vb (v:Value)(S T:List Nat)(w:World)(hD:DIn w v S T)(hv1:∀x∈S,x<256)(hv2:∀x∈T,x<256)(hm1:S.length<=140737488355328)(hm2:T.length<=140737488355328):
 Calls Tryz.prog 28 #[v] w fun e w'=>e=.returned (.int .i64 (dskE S T:Nat))/\Below w.heap.size w w':=by
 obtain⟨s,t,rfl,h1,h2⟩:=id hD;obtain⟨a1,c1,rfl,_⟩:=h1;obtain⟨a2,c2,rfl,_⟩:=h2;have HF:=Ab (fun W (hW:Below w.heap.size w W)=>Iz _ S T W (hD.below hW) hv1 hv2 hm1 hm2);unfold FiA at HF;obtain⟨n1,hn1⟩:∃n1,S.length=n1:=⟨_,rfl⟩
 obtain⟨n2,hn2⟩:∃n2,T.length=n2:=⟨_,rfl⟩
 obtain⟨E,hE⟩:∃E,dskE S T=E:=⟨_,rfl⟩
 rw[hn1,hn2,hE]at HF;rw[hn1,hn2,hE];have HB:=Ab ((Below.refl w.heap.size w).alloc (VC _) (.cells #[.slice a1 n1 c1,.slice a2 n2 c2] 52));clear hD hv1 hv2 hm1 hm2 hn1 hn2 hE;go_enter Tryz.func28,Tryz.ntmps28
 go_wp2_with fail
 refine(Aa HF _ (Aa HB)).mono ?_;rintro e w1 ⟨hB1,v1,l,rfl,_⟩;have HB1:=Ab ((Aa HB).trans (hB1.mono (Aa HB).size));clear hB1 HF;go_wp2;go_ret;exact⟨rfl,Aa HB1⟩
end Go.Proofs.YtieianhejdcgdaaGreatDoor
namespace Go.Proofs.YtieianhejdcgdaaGreatDoor
open Go.RowKit
set_option linter.unusedVariables false
set_option maxRecDepth 100000
theorem EOf.ok {x:En}(h:EOf x)(hv:Jx x.f=0):EOk x:=by
 obtain⟨hn,hp⟩:=h.num hv;have h2:=(Mc hv).2.1;refine⟨⟨hn.st.1,by have:=hn.st.2;omega⟩,⟨hn.nd.1,by have:=hn.nd.2;omega⟩,by have:=hn.nm;omega,by have:=hn.pl;omega,hn.cr,hn.mt, ?_⟩;obtain⟨out,ho,(⟨q1,q2,q3⟩|⟨q1,q2,q3⟩)⟩:=h.pk
 . have hu:=SE ho (Z49 _) (Dj (Ns _)) (by rw[Gn];exact h2) [] 0;rw[WO,YN]at hu;unfold unpF;rw[q2,q3,if_neg (by decide),if_pos rfl,if_pos ⟨by omega,hu.2.1,hu.2.2⟩,hu.1]
 . unfold unpF;rw[q2,q3,if_pos rfl]
theorem CT (l:List En)(hE:Eh (l.map En.f)=0)(ho:∀x∈l,EOf x)(hn:(Cb l).length<=12000):
 (∀x∈l,EOk x)/\Ew (Cb l)=0/\Dn (Cb l)=l.map En.f:=by
 have hv:∀x∈l,Jx x.f=0:=fun x hx=>(Hu hE).2 x.f (WX hx)
 have hk:∀x∈l,EOk x:=fun x hx=>(ho x hx).ok (hv x hx)
 refine⟨hk,A3 l hk hE ?_ hn⟩;unfold Ms;rw[WS];intro x hx;exact decide_eq_true (ho x hx).cr
theorem Ps:∀(l:List En),(Cb l).length=22+(Bh l).length+(Bj 0 l).length:=fun l=>by
 unfold Cb;rw[VB,VB,BW];omega
end Go.Proofs.YtieianhejdcgdaaGreatDoor
