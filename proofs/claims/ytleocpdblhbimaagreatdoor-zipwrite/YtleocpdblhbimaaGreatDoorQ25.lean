import Derived.Test.YtleocpdblhbimaaGreatDoorQ24
import Derived.Laws.ResultCell
import Derived.Test.YtleocpdblhbimaaGreatDoorQ23
import Derived.Shelf.Abstract
set_option linter.unusedSimpArgs false
set_option maxHeartbeats 8000000
namespace Go.Proofs.YtleocpdblhbimaaGreatDoor
open Go.RowKit
set_option linter.unusedVariables false
set_option maxRecDepth 100000
theorem Pas.row3 {No:Nat->Prop}{w:World}{p mb base b o n cap k:Nat}{bs:List Nat}(h:Pas No w p mb base b o n cap bs k)(hx:∀j,bs.getD j 0<256)(hk:k<=3000)(x0 x1 x2:Nat)(HX:Gv bs k=(x0,x1,x2)):
 ∃(a:Option Addr) (c L:Nat),(plc bs k (Gv bs k)).length=L/\(Instr.lookup 290 (.map (some mb)) (.agg #[.int .u8 (x0:Int),.int .u8 (x1:Int),.int .u8 (x2:Int)]) false).run Tryz.prog w=.ok (.slice a L c) w/\L<=k/\
  ∀j,j<L->∃g,a=some ⟨g,0,none⟩/\w.cell? ⟨g,j,none⟩=some (.int .i64 (((plc bs k (Gv bs k)).getD j 0:Nat):Int)):=by
 have ok:=N5 hx k;obtain⟨D,hD,hA⟩:=h.grp;obtain⟨v,zs,hrun,hat,hoi,hzl,_⟩:=hD.at Z4u Tryz.underlying290 (S8 w) (by unfold maxLen;omega) (Pd ok);have hzs:zs=(plc bs k (Gv bs k)).map fun x:Nat=>(x:Int):=Ua hoi (by rw[<-hat];exact(hA _ ok).symm)
 have hlen:zs.length=(plc bs k (Gv bs k)).length:=by rw[hzs];simp
 have hrun':(Instr.lookup 290 (.map (some mb)) (.agg #[.int .u8 (x0:Int),.int .u8 (x1:Int),.int .u8 (x2:Int)]) false).run Tryz.prog w=.ok v w:=by
  rw[show (Value.agg #[.int .u8 (x0:Int),.int .u8 (x1:Int),.int .u8 (x2:Int)])=kv (Gv bs k) by rw[HX];rfl];exact hrun
 rcases hoi.1.2 with ⟨h1,h2⟩|⟨g,c,cur,h1,h2⟩
 . refine⟨none,0,0,by omega,by rw[hrun',h1],VK _,fun j hj=>by omega⟩
 . refine⟨some ⟨g,0,none⟩,c,zs.length,hlen.symm,by rw[hrun',h1],hzl,fun j hj=>⟨g,rfl, ?_⟩⟩;have ho:=hoi.1;rw[h1]at ho;rw[ho.cellAt j (by omega)];have:j<(plc bs k (Gv bs k)).length:=by omega
   simp[hzs,List.getD,this]
theorem JW {bs:List Nat}{k:Nat}(h:mst bs.length k<3):lng bs k=(0,0):=
 Z3 (fun d h1 h2=>XU (Ra _ _ _ _) h)
theorem Qy (No:Nat->Prop)(B p mb base b o n cap kn k:Nat)(bs:List Nat)(w:World)(G:Geo No B p mb base b bs)(hl:bs.length=n)(hcap:n<=cap)(hP:Pas No w p mb base b o n cap bs kn)(hk:kn<=k)(hkn:k<=n)(hNo:∀g,w.heap.size<=g->¬No g)(rn rf:Nat)(hr:Hid (lng bs k=(rn,rf))):
 Calls Tryz.prog 207 #[.pointer (some ⟨p,0,none⟩),.int .i64 (k:Int)] w fun e w'=>e=.returned (.tuple #[.int .i64 (rn:Int),.int .i64 (rf:Int)])/\(∃kn',kn'<=k/\Pas No w' p mb base b o n cap bs kn')/\Below B w w'/\Kp No w w':=by
 have HG:=Ab G;have HP:=Ab hP;have HN:=Ab hNo;have HL:=Ab hl;have hn:=G.len;have c0:=hP.pst.cell0;clear G hP hNo;go_enter Tryz.func207,Tryz.ntmps207
 by_cases h3:mst n k<3
 . obtain⟨m,hm⟩:∃m,m=mst n k:=⟨_,rfl⟩
   have hmi:(if (n:Int)-(k:Int)<258 then (n:Int)-(k:Int)else 258)=(m:Int):=by rw[hm];unfold mst;split<;>omega
   have hm3:m<3:=by omega
   have hr0:=Aa hr;rw[JW (by rw[hl];exact h3)]at hr0;obtain⟨rfl,rfl⟩:0=rn/\0=rf:=by simpa using hr0
   go_wp2;go_ret2;exact⟨rfl,⟨kn,hk,Aa HP⟩,Below.refl _ _,Kp.refl _ _⟩
 . obtain⟨m,hm⟩:∃m,m=mst n k:=⟨_,rfl⟩
   have hmi:(if (n:Int)-(k:Int)<258 then (n:Int)-(k:Int)else 258)=(m:Int):=by rw[hm];unfold mst;split<;>omega
   have hm3:3<=m:=by omega
   have hmk:k+m<=n:=by rw[hm];unfold mst;omega
   have hm258:m<=258:=by rw[hm];unfold mst;omega
   have HM:=Ab hm;clear hm h3;go_wp2_with fail
   refine(LW No B p mb base b o n cap kn k bs w (Aa HG) hl hcap (Aa HP) hk (by omega) (Aa HN)).mono ?_;rintro e w1 ⟨rfl,hP1,hB1,hK1⟩;have HP1:=Ab hP1;have HB1:=Ab hB1;have HK1:=Ab hK1;have d0:=hP1.pst.cell0;have d1:=hP1.pst.cell1;have b0:=hP1.row k (by omega);have b1:=hP1.row (k+1) (by omega);have b2:=hP1.row (k+2) (by omega);rw[<-WH]at b1 b2;clear hP1 hB1 hK1 c0;generalize hx0:bs.getD k 0=x0 at b0;generalize hx1:bs.getD (k+1) 0=x1 at b1;generalize hx2:bs.getD (k+2) 0=x2 at b2;have HX:Hid (Gv bs k=(x0,x1,x2)):=by rw[<-hx0,<-hx1,<-hx2];rfl
   clear hx0 hx1 hx2;have hck:¬cap=k:=by omega
   have har:∀(a:Option Addr) (c:Nat) (W:World),(Instr.arrayAt 313 (.slice a (n-k) c)).run Tryz.prog W=.ok (.pointer a) W:=fun a c W=>run_arrayAt _ _ _ _ _ _ _ Tryz.underlying313 (by omega)
   have HP2:Hid (Pas No w1.drew p mb base b o n cap bs k):=(Aa HP1).drewN 1;obtain⟨a,c,L,hL,hlook,hLk,hcells⟩:=(Aa HP2).row3 (Aa HG).byte (by omega) x0 x1 x2 (Aa HX);have HLn:=Ab hL;have HC:=Ab hcells;clear hL hcells;go_wp2;go_big_region
   clear b0 b1 b2 har hlook d1 hmi;have BY:=Ab (Aa HG).byte;have HA:Hid (Han bs k (plc bs k (Gv bs k)) (L-L) 0 0):=.inl ⟨by omega,rfl,rfl⟩
   have H3:Hid (∀j,j<(plc bs k (Gv bs k)).length->3<=lcp bs ((plc bs k (Gv bs k)).getD j 0) k (mst bs.length k)):=by
    intro j hj;refine(Z8 ?_).1 (IU bs k (Gv bs k) hj).2;rw[Aa HL,<-Aa HM];exact hm3
   have HLT:=Ab (fun j (hj:j<L)=>(IU bs k (Gv bs k) (j:=j) (by rw[Aa HLn];exact hj)).1);have HE:Hid (∀q x y,Han bs k (plc bs k (Gv bs k)) q x y->(q=L\/x=m)->lng bs k=(x,y)):=fun q x y h he=>h.lng (by rw[Aa HL,<-Aa HM];exact hm3) (by rw[Aa HL,<-Aa HM,Aa HLn];exact he)
   have EM:Hid (mst bs.length k=m):=by rw[Aa HL];exact(Aa HM).symm
   have dR:=(Aa HP2).row;have DR:=Ab dR;clear dR;generalize plc bs k (Gv bs k)=zs at*;go_wp2;go_loopw [4,5,8] (fun v4 v5 v8 wr=>∃t x y q:Nat,t<=L/\v8=.int .i64 ((t:Int)-1)/\v4=.int .i64 (x:Int)/\v5=.int .i64 (y:Int)/\Han bs k zs (L-t) x y/\wr=w1.drewN q) (fun _ _ v8 _=>((intOf v8)+1).toNat)
   case atStart=>exact⟨L,0,0,1,VC _,rfl,rfl,rfl,Aa HA,rfl⟩
   case round=>
    obtain⟨t,x,y,q,ht,rfl,rfl,rfl,hH,rfl⟩:=hrel;have HH:=Ab hH;have hxm:x<=m:=by have:=hH.le.1;rw[Aa EM]at this;exact this
    clear hH
    by_cases hgo:0<t/\x<m
    . obtain⟨h0,hxlt⟩:=hgo;obtain⟨t,rfl⟩:∃t',t=t'+1:=⟨t-1,by omega⟩
      obtain⟨g,rfl,hc⟩:=Aa HC t (by omega);have hc':w1.cell? ⟨g,t,none⟩=some (.int .i64 ((zs.getD t 0:Nat):Int)):=hc;have hzk:=Aa HLT t (by omega);have ez:zs.length-1-(L-(t+1))=t:=by rw[Aa HLn];omega
      obtain⟨r,hrr⟩:∃r,r=if bs.getD (zs.getD t 0+x) 0=bs.getD (k+x) 0 then lcp bs (zs.getD t 0) k m else 0:=⟨_,rfl⟩
      have HS:=Ab (JR p b o n cap (zs.getD t 0) k x m bs (w1.drewN q) d0 (Aa DR) (Aa HL) (by omega) (Aa BY) hzk hxlt hmk r hrr)
      have HW:Hid ((r<=x->Han bs k zs (L-t) x y)/\(x<r->Han bs k zs (L-t) r (k-zs.getD t 0))):=by
       have hm':=(Aa HH).more (by rw[Aa HLn];omega) (Aa H3);have hl':=(Aa HH).less (by rw[Aa HLn];omega) (Aa H3);rw[ez,show L-(t+1)+1=L-t by omega,Aa EM]at hm' hl'
       constructor
       . intro h;refine hl' ?_
         by_cases e:bs.getD (zs.getD t 0+x) 0=bs.getD (k+x) 0
         . rw[if_pos e]at hrr;omega
         . exact A7 e
       . intro h
         have e:bs.getD (zs.getD t 0+x) 0=bs.getD (k+x) 0:=by
          by_cases e:bs.getD (zs.getD t 0+x) 0=bs.getD (k+x) 0
          . exact e
          . rw[if_neg e]at hrr;omega
         rw[if_pos e]at hrr;rw[hrr]at h ⊢;exact hm' h
      have hrm:r<=m:=by
       rw[hrr];split
       . exact Ra _ _ _ _
       . omega
      clear hrr hc ez;generalize zs.getD t 0=z at*;go_wp2_with fail
      refine(Aa HS).mono ?_;rintro e w2 ⟨rfl,q2,rfl⟩
      by_cases hrx:x<r
      . have HF:=Ab ((Aa HW).2 hrx);go_wp2;go_quiet (fail)
        go_wp2;go_roundw
        case rel=>exact⟨t,r,k-z,_,by omega,by go_num,rfl,by go_num,Aa HF,rfl⟩
        case measure=>(simp[intOf];try omega)
      . have HF:=Ab ((Aa HW).1 (by omega));go_wp2;go_roundw
        case rel=>exact⟨t,x,y,_,by omega,by go_num,rfl,rfl,Aa HF,rfl⟩
        case measure=>(simp[intOf];try omega)
    . have hd:lng bs k=(x,y):=Aa HE (L-t) x y (Aa HH) (by omega);rw[Aa hr]at hd;obtain⟨rfl,rfl⟩:rn=x/\rf=y:=by simpa using hd
      by_cases h0:0<t
      . have hxm2:rn=m:=by omega
        obtain⟨t,rfl⟩:∃t',t=t'+1:=⟨t-1,by omega⟩
        subst hxm2;go_wp2;go_ret2;exact⟨rfl,⟨k,VC _,(Aa HP1).drewN q⟩,Af (Aa HB1) q,Aa HK1⟩
      . obtain rfl:t=0:=by omega
        go_wp2;go_ret2;exact⟨rfl,⟨k,VC _,(Aa HP1).drewN q⟩,Af (Aa HB1) q,Aa HK1⟩
def tcs (t:Tk):List Value:= [.int .u8 (t.1:Int),.int .i64 t.2.1,.int .i64 t.2.2]
def tvs (l:List Tk):List Value:=l.flatMap tcs
def Toks (w:World)(b o:Nat)(l:List Tk):Prop:=∀j,j<l.length->w.cell? ⟨b,o+j*3,none⟩=some (.int .u8 ((l.getD j (0,0,0)).1:Int))/\w.cell? ⟨b,o+j*3+1,none⟩=some (.int .i64 (l.getD j (0,0,0)).2.1)/\w.cell? ⟨b,o+j*3+2,none⟩=some (.int .i64 (l.getD j (0,0,0)).2.2)
def TokIn (w:World)(a:Option Addr)(l:List Tk):Prop:=l= []\/∃b o,a=some ⟨b,o,none⟩/\b<w.heap.size/\Toks w b o l
theorem Tp (l:List Tk):(tvs l).length=l.length*3:=by
 induction l with
 |nil=>rfl
 |cons t r ih=>
  have:tvs (t::r)=tcs t++tvs r:=rfl
  rw[this,VB,ih,VJ];show 3+r.length*3=_
  omega
theorem Tq (l r:List Tk):tvs (l++r)=tvs l++tvs r:=by simp[tvs]
theorem Z36 (l:List Tk)(j:Nat)(hj:j<l.length):(tvs l)[j*3]? =some (.int .u8 ((l.getD j (0,0,0)).1:Int))/\(tvs l)[j*3+1]? =some (.int .i64 (l.getD j (0,0,0)).2.1)/\(tvs l)[j*3+2]? =some (.int .i64 (l.getD j (0,0,0)).2.2):=by
 induction l generalizing j with
 |nil=>simp at hj
 |cons t r ih=>
  have e:tvs (t::r)=tcs t++tvs r:=rfl
  match j with
  |0=>rw[e];exact⟨rfl,rfl,rfl⟩
  |j+1=>
   have hj':j<r.length:=by simpa using hj
   obtain⟨h1,h2,h3⟩:=ih j hj';have hl:(tcs t).length=3:=rfl;refine⟨?_, ?_, ?_⟩
   . rw[e,VS (by rw[hl];omega),hl,show (j+1)*3-3=j*3 by omega,h1];rfl
   . rw[e,VS (by rw[hl];omega),hl,show (j+1)*3+1-3=j*3+1 by omega,h2];rfl
   . rw[e,VS (by rw[hl];omega),hl,show (j+1)*3+2-3=j*3+2 by omega,h3];rfl
theorem TokIn.own {w:World}{B g n cap:Nat}{l:List Tk}(h:w.ownsRow B 244 3 (.slice (some ⟨g,0,none⟩) n cap) n (tvs l)):TokIn w (some ⟨g,0,none⟩) l:=by
 refine .inr ⟨g,0,rfl,(h.lt g rfl).2, ?_⟩;intro j hj;have hn:l.length=n:=by have:=h.1;rw[Tp]at this;omega
 obtain⟨h1,h2,h3⟩:=Z36 l j hj;refine⟨?_, ?_, ?_⟩
 . rw[WI,h.cellAt _ (by omega)];simp[List.getD,h1]
 . rw[WI,h.cellAt _ (by omega)];simp[List.getD,h2]
 . rw[WI,h.cellAt _ (by omega)];simp[List.getD,h3]
theorem Toks.below {w w':World}{B b o:Nat}{l:List Tk}(h:Toks w b o l)(hB:Below B w w')(hb:b<B):Toks w' b o l:=by
 intro j hj;obtain⟨h1,h2,h3⟩:=h j hj;exact⟨(hB.cell (p:=⟨b,_,none⟩) hb).trans h1,(hB.cell (p:=⟨b,_,none⟩) hb).trans h2,(hB.cell (p:=⟨b,_,none⟩) hb).trans h3⟩
theorem TokIn.below {w w':World}{B:Nat}{a:Option Addr}{l:List Tk}(h:TokIn w a l)(hB:Below B w w')(hb:w.heap.size<=B):TokIn w' a l:=by
 rcases h with h|⟨b,o,h1,h2,h3⟩
 . exact .inl h
 . exact .inr ⟨b,o,h1,VG h2 hB.size,h3.below hB (by omega)⟩
theorem TokIn.alloc {w:World}{a:Option Addr}{l:List Tk}(h:TokIn w a l)(x:Obj):TokIn (w.alloc x) a l:=
 h.below ((Below.refl w.heap.size w).alloc (VC _) x) (VC _)
theorem AC:(Tryz.prog.info? 244).map (fun i=>(i.zero,i.size,i.bytes))=some (some (.agg #[.int .u8 0,.int .i64 0,.int .i64 0]),3,24):=by kernel_rfl
theorem R1 (b:Nat)(s f:Int)(w:World)(m:Nat)(hm:max s 1=(m:Int)):
 Calls Tryz.prog 179 #[.agg #[.int .u8 (b:Int),.int .i64 s,.int .i64 f]] w fun e w'=>e=.returned (.int .i64 (m:Int))/\w.grownBy w' none:=by
 have hm':(if 1<s then s else 1)=(m:Int):=by split<;>omega
 have hm2:(if s<1 then 1 else s)=(m:Int):=by split<;>omega
 go_enter Tryz.func179,Tryz.ntmps179
 go_wp2;go_ret;exact⟨rfl,World.grownBy_alloc w _ none⟩
theorem Qu (a:Option Addr)(n cap:Nat)(w:World):
 Calls Tryz.prog 177 #[.slice a n cap] w fun e w'=>e=.returned (.pointer (some ⟨w.heap.size+1,0,none⟩))/\w'=(w.alloc (.map #[] 0)).alloc (.cells #[.slice a n cap,.map (some w.heap.size),.int .i64 0] 292):=by
 have hmm:= @run_makeMap Tryz.prog;go_enter Tryz.func177,Tryz.ntmps177
 go_wp2;go_ret;exact⟨rfl,rfl⟩
structure Snk (J:(Nat->Prop)->List It->World->Prop)(B ks kf kr:Nat)(cs cf br:Array Value)(all:List It):Prop where
 es:∀(args:Array Value) (w:World),(callFunc ks args).run Tryz.prog w=.ok (.enter ks args) w
 ef:∀(args:Array Value) (w:World),(callFunc kf args).run Tryz.prog w=.ok (.enter kf args) w
 er:∀(args:Array Value) (w:World),(callFunc kr args).run Tryz.prog w=.ok (.enter kr args) w
 grow:∀ {No No':Nat->Prop} {is:List It} {W W1:World},J No is W->Below W.heap.size W W1->(∀g,No' g->No g\/W.heap.size<=g)->J No' is W1
 sym:∀ {No:Nat->Prop} {is R:List It} {k:Nat} {W:World},is++It.sym k::R=all->J No is W->(∀g,W.heap.size<=g->¬No g)->Calls Tryz.prog ks (#[.int .i64 (k:Int)]++cs) W fun e W'=>e=.returned (.tuple #[])/\J No (is++ [It.sym k]) W'/\Below B W W'/\Kp No W W'
 far:∀ {No:Nat->Prop} {is R:List It} {k:Nat} {W:World},is++It.far k::R=all->J No is W->(∀g,W.heap.size<=g->¬No g)->Calls Tryz.prog kf (#[.int .i64 (k:Int)]++cf) W fun e W'=>e=.returned (.tuple #[])/\J No (is++ [It.far k]) W'/\Below B W W'/\Kp No W W'
 rest:∀ {No:Nat->Prop} {is R:List It} {n s:Nat} {W:World},is++It.rest n s::R=all->J No is W->(∀g,W.heap.size<=g->¬No g)->Calls Tryz.prog kr (br++ #[.int .i64 (n:Int),.int .i64 (s:Int)]) W fun e W'=>e=.returned (.tuple #[])/\J No (is++ [It.rest n s]) W'/\Below B W W'/\Kp No W W'
theorem Kp.cell {No:Nat->Prop}{w w':World}{g j:Nat}{v:Value}(h:Kp No w w')(hg:g<w.heap.size)(hn:No g)(hv:w.cell? ⟨g,j,none⟩=some v):w'.cell? ⟨g,j,none⟩=some v:=by
 rw[World.cell?_of_block (w:=w) (a:=⟨g,j,none⟩) (h g hg hn)];exact hv
theorem Z0i {w w':World}{a:Option Addr}{l:List Tk}{k:Nat}(h:TokIn w a l)(hg:∀b o,a=some ⟨b,o,none⟩->b<w.heap.size->w'.heap[b]? =w.heap[b]?)(hk:k<l.length){tb:Nat}{ts tf:Int}(ht:l.getD k (0,0,0)=(tb,ts,tf)):
 ∃b o,a=some ⟨b,o,none⟩/\b<w.heap.size/\w'.cell? ⟨b,o+k*3,none⟩=some (.int .u8 (tb:Int))/\w'.cell? ⟨b,o+k*3+1,none⟩=some (.int .i64 ts)/\w'.cell? ⟨b,o+k*3+2,none⟩=some (.int .i64 tf):=by
 rcases h with rfl|⟨b,o,rfl,hb,hT⟩
 . simp at hk
 . obtain⟨h1,h2,h3⟩:=hT k hk;rw[ht]at h1 h2 h3;have e:=hg b o rfl hb;exact⟨b,o,rfl,hb,(World.cell?_of_block (w:=w) (a:=⟨b,_,none⟩) e).trans h1,(World.cell?_of_block (w:=w) (a:=⟨b,_,none⟩) e).trans h2,(World.cell?_of_block (w:=w) (a:=⟨b,_,none⟩) e).trans h3⟩
theorem KC (ts:List Tk)(k:Nat)(hk:k<ts.length):Of (ts.take (k+1))=Of (ts.take k)++Nt (ts.getD k (0,0,0)):=by
 have:ts.take (k+1)=ts.take k++ [ts.getD k (0,0,0)]:=by
  rw[ZA];simp[List.getD,hk]
 rw[this];simp[Of]
theorem O2 (ts:List Tk)(k:Nat)(hk:k<ts.length):itsOf ts=Of (ts.take k)++(Nt (ts.getD k (0,0,0))++(Of (ts.drop (k+1))++ [.sym 256])):=by
 have e:ts=ts.take k++(ts.getD k (0,0,0)::ts.drop (k+1)):=by rw[<-Z2a hk,YV]
 have h2:Of ts=Of (ts.take k)++(Nt (ts.getD k (0,0,0))++Of (ts.drop (k+1))):=by
  have h3:=congrArg Of e;rw[h3];simp[Of]
 unfold itsOf;rw[h2];simp
theorem Y3 (J:(Nat->Prop)->List It->World->Prop)(No:Nat->Prop)(B ks kf kr:Nat)(cs cf br:Array Value)(a:Option Addr)(len cap:Nat)(ts:List Tk)(w:World)(hK:Snk J B ks kf kr cs cf br (itsOf ts))(hl:ts.length=len)(hlen:len<=3000)(hV:∀t∈ts,VT t)(hT:TokIn w a ts)(hTn:∀b o,a=some ⟨b,o,none⟩->ts≠ []->No b)(hB:B<=w.heap.size)(hJ:J No [] w)(hNo:∀g,w.heap.size<=g->¬No g):
 Calls Tryz.prog 181 #[.slice a len cap,.agg #[.func (.func ks) #[] cs,.func (.func kf) #[] cf,.func (.func kr) br #[]]] w fun e w'=>e=.returned (.tuple #[])/\J No (itsOf ts) w'/\Below B w w'/\Kp No w w':=by
 have es:=hK.es;have ef:=hK.ef;have er:=hK.er;have HJ:=Ab hJ;have HT:=Ab hT;have HTn:=Ab hTn;have HK:=Ab hK;have HL:=Ab hl;have HNo:=Ab hNo;have HV:=Ab hV;clear hJ hT hK hTn hl hNo hV;obtain⟨No1,hNo1⟩:∃No1:Nat->Prop,No1=fun g=>No g\/g=w.heap.size:=⟨_,rfl⟩
 have HN1:=Ab hNo1;clear hNo1;go_enter Tryz.func181,Tryz.ntmps181
 go_wp2;go_loopw [11] (fun i wr=>∃k:Nat,k<=len/\i=.int .i64 k/\Hid (J No1 (Of (ts.take k)) wr/\Below B w wr/\Kp No1 (w.alloc (.cells #[.func (.func ks) #[] cs,.func (.func kf) #[] cf,.func (.func kr) br #[]] 253)) wr/\w.heap.size<wr.heap.size)) (fun i _=>len-(intOf i).toNat)
 case atStart=>
  refine⟨0,VK _,rfl,Ab ⟨?_,(Below.refl B w).alloc hB _,Kp.refl _ _,by simp⟩⟩
  have:=(Aa HK).grow (No':=No1) (Aa HJ) ((Below.refl w.heap.size w).alloc (VC _) (.cells #[.func (.func ks) #[] cs,.func (.func kf) #[] cf,.func (.func kr) br #[]] 253)) (fun g e=>by
   rw[Aa HN1]at e
   rcases e with e|e
   . exact .inl e
   . exact .inr (by omega))
  simpa[Of]using this
 case round=>
  obtain⟨k,hk,rfl,hst⟩:=hrel;obtain⟨hj,hbel,hkp,hsz⟩:=Aa hst
  have hN1w:∀g,wr.heap.size<=g->¬No1 g:=by
   intro g hg e;rw[Aa HN1]at e
   rcases e with e|e
   . exact Aa HNo g (by omega) e
   . omega
  have hbxN:No1 w.heap.size:=by rw[Aa HN1];exact .inr rfl
  have x0:wr.cell? ⟨w.heap.size,0,none⟩=some (.func (.func ks) #[] cs):=hkp.cell (by simp) hbxN (by simp);have x1:wr.cell? ⟨w.heap.size,1,none⟩=some (.func (.func kf) #[] cf):=hkp.cell (by simp) hbxN (by simp);have x2:wr.cell? ⟨w.heap.size,2,none⟩=some (.func (.func kr) br #[]):=hkp.cell (by simp) hbxN (by simp);have HBN:=Ab hbxN
  by_cases hlt:k<len
  . obtain⟨tb,tS,tF,ht⟩:∃tb tS tF,ts.getD k (0,0,0)=(tb,tS,tF):=⟨_,_,_,rfl⟩
    have hkl:k<ts.length:=by rw[Aa HL];exact hlt
    obtain⟨b,o,ea,hbb,c1,c2,c3⟩:=Z0i (w':=wr) (Aa HT) (fun b o e hb=>by
     have h1:=hkp b (by simp;omega) (by rw[Aa HN1];exact .inl (Aa HTn b o e (fun h=>by rw[h]at hkl;simp at hkl)));rw[h1];exact Below.heap_alloc w _ b hb) hkl ht
    have hvt:=Aa HV (ts.getD k (0,0,0)) (by
     have:ts.getD k (0,0,0)=ts[k]:=by simp[List.getD,hkl]
     rw[this];exact WK hkl)
    rw[ht]at hvt;have hsp:=O2 ts k hkl;have hstp:=KC ts k hkl;rw[ht]at hsp hstp;obtain⟨R,hR⟩:∃R,Of (ts.drop (k+1))++ [It.sym 256]=R:=⟨_,rfl⟩
    rw[hR]at hsp;obtain⟨IS,hIS⟩:∃IS,Of (ts.take k)=IS:=⟨_,rfl⟩
    rw[hIS]at hsp hstp hj;obtain⟨No2,hNo2⟩:∃No2:Nat->Prop,No2=fun g=>No1 g\/g=wr.heap.size:=⟨_,rfl⟩
    have hJ2:∀X:Obj,J No2 IS (wr.alloc X):=fun X=>(Aa HK).grow hj ((Below.refl wr.heap.size wr).alloc (VC _) X) (fun g e=>by
     rw[hNo2]at e
     rcases e with e|e
     . exact .inl e
     . exact .inr (by omega))
    have hN2:∀W:World,wr.heap.size<W.heap.size->∀g,W.heap.size<=g->¬No2 g:=by
     intro W hW g hg e;rw[hNo2]at e
     rcases e with e|e
     . exact hN1w g (by omega) e
     . omega
    have hback:∀(is:List It) (W:World),J No2 is W->J No1 is W:=fun _ _ hW=>(Aa HK).grow hW (Below.refl _ _) (fun g e=>.inl (by rw[hNo2];exact .inl e))
    have hk12:∀(X:Obj) (W:World),Below B (wr.alloc X) W->Kp No2 (wr.alloc X) W->Below B w W/\Kp No1 (w.alloc (.cells #[.func (.func ks) #[] cs,.func (.func kf) #[] cf,.func (.func kr) br #[]] 253)) W/\w.heap.size<W.heap.size:=by
     intro X W hb2 hk2;have hz:=hb2.size;simp only[World.size_alloc]at hz;refine⟨(hbel.alloc (by have:=hbel.size;omega) X).trans hb2, ?_,by omega⟩;refine(Kp.trans hkp ?_ (by simp;omega));intro g hg hn;rw[hk2 g (by simp;omega) (by rw[hNo2];exact .inl hn)];exact Below.heap_alloc wr X g hg
    have hn2a:No2 wr.heap.size:=by rw[hNo2];exact .inr rfl
    have hn2b:No2 w.heap.size:=by rw[hNo2];exact .inl hbxN
    have HSP:=Ab hsp;have HSTP:=Ab hstp;have HJ2:=Ab hJ2;have HN2:=Ab hN2;have HBK:=Ab hback;have HK12:=Ab hk12;have HA:=Ab hn2a;have HB2:=Ab hn2b;subst ea;have hbwr:b<wr.heap.size:=by omega
    clear hst hj hbel hkp hN1w hbxN ht hsp hstp hR hIS hNo2 hJ2 hN2 hback hk12 hn2a hn2b hkl hbb;obtain⟨v1,v2⟩:=hvt;simp only at v1 v2
    by_cases h0:tS=0
    . subst h0;have hit:Nt (tb,0,tF)= [.sym tb]:=by unfold Nt;rw[if_pos rfl]
      rw[hit]at HSP HSTP;have hz0:= @World.size_alloc;go_wp2_with fail
      refine((Aa HK).sym (No:=No2) (is:=IS) (R:=R) (k:=tb) (Aa HSP).symm (Aa HJ2 _) (Aa HN2 _ (by simp))).mono ?_;rintro e w2 ⟨rfl,hJ3,hB3,hK3⟩;have HJ3:=Ab (Aa HBK _ _ hJ3);have H3:=Ab (Aa HK12 _ _ hB3 hK3);clear hJ3 hB3 hK3;go_wp2;go_roundw
      case rel=>exact⟨k+1,by omega,by go_num,Ab ⟨by rw[Aa HSTP];exact Aa HJ3,Aa H3⟩⟩
      case measure=>simp[intOf];omega
    . have v3:3<=tS/\tS<=258/\1<=tF/\tF<=3000:=by rcases v2 with h|h;exact absurd h h0;exact h
      obtain⟨n,rfl⟩:=VW (show 0<=tS by omega);obtain⟨d,rfl⟩:=VW (show 0<=tF by omega);have hb0:((n:Int)==0)=false:=by rw[beq_eq_false_iff_ne];omega
      have hit:Nt (tb,(n:Int),(d:Int))= [.sym (Cb n).1,.rest (Cb n).2.1 (Cb n).2.2,.far (Ie d).1,.rest (Ie d).2.1 (Ie d).2.2]:=by unfold Nt;rw[if_neg h0];rfl
      rw[hit]at HSP HSTP;have HHM:=Ab (fun W=>P5 n W (by omega) (by omega));have HHF:=Ab (fun W=>DN d W (by omega) (by omega));generalize (Cb n).1=M at*;generalize (Cb n).2.1=MR at*;generalize (Cb n).2.2=MS at*;generalize (Ie d).1=F at*;generalize (Ie d).2.1=FR at*;generalize (Ie d).2.2=FZ at*;go_wp2_with fail
      refine(Aa HHM _).mono ?_;rintro e w2 ⟨rfl,q,rfl⟩;go_wp2_with fail
      refine((Aa HK).sym (No:=No2) (is:=IS) (k:=M) (R:=_) (by rw[Aa HSP];rfl) ((Aa HK).grow (Aa HJ2 _) (Af (Below.refl _ _) q) (fun g e=>.inl e)) (Aa HN2 _ (by simp))).mono ?_;rintro e w2 ⟨rfl,hJ3,hB3,hK3⟩;have hz2:wr.heap.size<w2.heap.size:=by have:=hB3.size;simp at this;omega
      have y0:w2.cell? ⟨w.heap.size,1,none⟩=some (.func (.func kf) #[] cf):=hK3.cell (by simp;omega) (Aa HB2) (by simpa using by go_simp);have y1:w2.cell? ⟨w.heap.size,2,none⟩=some (.func (.func kr) br #[]):=hK3.cell (by simp;omega) (Aa HB2) (by simpa using by go_simp);have y2:w2.cell? ⟨wr.heap.size,2,none⟩=some (.int .i64 (d:Int)):=hK3.cell (by simp) (Aa HA) (by simp);have HB3:=Ab hB3;have HK3:=Ab hK3;have HJ3:=Ab hJ3;clear hB3 hK3 hJ3 x0 x1 x2 c1 c2 c3;go_wp2_with fail
      refine((Aa HK).rest (No:=No2) (is:=IS++ [.sym M]) (n:=MR) (s:=MS) (R:=.far F::.rest FR FZ::R) (by rw[Aa HSP];simp) (Aa HJ3) (Aa HN2 _ hz2)).mono ?_;rintro e w3 ⟨rfl,hJ4,hB4,hK4⟩;have hz3:wr.heap.size<w3.heap.size:=by have:=hB4.size;omega
      have z0:w3.cell? ⟨w.heap.size,1,none⟩=some (.func (.func kf) #[] cf):=hK4.cell (by omega) (Aa HB2) y0;have z1:w3.cell? ⟨w.heap.size,2,none⟩=some (.func (.func kr) br #[]):=hK4.cell (by omega) (Aa HB2) y1;have z2:w3.cell? ⟨wr.heap.size,2,none⟩=some (.int .i64 (d:Int)):=hK4.cell (by omega) (Aa HA) y2;have HB4:=Ab hB4;have HK4:=Ab hK4;have HJ4:=Ab hJ4;clear hB4 hK4 hJ4 y0 y1 y2;go_wp2_with fail
      refine(Aa HHF _).mono ?_;rintro e w4 ⟨rfl,q2,rfl⟩;go_wp2_with fail
      refine((Aa HK).far (No:=No2) (is:=IS++ [.sym M]++ [.rest MR MS]) (k:=F) (R:=.rest FR FZ::R) (by rw[Aa HSP];simp) ((Aa HK).grow (Aa HJ4) (Af (Below.refl _ _) q2) (fun g e=>.inl e)) (Aa HN2 _ hz3)).mono ?_;rintro e w5 ⟨rfl,hJ5,hB5,hK5⟩;have hz5:wr.heap.size<w5.heap.size:=by have:=hB5.size;exact VG hz3 this
      have x5:w5.cell? ⟨w.heap.size,2,none⟩=some (.func (.func kr) br #[]):=hK5.cell (Nat.lt_trans hsz hz3) (Aa HB2) z1;have HB5:=Ab hB5;have HK5:=Ab hK5;have HJ5:=Ab hJ5;clear hB5 hK5 hJ5 z0 z1 z2;go_wp2_with fail
      refine((Aa HK).rest (No:=No2) (is:=IS++ [.sym M]++ [.rest MR MS]++ [.far F]) (n:=FR) (s:=FZ) (R:=R) (by rw[Aa HSP];simp) (Aa HJ5) (Aa HN2 _ hz5)).mono ?_;rintro e w6 ⟨rfl,hJ6,hB6,hK6⟩;have HJ6:=Ab (Aa HBK _ _ hJ6);have H6:=Ab (Aa HK12 _ _ ((Af (Below.refl B _) q).trans ((Aa HB3).trans ((Aa HB4).trans ((Af (Below.refl B _) q2).trans ((Aa HB5).trans hB6))))) (Kp.trans (b:=w2) (fun g hg hn=>Aa HK3 g hg hn) (Kp.trans (b:=w3) (Aa HK4) (Kp.trans (b:=w5) (fun g hg hn=>Aa HK5 g hg hn) hK6 (Aa HB5).size) (Aa HB4).size) (by have:=(Aa HB3).size;exact this)));clear hJ6 hB6 hK6 x5;go_wp2;go_roundw
      case rel=>exact⟨k+1,by omega,by go_num,Ab ⟨by rw[Aa HSTP];simpa using Aa HJ6,Aa H6⟩⟩
      case measure=>simp[intOf];omega
  . obtain rfl:k=len:=by omega
    have HS:=Ab (show J No1 (Of ts) wr/\Below B w wr/\Kp No1 (w.alloc (.cells #[.func (.func ks) #[] cs,.func (.func kf) #[] cf,.func (.func kr) br #[]] 253)) wr from ⟨by rw[VP (by rw[Aa HL];exact VC _)]at hj;exact hj,hbel,hkp⟩);have HN1w:=Ab hN1w;clear hst hj hbel hkp hN1w hbxN;go_wp2_with fail
    refine((Aa HK).sym (No:=No1) (is:=Of ts) (k:=256) (R:= []) rfl (Aa HS).1 (Aa HN1w)).mono ?_;rintro e w2 ⟨rfl,hJ3,hB3,hK3⟩
    have HF:Hid (J No (itsOf ts) w2/\Below B w w2/\Kp No w w2):=by
     obtain⟨s1,s2,s3⟩:=Aa HS;refine⟨(Aa HK).grow hJ3 (Below.refl _ _) (fun g e=>.inl (by rw[Aa HN1];exact .inl e)),s2.trans hB3, ?_⟩;intro g hg hn;have hn1:No1 g:=by rw[Aa HN1];exact .inl hn
     exact(hK3 g (by omega) hn1).trans ((s3 g (by simp;omega) hn1).trans (Below.heap_alloc w _ g hg))
    clear hJ3 hB3 hK3 x0 x1 x2;go_wp2;go_end0
    exact⟨rfl,Aa HF⟩
end Go.Proofs.YtleocpdblhbimaaGreatDoor
namespace Go.Proofs.YtleocpdblhbimaaGreatDoor
open Go.RowKit
set_option linter.unusedVariables false
def Yx (s:Int):Bool:=decide (0<=s/\s<=16)
def DW (n s:Int):Bool:=decide (0<=s/\s<=16/\0<=n/\n<2^s.toNat)
theorem CB {s:Int}(h:Yx s=true):0<=s/\s<=16:=of_decide_eq_true h
theorem L2 {s:Int}(h:Yx s=false):¬(0<=s/\s<=16):=of_decide_eq_false h
theorem Ng (s:Int)(w:World):
 Calls Tryz.prog 274 #[.int .i64 s] w fun e w'=>e=.returned (.bool (Yx s))/\w'=w:=by
 by_cases h1:0<=s
 . by_cases h2:s<=16
   . have hd:Yx s=true:=decide_eq_true ⟨h1,h2⟩;rw[hd];clear hd;go_enter Tryz.func274,Tryz.ntmps274
     go_wp2;go_ret;exact⟨by simp,rfl⟩
   . have hd:Yx s=false:=decide_eq_false (by omega);rw[hd];clear hd;go_enter Tryz.func274,Tryz.ntmps274
     go_wp2;go_ret;exact⟨by simp,rfl⟩
 . have hd:Yx s=false:=decide_eq_false (by omega);rw[hd];clear hd;go_enter Tryz.func274,Tryz.ntmps274
   go_wp2;go_ret;exact⟨rfl,rfl⟩
theorem OD {s:Int}(h:s<=16):wrap64 (2^s.toNat)=2^s.toNat:=by
 have h1:s.toNat<=16:=by omega
 have h2:(2:Int)^s.toNat<=2^16:=by
  have:=VU (n:=2) (by decide) h1
  exact_mod_cast this
 have h3:(0:Int)<=2^s.toNat:=by
  have:=VK (2^s.toNat)
  exact_mod_cast this
 unfold wrap64;omega
theorem RM (n s:Int)(w:World):
 Calls Tryz.prog 256 #[.int .i64 n,.int .i64 s] w fun e w'=>e=.returned (.bool (DW n s))/\w'=w:=by
 by_cases h1:Yx s=true
 . obtain⟨h0,h2⟩:=CB h1
   by_cases h3:0<=n
   . go_enter Tryz.func256,Tryz.ntmps256
     go_wp2_with (go_at_call 274;refine(Ng _ _).mono ?_;rintro e w' ⟨rfl,rfl⟩)
     go_ret;refine⟨De ?_,rfl⟩;rw[OD h2];simp[DW,h0,h2,h3]
   . have hd:DW n s=false:=decide_eq_false (by omega);rw[hd];clear hd;go_enter Tryz.func256,Tryz.ntmps256
     go_wp2_with (go_at_call 274;refine(Ng _ _).mono ?_;rintro e w' ⟨rfl,rfl⟩)
     go_ret;exact⟨rfl,rfl⟩
 . have h4:Yx s=false:=by simpa using h1
   have hd:DW n s=false:=decide_eq_false (by have:=L2 h4;omega);rw[hd];clear hd h1;go_enter Tryz.func256,Tryz.ntmps256
   go_wp2_with (go_at_call 274;refine(Ng _ _).mono ?_;rintro e w' ⟨rfl,rfl⟩)
   go_ret;exact⟨rfl,rfl⟩
theorem Tr (n:Nat){k:Nat}(h:k<16):Ic n k<32768:=VG (OR n k) (VU (j:=15) (by decide) (by omega))
theorem OQ (n s:Nat)(w:World)(h:DW n s=true)(hs:s<=16)(hn:n<65536):
 Calls Tryz.prog 237 #[.int .i64 n,.int .i64 s] w fun e w'=>e=.returned (.tuple #[.int .i64 (Ic n s:Nat),.int .i64 0])/\w'=w:=by
 go_enter Tryz.func237,Tryz.ntmps237
 go_wp2_with (go_at_call 256;refine(RM _ _ _).mono ?_;rintro e w' ⟨rfl,rfl⟩)
 go_loop [6,13] (fun t i=>∃k:Nat,k<=s/\i=.int .i64 k/\t=.int .i64 (Ic n k:Nat)) (fun _ i=>s-(intOf i).toNat)
 case atStart=>exact⟨0,VK _,rfl,rfl⟩
 case round=>
  obtain⟨k,hk,rfl,rfl⟩:=hrel
  by_cases hlt:k<s
  . have hb:=Tr n (k:=k) (by omega);have hst:=GD (Ic n k) n k (by omega) (by omega);have H:Hid (Ic n (k+1)=Ic n k*2|||n/2^k%2):=rfl;have HS:=Ab hst;clear hst;generalize Ic n k=m at*;go_wp2;go_round
    case rel=>exact⟨k+1,by omega,by go_num,by rw[H.out,Aa HS]⟩
    case measure=>simp[intOf];omega
  . have e:k=s:=by omega
    subst e;go_wp2;go_ret2;exact⟨rfl,rfl⟩
end Go.Proofs.YtleocpdblhbimaaGreatDoor
namespace Go.Proofs.YtleocpdblhbimaaGreatDoor
open Go.RowKit
set_option linter.unusedVariables false
set_option maxRecDepth 100000
theorem Zr:∀n c,Ah (Ic c n) n=hb c n:=by
 intro n c;apply XK
 . rw[Ae,Az]
 . intro i h1 h2;rw[Ae]at h1;have e1:(Ah (Ic c n) n).getD i false=(Ah (Ic c n) n)[i]'(by rw[Ae];exact h1):=by simp[List.getD,Ae,h1]
   rw[<-e1,Iq,decide_eq_true h1,ZN,Pv,decide_eq_true h1,ZN];exact(hb_at n c i h1 h2).symm
where
 hb_at:∀n c i (h:i<n) (h2:i<(hb c n).length),(hb c n)[i]=c.testBit (n-1-i)
 |0,c,i,h,_=>by omega
 |n+1,c,i,h,h2=>by
  by_cases e:i=n
  . subst e
    have:(hb c (i+1))[i]'h2=decide (c%2=1):=by
     have hl:=Az i (c/2);simp only[hb];rw[YX (by omega)];simp[hl]
    rw[this];rw[show i+1-1-i=0 by omega,Nat.testBit_zero]
  . have hl:=Az n (c/2)
    have:(hb c (n+1))[i]'h2=(hb (c/2) n)[i]'(by omega):=by
     simp only[hb];rw[List.getElem_append_left (by omega)]
    rw[this,hb_at n (c/2) i (by omega) (by omega),show n+1-1-i=(n-1-i)+1 by omega,Nat.testBit_succ]
end Go.Proofs.YtleocpdblhbimaaGreatDoor
