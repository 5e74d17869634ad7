import Derived.Test.YtieianhejdcgdaaGreatDoorQ29
import Derived.Shelf.Abstract
import Derived.Test.YtieianhejdcgdaaGreatDoorQ20
set_option maxHeartbeats 8000000
namespace Go.Proofs.YtieianhejdcgdaaGreatDoor
open Go.RowKit
set_option linter.unusedVariables false
set_option maxRecDepth 100000
structure Snk (J:(Nat->Prop)->List It->World->Prop)(B ks kf kr:Nat)(cs cf br:Array Value)(all:List It):Prop where
 es:∀(args:Array Value) (w:World),(callFunc ks args).run Tryz.prog w=.ok (.enter ks args) w
 ef:∀(args:Array Value) (w:World),(callFunc kf args).run Tryz.prog w=.ok (.enter kf args) w
 er:∀(args:Array Value) (w:World),(callFunc kr args).run Tryz.prog w=.ok (.enter kr args) w
 grow:∀ {No No':Nat->Prop} {is:List It} {W W1:World},J No is W->Below W.heap.size W W1->(∀g,No' g->No g\/W.heap.size<=g)->J No' is W1
 sym:∀ {No:Nat->Prop} {is R:List It} {k:Nat} {W:World},is++It.sym k::R=all->J No is W->(∀g,W.heap.size<=g->¬No g)->Calls Tryz.prog ks (#[.int .i64 (k:Int)]++cs) W fun e W'=>e=.returned (.tuple #[])/\J No (is++ [It.sym k]) W'/\Below B W W'/\Kp No W W'
 far:∀ {No:Nat->Prop} {is R:List It} {k:Nat} {W:World},is++It.far k::R=all->J No is W->(∀g,W.heap.size<=g->¬No g)->Calls Tryz.prog kf (#[.int .i64 (k:Int)]++cf) W fun e W'=>e=.returned (.tuple #[])/\J No (is++ [It.far k]) W'/\Below B W W'/\Kp No W W'
 rest:∀ {No:Nat->Prop} {is R:List It} {n s:Nat} {W:World},is++It.rest n s::R=all->J No is W->(∀g,W.heap.size<=g->¬No g)->Calls Tryz.prog kr (br++ #[.int .i64 (n:Int),.int .i64 (s:Int)]) W fun e W'=>e=.returned (.tuple #[])/\J No (is++ [It.rest n s]) W'/\Below B W W'/\Kp No W W'
theorem Kp.cell {No:Nat->Prop}{w w':World}{g j:Nat}{v:Value}(h:Kp No w w')(hg:g<w.heap.size)(hn:No g)(hv:w.cell? ⟨g,j,none⟩=some v):w'.cell? ⟨g,j,none⟩=some v:=by
 rw[World.cell?_of_block (w:=w) (a:=⟨g,j,none⟩) (h g hg hn)];exact hv
theorem Z1v {w w':World}{a:Option Addr}{l:List Tk}{k:Nat}(h:TokIn w a l)(hg:∀b o,a=some ⟨b,o,none⟩->b<w.heap.size->w'.heap[b]? =w.heap[b]?)(hk:k<l.length){tb:Nat}{ts tf:Int}(ht:l.getD k (0,0,0)=(tb,ts,tf)):
 ∃b o,a=some ⟨b,o,none⟩/\b<w.heap.size/\w'.cell? ⟨b,o+k*3,none⟩=some (.int .u8 (tb:Int))/\w'.cell? ⟨b,o+k*3+1,none⟩=some (.int .i64 ts)/\w'.cell? ⟨b,o+k*3+2,none⟩=some (.int .i64 tf):=by
 rcases h with rfl|⟨b,o,rfl,hb,hT⟩
 . simp at hk
 . obtain⟨h1,h2,h3⟩:=hT k hk;rw[ht]at h1 h2 h3;have e:=hg b o rfl hb;exact⟨b,o,rfl,hb,(World.cell?_of_block (w:=w) (a:=⟨b,_,none⟩) e).trans h1,(World.cell?_of_block (w:=w) (a:=⟨b,_,none⟩) e).trans h2,(World.cell?_of_block (w:=w) (a:=⟨b,_,none⟩) e).trans h3⟩
theorem MI (ts:List Tk)(k:Nat)(hk:k<ts.length):Oj (ts.take (k+1))=Oj (ts.take k)++Nu (ts.getD k (0,0,0)):=by
 have:ts.take (k+1)=ts.take k++ [ts.getD k (0,0,0)]:=by
  rw[XH];simp[List.getD,hk]
 rw[this];simp[Oj]
theorem T6 (ts:List Tk)(k:Nat)(hk:k<ts.length):itsOf ts=Oj (ts.take k)++(Nu (ts.getD k (0,0,0))++(Oj (ts.drop (k+1))++ [.sym 256])):=by
 have e:ts=ts.take k++(ts.getD k (0,0,0)::ts.drop (k+1)):=by rw[<-Z3r hk,XN]
 have h2:Oj ts=Oj (ts.take k)++(Nu (ts.getD k (0,0,0))++Oj (ts.drop (k+1))):=by
  have h3:=congrArg Oj e;rw[h3];simp[Oj]
 unfold itsOf;rw[h2];simp
theorem AK (J:(Nat->Prop)->List It->World->Prop)(No:Nat->Prop)(B ks kf kr:Nat)(cs cf br:Array Value)(a:Option Addr)(len cap:Nat)(ts:List Tk)(w:World)(hK:Snk J B ks kf kr cs cf br (itsOf ts))(hl:ts.length=len)(hlen:len<=3000)(hV:∀t∈ts,VT t)(hT:TokIn w a ts)(hTn:∀b o,a=some ⟨b,o,none⟩->ts≠ []->No b)(hB:B<=w.heap.size)(hJ:J No [] w)(hNo:∀g,w.heap.size<=g->¬No g):
 Calls Tryz.prog 189 #[.slice a len cap,.agg #[.func (.func ks) #[] cs,.func (.func kf) #[] cf,.func (.func kr) br #[]]] w fun e w'=>e=.returned (.tuple #[])/\J No (itsOf ts) w'/\Below B w w'/\Kp No w w':=by
 have es:=hK.es;have ef:=hK.ef;have er:=hK.er;have HJ:=Ab hJ;have HT:=Ab hT;have HTn:=Ab hTn;have HK:=Ab hK;have HL:=Ab hl;have HNo:=Ab hNo;have HV:=Ab hV;clear hJ hT hK hTn hl hNo hV;obtain⟨No1,hNo1⟩:∃No1:Nat->Prop,No1=fun g=>No g\/g=w.heap.size:=⟨_,rfl⟩
 have HN1:=Ab hNo1;clear hNo1;go_enter Tryz.func189,Tryz.ntmps189
 go_wp2;go_loopw [11] (fun i wr=>∃k:Nat,k<=len/\i=.int .i64 k/\Hid (J No1 (Oj (ts.take k)) wr/\Below B w wr/\Kp No1 (w.alloc (.cells #[.func (.func ks) #[] cs,.func (.func kf) #[] cf,.func (.func kr) br #[]] 257)) wr/\w.heap.size<wr.heap.size)) (fun i _=>len-(intOf i).toNat)
 case atStart=>
  refine⟨0,VM _,rfl,Ab ⟨?_,(Below.refl B w).alloc hB _,Kp.refl _ _,by simp⟩⟩
  have:=(Aa HK).grow (No':=No1) (Aa HJ) ((Below.refl w.heap.size w).alloc (VC _) (.cells #[.func (.func ks) #[] cs,.func (.func kf) #[] cf,.func (.func kr) br #[]] 257)) (fun g e=>by
   rw[Aa HN1]at e
   rcases e with e|e
   . exact .inl e
   . exact .inr (by omega))
  simpa[Oj]using this
 case round=>
  obtain⟨k,hk,rfl,hst⟩:=hrel;obtain⟨hj,hbel,hkp,hsz⟩:=Aa hst
  have hN1w:∀g,wr.heap.size<=g->¬No1 g:=by
   intro g hg e;rw[Aa HN1]at e
   rcases e with e|e
   . exact Aa HNo g (by omega) e
   . omega
  have hbxN:No1 w.heap.size:=by rw[Aa HN1];exact .inr rfl
  have x0:wr.cell? ⟨w.heap.size,0,none⟩=some (.func (.func ks) #[] cs):=hkp.cell (by simp) hbxN (by simp);have x1:wr.cell? ⟨w.heap.size,1,none⟩=some (.func (.func kf) #[] cf):=hkp.cell (by simp) hbxN (by simp);have x2:wr.cell? ⟨w.heap.size,2,none⟩=some (.func (.func kr) br #[]):=hkp.cell (by simp) hbxN (by simp);have HBN:=Ab hbxN
  by_cases hlt:k<len
  . obtain⟨tb,tS,tF,ht⟩:∃tb tS tF,ts.getD k (0,0,0)=(tb,tS,tF):=⟨_,_,_,rfl⟩
    have hkl:k<ts.length:=by rw[Aa HL];exact hlt
    obtain⟨b,o,ea,hbb,c1,c2,c3⟩:=Z1v (w':=wr) (Aa HT) (fun b o e hb=>by
     have h1:=hkp b (by simp;omega) (by rw[Aa HN1];exact .inl (Aa HTn b o e (fun h=>by rw[h]at hkl;simp at hkl)));rw[h1];exact Below.heap_alloc w _ b hb) hkl ht
    have hvt:=Aa HV (ts.getD k (0,0,0)) (by
     have:ts.getD k (0,0,0)=ts[k]:=by simp[List.getD,hkl]
     rw[this];exact WR hkl)
    rw[ht]at hvt;have hsp:=T6 ts k hkl;have hstp:=MI ts k hkl;rw[ht]at hsp hstp;obtain⟨R,hR⟩:∃R,Oj (ts.drop (k+1))++ [It.sym 256]=R:=⟨_,rfl⟩
    rw[hR]at hsp;obtain⟨IS,hIS⟩:∃IS,Oj (ts.take k)=IS:=⟨_,rfl⟩
    rw[hIS]at hsp hstp hj;obtain⟨No2,hNo2⟩:∃No2:Nat->Prop,No2=fun g=>No1 g\/g=wr.heap.size:=⟨_,rfl⟩
    have hJ2:∀X:Obj,J No2 IS (wr.alloc X):=fun X=>(Aa HK).grow hj ((Below.refl wr.heap.size wr).alloc (VC _) X) (fun g e=>by
     rw[hNo2]at e
     rcases e with e|e
     . exact .inl e
     . exact .inr (by omega))
    have hN2:∀W:World,wr.heap.size<W.heap.size->∀g,W.heap.size<=g->¬No2 g:=by
     intro W hW g hg e;rw[hNo2]at e
     rcases e with e|e
     . exact hN1w g (by omega) e
     . omega
    have hback:∀(is:List It) (W:World),J No2 is W->J No1 is W:=fun _ _ hW=>(Aa HK).grow hW (Below.refl _ _) (fun g e=>.inl (by rw[hNo2];exact .inl e))
    have hk12:∀(X:Obj) (W:World),Below B (wr.alloc X) W->Kp No2 (wr.alloc X) W->Below B w W/\Kp No1 (w.alloc (.cells #[.func (.func ks) #[] cs,.func (.func kf) #[] cf,.func (.func kr) br #[]] 257)) W/\w.heap.size<W.heap.size:=by
     intro X W hb2 hk2;have hz:=hb2.size;simp only[World.size_alloc]at hz;refine⟨(hbel.alloc (by have:=hbel.size;omega) X).trans hb2, ?_,by omega⟩;refine(Kp.trans hkp ?_ (by simp;omega));intro g hg hn;rw[hk2 g (by simp;omega) (by rw[hNo2];exact .inl hn)];exact Below.heap_alloc wr X g hg
    have hn2a:No2 wr.heap.size:=by rw[hNo2];exact .inr rfl
    have hn2b:No2 w.heap.size:=by rw[hNo2];exact .inl hbxN
    have HSP:=Ab hsp;have HSTP:=Ab hstp;have HJ2:=Ab hJ2;have HN2:=Ab hN2;have HBK:=Ab hback;have HK12:=Ab hk12;have HA:=Ab hn2a;have HB2:=Ab hn2b;subst ea;have hbwr:b<wr.heap.size:=by omega
    clear hst hj hbel hkp hN1w hbxN ht hsp hstp hR hIS hNo2 hJ2 hN2 hback hk12 hn2a hn2b hkl hbb;obtain⟨v1,v2⟩:=hvt;simp only at v1 v2
    by_cases h0:tS=0
    . subst h0;have hit:Nu (tb,0,tF)= [.sym tb]:=by unfold Nu;rw[if_pos rfl]
      rw[hit]at HSP HSTP;have hz0:= @World.size_alloc;go_wp2_with fail
      refine((Aa HK).sym (No:=No2) (is:=IS) (R:=R) (k:=tb) (Aa HSP).symm (Aa HJ2 _) (Aa HN2 _ (by simp))).mono ?_;rintro e w2 ⟨rfl,hJ3,hB3,hK3⟩;have HJ3:=Ab (Aa HBK _ _ hJ3);have H3:=Ab (Aa HK12 _ _ hB3 hK3);clear hJ3 hB3 hK3;go_wp2;go_roundw
      case rel=>exact⟨k+1,by omega,by go_num,Ab ⟨by rw[Aa HSTP];exact Aa HJ3,Aa H3⟩⟩
      case measure=>simp[intOf];omega
    . have v3:3<=tS/\tS<=258/\1<=tF/\tF<=3000:=by rcases v2 with h|h;exact absurd h h0;exact h
      obtain⟨n,rfl⟩:=WD (show 0<=tS by omega);obtain⟨d,rfl⟩:=WD (show 0<=tF by omega);have hb0:((n:Int)==0)=false:=by rw[beq_eq_false_iff_ne];omega
      have hit:Nu (tb,(n:Int),(d:Int))= [.sym (Cd n).1,.rest (Cd n).2.1 (Cd n).2.2,.far (Id d).1,.rest (Id d).2.1 (Id d).2.2]:=by unfold Nu;rw[if_neg h0];rfl
      rw[hit]at HSP HSTP;have HHM:=Ab (fun W=>U3 n W (by omega) (by omega));have HHF:=Ab (fun W=>EY d W (by omega) (by omega));generalize (Cd n).1=M at*;generalize (Cd n).2.1=MR at*;generalize (Cd n).2.2=MS at*;generalize (Id d).1=F at*;generalize (Id d).2.1=FR at*;generalize (Id d).2.2=FZ at*;go_wp2_with fail
      refine(Aa HHM _).mono ?_;rintro e w2 ⟨rfl,q,rfl⟩;go_wp2_with fail
      refine((Aa HK).sym (No:=No2) (is:=IS) (k:=M) (R:=_) (by rw[Aa HSP];rfl) ((Aa HK).grow (Aa HJ2 _) (Af (Below.refl _ _) q) (fun g e=>.inl e)) (Aa HN2 _ (by simp))).mono ?_;rintro e w2 ⟨rfl,hJ3,hB3,hK3⟩;have hz2:wr.heap.size<w2.heap.size:=by have:=hB3.size;simp at this;omega
      have y0:w2.cell? ⟨w.heap.size,1,none⟩=some (.func (.func kf) #[] cf):=hK3.cell (by simp;omega) (Aa HB2) (by simpa using by go_simp);have y1:w2.cell? ⟨w.heap.size,2,none⟩=some (.func (.func kr) br #[]):=hK3.cell (by simp;omega) (Aa HB2) (by simpa using by go_simp);have y2:w2.cell? ⟨wr.heap.size,2,none⟩=some (.int .i64 (d:Int)):=hK3.cell (by simp) (Aa HA) (by simp);have HB3:=Ab hB3;have HK3:=Ab hK3;have HJ3:=Ab hJ3;clear hB3 hK3 hJ3 x0 x1 x2 c1 c2 c3;go_wp2_with fail
      refine((Aa HK).rest (No:=No2) (is:=IS++ [.sym M]) (n:=MR) (s:=MS) (R:=.far F::.rest FR FZ::R) (by rw[Aa HSP];simp) (Aa HJ3) (Aa HN2 _ hz2)).mono ?_;rintro e w3 ⟨rfl,hJ4,hB4,hK4⟩;have hz3:wr.heap.size<w3.heap.size:=by have:=hB4.size;omega
      have z0:w3.cell? ⟨w.heap.size,1,none⟩=some (.func (.func kf) #[] cf):=hK4.cell (by omega) (Aa HB2) y0;have z1:w3.cell? ⟨w.heap.size,2,none⟩=some (.func (.func kr) br #[]):=hK4.cell (by omega) (Aa HB2) y1;have z2:w3.cell? ⟨wr.heap.size,2,none⟩=some (.int .i64 (d:Int)):=hK4.cell (by omega) (Aa HA) y2;have HB4:=Ab hB4;have HK4:=Ab hK4;have HJ4:=Ab hJ4;clear hB4 hK4 hJ4 y0 y1 y2;go_wp2_with fail
      refine(Aa HHF _).mono ?_;rintro e w4 ⟨rfl,q2,rfl⟩;go_wp2_with fail
      refine((Aa HK).far (No:=No2) (is:=IS++ [.sym M]++ [.rest MR MS]) (k:=F) (R:=.rest FR FZ::R) (by rw[Aa HSP];simp) ((Aa HK).grow (Aa HJ4) (Af (Below.refl _ _) q2) (fun g e=>.inl e)) (Aa HN2 _ hz3)).mono ?_;rintro e w5 ⟨rfl,hJ5,hB5,hK5⟩;have hz5:wr.heap.size<w5.heap.size:=by have:=hB5.size;exact VK hz3 this
      have x5:w5.cell? ⟨w.heap.size,2,none⟩=some (.func (.func kr) br #[]):=hK5.cell (Nat.lt_trans hsz hz3) (Aa HB2) z1;have HB5:=Ab hB5;have HK5:=Ab hK5;have HJ5:=Ab hJ5;clear hB5 hK5 hJ5 z0 z1 z2;go_wp2_with fail
      refine((Aa HK).rest (No:=No2) (is:=IS++ [.sym M]++ [.rest MR MS]++ [.far F]) (n:=FR) (s:=FZ) (R:=R) (by rw[Aa HSP];simp) (Aa HJ5) (Aa HN2 _ hz5)).mono ?_;rintro e w6 ⟨rfl,hJ6,hB6,hK6⟩;have HJ6:=Ab (Aa HBK _ _ hJ6);have H6:=Ab (Aa HK12 _ _ ((Af (Below.refl B _) q).trans ((Aa HB3).trans ((Aa HB4).trans ((Af (Below.refl B _) q2).trans ((Aa HB5).trans hB6))))) (Kp.trans (b:=w2) (fun g hg hn=>Aa HK3 g hg hn) (Kp.trans (b:=w3) (Aa HK4) (Kp.trans (b:=w5) (fun g hg hn=>Aa HK5 g hg hn) hK6 (Aa HB5).size) (Aa HB4).size) (by have:=(Aa HB3).size;exact this)));clear hJ6 hB6 hK6 x5;go_wp2;go_roundw
      case rel=>exact⟨k+1,by omega,by go_num,Ab ⟨by rw[Aa HSTP];simpa using Aa HJ6,Aa H6⟩⟩
      case measure=>simp[intOf];omega
  . obtain rfl:k=len:=by omega
    have HS:=Ab (show J No1 (Oj ts) wr/\Below B w wr/\Kp No1 (w.alloc (.cells #[.func (.func ks) #[] cs,.func (.func kf) #[] cf,.func (.func kr) br #[]] 257)) wr from ⟨by rw[VP (by rw[Aa HL];exact VC _)]at hj;exact hj,hbel,hkp⟩);have HN1w:=Ab hN1w;clear hst hj hbel hkp hN1w hbxN;go_wp2_with fail
    refine((Aa HK).sym (No:=No1) (is:=Oj ts) (k:=256) (R:= []) rfl (Aa HS).1 (Aa HN1w)).mono ?_;rintro e w2 ⟨rfl,hJ3,hB3,hK3⟩
    have HF:Hid (J No (itsOf ts) w2/\Below B w w2/\Kp No w w2):=by
     obtain⟨s1,s2,s3⟩:=Aa HS;refine⟨(Aa HK).grow hJ3 (Below.refl _ _) (fun g e=>.inl (by rw[Aa HN1];exact .inl e)),s2.trans hB3, ?_⟩;intro g hg hn;have hn1:No1 g:=by rw[Aa HN1];exact .inl hn
     exact(hK3 g (by omega) hn1).trans ((s3 g (by simp;omega) hn1).trans (Below.heap_alloc w _ g hg))
    clear hJ3 hB3 hK3 x0 x1 x2;go_wp2;go_end0
    exact⟨rfl,Aa HF⟩
end Go.Proofs.YtieianhejdcgdaaGreatDoor
namespace Go.Proofs.YtieianhejdcgdaaGreatDoor
open Go.RowKit
set_option linter.unusedVariables false
def Zp (s:Int):Bool:=decide (0<=s/\s<=16)
def FH (n s:Int):Bool:=decide (0<=s/\s<=16/\0<=n/\n<2^s.toNat)
theorem DN {s:Int}(h:Zp s=true):0<=s/\s<=16:=of_decide_eq_true h
theorem Q1 {s:Int}(h:Zp s=false):¬(0<=s/\s<=16):=of_decide_eq_false h
theorem Mx (s:Int)(w:World):
 Calls Tryz.prog 282 #[.int .i64 s] w fun e w'=>e=.returned (.bool (Zp s))/\w'=w:=by
 by_cases h1:0<=s
 . by_cases h2:s<=16
   . have hd:Zp s=true:=decide_eq_true ⟨h1,h2⟩;rw[hd];clear hd;go_enter Tryz.func282,Tryz.ntmps282
     go_wp2;go_ret;exact⟨by simp,rfl⟩
   . have hd:Zp s=false:=decide_eq_false (by omega);rw[hd];clear hd;go_enter Tryz.func282,Tryz.ntmps282
     go_wp2;go_ret;exact⟨by simp,rfl⟩
 . have hd:Zp s=false:=decide_eq_false (by omega);rw[hd];clear hd;go_enter Tryz.func282,Tryz.ntmps282
   go_wp2;go_ret;exact⟨rfl,rfl⟩
theorem QK {s:Int}(h:s<=16):wrap64 (2^s.toNat)=2^s.toNat:=by
 have h1:s.toNat<=16:=by omega
 have h2:(2:Int)^s.toNat<=2^16:=by
  have:=VV (n:=2) (by decide) h1
  exact_mod_cast this
 have h3:(0:Int)<=2^s.toNat:=by
  have:=VM (2^s.toNat)
  exact_mod_cast this
 unfold wrap64;omega
theorem TU (n s:Int)(w:World):
 Calls Tryz.prog 264 #[.int .i64 n,.int .i64 s] w fun e w'=>e=.returned (.bool (FH n s))/\w'=w:=by
 by_cases h1:Zp s=true
 . obtain⟨h0,h2⟩:=DN h1
   by_cases h3:0<=n
   . go_enter Tryz.func264,Tryz.ntmps264
     go_wp2_with (go_at_call 282;refine(Mx _ _).mono ?_;rintro e w' ⟨rfl,rfl⟩)
     go_ret;refine⟨Hk ?_,rfl⟩;rw[QK h2];simp[FH,h0,h2,h3]
   . have hd:FH n s=false:=decide_eq_false (by omega);rw[hd];clear hd;go_enter Tryz.func264,Tryz.ntmps264
     go_wp2_with (go_at_call 282;refine(Mx _ _).mono ?_;rintro e w' ⟨rfl,rfl⟩)
     go_ret;exact⟨rfl,rfl⟩
 . have h4:Zp s=false:=by simpa using h1
   have hd:FH n s=false:=decide_eq_false (by have:=Q1 h4;omega);rw[hd];clear hd h1;go_enter Tryz.func264,Tryz.ntmps264
   go_wp2_with (go_at_call 282;refine(Mx _ _).mono ?_;rintro e w' ⟨rfl,rfl⟩)
   go_ret;exact⟨rfl,rfl⟩
theorem Tt (n:Nat){k:Nat}(h:k<16):Hz n k<32768:=VK (QU n k) (VV (j:=15) (by decide) (by omega))
theorem QT (n s:Nat)(w:World)(h:FH n s=true)(hs:s<=16)(hn:n<65536):
 Calls Tryz.prog 245 #[.int .i64 n,.int .i64 s] w fun e w'=>e=.returned (.tuple #[.int .i64 (Hz n s:Nat),.int .i64 0])/\w'=w:=by
 go_enter Tryz.func245,Tryz.ntmps245
 go_wp2_with (go_at_call 264;refine(TU _ _ _).mono ?_;rintro e w' ⟨rfl,rfl⟩)
 go_loop [6,13] (fun t i=>∃k:Nat,k<=s/\i=.int .i64 k/\t=.int .i64 (Hz n k:Nat)) (fun _ i=>s-(intOf i).toNat)
 case atStart=>exact⟨0,VM _,rfl,rfl⟩
 case round=>
  obtain⟨k,hk,rfl,rfl⟩:=hrel
  by_cases hlt:k<s
  . have hb:=Tt n (k:=k) (by omega);have hst:=JB (Hz n k) n k (by omega) (by omega);have H:Hid (Hz n (k+1)=Hz n k*2|||n/2^k%2):=rfl;have HS:=Ab hst;clear hst;generalize Hz n k=m at*;go_wp2;go_round
    case rel=>exact⟨k+1,by omega,by go_num,by rw[H.out,Aa HS]⟩
    case measure=>simp[intOf];omega
  . have e:k=s:=by omega
    subst e;go_wp2;go_ret2;exact⟨rfl,rfl⟩
end Go.Proofs.YtieianhejdcgdaaGreatDoor
namespace Go.Proofs.YtieianhejdcgdaaGreatDoor
open Go.RowKit
set_option linter.unusedVariables false
set_option maxRecDepth 100000
theorem B9:∀n c,Ah (Hz c n) n=hb c n:=by
 intro n c;apply XF
 . rw[Ae,Bi]
 . intro i h1 h2;rw[Ae]at h1;have e1:(Ah (Hz c n) n).getD i false=(Ah (Hz c n) n)[i]'(by rw[Ae];exact h1):=by simp[List.getD,Ae,h1]
   rw[<-e1,Gm,decide_eq_true h1,ZK,Qa,decide_eq_true h1,ZK];exact(hb_at n c i h1 h2).symm
where
 hb_at:∀n c i (h:i<n) (h2:i<(hb c n).length),(hb c n)[i]=c.testBit (n-1-i)
 |0,c,i,h,_=>by omega
 |n+1,c,i,h,h2=>by
  by_cases e:i=n
  . subst e
    have:(hb c (i+1))[i]'h2=decide (c%2=1):=by
     have hl:=Bi i (c/2);simp only[hb];rw[List.getElem_append_right (by omega)];simp[hl]
    rw[this];rw[show i+1-1-i=0 by omega,Nat.testBit_zero]
  . have hl:=Bi n (c/2)
    have:(hb c (n+1))[i]'h2=(hb (c/2) n)[i]'(by omega):=by
     simp only[hb];rw[List.getElem_append_left (by omega)]
    rw[this,hb_at n (c/2) i (by omega) (by omega),show n+1-1-i=(n-1-i)+1 by omega,Nat.testBit_succ]
structure CIs (Bx:Nat->Prop)(W:World)(gc gl gr rb:Nat)(a:Option Addr)(len cap:Nat)(l:List Int):Prop where
 ex:∃gk b o,a=some ⟨b,o,none⟩/\(b<W.heap.size/\Bx b)/\(gk<W.heap.size/\Bx gk)/\W.cell? ⟨gc,0,none⟩=some (.slice (some ⟨gk,0,none⟩) len len)/\Row .i64 W b o l/\∀j,j<len->W.cell? ⟨gk,j,none⟩=some (.int .i64 (codeN l j:Nat))
 bl:W.cell? ⟨gl,0,none⟩=some (.slice a len cap)
 br:W.cell? ⟨gr,0,none⟩=some (.pointer (some ⟨rb,0,none⟩))
 bx:(gc<W.heap.size/\Bx gc)/\(gl<W.heap.size/\Bx gl)/\(gr<W.heap.size/\Bx gr)
theorem CIs.keep {Bx:Nat->Prop}{W W':World}{gc gl gr rb:Nat}{a:Option Addr}{len cap:Nat}{l:List Int}(h:CIs Bx W gc gl gr rb a len cap l)(hs:W.heap.size<=W'.heap.size)(hk:∀g,g<W.heap.size->Bx g->W'.heap[g]? =W.heap[g]?):CIs Bx W' gc gl gr rb a len cap l:=by
 have hc:∀ {g j:Nat} {v:Value},g<W.heap.size/\Bx g->W.cell? ⟨g,j,none⟩=some v->W'.cell? ⟨g,j,none⟩=some v:=fun {g j v} hg hv=>by
  rw[World.cell?_of_block (w:=W) (a:=⟨g,j,none⟩) (hk g hg.1 hg.2)];exact hv
 have up:∀ {g:Nat},g<W.heap.size/\Bx g->g<W'.heap.size/\Bx g:=fun hg=>⟨VK hg.1 hs,hg.2⟩
 obtain⟨gk,b,o,h1,h2,h3,h4,h5,h6⟩:=h.ex;exact⟨⟨gk,b,o,h1,up h2,up h3,hc h.bx.1 h4,fun j hj=>hc h2 (h5 j hj),fun j hj=>hc h3 (h6 j hj)⟩,hc h.bx.2.1 h.bl,hc h.bx.2.2 h.br,up h.bx.1,up h.bx.2.1,up h.bx.2.2⟩
theorem CIs.more {Bx Bx':Nat->Prop}{W:World}{gc gl gr rb:Nat}{a:Option Addr}{len cap:Nat}{l:List Int}(h:CIs Bx W gc gl gr rb a len cap l)(hk:∀g,Bx g->Bx' g):CIs Bx' W gc gl gr rb a len cap l:=by
 obtain⟨gk,b,o,h1,h2,h3,h4,h5,h6⟩:=h.ex;exact⟨⟨gk,b,o,h1,⟨h2.1,hk _ h2.2⟩,⟨h3.1,hk _ h3.2⟩,h4,h5,h6⟩,h.bl,h.br,⟨h.bx.1.1,hk _ h.bx.1.2⟩,⟨h.bx.2.1.1,hk _ h.bx.2.1.2⟩,⟨h.bx.2.2.1,hk _ h.bx.2.2.2⟩⟩
abbrev CV (gc gl gr:Nat):Value:=.func (.func 244) #[] #[.pointer (some ⟨gc,0,none⟩),.pointer (some ⟨gl,0,none⟩),.pointer (some ⟨gr,0,none⟩)]
theorem Xs (Bx No:Nat->Prop)(B gc gl gr rb:Nat)(a:Option Addr)(len cap:Nat)(l:List Int)(q:Nat)(S:List Bool)(W:World)(hC:CIs Bx W gc gl gr rb a len cap l)(hl:l.length=len)(hG:Good l)(hq:q<len)(hpos:0<l.getD q 0)(h:RIs No B W rb S)(hS:S.length<=300000)(hNo:∀g,W.heap.size<=g->¬No g):
 Calls Tryz.prog 244 #[.int .i64 (q:Int),.pointer (some ⟨gc,0,none⟩),.pointer (some ⟨gl,0,none⟩),.pointer (some ⟨gr,0,none⟩)] W fun e w'=>e=.returned (.tuple #[])/\Rp No B W rb (S++An l q) w':=by
 obtain⟨gk,b,o,rfl,hb,hgk,c1,hrow,hcod⟩:=hC.ex;have c2:=hC.bl;have c3:=hC.br;have hlen:=hG.len;obtain⟨m,hm⟩:=WD (hG.ok q (by omega)).1;have hm15:=(hG.ok q (by omega)).2;have c4:=hrow q (by omega);have c5:=hcod q hq;rw[hm]at c4 hm15 hpos;have hlt:=(Jc l hG (by omega) hm (by omega)).2.2;have HT:Hid (S++An l q=S++Ah (Hz (codeN l q) m) m):=Ab (by unfold An;rw[hm,WL,B9]);have hp15:2^m<=2^15:=VV (by decide) (by omega);have hp15':(2:Nat)^15=32768:=by decide
 have hcl:codeN l q<32768:=by omega
 have hfit:FH (codeN l q:Nat) (m:Nat)=true:=decide_eq_true ⟨by omega,by omega,by omega,by rw[WL];exact_mod_cast hlt⟩;have HTN:=Ab (fun W=>QT (codeN l q) m W hfit (by omega) (by omega));have htl:=Tt (codeN l q) (k:=m) (by omega);have HPT:=Ab (fun(k x:Nat) (hx:x<65536)=>Dl No B rb x m S (W.drewN k) (h.drewN k) hx (by omega) hS hNo);have HRD:=Ab (fun k=>h.drew k);rw[Aa HT];have hqI:(q:Int)<(len:Int):=by omega
 clear hC hrow hcod hlt hfit HT h hNo hG hm hp15 hp15';generalize codeN l q=cq at*;generalize Hz cq m=tq at*;go_enter Tryz.func244,Tryz.ntmps244
 go_wp2;go_quiet ((go_at_call 245;refine Calls.quiet_of_same (Aa HTN _)))
 go_wp2;go_region_with (go_at_call 155;refine(Aa HPT _ _ (by omega)).mono ?_;rintro e w2 ⟨rfl,hR⟩)
 all_goals try go_wp2
 all_goals go_end0
 all_goals trace_state
 all_goals exact⟨rfl,(Aa HRD _).trans hR⟩
end Go.Proofs.YtieianhejdcgdaaGreatDoor
