import Derived.Test.YtieianhejdcgdaaGreatDoorQ28
import Derived.Laws.Cover3
import Derived.Laws.ResultCell
set_option maxHeartbeats 2000000
namespace Go.Proofs.YtieianhejdcgdaaGreatDoor
open Go.RowKit
set_option linter.unusedVariables false
set_option maxRecDepth 100000
theorem CB (w:World)(q r:Nat):(w.drewN q).drewN r=w.drewN (r+q):=by
 first|rfl|(simp[World.drewN];try omega)
theorem LP (p b o n cap i k nn m:Nat)(bs:List Nat)(w:World)(c0:w.cell? ⟨p,0,none⟩=some (.slice (some ⟨b,o,none⟩) n cap))(hB:Bytes w b o bs)(hl:bs.length=n)(hn:n<=3000)(hx:∀j,bs.getD j 0<256)(hik:i<k)(hnm:nn<m)(hkm:k+m<=n)(r:Nat)(hr:Hid (r=if bs.getD (i+nn) 0=bs.getD (k+nn) 0 then lcp bs i k m else 0)):
 Calls Tryz.prog 241 #[.pointer (some ⟨p,0,none⟩),.int .i64 (i:Int),.int .i64 (k:Int),.int .i64 (nn:Int),.int .i64 (m:Int)] w fun e w'=>e=.returned (.int .i64 (r:Int))/\∃q,w'=w.drewN q:=by
 have HL:=Ab hl;have HX:=Ab hx;have HB:=Ab hB;have ci:=hB (i+nn) (by omega);have ck:=hB (k+nn) (by omega);clear hB hx;rw[show o+(i+nn)=o+(i+nn) from rfl]at ci;go_enter Tryz.func241,Tryz.ntmps241
 go_wp2
 by_cases he:bs.getD (i+nn) 0=bs.getD (k+nn) 0
 . rw[if_pos he]at hr;have hb1:(((bs.getD (i+nn) 0:Nat):Int)!=((bs.getD (k+nn) 0:Nat):Int))=false:=by rw[he];simp
   clear he;generalize bs.getD (i+nn) 0=x at*;generalize bs.getD (k+nn) 0=y at*;go_quiet (fail)
   clear ci ck hb1;go_wp2;go_loopw [11] (fun s wr=>∃j q:Nat,j<=m/\s=.int .i64 (j:Int)/\(∀j',j'<j->bs.getD (i+j') 0=bs.getD (k+j') 0)/\wr=w.drewN q) (fun s _=>m-(intOf s).toNat)
   case atStart=>exact⟨0,nq,VM _,rfl,fun j' h=>by omega,rfl⟩
   case round=>
    obtain⟨j,q,hj,rfl,hs,rfl⟩:=hrel;have HS:=Ab hs;clear hs
    by_cases hlt:j<m
    . have hd:decide ((j:Int)<(m:Int))=true:=decide_eq_true (by omega);have ci:=(Aa HB) (i+j) (by omega)
      have ck:=(Aa HB) (k+j) (by omega)
      by_cases he:bs.getD (i+j) 0=bs.getD (k+j) 0
      . have HE:=Ab he;have hb1:(((bs.getD (i+j) 0:Nat):Int)==((bs.getD (k+j) 0:Nat):Int))=true:=by rw[he];simp
        clear he;generalize bs.getD (i+j) 0=x at ci ck hb1;generalize bs.getD (k+j) 0=y at ci ck hb1;go_wp2;go_quiet (fail)
        go_wp2;go_roundw
        case rel=>exact⟨j+1,_,by omega,by go_num,fun j' h=>by
         by_cases c:j'=j
         . subst c;exact Aa HE
         . exact Aa HS j' (by omega),rfl⟩
        case measure=>simp[intOf];omega
      . have HE:=Ab he;have hb1:(((bs.getD (i+j) 0:Nat):Int)==((bs.getD (k+j) 0:Nat):Int))=false:=by rw[beq_eq_false_iff_ne];omega
        clear he;generalize bs.getD (i+j) 0=x at ci ck hb1;generalize bs.getD (k+j) 0=y at ci ck hb1;go_wp2;go_quiet (fail)
        go_wp2;go_ret;exact⟨Fb (by rw[Aa hr,Z11 hj (Aa HS) (.inr (Aa HE))]),_,CB w q nq⟩
    . obtain rfl:m=j:=by omega
      have hd:decide ((m:Int)<(m:Int))=false:=decide_eq_false (by omega);go_wp2;go_quiet (fail)
      go_wp2;go_ret;exact⟨Fb (by rw[Aa hr,Z11 (VC _) (Aa HS) (.inl rfl)]),_,CB w q nq⟩
 . rw[if_neg he]at hr;have hb1:(((bs.getD (i+nn) 0:Nat):Int)!=((bs.getD (k+nn) 0:Nat):Int))=true:=by rw[bne_iff_ne];omega
   clear he;generalize bs.getD (i+nn) 0=x at*;generalize bs.getD (k+nn) 0=y at*;obtain rfl:=Aa hr;go_quiet (fail)
   go_wp2;go_ret;exact⟨rfl,nq,rfl⟩
theorem X9 (w:World):(zeroValue 81).run Tryz.prog w=.ok (.slice none 0 0) w:=by kernel_rfl
structure Mid (No:Nat->Prop)(B:Nat)(R w3:World)(p mb base b o n cap:Nat)(bs:List Nat)(j:Nat):Prop where
 pst:Pst w3 p (.slice (some ⟨b,o,none⟩) n cap) mb j
 grp:Grp w3 base mb bs (j+1)
 shun:w3.Shuns mb No
 row:Bytes w3 b o bs
 size:R.heap.size<=w3.heap.size
 room:base<=R.heap.size
 below:Below B R w3
 kp:Kp No R w3
theorem Mid.next {No:Nat->Prop}{B:Nat}{w R w3:World}{p mb base b o n cap j:Nat}{bs:List Nat}(M:Mid No B R w3 p mb base b o n cap bs j)(G:Geo No B p mb base b bs)(hB:Below B w R)(hK:Kp No w R)(hs:w.heap.size<=R.heap.size):
 Pas No (w3.setCell ⟨p,2,none⟩ (.int .i64 ((j:Int)+1))) p mb base b o n cap bs (j+1)/\Below B w (w3.setCell ⟨p,2,none⟩ (.int .i64 ((j:Int)+1)))/\Kp No w (w3.setCell ⟨p,2,none⟩ (.int .i64 ((j:Int)+1))):=by
 have hg:=Ad w3 p 2 (.int .i64 ((j:Int)+1));have hm:=M.grp.lt;have hb3:Below B w w3:=hB.trans (M.below);refine⟨⟨M.pst.set (j+1),M.grp.kept hg (fun i e=>by cases e;exact⟨G.pb,G.pm⟩),M.shun.kept hg hm.2 (fun e=>G.pm (by simpa using e.symm)),M.row.grown hg (fun e=>by have:=G.bB;have:=G.pB;simp at e;omega), ?_⟩, ?_, ?_⟩
 . exact VX M.room (VX M.size hg.size)
 . exact hb3.grown hg (by have:=hs;have:=M.size;have:=M.pst.lt;have:=G.pB;omega) (fun i e=>by cases e;exact G.pB)
 . exact(hK.trans M.kp hs).grown hg (VX hs M.size) (fun i e=>by cases e;exact G.nop)
theorem Va (No:Nat->Prop)(B p mb base b o n cap j:Nat)(bs:List Nat)(R:World)(G:Geo No B p mb base b bs)(hl:bs.length=n)(hP:Pas No R p mb base b o n cap bs j)(hjn:j+3<=n)(hNo:∀g,R.heap.size<=g->¬No g)(x0 x1 x2:Nat)(HX:He bs j=(x0,x1,x2)):
 ∃(v:Value) (st:Nat) (w1:World),(Instr.mapEntry 294 (.map (some mb)) (.agg #[.int .u8 (x0:Int),.int .u8 (x1:Int),.int .u8 (x2:Int)])).run Tryz.prog R=.ok (.tuple #[v,.int .i64 (st:Int)]) w1/\R.grownBy w1 (some mb)/\w1.heap.size=R.heap.size/\
  ∀(W:World) (X:Nat),w1.grownBy W none->W.cell? ⟨X,0,none⟩=some (.int .i64 (j:Int))->∃(v':Value) (w2 w3:World),(∀ty,(Builtin.append_ #[81,81] ty #[v,.slice (some ⟨X,0,none⟩) 1 1]).run Tryz.prog W=.ok v' w2)/\
   (Instr.entryStore 294 (.map (some mb)) (.int .i64 (st:Int)) v').run Tryz.prog w2=.ok () w3/\Mid No B R w3 p mb base b o n cap bs j:=by
 obtain⟨i0,hi,hz0,hz1,hz2⟩:=info_parts Cn;have hn:=G.len;have ok:=S5 G.byte j;obtain⟨D,hD,hA⟩:=hP.grp;obtain⟨v,zs,st,w1,hrun,hg1,hs1,hat,hoi,hzl,hno,hback⟩:=J2 hD Z6k Tryz.underlying294 X9 (by unfold maxLen;omega) (Pd ok);have hzs:zs=(plc bs j (He bs j)).map fun x:Nat=>(x:Int):=Uc hoi (by rw[<-hat];exact(hA _ ok).symm)
 refine⟨v,st,w1, ?_,hg1,hs1, ?_⟩
 . rw[show (Value.agg #[.int .u8 (x0:Int),.int .u8 (x1:Int),.int .u8 (x2:Int)])=kv (He bs j) by rw[HX];rfl];exact hrun
 intro W X hW hX;have hbm:base<=w1.heap.size:=by rw[hs1];exact hP.size
 have hoW:W.ownsInts base 3 .i64 v zs:=hoi.kept hW (by cases hv:v.ownBlock with
  |none=>exact .inl rfl
  |some g=>exact .inr (by simp))
 obtain⟨v',w2,hrA,hown',hgrow,_,hspot⟩:=run_append_own_at W base 81 81 3 i0 (.int .i64 0) 1 8 Tryz.underlying81 hi hz0 hz1 hz2 rfl (by decide) v zs.length _ hoW.1 ⟨X,0,none⟩ 1 1 [.int .i64 (j:Int)] rfl (fun i u hi=>AZ hX hi) (Bf rfl) (by unfold maxLen;omega) (by omega) (VX hbm hW.size);have hoi':w2.ownsInts base 3 .i64 v' (zs++ [(j:Int)]):=hoW.appended hown' (WalkArith.wf_i64 (by omega));have hg12:w1.grownBy w2 v.ownBlock:=⟨hgrow.os.trans hW.os,hgrow.tape.trans hW.tape,hgrow.output.trans hW.output,VX hW.size hgrow.size,fun i h1 h2=>(hgrow.block i (VK h1 hW.size) h2).trans (hW.block i h1 (by simp))⟩
 obtain⟨w3,hrS,hG3,hg3,hsh⟩:=hback w2 v' _ hg12 hoi' (by simp;omega) (by
  rcases hspot with h|h
  . exact .inl h
  . exact .inr ⟨_,h,hW.size⟩)
 have hoi3:w3.ownsInts base 3 .i64 v' (zs++ [(j:Int)]):=hoi'.kept hg3 (by
  cases hv:v'.ownBlock with
  |none=>exact .inl rfl
  |some g=>
   refine .inr (fun e=> ?_);have:=(hoi'.1.lt g hv).1
   have:=hP.grp.lt.1
   cases e
   omega)
 have hvlt:∀g,v.ownBlock=some g->base<=g:=fun g e=>(hoi.1.lt g e).1
 have hblk:∀g,g<R.heap.size->g≠mb->v.ownBlock≠some g->w3.heap[g]? =R.heap[g]? :=by
  intro g h1 h2 h3;have h1':g<w1.heap.size:=by rw[hs1];exact h1
  rw[hg3.block g (VK h1' hg12.size) (fun e=>h2 (by simpa using e)),hg12.block g h1' (fun e=>h3 e.symm),hg1.block g h1 (fun e=>h2 (by simpa using e))]
 have hsz:R.heap.size<=w3.heap.size:=by
  have:=hg12.size
  have:=hg3.size
  omega
 have hpR:=hP.pst.lt;have hpv:v.ownBlock≠some p:=fun e=>by have:=hvlt p e;have:=G.pb;omega
 have hbv:v.ownBlock≠some b:=fun e=>by have:=hvlt b e;have:=G.pb;have:=G.bB;have:=G.pB;omega
 refine⟨v',w2,w3,fun ty=>hrA,hrS, ?_, ?_, ?_, ?_,hsz,hP.size, ?_, ?_⟩
 . exact(hblk p hpR G.pm hpv).trans hP.pst
 . exact Grp.step G.byte hA (F3 hD) hG3 hoi3 (by rw[hzs])
 . refine hsh No hP.shun ?_;intro g hg
   rcases hspot with h|h
   . exact hno No hP.shun g (by rw[<-h];exact hg)
   . rw[h]at hg
     cases hg
     have:=hW.size
     exact hNo _ (by omega)
 . intro i hi;have hbR:b<R.heap.size:=by have:=G.bB;have:=G.pB;omega
   have e:=hblk b hbR (by have:=G.bB;have:=G.mB;omega) hbv;have:=hP.row i hi
   unfold World.cell? at this ⊢;rw[e];exact this
 . refine⟨hg3.os.trans (hg12.os.trans hg1.os),hg3.tape.trans (hg12.tape.trans hg1.tape),hg3.output.trans (hg12.output.trans hg1.output),hsz, ?_⟩;intro g hg;have:=G.pB
   have:=G.mB
   exact hblk g (by omega) (by omega) (fun e=>by have:=hvlt g e;have:=G.pb;omega)
 . intro g hg hN;exact hblk g hg (fun e=>G.nom (by rw[<-e];exact hN)) (fun e=>hno No hP.shun g e hN)
theorem OB (No:Nat->Prop)(B p mb base b o n cap kn k:Nat)(bs:List Nat)(w:World)(G:Geo No B p mb base b bs)(hl:bs.length=n)(hcap:n<=cap)(hP:Pas No w p mb base b o n cap bs kn)(hk:kn<=k)(hkn:k+3<=n)(hNo:∀g,w.heap.size<=g->¬No g):
 Calls Tryz.prog 240 #[.pointer (some ⟨p,0,none⟩),.int .i64 (k:Int)] w fun e w'=>e=.returned (.tuple #[])/\Pas No w' p mb base b o n cap bs k/\Below B w w'/\Kp No w w':=by
 have HG:=Ab G;have HP:=Ab hP;have HN:=Ab hNo;have hn:=G.len;have hpm:=G.pm;clear G hP hNo;go_enter Tryz.func240,Tryz.ntmps240
 go_wp2;go_loopw [4] (fun _ wr=>∃j:Nat,kn<=j/\j<=k/\Pas No wr p mb base b o n cap bs j/\Below B w wr/\Kp No w wr) (fun _ wr=>k-((wr.cell? ⟨p,2,none⟩).map (fun v=>(intOf v).toNat)).getD 0)
 case atStart=>exact⟨kn,VC _,hk,Aa HP,Below.refl _ _,Kp.refl _ _⟩
 case round=>
  obtain⟨j,hj1,hj2,hPj,hBj,hKj⟩:=hrel;have HPj:=Ab hPj;have HBj:=Ab hBj;have HKj:=Ab hKj;have c2:=hPj.pst.cell2
  by_cases hlt:j<k
  . have c0:=hPj.pst.cell0;have c1:=hPj.pst.cell1;have b0:=hPj.row j (by omega);have b1:=hPj.row (j+1) (by omega);have b2:=hPj.row (j+2) (by omega);rw[<-WJ]at b1 b2;have hsz:=hBj.size;have hpl:=hPj.pst.lt;have hbl:b<wr.heap.size:=Nat.lt_trans (VK (Aa HG).bB (Aa HG).pB) hpl;clear hPj hBj hKj;generalize hx0:bs.getD j 0=x0 at b0;generalize hx1:bs.getD (j+1) 0=x1 at b1;generalize hx2:bs.getD (j+2) 0=x2 at b2;have HX:Hid (He bs j=(x0,x1,x2)):=by rw[<-hx0,<-hx1,<-hx2];rfl
    clear hx0 hx1 hx2;have hcj:¬cap=j:=by omega
    have har:∀(a:Option Addr) (c:Nat) (W:World),(Instr.arrayAt 317 (.slice a (n-j) c)).run Tryz.prog W=.ok (.pointer a) W:=fun a c W=>run_arrayAt _ _ _ _ _ _ _ Tryz.underlying317 (by omega)
    go_wp2;go_big_region
    clear b0 b1 b2 har;have HPr:Hid (Pas No (wr.alloc (.cells #[.int .u8 (x0:Int),.int .u8 (x1:Int),.int .u8 (x2:Int)] 317)).drew p mb base b o n cap bs j):=((Aa HPj).grown (Aa HG) (World.grownBy_alloc wr _ none) (fun j e=>by cases e)).drewN 1;have HBr:Hid (Below B w (wr.alloc (.cells #[.int .u8 (x0:Int),.int .u8 (x1:Int),.int .u8 (x2:Int)] 317)).drew):=(Af ((Aa HBj).alloc (VX (VX (Aa HG).pB (YU (Aa HP).pst.lt)) hsz) (.cells #[.int .u8 (x0:Int),.int .u8 (x1:Int),.int .u8 (x2:Int)] 317)) 1)
    have HKr:Hid (Kp No w (wr.alloc (.cells #[.int .u8 (x0:Int),.int .u8 (x1:Int),.int .u8 (x2:Int)] 317)).drew):=((Aa HKj).grown (Bp (World.grownBy_alloc wr (.cells #[.int .u8 (x0:Int),.int .u8 (x1:Int),.int .u8 (x2:Int)] 317) none)) hsz (fun j e=>by cases e))
    have q0:(wr.alloc (.cells #[.int .u8 (x0:Int),.int .u8 (x1:Int),.int .u8 (x2:Int)] 317)).drew.cell? ⟨wr.heap.size,0,none⟩=some (.int .u8 (x0:Int)):=by simp
    have q1:(wr.alloc (.cells #[.int .u8 (x0:Int),.int .u8 (x1:Int),.int .u8 (x2:Int)] 317)).drew.cell? ⟨wr.heap.size,1,none⟩=some (.int .u8 (x1:Int)):=by simp
    have q2:(wr.alloc (.cells #[.int .u8 (x0:Int),.int .u8 (x1:Int),.int .u8 (x2:Int)] 317)).drew.cell? ⟨wr.heap.size,2,none⟩=some (.int .u8 (x2:Int)):=by simp
    have hb4:wr.heap.size<(wr.alloc (.cells #[.int .u8 (x0:Int),.int .u8 (x1:Int),.int .u8 (x2:Int)] 317)).drew.heap.size:=by simp
    have hsr:w.heap.size<=(wr.alloc (.cells #[.int .u8 (x0:Int),.int .u8 (x1:Int),.int .u8 (x2:Int)] 317)).drew.heap.size:=by simp;omega
    clear c0 c1 HBj HKj;generalize (wr.alloc (.cells #[.int .u8 (x0:Int),.int .u8 (x1:Int),.int .u8 (x2:Int)] 317)).drew=r at*;generalize wr.heap.size=b4 at*;have d1:=(Aa HPr).pst.cell1;have d2:=(Aa HPr).pst.cell2;have hpr:=(Aa HPr).pst.lt;have HPd:Hid (Pas No r.drew p mb base b o n cap bs j):=(Aa HPr).drewN 1;have HPe:Hid (Pas No (r.alloc (.cells #[.int .i64 (j:Int)] 3)).drew p mb base b o n cap bs j):=((Aa HPr).grown (Aa HG) (World.grownBy_alloc r _ none) (fun j e=>by cases e)).drewN 1;obtain⟨vA,stA,wA,eA,gA,sA,fA⟩:=Va No B p mb base b o n cap j bs r.drew (Aa HG) hl (Aa HPd) (by omega) (fun g h=>Aa HN g (VX hsr h)) x0 x1 x2 (Aa HX);obtain⟨vA',w2A,w3A,aA,tA,mA⟩:=fA (wA.alloc (.cells #[.int .i64 (j:Int)] 3)) wA.heap.size (World.grownBy_alloc _ _ _) (by simp);obtain⟨vB,stB,wB,eB,gB,sB,fB⟩:=Va No B p mb base b o n cap j bs (r.alloc (.cells #[.int .i64 (j:Int)] 3)).drew (Aa HG) hl (Aa HPe) (by omega) (fun g h=>Aa HN g (VX (VX hsr (by simp)) h)) x0 x1 x2 (Aa HX)
    obtain⟨vB',w2B,w3B,aB,tB,mB⟩:=fB wB r.heap.size (Ap _ _) (gB.cell (by simp) (by
     have:=(Aa HPr).grp.lt.2
     simp;omega))
    have d2A:=gA.cell (a:=⟨p,2,none⟩) d2 (by simpa using hpm);replace aA:=aA 81;replace aB:=aB 81;simp[go_sem]at aA aB
    have MA:=Ab mA;have MB:=Ab mB;clear fA fB mA mB gA gB;have ccA:=(Aa MA).pst.cell2;have ffA:=(Aa MA).pst.frozen 2;have ccB:=(Aa MB).pst.cell2;have ffB:=(Aa MB).pst.frozen 2;have FA:=Ab ((Aa MA).next (Aa HG) (Af (Aa HBr) 1) (Aa HKr) hsr);have FB:=Ab ((Aa MB).next (Aa HG) (Af ((Aa HBr).alloc (VX (Aa HG).pB (YU hpr)) (.cells #[.int .i64 (j:Int)] 3)) 1) ((Aa HKr).grown (Bp (World.grownBy_alloc r (.cells #[.int .i64 (j:Int)] 3) none)) hsr (fun j e=>by cases e)) (VX hsr (by simp)));go_wp2;go_big_region
    all_goals clear aA aB eA eB tA tB q0 q1 q2 d1 d2 d2A
    all_goals
     go_wp2;go_roundw
     case rel=>first|exact⟨j+1,by omega,by omega,Aa FA⟩|exact⟨j+1,by omega,by omega,Aa FB⟩
     case measure=>
      rw[c2]
      first|rw[(Aa FA).1.pst.cell2]|rw[(Aa FB).1.pst.cell2]
      simp[intOf];omega
  . obtain rfl:k=j:=by omega
    clear hPj hBj hKj;go_wp2;go_end0
    exact⟨rfl,Aa HPj,Aa HBj,Aa HKj⟩
theorem Pas.row3 {No:Nat->Prop}{w:World}{p mb base b o n cap k:Nat}{bs:List Nat}(h:Pas No w p mb base b o n cap bs k)(hx:∀j,bs.getD j 0<256)(hk:k<=3000)(x0 x1 x2:Nat)(HX:He bs k=(x0,x1,x2)):
 ∃(a:Option Addr) (c L:Nat),(plc bs k (He bs k)).length=L/\(Instr.lookup 294 (.map (some mb)) (.agg #[.int .u8 (x0:Int),.int .u8 (x1:Int),.int .u8 (x2:Int)]) false).run Tryz.prog w=.ok (.slice a L c) w/\L<=k/\
  ∀j,j<L->∃g,a=some ⟨g,0,none⟩/\w.cell? ⟨g,j,none⟩=some (.int .i64 (((plc bs k (He bs k)).getD j 0:Nat):Int)):=by
 have ok:=S5 hx k;obtain⟨D,hD,hA⟩:=h.grp;obtain⟨v,zs,hrun,hat,hoi,hzl,_⟩:=hD.at Z6k Tryz.underlying294 (X9 w) (by unfold maxLen;omega) (Pd ok);have hzs:zs=(plc bs k (He bs k)).map fun x:Nat=>(x:Int):=Uc hoi (by rw[<-hat];exact(hA _ ok).symm)
 have hlen:zs.length=(plc bs k (He bs k)).length:=by rw[hzs];simp
 have hrun':(Instr.lookup 294 (.map (some mb)) (.agg #[.int .u8 (x0:Int),.int .u8 (x1:Int),.int .u8 (x2:Int)]) false).run Tryz.prog w=.ok v w:=by
  rw[show (Value.agg #[.int .u8 (x0:Int),.int .u8 (x1:Int),.int .u8 (x2:Int)])=kv (He bs k) by rw[HX];rfl];exact hrun
 rcases hoi.1.2 with ⟨h1,h2⟩|⟨g,c,cur,h1,h2⟩
 . refine⟨none,0,0,by omega,by rw[hrun',h1],VM _,fun j hj=>by omega⟩
 . refine⟨some ⟨g,0,none⟩,c,zs.length,hlen.symm,by rw[hrun',h1],hzl,fun j hj=>⟨g,rfl, ?_⟩⟩;have ho:=hoi.1;rw[h1]at ho;rw[ho.cellAt j (by omega)];have:j<(plc bs k (He bs k)).length:=by omega
   simp[hzs,List.getD,this]
theorem LV {bs:List Nat}{k:Nat}(h:mst bs.length k<3):lng bs k=(0,0):=
 BC (fun d h1 h2=>XV (Rb _ _ _ _) h)
theorem Ra (No:Nat->Prop)(B p mb base b o n cap kn k:Nat)(bs:List Nat)(w:World)(G:Geo No B p mb base b bs)(hl:bs.length=n)(hcap:n<=cap)(hP:Pas No w p mb base b o n cap bs kn)(hk:kn<=k)(hkn:k<=n)(hNo:∀g,w.heap.size<=g->¬No g)(rn rf:Nat)(hr:Hid (lng bs k=(rn,rf))):
 Calls Tryz.prog 215 #[.pointer (some ⟨p,0,none⟩),.int .i64 (k:Int)] w fun e w'=>e=.returned (.tuple #[.int .i64 (rn:Int),.int .i64 (rf:Int)])/\(∃kn',kn'<=k/\Pas No w' p mb base b o n cap bs kn')/\Below B w w'/\Kp No w w':=by
 have HG:=Ab G;have HP:=Ab hP;have HN:=Ab hNo;have HL:=Ab hl;have hn:=G.len;have c0:=hP.pst.cell0;clear G hP hNo;go_enter Tryz.func215,Tryz.ntmps215
 by_cases h3:mst n k<3
 . obtain⟨m,hm⟩:∃m,m=mst n k:=⟨_,rfl⟩
   have hmi:(if (n:Int)-(k:Int)<258 then (n:Int)-(k:Int)else 258)=(m:Int):=by rw[hm];unfold mst;split<;>omega
   have hm3:m<3:=by omega
   have hr0:=Aa hr;rw[LV (by rw[hl];exact h3)]at hr0;obtain⟨rfl,rfl⟩:0=rn/\0=rf:=by simpa using hr0
   go_wp2;go_ret2;exact⟨rfl,⟨kn,hk,Aa HP⟩,Below.refl _ _,Kp.refl _ _⟩
 . obtain⟨m,hm⟩:∃m,m=mst n k:=⟨_,rfl⟩
   have hmi:(if (n:Int)-(k:Int)<258 then (n:Int)-(k:Int)else 258)=(m:Int):=by rw[hm];unfold mst;split<;>omega
   have hm3:3<=m:=by omega
   have hmk:k+m<=n:=by rw[hm];unfold mst;omega
   have hm258:m<=258:=by rw[hm];unfold mst;omega
   have HM:=Ab hm;clear hm h3;go_wp2_with fail
   refine(OB No B p mb base b o n cap kn k bs w (Aa HG) hl hcap (Aa HP) hk (by omega) (Aa HN)).mono ?_;rintro e w1 ⟨rfl,hP1,hB1,hK1⟩;have HP1:=Ab hP1;have HB1:=Ab hB1;have HK1:=Ab hK1;have d0:=hP1.pst.cell0;have d1:=hP1.pst.cell1;have b0:=hP1.row k (by omega);have b1:=hP1.row (k+1) (by omega);have b2:=hP1.row (k+2) (by omega);rw[<-WJ]at b1 b2;clear hP1 hB1 hK1 c0;generalize hx0:bs.getD k 0=x0 at b0;generalize hx1:bs.getD (k+1) 0=x1 at b1;generalize hx2:bs.getD (k+2) 0=x2 at b2;have HX:Hid (He bs k=(x0,x1,x2)):=by rw[<-hx0,<-hx1,<-hx2];rfl
   clear hx0 hx1 hx2;have hck:¬cap=k:=by omega
   have har:∀(a:Option Addr) (c:Nat) (W:World),(Instr.arrayAt 317 (.slice a (n-k) c)).run Tryz.prog W=.ok (.pointer a) W:=fun a c W=>run_arrayAt _ _ _ _ _ _ _ Tryz.underlying317 (by omega)
   have HP2:Hid (Pas No w1.drew p mb base b o n cap bs k):=(Aa HP1).drewN 1;obtain⟨a,c,L,hL,hlook,hLk,hcells⟩:=(Aa HP2).row3 (Aa HG).byte (by omega) x0 x1 x2 (Aa HX);have HLn:=Ab hL;have HC:=Ab hcells;clear hL hcells;go_wp2;go_big_region
   clear b0 b1 b2 har hlook d1 hmi;have BY:=Ab (Aa HG).byte;have HA:Hid (Han bs k (plc bs k (He bs k)) (L-L) 0 0):=.inl ⟨by omega,rfl,rfl⟩
   have H3:Hid (∀j,j<(plc bs k (He bs k)).length->3<=lcp bs ((plc bs k (He bs k)).getD j 0) k (mst bs.length k)):=by
    intro j hj;refine(BG ?_).1 (KR bs k (He bs k) hj).2;rw[Aa HL,<-Aa HM];exact hm3
   have HLT:=Ab (fun j (hj:j<L)=>(KR bs k (He bs k) (j:=j) (by rw[Aa HLn];exact hj)).1);have HE:Hid (∀q x y,Han bs k (plc bs k (He bs k)) q x y->(q=L\/x=m)->lng bs k=(x,y)):=fun q x y h he=>h.lng (by rw[Aa HL,<-Aa HM];exact hm3) (by rw[Aa HL,<-Aa HM,Aa HLn];exact he)
   have EM:Hid (mst bs.length k=m):=by rw[Aa HL];exact(Aa HM).symm
   have dR:=(Aa HP2).row;have DR:=Ab dR;clear dR;generalize plc bs k (He bs k)=zs at*;go_wp2;go_loopw [4,5,8] (fun v4 v5 v8 wr=>∃t x y q:Nat,t<=L/\v8=.int .i64 ((t:Int)-1)/\v4=.int .i64 (x:Int)/\v5=.int .i64 (y:Int)/\Han bs k zs (L-t) x y/\wr=w1.drewN q) (fun _ _ v8 _=>((intOf v8)+1).toNat)
   case atStart=>exact⟨L,0,0,1,VC _,rfl,rfl,rfl,Aa HA,rfl⟩
   case round=>
    obtain⟨t,x,y,q,ht,rfl,rfl,rfl,hH,rfl⟩:=hrel;have HH:=Ab hH;have hxm:x<=m:=by have:=hH.le.1;rw[Aa EM]at this;exact this
    clear hH
    by_cases hgo:0<t/\x<m
    . obtain⟨h0,hxlt⟩:=hgo;obtain⟨t,rfl⟩:∃t',t=t'+1:=⟨t-1,by omega⟩
      obtain⟨g,rfl,hc⟩:=Aa HC t (by omega);have hc':w1.cell? ⟨g,t,none⟩=some (.int .i64 ((zs.getD t 0:Nat):Int)):=hc;have hzk:=Aa HLT t (by omega);have ez:zs.length-1-(L-(t+1))=t:=by rw[Aa HLn];omega
      obtain⟨r,hrr⟩:∃r,r=if bs.getD (zs.getD t 0+x) 0=bs.getD (k+x) 0 then lcp bs (zs.getD t 0) k m else 0:=⟨_,rfl⟩
      have HS:=Ab (LP p b o n cap (zs.getD t 0) k x m bs (w1.drewN q) d0 (Aa DR) (Aa HL) (by omega) (Aa BY) hzk hxlt hmk r hrr)
      have HW:Hid ((r<=x->Han bs k zs (L-t) x y)/\(x<r->Han bs k zs (L-t) r (k-zs.getD t 0))):=by
       have hm':=(Aa HH).more (by rw[Aa HLn];omega) (Aa H3);have hl':=(Aa HH).less (by rw[Aa HLn];omega) (Aa H3);rw[ez,show L-(t+1)+1=L-t by omega,Aa EM]at hm' hl'
       constructor
       . intro h;refine hl' ?_
         by_cases e:bs.getD (zs.getD t 0+x) 0=bs.getD (k+x) 0
         . rw[if_pos e]at hrr;omega
         . exact D6 e
       . intro h
         have e:bs.getD (zs.getD t 0+x) 0=bs.getD (k+x) 0:=by
          by_cases e:bs.getD (zs.getD t 0+x) 0=bs.getD (k+x) 0
          . exact e
          . rw[if_neg e]at hrr;omega
         rw[if_pos e]at hrr;rw[hrr]at h ⊢;exact hm' h
      have hrm:r<=m:=by
       rw[hrr];split
       . exact Rb _ _ _ _
       . omega
      clear hrr hc ez;generalize zs.getD t 0=z at*;go_wp2_with fail
      refine(Aa HS).mono ?_;rintro e w2 ⟨rfl,q2,rfl⟩
      by_cases hrx:x<r
      . have HF:=Ab ((Aa HW).2 hrx);go_wp2;go_quiet (fail)
        go_wp2;go_roundw
        case rel=>exact⟨t,r,k-z,_,by omega,by go_num,rfl,by go_num,Aa HF,rfl⟩
        case measure=>(simp[intOf];try omega)
      . have HF:=Ab ((Aa HW).1 (by omega));go_wp2;go_roundw
        case rel=>exact⟨t,x,y,_,by omega,by go_num,rfl,rfl,Aa HF,rfl⟩
        case measure=>(simp[intOf];try omega)
    . have hd:lng bs k=(x,y):=Aa HE (L-t) x y (Aa HH) (by omega);rw[Aa hr]at hd;obtain⟨rfl,rfl⟩:rn=x/\rf=y:=by simpa using hd
      by_cases h0:0<t
      . have hxm2:rn=m:=by omega
        obtain⟨t,rfl⟩:∃t',t=t'+1:=⟨t-1,by omega⟩
        subst hxm2;go_wp2;go_ret2;exact⟨rfl,⟨k,VC _,(Aa HP1).drewN q⟩,Af (Aa HB1) q,Aa HK1⟩
      . obtain rfl:t=0:=by omega
        go_wp2;go_ret2;exact⟨rfl,⟨k,VC _,(Aa HP1).drewN q⟩,Af (Aa HB1) q,Aa HK1⟩
def tcs (t:Tk):List Value:= [.int .u8 (t.1:Int),.int .i64 t.2.1,.int .i64 t.2.2]
def tvs (l:List Tk):List Value:=l.flatMap tcs
def Toks (w:World)(b o:Nat)(l:List Tk):Prop:=∀j,j<l.length->w.cell? ⟨b,o+j*3,none⟩=some (.int .u8 ((l.getD j (0,0,0)).1:Int))/\w.cell? ⟨b,o+j*3+1,none⟩=some (.int .i64 (l.getD j (0,0,0)).2.1)/\w.cell? ⟨b,o+j*3+2,none⟩=some (.int .i64 (l.getD j (0,0,0)).2.2)
def TokIn (w:World)(a:Option Addr)(l:List Tk):Prop:=l= []\/∃b o,a=some ⟨b,o,none⟩/\b<w.heap.size/\Toks w b o l
theorem Tr (l:List Tk):(tvs l).length=l.length*3:=by
 induction l with
 |nil=>rfl
 |cons t r ih=>
  have:tvs (t::r)=tcs t++tvs r:=rfl
  rw[this,VB,ih,VH];show 3+r.length*3=_
  omega
theorem Ts (l r:List Tk):tvs (l++r)=tvs l++tvs r:=by simp[tvs]
theorem Z4q (l:List Tk)(j:Nat)(hj:j<l.length):(tvs l)[j*3]? =some (.int .u8 ((l.getD j (0,0,0)).1:Int))/\(tvs l)[j*3+1]? =some (.int .i64 (l.getD j (0,0,0)).2.1)/\(tvs l)[j*3+2]? =some (.int .i64 (l.getD j (0,0,0)).2.2):=by
 induction l generalizing j with
 |nil=>simp at hj
 |cons t r ih=>
  have e:tvs (t::r)=tcs t++tvs r:=rfl
  match j with
  |0=>rw[e];exact⟨rfl,rfl,rfl⟩
  |j+1=>
   have hj':j<r.length:=by simpa using hj
   obtain⟨h1,h2,h3⟩:=ih j hj';have hl:(tcs t).length=3:=rfl;refine⟨?_, ?_, ?_⟩
   . rw[e,VY (by rw[hl];omega),hl,show (j+1)*3-3=j*3 by omega,h1];rfl
   . rw[e,VY (by rw[hl];omega),hl,show (j+1)*3+1-3=j*3+1 by omega,h2];rfl
   . rw[e,VY (by rw[hl];omega),hl,show (j+1)*3+2-3=j*3+2 by omega,h3];rfl
theorem TokIn.own {w:World}{B g n cap:Nat}{l:List Tk}(h:w.ownsRow B 248 3 (.slice (some ⟨g,0,none⟩) n cap) n (tvs l)):TokIn w (some ⟨g,0,none⟩) l:=by
 refine .inr ⟨g,0,rfl,(h.lt g rfl).2, ?_⟩;intro j hj;have hn:l.length=n:=by have:=h.1;rw[Tr]at this;omega
 obtain⟨h1,h2,h3⟩:=Z4q l j hj;refine⟨?_, ?_, ?_⟩
 . rw[WI,h.cellAt _ (by omega)];simp[List.getD,h1]
 . rw[WI,h.cellAt _ (by omega)];simp[List.getD,h2]
 . rw[WI,h.cellAt _ (by omega)];simp[List.getD,h3]
theorem Toks.below {w w':World}{B b o:Nat}{l:List Tk}(h:Toks w b o l)(hB:Below B w w')(hb:b<B):Toks w' b o l:=by
 intro j hj;obtain⟨h1,h2,h3⟩:=h j hj;exact⟨(hB.cell (p:=⟨b,_,none⟩) hb).trans h1,(hB.cell (p:=⟨b,_,none⟩) hb).trans h2,(hB.cell (p:=⟨b,_,none⟩) hb).trans h3⟩
theorem TokIn.below {w w':World}{B:Nat}{a:Option Addr}{l:List Tk}(h:TokIn w a l)(hB:Below B w w')(hb:w.heap.size<=B):TokIn w' a l:=by
 rcases h with h|⟨b,o,h1,h2,h3⟩
 . exact .inl h
 . exact .inr ⟨b,o,h1,VK h2 hB.size,h3.below hB (by omega)⟩
theorem TokIn.alloc {w:World}{a:Option Addr}{l:List Tk}(h:TokIn w a l)(x:Obj):TokIn (w.alloc x) a l:=
 h.below ((Below.refl w.heap.size w).alloc (VC _) x) (VC _)
theorem BK:(Tryz.prog.info? 248).map (fun i=>(i.zero,i.size,i.bytes))=some (some (.agg #[.int .u8 0,.int .i64 0,.int .i64 0]),3,24):=by kernel_rfl
theorem W5 (b:Nat)(s f:Int)(w:World)(m:Nat)(hm:max s 1=(m:Int)):
 Calls Tryz.prog 187 #[.agg #[.int .u8 (b:Int),.int .i64 s,.int .i64 f]] w fun e w'=>e=.returned (.int .i64 (m:Int))/\w.grownBy w' none:=by
 have hm':(if 1<s then s else 1)=(m:Int):=by split<;>omega
 have hm2:(if s<1 then 1 else s)=(m:Int):=by split<;>omega
 go_enter Tryz.func187,Tryz.ntmps187
 go_wp2;go_ret;exact⟨rfl,World.grownBy_alloc w _ none⟩
theorem Qx (a:Option Addr)(n cap:Nat)(w:World):
 Calls Tryz.prog 185 #[.slice a n cap] w fun e w'=>e=.returned (.pointer (some ⟨w.heap.size+1,0,none⟩))/\w'=(w.alloc (.map #[] 0)).alloc (.cells #[.slice a n cap,.map (some w.heap.size),.int .i64 0] 296):=by
 have hmm:= @run_makeMap Tryz.prog;go_enter Tryz.func185,Tryz.ntmps185
 go_wp2;go_ret;exact⟨rfl,rfl⟩
end Go.Proofs.YtieianhejdcgdaaGreatDoor
