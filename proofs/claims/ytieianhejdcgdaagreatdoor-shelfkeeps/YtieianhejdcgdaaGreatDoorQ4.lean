import Derived.Test.YtieianhejdcgdaaGreatDoorQ3
import Derived.OwnWalk
import Derived.Deep.RegionHeld3
set_option maxHeartbeats 4000000
namespace Go.Proofs.YtieianhejdcgdaaGreatDoor
open Go.RowKit
set_option linter.unusedVariables false
theorem FX (a:Option Addr)(len cap:Nat)(w:World)(hm:288<len)(hM:len<=9223372036854775807):
 Calls Tryz.prog 262 #[.slice a len cap] w fun e w'=>e=.returned (.tuple #[.agg (arr fun _=>0),.int .i64 2])/\Below w.heap.size w w':=by
 go_enter Tryz.func262,Tryz.ntmps262
 have HR:=Ab (Arr.new w (fun _=>0) rfl);go_wp2_with (refine Ft rfl (.tmp 2) (.tmp 10) rfl _ _ (fun _=>0) rfl rfl (Aa HR) ?_)
 have HY:=Ab ((Aa HR).setRow (fun _=>0));exact bodyPost_ret (Fz rfl _ _ _ _ rfl (Aa HY)) rfl ⟨rfl,Av ((Below.refl _ _).alloc (VC _) _) (VC _) _⟩
theorem OO (a:Option Addr)(len cap:Nat)(l:List Int)(w:World)(hl:l.length=len)(hm:len<=288)(hR:RowIn .i64 w a l)(j0:Nat)(hj0:j0<len)(hbad:Wt (l.getD j0 0)=false)(hf:∀j,j<j0->Wt (l.getD j 0)=true):
 Calls Tryz.prog 262 #[.slice a len cap] w fun e w'=>e=.returned (.tuple #[.agg (arr fun _=>0),.int .i64 3])/\Below w.heap.size w w':=by
 obtain⟨b,o,rfl,hb,hR⟩:∃b o,a=some ⟨b,o,none⟩/\b<w.heap.size/\Row .i64 w b o l:=by
  rcases hR with rfl|h
  . simp at hl;omega
  . exact h
 go_enter Tryz.func262,Tryz.ntmps262
 go_wp2;simp only[GZ];have HR0:=Ab ((Arr.new w (fun _=>0) rfl).alloc (.cells (arr (fun _=>0)) 332));have HC0:=Ab (Arr.new (w.alloc (.cells (arr (fun _=>0)) 332)) (fun _=>0) (b:=w.heap.size+1) (by simp));have HB0:=Ab (((Below.refl w.heap.size w).alloc (VC _) (.cells (arr (fun _=>0)) 332)).alloc (by simp) (.cells (arr (fun _=>0)) 332));have HRow:=Ab hR;have HL:=Ab hl;clear hR;go_loopw [13] (fun i wr=>∃k:Nat,k<=j0/\i=.int .i64 k/\Arr wr w.heap.size (fun _=>0)/\Arr wr (w.heap.size+1) (cnt (l.take k))/\Below w.heap.size w wr) (fun i _=>len-(intOf i).toNat)
 case atStart=>exact⟨0,by omega,rfl,Aa HR0,Aa HC0,Aa HB0⟩
 case round=>
  obtain⟨k,hk,rfl,hA,hC,hB⟩:=hrel;have HA:=Ab hA;have HC:=Ab hC;have HB:=Ab hB;have hlk:k<l.length:=by omega
  have c1:=(hB.cell (p:=⟨b,o+k,none⟩) hb).trans (Aa HRow k hlk)
  by_cases hlt:k<j0
  . have hok:=hf k hlt;obtain⟨n,hn⟩:=WD (Hc hok).1;have hn15:=(Hc hok).2;have HX:=Ab hn;rw[hn]at c1 hn15;have hn16:n<16:=by omega
    have c2:=hC.cell hn16;have f2:=hC.frozen n;have hle:=Vd (l.take k) n;have hle2:(l.take k).length<=288:=by simp;omega
    clear hA hC hB hf hbad hok hn HR0 HC0 HB0;go_wp2;go_roundw
    case rel=>exact⟨k+1,by omega,by go_num,(Aa HA).other (by simp) _,by rw[<-Jr l hlk (Aa HX)];exact(Aa HC).set _ _,(Aa HB).setCell (by simp) _⟩
    case measure=>simp[intOf];omega
  . obtain rfl:k=j0:=by omega
    clear hA hC hB hf HR0 HC0 HB0;generalize l.getD k 0=x at*;have hno:=Kf hbad;have hg:x<0\/15<x:=by omega
    clear hno hbad
    rcases hg with hg|hg
    . go_wp2_with (refine Ft rfl (.tmp 2) (.tmp 23) rfl _ _ (fun _=>0) rfl rfl (Aa HA) ?_)
      have HY:=Ab ((Aa HA).setRow (fun _=>0));exact bodyPost_ret (Fz rfl _ _ _ _ rfl (Aa HY)) rfl ⟨rfl,Av (Aa HB) (VC _) _⟩
    . have hg0:¬(x<0):=by omega
      go_wp2_with (refine Ft rfl (.tmp 2) (.tmp 23) rfl _ _ (fun _=>0) rfl rfl (Aa HA) ?_)
      have HY:=Ab ((Aa HA).setRow (fun _=>0));exact bodyPost_ret (Fz rfl _ _ _ _ rfl (Aa HY)) rfl ⟨rfl,Av (Aa HB) (VC _) _⟩
theorem FY (a:Option Addr)(len cap:Nat)(l:List Int)(w:World)(hl:l.length=len)(hm:len<=288)(hR:RowIn .i64 w a l)(hf:∀j,j<len->Wt (l.getD j 0)=true):
 Calls Tryz.prog 262 #[.slice a len cap] w fun e w'=>e=.returned (.tuple #[.agg (arr (if 32768<takenN (cnt l) 15 then fun _=>0 else cnt l)),.int .i64 (if 32768<takenN (cnt l) 15 then 8 else 0)])/\Below w.heap.size w w':=by
 go_enter Tryz.func262,Tryz.ntmps262
 go_wp2;simp only[GZ];have HR0:=Ab ((Arr.new w (fun _=>0) rfl).alloc (.cells (arr (fun _=>0)) 332));have HC0:=Ab (Arr.new (w.alloc (.cells (arr (fun _=>0)) 332)) (fun _=>0) (b:=w.heap.size+1) (by simp));have HB0:=Ab (((Below.refl w.heap.size w).alloc (VC _) (.cells (arr (fun _=>0)) 332)).alloc (by simp) (.cells (arr (fun _=>0)) 332));have HRow:=Ab hR;have HL:=Ab hl;clear hR;go_loopw [13] (fun i wr=>∃k:Nat,k<=len/\i=.int .i64 k/\Arr wr w.heap.size (fun _=>0)/\Arr wr (w.heap.size+1) (cnt (l.take k))/\Below w.heap.size w wr) (fun i _=>len-(intOf i).toNat)
 case atStart=>exact⟨0,by omega,rfl,Aa HR0,Aa HC0,Aa HB0⟩
 case round=>
  obtain⟨k,hk,rfl,hA,hC,hB⟩:=hrel;have HA:=Ab hA;have HC:=Ab hC;have HB:=Ab hB
  by_cases hlt:k<len
  . have hlk:k<l.length:=by omega
    obtain⟨b,o,rfl,hb,hR⟩:∃b o,a=some ⟨b,o,none⟩/\b<w.heap.size/\Row .i64 w b o l:=by
     rcases Aa HRow with rfl|h
     . simp at hlk
     . exact h
    have c1:=(hB.cell (p:=⟨b,o+k,none⟩) hb).trans (hR k hlk);have hok:=hf k hlt;obtain⟨n,hn⟩:=WD (Hc hok).1;have hn15:=(Hc hok).2;have HX:=Ab hn;rw[hn]at c1 hn15;have hn16:n<16:=by omega
    have c2:=hC.cell hn16;have f2:=hC.frozen n;have hle:=Vd (l.take k) n;have hle2:(l.take k).length<=288:=by simp;omega
    clear hA hC hB hf hok hn HR0 HC0 HB0 hR;go_wp2;go_roundw
    case rel=>exact⟨k+1,by omega,by go_num,(Aa HA).other (by simp) _,by rw[<-Jr l hlk (Aa HX)];exact(Aa HC).set _ _,(Aa HB).setCell (by simp) _⟩
    case measure=>simp[intOf];omega
  . obtain rfl:k=len:=by omega
    have hz:=hC.lt;have hall:l.take k=l:=VP (by omega);have HC1:=HC;rw[hall]at HC1;have hcl:∀n,cnt l n<=288:=fun n=>VX (Vd l n) (by omega)
    have HCL:=Ab hcl;clear hA hC hB hf HR0 HC0 HB0 HC hall hcl;go_wp2_with (refine Pb rfl (.tmp 4) rfl _ (cnt l) rfl (Aa HC1) ?_)
    refine(JJ (cnt l) wr (Aa HCL)).mono ?_;rintro e w1 ⟨rfl,hB1⟩;have HA1:=Ab ((Aa HA).below hB1 (by omega));have HC2:=Ab ((Aa HC1).below hB1 (by omega));have HB1:=Ab ((Aa HB).trans (hB1.mono (Aa HB).size));clear hB1 HA HC1 HB
    by_cases ht:32768<takenN (cnt l) 15
    . go_wp2_with (refine Ft rfl (.tmp 2) (.tmp 33) rfl _ _ (fun _=>0) rfl rfl (Aa HA1) ?_)
      have HY:=Ab ((Aa HA1).setRow (fun _=>0));exact bodyPost_ret (Fz rfl _ _ _ _ rfl (Aa HY)) rfl ⟨by first|rfl|(rw[if_pos ht,if_pos ht];rfl),Av (Aa HB1) (VC _) _⟩
    . go_wp2_with (first|(refine Pb rfl (.tmp 4) rfl _ (cnt l) rfl (Aa HC2) ?_)|(refine Ft rfl (.tmp 2) (.tmp 34) rfl _ _ (cnt l) rfl rfl (Aa HA1) ?_))
      have HY:=Ab ((Aa HA1).setRow (cnt l));exact bodyPost_ret (Fz rfl _ _ _ _ rfl (Aa HY)) rfl ⟨by first|rfl|(rw[if_neg ht,if_neg ht];rfl),Av (Aa HB1) (VC _) _⟩
theorem J7 (a:Option Addr)(len cap:Nat)(l:List Int)(w:World)(hl:l.length=len)(hM:len<=9223372036854775807)(hR:RowIn .i64 w a l):
 Calls Tryz.prog 262 #[.slice a len cap] w fun e w'=>e=.returned (.tuple #[.agg (arr (OU l)),.int .i64 (errL l)])/\Below w.heap.size w w':=by
 by_cases hm:288<len
 . have e:errL l=2:=by unfold errL;rw[if_pos (by omega)]
   have e2:OU l=fun _=>0:=by unfold OU;rw[e];rfl
   rw[e,e2];exact FX a len cap w hm hM
 . rcases Rq (fun j=>Wt (l.getD j 0)) len with hf|⟨j0,hj0,hbad,hf⟩
   . have hn:¬ ∃j,j<l.length/\Wt (l.getD j 0)=false:=by
      rintro ⟨j,hj,e⟩;have:=hf j (by omega)
      simp only[e]at this
      cases this
     have h:=FY a len cap l w hl (by omega) hR hf;have e:errL l=if 32768<takenN (cnt l) 15 then 8 else 0:=by unfold errL;rw[if_neg (by omega),if_neg hn]
     have e2:OU l=if 32768<takenN (cnt l) 15 then fun _=>0 else cnt l:=by
      unfold OU;rw[e]
      by_cases ht:32768<takenN (cnt l) 15
      . simp[ht]
      . simp[ht]
     rw[e,e2];exact h
   . have e:errL l=3:=by unfold errL;rw[if_neg (by omega),if_pos ⟨j0,by omega,hbad⟩]
     have e2:OU l=fun _=>0:=by unfold OU;rw[e];rfl
     rw[e,e2];exact OO a len cap l w hl (by omega) hR j0 hj0 hbad hf
theorem OQ (a:Option Addr)(len cap:Nat)(l:List Int)(w:World)(hl:l.length=len)(hM:len<=9223372036854775807)(hR:RowIn .i64 w a l)(he:errL l≠0):
 Calls Tryz.prog 243 #[.slice a len cap] w fun e w'=>e=.returned (.tuple #[.slice none 0 0,.int .i64 (errL l)])/\Below w.heap.size w w':=by
 have hb:(errL l !=0)=true:=by rw[bne_iff_ne];exact he
 go_enter Tryz.func243,Tryz.ntmps243
 go_wp2_with fail
 refine(J7 a len cap l w hl hM hR).mono ?_;rintro e w1 ⟨rfl,hB1⟩;have hz:=hB1.size;have HB:=Ab (hB1.alloc hz (.cells (arr (OU l)) 332));clear hB1 he;go_wp2_with (refine Qg rfl (.tmp 4) (.tmp 13) rfl w1 (fun _=>0) (OU l) rfl rfl rfl ?_)
 go_ret2;exact⟨rfl,Aa HB⟩
theorem Z5d (l:List Int)(h:Good l)(k:Nat){n:Nat}(hn:n<=15):nxt l k n<=9437472:=by
 unfold nxt
 by_cases e:n=0
 . simp[e]
 . have h1:=Ro (cnt l) (fun n=>VX (Vd l n) h.len) (k:=n-1) (by omega);have h2:n-1+1=n:=by omega
   rw[h2]at h1;have h3:=Vd (l.take k) n;have h4:(l.take k).length<=288:=by have:=h.len;simp;omega
   simp[e];omega
set_option maxRecDepth 100000 in
theorem CD (a:Option Addr)(len cap:Nat)(l:List Int)(w:World)(hl:l.length=len)(hR:RowIn .i64 w a l)(hG:Good l):
 Calls Tryz.prog 243 #[.slice a len cap] w fun e w'=>∃g,e=.returned (.tuple #[.slice (some ⟨g,0,none⟩) len len,.int .i64 0])/\
  w'.ownsRow w.heap.size 3 1 (.slice (some ⟨g,0,none⟩) len len) len (i64s (Se l len))/\Below w.heap.size w w'/\w.heap.size<=g:=by
 obtain⟨i0,hi,hz0,hz1,hz2⟩:=info_parts Cn;have hlen:=hG.len;have HG:=Ab hG;have HE:=Ab (Ix hG);have HC:=Ab (OT hG);have HCL:Hid (∀n,cnt l n<=288):=fun n=>VX (Vd l n) hG.len
 have HR:=Ab hR;have HL:=Ab hl;go_enter Tryz.func243,Tryz.ntmps243
 go_wp2_with fail
 refine(J7 a len cap l w hl (by omega) hR).mono ?_;rintro e w1 ⟨rfl,hB1⟩;rw[Aa HC,Aa HE];have hz:=hB1.size;have HB:=Ab (hB1.alloc hz (.cells (arr (cnt l)) 332));have HA:=Ab (Arr.new w1 (cnt l) rfl);clear hB1 hR hG;go_wp2_with (first|(refine Qg rfl (.tmp 4) (.tmp 13) rfl w1 (fun _=>0) (cnt l) rfl rfl rfl ?_)|(refine Pb rfl (.tmp 4) rfl _ (cnt l) rfl (Aa HA) ?_))
 refine(Tf (cnt l) _ (Aa HCL)).mono ?_;rintro e w2 ⟨rfl,hB2⟩;have hz2':=hB2.size;simp only[World.size_alloc]at hz2';have HB2:=Ab (((Aa HB).trans (hB2.mono (by simp;omega))).alloc (by omega) (.cells (arr (Bb (cnt l))) 332));have HA2:=Ab (Arr.new w2 (Bb (cnt l)) rfl);clear hB2 HA HB;go_wp2_with (first|(refine Qg rfl (.tmp 6) (.tmp 19) rfl w2 (fun _=>0) (Bb (cnt l)) rfl rfl rfl ?_)|(at_make;refine wpList_make_full _ rfl _ _ 81 rfl w.heap.size 3 i0 (.int .i64 0) 1 Tryz.underlying81 hi hz0 hz1 _ _ _ _ len rfl rfl rfl rfl (by rw[hz2];omega) (by unfold maxLen;omega) (by simp;omega) ?_))
 intro w3 hown3 hgrow3
 have e0:(madeCells #[Value.int .i64 0] len).toList=i64s (Se l 0):=by
  rw[Se,Aa HL];exact ST len
 have e1:(w2.alloc (.cells (arr (Bb (cnt l))) 332)).heap.size=w2.heap.size+1:=by simp
 rw[e0]at hown3;have HO:=Ab hown3;have HB3:=Ab ((Aa HB2).grown hgrow3 (by omega) (fun j h=>by cases h));have HA3:Hid (Arr w3 w2.heap.size (Bb (cnt l))):=(hgrow3.block w2.heap.size (by omega) (by simp)).trans (Aa HA2);have hne:w2.heap.size+1≠w2.heap.size:=by omega
 have hgl:=(hown3.lt _ rfl).2;have hb6:w.heap.size<=w2.heap.size:=by omega
 have hgw:w.heap.size<=w2.heap.size+1:=by omega
 clear hown3 hgrow3 e0 e1 HA2 HB2;generalize w2.heap.size+1=g at*;generalize w2.heap.size=b6 at*;go_wp2;go_loopw [25] (fun i wr=>∃k:Nat,k<=len/\i=.int .i64 k/\wr.ownsRow w.heap.size 3 1 (.slice (some ⟨g,0,none⟩) len len) len (i64s (Se l k))/\Arr wr b6 (nxt l k)/\Below w.heap.size w wr) (fun i _=>len-(intOf i).toNat)
 case atStart=>exact⟨0,VM _,rfl,Aa HO,(Aa HA3).congr (fun n _=>(SI l n).symm),Aa HB3⟩
 case round=>
  obtain⟨k,hk,rfl,hO,hA,hB⟩:=hrel;have HO1:=Ab hO;have HA1:=Ab hA;have HB1:=Ab hB
  by_cases hlt:k<len
  . have hlk:k<l.length:=by omega
    obtain⟨b,o,rfl,hb,hR⟩:∃b o,a=some ⟨b,o,none⟩/\b<w.heap.size/\Row .i64 w b o l:=by
     rcases Aa HR with rfl|h
     . simp at hlk
     . exact h
    have c1:=(hB.cell (p:=⟨b,o+k,none⟩) hb).trans (hR k hlk);have hok:=(Aa HG).ok k hlk;obtain⟨n,hn⟩:=WD hok.1;have hn15:=hok.2;have HX:=Ab hn;rw[hn]at c1 hn15;have hn16:n<16:=by omega
    have c2:=hA.cell hn16;obtain⟨y,hy⟩:∃y,(Se l k).getD k 0=y:=⟨_,rfl⟩
    have cg:wr.cell? ⟨g,k,none⟩=some (.int .i64 ((y:Nat):Int)):=by
     rw[hO.cellAt k (by simp;omega),<-hy];simp[List.getD,Dr,hlk]
    clear hy;have fg:=hO.frozenAt k;have hxl:=Z5d l (Aa HG) k (n:=n) (by omega);have hcode:=Mf l hn
    by_cases hn0:0<n
    . have hst:=hO.stored k (.int .i64 ((nxt l k n:Nat):Int));have hAo:=hA.other (a:=⟨g,k,none⟩) (by simp;omega) (.int .i64 ((nxt l k n:Nat):Int));have c3:=hAo.cell hn16;have f3:=hAo.frozen n;have HST:=Ab hst;have HAO:=Ab hAo;have HB4:=Ab (hB.setCell (p:=⟨g,k,none⟩) (by simp;omega) (.int .i64 ((nxt l k n:Nat):Int)));have HCO:=Ab hcode;clear hO hA hB hR hok hn hst hAo HA3 HB3 HO hcode;generalize hxx:nxt l k n=x at*;have HXX:=Ab hxx;clear hxx;go_wp2;go_roundw
      case rel=>
       refine⟨k+1,by omega,by go_num, ?_, ?_, ?_⟩
       . have e:i64s (Se l (k+1))=(i64s (Se l k)).set k (.int .i64 ((x:Nat):Int)):=by
          rw[Se,Aa HCO,i64s,List.map_set]
         rw[e];exact(Aa HST).1.kept (Ad _ b6 n _) (.inr (by simp[Value.ownBlock];omega))
       . have e:=SJ l hlk (Aa HX) hn0;rw[Aa HXX]at e;rw[<-e];exact(Aa HAO).set n (x+1)
       . exact(Aa HB4).setCell (by simp;omega) _
      case measure=>simp[intOf];omega
    . obtain rfl:n=0:=by omega
      have hc0:codeN l k=0:=by rw[hcode];rfl
      have HK:=Ab (OS l k hc0);have HK2:=Ab (SL l hlk hn);clear hO hA hB hR hok hn HA3 HB3 HO hcode hc0;go_wp2;go_roundw
      case rel=>exact⟨k+1,by omega,by go_num,by rw[Aa HK];exact Aa HO1,by rw[<-Aa HK2];exact Aa HA1,Aa HB1⟩
      case measure=>simp[intOf];omega
  . obtain rfl:k=len:=by omega
    go_wp2;go_ret2;exact⟨g,rfl,Aa HO1,Aa HB1,by omega⟩
end Go.Proofs.YtieianhejdcgdaaGreatDoor
namespace Go.Proofs.YtieianhejdcgdaaGreatDoor
open Go.RowKit Go.Maps Go.WideMaps
set_option linter.unusedVariables false
set_option maxRecDepth 100000
abbrev DecIs (w:World)(mb n:Nat)(D:DataW Unit):Prop:=w.ownsMap Tryz.prog 355 (plainElem Tryz.prog 3) mb n D
abbrev DV (gr gm:Nat):Value:=.func (.func 289) #[] #[.pointer (some ⟨gr,0,none⟩),.pointer (some ⟨gm,0,none⟩)]
structure DIs (w:World)(gr gm mb nn b:Nat)(l:List Int):Prop where
 r:w.cell? ⟨gr,0,none⟩=some (.pointer (some ⟨b,0,none⟩))
 m:w.cell? ⟨gm,0,none⟩=some (.map (some mb))
 lt:gr<w.heap.size/\gm<w.heap.size
 is:DecIs w mb nn (decD l l.length)
theorem DIs.keep {w w':World}{gr gm mb nn b:Nat}{l:List Int}(h:DIs w gr gm mb nn b l)(hs:w.heap.size<=w'.heap.size)(k1:w'.heap[gr]? =w.heap[gr]?)(k2:w'.heap[gm]? =w.heap[gm]?)(k3:w'.heap[mb]? =w.heap[mb]?):DIs w' gr gm mb nn b l:=by
 obtain⟨es,clock,hb,F,h1,h2⟩:=h.is;have:=h.lt
 exact⟨(World.cell?_of_block (a:=⟨gr,0,none⟩) k1).trans h.r,(World.cell?_of_block (a:=⟨gm,0,none⟩) k2).trans h.m,⟨by omega,by omega⟩,es,clock,k3.trans hb,F,h1,h2⟩
theorem St {w:World}{ops:Array Oper}{o:Oper}{a:Act}{K':Act->World->Prop}{Q:Exit->Act->World->Prop}{E:Prop}(hgd:o.guard=none)(m x v:Operand)(hop:o.op=Op.mapUpdate 354 m x v)(b n:Nat)(D:DataW Unit)(hm:a.eval m=.map (some b))(hown:DecIs w b n D)(hn:n<maxLen)(key val:Value)(kl:Lit)(hx:a.eval x=key)(hv:a.eval v=val)(hkey:keyOf Tryz.prog 355 key=some kl)
 (d:DataW Unit) (ps:List MemPlace) (hval:plainElem Tryz.prog 3 val=some (d,ps)) (hK:∀w',DecIs w' b (n+1) (D.put kl d)->w.grownBy w' (some b)->K' (a.put o.dst undef) w'):if Region.wanted o (yielded ops a.tmps)=true then Oper.wp Tryz.prog o a w K' Q else E:=by
 have e:Region.wanted o (yielded ops a.tmps)=true:=by unfold Region.wanted;rw[hgd]
 rw[if_pos e];obtain⟨w',hrun,r1,r2⟩:=hown.update Z6j Tryz.underlying354 hn hkey hval;unfold Oper.wp;simp[execOp,hop,hm,hx,hv,hrun,Result.andThen]
 exact hK w' r1 r2
theorem Nd (b:Nat)(a:Option Addr)(len cap:Nat)(l:List Int)(w:World)(hl:l.length=len)(hR:RowIn .i64 w a l)(hG:Good l):
 Calls Tryz.prog 278 #[.pointer (some ⟨b,0,none⟩),.slice a len cap] w fun e w'=>∃gr gm mb nn,e=.returned (DV gr gm)/\w.heap.size<=gr/\w.heap.size<=gm/\w.heap.size<=mb/\mb<w'.heap.size/\DIs w' gr gm mb nn b l/\Below w.heap.size w w':=by
 have hlen:=hG.len;have hmm:= @run_makeMap Tryz.prog;have HG:=Ab hG;have HL:=Ab hl;have HR:=Ab hR;clear hG hl hR;go_enter Tryz.func278,Tryz.ntmps278
 go_wp2_with fail
 refine(CD a len cap l _ (Aa HL) ((Aa HR).alloc _) (Aa HG)).mono ?_;rintro e w1 ⟨g,rfl,hO1,hB1,hg1⟩;have HO1:=Ab hO1;have HB1:=Ab hB1;have hz1:=hB1.size;simp only[World.size_alloc]at hz1 hg1;have hgl:=(hO1.lt g rfl).2;clear hO1 hB1;obtain⟨mb,hmb⟩:∃mb,w1.heap.size=mb:=⟨_,rfl⟩
 have HM0:Hid (DecIs ((w1.alloc (.map #[] 0)).alloc (.cells #[.map (some mb)] 354)) mb 0 (decD l 0)):=Ab (by rw[<-hmb];exact(World.ownsMap_made w1 Tryz.prog 355 (plainElem Tryz.prog 3)).alloc _)
 have HV0:Hid (((w1.alloc (.map #[] 0)).alloc (.cells #[.map (some mb)] 354)).heap[mb+1]? =some (.cells #[.map (some mb)] 354 (0,0))):=Ab (by
  have:=heap_alloc_new (w1.alloc (.map #[] 0)) (.cells #[.map (some mb)] 354)
  rw[World.size_alloc,hmb]at this;exact this)
 have HBW:Hid (Below (w.heap.size+1) (w.alloc (.cells #[.pointer (some ⟨b,0,none⟩)] 284)) ((w1.alloc (.map #[] 0)).alloc (.cells #[.map (some mb)] 354))):=Ab (by
  have h1:=Aa HB1;rw[World.size_alloc]at h1;exact(h1.alloc (by omega) _).alloc (by rw[World.size_alloc];omega) _)
 have HOW:Hid (((w1.alloc (.map #[] 0)).alloc (.cells #[.map (some mb)] 354)).ownsRow (w.heap.size+1) 3 1 (.slice (some ⟨g,0,none⟩) len len) len (i64s (Se l len))):=Ab (by
  have h1:=Aa HO1;rw[World.size_alloc]at h1;exact(h1.alloc _).alloc _)
 go_wp2;obtain⟨W2,hW2⟩:∃W2,(w1.alloc (.map #[] 0)).alloc (.cells #[.map (some mb)] 354)=W2:=⟨_,rfl⟩
 rw[hW2]at HM0 HV0 HBW HOW ⊢;have hmw:w.heap.size+1<=mb:=by omega
 have hgm:g<mb:=by omega
 have hW2s:W2.heap.size=mb+2:=by rw[<-hW2];simp;omega
 clear hW2 HO1;go_loopw [22] (fun v22 wr=>∃k n:Nat,k<=len/\n<=k/\v22=.int .i64 (k:Int)/\Hid (DecIs wr mb n (decD l k))/\Hid (W2.grownBy wr (some mb))) (fun v22 _=>len-(intOf v22).toNat)
 case atStart=>exact⟨0,0,VM _,VC _,rfl,HM0,Ab (Ap _ _)⟩
 case round=>
  obtain⟨k,n,hk,hn,rfl,HM,HGr⟩:=hrel
  by_cases hlt:k<len
  . have hkl:k<l.length:=by rw[Aa HL];exact hlt
    obtain⟨ba,oa,rfl,hba,hrow⟩:∃ba oa,a=some ⟨ba,oa,none⟩/\ba<w.heap.size/\Row .i64 w ba oa l:=by
     rcases Aa HR with h0|h0
     . rw[h0]at hkl;simp at hkl
     . exact h0
    have c1:wr.cell? ⟨ba,oa+k,none⟩=some (.int .i64 (l.getD k 0)):=(Aa HGr).cell (((Aa HBW).cell (p:=⟨ba,oa+k,none⟩) (by show ba<_;omega)).trans ((World.cell?_alloc_past _ _ _ hba).trans (hrow k hkl))) (by simp;omega)
    have c2:wr.cell? ⟨g,k,none⟩=some (.int .i64 ((codeN l k:Nat):Int)):=by
     refine(Aa HGr).cell ?_ (by simp;omega);rw[(Aa HOW).cellAt k (by omega)];have hc:=Dr l len;have hcl:k<(Se l len).length:=by rw[hc];exact hkl
     have:=Xt l (j:=k) hkl len
     rw[if_pos hlt]at this;rw[<-this];simp[i64s,List.getD,hcl]
    have c3:wr.cell? ⟨mb+1,0,none⟩=some (.map (some mb)):=(Aa HGr).cell (Ac (Aa HV0)) (by simp);obtain⟨h0,h15⟩:=(Aa HG).ok k hkl;obtain⟨m,hm⟩:=WD h0;have HD:Hid (decD l (k+1)=if An l k= []then decD l k else (decD l k).put (kb (An l k)) (.lit (.int .i64 (k:Int)))):=Ab rfl
    by_cases hm0:m=0
    . subst hm0;have hct:An l k= []:=by unfold An;rw[hm];rfl
      rw[if_pos hct]at HD;rw[hm]at c1;clear c2 c3 hct;go_wp2;go_roundw
      case rel=>exact⟨k+1,n,by omega,by omega,by go_num,Ab (by rw[Aa HD];exact Aa HM),HGr⟩
      case measure=>simp[intOf];omega
    . obtain⟨k1,k2,k3⟩:=OR (Aa HG) hkl hm (by omega);rw[if_neg k2,k1]at HD;have HKey:=Ab (Pc k3);have hwf:(Lit.int .i64 (k:Int)).wf=true:=Vo (by omega);have HPE:=Ab (plainElem_int (H:=Unit) Tryz.underlying3 hwf);rw[hm]at c1 h15;have hmI:(0:Int)<(m:Int):=by omega
      generalize codeN l k=c at*;clear k1 k2 k3 hm h0;go_wp2;refine wp_region_held_drew (S:=fun w'=>w'.cell? ⟨mb+1,0,none⟩=some (.map (some mb))/\w'.cell? ⟨g,k,none⟩=some (.int .i64 (c:Int))) (by kernel_rfl) ⟨c3,c2⟩ (fun hHeld=> ?_);refine wpAnyH_take (i:=0) (oi:= {dst:=some 29,op:=.load 354 (.tmp 7),type:=354,pos:= "reader.go:134",after:= #[],guard:=none}) (v:=.map (some mb)) rfl (by kernel_rfl) (by kernel_rfl) (by kernel_rfl) (fun _ _ _ h=>h) (Or.inl ⟨by rfl,fun W hS=>by obtain⟨h1,h2⟩:=hS;go_simp⟩) hHeld ?_;simp only[Act.put,VA,VD,VE];refine wpAnyH_take (i:=1) (oi:= {dst:=some 30,op:=.move (.tmp 9),type:=3,pos:= "reader.go:134",after:= #[],guard:=none}) (v:=.int .i64 (m:Int)) rfl (by kernel_rfl) (by kernel_rfl) (by kernel_rfl) (fun _ _ _ h=>h) (Or.inl ⟨by rfl,fun W hS=>by obtain⟨h1,h2⟩:=hS;go_simp⟩) hHeld ?_;simp only[Act.put,VA,VD,VE];refine wpAnyH_take (i:=2) (oi:= {dst:=some 31,op:=.move (.tmp 5),type:=81,pos:= "reader.go:134",after:= #[],guard:=none}) (v:=.slice (some ⟨g,0,none⟩) len len) rfl (by kernel_rfl) (by kernel_rfl) (by kernel_rfl) (fun _ _ _ h=>h) (Or.inl ⟨by rfl,fun W hS=>by obtain⟨h1,h2⟩:=hS;go_simp⟩) hHeld ?_;simp only[Act.put,VA,VD,VE];refine wpAnyH_take (i:=3) (oi:= {dst:=some 32,op:=.move (.tmp 8),type:=3,pos:= "reader.go:134",after:= #[],guard:=none}) (v:=.int .i64 (k:Int)) rfl (by kernel_rfl) (by kernel_rfl) (by kernel_rfl) (fun _ _ _ h=>h) (Or.inl ⟨by rfl,fun W hS=>by obtain⟨h1,h2⟩:=hS;go_simp⟩) hHeld ?_;simp only[Act.put,VA,VD,VE];refine wpAnyH_take (i:=4) (oi:= {dst:=some 33,op:=.indexAddr 81 (.tmp 31) (.tmp 32),type:=0,pos:= "reader.go:134",after:= #[{on:=2,ground:=.data},{on:=3,ground:=.data}],guard:=none}) (v:=.pointer (some ⟨g,k,none⟩)) rfl (by kernel_rfl) (by kernel_rfl) (by kernel_rfl) (fun _ _ _ h=>h) (Or.inl ⟨by rfl,fun W hS=>by obtain⟨h1,h2⟩:=hS;go_simp⟩) hHeld ?_;simp only[Act.put,VA,VD,VE];refine wpAnyH_take (i:=5) (oi:= {dst:=some 34,op:=.load 3 (.tmp 33),type:=3,pos:= "reader.go:134",after:= #[{on:=4,ground:=.data}],guard:=none}) (v:=.int .i64 (c:Int)) rfl (by kernel_rfl) (by kernel_rfl) (by kernel_rfl) (fun _ _ _ h=>h) (Or.inl ⟨by rfl,fun W hS=>by obtain⟨h1,h2⟩:=hS;go_simp⟩) hHeld ?_;simp only[Act.put,VA,VD,VE];refine wpAnyH_take (i:=6) (oi:= {dst:=some 35,op:=.build 355 #[(0,.tmp 30),(1,.tmp 34)],type:=355,pos:= "reader.go:134",after:= #[{on:=1,ground:=.data},{on:=5,ground:=.data}],guard:=none}) (v:=.agg #[.int .i64 (m:Int),.int .i64 (c:Int)]) rfl (by kernel_rfl) (by kernel_rfl) (by kernel_rfl) (fun _ _ _ h=>h) (Or.inl ⟨by rfl,fun W hS=>by obtain⟨h1,h2⟩:=hS;go_simp⟩) hHeld ?_;simp only[Act.put,VA,VD,VE];refine wpAnyH_take (i:=7) (oi:= {dst:=some 36,op:=.move (.tmp 8),type:=3,pos:= "reader.go:134",after:= #[],guard:=none}) (v:=.int .i64 (k:Int)) rfl (by kernel_rfl) (by kernel_rfl) (by kernel_rfl) (fun _ _ _ h=>h) (Or.inl ⟨by rfl,fun W hS=>by obtain⟨h1,h2⟩:=hS;go_simp⟩) hHeld ?_;simp only[Act.put,VA,VD,VE];refine wpAnyH_ready (rs:= [8]) (by kernel_rfl) (by simp) (AllReadyH.cons rfl (fun K hK=> ?_) AllReadyH.nil)
      refine St rfl (.tmp 29) (.tmp 35) (.tmp 36) rfl mb n (decD l k) rfl (Aa HM) (by unfold maxLen;omega) (kw (m,c)) _ (kwl (m,c)) rfl rfl (Aa HKey) _ [] (Aa HPE) ?_;intro w3 hM3 hg3;have HM3:=Ab hM3;have HG3:=Ab (Aj (Aa HGr) (show wr.grownBy w3 (some mb) from ⟨hg3.os,hg3.tape,hg3.output,hg3.size,hg3.block⟩));have z1:w3.cell? ⟨mb+1,0,none⟩=some (.map (some mb)):=hg3.cell (show wr.cell? ⟨mb+1,0,none⟩=some (.map (some mb)) from c3) (by simp);have z2:w3.cell? ⟨g,k,none⟩=some (.int .i64 (c:Int)):=hg3.cell (show wr.cell? ⟨g,k,none⟩=some (.int .i64 (c:Int)) from c2) (by simp;omega);refine hK.out _ _ ⟨z1,z2⟩ (fun hHeld3=> ?_);clear hK K hM3 hg3;refine wpAnyH_done (by kernel_rfl) ?_ _;go_wp2;go_roundw
      case rel=>exact⟨k+1,n+1,by omega,by omega,by go_num,Ab (by rw[Aa HD];exact Aa HM3),HG3⟩
      case measure=>simp[intOf];omega
  . obtain rfl:len=k:=by omega
    have HF:Hid (DIs wr w.heap.size (mb+1) mb n b l/\Below w.heap.size w wr):=Ab (by
     have hb0:(w.alloc (.cells #[.pointer (some ⟨b,0,none⟩)] 284)).cell? ⟨w.heap.size,0,none⟩=some (.pointer (some ⟨b,0,none⟩)):=by rw[cell_of_row _ _ _ _ _ _ (heap_alloc_new w _)];rfl
     have hs:=(Aa HGr).size;refine⟨⟨?_, ?_,⟨by omega,by omega⟩, ?_⟩, ?_⟩
     . exact(Aa HGr).cell (((Aa HBW).cell (p:=⟨w.heap.size,0,none⟩) (by show w.heap.size<_;omega)).trans hb0) (by simp;omega)
     . exact(Aa HGr).cell (Ac (Aa HV0)) (by simp)
     . rw[Aa HL];exact Aa HM
     . have h1:Below w.heap.size w W2:=((Below.refl w.heap.size w).alloc (VC _) _).trans ((Aa HBW).mono (by omega));exact h1.grown (Aa HGr) (by omega) (fun j h=>by cases h;omega))
    have hs:=(Aa HGr).size;go_wp2;go_ret;exact⟨_,_,mb,n,rfl,VC _,by omega,by omega,by omega,(Aa HF).1,(Aa HF).2⟩
end Go.Proofs.YtieianhejdcgdaaGreatDoor
namespace Go.Proofs.YtieianhejdcgdaaGreatDoor
set_option linter.unusedVariables false
set_option maxRecDepth 100000
theorem Tp {row:List Bool}{n:Nat}{u:US}(h:(uget row n u).2.e=0):u.e=0:=by
 unfold uget at h
 by_cases e:u.e=0
 . exact e
 . rw[if_neg e]at h;exact h
theorem Da {x:Int}{u:US}(hx:x≠0):(Ay x u).e≠0:=by
 unfold Ay
 by_cases e:u.e=0
 . rw[if_pos e];exact hx
 . rw[if_neg e];exact e
theorem Y5 {l:List Int}{row:List Bool}{u:US}(h:(uplace l row u).2.e=0):u.e=0:=by
 unfold uplace at h
 by_cases e:u.e=0
 . exact e
 . rw[if_neg e]at h;exact h
theorem Oo {row:List Bool}:∀ {ks:List Nat} {s:List Int} {u:US},(usmall row ks s u).2.e=0->u.e=0
 | [],s,u,h=>h
 |k::r,s,u,h=>by
  rw[usmall]at h;exact Tp (Oo h)
theorem Tm {row:List Bool}:∀ {ks:List Nat} {s:List Int} {u:US},(usmall row ks s u).1.length=s.length
 | [],s,u=>rfl
 |k::r,s,u=>by rw[usmall,Tm,YA]
structure Round (row:List Bool)(small:List Int)(tot:Nat)(l:List Int)(u:US):Prop where
 pe:(uplace small row u).2.e=0
 ke:(ukind row l (uplace small row u).1 (uplace small row u).2).2.2.e=0
 le:l.length+(ukind row l (uplace small row u).1 (uplace small row u).2).2.1<=tot
 st:ustep row small tot l u=(l++List.replicate (ukind row l (uplace small row u).1 (uplace small row u).2).2.1 (ukind row l (uplace small row u).1 (uplace small row u).2).1,(ukind row l (uplace small row u).1 (uplace small row u).2).2.2)
theorem Z1o {row:List Bool}{l:List Int}{k:Nat}{u:US}(h:(ukind row l k u).2.2.e=0):u.e=0:=by
 unfold ukind at h
 split at h
 . split at h
   . exact absurd h (Da (by decide))
   . exact Tp h
 . split at h
   . exact Tp h
   . split at h
     . exact Tp h
     . exact h
theorem Jg {row:List Bool}{small:List Int}{tot F:Nat}{l:List Int}{u:US}(h:u.e≠0):ulens row small tot F l u=(l,u):=by
 cases F with
 |zero=>rfl
 |succ F=>rw[ulens,if_neg (fun h2=>h h2.2)]
theorem Ka {row:List Bool}{small:List Int}{tot F:Nat}{l:List Int}{u:US}(hl:l.length<tot)(he:u.e=0)(hF:(ulens row small tot (F+1) l u).2.e=0):Round row small tot l u/\ulens row small tot (F+1) l u=ulens row small tot F (ustep row small tot l u).1 (ustep row small tot l u).2:=by
 have e1:ulens row small tot (F+1) l u=ulens row small tot F (ustep row small tot l u).1 (ustep row small tot l u).2:=by rw[ulens,if_pos ⟨hl,he⟩]
 have e2:(ustep row small tot l u).2.e=0:=by
  by_cases e:(ustep row small tot l u).2.e=0
  . exact e
  . rw[e1,Jg e]at hF;exact absurd hF e
 refine⟨?_,e1⟩;unfold ustep Sr at e2;simp only at e2
 by_cases hc:(ukind row l (uplace small row u).1 (uplace small row u).2).2.2.e=0/\tot<l.length+(ukind row l (uplace small row u).1 (uplace small row u).2).2.1
 . rw[if_pos hc]at e2;exact absurd e2 (Da (by decide))
 . rw[if_neg hc]at e2;refine⟨Z1o e2,e2,by omega, ?_⟩;unfold ustep Sr;rw[if_neg hc]
theorem Yw {row:List Bool}{small:List Int}{tot:Nat}:∀(F:Nat) (l:List Int) (u:US),tot<=l.length+F->l.length<=tot->u.e=0->(ulens row small tot F l u).2.e=0->(∀l u,Round row small tot l u->1<=(ukind row l (uplace small row u).1 (uplace small row u).2).2.1)->(ulens row small tot F l u).1.length=tot
 |0,l,u,h1,h2,he,hF,hp=>by rw[ulens];simp only;omega
 |F+1,l,u,h1,h2,he,hF,hp=>by
  by_cases hl:l.length<tot
  . obtain⟨r,e⟩:=Ka hl he hF;have h3:=hp l u r;have h4:=r.le;rw[e]at hF ⊢;rw[r.st]at hF ⊢;exact Yw F _ _ (by simp;omega) (by simp;omega) r.ke hF hp
  . rw[ulens,if_neg (fun h=>hl h.1)];simp only
    omega
theorem PY (row:List Bool)(n:Nat)(u:US):(uget row n u).1<2^n:=by
 unfold uget
 split
 . split
   . exact ZD n
   . refine VK (Lk _) (VV (by decide) ?_);rw[VL];exact ZE _ _
 . exact ZD n
theorem Yx (row:List Bool)(l:List Int)(k:Nat)(u:US):1<=(ukind row l k u).2.1/\(ukind row l k u).2.1<=138:=by
 have h2:(uget row 2 u).1<2^2:=PY row 2 u;have h3:(uget row 3 u).1<2^3:=PY row 3 u;have h7:(uget row 7 u).1<2^7:=PY row 7 u;unfold ukind
 split
 . split
   . exact⟨VC _,by simp⟩
   . simp only;omega
 . split
   . simp only;omega
   . split
     . simp only;omega
     . exact⟨VC _,by simp⟩
end Go.Proofs.YtieianhejdcgdaaGreatDoor
