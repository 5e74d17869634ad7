import Derived.Test.YtleocpdblhbimaaGreatDoorQ17
import Derived.OwnWalk
import Derived.Deep.RegionHeld3
import Derived.Maps.OwnSet
import Derived.Maps.Views
set_option linter.unusedSimpArgs false
set_option maxHeartbeats 4000000
namespace Go.Proofs.YtleocpdblhbimaaGreatDoor
open Go.RowKit
set_option linter.unusedVariables false
theorem IM (a:Option Addr)(E H:Nat)(w:World)(M:288<E)(I:E<=9223372036854775807):
 Calls Tryz.prog 254 #[.slice a E H] w fun e w'=>e=.returned (.tuple #[.agg (arr fun _=>0),.int .i64 2])/\Below w.heap.size w w':=by
 go_enter Tryz.func254,Tryz.ntmps254
 have F:=Ab (Arr.new w (fun _=>0) rfl);go_wp2_with (refine Fw rfl (.tmp 2) (.tmp 10) rfl _ _ (fun _=>0) rfl rfl (Aa F) ?_)
 have G:=Ab ((Aa F).setRow (fun _=>0));exact bodyPost_ret (Fz rfl _ _ _ _ rfl (Aa G)) rfl ⟨rfl,Bg ((Below.refl _ _).alloc (VB _) _) (VB _) _⟩
theorem QK (a:Option Addr)(G ar:Nat)(l:List Int)(w:World)(ai:l.length=G)(a3:G<=288)(M:RowIn .i64 w a l)(E:Nat)(ay:E<G)(U:Rc (l.getD E 0)=false)(ac:∀j,j<E->Rc (l.getD j 0)=true):
 Calls Tryz.prog 254 #[.slice a G ar] w fun e w'=>e=.returned (.tuple #[.agg (arr fun _=>0),.int .i64 3])/\Below w.heap.size w w':=by
 obtain⟨b,o,rfl,hb,M⟩:∃b o,a=some ⟨b,o,none⟩/\b<w.heap.size/\Row .i64 w b o l:=by
  rcases M with rfl|h
  . simp at ai;omega
  . exact h
 go_enter Tryz.func254,Tryz.ntmps254
 go_wp2;simp only[JV];have Z:=Ab ((Arr.new w (fun _=>0) rfl).alloc (.cells (arr (fun _=>0)) 328));have af:=Ab (Arr.new (w.alloc (.cells (arr (fun _=>0)) 328)) (fun _=>0) (b:=w.heap.size+1) (by simp));have ag:=Ab (((Below.refl w.heap.size w).alloc (VB _) (.cells (arr (fun _=>0)) 328)).alloc (by simp) (.cells (arr (fun _=>0)) 328));have ap:=Ab M;have ax:=Ab ai;clear M;go_loopw [13] (fun i wr=>∃k:Nat,k<=E/\i=.int .i64 k/\Arr wr w.heap.size (fun _=>0)/\Arr wr (w.heap.size+1) (cnt (l.take k))/\Below w.heap.size w wr) (fun i _=>G-(intOf i).toNat)
 case atStart=>exact⟨0,by omega,rfl,Aa Z,Aa af,Aa ag⟩
 case round=>
  obtain⟨k,az,rfl,O,H,I⟩:=hrel;have F:=Ab O;have aj:=Ab H;have aa:=Ab I;have ah:k<l.length:=by omega
  have c1:=(I.cell (p:=⟨b,o+k,none⟩) hb).trans (Aa ap k ah)
  by_cases al:k<E
  . have Y:=ac k al;obtain⟨n,hn⟩:=WF (Dw Y).1;have av:=(Dw Y).2;have au:=Ab hn;rw[hn]at c1 av;have ao:n<16:=by omega
    have c2:=H.cell ao;have f2:=H.frozen n;have a2:=Vy (l.take k) n;have a1:(l.take k).length<=288:=by simp;omega
    clear O H I ac U Y hn Z af ag;go_wp2;go_roundw
    case rel=>exact⟨k+1,by omega,by go_num,(Aa F).other (by simp) _,by rw[<-Ih l ah (Aa au)];exact(Aa aj).set _ _,(Aa aa).setCell (by simp) _⟩
    case measure=>simp[intOf];omega
  . obtain rfl:k=E:=by omega
    clear O H I ac Z af ag;generalize l.getD k 0=x at*;have ak:=Hw U;have T:x<0\/15<x:=by omega
    clear ak U
    rcases T with T|T
    . go_wp2_with (refine Fw rfl (.tmp 2) (.tmp 23) rfl _ _ (fun _=>0) rfl rfl (Aa F) ?_)
      have ae:=Ab ((Aa F).setRow (fun _=>0));exact bodyPost_ret (Fz rfl _ _ _ _ rfl (Aa ae)) rfl ⟨rfl,Bg (Aa aa) (VB _) _⟩
    . have aw:¬(x<0):=by omega
      go_wp2_with (refine Fw rfl (.tmp 2) (.tmp 23) rfl _ _ (fun _=>0) rfl rfl (Aa F) ?_)
      have ae:=Ab ((Aa F).setRow (fun _=>0));exact bodyPost_ret (Fz rfl _ _ _ _ rfl (Aa ae)) rfl ⟨rfl,Bg (Aa aa) (VB _) _⟩
theorem IO (a:Option Addr)(E aw:Nat)(l:List Int)(w:World)(ay:l.length=E)(a8:E<=288)(G:RowIn .i64 w a l)(ag:∀j,j<E->Rc (l.getD j 0)=true):
 Calls Tryz.prog 254 #[.slice a E aw] w fun e w'=>e=.returned (.tuple #[.agg (arr (if 32768<takenN (cnt l) 15 then fun _=>0 else cnt l)),.int .i64 (if 32768<takenN (cnt l) 15 then 8 else 0)])/\Below w.heap.size w w':=by
 go_enter Tryz.func254,Tryz.ntmps254
 go_wp2;simp only[JV];have af:=Ab ((Arr.new w (fun _=>0) rfl).alloc (.cells (arr (fun _=>0)) 328));have ai:=Ab (Arr.new (w.alloc (.cells (arr (fun _=>0)) 328)) (fun _=>0) (b:=w.heap.size+1) (by simp));have aj:=Ab (((Below.refl w.heap.size w).alloc (VB _) (.cells (arr (fun _=>0)) 328)).alloc (by simp) (.cells (arr (fun _=>0)) 328));have au:=Ab G;have a2:=Ab ay;clear G;go_loopw [13] (fun i wr=>∃k:Nat,k<=E/\i=.int .i64 k/\Arr wr w.heap.size (fun _=>0)/\Arr wr (w.heap.size+1) (cnt (l.take k))/\Below w.heap.size w wr) (fun i _=>E-(intOf i).toNat)
 case atStart=>exact⟨0,by omega,rfl,Aa af,Aa ai,Aa aj⟩
 case round=>
  obtain⟨k,a5,rfl,Z,F,I⟩:=hrel;have ac:=Ab Z;have Y:=Ab F;have M:=Ab I
  by_cases ap:k<E
  . have aa:k<l.length:=by omega
    obtain⟨b,o,rfl,hb,G⟩:∃b o,a=some ⟨b,o,none⟩/\b<w.heap.size/\Row .i64 w b o l:=by
     rcases Aa au with rfl|h
     . simp at aa
     . exact h
    have c1:=(I.cell (p:=⟨b,o+k,none⟩) hb).trans (G k aa);have ae:=ag k ap;obtain⟨n,hn⟩:=WF (Dw ae).1;have a1:=(Dw ae).2;have az:=Ab hn;rw[hn]at c1 a1;have ar:n<16:=by omega
    have c2:=F.cell ar;have f2:=F.frozen n;have a7:=Vy (l.take k) n;have a6:(l.take k).length<=288:=by simp;omega
    clear Z F I ag ae hn af ai aj G;go_wp2;go_roundw
    case rel=>exact⟨k+1,by omega,by go_num,(Aa ac).other (by simp) _,by rw[<-Ih l aa (Aa az)];exact(Aa Y).set _ _,(Aa M).setCell (by simp) _⟩
    case measure=>simp[intOf];omega
  . obtain rfl:k=E:=by omega
    have a4:=F.lt;have al:l.take k=l:=VV (by omega);have H:=Y;rw[al]at H;have ao:∀n,cnt l n<=288:=fun n=>VU (Vy l n) (by omega)
    have ax:=Ab ao;clear Z F I ag af ai aj Y al ao;go_wp2_with (refine Pd rfl (.tmp 4) rfl _ (cnt l) rfl (Aa H) ?_)
    refine(LD (cnt l) wr (Aa ax)).mono ?_;rintro e a3 ⟨rfl,T⟩;have O:=Ab ((Aa ac).below T (by omega));have av:=Ab ((Aa H).below T (by omega));have ak:=Ab ((Aa M).trans (T.mono (Aa M).size));clear T ac H M
    by_cases U:32768<takenN (cnt l) 15
    . go_wp2_with (refine Fw rfl (.tmp 2) (.tmp 33) rfl _ _ (fun _=>0) rfl rfl (Aa O) ?_)
      have ah:=Ab ((Aa O).setRow (fun _=>0));exact bodyPost_ret (Fz rfl _ _ _ _ rfl (Aa ah)) rfl ⟨by first|rfl|(rw[if_pos U,if_pos U];rfl),Bg (Aa ak) (VB _) _⟩
    . go_wp2_with (first|(refine Pd rfl (.tmp 4) rfl _ (cnt l) rfl (Aa av) ?_)|(refine Fw rfl (.tmp 2) (.tmp 34) rfl _ _ (cnt l) rfl rfl (Aa O) ?_))
      have ah:=Ab ((Aa O).setRow (cnt l));exact bodyPost_ret (Fz rfl _ _ _ _ rfl (Aa ah)) rfl ⟨by first|rfl|(rw[if_neg U,if_neg U];rfl),Bg (Aa ak) (VB _) _⟩
theorem N8 (a:Option Addr)(E G:Nat)(l:List Int)(w:World)(H:l.length=E)(Y:E<=9223372036854775807)(T:RowIn .i64 w a l):
 Calls Tryz.prog 254 #[.slice a E G] w fun e w'=>e=.returned (.tuple #[.agg (arr (QP l)),.int .i64 (errL l)])/\Below w.heap.size w w':=by
 by_cases hm:288<E
 . have e:errL l=2:=by unfold errL;rw[if_pos (by omega)]
   have e2:QP l=fun _=>0:=by unfold QP;rw[e];rfl
   rw[e,e2];exact IM a E G w hm Y
 . rcases Ml (fun j=>Rc (l.getD j 0)) E with F|⟨O,U,I,F⟩
   . have hn:¬ ∃j,j<l.length/\Rc (l.getD j 0)=false:=by
      rintro ⟨j,Z,e⟩;have:=F j (by omega)
      simp only[e]at this
      cases this
     have h:=IO a E G l w H (by omega) T F;have e:errL l=if 32768<takenN (cnt l) 15 then 8 else 0:=by unfold errL;rw[if_neg (by omega),if_neg hn]
     have e2:QP l=if 32768<takenN (cnt l) 15 then fun _=>0 else cnt l:=by
      unfold QP;rw[e]
      by_cases M:32768<takenN (cnt l) 15
      . simp[M]
      . simp[M]
     rw[e,e2];exact h
   . have e:errL l=3:=by unfold errL;rw[if_neg (by omega),if_pos ⟨O,by omega,I⟩]
     have e2:QP l=fun _=>0:=by unfold QP;rw[e];rfl
     rw[e,e2];exact QK a E G l w H (by omega) T O U I F
theorem QL (a:Option Addr)(E H:Nat)(l:List Int)(w:World)(I:l.length=E)(U:E<=9223372036854775807)(Y:RowIn .i64 w a l)(G:errL l≠0):
 Calls Tryz.prog 235 #[.slice a E H] w fun e w'=>e=.returned (.tuple #[.slice none 0 0,.int .i64 (errL l)])/\Below w.heap.size w w':=by
 have hb:(errL l !=0)=true:=by rw[bne_iff_ne];exact G
 go_enter Tryz.func235,Tryz.ntmps235
 go_wp2_with fail
 refine(N8 a E H l w I U Y).mono ?_;rintro e T ⟨rfl,F⟩;have O:=F.size;have M:=Ab (F.alloc O (.cells (arr (QP l)) 328));clear F G;go_wp2_with (refine Ql rfl (.tmp 4) (.tmp 13) rfl T (fun _=>0) (QP l) rfl rfl rfl ?_)
 go_ret2;exact⟨rfl,Aa M⟩
theorem Z6l (l:List Int)(E:Good l)(k:Nat){n:Nat}(I:n<=15):nxt l k n<=9437472:=by
 unfold nxt
 by_cases e:n=0
 . simp[e]
 . have F:=Ry (cnt l) (fun n=>VU (Vy l n) E.len) (k:=n-1) (by omega);have G:n-1+1=n:=by omega
   rw[G]at F;have M:=Vy (l.take k) n;have H:(l.take k).length<=288:=by have:=E.len;simp;omega
   simp[e];omega
set_option maxRecDepth 100000 in
theorem DM (a:Option Addr)(E aw:Nat)(l:List Int)(w:World)(ay:l.length=E)(G:RowIn .i64 w a l)(I:Good l):
 Calls Tryz.prog 235 #[.slice a E aw] w fun e w'=>∃g,e=.returned (.tuple #[.slice (some ⟨g,0,none⟩) E E,.int .i64 0])/\
  w'.ownsRow w.heap.size 3 1 (.slice (some ⟨g,0,none⟩) E E) E (i64s (St l E))/\Below w.heap.size w w'/\w.heap.size<=g:=by
 obtain⟨bi,hi,bh,bk,bd⟩:=info_parts Bv;have cg:=I.len;have ap:=Ab I;have bf:=Ab (J6 I);have a5:=Ab (QO I);have bm:Hid (∀n,cnt l n<=288):=fun n=>VU (Vy l n) I.len
 have bj:=Ab G;have a7:=Ab ay;go_enter Tryz.func235,Tryz.ntmps235
 go_wp2_with fail
 refine(N8 a E aw l w ay (by omega) G).mono ?_;rintro e ak ⟨rfl,ai⟩;rw[Aa a5,Aa bf];have bc:=ai.size;have av:=Ab (ai.alloc bc (.cells (arr (cnt l)) 328));have al:=Ab (Arr.new ak (cnt l) rfl);clear ai G I;go_wp2_with (first|(refine Ql rfl (.tmp 4) (.tmp 13) rfl ak (fun _=>0) (cnt l) rfl rfl rfl ?_)|(refine Pd rfl (.tmp 4) rfl _ (cnt l) rfl (Aa al) ?_))
 refine(Ts (cnt l) _ (Aa bm)).mono ?_;rintro e F ⟨rfl,ag⟩;have a4:=ag.size;simp only[World.size_alloc]at a4;have ax:=Ab (((Aa av).trans (ag.mono (by simp;omega))).alloc (by omega) (.cells (arr (Az (cnt l))) 328));have az:=Ab (Arr.new F (Az (cnt l)) rfl);clear ag al av;go_wp2_with (first|(refine Ql rfl (.tmp 6) (.tmp 19) rfl F (fun _=>0) (Az (cnt l)) rfl rfl rfl ?_)|(at_make;refine wpList_make_full _ rfl _ _ 76 rfl w.heap.size 3 bi (.int .i64 0) 1 Tryz.underlying76 hi bh bk _ _ _ _ E rfl rfl rfl rfl (by rw[bd];omega) (by unfold maxLen;omega) (by simp;omega) ?_))
 intro w3 aa af
 have e0:(madeCells #[Value.int .i64 0] E).toList=i64s (St l 0):=by
  rw[St,Aa a7];exact CC E
 have a6:(F.alloc (.cells (arr (Az (cnt l))) 328)).heap.size=F.heap.size+1:=by simp
 rw[e0]at aa;have ah:=Ab aa;have ae:=Ab ((Aa ax).grown af (by omega) (fun j h=>by cases h));have ac:Hid (Arr w3 F.heap.size (Az (cnt l))):=(af.block F.heap.size (by omega) (by simp)).trans (Aa az);have cd:F.heap.size+1≠F.heap.size:=by omega
 have bz:=(aa.lt _ rfl).2;have ce:w.heap.size<=F.heap.size:=by omega
 have b7:w.heap.size<=F.heap.size+1:=by omega
 clear aa af e0 a6 az ax;generalize F.heap.size+1=g at*;generalize F.heap.size=b6 at*;go_wp2;go_loopw [25] (fun i wr=>∃k:Nat,k<=E/\i=.int .i64 k/\wr.ownsRow w.heap.size 3 1 (.slice (some ⟨g,0,none⟩) E E) E (i64s (St l k))/\Arr wr b6 (nxt l k)/\Below w.heap.size w wr) (fun i _=>E-(intOf i).toNat)
 case atStart=>exact⟨0,VH _,rfl,Aa ah,(Aa ac).congr (fun n _=>(Z0o l n).symm),Aa ae⟩
 case round=>
  obtain⟨k,b5,rfl,M,O,T⟩:=hrel;have au:=Ab M;have bq:=Ab O;have aj:=Ab T
  by_cases b0:k<E
  . have H:k<l.length:=by omega
    obtain⟨b,o,rfl,hb,G⟩:∃b o,a=some ⟨b,o,none⟩/\b<w.heap.size/\Row .i64 w b o l:=by
     rcases Aa bj with rfl|h
     . simp at H
     . exact h
    have c1:=(T.cell (p:=⟨b,o+k,none⟩) hb).trans (G k H);have Y:=(Aa ap).ok k H;obtain⟨n,hn⟩:=WF Y.1;have bv:=Y.2;have bu:=Ab hn;rw[hn]at c1 bv;have ao:n<16:=by omega
    have c2:=O.cell ao;obtain⟨y,ar⟩:=exq ((St l k).getD k 0)
    have b4:wr.cell? ⟨g,k,none⟩=some (.int .i64 ((y:Nat):Int)):=by
     rw[M.cellAt k (by simp;omega),<-ar];simp[List.getD,Du,H]
    clear ar;have b9:=M.frozenAt k;have b3:=Z6l l (Aa ap) k (n:=n) (by omega);have U:=Gh l hn
    by_cases bw:0<n
    . have a1:=M.stored k (.int .i64 ((nxt l k n:Nat):Int));have Z:=O.other (a:=⟨g,k,none⟩) (by simp;omega) (.int .i64 ((nxt l k n:Nat):Int));have b8:=Z.cell ao;have ci:=Z.frozen n;have bg:=Ab a1;have bn:=Ab Z;have bo:=Ab (T.setCell (p:=⟨g,k,none⟩) (by simp;omega) (.int .i64 ((nxt l k n:Nat):Int)));have bb:=Ab U;clear M O T G Y hn a1 Z ac ae ah U;generalize a2:nxt l k n=x at*;have a9:=Ab a2;clear a2;go_wp2;go_roundw
      case rel=>
       refine⟨k+1,by omega,by go_num, ?_, ?_, ?_⟩
       . have e:i64s (St l (k+1))=(i64s (St l k)).set k (.int .i64 ((x:Nat):Int)):=by
          rw[St,Aa bb,i64s,List.map_set]
         rw[e];exact(Aa bg).1.kept (Ad _ b6 n _) (.inr (by simp[Value.ownBlock];omega))
       . have e:=Z0p l H (Aa bu) bw;rw[Aa a9]at e;rw[<-e];exact(Aa bn).set n (x+1)
       . exact(Aa bo).setCell (by simp;omega) _
      case measure=>simp[intOf];omega
    . obtain rfl:n=0:=by omega
      have a3:codeN l k=0:=by rw[U];rfl
      have a8:=Ab (QN l k a3);have ba:=Ab (Z0q l H hn);clear M O T G Y hn ac ae ah U a3;go_wp2;go_roundw
      case rel=>exact⟨k+1,by omega,by go_num,by rw[Aa a8];exact Aa au,by rw[<-Aa ba];exact Aa bq,Aa aj⟩
      case measure=>simp[intOf];omega
  . obtain rfl:k=E:=by omega
    go_wp2;go_ret2;exact⟨g,rfl,Aa au,Aa aj,by omega⟩
end Go.Proofs.YtleocpdblhbimaaGreatDoor
namespace Go.Proofs.YtleocpdblhbimaaGreatDoor
open Go.RowKit Go.Maps Go.WideMaps
set_option linter.unusedVariables false
set_option maxRecDepth 100000
abbrev DecIs (w:World)(mb n:Nat)(D:DataW Unit):Prop:=w.ownsMap Tryz.prog 351 (plainElem Tryz.prog 3) mb n D
abbrev DV (gr gm:Nat):Value:=.func (.func 281) #[] #[.pointer (some ⟨gr,0,none⟩),.pointer (some ⟨gm,0,none⟩)]
structure DIs (w:World)(gr gm mb nn b:Nat)(l:List Int):Prop where
 r:w.cell? ⟨gr,0,none⟩=some (.pointer (some ⟨b,0,none⟩))
 m:w.cell? ⟨gm,0,none⟩=some (.map (some mb))
 lt:gr<w.heap.size/\gm<w.heap.size
 is:DecIs w mb nn (decD l l.length)
theorem DIs.keep {w w':World}{E G H M b:Nat}{l:List Int}(I:DIs w E G H M b l)(aa:w.heap.size<=w'.heap.size)(Z:w'.heap[E]? =w.heap[E]?)(T:w'.heap[G]? =w.heap[G]?)(U:w'.heap[H]? =w.heap[H]?):DIs w' E G H M b l:=by
 obtain⟨es,clock,hb,F,O,Y⟩:=I.is;have:=I.lt
 exact⟨(World.cell?_of_block (a:=⟨E,0,none⟩) Z).trans I.r,(World.cell?_of_block (a:=⟨G,0,none⟩) T).trans I.m,⟨by omega,by omega⟩,es,clock,U.trans hb,F,O,Y⟩
theorem Tf {w:World}{H:Array Oper}{o:Oper}{a:Act}{F:Act->World->Prop}{Q:Exit->Act->World->Prop}{E:Prop}(ag:o.guard=none)(m x v:Operand)(T:o.op=Op.mapUpdate 350 m x v)(b n:Nat)(I:DataW Unit)(af:a.eval m=.map (some b))(ae:DecIs w b n I)(M:n<maxLen)(key val:Value)(G:Lit)(U:a.eval x=key)(Z:a.eval v=val)(aa:keyOf Tryz.prog 351 key=some G)
 (d:DataW Unit) (ac:List MemPlace) (O:plainElem Tryz.prog 3 val=some (d,ac)) (hK:∀w',DecIs w' b (n+1) (I.put G d)->w.grownBy w' (some b)->F (a.put o.dst undef) w'):if Region.wanted o (yielded H a.tmps)=true then Oper.wp Tryz.prog o a w F Q else E:=by
 have e:Region.wanted o (yielded H a.tmps)=true:=by unfold Region.wanted;rw[ag]
 rw[if_pos e];obtain⟨w',Y,r1,r2⟩:=ae.update Z80 Tryz.underlying350 M aa O;unfold Oper.wp;simp[execOp,T,af,U,Z,Y,Result.andThen]
 exact hK w' r1 r2
theorem Nr (b:Nat)(a:Option Addr)(E a5:Nat)(l:List Int)(w:World)(a7:l.length=E)(a8:RowIn .i64 w a l)(ai:Good l):
 Calls Tryz.prog 270 #[.pointer (some ⟨b,0,none⟩),.slice a E a5] w fun e w'=>∃gr gm mb nn,e=.returned (DV gr gm)/\w.heap.size<=gr/\w.heap.size<=gm/\w.heap.size<=mb/\mb<w'.heap.size/\DIs w' gr gm mb nn b l/\Below w.heap.size w w':=by
 have b8:=ai.len;have b4:= @run_makeMap Tryz.prog;have al:=Ab ai;have ah:=Ab a7;have a4:=Ab a8;clear ai a7 a8;go_enter Tryz.func270,Tryz.ntmps270
 go_wp2_with fail
 refine(DM a E a5 l _ (Aa ah) ((Aa a4).alloc _) (Aa al)).mono ?_;rintro e M ⟨g,rfl,ap,au,ba⟩;have a1:=Ab ap;have a9:=Ab au;have bm:=au.size;simp only[World.size_alloc]at bm ba;have b0:=(ap.lt g rfl).2;clear ap au;obtain⟨mb,av⟩:=exq (M.heap.size);have az:Hid (DecIs ((M.alloc (.map #[] 0)).alloc (.cells #[.map (some mb)] 350)) mb 0 (decD l 0)):=Ab (by rw[<-av];exact(World.ownsMap_made M Tryz.prog 351 (plainElem Tryz.prog 3)).alloc _)
 have ag:Hid (((M.alloc (.map #[] 0)).alloc (.cells #[.map (some mb)] 350)).heap[mb+1]? =some (.cells #[.map (some mb)] 350 (0,0))):=Ab (by
  have:=heap_alloc_new (M.alloc (.map #[] 0)) (.cells #[.map (some mb)] 350)
  rw[World.size_alloc,av]at this;exact this)
 have af:Hid (Below (w.heap.size+1) (w.alloc (.cells #[.pointer (some ⟨b,0,none⟩)] 280)) ((M.alloc (.map #[] 0)).alloc (.cells #[.map (some mb)] 350))):=Ab (by
  have F:=Aa a9;rw[World.size_alloc]at F;exact(F.alloc (by omega) _).alloc (by rw[World.size_alloc];omega) _)
 have a6:Hid (((M.alloc (.map #[] 0)).alloc (.cells #[.map (some mb)] 350)).ownsRow (w.heap.size+1) 3 1 (.slice (some ⟨g,0,none⟩) E E) E (i64s (St l E))):=Ab (by
  have F:=Aa a1;rw[World.size_alloc]at F;exact(F.alloc _).alloc _)
 go_wp2;obtain⟨W2,aj⟩:=exq ((M.alloc (.map #[] 0)).alloc (.cells #[.map (some mb)] 350));rw[aj]at az ag af a6 ⊢;have b9:w.heap.size+1<=mb:=by omega
 have bz:g<mb:=by omega
 have bw:W2.heap.size=mb+2:=by rw[<-aj];simp;omega
 clear aj a1;go_loopw [22] (fun ak wr=>∃k n:Nat,k<=E/\n<=k/\ak=.int .i64 (k:Int)/\Hid (DecIs wr mb n (decD l k))/\Hid (W2.grownBy wr (some mb))) (fun ak _=>E-(intOf ak).toNat)
 case atStart=>exact⟨0,0,VH _,VB _,rfl,az,Ab (Aw _ _)⟩
 case round=>
  obtain⟨k,n,b5,hn,rfl,ar,I⟩:=hrel
  by_cases ax:k<E
  . have U:k<l.length:=by rw[Aa ah];exact ax
    obtain⟨Y,ac,rfl,bd,bg⟩:∃Y ac,a=some ⟨Y,ac,none⟩/\Y<w.heap.size/\Row .i64 w Y ac l:=by
     rcases Aa a4 with aa|aa
     . rw[aa]at U;simp at U
     . exact aa
    have c1:wr.cell? ⟨Y,ac+k,none⟩=some (.int .i64 (l.getD k 0)):=(Aa I).cell (((Aa af).cell (p:=⟨Y,ac+k,none⟩) (by show Y<_;omega)).trans ((World.cell?_alloc_past _ _ _ bd).trans (bg k U))) (by simp;omega)
    have c2:wr.cell? ⟨g,k,none⟩=some (.int .i64 ((codeN l k:Nat):Int)):=by
     refine(Aa I).cell ?_ (by simp;omega);rw[(Aa a6).cellAt k (by omega)];have hc:=Du l E;have bk:k<(St l E).length:=by rw[hc];exact U
     have:=Yp l (j:=k) U E
     rw[if_pos ax]at this;rw[<-this];simp[i64s,List.getD,bk]
    have ao:wr.cell? ⟨mb+1,0,none⟩=some (.map (some mb)):=(Aa I).cell (Ac (Aa ag)) (by simp);obtain⟨aa,bb⟩:=(Aa al).ok k U;obtain⟨m,hm⟩:=WF aa;have ae:Hid (decD l (k+1)=if codeT l k= []then decD l k else (decD l k).put (kb (codeT l k)) (.lit (.int .i64 (k:Int)))):=Ab rfl
    by_cases bq:m=0
    . subst bq;have a3:codeT l k= []:=by unfold codeT;rw[hm];rfl
      rw[if_pos a3]at ae;rw[hm]at c1;clear c2 ao a3;go_wp2;go_roundw
      case rel=>exact⟨k+1,n,by omega,by omega,by go_num,Ab (by rw[Aa ae];exact Aa ar),I⟩
      case measure=>simp[intOf];omega
    . obtain⟨k1,k2,ay⟩:=QM (Aa al) U hm (by omega);rw[if_neg k2,k1]at ae;have bh:=Ab (Pf ay);have bv:(Lit.int .i64 (k:Int)).wf=true:=Wj (by omega);have bo:=Ab (plainElem_int (H:=Unit) Tryz.underlying3 bv);rw[hm]at c1 bb;have b3:(0:Int)<(m:Int):=by omega
      generalize codeN l k=c at*;clear k1 k2 ay hm aa;go_wp2;refine wp_region_held_drew (S:=fun w'=>w'.cell? ⟨mb+1,0,none⟩=some (.map (some mb))/\w'.cell? ⟨g,k,none⟩=some (.int .i64 (c:Int))) (by kernel_rfl) ⟨ao,c2⟩ (fun T=> ?_);refine wpAnyH_take (i:=0) (oi:= {dst:=some 29,op:=.load 350 (.tmp 7),type:=350,pos:= "reader.go:134",after:= #[],guard:=none}) (v:=.map (some mb)) rfl (by kernel_rfl) (by kernel_rfl) (by kernel_rfl) (fun _ _ _ h=>h) (Or.inl ⟨by rfl,fun W G=>by obtain⟨F,Z⟩:=G;go_simp⟩) T ?_;simp only[Act.put,VA,VC,VD];refine wpAnyH_take (i:=1) (oi:= {dst:=some 30,op:=.move (.tmp 9),type:=3,pos:= "reader.go:134",after:= #[],guard:=none}) (v:=.int .i64 (m:Int)) rfl (by kernel_rfl) (by kernel_rfl) (by kernel_rfl) (fun _ _ _ h=>h) (Or.inl ⟨by rfl,fun W G=>by obtain⟨F,Z⟩:=G;go_simp⟩) T ?_;simp only[Act.put,VA,VC,VD];refine wpAnyH_take (i:=2) (oi:= {dst:=some 31,op:=.move (.tmp 5),type:=76,pos:= "reader.go:134",after:= #[],guard:=none}) (v:=.slice (some ⟨g,0,none⟩) E E) rfl (by kernel_rfl) (by kernel_rfl) (by kernel_rfl) (fun _ _ _ h=>h) (Or.inl ⟨by rfl,fun W G=>by obtain⟨F,Z⟩:=G;go_simp⟩) T ?_;simp only[Act.put,VA,VC,VD];refine wpAnyH_take (i:=3) (oi:= {dst:=some 32,op:=.move (.tmp 8),type:=3,pos:= "reader.go:134",after:= #[],guard:=none}) (v:=.int .i64 (k:Int)) rfl (by kernel_rfl) (by kernel_rfl) (by kernel_rfl) (fun _ _ _ h=>h) (Or.inl ⟨by rfl,fun W G=>by obtain⟨F,Z⟩:=G;go_simp⟩) T ?_;simp only[Act.put,VA,VC,VD];refine wpAnyH_take (i:=4) (oi:= {dst:=some 33,op:=.indexAddr 76 (.tmp 31) (.tmp 32),type:=0,pos:= "reader.go:134",after:= #[{on:=2,ground:=.data},{on:=3,ground:=.data}],guard:=none}) (v:=.pointer (some ⟨g,k,none⟩)) rfl (by kernel_rfl) (by kernel_rfl) (by kernel_rfl) (fun _ _ _ h=>h) (Or.inl ⟨by rfl,fun W G=>by obtain⟨F,Z⟩:=G;go_simp⟩) T ?_;simp only[Act.put,VA,VC,VD];refine wpAnyH_take (i:=5) (oi:= {dst:=some 34,op:=.load 3 (.tmp 33),type:=3,pos:= "reader.go:134",after:= #[{on:=4,ground:=.data}],guard:=none}) (v:=.int .i64 (c:Int)) rfl (by kernel_rfl) (by kernel_rfl) (by kernel_rfl) (fun _ _ _ h=>h) (Or.inl ⟨by rfl,fun W G=>by obtain⟨F,Z⟩:=G;go_simp⟩) T ?_;simp only[Act.put,VA,VC,VD];refine wpAnyH_take (i:=6) (oi:= {dst:=some 35,op:=.build 351 #[(0,.tmp 30),(1,.tmp 34)],type:=351,pos:= "reader.go:134",after:= #[{on:=1,ground:=.data},{on:=5,ground:=.data}],guard:=none}) (v:=.agg #[.int .i64 (m:Int),.int .i64 (c:Int)]) rfl (by kernel_rfl) (by kernel_rfl) (by kernel_rfl) (fun _ _ _ h=>h) (Or.inl ⟨by rfl,fun W G=>by obtain⟨F,Z⟩:=G;go_simp⟩) T ?_;simp only[Act.put,VA,VC,VD];refine wpAnyH_take (i:=7) (oi:= {dst:=some 36,op:=.move (.tmp 8),type:=3,pos:= "reader.go:134",after:= #[],guard:=none}) (v:=.int .i64 (k:Int)) rfl (by kernel_rfl) (by kernel_rfl) (by kernel_rfl) (fun _ _ _ h=>h) (Or.inl ⟨by rfl,fun W G=>by obtain⟨F,Z⟩:=G;go_simp⟩) T ?_;simp only[Act.put,VA,VC,VD];refine rdH (i:=8) fun K hK=> ?_
      refine Tf rfl (.tmp 29) (.tmp 35) (.tmp 36) rfl mb n (decD l k) rfl (Aa ar) (by unfold maxLen;omega) (kw (m,c)) _ (kwl (m,c)) rfl rfl (Aa bh) _ [] (Aa bo) ?_;intro w3 a2 O;have bi:=Ab a2;have bf:=Ab (Aj (Aa I) (show wr.grownBy w3 (some mb) from ⟨O.os,O.tape,O.output,O.size,O.block⟩));have bn:w3.cell? ⟨mb+1,0,none⟩=some (.map (some mb)):=O.cell (show wr.cell? ⟨mb+1,0,none⟩=some (.map (some mb)) from ao) (by simp);have bu:w3.cell? ⟨g,k,none⟩=some (.int .i64 (c:Int)):=O.cell (show wr.cell? ⟨g,k,none⟩=some (.int .i64 (c:Int)) from c2) (by simp;omega);refine hK.out _ _ ⟨bn,bu⟩ (fun b7=> ?_);clear hK K a2 O;refine wpAnyH_done (by kernel_rfl) ?_ _;go_wp2;go_roundw
      case rel=>exact⟨k+1,n+1,by omega,by omega,by go_num,Ab (by rw[Aa ae];exact Aa bi),bf⟩
      case measure=>simp[intOf];omega
  . obtain rfl:E=k:=by omega
    have aw:Hid (DIs wr w.heap.size (mb+1) mb n b l/\Below w.heap.size w wr):=Ab (by
     have bc:(w.alloc (.cells #[.pointer (some ⟨b,0,none⟩)] 280)).cell? ⟨w.heap.size,0,none⟩=some (.pointer (some ⟨b,0,none⟩)):=by rw[cell_of_row _ _ _ _ _ _ (heap_alloc_new w _)];rfl
     have bj:=(Aa I).size;refine⟨⟨?_, ?_,⟨by omega,by omega⟩, ?_⟩, ?_⟩
     . exact(Aa I).cell (((Aa af).cell (p:=⟨w.heap.size,0,none⟩) (by show w.heap.size<_;omega)).trans bc) (by simp;omega)
     . exact(Aa I).cell (Ac (Aa ag)) (by simp)
     . rw[Aa ah];exact Aa ar
     . have F:Below w.heap.size w W2:=((Below.refl w.heap.size w).alloc (VB _) _).trans ((Aa af).mono (by omega));exact F.grown (Aa I) (by omega) (fun j h=>by cases h;omega))
    have bj:=(Aa I).size;go_wp2;go_ret;exact⟨_,_,mb,n,rfl,VB _,by omega,by omega,by omega,(Aa aw).1,(Aa aw).2⟩
theorem IIs.more {No No':Nat->Prop}{B b:Nat}{w:World}{R G H:Value}{u:US}(T:IIs No B w b R G H u)(Z:¬No' b)(I:∀g,No' g->No g\/w.heap.size<=g):IIs No' B w b R G H u:=by
 obtain⟨ov,kv,Y,O,M,U,aa,ac⟩:=T.ex;refine⟨T.base,Z,ov,kv,Y,O,M,U, ?_, ?_⟩
 . intro g E F
   rcases I g F with e|e
   . exact aa g E e
   . have:=(O.lt g E).2;omega
 . intro g E F
   rcases I g F with e|e
   . exact ac g E e
   . have:=(M.lt g E).2;omega
def NI (No:Nat->Prop)(g0:Nat):Nat->Prop:=fun g=>No g\/g=g0
theorem IUp.less {No:Nat->Prop}{B b I:Nat}{w w':World}{R G H:Value}{u:US}(E:IUp (NI No I) B w b R G H u w'):IUp No B w b R G H u w':=
 ⟨E.is.more (fun e=>E.is.no (.inl e)) (fun g F=>.inl (.inl F)),E.below,E.kp.weaken (fun g F=>.inl F)⟩
theorem Rd.more {w:World}{No:Nat->Prop}{a:Option Addr}{n I:Nat}{bs:List Nat}(E:Rd w No a n bs):Rd w (NI No I) a n bs:=⟨E.len,E.few,E.byt,E.val,fun G F H e2=>.inl (E.no G F H e2)⟩
theorem IIs.aside {No:Nat->Prop}{B b E:Nat}{w:World}{R H I:Value}{u:US}(G:IIs (NI No E) B w b R H I u)(af:B<=E)(ag:E<w.heap.size)(aa:¬No E)(i:Nat)(v:Value):IIs (NI No E) B (w.setCell ⟨E,i,none⟩ v) b R H I u/\Below B w (w.setCell ⟨E,i,none⟩ v)/\Kp No w (w.setCell ⟨E,i,none⟩ v):=by
 obtain⟨ov,kv,Z,ae,ac,Y,O,T⟩:=G.ex;have F:=Ad w E i v
 have M:∀ {x:Value},(∀g,x.ownBlock=some g->¬NI No E g)->x.ownBlock=none\/x.ownBlock≠some E:=fun {x} ho=>by
  cases U:x.ownBlock with
  |none=>exact .inl rfl
  |some g=>
   refine .inr (fun e=>ho g U (.inr ?_))
   cases e
   rfl
 have hb:b≠E:=fun e=>G.no (.inr e)
 refine⟨⟨G.base,G.no,ov,kv,(F.block b G.lt (by simp;exact fun e=>hb e)).trans Z,ae.kept F (M O),ac.kept F (M T),Y,O,T⟩, ?_, ?_⟩
 . exact(Below.refl B w).grown F (by omega) (fun g e=>by cases e;exact af)
 . exact(Kp.refl No w).grown F (VB _) (fun g e=>by cases e;exact aa)
theorem SJ (w:World):(zeroValue 3).run Tryz.prog w=.ok (.int .i64 0) w:=by kernel_rfl
theorem RJ (row:List Bool)(p i:Nat)(E:p+i<row.length):(row.drop p).take (i+1)=(row.drop p).take i++ [row.getD (p+i) false]:=by
 rw[XM,XJ];simp[List.getD,E]
theorem Z6i (V x:Nat)(F:V<32768)(E:x<2):bits .or .i64 ((V:Int)*2) (x:Int)=((2*V+x:Nat):Int):=by
 have e:((V:Int)*2)=((2*V:Nat):Int):=by omega
 rw[e,Nn _ _ (by omega) (by omega)];have:=Nat.two_pow_add_eq_or_of_lt (i:=1) (b:=x) (by simpa using E) V
 rw[Nat.pow_one]at this;rw[<-this]
def TF (No:Nat->Prop)(B:Nat)(W1:World)(b:Nat)(R f1 f2:Value)(u:US)(gw gr gm mb nn:Nat)(l:List Int)(i V:Nat)(w5:World):Prop:=
 w5.heap[gw]? =some (.cells #[.int .i64 (i:Int),.int .i64 (V:Int)] 351 (0,0))/\IUp No B W1 b R f1 f2 u w5/\IIs (NI No gw) B w5 b R f1 f2 u/\DIs w5 gr gm mb nn b l
theorem OA {b E:Nat}{w wr F:World}{x y:Value}(I:Mx b wr F)(M:Mx b w wr)(H:b≠E):Mx b w ((F.setCell ⟨E,0,none⟩ x).setCell ⟨E,1,none⟩ y):=fun j G=>by
 rw[World.cell?_setCell_other _ _ _ _ (by intro e;exact H (by cases e;rfl)),World.cell?_setCell_other _ _ _ _ (by intro e;exact H (by cases e;rfl))];exact(I j G).trans (M j G)
theorem BI (No:Nat->Prop)(B b:Nat)(a:Option Addr)(n T:Nat)(bs:List Nat)(U Z:Value)(u:US)(w:World)(G:IIs No B w b (.slice a n T) U Z u)(b4:Rd w No a n bs)(cv:u.p<=8*n)(a9:u.e=0)(Y ac ae a2:Nat)(l:List Int)(bg:DIs w Y ac ae a2 b l)(dn:Good l)(bw:No Y/\No ac/\No ae)(du:∀g,w.heap.size<=g->¬No g)(k:Nat)(v:US)(dt:Hid (uplace l (rowB bs n) u=(k,v))):
 Calls Tryz.prog 281 #[.pointer (some ⟨Y,0,none⟩),.pointer (some ⟨ac,0,none⟩)] w fun e w'=>GotK No B w b (.slice a n T) U Z (.int .i64 (k:Int)) v e w':=by
 have b7:=Af bs n;have fk:=b4.few;obtain⟨ap,b5⟩:=exq (Ej l (rowB bs n) u.p 15 1)
 have ct:k=ap.1/\v= {u with e:=ap.2.2,p:=u.p+ap.2.1}:=by
  have:=Aa dt
  unfold uplace Lt at this;rw[if_pos a9,b5]at this;exact⟨(VN this).1.symm,(VN this).2.symm⟩
 have H:=Ab G;have ds:=Ab b4;have dp:=Ab bg;have cd:=Ab dn;have e1:=Ab b5;have ck:=Ab ct;have eh:=Ab du;obtain⟨dj,cy,dm⟩:=bw;have ah:=Ab (⟨dj,cy,dm⟩:No Y/\No ac/\No ae);have ej:=G.lt;have fm:=bg.lt;have fu:=bg.is.lt;obtain⟨p,cp⟩:=exq (u.p);rw[cp]at cv;have bj:=Ab cp;clear G b4 bg dn b5 ct dt du dj cy dm cp;go_enter Tryz.func281,Tryz.ntmps281
 go_wp2;obtain⟨E,bk⟩:=exq (w.heap.size);obtain⟨W1,au⟩:=exq (w.alloc (.cells #[.int .i64 0,.int .i64 0] 351));have al:Hid (Below E w W1):=Ab (by rw[<-au,<-bk];exact(Below.refl _ _).alloc (VB _) _);have fx:W1.heap.size=E+1:=by rw[<-au,<-bk];simp
 have fi:Hid (W1.heap[E]? =some (.cells #[.int .i64 0,.int .i64 0] 351 (0,0))):=Ab (by rw[<-au,<-bk];exact heap_alloc_new _ _)
 have b8:Hid (IIs (NI No E) B W1 b (.slice a n T) U Z u):=Ab (by
  rw[<-au];exact((Aa H).more (No':=NI No E) (fun e=>by rcases e with e|e;exact(Aa H).no e;omega) (fun g M=>by rcases M with e|e;exact .inl e;exact .inr (by omega))).grown (World.grownBy_alloc w _ none))
 have dx:Hid (Rd W1 No a n bs):=Ab ((Aa ds).keep (w':=W1) (by omega) (fun g M _=>(Aa al).block g (by omega)));have dd:¬No E:=Aa eh E (by omega);have ff:Hid (DIs W1 Y ac ae a2 b l):=Ab ((Aa dp).keep (by omega) ((Aa al).block Y (by omega)) ((Aa al).block ac (by omega)) ((Aa al).block ae (by omega)));have bn:B<=E:=by have:=(Aa H).base;omega
 have dy:b≠E:=by omega
 have dw:Hid (Mx b w W1):=Ab (fun j _=>by rw[<-au];exact World.cell?_alloc_past _ _ _ ej);have dq:Hid (Bl No B w W1):=Ab ⟨(Aa al).mono bn,fun g M _=>(Aa al).block g (by omega)⟩;rw[au];rw[bk];clear au ds dp;go_loopw [7] (fun cq wr=>∃i:Nat,i<=15/\cq=.int .i64 (i:Int)/\Hid (wr.heap[E]? =some (.cells #[.int .i64 (i:Int),.int .i64 ((vH (((rowB bs n).drop p).take i):Nat):Int)] 351 (0,0)))/\Hid (IUp No B W1 b (.slice a n T) U Z {u with p:=p+i} wr)/\Hid (IIs (NI No E) B wr b (.slice a n T) U Z {u with p:=p+i})/\Hid (p+i<=8*n)/\Hid (Ej l (rowB bs n) p (15-i) (i+1)=ap)/\Hid (Mx b w wr)) (fun cq _=>15-(intOf cq).toNat)
 case atStart=>exact⟨0,VH _,rfl,fi,Ab (IUp.refl (by rw[show ({u with p:=p+0}:US)=u by rw[<-Aa bj];rfl];exact(Aa b8).more (fun e=>(Aa b8).no (.inl e)) (fun g M=>.inl (.inl M)))),Ab (by rw[show ({u with p:=p+0}:US)=u by rw[<-Aa bj];rfl];exact Aa b8),Ab cv,Ab (by rw[<-Aa bj];exact Aa e1),dw⟩
 case round=>
  obtain⟨i,hi,rfl,cm,ak,dh,d7,di,et⟩:=hrel;have dr:=(Aa ak).below.size
  by_cases fq:i<15
  . have fh:=Aa d7;have cz:Rd wr (NI No E) a n bs:=((Aa dx).keep dr (Aa ak).kp).more;have cg:DIs wr Y ac ae a2 b l:=(Aa ff).keep dr ((Aa ak).kp Y (by omega) (Aa ah).1) ((Aa ak).kp ac (by omega) (Aa ah).2.1) ((Aa ak).kp ae (by omega) (Aa ah).2.2);have bi:=Ab (fun q=>BO (NI No E) B b a n T bs U Z {u with p:=p+i} (wr.drewN q) ((IUp.refl (Aa dh)).drewN q).is (cz.keep (VB _) (fun _ _ _=>rfl)) fh a9);have fe:=Ab (fun q=>(IUp.refl (Aa dh)).drewN q);have ek:=Ab cg;have dl:=cg.r;have cw:wr.cell? ⟨E,0,none⟩=some (.int .i64 (i:Int)):=Ac (Aa cm);obtain⟨V,bc⟩:=exq (vH (((rowB bs n).drop p).take i));have c6:wr.cell? ⟨E,1,none⟩=some (.int .i64 (V:Int)):=by rw[<-bc];exact Ac (Aa cm)
    have ei:V<32768:=by
     have I:=JZ (((rowB bs n).drop p).take i);rw[bc,VL]at I;exact VG I (VU (VO (by decide) (VU (ZP _ _) (show i<=15 by omega))) (by decide))
    have c7:=Ab bc;have ey:IntKind.i64.wrap ((V:Int)*2)=(V:Int)*2:=by simp[IntKind.wrap,IntKind.signed,IntKind.bits];omega
    have dz:IntKind.i64.wrap ((i:Int)+1)=(i:Int)+1:=by simp[IntKind.wrap,IntKind.signed,IntKind.bits];omega
    have fw:(i:Int)<15:=by omega
    have aj:=Aa di;rw[show 15-i=(15-(i+1))+1 by omega,Ej,b7]at aj;clear bc cg cz
    by_cases c9:p+i=8*n
    . rw[if_pos (by omega)]at aj;have a4:Hid (v.e=7):=Ab (by rw[(Aa ck).2,<-aj])
      have co:Hid (∀q,Calls Tryz.prog 248 #[.pointer (some ⟨b,0,none⟩)] (wr.drewN q) fun e w'=>e=Flt 7/\Bl No B w w'):=Ab (fun q=>(Aa bi q).mono (fun e w' M=>by
       rw[if_pos c9]at M
       rcases M with ⟨e0,_⟩|⟨_,ay,e2⟩
       . exact absurd (show (7:Int)=0 from e0) (by decide)
       . exact⟨ay,Bl.trans (Aa dq) (((Aa ak).bl.drewN q).trans (e2.weaken (fun _ G=>.inl G)))⟩))
      clear aj bi;go_wp2;refine wp_region_held_drew (S:=fun w'=>w'.cell? ⟨E,0,none⟩=some (.int .i64 (i:Int))/\w'.cell? ⟨E,1,none⟩=some (.int .i64 (V:Int))/\w'.cell? ⟨Y,0,none⟩=some (.pointer (some ⟨b,0,none⟩))) (by kernel_rfl) ⟨cw,c6,dl⟩ (fun av=> ?_);refine wpAnyH_take (i:=0) (oi:= {dst:=some 9,op:=.indexAddr 351 (.tmp 3) (.const (.int .i64 0)),type:=0,pos:= "reader.go:140",after:= #[],guard:=none}) (v:=.pointer (some ⟨E,0,none⟩)) rfl (by kernel_rfl) (by kernel_rfl) (by kernel_rfl) (fun _ _ _ G=>G) (ai.inl ⟨by rfl,fun W aa=>by obtain⟨I,ag,aw⟩:=aa;go_simp⟩) av ?_;simp only[Act.put,VA,VC,VD];refine wpAnyH_take (i:=1) (oi:= {dst:=some 10,op:=.load 3 (.tmp 9),type:=3,pos:= "reader.go:140",after:= #[{on:=0,ground:=.data}],guard:=none}) (v:=.int .i64 (i:Int)) rfl (by kernel_rfl) (by kernel_rfl) (by kernel_rfl) (fun _ _ _ G=>G) (ai.inl ⟨by rfl,fun W aa=>by obtain⟨I,ag,aw⟩:=aa;go_simp⟩) av ?_;simp only[Act.put,VA,VC,VD];refine wpAnyH_take (i:=2) (oi:= {dst:=some 11,op:=.binOp .add 3 (.tmp 10) (.const (.int .i64 1)) 3,type:=3,pos:= "reader.go:140",after:= #[{on:=1,ground:=.data}],guard:=none}) (v:=.int .i64 ((i:Int)+1)) rfl (by kernel_rfl) (by kernel_rfl) (by kernel_rfl) (fun _ _ _ G=>G) (ai.inl ⟨by rfl,fun W aa=>by obtain⟨I,ag,aw⟩:=aa;go_simp⟩) av ?_;simp only[Act.put,VA,VC,VD];refine wpAnyH_take (i:=3) (oi:= {dst:=some 12,op:=.indexAddr 351 (.tmp 3) (.const (.int .i64 1)),type:=0,pos:= "reader.go:140",after:= #[],guard:=none}) (v:=.pointer (some ⟨E,1,none⟩)) rfl (by kernel_rfl) (by kernel_rfl) (by kernel_rfl) (fun _ _ _ G=>G) (ai.inl ⟨by rfl,fun W aa=>by obtain⟨I,ag,aw⟩:=aa;go_simp⟩) av ?_;simp only[Act.put,VA,VC,VD];refine wpAnyH_take (i:=4) (oi:= {dst:=some 13,op:=.load 3 (.tmp 12),type:=3,pos:= "reader.go:140",after:= #[{on:=3,ground:=.data}],guard:=none}) (v:=.int .i64 (V:Int)) rfl (by kernel_rfl) (by kernel_rfl) (by kernel_rfl) (fun _ _ _ G=>G) (ai.inl ⟨by rfl,fun W aa=>by obtain⟨I,ag,aw⟩:=aa;go_simp⟩) av ?_;simp only[Act.put,VA,VC,VD];refine wpAnyH_take (i:=5) (oi:= {dst:=some 14,op:=.binOp .shl 3 (.tmp 13) (.const (.int .u64 1)) 66,type:=3,pos:= "reader.go:140",after:= #[{on:=4,ground:=.data}],guard:=none}) (v:=.int .i64 ((V:Int)*2)) rfl (by kernel_rfl) (by kernel_rfl) (by kernel_rfl) (fun _ _ _ G=>G) (ai.inl ⟨by rfl,fun W aa=>by obtain⟨I,ag,aw⟩:=aa;go_simp⟩) av ?_;simp only[Act.put,VA,VC,VD];refine wpAnyH_take (i:=6) (oi:= {dst:=some 15,op:=.load 280 (.tmp 0),type:=280,pos:= "reader.go:140",after:= #[],guard:=none}) (v:=.pointer (some ⟨b,0,none⟩)) rfl (by kernel_rfl) (by kernel_rfl) (by kernel_rfl) (fun _ _ _ G=>G) (ai.inl ⟨by rfl,fun W aa=>by obtain⟨I,ag,aw⟩:=aa;go_simp⟩) av ?_;simp only[Act.put,VA,VC,VD];refine rdH (i:=7) fun K hK=> ?_
      go_simp
      refine(Aa co 1).mono ?_;rintro e F ⟨rfl,d9⟩;exact And.intro rfl (ai.inr ⟨by rw[Aa a4];decide,by rw[Aa a4],d9⟩)
    . rw[if_neg (by omega)]at aj
      have em:∃x:Nat,(if Iq bs (p+i)then (1:Int)else 0)=(x:Int)/\x<2/\x=(if (rowB bs n).getD (p+i) false then 1 else 0):=by
       rw[Hf bs n (p+i) (by omega)]
       cases Iq bs (p+i)
       . exact⟨0,rfl,by decide,rfl⟩
       . exact⟨1,rfl,by decide,rfl⟩
      obtain⟨x,db,ep,c8⟩:=em
      have co:Hid (∀q,Calls Tryz.prog 248 #[.pointer (some ⟨b,0,none⟩)] (wr.drewN q) fun e w'=>e=.returned (.int .i64 (x:Int))/\IUp (NI No E) B wr b (.slice a n T) U Z {u with p:=p+(i+1)} w'/\Mx b wr w'):=Ab (fun q=>(Aa bi q).mono (fun e w' M=>by
       rw[if_neg c9]at M
       rcases M with ⟨_,ay,e2,e3⟩|⟨I,_⟩
       . exact⟨by rw[ay];exact congrArg (fun z=>Ending.returned (Value.int .i64 z)) db,(Aa fe q).trans e2,e3⟩
       . exact absurd a9 I))
      obtain⟨s,a3⟩:=exq (((rowB bs n).drop p).take (i+1))
      have bh:vH s=2*V+x:=by
       rw[<-a3,RJ _ _ _ (by rw[b7];omega),Q8,Aa c7,c8]
      have a7:s.length=i+1:=by rw[<-a3,VL,VQ,b7];omega
      have bf:s≠ []:=fun e=>by rw[e]at a7;simp at a7
      have az:Hid (keyOf Tryz.prog 351 (.agg #[.int .i64 ((i+1:Nat):Int),.int .i64 ((2*V+x:Nat):Int)])=some (kb s)):=Ab (by
       have:=Pf (okb (s:=s) (by omega))
       rw[kw,a7,bh]at this;rw[kb,a7,bh];exact this)
      have bz:Hid (Maps.has (decD l l.length) (kb s)=decide (∃q,q<l.length/\codeT l q=s)):=Ab (QC l (Sq (Aa cd)) s bf (by omega) _);have dc:Hid (∀q,q<l.length->codeT l q=s->(decD l l.length).atKey (kb s) (.lit (.int .i64 0))=.lit (.int .i64 (q:Int))):=Ab (fun q d8 e=>QD l (Sq (Aa cd)) s bf (by omega) (Sr l (Aa cd) _ bf) _ l.length (VB _) q d8 e);rw[a3]at aj;have bu:=Ab aj;have fg:=Ab a3;have fj:=Ab bh;have e7:=Z6i V x ei ep
      have cj:Hid (∀F,IUp (NI No E) B wr b (.slice a n T) U Z {u with p:=p+(i+1)} F->F.heap[E]? =some (.cells #[.int .i64 (i:Int),.int .i64 (V:Int)] 351 (0,0))):=Ab (fun F af=>by
       have:=(af.kp E (by omega) (.inr rfl)).trans (Aa cm)
       rw[Aa c7]at this;exact this)
      have b3:Hid (∀F,IUp (NI No E) B wr b (.slice a n T) U Z {u with p:=p+(i+1)} F->DIs F Y ac ae a2 b l):=Ab (fun F af=>(Aa ek).keep af.below.size (af.kp Y (by omega) (.inl (Aa ah).1)) (af.kp ac (by omega) (.inl (Aa ah).2.1)) (af.kp ae (by omega) (.inl (Aa ah).2.2)))
      have c5:Hid (∀F,IUp (NI No E) B wr b (.slice a n T) U Z {u with p:=p+(i+1)} F->((F.setCell ⟨E,0,none⟩ (.int .i64 ((i:Int)+1))).setCell ⟨E,1,none⟩ (.int .i64 (2*(V:Int)+(x:Int)))).cell? ⟨E,0,none⟩=some (.int .i64 ((i:Int)+1))/\((F.setCell ⟨E,0,none⟩ (.int .i64 ((i:Int)+1))).setCell ⟨E,1,none⟩ (.int .i64 (2*(V:Int)+(x:Int)))).cell? ⟨E,1,none⟩=some (.int .i64 (2*(V:Int)+(x:Int)))/\TF No B W1 b (.slice a n T) U Z {u with p:=p+(i+1)} E Y ac ae a2 l (i+1) (2*V+x) ((F.setCell ⟨E,0,none⟩ (.int .i64 ((i:Int)+1))).setCell ⟨E,1,none⟩ (.int .i64 (2*(V:Int)+(x:Int))))):=Ab (fun F af=>by
       have eg:=Aa cj F af;have fo:=af.below.size;have d6:=heap_setCell_same F E 0 _ _ (.int .i64 ((i:Int)+1)) eg;have g6:=heap_setCell_same _ E 1 _ _ (.int .i64 (2*(V:Int)+(x:Int))) d6;have b0:((F.setCell ⟨E,0,none⟩ (.int .i64 ((i:Int)+1))).setCell ⟨E,1,none⟩ (.int .i64 (2*(V:Int)+(x:Int)))).heap[E]? =some (.cells #[.int .i64 ((i:Int)+1),.int .i64 (2*(V:Int)+(x:Int))] 351 (0,0)):=g6;obtain⟨ee,bb,eu⟩:=af.is.aside bn (by omega) dd 0 (.int .i64 ((i:Int)+1));obtain⟨b1,b2,e9⟩:=ee.aside bn (by have:=bb.size;omega) dd 1 (.int .i64 (2*(V:Int)+(x:Int)));have bd:Kp No F ((F.setCell ⟨E,0,none⟩ (.int .i64 ((i:Int)+1))).setCell ⟨E,1,none⟩ (.int .i64 (2*(V:Int)+(x:Int)))):=eu.trans e9 bb.size;have ci:=(Aa ak).trans af.less;have en:=(bb.trans b2).size;refine⟨Ac b0,Ac b0,by rw[b0];push_cast;rfl,⟨b1.more (fun e=>b1.no (.inl e)) (fun g M=>.inl (.inl M)),ci.below.trans (bb.trans b2),ci.kp.trans bd ci.below.size⟩,b1, ?_⟩;exact(Aa b3 F af).keep en (bd Y (by omega) (Aa ah).1) (bd ac (by omega) (Aa ah).2.1) (bd ae (by omega) (Aa ah).2.2))
      have bq:Hid (∀q,Ok l s=some q->Maps.has (decD l l.length) (kb s)=true/\(decD l l.length).atKey (kb s) (.lit (.int .i64 0))=.lit (.int .i64 (q:Int))):=Ab (fun q O=>by
       have I:codeT l q=s:=by simpa using List.find?_some O
       have ag:q<l.length:=by simpa using List.mem_of_find?_eq_some O
       exact⟨by rw[Aa bz];exact decide_eq_true ⟨q,ag,I⟩,Aa dc q ag I⟩)
      have bv:Hid (∀q ar,Ok l s=some q->IUp No B W1 b (.slice a n T) U Z {u with p:=p+(i+1)} ar->Mx b w ar->GotK No B w b (.slice a n T) U Z (.int .i64 (k:Int)) v (.returned (.int .i64 (q:Int))) ar):=Ab (fun q ar O ce e5=>by
       have ao:=Aa bu;rw[O]at ao;have ao:(q,i+1,(0:Int))=ap:=ao;obtain⟨ay,e2⟩:=Aa ck;rw[<-ao]at ay e2;have e3:v= {u with p:=p+(i+1)}:=by rw[e2,Aa bj,<-a9]
       refine .inl ⟨by rw[e3];exact a9,by rw[ay], ?_⟩;rw[e3];exact⟨⟨ce.is,((Aa al).mono bn).trans ce.below,fun g M bw=>(ce.kp g (by omega) bw).trans ((Aa al).block g (by omega))⟩,e5⟩)
      have b9:Hid (Ok l s=none->Maps.has (decD l l.length) (kb s)=false/\Ej l (rowB bs n) p (15-(i+1)) (i+1+1)=ap):=Ab (fun O=>by
       have ao:=Aa bu;rw[O]at ao;refine⟨?_,ao⟩;rw[Aa bz];refine decide_eq_false ?_;rintro ⟨q,I,ag⟩;have:=List.find?_eq_none.1 O q (by simpa using I)
       simp[ag]at this)
      clear aj bi a3 bh bf a7 db c8 bu bz dc;have bo:=Aa az;push_cast at bo
      clear az;have az:=Ab bo;clear bo;go_wp2;go_region_with (go_at_call 248;refine(Aa co _).mono ?_;rintro e F ⟨rfl,ba,df⟩;have e4:=Ab df;have a1:=Aa cj _ ba;have c0:F.cell? ⟨E,0,none⟩=some (.int .i64 (i:Int)):=Ac a1;have c1:F.cell? ⟨E,1,none⟩=some (.int .i64 (V:Int)):=Ac a1;have c2:=(Aa b3 _ ba).r;have ed:F.frozen? ⟨E,0,none⟩=false:=frozen_of_row F E 0 _ _ a1;have d5:F.frozen? ⟨E,1,none⟩=false:=frozen_of_row F E 1 _ _ a1;have de:=Ab ba;have eo:=Ab a1;clear ba a1 df)
      all_goals
       obtain⟨ar,bm⟩:=exq ((F.setCell ⟨E,0,none⟩ (.int .i64 ((i:Int)+1))).setCell ⟨E,1,none⟩ (.int .i64 (2*(V:Int)+(x:Int))));have ax:=Aa c5 F (Aa de);rw[bm]at ax;rw[bm];obtain⟨d0,ft,ax⟩:=ax;have fp:=ax.2.2.2.m;have dv:Hid (Mx b w ar):=Ab (by rw[<-bm];exact OA (Aa e4) (Aa et) dy);have a8:=Ab ax;clear bm ax c0 c1 c2 ed d5 cw c6 dl de eo cj b3 c5 e7 ey dz;go_wp2_with (at_lookup;refine wpList_lookup_own_ok_int _ rfl _ _ 350 rfl 351 3 .i64 Z80 Tryz.underlying350 Tryz.underlying3 (SJ _) ae a2 (decD l l.length) rfl (Aa a8).2.2.2.is _ _ rfl (Aa az) ?_)
       intro c cu eb;have cn:=Ab cu;clear cu eb
       cases O:Ok l s with
       |some q=>
        obtain⟨a5,a6⟩:=Aa bq q O
        have hc:c=(q:Int):=by
         have:=(Aa cn).symm.trans a6
         simpa using this
        have ew:=Ab (Aa bv q ar O (Aa a8).2.1 (Aa dv));rw[a5];subst hc;clear a5 a6 cn bq bv b9 O az;go_wp2;go_ret;exact Aa ew
       |none=>
        obtain⟨a5,a6⟩:=Aa b9 O;have e8:=Ab a6;rw[a5];clear a5 a6 cn bq bv b9 O az;go_wp2;go_round
        case rel=>exact⟨i+1,by omega,by go_num,Ab (by rw[Aa fg,Aa fj];exact(Aa a8).1),Ab (Aa a8).2.1,Ab (Aa a8).2.2.1,Ab (by omega),e8,dv⟩
        case measure=>simp[intOf];omega
  . obtain rfl:i=15:=by omega
    have da:((0,0,8):Nat×Nat×Int)=ap:=Aa di;have a4:Hid (v.e=8):=Ab (by rw[(Aa ck).2,<-da]);have e6:Hid (Bl No B w wr):=Ab ((Aa dq).trans (Aa ak).bl);clear da;go_wp2;exact And.intro rfl (ai.inr ⟨by rw[Aa a4];decide,by rw[Aa a4],Aa e6⟩)
theorem LK (No:Nat->Prop)(B b:Nat)(a:Option Addr)(n M:Nat)(bs:List Nat)(G H:Value)(u:US)(w:World)(O:IIs No B w b (.slice a n M) G H u)(af:Rd w No a n bs)(ae:u.p<=8*n)(aa:u.e=0)(E F I T:Nat)(l:List Int)(ac:DIs w E F I T b l)(Y:Good l)(Z:No E/\No F/\No I)(U:∀g,w.heap.size<=g->¬No g)(k:Nat)(v:US)(ag:Hid (uplace l (rowB bs n) u=(k,v))):
 Calls Tryz.prog 281 #[.pointer (some ⟨E,0,none⟩),.pointer (some ⟨F,0,none⟩)] w fun e w'=>Got No B w b (.slice a n M) G H (.int .i64 (k:Int)) v e w':=(BI No B b a n M bs G H u w O af ae aa E F I T l ac Y Z U k v ag).mono (fun _ _ O=>O.got)
end Go.Proofs.YtleocpdblhbimaaGreatDoor
