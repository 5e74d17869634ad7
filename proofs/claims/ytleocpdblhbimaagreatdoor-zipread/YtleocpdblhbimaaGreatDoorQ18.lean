import Derived.Test.YtleocpdblhbimaaGreatDoorQ17
import Derived.OwnWalk
import Derived.Deep.RegionHeld3
import Derived.Maps.OwnSet
import Derived.Maps.Views
set_option linter.unusedSimpArgs false
set_option linter.unusedVariables false
set_option maxRecDepth 100000
set_option maxHeartbeats 4000000
namespace Go.Proofs.YtleocpdblhbimaaGreatDoor
open Go.RowKit
theorem IM (a:Option Addr)(E H:Nat)(w:World)(I:288<E)(M:E<=9223372036854775807):
 Calls Tryz.prog 254 #[.slice a E H] w fun e w'=>e=.returned (.tuple #[.agg (arr fun _=>0),.int .i64 2])/\Below w.heap.size w w':=by
 go_enter Tryz.func254,Tryz.ntmps254
 have F:=Ab (Arr.new w (fun _=>0) rfl);go_wp2_with (refine Fw rfl (.tmp 2) (.tmp 10) rfl _ _ (fun _=>0) rfl rfl (Aa F) ?_)
 have G:=Ab ((Aa F).setRow (fun _=>0));exact bodyPost_ret (Fz rfl _ _ _ _ rfl (Aa G)) rfl ⟨rfl,Bg ((Below.refl _ _).alloc (VB _) _) (VB _) _⟩
theorem QK (a:Option Addr)(F al:Nat)(l:List Int)(w:World)(ah:l.length=F)(ay:F<=288)(M:RowIn .i64 w a l)(E:Nat)(az:E<F)(af:Rc (l.getD E 0)=false)(U:∀j,j<E->Rc (l.getD j 0)=true):
 Calls Tryz.prog 254 #[.slice a F al] w fun e w'=>e=.returned (.tuple #[.agg (arr fun _=>0),.int .i64 3])/\Below w.heap.size w w':=by
 obtain⟨b,o,rfl,hb,M⟩:∃b o,a=some ⟨b,o,none⟩/\b<w.heap.size/\Row .i64 w b o l:=by
  rcases M with rfl|h
  . simp at ah;omega
  . exact h
 go_enter Tryz.func254,Tryz.ntmps254
 go_wp2;simp only[JV];have aa:=Ab ((Arr.new w (fun _=>0) rfl).alloc (.cells (arr (fun _=>0)) 328));have ac:=Ab (Arr.new (w.alloc (.cells (arr (fun _=>0)) 328)) (fun _=>0) (b:=w.heap.size+1) (by simp));have T:=Ab (((Below.refl w.heap.size w).alloc (VB _) (.cells (arr (fun _=>0)) 328)).alloc (by simp) (.cells (arr (fun _=>0)) 328));have au:=Ab M;have a2:=Ab ah;clear M;go_loopw [13] (fun i wr=>∃k:Nat,k<=E/\i=.int .i64 k/\Arr wr w.heap.size (fun _=>0)/\Arr wr (w.heap.size+1) (cnt (l.take k))/\Below w.heap.size w wr) (fun i _=>F-(intOf i).toNat)
 case atStart=>exact⟨0,by omega,rfl,Aa aa,Aa ac,Aa T⟩
 case round=>
  obtain⟨k,a1,rfl,Z,H,I⟩:=hrel;have G:=Ab Z;have ap:=Ab H;have ag:=Ab I;have ai:k<l.length:=by omega
  have c1:=(I.cell (p:=⟨b,o+k,none⟩) hb).trans (Aa au k ai)
  by_cases ao:k<E
  . have O:=U k ao;obtain⟨n,hn⟩:=WF (Dw O).1;have ar:=(Dw O).2;have aj:=Ab hn;rw[hn]at c1 ar;have ak:n<16:=by omega
    have c2:=H.cell ak;have f2:=H.frozen n;have aw:=Vy (l.take k) n;have a3:(l.take k).length<=288:=by simp;omega
    clear Z H I U af O hn aa ac T;go_wp2;go_roundw
    case rel=>exact⟨k+1,by omega,by go_num,(Aa G).other (by simp) _,by rw[<-Ih l ai (Aa aj)];exact(Aa ap).set _ _,(Aa ag).setCell (by simp) _⟩
    case measure=>simp[intOf];omega
  . obtain rfl:k=E:=by omega
    clear Z H I U aa ac T;generalize l.getD k 0=x at*;have av:=Hw af;have Y:x<0\/15<x:=by omega
    clear av af
    rcases Y with Y|Y
    . go_wp2_with (refine Fw rfl (.tmp 2) (.tmp 23) rfl _ _ (fun _=>0) rfl rfl (Aa G) ?_)
      have ae:=Ab ((Aa G).setRow (fun _=>0));exact bodyPost_ret (Fz rfl _ _ _ _ rfl (Aa ae)) rfl ⟨rfl,Bg (Aa ag) (VB _) _⟩
    . have ax:¬(x<0):=by omega
      go_wp2_with (refine Fw rfl (.tmp 2) (.tmp 23) rfl _ _ (fun _=>0) rfl rfl (Aa G) ?_)
      have ae:=Ab ((Aa G).setRow (fun _=>0));exact bodyPost_ret (Fz rfl _ _ _ _ rfl (Aa ae)) rfl ⟨rfl,Bg (Aa ag) (VB _) _⟩
theorem IO (a:Option Addr)(E av:Nat)(l:List Int)(w:World)(au:l.length=E)(a4:E<=288)(G:RowIn .i64 w a l)(aa:∀j,j<E->Rc (l.getD j 0)=true):
 Calls Tryz.prog 254 #[.slice a E av] w fun e w'=>e=.returned (.tuple #[.agg (arr (if 32768<takenN (cnt l) 15 then fun _=>0 else cnt l)),.int .i64 (if 32768<takenN (cnt l) 15 then 8 else 0)])/\Below w.heap.size w w':=by
 go_enter Tryz.func254,Tryz.ntmps254
 go_wp2;simp only[JV];have af:=Ab ((Arr.new w (fun _=>0) rfl).alloc (.cells (arr (fun _=>0)) 328));have ag:=Ab (Arr.new (w.alloc (.cells (arr (fun _=>0)) 328)) (fun _=>0) (b:=w.heap.size+1) (by simp));have Z:=Ab (((Below.refl w.heap.size w).alloc (VB _) (.cells (arr (fun _=>0)) 328)).alloc (by simp) (.cells (arr (fun _=>0)) 328));have az:=Ab G;have a7:=Ab au;clear G;go_loopw [13] (fun i wr=>∃k:Nat,k<=E/\i=.int .i64 k/\Arr wr w.heap.size (fun _=>0)/\Arr wr (w.heap.size+1) (cnt (l.take k))/\Below w.heap.size w wr) (fun i _=>E-(intOf i).toNat)
 case atStart=>exact⟨0,by omega,rfl,Aa af,Aa ag,Aa Z⟩
 case round=>
  obtain⟨k,a6,rfl,ac,F,T⟩:=hrel;have ah:=Ab ac;have ae:=Ab F;have U:=Ab T
  by_cases ax:k<E
  . have ai:k<l.length:=by omega
    obtain⟨b,o,rfl,hb,G⟩:∃b o,a=some ⟨b,o,none⟩/\b<w.heap.size/\Row .i64 w b o l:=by
     rcases Aa az with rfl|h
     . simp at ai
     . exact h
    have c1:=(T.cell (p:=⟨b,o+k,none⟩) hb).trans (G k ai);have Y:=aa k ax;obtain⟨n,hn⟩:=WF (Dw Y).1;have ay:=(Dw Y).2;have ap:=Ab hn;rw[hn]at c1 ay;have ar:n<16:=by omega
    have c2:=F.cell ar;have f2:=F.frozen n;have a3:=Vy (l.take k) n;have a8:(l.take k).length<=288:=by simp;omega
    clear ac F T aa Y hn af ag Z G;go_wp2;go_roundw
    case rel=>exact⟨k+1,by omega,by go_num,(Aa ah).other (by simp) _,by rw[<-Ih l ai (Aa ap)];exact(Aa ae).set _ _,(Aa U).setCell (by simp) _⟩
    case measure=>simp[intOf];omega
  . obtain rfl:k=E:=by omega
    have a5:=F.lt;have ao:l.take k=l:=VV (by omega);have I:=ae;rw[ao]at I;have al:∀n,cnt l n<=288:=fun n=>VU (Vy l n) (by omega)
    have a1:=Ab al;clear ac F T aa af ag Z ae ao al;go_wp2_with (refine Pd rfl (.tmp 4) rfl _ (cnt l) rfl (Aa I) ?_)
    refine(LD (cnt l) wr (Aa a1)).mono ?_;rintro e a2 ⟨rfl,O⟩;have M:=Ab ((Aa ah).below O (by omega));have aw:=Ab ((Aa I).below O (by omega));have ak:=Ab ((Aa U).trans (O.mono (Aa U).size));clear O ah I U
    by_cases H:32768<takenN (cnt l) 15
    . go_wp2_with (refine Fw rfl (.tmp 2) (.tmp 33) rfl _ _ (fun _=>0) rfl rfl (Aa M) ?_)
      have aj:=Ab ((Aa M).setRow (fun _=>0));exact bodyPost_ret (Fz rfl _ _ _ _ rfl (Aa aj)) rfl ⟨by first|rfl|(rw[if_pos H,if_pos H];rfl),Bg (Aa ak) (VB _) _⟩
    . go_wp2_with (first|(refine Pd rfl (.tmp 4) rfl _ (cnt l) rfl (Aa aw) ?_)|(refine Fw rfl (.tmp 2) (.tmp 34) rfl _ _ (cnt l) rfl rfl (Aa M) ?_))
      have aj:=Ab ((Aa M).setRow (cnt l));exact bodyPost_ret (Fz rfl _ _ _ _ rfl (Aa aj)) rfl ⟨by first|rfl|(rw[if_neg H,if_neg H];rfl),Bg (Aa ak) (VB _) _⟩
theorem N8 (a:Option Addr)(E G:Nat)(l:List Int)(w:World)(I:l.length=E)(Y:E<=9223372036854775807)(M:RowIn .i64 w a l):
 Calls Tryz.prog 254 #[.slice a E G] w fun e w'=>e=.returned (.tuple #[.agg (arr (QP l)),.int .i64 (errL l)])/\Below w.heap.size w w':=by
 by_cases hm:288<E
 . have e:errL l=2:=by unfold errL;rw[if_pos (by omega)]
   have e2:QP l=fun _=>0:=by unfold QP;rw[e];rfl
   rw[e,e2];exact IM a E G w hm Y
 . rcases Ml (fun j=>Rc (l.getD j 0)) E with F|⟨H,U,T,F⟩
   . have hn:¬ ∃j,j<l.length/\Rc (l.getD j 0)=false:=by
      rintro ⟨j,Z,e⟩;have:=F j (by omega)
      simp only[e]at this
      cases this
     have h:=IO a E G l w I (by omega) M F;have e:errL l=if 32768<takenN (cnt l) 15 then 8 else 0:=by unfold errL;rw[if_neg (by omega),if_neg hn]
     have e2:QP l=if 32768<takenN (cnt l) 15 then fun _=>0 else cnt l:=by
      unfold QP;rw[e]
      by_cases O:32768<takenN (cnt l) 15
      . simp[O]
      . simp[O]
     rw[e,e2];exact h
   . have e:errL l=3:=by unfold errL;rw[if_neg (by omega),if_pos ⟨H,by omega,T⟩]
     have e2:QP l=fun _=>0:=by unfold QP;rw[e];rfl
     rw[e,e2];exact QK a E G l w I (by omega) M H U T F
theorem QL (a:Option Addr)(E G:Nat)(l:List Int)(w:World)(O:l.length=E)(U:E<=9223372036854775807)(T:RowIn .i64 w a l)(H:errL l≠0):
 Calls Tryz.prog 235 #[.slice a E G] w fun e w'=>e=.returned (.tuple #[.slice none 0 0,.int .i64 (errL l)])/\Below w.heap.size w w':=by
 have hb:(errL l !=0)=true:=by rw[bne_iff_ne];exact H
 go_enter Tryz.func235,Tryz.ntmps235
 go_wp2_with fail
 refine(N8 a E G l w O U T).mono ?_;rintro e M ⟨rfl,F⟩;have I:=F.size;have Y:=Ab (F.alloc I (.cells (arr (QP l)) 328));clear F H;go_wp2_with (refine Ql rfl (.tmp 4) (.tmp 13) rfl M (fun _=>0) (QP l) rfl rfl rfl ?_)
 go_ret2;exact⟨rfl,Aa Y⟩
theorem Z6l (l:List Int)(E:Good l)(k:Nat){n:Nat}(M:n<=15):nxt l k n<=9437472:=by
 unfold nxt
 by_cases e:n=0
 . simp[e]
 . have G:=Ry (cnt l) (fun n=>VU (Vy l n) E.len) (k:=n-1) (by omega);have F:n-1+1=n:=by omega
   rw[F]at G;have I:=Vy (l.take k) n;have H:(l.take k).length<=288:=by have:=E.len;simp;omega
   simp[e];omega
set_option maxRecDepth 100000 in
theorem DM (a:Option Addr)(E au:Nat)(l:List Int)(w:World)(ar:l.length=E)(G:RowIn .i64 w a l)(H:Good l):
 Calls Tryz.prog 235 #[.slice a E au] w fun e w'=>∃g,e=.returned (.tuple #[.slice (some ⟨g,0,none⟩) E E,.int .i64 0])/\
  w'.ownsRow w.heap.size 3 1 (.slice (some ⟨g,0,none⟩) E E) E (i64s (St l E))/\Below w.heap.size w w'/\w.heap.size<=g:=by
 obtain⟨a6,hi,bi,bq,bk⟩:=info_parts Bv;have ce:=H.len;have ay:=Ab H;have bm:=Ab (J6 H);have bb:=Ab (QO H);have bv:Hid (∀n,cnt l n<=288):=fun n=>VU (Vy l n) H.len
 have bw:=Ab G;have bu:=Ab ar;go_enter Tryz.func235,Tryz.ntmps235
 go_wp2_with fail
 refine(N8 a E au l w ar (by omega) G).mono ?_;rintro e ao ⟨rfl,ai⟩;rw[Aa bb,Aa bm];have bn:=ai.size;have a3:=Ab (ai.alloc bn (.cells (arr (cnt l)) 328));have ax:=Ab (Arr.new ao (cnt l) rfl);clear ai G H;go_wp2_with (first|(refine Ql rfl (.tmp 4) (.tmp 13) rfl ao (fun _=>0) (cnt l) rfl rfl rfl ?_)|(refine Pd rfl (.tmp 4) rfl _ (cnt l) rfl (Aa ax) ?_))
 refine(Ts (cnt l) _ (Aa bv)).mono ?_;rintro e F ⟨rfl,ag⟩;have a7:=ag.size;simp only[World.size_alloc]at a7;have a2:=Ab (((Aa a3).trans (ag.mono (by simp;omega))).alloc (by omega) (.cells (arr (Az (cnt l))) 328));have a1:=Ab (Arr.new F (Az (cnt l)) rfl);clear ag ax a3;go_wp2_with (first|(refine Ql rfl (.tmp 6) (.tmp 19) rfl F (fun _=>0) (Az (cnt l)) rfl rfl rfl ?_)|(at_make;refine wpList_make_full _ rfl _ _ 76 rfl w.heap.size 3 a6 (.int .i64 0) 1 Tryz.underlying76 hi bi bq _ _ _ _ E rfl rfl rfl rfl (by rw[bk];omega) (by unfold maxLen;omega) (by simp;omega) ?_))
 intro w3 Z ac
 have e0:(madeCells #[Value.int .i64 0] E).toList=i64s (St l 0):=by
  rw[St,Aa bu];exact CC E
 have bf:(F.alloc (.cells (arr (Az (cnt l))) 328)).heap.size=F.heap.size+1:=by simp
 rw[e0]at Z;have ae:=Ab Z;have ah:=Ab ((Aa a2).grown ac (by omega) (fun j h=>by cases h));have af:Hid (Arr w3 F.heap.size (Az (cnt l))):=(ac.block F.heap.size (by omega) (by simp)).trans (Aa a1);have b8:F.heap.size+1≠F.heap.size:=by omega
 have b9:=(Z.lt _ rfl).2;have bz:w.heap.size<=F.heap.size:=by omega
 have cg:w.heap.size<=F.heap.size+1:=by omega
 clear Z ac e0 bf a1 a2;generalize F.heap.size+1=g at*;generalize F.heap.size=b6 at*;go_wp2;go_loopw [25] (fun i wr=>∃k:Nat,k<=E/\i=.int .i64 k/\wr.ownsRow w.heap.size 3 1 (.slice (some ⟨g,0,none⟩) E E) E (i64s (St l k))/\Arr wr b6 (nxt l k)/\Below w.heap.size w wr) (fun i _=>E-(intOf i).toNat)
 case atStart=>exact⟨0,VH _,rfl,Aa ae,(Aa af).congr (fun n _=>(Z0o l n).symm),Aa ah⟩
 case round=>
  obtain⟨k,ci,rfl,M,O,T⟩:=hrel;have aj:=Ab M;have bo:=Ab O;have ak:=Ab T
  by_cases b3:k<E
  . have I:k<l.length:=by omega
    obtain⟨b,o,rfl,hb,G⟩:∃b o,a=some ⟨b,o,none⟩/\b<w.heap.size/\Row .i64 w b o l:=by
     rcases Aa bw with rfl|h
     . simp at I
     . exact h
    have c1:=(T.cell (p:=⟨b,o+k,none⟩) hb).trans (G k I);have Y:=(Aa ay).ok k I;obtain⟨n,hn⟩:=WF Y.1;have bc:=Y.2;have a4:=Ab hn;rw[hn]at c1 bc;have al:n<16:=by omega
    have c2:=O.cell al;obtain⟨y,aw⟩:=exq ((St l k).getD k 0)
    have b5:wr.cell? ⟨g,k,none⟩=some (.int .i64 ((y:Nat):Int)):=by
     rw[M.cellAt k (by simp;omega),<-aw];simp[List.getD,Du,I]
    clear aw;have cd:=M.frozenAt k;have b0:=Z6l l (Aa ay) k (n:=n) (by omega);have aa:=Gh l hn
    by_cases bd:0<n
    . have ap:=M.stored k (.int .i64 ((nxt l k n:Nat):Int));have U:=O.other (a:=⟨g,k,none⟩) (by simp;omega) (.int .i64 ((nxt l k n:Nat):Int));have b4:=U.cell al;have b7:=U.frozen n;have bj:=Ab ap;have bg:=Ab U;have a8:=Ab (T.setCell (p:=⟨g,k,none⟩) (by simp;omega) (.int .i64 ((nxt l k n:Nat):Int)));have ba:=Ab aa;clear M O T G Y hn ap U af ah ae aa;generalize av:nxt l k n=x at*;have a9:=Ab av;clear av;go_wp2;go_roundw
      case rel=>
       refine⟨k+1,by omega,by go_num, ?_, ?_, ?_⟩
       . have e:i64s (St l (k+1))=(i64s (St l k)).set k (.int .i64 ((x:Nat):Int)):=by
          rw[St,Aa ba,i64s,List.map_set]
         rw[e];exact(Aa bj).1.kept (Ad _ b6 n _) (.inr (by simp[Value.ownBlock];omega))
       . have e:=Z0p l I (Aa a4) bd;rw[Aa a9]at e;rw[<-e];exact(Aa bg).set n (x+1)
       . exact(Aa a8).setCell (by simp;omega) _
      case measure=>simp[intOf];omega
    . obtain rfl:n=0:=by omega
      have az:codeN l k=0:=by rw[aa];rfl
      have bh:=Ab (QN l k az);have a5:=Ab (Z0q l I hn);clear M O T G Y hn af ah ae aa az;go_wp2;go_roundw
      case rel=>exact⟨k+1,by omega,by go_num,by rw[Aa bh];exact Aa aj,by rw[<-Aa a5];exact Aa bo,Aa ak⟩
      case measure=>simp[intOf];omega
  . obtain rfl:k=E:=by omega
    go_wp2;go_ret2;exact⟨g,rfl,Aa aj,Aa ak,by omega⟩
open Go.RowKit Go.Maps Go.WideMaps
abbrev DecIs (w:World)(mb n:Nat)(D:DataW Unit):Prop:=w.ownsMap Tryz.prog 351 (plainElem Tryz.prog 3) mb n D
abbrev DV (gr gm:Nat):Value:=.func (.func 281) #[] #[.pointer (some ⟨gr,0,none⟩),.pointer (some ⟨gm,0,none⟩)]
structure DIs (w:World)(gr gm mb nn b:Nat)(l:List Int):Prop where
 r:w.cell? ⟨gr,0,none⟩=some (.pointer (some ⟨b,0,none⟩))
 m:w.cell? ⟨gm,0,none⟩=some (.map (some mb))
 lt:gr<w.heap.size/\gm<w.heap.size
 is:DecIs w mb nn (decD l l.length)
theorem DIs.keep {w w':World}{G E I M b:Nat}{l:List Int}(H:DIs w G E I M b l)(aa:w.heap.size<=w'.heap.size)(Z:w'.heap[G]? =w.heap[G]?)(Y:w'.heap[E]? =w.heap[E]?)(T:w'.heap[I]? =w.heap[I]?):DIs w' G E I M b l:=by
 obtain⟨es,clock,hb,F,U,O⟩:=H.is;have:=H.lt
 exact⟨(World.cell?_of_block (a:=⟨G,0,none⟩) Z).trans H.r,(World.cell?_of_block (a:=⟨E,0,none⟩) Y).trans H.m,⟨by omega,by omega⟩,es,clock,T.trans hb,F,U,O⟩
theorem Tf {w:World}{G:Array Oper}{o:Oper}{a:Act}{H:Act->World->Prop}{Q:Exit->Act->World->Prop}{E:Prop}(aa:o.guard=none)(m x v:Operand)(Z:o.op=Op.mapUpdate 350 m x v)(b n:Nat)(F:DataW Unit)(T:a.eval m=.map (some b))(Y:DecIs w b n F)(ag:n<maxLen)(key val:Value)(I:Lit)(ae:a.eval x=key)(ac:a.eval v=val)(O:keyOf Tryz.prog 351 key=some I)
 (d:DataW Unit) (af:List MemPlace) (U:plainElem Tryz.prog 3 val=some (d,af)) (hK:∀w',DecIs w' b (n+1) (F.put I d)->w.grownBy w' (some b)->H (a.put o.dst undef) w'):if Region.wanted o (yielded G a.tmps)=true then Oper.wp Tryz.prog o a w H Q else E:=by
 have e:Region.wanted o (yielded G a.tmps)=true:=by unfold Region.wanted;rw[aa]
 rw[if_pos e];obtain⟨w',M,r1,r2⟩:=Y.update Z80 Tryz.underlying350 ag O U;unfold Oper.wp;simp[execOp,Z,T,ae,ac,M,Result.andThen]
 exact hK w' r1 r2
theorem Nr (b:Nat)(a:Option Addr)(E a1:Nat)(l:List Int)(w:World)(az:l.length=E)(a6:RowIn .i64 w a l)(al:Good l):
 Calls Tryz.prog 270 #[.pointer (some ⟨b,0,none⟩),.slice a E a1] w fun e w'=>∃gr gm mb nn,e=.returned (DV gr gm)/\w.heap.size<=gr/\w.heap.size<=gm/\w.heap.size<=mb/\mb<w'.heap.size/\DIs w' gr gm mb nn b l/\Below w.heap.size w w':=by
 have b7:=al.len;have b0:= @run_makeMap Tryz.prog;have ak:=Ab al;have ap:=Ab az;have a8:=Ab a6;clear al az a6;go_enter Tryz.func270,Tryz.ntmps270
 go_wp2_with fail
 refine(DM a E a1 l _ (Aa ap) ((Aa a8).alloc _) (Aa ak)).mono ?_;rintro e M ⟨g,rfl,ag,ao,bf⟩;have ax:=Ab ag;have ba:=Ab ao;have bo:=ao.size;simp only[World.size_alloc]at bo bf;have b4:=(ag.lt g rfl).2;clear ag ao;obtain⟨mb,aw⟩:=exq (M.heap.size);have a7:Hid (DecIs ((M.alloc (.map #[] 0)).alloc (.cells #[.map (some mb)] 350)) mb 0 (decD l 0)):=Ab (by rw[<-aw];exact(World.ownsMap_made M Tryz.prog 351 (plainElem Tryz.prog 3)).alloc _)
 have ai:Hid (((M.alloc (.map #[] 0)).alloc (.cells #[.map (some mb)] 350)).heap[mb+1]? =some (.cells #[.map (some mb)] 350 (0,0))):=Ab (by
  have:=heap_alloc_new (M.alloc (.map #[] 0)) (.cells #[.map (some mb)] 350)
  rw[World.size_alloc,aw]at this;exact this)
 have ae:Hid (Below (w.heap.size+1) (w.alloc (.cells #[.pointer (some ⟨b,0,none⟩)] 280)) ((M.alloc (.map #[] 0)).alloc (.cells #[.map (some mb)] 350))):=Ab (by
  have G:=Aa ba;rw[World.size_alloc]at G;exact(G.alloc (by omega) _).alloc (by rw[World.size_alloc];omega) _)
 have a4:Hid (((M.alloc (.map #[] 0)).alloc (.cells #[.map (some mb)] 350)).ownsRow (w.heap.size+1) 3 1 (.slice (some ⟨g,0,none⟩) E E) E (i64s (St l E))):=Ab (by
  have G:=Aa ax;rw[World.size_alloc]at G;exact(G.alloc _).alloc _)
 go_wp2;obtain⟨W2,aj⟩:=exq ((M.alloc (.map #[] 0)).alloc (.cells #[.map (some mb)] 350));rw[aj]at a7 ai ae a4 ⊢;have b9:w.heap.size+1<=mb:=by omega
 have bz:g<mb:=by omega
 have b3:W2.heap.size=mb+2:=by rw[<-aj];simp;omega
 clear aj ax;go_loopw [22] (fun ar wr=>∃k n:Nat,k<=E/\n<=k/\ar=.int .i64 (k:Int)/\Hid (DecIs wr mb n (decD l k))/\Hid (W2.grownBy wr (some mb))) (fun ar _=>E-(intOf ar).toNat)
 case atStart=>exact⟨0,0,VH _,VB _,rfl,a7,Ab (Aw _ _)⟩
 case round=>
  obtain⟨k,n,b8,hn,rfl,au,I⟩:=hrel
  by_cases a2:k<E
  . have Y:k<l.length:=by rw[Aa ap];exact a2
    obtain⟨U,ac,rfl,bk,bn⟩:∃U ac,a=some ⟨U,ac,none⟩/\U<w.heap.size/\Row .i64 w U ac l:=by
     rcases Aa a8 with aa|aa
     . rw[aa]at Y;simp at Y
     . exact aa
    have c1:wr.cell? ⟨U,ac+k,none⟩=some (.int .i64 (l.getD k 0)):=(Aa I).cell (((Aa ae).cell (p:=⟨U,ac+k,none⟩) (by show U<_;omega)).trans ((World.cell?_alloc_past _ _ _ bk).trans (bn k Y))) (by simp;omega)
    have c2:wr.cell? ⟨g,k,none⟩=some (.int .i64 ((codeN l k:Nat):Int)):=by
     refine(Aa I).cell ?_ (by simp;omega);rw[(Aa a4).cellAt k (by omega)];have hc:=Du l E;have bh:k<(St l E).length:=by rw[hc];exact Y
     have:=Yp l (j:=k) Y E
     rw[if_pos a2]at this;rw[<-this];simp[i64s,List.getD,bh]
    have ah:wr.cell? ⟨mb+1,0,none⟩=some (.map (some mb)):=(Aa I).cell (Ac (Aa ai)) (by simp);obtain⟨aa,bi⟩:=(Aa ak).ok k Y;obtain⟨m,hm⟩:=WF aa;have af:Hid (decD l (k+1)=if codeT l k= []then decD l k else (decD l k).put (kb (codeT l k)) (.lit (.int .i64 (k:Int)))):=Ab rfl
    by_cases bj:m=0
    . subst bj;have ay:codeT l k= []:=by unfold codeT;rw[hm];rfl
      rw[if_pos ay]at af;rw[hm]at c1;clear c2 ah ay;go_wp2;go_roundw
      case rel=>exact⟨k+1,n,by omega,by omega,by go_num,Ab (by rw[Aa af];exact Aa au),I⟩
      case measure=>simp[intOf];omega
    . obtain⟨k1,k2,a3⟩:=QM (Aa ak) Y hm (by omega);rw[if_neg k2,k1]at af;have bc:=Ab (Pf a3);have bd:(Lit.int .i64 (k:Int)).wf=true:=Wj (by omega);have bv:=Ab (plainElem_int (H:=Unit) Tryz.underlying3 bd);rw[hm]at c1 bi;have bw:(0:Int)<(m:Int):=by omega
      generalize codeN l k=c at*;clear k1 k2 a3 hm aa;go_wp2;refine wp_region_held_drew (S:=fun w'=>w'.cell? ⟨mb+1,0,none⟩=some (.map (some mb))/\w'.cell? ⟨g,k,none⟩=some (.int .i64 (c:Int))) (by kernel_rfl) ⟨ah,c2⟩ (fun T=> ?_);refine wpAnyH_take (i:=0) (oi:= {dst:=some 29,op:=.load 350 (.tmp 7),type:=350,pos:= "reader.go:134",after:= #[],guard:=none}) (v:=.map (some mb)) rfl (by kernel_rfl) (by kernel_rfl) (by kernel_rfl) (fun _ _ _ h=>h) (Or.inl ⟨by rfl,fun W F=>by obtain⟨G,Z⟩:=F;go_simp⟩) T ?_;simp only[Act.put,VA,VC,VD];refine wpAnyH_take (i:=1) (oi:= {dst:=some 30,op:=.move (.tmp 9),type:=3,pos:= "reader.go:134",after:= #[],guard:=none}) (v:=.int .i64 (m:Int)) rfl (by kernel_rfl) (by kernel_rfl) (by kernel_rfl) (fun _ _ _ h=>h) (Or.inl ⟨by rfl,fun W F=>by obtain⟨G,Z⟩:=F;go_simp⟩) T ?_;simp only[Act.put,VA,VC,VD];refine wpAnyH_take (i:=2) (oi:= {dst:=some 31,op:=.move (.tmp 5),type:=76,pos:= "reader.go:134",after:= #[],guard:=none}) (v:=.slice (some ⟨g,0,none⟩) E E) rfl (by kernel_rfl) (by kernel_rfl) (by kernel_rfl) (fun _ _ _ h=>h) (Or.inl ⟨by rfl,fun W F=>by obtain⟨G,Z⟩:=F;go_simp⟩) T ?_;simp only[Act.put,VA,VC,VD];refine wpAnyH_take (i:=3) (oi:= {dst:=some 32,op:=.move (.tmp 8),type:=3,pos:= "reader.go:134",after:= #[],guard:=none}) (v:=.int .i64 (k:Int)) rfl (by kernel_rfl) (by kernel_rfl) (by kernel_rfl) (fun _ _ _ h=>h) (Or.inl ⟨by rfl,fun W F=>by obtain⟨G,Z⟩:=F;go_simp⟩) T ?_;simp only[Act.put,VA,VC,VD];refine wpAnyH_take (i:=4) (oi:= {dst:=some 33,op:=.indexAddr 76 (.tmp 31) (.tmp 32),type:=0,pos:= "reader.go:134",after:= #[{on:=2,ground:=.data},{on:=3,ground:=.data}],guard:=none}) (v:=.pointer (some ⟨g,k,none⟩)) rfl (by kernel_rfl) (by kernel_rfl) (by kernel_rfl) (fun _ _ _ h=>h) (Or.inl ⟨by rfl,fun W F=>by obtain⟨G,Z⟩:=F;go_simp⟩) T ?_;simp only[Act.put,VA,VC,VD];refine wpAnyH_take (i:=5) (oi:= {dst:=some 34,op:=.load 3 (.tmp 33),type:=3,pos:= "reader.go:134",after:= #[{on:=4,ground:=.data}],guard:=none}) (v:=.int .i64 (c:Int)) rfl (by kernel_rfl) (by kernel_rfl) (by kernel_rfl) (fun _ _ _ h=>h) (Or.inl ⟨by rfl,fun W F=>by obtain⟨G,Z⟩:=F;go_simp⟩) T ?_;simp only[Act.put,VA,VC,VD];refine wpAnyH_take (i:=6) (oi:= {dst:=some 35,op:=.build 351 #[(0,.tmp 30),(1,.tmp 34)],type:=351,pos:= "reader.go:134",after:= #[{on:=1,ground:=.data},{on:=5,ground:=.data}],guard:=none}) (v:=.agg #[.int .i64 (m:Int),.int .i64 (c:Int)]) rfl (by kernel_rfl) (by kernel_rfl) (by kernel_rfl) (fun _ _ _ h=>h) (Or.inl ⟨by rfl,fun W F=>by obtain⟨G,Z⟩:=F;go_simp⟩) T ?_;simp only[Act.put,VA,VC,VD];refine wpAnyH_take (i:=7) (oi:= {dst:=some 36,op:=.move (.tmp 8),type:=3,pos:= "reader.go:134",after:= #[],guard:=none}) (v:=.int .i64 (k:Int)) rfl (by kernel_rfl) (by kernel_rfl) (by kernel_rfl) (fun _ _ _ h=>h) (Or.inl ⟨by rfl,fun W F=>by obtain⟨G,Z⟩:=F;go_simp⟩) T ?_;simp only[Act.put,VA,VC,VD];refine rdH (i:=8) fun K hK=> ?_
      refine Tf rfl (.tmp 29) (.tmp 35) (.tmp 36) rfl mb n (decD l k) rfl (Aa au) (by unfold maxLen;omega) (kw (m,c)) _ (kwl (m,c)) rfl rfl (Aa bc) _ [] (Aa bv) ?_;intro w3 a5 O;have bu:=Ab a5;have bm:=Ab (Aj (Aa I) (show wr.grownBy w3 (some mb) from ⟨O.os,O.tape,O.output,O.size,O.block⟩));have bb:w3.cell? ⟨mb+1,0,none⟩=some (.map (some mb)):=O.cell (show wr.cell? ⟨mb+1,0,none⟩=some (.map (some mb)) from ah) (by simp);have a9:w3.cell? ⟨g,k,none⟩=some (.int .i64 (c:Int)):=O.cell (show wr.cell? ⟨g,k,none⟩=some (.int .i64 (c:Int)) from c2) (by simp;omega);refine hK.out _ _ ⟨bb,a9⟩ (fun b5=> ?_);clear hK K a5 O;refine wpAnyH_done (by kernel_rfl) ?_ _;go_wp2;go_roundw
      case rel=>exact⟨k+1,n+1,by omega,by omega,by go_num,Ab (by rw[Aa af];exact Aa bu),bm⟩
      case measure=>simp[intOf];omega
  . obtain rfl:E=k:=by omega
    have av:Hid (DIs wr w.heap.size (mb+1) mb n b l/\Below w.heap.size w wr):=Ab (by
     have bg:(w.alloc (.cells #[.pointer (some ⟨b,0,none⟩)] 280)).cell? ⟨w.heap.size,0,none⟩=some (.pointer (some ⟨b,0,none⟩)):=by rw[cell_of_row _ _ _ _ _ _ (heap_alloc_new w _)];rfl
     have bq:=(Aa I).size;refine⟨⟨?_, ?_,⟨by omega,by omega⟩, ?_⟩, ?_⟩
     . exact(Aa I).cell (((Aa ae).cell (p:=⟨w.heap.size,0,none⟩) (by show w.heap.size<_;omega)).trans bg) (by simp;omega)
     . exact(Aa I).cell (Ac (Aa ai)) (by simp)
     . rw[Aa ap];exact Aa au
     . have G:Below w.heap.size w W2:=((Below.refl w.heap.size w).alloc (VB _) _).trans ((Aa ae).mono (by omega));exact G.grown (Aa I) (by omega) (fun j h=>by cases h;omega))
    have bq:=(Aa I).size;go_wp2;go_ret;exact⟨_,_,mb,n,rfl,VB _,by omega,by omega,by omega,(Aa av).1,(Aa av).2⟩
open Go.RowKit Go.Maps Go.WideMaps
theorem IIs.more {No No':Nat->Prop}{B b:Nat}{w:World}{R I M:Value}{u:US}(H:IIs No B w b R I M u)(aa:¬No' b)(T:∀g,No' g->No g\/w.heap.size<=g):IIs No' B w b R I M u:=by
 obtain⟨ov,kv,Y,G,O,Z,U,ac⟩:=H.ex;refine⟨H.base,aa,ov,kv,Y,G,O,Z, ?_, ?_⟩
 . intro g E F
   rcases T g F with e|e
   . exact U g E e
   . have:=(G.lt g E).2;omega
 . intro g E F
   rcases T g F with e|e
   . exact ac g E e
   . have:=(O.lt g E).2;omega
def NI (No:Nat->Prop)(g0:Nat):Nat->Prop:=fun g=>No g\/g=g0
theorem IUp.less {No:Nat->Prop}{B b I:Nat}{w w':World}{R G H:Value}{u:US}(E:IUp (NI No I) B w b R G H u w'):IUp No B w b R G H u w':=
 ⟨E.is.more (fun e=>E.is.no (.inl e)) (fun g F=>.inl (.inl F)),E.below,E.kp.weaken (fun g F=>.inl F)⟩
theorem Rd.more {w:World}{No:Nat->Prop}{a:Option Addr}{n H:Nat}{bs:List Nat}(E:Rd w No a n bs):Rd w (NI No H) a n bs:=⟨E.len,E.few,E.byt,E.val,fun G F I e2=>.inl (E.no G F I e2)⟩
theorem IIs.aside {No:Nat->Prop}{B b E:Nat}{w:World}{R H O:Value}{u:US}(F:IIs (NI No E) B w b R H O u)(Y:B<=E)(ag:E<w.heap.size)(ac:¬No E)(i:Nat)(v:Value):IIs (NI No E) B (w.setCell ⟨E,i,none⟩ v) b R H O u/\Below B w (w.setCell ⟨E,i,none⟩ v)/\Kp No w (w.setCell ⟨E,i,none⟩ v):=by
 obtain⟨ov,kv,Z,U,af,aa,I,M⟩:=F.ex;have G:=Ad w E i v
 have T:∀ {x:Value},(∀g,x.ownBlock=some g->¬NI No E g)->x.ownBlock=none\/x.ownBlock≠some E:=fun {x} ho=>by
  cases ae:x.ownBlock with
  |none=>exact .inl rfl
  |some g=>
   refine .inr (fun e=>ho g ae (.inr ?_))
   cases e
   rfl
 have hb:b≠E:=fun e=>F.no (.inr e)
 refine⟨⟨F.base,F.no,ov,kv,(G.block b F.lt (by simp;exact fun e=>hb e)).trans Z,U.kept G (T I),af.kept G (T M),aa,I,M⟩, ?_, ?_⟩
 . exact(Below.refl B w).grown G (by omega) (fun g e=>by cases e;exact Y)
 . exact(Kp.refl No w).grown G (VB _) (fun g e=>by cases e;exact ac)
theorem SJ (w:World):(zeroValue 3).run Tryz.prog w=.ok (.int .i64 0) w:=by kernel_rfl
theorem RJ (row:List Bool)(p i:Nat)(E:p+i<row.length):(row.drop p).take (i+1)=(row.drop p).take i++ [row.getD (p+i) false]:=by
 rw[XM,XJ];simp[List.getD,E]
theorem Z6i (V x:Nat)(F:V<32768)(E:x<2):bits .or .i64 ((V:Int)*2) (x:Int)=((2*V+x:Nat):Int):=by
 have e:((V:Int)*2)=((2*V:Nat):Int):=by omega
 rw[e,Nn _ _ (by omega) (by omega)];have:=Nat.two_pow_add_eq_or_of_lt (i:=1) (b:=x) (by simpa using E) V
 rw[Nat.pow_one]at this;rw[<-this]
def TF (No:Nat->Prop)(B:Nat)(W1:World)(b:Nat)(R f1 f2:Value)(u:US)(gw gr gm mb nn:Nat)(l:List Int)(i V:Nat)(w5:World):Prop:=
 w5.heap[gw]? =some (.cells #[.int .i64 (i:Int),.int .i64 (V:Int)] 351 (0,0))/\IUp No B W1 b R f1 f2 u w5/\IIs (NI No gw) B w5 b R f1 f2 u/\DIs w5 gr gm mb nn b l
theorem OA {b E:Nat}{w wr F:World}{x y:Value}(M:Mx b wr F)(I:Mx b w wr)(H:b≠E):Mx b w ((F.setCell ⟨E,0,none⟩ x).setCell ⟨E,1,none⟩ y):=fun j G=>by
 rw[World.cell?_setCell_other _ _ _ _ (by intro e;exact H (by cases e;rfl)),World.cell?_setCell_other _ _ _ _ (by intro e;exact H (by cases e;rfl))];exact(M j G).trans (I j G)
theorem BI (No:Nat->Prop)(B b:Nat)(a:Option Addr)(n O:Nat)(bs:List Nat)(aa T:Value)(u:US)(w:World)(G:IIs No B w b (.slice a n O) aa T u)(cg:Rd w No a n bs)(da:u.p<=8*n)(a7:u.e=0)(Y ac ae aw:Nat)(l:List Int)(bk:DIs w Y ac ae aw b l)(ds:Good l)(b0:No Y/\No ac/\No ae)(dt:∀g,w.heap.size<=g->¬No g)(k:Nat)(v:US)(c7:Hid (uplace l (rowB bs n) u=(k,v))):
 Calls Tryz.prog 281 #[.pointer (some ⟨Y,0,none⟩),.pointer (some ⟨ac,0,none⟩)] w fun e w'=>GotK No B w b (.slice a n O) aa T (.int .i64 (k:Int)) v e w':=by
 have bz:=Af bs n;have fo:=cg.few;obtain⟨au,ci⟩:=exq (Ej l (rowB bs n) u.p 15 1)
 have dm:k=au.1/\v= {u with e:=au.2.2,p:=u.p+au.2.1}:=by
  have:=Aa c7
  unfold uplace Lt at this;rw[if_pos a7,ci]at this;exact⟨(VN this).1.symm,(VN this).2.symm⟩
 have H:=Ab G;have c9:=Ab cg;have c5:=Ab bk;have b3:=Ab ds;have eu:=Ab ci;have b5:=Ab dm;have eo:=Ab dt;obtain⟨dn,dd,di⟩:=b0;have ah:=Ab (⟨dn,dd,di⟩:No Y/\No ac/\No ae);have ff:=G.lt;have fw:=bk.lt;have fq:=bk.is.lt;obtain⟨p,b4⟩:=exq (u.p);rw[b4]at da;have bj:=Ab b4;clear G cg bk ds ci dm c7 dt dn dd di b4;go_enter Tryz.func281,Tryz.ntmps281
 go_wp2;obtain⟨E,bf⟩:=exq (w.heap.size);obtain⟨W1,ao⟩:=exq (w.alloc (.cells #[.int .i64 0,.int .i64 0] 351));have aj:Hid (Below E w W1):=Ab (by rw[<-ao,<-bf];exact(Below.refl _ _).alloc (VB _) _);have ft:W1.heap.size=E+1:=by rw[<-ao,<-bf];simp
 have ek:Hid (W1.heap[E]? =some (.cells #[.int .i64 0,.int .i64 0] 351 (0,0))):=Ab (by rw[<-ao,<-bf];exact heap_alloc_new _ _)
 have cd:Hid (IIs (NI No E) B W1 b (.slice a n O) aa T u):=Ab (by
  rw[<-ao];exact((Aa H).more (No':=NI No E) (fun e=>by rcases e with e|e;exact(Aa H).no e;omega) (fun g M=>by rcases M with e|e;exact .inl e;exact .inr (by omega))).grown (World.grownBy_alloc w _ none))
 have ey:Hid (Rd W1 No a n bs):=Ab ((Aa c9).keep (w':=W1) (by omega) (fun g M _=>(Aa aj).block g (by omega)));have dc:¬No E:=Aa eo E (by omega);have dz:Hid (DIs W1 Y ac ae aw b l):=Ab ((Aa c5).keep (by omega) ((Aa aj).block Y (by omega)) ((Aa aj).block ac (by omega)) ((Aa aj).block ae (by omega)));have bh:B<=E:=by have:=(Aa H).base;omega
 have eg:b≠E:=by omega
 have ej:Hid (Mx b w W1):=Ab (fun j _=>by rw[<-ao];exact World.cell?_alloc_past _ _ _ ff);have dq:Hid (Bl No B w W1):=Ab ⟨(Aa aj).mono bh,fun g M _=>(Aa aj).block g (by omega)⟩;rw[ao];rw[bf];clear ao c9 c5;go_loopw [7] (fun ce wr=>∃i:Nat,i<=15/\ce=.int .i64 (i:Int)/\Hid (wr.heap[E]? =some (.cells #[.int .i64 (i:Int),.int .i64 ((vH (((rowB bs n).drop p).take i):Nat):Int)] 351 (0,0)))/\Hid (IUp No B W1 b (.slice a n O) aa T {u with p:=p+i} wr)/\Hid (IIs (NI No E) B wr b (.slice a n O) aa T {u with p:=p+i})/\Hid (p+i<=8*n)/\Hid (Ej l (rowB bs n) p (15-i) (i+1)=au)/\Hid (Mx b w wr)) (fun ce _=>15-(intOf ce).toNat)
 case atStart=>exact⟨0,VH _,rfl,ek,Ab (IUp.refl (by rw[show ({u with p:=p+0}:US)=u by rw[<-Aa bj];rfl];exact(Aa cd).more (fun e=>(Aa cd).no (.inl e)) (fun g M=>.inl (.inl M)))),Ab (by rw[show ({u with p:=p+0}:US)=u by rw[<-Aa bj];rfl];exact Aa cd),Ab da,Ab (by rw[<-Aa bj];exact Aa eu),ej⟩
 case round=>
  obtain⟨i,hi,rfl,cq,ai,dp,dy,ct,ep⟩:=hrel;have du:=(Aa ai).below.size
  by_cases fm:i<15
  . have e6:=Aa dy;have dh:Rd wr (NI No E) a n bs:=((Aa ey).keep du (Aa ai).kp).more;have b7:DIs wr Y ac ae aw b l:=(Aa dz).keep du ((Aa ai).kp Y (by omega) (Aa ah).1) ((Aa ai).kp ac (by omega) (Aa ah).2.1) ((Aa ai).kp ae (by omega) (Aa ah).2.2);have bi:=Ab (fun q=>BO (NI No E) B b a n O bs aa T {u with p:=p+i} (wr.drewN q) ((IUp.refl (Aa dp)).drewN q).is (dh.keep (VB _) (fun _ _ _=>rfl)) e6 a7);have dx:=Ab (fun q=>(IUp.refl (Aa dp)).drewN q);have em:=Ab b7;have dl:=b7.r;have db:wr.cell? ⟨E,0,none⟩=some (.int .i64 (i:Int)):=Ac (Aa cq);obtain⟨V,ba⟩:=exq (vH (((rowB bs n).drop p).take i));have c8:wr.cell? ⟨E,1,none⟩=some (.int .i64 (V:Int)):=by rw[<-ba];exact Ac (Aa cq)
    have ei:V<32768:=by
     have I:=JZ (((rowB bs n).drop p).take i);rw[ba,VL]at I;exact VG I (VU (VO (by decide) (VU (ZP _ _) (show i<=15 by omega))) (by decide))
    have cz:=Ab ba;have ed:IntKind.i64.wrap ((V:Int)*2)=(V:Int)*2:=by simp[IntKind.wrap,IntKind.signed,IntKind.bits];omega
    have eh:IntKind.i64.wrap ((i:Int)+1)=(i:Int)+1:=by simp[IntKind.wrap,IntKind.signed,IntKind.bits];omega
    have fp:(i:Int)<15:=by omega
    have ak:=Aa ct;rw[show 15-i=(15-(i+1))+1 by omega,Ej,bz]at ak;clear ba b7 dh
    by_cases c6:p+i=8*n
    . rw[if_pos (by omega)]at ak;have a6:Hid (v.e=7):=Ab (by rw[(Aa b5).2,<-ak])
      have ck:Hid (∀q,Calls Tryz.prog 248 #[.pointer (some ⟨b,0,none⟩)] (wr.drewN q) fun e w'=>e=Flt 7/\Bl No B w w'):=Ab (fun q=>(Aa bi q).mono (fun e w' M=>by
       rw[if_pos c6]at M
       rcases M with ⟨e0,_⟩|⟨_,ay,e2⟩
       . exact absurd (show (7:Int)=0 from e0) (by decide)
       . exact⟨ay,Bl.trans (Aa dq) (((Aa ai).bl.drewN q).trans (e2.weaken (fun _ G=>.inl G)))⟩))
      clear ak bi;go_wp2;refine wp_region_held_drew (S:=fun w'=>w'.cell? ⟨E,0,none⟩=some (.int .i64 (i:Int))/\w'.cell? ⟨E,1,none⟩=some (.int .i64 (V:Int))/\w'.cell? ⟨Y,0,none⟩=some (.pointer (some ⟨b,0,none⟩))) (by kernel_rfl) ⟨db,c8,dl⟩ (fun ap=> ?_);refine wpAnyH_take (i:=0) (oi:= {dst:=some 9,op:=.indexAddr 351 (.tmp 3) (.const (.int .i64 0)),type:=0,pos:= "reader.go:140",after:= #[],guard:=none}) (v:=.pointer (some ⟨E,0,none⟩)) rfl (by kernel_rfl) (by kernel_rfl) (by kernel_rfl) (fun _ _ _ G=>G) (al.inl ⟨by rfl,fun W U=>by obtain⟨I,ag,ax⟩:=U;go_simp⟩) ap ?_;simp only[Act.put,VA,VC,VD];refine wpAnyH_take (i:=1) (oi:= {dst:=some 10,op:=.load 3 (.tmp 9),type:=3,pos:= "reader.go:140",after:= #[{on:=0,ground:=.data}],guard:=none}) (v:=.int .i64 (i:Int)) rfl (by kernel_rfl) (by kernel_rfl) (by kernel_rfl) (fun _ _ _ G=>G) (al.inl ⟨by rfl,fun W U=>by obtain⟨I,ag,ax⟩:=U;go_simp⟩) ap ?_;simp only[Act.put,VA,VC,VD];refine wpAnyH_take (i:=2) (oi:= {dst:=some 11,op:=.binOp .add 3 (.tmp 10) (.const (.int .i64 1)) 3,type:=3,pos:= "reader.go:140",after:= #[{on:=1,ground:=.data}],guard:=none}) (v:=.int .i64 ((i:Int)+1)) rfl (by kernel_rfl) (by kernel_rfl) (by kernel_rfl) (fun _ _ _ G=>G) (al.inl ⟨by rfl,fun W U=>by obtain⟨I,ag,ax⟩:=U;go_simp⟩) ap ?_;simp only[Act.put,VA,VC,VD];refine wpAnyH_take (i:=3) (oi:= {dst:=some 12,op:=.indexAddr 351 (.tmp 3) (.const (.int .i64 1)),type:=0,pos:= "reader.go:140",after:= #[],guard:=none}) (v:=.pointer (some ⟨E,1,none⟩)) rfl (by kernel_rfl) (by kernel_rfl) (by kernel_rfl) (fun _ _ _ G=>G) (al.inl ⟨by rfl,fun W U=>by obtain⟨I,ag,ax⟩:=U;go_simp⟩) ap ?_;simp only[Act.put,VA,VC,VD];refine wpAnyH_take (i:=4) (oi:= {dst:=some 13,op:=.load 3 (.tmp 12),type:=3,pos:= "reader.go:140",after:= #[{on:=3,ground:=.data}],guard:=none}) (v:=.int .i64 (V:Int)) rfl (by kernel_rfl) (by kernel_rfl) (by kernel_rfl) (fun _ _ _ G=>G) (al.inl ⟨by rfl,fun W U=>by obtain⟨I,ag,ax⟩:=U;go_simp⟩) ap ?_;simp only[Act.put,VA,VC,VD];refine wpAnyH_take (i:=5) (oi:= {dst:=some 14,op:=.binOp .shl 3 (.tmp 13) (.const (.int .u64 1)) 66,type:=3,pos:= "reader.go:140",after:= #[{on:=4,ground:=.data}],guard:=none}) (v:=.int .i64 ((V:Int)*2)) rfl (by kernel_rfl) (by kernel_rfl) (by kernel_rfl) (fun _ _ _ G=>G) (al.inl ⟨by rfl,fun W U=>by obtain⟨I,ag,ax⟩:=U;go_simp⟩) ap ?_;simp only[Act.put,VA,VC,VD];refine wpAnyH_take (i:=6) (oi:= {dst:=some 15,op:=.load 280 (.tmp 0),type:=280,pos:= "reader.go:140",after:= #[],guard:=none}) (v:=.pointer (some ⟨b,0,none⟩)) rfl (by kernel_rfl) (by kernel_rfl) (by kernel_rfl) (fun _ _ _ G=>G) (al.inl ⟨by rfl,fun W U=>by obtain⟨I,ag,ax⟩:=U;go_simp⟩) ap ?_;simp only[Act.put,VA,VC,VD];refine rdH (i:=7) fun K hK=> ?_
      go_simp
      refine(Aa ck 1).mono ?_;rintro e F ⟨rfl,d8⟩;exact And.intro rfl (al.inr ⟨by rw[Aa a6];decide,by rw[Aa a6],d8⟩)
    . rw[if_neg (by omega)]at ak
      have d7:∃x:Nat,(if Iq bs (p+i)then (1:Int)else 0)=(x:Int)/\x<2/\x=(if (rowB bs n).getD (p+i) false then 1 else 0):=by
       rw[Hf bs n (p+i) (by omega)]
       cases Iq bs (p+i)
       . exact⟨0,rfl,by decide,rfl⟩
       . exact⟨1,rfl,by decide,rfl⟩
      obtain⟨x,cv,fg,cy⟩:=d7
      have ck:Hid (∀q,Calls Tryz.prog 248 #[.pointer (some ⟨b,0,none⟩)] (wr.drewN q) fun e w'=>e=.returned (.int .i64 (x:Int))/\IUp (NI No E) B wr b (.slice a n O) aa T {u with p:=p+(i+1)} w'/\Mx b wr w'):=Ab (fun q=>(Aa bi q).mono (fun e w' M=>by
       rw[if_neg c6]at M
       rcases M with ⟨_,ay,e2,e3⟩|⟨I,_⟩
       . exact⟨by rw[ay];exact congrArg (fun z=>Ending.returned (Value.int .i64 z)) cv,(Aa dx q).trans e2,e3⟩
       . exact absurd a7 I))
      obtain⟨s,a9⟩:=exq (((rowB bs n).drop p).take (i+1))
      have bn:vH s=2*V+x:=by
       rw[<-a9,RJ _ _ _ (by rw[bz];omega),Q8,Aa cz,cy]
      have a5:s.length=i+1:=by rw[<-a9,VL,VQ,bz];omega
      have bd:s≠ []:=fun e=>by rw[e]at a5;simp at a5
      have a2:Hid (keyOf Tryz.prog 351 (.agg #[.int .i64 ((i+1:Nat):Int),.int .i64 ((2*V+x:Nat):Int)])=some (kb s)):=Ab (by
       have:=Pf (okb (s:=s) (by omega))
       rw[kw,a5,bn]at this;rw[kb,a5,bn];exact this)
      have bo:Hid (Maps.has (decD l l.length) (kb s)=decide (∃q,q<l.length/\codeT l q=s)):=Ab (QC l (Sq (Aa b3)) s bd (by omega) _);have dv:Hid (∀q,q<l.length->codeT l q=s->(decD l l.length).atKey (kb s) (.lit (.int .i64 0))=.lit (.int .i64 (q:Int))):=Ab (fun q dw e=>QD l (Sq (Aa b3)) s bd (by omega) (Sr l (Aa b3) _ bd) _ l.length (VB _) q dw e);rw[a9]at ak;have cp:=Ab ak;have e7:=Ab a9;have fi:=Ab bn;have d9:=Z6i V x ei fg
      have cj:Hid (∀F,IUp (NI No E) B wr b (.slice a n O) aa T {u with p:=p+(i+1)} F->F.heap[E]? =some (.cells #[.int .i64 (i:Int),.int .i64 (V:Int)] 351 (0,0))):=Ab (fun F af=>by
       have:=(af.kp E (by omega) (.inr rfl)).trans (Aa cq)
       rw[Aa cz]at this;exact this)
      have cn:Hid (∀F,IUp (NI No E) B wr b (.slice a n O) aa T {u with p:=p+(i+1)} F->DIs F Y ac ae aw b l):=Ab (fun F af=>(Aa em).keep af.below.size (af.kp Y (by omega) (.inl (Aa ah).1)) (af.kp ac (by omega) (.inl (Aa ah).2.1)) (af.kp ae (by omega) (.inl (Aa ah).2.2)))
      have dr:Hid (∀F,IUp (NI No E) B wr b (.slice a n O) aa T {u with p:=p+(i+1)} F->((F.setCell ⟨E,0,none⟩ (.int .i64 ((i:Int)+1))).setCell ⟨E,1,none⟩ (.int .i64 (2*(V:Int)+(x:Int)))).cell? ⟨E,0,none⟩=some (.int .i64 ((i:Int)+1))/\((F.setCell ⟨E,0,none⟩ (.int .i64 ((i:Int)+1))).setCell ⟨E,1,none⟩ (.int .i64 (2*(V:Int)+(x:Int)))).cell? ⟨E,1,none⟩=some (.int .i64 (2*(V:Int)+(x:Int)))/\TF No B W1 b (.slice a n O) aa T {u with p:=p+(i+1)} E Y ac ae aw l (i+1) (2*V+x) ((F.setCell ⟨E,0,none⟩ (.int .i64 ((i:Int)+1))).setCell ⟨E,1,none⟩ (.int .i64 (2*(V:Int)+(x:Int))))):=Ab (fun F af=>by
       have e1:=Aa cj F af;have fk:=af.below.size;have fh:=heap_setCell_same F E 0 _ _ (.int .i64 ((i:Int)+1)) e1;have g6:=heap_setCell_same _ E 1 _ _ (.int .i64 (2*(V:Int)+(x:Int))) fh;have bu:((F.setCell ⟨E,0,none⟩ (.int .i64 ((i:Int)+1))).setCell ⟨E,1,none⟩ (.int .i64 (2*(V:Int)+(x:Int)))).heap[E]? =some (.cells #[.int .i64 ((i:Int)+1),.int .i64 (2*(V:Int)+(x:Int))] 351 (0,0)):=g6;obtain⟨et,bb,fj⟩:=af.is.aside bh (by omega) dc 0 (.int .i64 ((i:Int)+1));obtain⟨b1,b2,fe⟩:=et.aside bh (by have:=bb.size;omega) dc 1 (.int .i64 (2*(V:Int)+(x:Int)));have bg:Kp No F ((F.setCell ⟨E,0,none⟩ (.int .i64 ((i:Int)+1))).setCell ⟨E,1,none⟩ (.int .i64 (2*(V:Int)+(x:Int)))):=fj.trans fe bb.size;have cm:=(Aa ai).trans af.less;have d5:=(bb.trans b2).size;refine⟨Ac bu,Ac bu,by rw[bu];push_cast;rfl,⟨b1.more (fun e=>b1.no (.inl e)) (fun g M=>.inl (.inl M)),cm.below.trans (bb.trans b2),cm.kp.trans bg cm.below.size⟩,b1, ?_⟩;exact(Aa cn F af).keep d5 (bg Y (by omega) (Aa ah).1) (bg ac (by omega) (Aa ah).2.1) (bg ae (by omega) (Aa ah).2.2))
      have co:Hid (∀q,Ok l s=some q->Maps.has (decD l l.length) (kb s)=true/\(decD l l.length).atKey (kb s) (.lit (.int .i64 0))=.lit (.int .i64 (q:Int))):=Ab (fun q Z=>by
       have I:codeT l q=s:=by simpa using List.find?_some Z
       have ag:q<l.length:=by simpa using List.mem_of_find?_eq_some Z
       exact⟨by rw[Aa bo];exact decide_eq_true ⟨q,ag,I⟩,Aa dv q ag I⟩)
      have bw:Hid (∀q ar,Ok l s=some q->IUp No B W1 b (.slice a n O) aa T {u with p:=p+(i+1)} ar->Mx b w ar->GotK No B w b (.slice a n O) aa T (.int .i64 (k:Int)) v (.returned (.int .i64 (q:Int))) ar):=Ab (fun q ar Z bq e8=>by
       have av:=Aa cp;rw[Z]at av;have av:(q,i+1,(0:Int))=au:=av;obtain⟨ay,e2⟩:=Aa b5;rw[<-av]at ay e2;have e3:v= {u with p:=p+(i+1)}:=by rw[e2,Aa bj,<-a7]
       refine .inl ⟨by rw[e3];exact a7,by rw[ay], ?_⟩;rw[e3];exact⟨⟨bq.is,((Aa aj).mono bh).trans bq.below,fun g M b0=>(bq.kp g (by omega) b0).trans ((Aa aj).block g (by omega))⟩,e8⟩)
      have bv:Hid (Ok l s=none->Maps.has (decD l l.length) (kb s)=false/\Ej l (rowB bs n) p (15-(i+1)) (i+1+1)=au):=Ab (fun Z=>by
       have av:=Aa cp;rw[Z]at av;refine⟨?_,av⟩;rw[Aa bo];refine decide_eq_false ?_;rintro ⟨q,I,ag⟩;have:=List.find?_eq_none.1 Z q (by simpa using I)
       simp[ag]at this)
      clear ak bi a9 bn bd a5 cv cy cp bo dv;have b8:=Aa a2;push_cast at b8
      clear a2;have a2:=Ab b8;clear b8;go_wp2;go_region_with (go_at_call 248;refine(Aa ck _).mono ?_;rintro e F ⟨rfl,bc,cu⟩;have d6:=Ab cu;have a1:=Aa cj _ bc;have c0:F.cell? ⟨E,0,none⟩=some (.int .i64 (i:Int)):=Ac a1;have c1:F.cell? ⟨E,1,none⟩=some (.int .i64 (V:Int)):=Ac a1;have c2:=(Aa cn _ bc).r;have ew:F.frozen? ⟨E,0,none⟩=false:=frozen_of_row F E 0 _ _ a1;have ee:F.frozen? ⟨E,1,none⟩=false:=frozen_of_row F E 1 _ _ a1;have de:=Ab bc;have e4:=Ab a1;clear bc a1 cu)
      all_goals
       obtain⟨ar,bm⟩:=exq ((F.setCell ⟨E,0,none⟩ (.int .i64 ((i:Int)+1))).setCell ⟨E,1,none⟩ (.int .i64 (2*(V:Int)+(x:Int))));have az:=Aa dr F (Aa de);rw[bm]at az;rw[bm];obtain⟨d0,fu,az⟩:=az;have fx:=az.2.2.2.m;have df:Hid (Mx b w ar):=Ab (by rw[<-bm];exact OA (Aa d6) (Aa ep) eg);have a4:=Ab az;clear bm az c0 c1 c2 ew ee db c8 dl de e4 cj cn dr d9 ed eh;go_wp2_with (at_lookup;refine wpList_lookup_own_ok_int _ rfl _ _ 350 rfl 351 3 .i64 Z80 Tryz.underlying350 Tryz.underlying3 (SJ _) ae aw (decD l l.length) rfl (Aa a4).2.2.2.is _ _ rfl (Aa a2) ?_)
       intro c cw en;have b9:=Ab cw;clear cw en
       cases Z:Ok l s with
       |some q=>
        obtain⟨a3,a8⟩:=Aa co q Z
        have hc:c=(q:Int):=by
         have:=(Aa b9).symm.trans a8
         simpa using this
        have e5:=Ab (Aa bw q ar Z (Aa a4).2.1 (Aa df));rw[a3];subst hc;clear a3 a8 b9 co bw bv Z a2;go_wp2;go_ret;exact Aa e5
       |none=>
        obtain⟨a3,a8⟩:=Aa bv Z;have eb:=Ab a8;rw[a3];clear a3 a8 b9 co bw bv Z a2;go_wp2;go_round
        case rel=>exact⟨i+1,by omega,by go_num,Ab (by rw[Aa e7,Aa fi];exact(Aa a4).1),Ab (Aa a4).2.1,Ab (Aa a4).2.2.1,Ab (by omega),eb,df⟩
        case measure=>simp[intOf];omega
  . obtain rfl:i=15:=by omega
    have dj:((0,0,8):Nat×Nat×Int)=au:=Aa ct;have a6:Hid (v.e=8):=Ab (by rw[(Aa b5).2,<-dj]);have e9:Hid (Bl No B w wr):=Ab ((Aa dq).trans (Aa ai).bl);clear dj;go_wp2;exact And.intro rfl (al.inr ⟨by rw[Aa a6];decide,by rw[Aa a6],Aa e9⟩)
theorem LK (No:Nat->Prop)(B b:Nat)(a:Option Addr)(n M:Nat)(bs:List Nat)(H I:Value)(u:US)(w:World)(G:IIs No B w b (.slice a n M) H I u)(ac:Rd w No a n bs)(U:u.p<=8*n)(Z:u.e=0)(F E O T:Nat)(l:List Int)(Y:DIs w F E O T b l)(aa:Good l)(af:No F/\No E/\No O)(ag:∀g,w.heap.size<=g->¬No g)(k:Nat)(v:US)(ae:Hid (uplace l (rowB bs n) u=(k,v))):
 Calls Tryz.prog 281 #[.pointer (some ⟨F,0,none⟩),.pointer (some ⟨E,0,none⟩)] w fun e w'=>Got No B w b (.slice a n M) H I (.int .i64 (k:Int)) v e w':=(BI No B b a n M bs H I u w G ac U Z F E O T l Y aa af ag k v ae).mono (fun _ _ G=>G.got)
end Go.Proofs.YtleocpdblhbimaaGreatDoor
