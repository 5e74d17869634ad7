import Derived.Test.YtleocpdblhbimaaGreatDoorQ29
set_option linter.unusedSimpArgs false
set_option maxHeartbeats 4000000
namespace Go.Proofs.YtleocpdblhbimaaGreatDoor
open Go.RowKit
set_option linter.unusedVariables false
set_option maxRecDepth 100000 in
theorem Z3n (N T av aa ae af ah ag:Nat)(l:List Int)(d:Nat->Int×Int)(w:World)(a8:N<=288)(bf:Cx T aa ae af ah ag l w)(bg:PC N T l d w)(a3:RW d 0 N):
 Calls Tryz.prog 283 #[.slice (some ⟨T,0,none⟩) N av,.int .i64 N,CF aa] w fun e w'=>e=.returned (.tuple #[])/\∃d',PC N T l d' w'/\Stab.Moved 0 N d d'/\Stab.Srt Stab.lx d' 0 N/\w.grownBy w' (some T):=by
 have bc:Hid (CSt N T aa ae af ah ag l w w d):=⟨bg,Aw _ _,bf⟩
 have bq:=Ab a3;have bd:Hid (Part d d N 20 0):=⟨fun s h=>by omega,fun _ _=>rfl,fun s i j hi b3 hn=>a3 i j (VH _) (by omega) hn⟩
 have bb:=Ab (Nk N T av aa ae af ah ag l a8 N);clear bg bf a3;go_enter Tryz.func283,Tryz.ntmps283
 go_wp2;go_loopw [7,8] (fun al a6 wr=>∃(t F:Nat) (dk:Nat->Int×Int),Hid (F=t*20)/\F<=N/\al=.int .i64 F/\a6=.int .i64 ((F:Int)+20)/\CSt N T aa ae af ah ag l w wr dk/\Stab.Moved 0 N d dk/\Part dk d N 20 t) (fun al _ _=>N+1-(intOf al).toNat)
 case atStart=>exact⟨0,0,d,Ab rfl,VH _,rfl,rfl,Aa bc,Stab.Moved.refl _ _ _,Aa bd⟩
 case round=>
  obtain⟨t,F,dk,I,an,rfl,rfl,ab,ac,am⟩:=hrel;have U:=Ab ab;have ao:=Ab ac;have O:=Ab am
  have az:Hid (∀e,e<=N->RW dk F e):=fun e bw i j be bm bz=>by
   rw[Aa I]at be;rw[am.rest i be,am.rest j (by omega)];exact Aa bq i j (VH _) bm (by omega)
  clear ab ac am bc bd
  by_cases G:F+20<=N
  . have ay:(F:Int)+20<=(N:Int):=by omega
    have E:Hid ((F:Int)+20=((F+20:Nat):Int)):=by unfold Hid;omega
    go_wp2_with fail
    rw[Aa E];refine(Vk N T av aa ae af ah ag l dk F (F+20) _ a8 (by omega) G (Aa U).cx (Aa U).ps (Aa az (F+20) G)).mono ?_;rintro e bt ⟨rfl,d',ar,m2,ak,g2⟩;have aw:=Ab ((Aa U).next ar g2);have au:=Ab ((Aa ao).trans (m2.wider (VH _) (by omega) G))
    have bv:Hid (Part d' d N 20 (t+1)):=by
     have H:=Aa I;rw[H]at m2 ak G;exact(Aa O).step G m2 ak
    have bo:Hid (F+20=(t+1)*20):=by have:=Aa I;unfold Hid;omega
    clear ar m2 ak g2;go_wp2;go_roundw
    case rel=>exact⟨t+1,F+20,d',bo,G,rfl,by go_num,Aa aw,Aa au,Aa bv⟩
    case measure=>simp[intOf];omega
  . have ay:¬(F:Int)+20<=(N:Int):=by omega
    go_wp2_with fail
    refine(Vk N T av aa ae af ah ag l dk F N _ a8 an (VB _) (Aa U).cx (Aa U).ps (Aa az N (VB _))).mono ?_;rintro e bt ⟨rfl,d',ar,m2,ak,g2⟩;have aw:=Ab ((Aa U).next ar g2);have au:=Ab ((Aa ao).trans (m2.wider (VH _) an (VB _)))
    have a4:Hid (Jq d' N 20/\Cuts d' N 20):=by
     have H:=Aa I;rw[H]at m2 ak;exact(Aa O).last (by omega) (by omega) m2 ak
    clear ar m2 ak g2 U ao O az I an G ay;go_wp2;go_loopw [6,7,8,9] (fun a5 _ _ _ wr=>∃(B:Nat) (M:Nat->Int×Int),0<B/\B<=1000/\a5=.int .i64 B/\CSt N T aa ae af ah ag l w wr M/\Stab.Moved 0 N d M/\Jq M N B/\Cuts M N B) (fun a5 _ _ _ _=>N-(intOf a5).toNat)
    case atStart=>exact⟨20,d',by omega,by omega,rfl,Aa aw,Aa au,(Aa a4).1,(Aa a4).2⟩
    case round=>
     obtain⟨B,M,b0,b4,rfl,ab,ac,bh,a1⟩:=hrel;have U:=Ab ab;have ao:=Ab ac;have ax:=Ab bh;have bi:=Ab a1;have a2:Hid (Part M M N (2*B) 0):=⟨fun s h=>by omega,fun _ _=>rfl,a1.double⟩
     clear ab ac bh a1 aw au a4
     by_cases b5:B<N
     . go_wp2;go_loopw [7,8] (fun al a6 wr=>∃(t F:Nat) (dk:Nat->Int×Int),Hid (F=t*(2*B))/\F<=N/\al=.int .i64 F/\a6=.int .i64 ((F:Int)+2*(B:Int))/\CSt N T aa ae af ah ag l w wr dk/\Stab.Moved 0 N d dk/\Part dk M N (2*B) t) (fun al _ _=>N+1-(intOf al).toNat)
       case atStart=>exact⟨0,0,M,Ab (YJ _).symm,VH _,rfl,by go_num,Aa U,Aa ao,Aa a2⟩
       case round=>
        obtain⟨t,F,dk,I,an,rfl,rfl,ab,ac,am⟩:=hrel;have aj:=Ab ab;have a9:=Ab ac;have O:=Ab am;clear ab ac am a2
        by_cases G:F+2*B<=N
        . have ay:(F:Int)+2*(B:Int)<=(N:Int):=by omega
          have E:Hid ((F:Int)+2*(B:Int)=((F+2*B:Nat):Int)):=by unfold Hid;omega
          have a7:Hid ((F:Int)+(B:Int)=((F+B:Nat):Int)):=by unfold Hid;omega
          have Z:Hid (Stab.Srt Stab.lx dk F (F+B)/\Stab.Srt Stab.lx dk (F+B) (F+2*B)/\Stab.Cross dk F (F+B) (F+2*B)):=by
           have H:=Aa I;rw[H];rw[H]at G;exact On (Aa ax) (Aa bi) (Aa O).rest (by omega) (VB _) G (.inr rfl)
          go_wp2_with fail
          rw[Aa E,Aa a7];refine(Aa bb dk F (F+B) (F+2*B) _ (by omega) (by omega) (by omega) G (Aa aj).cx (Aa aj).ps (Aa Z).1 (Aa Z).2.1 (Aa Z).2.2).mono ?_;rintro e w3 ⟨rfl,ap,aq,Y,ai,g3⟩;have a0:=Ab ((Aa aj).next aq g3);have ba:=Ab ((Aa a9).trans (Y.wider (VH _) (by omega) G))
          have bn:Hid (Part ap M N (2*B) (t+1)):=by
           have H:=Aa I;rw[H]at Y ai G;exact(Aa O).step G Y ai
          have bj:Hid (F+2*B=(t+1)*(2*B)):=by have:=Aa I;unfold Hid;rw[ZD t (2*B),<-this]
          clear aq Y ai g3 Z;go_wp2;go_roundw
          case rel=>exact⟨t+1,F+2*B,ap,bj,G,rfl,by go_num,Aa a0,Aa ba,Aa bn⟩
          case measure=>simp[intOf];omega
        . have ay:¬(F:Int)+2*(B:Int)<=(N:Int):=by omega
          by_cases hm:F+B<N
          . have bu:(F:Int)+(B:Int)<(N:Int):=by omega
            have a7:Hid ((F:Int)+(B:Int)=((F+B:Nat):Int)):=by unfold Hid;omega
            have Z:Hid (Stab.Srt Stab.lx dk F (F+B)/\Stab.Srt Stab.lx dk (F+B) N/\Stab.Cross dk F (F+B) N):=by
             have H:=Aa I;rw[H];rw[H]at G hm;exact On (Aa ax) (Aa bi) (Aa O).rest hm (by omega) (VB _) (.inl rfl)
            go_wp2_with fail
            rw[Aa a7];refine(Aa bb dk F (F+B) N _ (by omega) (by omega) hm (VB _) (Aa aj).cx (Aa aj).ps (Aa Z).1 (Aa Z).2.1 (Aa Z).2.2).mono ?_;rintro e w3 ⟨rfl,ap,aq,Y,ai,g3⟩;have a0:=Ab ((Aa aj).next aq g3);have ba:=Ab ((Aa a9).trans (Y.wider (VH _) an (VB _)))
            have as:Hid (Jq ap N (2*B)/\Cuts ap N (2*B)):=by
             have H:=Aa I;rw[H]at Y ai;exact(Aa O).last (by omega) (by omega) Y ai
            clear aq Y ai g3 Z O I;go_wp2;go_roundw
            case rel=>exact⟨2*B,ap,by omega,by omega,congrArg (Value.int .i64) (by omega),Aa a0,Aa ba,(Aa as).1,(Aa as).2⟩
            case measure=>simp[intOf];omega
          . have bu:¬(F:Int)+(B:Int)<(N:Int):=by omega
            have as:Hid (Jq dk N (2*B)/\Cuts dk N (2*B)):=by
             have H:=Aa I;rw[H]at G hm an;exact(Aa O).last an (by omega) (Stab.Moved.refl _ _ _) (MY (Aa ax) (Aa O).rest (by omega))
            clear O I;go_wp2;go_roundw
            case rel=>exact⟨2*B,dk,by omega,by omega,congrArg (Value.int .i64) (by omega),Aa aj,Aa a9,(Aa as).1,(Aa as).2⟩
            case measure=>simp[intOf];omega
     . have bk:Hid (Stab.Srt Stab.lx M 0 N):=by
        have:=Aa ax 0
        rw[YJ,YG (by omega)]at this;exact this
       clear a2;go_wp2;go_end0
       exact⟨rfl,M,(Aa U).ps,Aa ao,Aa bk,(Aa U).grown⟩
theorem S5 (N E M F G T Z Y:Nat)(l:List Int)(d:Nat->Int×Int)(w:World)(ab:N<=288)(I:Cx E F G T Z Y l w)(O:PC N E l d w)(U:RW d 0 N):
 Calls Tryz.prog 275 #[.slice (some ⟨E,0,none⟩) N M,CF F] w fun e w'=>e=.returned (.tuple #[])/\∃d',PC N E l d' w'/\Stab.Moved 0 N d d'/\Stab.Srt Stab.lx d' 0 N/\w.grownBy w' (some E):=by
 have aa:=Ab (Z3n N E M F G T Z Y l d w ab I O U);clear I O U;go_enter Tryz.func275,Tryz.ntmps275
 go_wp2_with fail
 refine(Aa aa).mono ?_;rintro e ac ⟨rfl,h⟩;have H:=Ab h;clear h;go_wp2;go_end0
 exact⟨rfl,Aa H⟩
theorem Oi (p:Option Addr)(F G:Nat)(w:World):
 Calls Tryz.prog 275 #[.slice p 0 F,CF G] w fun e w'=>e=.returned (.tuple #[])/\w'=w:=by
 have O:∀w,Calls Tryz.prog 284 #[.slice p 0 F,.int .i64 0,.int .i64 0,CF G] w fun e w'=>e=.returned (.tuple #[])/\w'=w:=by
  intro w;go_enter Tryz.func284,Tryz.ntmps284
  go_wp2;go_loopw [8] (fun H wr=>H=.int .i64 1/\wr=w) (fun H _=>0)
  case atStart=>exact⟨rfl,rfl⟩
  case round=>
   obtain⟨rfl,rfl⟩:=hrel;go_wp2;go_end0
   exact⟨rfl,rfl⟩
 have T:∀w,Calls Tryz.prog 283 #[.slice p 0 F,.int .i64 0,CF G] w fun e w'=>e=.returned (.tuple #[])/\w'=w:=by
  intro w;go_enter Tryz.func283,Tryz.ntmps283
  go_wp2;go_loopw [7,8] (fun E M wr=>E=.int .i64 0/\M=.int .i64 20/\wr=w) (fun E _ _=>0)
  case atStart=>exact⟨rfl,rfl,rfl⟩
  case round=>
   obtain⟨rfl,rfl,rfl⟩:=hrel;go_wp2_with fail
   refine(O wr).mono ?_;rintro e I ⟨rfl,rfl⟩;go_wp2;go_loopw [6,7,8,9] (fun E M Y U wr=>E=.int .i64 20/\wr=I) (fun E _ _ _ _=>0)
   case atStart=>exact⟨rfl,rfl⟩
   case round=>
    obtain⟨rfl,rfl⟩:=hrel;go_wp2;go_end0
    exact⟨rfl,rfl⟩
 go_enter Tryz.func275,Tryz.ntmps275
 go_wp2_with fail
 refine(T w).mono ?_;rintro e I ⟨rfl,rfl⟩;go_wp2;go_end0
 exact⟨rfl,rfl⟩
structure WRow (w:World)(g:Nat)(xs:List Int):Prop where
 lt:g<w.heap.size
 at_:∀j,j<xs.length->w.cell? ⟨g,j,none⟩=some (.int .i64 (xs.getD j 0))/\w.frozen? ⟨g,j,none⟩=false
theorem WRow.row {w:World}{E:Nat}{xs:List Int}(F:WRow w E xs):RowIn .i64 w (some ⟨E,0,none⟩) xs:=.inr ⟨E,0,rfl,F.lt,fun j G=>by rw[WG];exact(F.at_ j G).1⟩
theorem WRow.grown {w w':World}{E:Nat}{xs:List Int}{r:Option Nat}(F:WRow w E xs)(G:w.grownBy w' r)(I:some E≠r):WRow w' E xs:=by
 refine⟨VG F.lt G.size,fun j H=> ?_⟩;have e:=G.block E F.lt I;exact⟨by rw[World.cell?_of_block (w:=w) (a:=⟨E,j,none⟩) e];exact(F.at_ j H).1,by rw[World.frozen?_of_block (w:=w) (a:=⟨E,j,none⟩) e];exact(F.at_ j H).2⟩
theorem WRow.below {w w':World}{B E:Nat}{xs:List Int}(F:WRow w E xs)(G:Below B w w')(H:E<B):WRow w' E xs:=
 ⟨VG F.lt G.size,fun j I=>⟨by rw[G.cell (p:=⟨E,j,none⟩) H];exact(F.at_ j I).1,by rw[G.frozen (p:=⟨E,j,none⟩) H];exact(F.at_ j I).2⟩⟩
theorem WRow.own {w:World}{B F n G:Nat}{xs:List Int}(E:w.ownsRow B 3 1 (.slice (some ⟨F,0,none⟩) n G) n (iv xs)):WRow w F xs:=by
 refine⟨(E.lt F rfl).2,fun j H=>⟨?_,E.frozenAt j⟩⟩;have hn:xs.length=n:=by have:=E.1;simpa using this
 rw[E.cellAt j (by omega)];simp[List.getD,H]
theorem WRow.set {w:World}{G:Nat}{xs:List Int}(E:WRow w G xs)(i:Nat)(H:i<xs.length)(v:Int):WRow (w.setCell ⟨G,i,none⟩ (.int .i64 v)) G (xs.set i v):=by
 refine⟨by simpa using E.lt,fun j F=> ?_⟩;rw[XS]at F;refine⟨?_,by simp[(E.at_ j F).2]⟩
 by_cases e:i=j
 . subst e;rw[World.cell?_setCell_same _ _ _ (E.at_ i F).1];simp[List.getD,H]
 . rw[World.cell?_setCell_other _ _ _ _ (by intro E;injection E;omega),(E.at_ j F).1];simp[List.getD,e]
theorem WRow.other {w:World}{F:Nat}{xs:List Int}(E:WRow w F xs){a:Addr}(H:a.block≠F)(v:Value):WRow (w.setCell a v) F xs:=by
 refine⟨by simpa using E.lt,fun j G=>⟨?_,by simp[(E.at_ j G).2]⟩⟩;rw[World.cell?_setCell_other _ _ _ _ (by intro E;subst E;exact H rfl)];exact(E.at_ j G).1
theorem WRow.drew {w:World}{E:Nat}{xs:List Int}(F:WRow w E xs):WRow w.drew E xs:=⟨F.lt,F.at_⟩
abbrev ni (P:List Nat):List Int:=P.map fun p:Nat=>(p:Int)
def dOf (l:List Int)(P:List Nat)(k:Nat):Int×Int:=(l.getD (P.getD k 0) 0,(P.getD k 0:Nat))
theorem Z3u (l:List Int)(P:List Nat):(Stab.seg (dOf l P) 0 P.length).map (fun x=>x.2.toNat)=P:=by
 apply XK
 . simp[Stab.seg]
 . intro i F E;simp[Stab.seg,dOf,List.getD,E]
theorem Z3x {l:List Int}{N O:Nat}{w':World}{d':Nat->Int×Int}(aa:N=(wpl l l.length).length)(I:PC N O l d' w')(ab:Stab.Moved 0 N (dOf l (wpl l l.length)) d')(ae:Stab.Srt Stab.lx d' 0 N)(P:List Nat)(E:P=(Stab.seg d' 0 N).map fun x=>x.2.toNat):RiseOf l P:=by
 have af:P.length=N:=by rw[E];simp[Stab.seg]
 have F:∀i (h:i<P.length),P[i]=(d' i).2.toNat:=by
  intro i h;simp[E,Stab.seg]
 refine⟨?_, ?_⟩
 . have:=ab.perm.map (fun x:Int×Int=>x.2.toNat)
   rw[<-E,aa,Z3u]at this;exact this
 . rw[YE];intro i j hi Y T;have Z:i<N:=by omega
   have H:j<N:=by omega
   obtain⟨_,p,G,ah,ac⟩:=I i Z;obtain⟨_,q,M,ag,U⟩:=I j H;have h:=ae i j (VH _) T H;unfold Stab.lx at h;rw[F i hi,F j Y,G,M,WM,WM];rw[G,M,ac,U]at h;omega
set_option maxRecDepth 100000 in
theorem FJ (a:Option Addr)(F H:Nat)(l:List Int)(w:World)(ai:l.length=F)(a6:F<=288)(G:RowIn .i64 w a l):
 Calls Tryz.prog 258 #[.slice a F H] w fun e w'=>∃v P,e=.returned v/\RiseOf l P/\Below w.heap.size w w'/\((P= []/\v=.slice none 0 0)\/∃g c,v=.slice (some ⟨g,0,none⟩) P.length c/\P.length<=c/\c<=maxLen/\w.heap.size<=g/\WRow w' g (ni P)):=by
 obtain⟨bi,hi,bu,bk,bh⟩:=info_parts Bv;have ag:=Ab ai;have ak:=Ab G;have bo:(w.alloc (.cells #[.slice a F H] 76)).cell? ⟨w.heap.size,0,none⟩=some (.slice a F H):=by simp
 clear G;have bz:=Ab ((Below.refl w.heap.size w).alloc (VB _) (.cells #[.slice a F H] 76));go_enter Tryz.func258,Tryz.ntmps258
 go_wp2;go_loopw [3,4,5,8] (fun vo _ _ i wr=>∃k:Nat,k<=F/\i=.int .i64 k/\wr.ownsRow (w.heap.size+1) 3 1 vo (wpl l k).length (i64s (wpl l k))/\(wpl l k= []->vo=.slice none 0 0)/\Below (w.heap.size+1) (w.alloc (.cells #[.slice a F H] 76)) wr) (fun _ _ _ i _=>F-(intOf i).toNat)
 case atStart=>exact⟨0,VH _,rfl,⟨rfl,.inl ⟨rfl,rfl⟩⟩,fun _=>rfl,Below.refl _ _⟩
 case round=>
  obtain⟨k,am,rfl,O,aq,T⟩:=hrel;have af:=Ab aq;clear aq;have U:=Ab O;have I:=Ab T;have bj:=T.size;simp only[World.size_alloc]at bj
  by_cases b5:k<F
  . have ax:k<l.length:=by omega
    obtain⟨b,o,rfl,hb,G⟩:∃b o,a=some ⟨b,o,none⟩/\b<w.heap.size/\Row .i64 w b o l:=by
     rcases Aa ak with rfl|h
     . simp at ax
     . exact h
    have c1:=((Aa I).cell (p:=⟨b,o+k,none⟩) (by simp;omega)).trans ((World.cell?_alloc_past _ _ _ hb).trans (G k ax));have cd:=Pt l k;have M:Hid (wpl l (k+1)=wpl l k++(if 0<l.getD k 0 then [k]else [])):=rfl;clear O T G;generalize l.getD k 0=x at*
    by_cases az:0<x
    . rw[if_pos az]at M;go_wp2_with (at_builtin;refine wpList_append_own _ rfl _ _ 76 rfl (w.heap.size+1) 3 bi (.int .i64 0) 1 8 Tryz.underlying76 hi bu bk bh rfl (by decide) _ _ _ rfl ((Aa U).alloc _) ⟨wr.heap.size,0,none⟩ 1 1 [.int .i64 (k:Int)] rfl rfl (by intro j u E;match j,E with|0,E=>simp at E;subst E;simp[Addr.add]) (by intro u ay;simp at ay;subst ay;rfl) (by unfold maxLen;omega) (by omega) (by simp;omega) ?_)
      intro v' b9 a0 a4 _;have a7:=Ab a0;have bq:=Ab (((Aa I).alloc (by omega) _).grown a4 (by simp;omega) (fun k am=>((Aa U).lt k am).1));clear a0 a4;go_wp2;go_roundw
      case rel=>
       refine⟨k+1,by omega,by go_num, ?_,fun h=>by rw[Aa M]at h;simp at h,Aa bq⟩;have e:i64s (wpl l (k+1))=i64s (wpl l k)++ [.int .i64 (k:Int)]:=by rw[Aa M];simp[i64s]
       have e2:(wpl l (k+1)).length=(wpl l k).length+1:=by rw[Aa M,VE];rfl
       rw[e,e2];exact Aa a7
      case measure=>simp[intOf];omega
    . rw[if_neg az,XA]at M;go_wp2;go_roundw
      case rel=>exact⟨k+1,by omega,by go_num,by rw[Aa M];exact Aa U,by rw[Aa M];exact Aa af,Aa I⟩
      case measure=>simp[intOf];omega
  . obtain rfl:k=F:=by omega
    have aw:Hid (Below w.heap.size w wr):=(Aa bz).trans ((Aa I).mono (by omega))
    by_cases ae:wpl l k= []
    . have ah:=Aa af ae;subst ah;have bw:Hid (RiseOf l []):=⟨by rw[Aa ag,ae],.nil⟩
      clear O T;go_wp2_with fail
      refine(Oi none 0 w.heap.size wr).mono ?_;rintro e ab ⟨rfl,rfl⟩;go_wp2;go_ret;exact⟨_,[],rfl,Aa bw,Aa aw,.inl ⟨rfl,rfl⟩⟩
    . have b3:0<(wpl l k).length:=by cases h:wpl l k with|nil=>exact absurd h ae|cons=>simp
      obtain⟨g,c,ah,av,a3,ba,bd⟩:∃g c,u3=.slice (some ⟨g,0,none⟩) (wpl l k).length c/\w.heap.size+1<=g/\g<wr.heap.size/\(wpl l k).length<=c/\c<=maxLen:=by
       rcases O.2 with h|⟨g,c,cur,Z,be,a2,bv,bc,ce,b0⟩
       . omega
       . refine⟨g,c,Z,be, ?_,bv,bc⟩
         rcases ZQ g wr.heap.size with h|h
         . exact h
         . rw[ZN h]at a2;cases a2
      subst ah;have b7:=Pt l k
      obtain⟨b,o,rfl,hb,G⟩:∃b o,a=some ⟨b,o,none⟩/\b<w.heap.size/\Row .i64 w b o l:=by
       rcases Aa ak with rfl|h
       . simp at ai;omega
       . exact h
      have as:Cx g w.heap.size b o k H l wr:=by
       refine⟨((Aa I).cell (p:=⟨w.heap.size,0,none⟩) (by simp)).trans bo,fun j E=>((Aa I).cell (p:=⟨b,o+j,none⟩) (by simp;omega)).trans ((World.cell?_alloc_past _ _ _ hb).trans (G j E)),ai,a6, ?_, ?_,a3,by omega,by omega⟩
       . omega
       . omega
      have ap:PC (wpl l k).length g l (dOf l (wpl l k)) wr:=by
       intro j E;refine⟨⟨?_,O.frozenAt j⟩,(wpl l k).getD j 0,rfl, ?_,rfl⟩
       . rw[O.cellAt j (by omega)];simp[dOf,List.getD,E]
       . have Z:(wpl l k).getD j 0∈wpl l k:=by simp[List.getD,E]
         have:=JY l k _ Z
         omega
      have al:RW (dOf l (wpl l k)) 0 (wpl l k).length:=by
       intro i j _ bg E;have Z:=(YE.1 (AX l k)) i j (by omega) E bg;have bb:(wpl l k).getD i 0=(wpl l k)[i]'(by omega):=by simp[List.getD,show i<(wpl l k).length by omega]
       have e2:(wpl l k).getD j 0=(wpl l k)[j]'hj:=by simp[List.getD,E]
       unfold dOf;simp only[];rw[bb,e2];omega
      have bn:=Ab (S5 (wpl l k).length g c w.heap.size b o k H l _ wr (by omega) as ap al);have a5:=Ab av;clear O T as ap al G U I af av;generalize au:(wpl l k).length=N at*;have a8:=Ab au;clear au;go_wp2_with fail
      refine(Aa bn).mono ?_;rintro e ab ⟨rfl,d',aj,ao,ar,ac⟩;obtain⟨P,Y⟩:∃P,P=(Stab.seg d' 0 N).map fun x=>x.2.toNat:=⟨_,rfl⟩
      have aa:P.length=N:=by rw[Y];simp[Stab.seg]
      have bf:Hid (RiseOf l P):=by
       refine Z3x (by rw[Aa ag,Aa a8]) aj ?_ ar P Y;rw[Aa ag];exact ao
      have bm:Hid (WRow ab g (ni P)):=by
       refine⟨VG a3 ac.size,fun j E=> ?_⟩;have a1:j<N:=by simpa[aa]using E
       obtain⟨⟨c0,f0⟩,p,bt,b8,b4⟩:=aj j a1;refine⟨?_,f0⟩;rw[c0]
       have:(ni P).getD j 0=(d' j).2:=by
        simp[Y,Stab.seg,List.getD,a1,bt]
       rw[this]
      have a9:Hid (Below w.heap.size w ab):=(Aa aw).grown ac (by omega) (fun j h=>by cases h;have:=Aa a5;omega);have an:=Ab aa;clear aj ao ar ac Y aa;go_wp2;go_ret;refine⟨_,P,rfl,Aa bf,Aa a9,.inr ⟨g,c, ?_, ?_,bd, ?_,Aa bm⟩⟩
      . rw[Aa an];rfl
      . rw[Aa an];exact ba
      . have:=Aa a5;omega
theorem Mg (xs:List Int)(i j:Nat)(v:Int):(xs.set i v).getD j 0=if i=j/\i<xs.length then v else xs.getD j 0:=by
 simp only[List.getD];rw[YM]
 by_cases e:i=j
 . subst e
   by_cases h:i<xs.length
   . simp[h]
   . simp[h]
 . simp[e]
theorem Kw (xs:List Int)(p:Nat):(Tb xs p).length=xs.length:=by simp[Tb]
theorem Ca:∀(E:List Nat) (xs:List Int),(Cq xs E).length=xs.length
 | [],xs=>rfl
 |p::E,xs=>by
  show (Cq (Tb xs p) E).length=_
  rw[Ca E,Kw]
theorem JE (xs:List Int)(E:List Nat)(p:Nat):Cq xs (E++ [p])=Tb (Cq xs E) p:=by simp[Cq]
theorem JF {xs:List Int}{c:Int}(E:∀j,0<=xs.getD j 0/\xs.getD j 0<=c)(p:Nat):∀j,0<=(Tb xs p).getD j 0/\(Tb xs p).getD j 0<=c+1:=by
 intro j;have G:=E j;have F:=E p;unfold Tb;rw[Mg]
 split<;>omega
theorem Kv:∀(E:List Nat) {xs:List Int} {c:Int},(∀j,0<=xs.getD j 0/\xs.getD j 0<=c)->∀j,0<=(Cq xs E).getD j 0/\(Cq xs E).getD j 0<=c+E.length
 | [],xs,c,h=>by simpa[Cq]using h
 |p::E,xs,c,h=>by
  intro j;have:=Kv E (JF h p) j
  simp only[VJ];show 0<=(Cq (Tb xs p) E).getD j 0/\(Cq (Tb xs p) E).getD j 0<=_
  omega
theorem Je (F n c:Nat)(xs:List Int)(a:Option Addr)(m aa:Nat)(E:List Nat)(w:World)(aj:xs.length=n)(as:E.length=m)(ay:n<=288)(ax:m<=288)(ae:WRow w F xs)(ab:RowIn .i64 w a (ni E))(am:∀b o,a=some ⟨b,o,none⟩->b≠F)
 (T:∀p∈E,p<n) (O:∀j,0<=xs.getD j 0/\xs.getD j 0<=100000):
 Calls Tryz.prog 259 #[.slice (some ⟨F,0,none⟩) n c,.slice a m aa] w fun e w'=>e=.returned (.tuple #[])/\WRow w' F (Cq xs E)/\w.grownBy w' (some F):=by
 have ag:=Ab ae;have af:=Ab ab;have ak:=Ab T;have ap:=Ab O;clear ae ab T O;go_enter Tryz.func259,Tryz.ntmps259
 go_wp2;go_loopw [5,8] (fun _ i wr=>∃k:Nat,k<=m/\i=.int .i64 k/\WRow wr F (Cq xs (E.take k))/\w.grownBy wr (some F)) (fun _ i _=>m-(intOf i).toNat)
 case atStart=>exact⟨0,VH _,rfl,Aa ag,Aw _ _⟩
 case round=>
  obtain⟨k,ar,rfl,G,H⟩:=hrel;have ac:=Ab G;have al:=Ab H
  by_cases T:k<m
  . have M:k<E.length:=by omega
    obtain⟨b,o,rfl,O,Z⟩:∃b o,a=some ⟨b,o,none⟩/\b<w.heap.size/\Row .i64 w b o (ni E):=by
     rcases Aa af with h|h
     . simp at h;subst h;simp at M
     . exact h
    have an:=am b o rfl;obtain⟨p,I⟩:∃p,p=E[k]:=⟨_,rfl⟩
    have aw:p<n:=by rw[I];exact Aa ak _ (WK _)
    have c1:=H.cell (Z k (by simpa using M)) (by simpa using an);have U:(ni E).getD k 0=(p:Int):=by simp[List.getD,M,I]
    rw[U]at c1;have aq:(Cq xs (E.take k)).length=n:=by rw[Ca,aj]
    have aa:=(G.at_ p (by omega)).1;have f2:=(G.at_ p (by omega)).2;have az:=Kv (E.take k) (Aa ap) p;have au:(E.take k).length<=288:=by simp;omega
    have ai:Hid (Cq xs (E.take (k+1))=(Cq xs (E.take k)).set p ((Cq xs (E.take k)).getD p 0+1)):=by
     rw[XB M,JE,<-I];exact rfl
    have Y:=Ab (G.set p (by omega) ((Cq xs (E.take k)).getD p 0+1));have ao:=Ab (Aj H (Ad wr F p (.int .i64 ((Cq xs (E.take k)).getD p 0+1))));have av:(p:Int)<(n:Int):=by omega
    rw[<-Aa ai]at Y;clear G H Z I U;generalize (Cq xs (E.take k)).getD p 0=x at*;go_wp2;go_roundw
    case rel=>exact⟨k+1,by omega,by go_num,Aa Y,Aa ao⟩
    case measure=>simp[intOf];omega
  . obtain rfl:k=m:=by omega
    have ah:Hid (WRow wr F (Cq xs E)):=by rw[VV (by omega)]at ac;exact ac
    clear G H;go_wp2;go_end0
    exact⟨rfl,Aa ah,Aa al⟩
def part (f:Nat->Int)(m:Nat):Nat->List Int
 |0=>List.replicate m 0
 |k+1=>(part f m k).set k (f k)
theorem Ay (f:Nat->Int)(m:Nat):∀k,(part f m k).length=m
 |0=>by simp[part]
 |k+1=>by rw[part,XS,Ay f m k]
theorem D3 (f:Nat->Int)(m:Nat):∀k j,j<m->(part f m k).getD j 0=if j<k then f j else 0
 |0,j,hj=>by simp[part,List.getD,hj]
 |k+1,j,hj=>by
  rw[part,Mg,Ay,D3 f m k j hj]
  by_cases e:k=j
  . subst e;rw[if_pos ⟨rfl,hj⟩,if_pos (by omega)]
  . rw[if_neg (by omega)]
    by_cases h:j<k
    . rw[if_pos h,if_pos (by omega)]
    . rw[if_neg h,if_neg (by omega)]
theorem Xo (f:Nat->Int)(m:Nat)(xs:List Int)(G:xs.length=m)(I:∀j,j<m->xs.getD j 0=f j):part f m m=xs:=by
 apply XK
 . rw[Ay,G]
 . intro i E H;rw[Ay]at E;have F:=D3 f m m i E;rw[if_pos E,<-I i E]at F;simpa[List.getD,Ay,E,H]using F
theorem Rh (n:Nat):(madeCells #[Value.int .i64 0] n).toList=iv (List.replicate n 0):=by
 rw[toList_madeCells_one];simp
set_option maxRecDepth 100000 in
theorem Wk (a:Option Addr)(E an:Nat)(l:List Int)(O:Option Addr)(m ai:Nat)(P:List Nat)(w:World)(a2:l.length=E)(Z:P.length=m)(ba:m<=288)(a5:E<=288)(aj:RowIn .i64 w a l)(al:RowIn .i64 w O (ni P))(M:∀p∈P,p<E):
 Calls Tryz.prog 261 #[.slice a E an,.slice O m ai] w fun e w'=>∃g,e=.returned (.slice (some ⟨g,0,none⟩) m m)/\WRow w' g (P.map fun p=>l.getD p 0)/\Below w.heap.size w w'/\w.heap.size<=g:=by
 obtain⟨ay,hi,a1,az,av⟩:=info_parts Bv;have am:=Ab aj;have aw:=Ab al;have ax:=Ab M;clear aj al M;go_enter Tryz.func261,Tryz.ntmps261
 go_wp2_with (at_make;refine wpList_make_full _ rfl _ _ 76 rfl w.heap.size 3 ay (.int .i64 0) 1 Tryz.underlying76 hi a1 az _ _ _ _ m rfl rfl rfl rfl (by rw[av];omega) (by unfold maxLen;omega) (by simp) ?_)
 intro a9 T ah;have e0:(madeCells #[Value.int .i64 0] m).toList=iv (part (fun k=>l.getD (P.getD k 0) 0) m 0):=Rh m;rw[e0]at T;have ab:=WRow.own T;have ap:=Ab ab;have as:=Ab ((Below.refl w.heap.size w).grown ah (VB _) (fun j h=>by cases h));clear T ah e0 ab;generalize ac:w.heap.size=g at*;have U:=Ab ac;clear ac;go_wp2;go_loopw [6,7,13] (fun _ _ i wr=>∃k:Nat,k<=m/\i=.int .i64 k/\WRow wr g (part (fun k=>l.getD (P.getD k 0) 0) m k)/\Below g w wr) (fun _ _ i _=>m-(intOf i).toNat)
 case atStart=>exact⟨0,VH _,rfl,Aa ap,Aa as⟩
 case round=>
  obtain⟨k,a4,rfl,G,F⟩:=hrel;have ak:=Ab G;have ao:=Ab F
  by_cases M:k<m
  . have I:k<P.length:=by omega
    obtain⟨b2,o2,rfl,af,ae⟩:∃b o,O=some ⟨b,o,none⟩/\b<w.heap.size/\Row .i64 w b o (ni P):=by
     rcases Aa aw with h|h
     . simp at h;subst h;simp at I
     . exact h
    obtain⟨p,H⟩:∃p,p=P[k]:=⟨_,rfl⟩
    have a8:p<E:=by rw[H];exact Aa ax _ (WK _)
    obtain⟨b,o,rfl,hb,ag⟩:∃b o,a=some ⟨b,o,none⟩/\b<w.heap.size/\Row .i64 w b o l:=by
     rcases Aa am with rfl|h
     . simp at a2;omega
     . exact h
    rw[Aa U]at hb af;have c1:=(F.cell (p:=⟨b2,o2+k,none⟩) af).trans (ae k (by simpa using I));have Y:(ni P).getD k 0=(p:Int):=by simp[List.getD,I,H]
    have e2:P.getD k 0=p:=by simp[List.getD,I,H]
    rw[Y]at c1;have ai:=(F.cell (p:=⟨b,o+p,none⟩) hb).trans (ag p (by omega));have a3:=Ay (fun k=>l.getD (P.getD k 0) 0) m k;have bb:=(G.at_ k (by omega)).1;have a6:=(G.at_ k (by omega)).2;have ar:Hid (part (fun k=>l.getD (P.getD k 0) 0) m (k+1)=(part (fun k=>l.getD (P.getD k 0) 0) m k).set k (l.getD p 0)):=by rw[part,e2];exact rfl
    have aa:=Ab (G.set k (by omega) (l.getD p 0));have a0:=Ab (F.setCell (p:=⟨g,k,none⟩) (VB _) (.int .i64 (l.getD p 0)));have a7:(p:Int)<(E:Int):=by omega
    rw[<-Aa ar]at aa;clear G F ag ae H Y e2;generalize (part (fun k=>l.getD (P.getD k 0) 0) m k).getD k 0=y at*;generalize l.getD p 0=x at*;go_wp2;go_roundw
    case rel=>exact⟨k+1,by omega,by go_num,Aa aa,Aa a0⟩
    case measure=>simp[intOf];omega
  . obtain rfl:k=m:=by omega
    have aq:Hid (WRow wr g (P.map fun p=>l.getD p 0)):=by
     rw[Xo (fun k=>l.getD (P.getD k 0) 0) k (P.map fun p=>l.getD p 0) (by simp[Z]) (fun j au=>by simp[List.getD,Z,au])]at ak;exact ak
    clear G F;go_wp2;go_ret;exact⟨g,rfl,Aa aq,by rw[Aa U];exact Aa ao,by rw[Aa U];exact VB _⟩
theorem Eo:∀xs:List Int,(prs xs).length=xs.length/2
 | []=>rfl
 | [x]=>by simp[prs]
 |x::y::t=>by
  rw[prs,VJ,Eo t];simp only[VJ];omega
theorem Ow:∀(xs:List Int) (j:Nat),j<xs.length/2->(prs xs).getD j 0=xs.getD (2*j) 0+xs.getD (2*j+1) 0
 | [],j,h=>by simp at h
 | [x],j,h=>by simp at h
 |x::y::t,0,h=>by simp[prs]
 |x::y::t,j+1,h=>by
  have:=Ow t j (by simp only[VJ]at h;omega)
  rw[prs];simp only[List.getD_cons_succ];rw[this,show 2*(j+1)=2*j+1+1 by omega];simp only[List.getD_cons_succ]
set_option maxRecDepth 100000 in
theorem MO (a:Option Addr)(n c:Nat)(xs:List Int)(w:World)(I:xs.length=n)(a6:n<=1000)(ac:RowIn .i64 w a xs)(F:∀j,0<=xs.getD j 0/\xs.getD j 0<=1000000000000):
 Calls Tryz.prog 278 #[.slice a n c] w fun e w'=>∃g,e=.returned (.slice (some ⟨g,0,none⟩) (n/2) (n/2))/\WRow w' g (prs xs)/\Below w.heap.size w w'/\w.heap.size<=g:=by
 obtain⟨ar,hi,av,as,ap⟩:=info_parts Bv;have ag:=Ab ac;have aa:=Ab F;have ax:Hid ((n:Int)/2=((n/2:Nat):Int)):=by unfold Hid;omega
 have am:Hid (part (fun k=>xs.getD (2*k) 0+xs.getD (2*k+1) 0) (n/2) (n/2)=prs xs):=Xo _ _ _ (by rw[Eo,I]) (fun j ao=>Ow xs j (by rw[I];exact ao));have a4:2*(n/2)<=n:=by omega
 clear ac F;generalize n/2=m at*;go_enter Tryz.func278,Tryz.ntmps278
 go_wp2_with (at_make;rw[Aa ax];refine wpList_make_full _ rfl _ _ 76 rfl w.heap.size 3 ar (.int .i64 0) 1 Tryz.underlying76 hi av as _ _ _ _ m rfl rfl rfl rfl (by rw[ap];omega) (by unfold maxLen;omega) (by simp) ?_)
 intro a5 H ab;have e0:(madeCells #[Value.int .i64 0] m).toList=iv (part (fun k=>xs.getD (2*k) 0+xs.getD (2*k+1) 0) m 0):=Rh m;rw[e0]at H;have af:=WRow.own H;have aj:=Ab af;have an:=Ab ((Below.refl w.heap.size w).grown ab (VB _) (fun j h=>by cases h));clear H ab e0 af;generalize Z:w.heap.size=g at*;have O:=Ab Z;clear Z;go_wp2;go_loopw [4,11] (fun _ i wr=>∃k:Nat,k<=m/\i=.int .i64 k/\WRow wr g (part (fun k=>xs.getD (2*k) 0+xs.getD (2*k+1) 0) m k)/\Below g w wr) (fun _ i _=>m-(intOf i).toNat)
 case atStart=>exact⟨0,VH _,rfl,Aa aj,Aa an⟩
 case round=>
  obtain⟨k,az,rfl,E,G⟩:=hrel;have ae:=Ab E;have ah:=Ab G
  by_cases a1:k<m
  . obtain⟨b,o,rfl,F,M⟩:∃b o,a=some ⟨b,o,none⟩/\b<w.heap.size/\Row .i64 w b o xs:=by
     rcases Aa ag with rfl|h
     . simp at I;omega
     . exact h
    rw[Aa O]at F;obtain⟨s,U⟩:∃s,s=2*k:=⟨_,rfl⟩
    obtain⟨t,T⟩:∃t,t=2*k+1:=⟨_,rfl⟩
    have c1:=(G.cell (p:=⟨b,o+s,none⟩) F).trans (M s (by omega));have c2:=(G.cell (p:=⟨b,o+t,none⟩) F).trans (M t (by omega));have ay:=Ay (fun k=>xs.getD (2*k) 0+xs.getD (2*k+1) 0) m k;have aw:=(E.at_ k (by omega)).1;have ai:=(E.at_ k (by omega)).2;have b1:=Aa aa s;have b2:=Aa aa t;have al:Hid (part (fun k=>xs.getD (2*k) 0+xs.getD (2*k+1) 0) m (k+1)=(part (fun k=>xs.getD (2*k) 0+xs.getD (2*k+1) 0) m k).set k (xs.getD s 0+xs.getD t 0)):=by rw[U,T];exact rfl
    have Y:=Ab (E.set k (by omega) (xs.getD s 0+xs.getD t 0));have au:=Ab (G.setCell (p:=⟨g,k,none⟩) (VB _) (.int .i64 (xs.getD s 0+xs.getD t 0)));rw[<-Aa al]at Y;have ea:(2*(k:Int)).toNat=s:=by omega
    have pa:(0:Int)<=2*(k:Int):=by omega
    have a3:2*(k:Int)<(n:Int):=by omega
    have ra:IntKind.i64.wrap (2*(k:Int))=2*(k:Int):=by rw[IntKind.wrap_i64];omega
    have ec:(2*(k:Int)+1).toNat=t:=by omega
    have pc:(0:Int)<=2*(k:Int)+1:=by omega
    have a7:2*(k:Int)+1<(n:Int):=by omega
    have a0:IntKind.i64.wrap (2*(k:Int)+1)=2*(k:Int)+1:=by rw[IntKind.wrap_i64];omega
    have a2:(k:Int)<(m:Int):=by omega
    clear E G M U T;generalize (part (fun k=>xs.getD (2*k) 0+xs.getD (2*k+1) 0) m k).getD k 0=z at*;generalize xs.getD s 0=x at*;generalize xs.getD t 0=y at*;have rs:IntKind.i64.wrap (x+y)=x+y:=by rw[IntKind.wrap_i64];omega
    go_wp2_with fail
    go_big_region
    clear c1 c2 aw ai;have aq:=Ab (Ae (Aa au) 1);go_wp2;go_roundw
    case rel=>exact⟨k+1,by omega,by go_num,(Aa Y).drew,Aa aq⟩
    case measure=>simp[intOf];omega
  . obtain rfl:k=m:=by omega
    have ak:Hid (WRow wr g (prs xs)):=by rw[Aa am]at ae;exact ae
    clear E G;go_wp2;go_ret;exact⟨g,rfl,Aa ak,by rw[Aa O];exact Aa ah,by rw[Aa O];exact VB _⟩
end Go.Proofs.YtleocpdblhbimaaGreatDoor
