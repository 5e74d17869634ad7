import Derived.Test.YtcjbgpacnkilnagGreatDoorQ33
set_option maxHeartbeats 2000000
namespace Go.Proofs.YtcjbgpacnkilnagGreatDoor
open Go.RowKit
set_option linter.unusedVariables false
theorem Lr (xs:List Int)(i j:Nat)(v:Int):(xs.set i v).getD j 0=if i=j/\i<xs.length then v else xs.getD j 0:=by
 simp only[List.getD];rw[List.getElem?_set]
 by_cases e:i=j
 . subst e
   by_cases h:i<xs.length
   . simp[h]
   . simp[h]
 . simp[e]
theorem Kk (xs:List Int)(p:Nat):(Sa xs p).length=xs.length:=by simp[Sa]
theorem Bo:∀(ps:List Nat) (xs:List Int),(Cj xs ps).length=xs.length
 | [],xs=>rfl
 |p::ps,xs=>by
  show (Cj (Sa xs p) ps).length=_
  rw[Bo ps,Kk]
theorem Z8n (xs:List Int)(ps:List Nat)(p:Nat):Cj xs (ps++ [p])=Sa (Cj xs ps) p:=by simp[Cj]
theorem Z8o {xs:List Int}{c:Int}(h:∀j,0<=xs.getD j 0/\xs.getD j 0<=c)(p:Nat):∀j,0<=(Sa xs p).getD j 0/\(Sa xs p).getD j 0<=c+1:=by
 intro j;have h1:=h j;have h2:=h p;unfold Sa;rw[Lr]
 split<;>omega
theorem Kj:∀(ps:List Nat) {xs:List Int} {c:Int},(∀j,0<=xs.getD j 0/\xs.getD j 0<=c)->∀j,0<=(Cj xs ps).getD j 0/\(Cj xs ps).getD j 0<=c+ps.length
 | [],xs,c,h=>by simpa[Cj]using h
 |p::ps,xs,c,h=>by
  intro j;have:=Kj ps (Z8o h p) j
  simp only[List.length_cons];show 0<=(Cj (Sa xs p) ps).getD j 0/\(Cj (Sa xs p) ps).getD j 0<=_
  omega
theorem Iq (g n c:Nat)(xs:List Int)(a:Option Addr)(m c2:Nat)(ps:List Nat)(w:World)(hn:xs.length=n)(hm:ps.length=m)(hn1:n<=288)(hm1:m<=288)(hW:WRow w g xs)(hR:RowIn .i64 w a (ni ps))(hne:∀b o,a=some ⟨b,o,none⟩->b≠g)
 (hlt:∀p∈ps,p<n) (hb:∀j,0<=xs.getD j 0/\xs.getD j 0<=100000):
 Calls Tryz.prog 139 #[.slice (some ⟨g,0,none⟩) n c,.slice a m c2] w fun e w'=>e=.returned (.tuple #[])/\WRow w' g (Cj xs ps)/\w.grownBy w' (some g):=by
 have HW:=Ab hW;have HR:=Ab hR;have HL:=Ab hlt;have HBd:=Ab hb;clear hW hR hlt hb;go_enter Tryz.func139,Tryz.ntmps139
 go_wp2;go_loopw [5,8] (fun _ i wr=>∃k:Nat,k<=m/\i=.int .i64 k/\WRow wr g (Cj xs (ps.take k))/\w.grownBy wr (some g)) (fun _ i _=>m-(intOf i).toNat)
 case atStart=>exact⟨0,Nat.zero_le _,rfl,Aa HW,Ap _ _⟩
 case round=>
  obtain⟨k,hk,rfl,hWk,hg⟩:=hrel;have HWk:=Ab hWk;have HG:=Ab hg
  by_cases hlt:k<m
  . have hkp:k<ps.length:=by omega
    obtain⟨b,o,rfl,hb,hRw⟩:∃b o,a=some ⟨b,o,none⟩/\b<w.heap.size/\Row .i64 w b o (ni ps):=by
     rcases Aa HR with h|h
     . simp at h;subst h;simp at hkp
     . exact h
    have hbg:=hne b o rfl;obtain⟨p,hp⟩:∃p,p=ps[k]:=⟨_,rfl⟩
    have hpn:p<n:=by rw[hp];exact Aa HL _ (List.getElem_mem _)
    have c1:=hg.cell (hRw k (by simpa using hkp)) (by simpa using hbg);have e1:(ni ps).getD k 0=(p:Int):=by simp[List.getD,hkp,hp]
    rw[e1]at c1;have hlen:(Cj xs (ps.take k)).length=n:=by rw[Bo,hn]
    have c2:=(hWk.at_ p (by omega)).1;have f2:=(hWk.at_ p (by omega)).2;have hbd:=Kj (ps.take k) (Aa HBd) p;have hle:(ps.take k).length<=288:=by simp;omega
    have HU:Hid (Cj xs (ps.take (k+1))=(Cj xs (ps.take k)).set p ((Cj xs (ps.take k)).getD p 0+1)):=by
     rw[List.take_succ_eq_append_getElem hkp,Z8n,<-hp];exact rfl
    have HST:=Ab (hWk.set p (by omega) ((Cj xs (ps.take k)).getD p 0+1));have HGS:=Ab (Aj hg (Ad wr g p (.int .i64 ((Cj xs (ps.take k)).getD p 0+1))));have hpI:(p:Int)<(n:Int):=by omega
    rw[<-Aa HU]at HST;clear hWk hg hRw hp e1;generalize (Cj xs (ps.take k)).getD p 0=x at*;go_wp2;go_roundw
    case rel=>exact⟨k+1,by omega,by go_num,Aa HST,Aa HGS⟩
    case measure=>simp[intOf];omega
  . obtain rfl:k=m:=by omega
    have HF:Hid (WRow wr g (Cj xs ps)):=by rw[List.take_of_length_le (by omega)]at HWk;exact HWk
    clear hWk hg;go_wp2;go_end0
    exact⟨rfl,Aa HF,Aa HG⟩
def part (f:Nat->Int)(m:Nat):Nat->List Int
 |0=>List.replicate m 0
 |k+1=>(part f m k).set k (f k)
theorem Au (f:Nat->Int)(m:Nat):∀k,(part f m k).length=m
 |0=>by simp[part]
 |k+1=>by rw[part,List.length_set,Au f m k]
theorem Zl (f:Nat->Int)(m:Nat):∀k j,j<m->(part f m k).getD j 0=if j<k then f j else 0
 |0,j,hj=>by simp[part,List.getD,hj]
 |k+1,j,hj=>by
  rw[part,Lr,Au,Zl f m k j hj]
  by_cases e:k=j
  . subst e;rw[if_pos ⟨rfl,hj⟩,if_pos (by omega)]
  . rw[if_neg (by omega)]
    by_cases h:j<k
    . rw[if_pos h,if_pos (by omega)]
    . rw[if_neg h,if_neg (by omega)]
theorem Vu (f:Nat->Int)(m:Nat)(xs:List Int)(hl:xs.length=m)(h:∀j,j<m->xs.getD j 0=f j):part f m m=xs:=by
 apply List.ext_getElem
 . rw[Au,hl]
 . intro i h1 h2;rw[Au]at h1;have e1:=Zl f m m i h1;rw[if_pos h1,<-h i h1]at e1;simpa[List.getD,Au,h1,h2]using e1
theorem Qn (n:Nat):(madeCells #[Value.int .i64 0] n).toList=iv (List.replicate n 0):=by
 rw[toList_madeCells_one];simp
set_option maxRecDepth 100000 in
theorem Uw (a:Option Addr)(len cap:Nat)(l:List Int)(a2:Option Addr)(m c2:Nat)(P:List Nat)(w:World)(hl:l.length=len)(hm:P.length=m)(hm1:m<=288)(hl1:len<=288)(hR:RowIn .i64 w a l)(hR2:RowIn .i64 w a2 (ni P))(hlt:∀p∈P,p<len):
 Calls Tryz.prog 141 #[.slice a len cap,.slice a2 m c2] w fun e w'=>∃g,e=.returned (.slice (some ⟨g,0,none⟩) m m)/\WRow w' g (P.map fun p=>l.getD p 0)/\Below w.heap.size w w'/\w.heap.size<=g:=by
 obtain⟨i0,hi,hz0,hz1,hz2⟩:=info_parts Co;have HR:=Ab hR;have HR2:=Ab hR2;have HL:=Ab hlt;clear hR hR2 hlt;go_enter Tryz.func141,Tryz.ntmps141
 go_wp2_with (at_make;refine wpList_make_full _ rfl _ _ 81 rfl w.heap.size 3 i0 (.int .i64 0) 1 Tryz.underlying81 hi hz0 hz1 _ _ _ _ m rfl rfl rfl rfl (by rw[hz2];omega) (by unfold maxLen;omega) (by simp) ?_)
 intro w1 hown hgrow;have e0:(madeCells #[Value.int .i64 0] m).toList=iv (part (fun k=>l.getD (P.getD k 0) 0) m 0):=Qn m;rw[e0]at hown;have hW:=WRow.own hown;have HW:=Ab hW;have HB:=Ab ((Below.refl w.heap.size w).grown hgrow (Nat.le_refl _) (fun j h=>by cases h));clear hown hgrow e0 hW;generalize hgg:w.heap.size=g at*;have HGG:=Ab hgg;clear hgg;go_wp2;go_loopw [6,7,13] (fun _ _ i wr=>∃k:Nat,k<=m/\i=.int .i64 k/\WRow wr g (part (fun k=>l.getD (P.getD k 0) 0) m k)/\Below g w wr) (fun _ _ i _=>m-(intOf i).toNat)
 case atStart=>exact⟨0,Nat.zero_le _,rfl,Aa HW,Aa HB⟩
 case round=>
  obtain⟨k,hk,rfl,hWk,hB⟩:=hrel;have HWk:=Ab hWk;have HBk:=Ab hB
  by_cases hlt:k<m
  . have hkp:k<P.length:=by omega
    obtain⟨b2,o2,rfl,hb2,hRw2⟩:∃b o,a2=some ⟨b,o,none⟩/\b<w.heap.size/\Row .i64 w b o (ni P):=by
     rcases Aa HR2 with h|h
     . simp at h;subst h;simp at hkp
     . exact h
    obtain⟨p,hp⟩:∃p,p=P[k]:=⟨_,rfl⟩
    have hpn:p<len:=by rw[hp];exact Aa HL _ (List.getElem_mem _)
    obtain⟨b,o,rfl,hb,hRw⟩:∃b o,a=some ⟨b,o,none⟩/\b<w.heap.size/\Row .i64 w b o l:=by
     rcases Aa HR with rfl|h
     . simp at hl;omega
     . exact h
    rw[Aa HGG]at hb hb2;have c1:=(hB.cell (p:=⟨b2,o2+k,none⟩) hb2).trans (hRw2 k (by simpa using hkp));have e1:(ni P).getD k 0=(p:Int):=by simp[List.getD,hkp,hp]
    have e2:P.getD k 0=p:=by simp[List.getD,hkp,hp]
    rw[e1]at c1;have c2:=(hB.cell (p:=⟨b,o+p,none⟩) hb).trans (hRw p (by omega));have hlen:=Au (fun k=>l.getD (P.getD k 0) 0) m k;have c3:=(hWk.at_ k (by omega)).1;have f3:=(hWk.at_ k (by omega)).2;have HU:Hid (part (fun k=>l.getD (P.getD k 0) 0) m (k+1)=(part (fun k=>l.getD (P.getD k 0) 0) m k).set k (l.getD p 0)):=by rw[part,e2];exact rfl
    have HST:=Ab (hWk.set k (by omega) (l.getD p 0));have HBS:=Ab (hB.setCell (p:=⟨g,k,none⟩) (Nat.le_refl _) (.int .i64 (l.getD p 0)));have hpI:(p:Int)<(len:Int):=by omega
    rw[<-Aa HU]at HST;clear hWk hB hRw hRw2 hp e1 e2;generalize (part (fun k=>l.getD (P.getD k 0) 0) m k).getD k 0=y at*;generalize l.getD p 0=x at*;go_wp2;go_roundw
    case rel=>exact⟨k+1,by omega,by go_num,Aa HST,Aa HBS⟩
    case measure=>simp[intOf];omega
  . obtain rfl:k=m:=by omega
    have HF:Hid (WRow wr g (P.map fun p=>l.getD p 0)):=by
     rw[Vu (fun k=>l.getD (P.getD k 0) 0) k (P.map fun p=>l.getD p 0) (by simp[hm]) (fun j hj=>by simp[List.getD,hm,hj])]at HWk;exact HWk
    clear hWk hB;go_wp2;go_ret;exact⟨g,rfl,Aa HF,by rw[Aa HGG];exact Aa HBk,by rw[Aa HGG];exact Nat.le_refl _⟩
theorem Ep:∀xs:List Int,(prs xs).length=xs.length/2
 | []=>rfl
 | [x]=>by simp[prs]
 |x::y::t=>by
  rw[prs,List.length_cons,Ep t];simp only[List.length_cons];omega
theorem Om:∀(xs:List Int) (j:Nat),j<xs.length/2->(prs xs).getD j 0=xs.getD (2*j) 0+xs.getD (2*j+1) 0
 | [],j,h=>by simp at h
 | [x],j,h=>by simp at h
 |x::y::t,0,h=>by simp[prs]
 |x::y::t,j+1,h=>by
  have:=Om t j (by simp only[List.length_cons]at h;omega)
  rw[prs];simp only[List.getD_cons_succ];rw[this,show 2*(j+1)=2*j+1+1 by omega];simp only[List.getD_cons_succ]
set_option maxRecDepth 100000 in
theorem Zb0 (a:Option Addr)(n c:Nat)(xs:List Int)(w:World)(hn:xs.length=n)(hn1:n<=1000)(hR:RowIn .i64 w a xs)(hb:∀j,0<=xs.getD j 0/\xs.getD j 0<=1000000000000):
 Calls Tryz.prog 158 #[.slice a n c] w fun e w'=>∃g,e=.returned (.slice (some ⟨g,0,none⟩) (n/2) (n/2))/\WRow w' g (prs xs)/\Below w.heap.size w w'/\w.heap.size<=g:=by
 obtain⟨i0,hi,hz0,hz1,hz2⟩:=info_parts Co;have HR:=Ab hR;have HBd:=Ab hb;have HE:Hid ((n:Int)/2=((n/2:Nat):Int)):=by unfold Hid;omega
 have HF0:Hid (part (fun k=>xs.getD (2*k) 0+xs.getD (2*k+1) 0) (n/2) (n/2)=prs xs):=Vu _ _ _ (by rw[Ep,hn]) (fun j hj=>Om xs j (by rw[hn];exact hj));have hm2:2*(n/2)<=n:=by omega
 clear hR hb;generalize n/2=m at*;go_enter Tryz.func158,Tryz.ntmps158
 go_wp2_with (at_make;rw[Aa HE];refine wpList_make_full _ rfl _ _ 81 rfl w.heap.size 3 i0 (.int .i64 0) 1 Tryz.underlying81 hi hz0 hz1 _ _ _ _ m rfl rfl rfl rfl (by rw[hz2];omega) (by unfold maxLen;omega) (by simp) ?_)
 intro w1 hown hgrow;have e0:(madeCells #[Value.int .i64 0] m).toList=iv (part (fun k=>xs.getD (2*k) 0+xs.getD (2*k+1) 0) m 0):=Qn m;rw[e0]at hown;have hW:=WRow.own hown;have HW:=Ab hW;have HB:=Ab ((Below.refl w.heap.size w).grown hgrow (Nat.le_refl _) (fun j h=>by cases h));clear hown hgrow e0 hW;generalize hgg:w.heap.size=g at*;have HGG:=Ab hgg;clear hgg;go_wp2;go_loopw [4,11] (fun _ i wr=>∃k:Nat,k<=m/\i=.int .i64 k/\WRow wr g (part (fun k=>xs.getD (2*k) 0+xs.getD (2*k+1) 0) m k)/\Below g w wr) (fun _ i _=>m-(intOf i).toNat)
 case atStart=>exact⟨0,Nat.zero_le _,rfl,Aa HW,Aa HB⟩
 case round=>
  obtain⟨k,hk,rfl,hWk,hB⟩:=hrel;have HWk:=Ab hWk;have HBk:=Ab hB
  by_cases hlt:k<m
  . obtain⟨b,o,rfl,hb,hRw⟩:∃b o,a=some ⟨b,o,none⟩/\b<w.heap.size/\Row .i64 w b o xs:=by
     rcases Aa HR with rfl|h
     . simp at hn;omega
     . exact h
    rw[Aa HGG]at hb;obtain⟨s,hs⟩:∃s,s=2*k:=⟨_,rfl⟩
    obtain⟨t,ht⟩:∃t,t=2*k+1:=⟨_,rfl⟩
    have c1:=(hB.cell (p:=⟨b,o+s,none⟩) hb).trans (hRw s (by omega));have c2:=(hB.cell (p:=⟨b,o+t,none⟩) hb).trans (hRw t (by omega));have hlen:=Au (fun k=>xs.getD (2*k) 0+xs.getD (2*k+1) 0) m k;have c3:=(hWk.at_ k (by omega)).1;have f3:=(hWk.at_ k (by omega)).2;have b1:=Aa HBd s;have b2:=Aa HBd t;have HU:Hid (part (fun k=>xs.getD (2*k) 0+xs.getD (2*k+1) 0) m (k+1)=(part (fun k=>xs.getD (2*k) 0+xs.getD (2*k+1) 0) m k).set k (xs.getD s 0+xs.getD t 0)):=by rw[hs,ht];exact rfl
    have HST:=Ab (hWk.set k (by omega) (xs.getD s 0+xs.getD t 0));have HBS:=Ab (hB.setCell (p:=⟨g,k,none⟩) (Nat.le_refl _) (.int .i64 (xs.getD s 0+xs.getD t 0)));rw[<-Aa HU]at HST;have ea:(2*(k:Int)).toNat=s:=by omega
    have pa:(0:Int)<=2*(k:Int):=by omega
    have ba:2*(k:Int)<(n:Int):=by omega
    have ra:IntKind.i64.wrap (2*(k:Int))=2*(k:Int):=by rw[IntKind.wrap_i64];omega
    have ec:(2*(k:Int)+1).toNat=t:=by omega
    have pc:(0:Int)<=2*(k:Int)+1:=by omega
    have bc:2*(k:Int)+1<(n:Int):=by omega
    have rc:IntKind.i64.wrap (2*(k:Int)+1)=2*(k:Int)+1:=by rw[IntKind.wrap_i64];omega
    have hkm:(k:Int)<(m:Int):=by omega
    clear hWk hB hRw hs ht;generalize (part (fun k=>xs.getD (2*k) 0+xs.getD (2*k+1) 0) m k).getD k 0=z at*;generalize xs.getD s 0=x at*;generalize xs.getD t 0=y at*;have rs:IntKind.i64.wrap (x+y)=x+y:=by rw[IntKind.wrap_i64];omega
    go_wp2_with fail
    go_big_region
    clear c1 c2 c3 f3;have HBD:=Ab (Af (Aa HBS) 1);go_wp2;go_roundw
    case rel=>exact⟨k+1,by omega,by go_num,(Aa HST).drew,Aa HBD⟩
    case measure=>simp[intOf];omega
  . obtain rfl:k=m:=by omega
    have HF:Hid (WRow wr g (prs xs)):=by rw[Aa HF0]at HWk;exact HWk
    clear hWk hB;go_wp2;go_ret;exact⟨g,rfl,Aa HF,by rw[Aa HGG];exact Aa HBk,by rw[Aa HGG];exact Nat.le_refl _⟩
end Go.Proofs.YtcjbgpacnkilnagGreatDoor
