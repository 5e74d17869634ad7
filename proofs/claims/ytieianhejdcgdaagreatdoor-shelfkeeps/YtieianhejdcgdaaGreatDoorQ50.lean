import Derived.Test.YtieianhejdcgdaaGreatDoorQ49
import Derived.OwnWalk
import Derived.Maps.AppendAt
set_option linter.unusedSimpArgs false
set_option maxHeartbeats 4000000
namespace Go.Proofs.YtieianhejdcgdaaGreatDoor
open Go.RowKit
set_option linter.unusedVariables false
set_option maxRecDepth 100000
theorem AR:∀(l:List Bool) (i:Nat),(Dh l).testBit i=l.getD i false
 | [],i=>by simp[Dh]
 |b::r,0=>by
  rw[Nat.testBit_zero,Dh]
  cases b
  . simp
  . have:(1+2*Dh r)%2=1:=by omega
    simp[this]
 |b::r,i+1=>by
  rw[Nat.testBit_succ,Dh,show ((if b then 1 else 0)+2*Dh r)/2=Dh r by split<;>omega,AR r i];rfl
theorem Z0c (l:List Bool):Ah (Dh l) l.length=l:=by
 apply XF
 . rw[Ae]
 . intro i h1 h2;have e1:=Gm (Dh l) l.length i;rw[AR]at e1;simpa[List.getD,h1,h2]using e1
theorem Z0s:∀(n:Nat) (S:List Bool),S.length=8*n->∃out:List Nat,out.length=n/\rowB out n=S/\∀x∈out,x<256
 |0,S,h=>by
  have:S= []:=List.length_eq_zero_iff.1 (by omega)
  subst this;exact⟨[],rfl,rfl,fun x hx=>by cases hx⟩
 |n+1,S,h=>by
  obtain⟨out,h1,h2,h3⟩:=Z0s n (S.take (8*n)) (by rw[VL];omega);have hd:(S.drop (8*n)).length=8:=by rw[VO];omega
  refine⟨out++ [Dh (S.drop (8*n))],by simp[h1], ?_,fun x hx=> ?_⟩
  . have e:=La out [Dh (S.drop (8*n))] 1;rw[h1]at e;rw[e,h2]
    have e2:rowB [Dh (S.drop (8*n))] 1=S.drop (8*n):=by
     have:=Z0c (S.drop (8*n))
     rw[hd]at this;rw[rowB,rowB,XG];exact this
    rw[e2,XN]
  . rcases VZ.1 hx with h|h
    . exact h3 x h
    . rw[WK.1 h];have:=Lk (S.drop (8*n))
      rw[hd]at this;exact this
theorem Z5c (bs:List Nat)(k:Nat):∃out,IsOne bs k out:=by
 have hl:(oneB bs k).length=8*((oneB bs k).length/8):=by
  have:(oneB bs k).length%8=0:=by unfold oneB;rw[Cm];exact Iy _
  omega
 obtain⟨out,h1,h2,h3⟩:=Z0s _ _ hl;exact⟨out,by rw[h1];exact h2,Dj h3⟩
theorem Z70 (f:Fl):∃x:En,x.f=f/\EOf x:=by
 obtain⟨out,h⟩:=Z5c (n8 f.bytes) (bestP (n8 f.bytes) 3)
 by_cases hl:out.length<f.bytes.length
 . exact⟨⟨f,8,out,crcN 0 (n8 f.bytes)⟩,rfl,rfl,out,h,.inl ⟨hl,rfl,rfl⟩⟩
 . exact⟨⟨f,0,n8 f.bytes,crcN 0 (n8 f.bytes)⟩,rfl,rfl,out,h,.inr ⟨by dsimp only;omega,rfl,rfl⟩⟩
theorem J3:∀fs:List Fl,∃l,Ens fs l
 | []=>⟨[],rfl,fun x hx=>by cases hx⟩
 |f::fs=>by
  obtain⟨x,h1,h2⟩:=Z70 f;obtain⟨l,h3,h4⟩:=J3 fs;refine⟨x::l,by rw[WG,h1,h3],fun y hy=> ?_⟩
  rcases VW.1 hy with rfl|hy
  . exact h2
  . exact h4 y hy
theorem Z6b {fs:List Fl}(h:wrE fs=0):Wr fs (wrL fs):=by
 obtain⟨h1,h2,h3⟩:=Vm h;obtain⟨l,hl⟩:=J3 fs;have ha:=M5 hl;rw[ha]at h2;rw[h3,ha,<-hl.1];exact Z4h (by rw[hl.1];exact h1) hl.2 h2
theorem Z4c {x:En}(h:EOf x)(hb:x.f.bytes= []):x.pk= []:=by
 obtain⟨out,h1,(⟨q1,_,_⟩|⟨_,_,q3⟩)⟩:=h.pk
 . rw[hb]at q1;simp at q1
 . rw[q3,hb];rfl
theorem M4:∀(l:List En) (hx:∀x∈l,EOf x/\x.f.bytes= []/\x.f.name.length<=40) (p:Nat),(Bh l).length<=81*l.length/\(Bj p l).length<=97*l.length
 | [],_,p=>⟨VC _,VC _⟩
 |x::l,hx,p=>by
  obtain⟨h1,h2,h3⟩:=hx x (by simp);have ih:=M4 l (fun y hy=>hx y (by simp[hy])) (p+(N5 x).length);generalize hq:p+(N5 x).length=q at ih;rw[Bh,Bj,hq,VB,VB,Pi,Vz,Z4c h1 h2,VH];simp only[VQ];omega
theorem Vn {fs:List Fl}(h:Eh fs=0)(hb:∀f∈fs,f.bytes= []):wrE fs=0:=by
 obtain⟨l,hl⟩:=J3 fs;have hn:=Hu h
 have h1:∀x∈l,EOf x/\x.f.bytes= []/\x.f.name.length<=40:=fun x hx=>by
  have hm:x.f∈fs:=by rw[<-hl.1];exact WX hx
  exact⟨hl.2 x hx,hb _ hm,(Mc (hn.2 _ hm)).1⟩
 have h2:=M4 l h1 0;have hll:l.length<=12:=by have:=hn.1;rw[<-hl.1,WN]at this;exact this
 unfold wrE;rw[if_neg (by simp[h]),M5 hl,if_neg (by rw[Ps];omega)]
theorem Z4b {x:En}(h:EOf x)(hv:Jx x.f=0)(hb:x.f.bytes= []):EOk x:=by
 obtain⟨hn,hp⟩:=h.num hv;refine⟨⟨hn.st.1,by have:=hn.st.2;omega⟩,⟨hn.nd.1,by have:=hn.nd.2;omega⟩,by have:=hn.nm;omega,by have:=hn.pl;omega,hn.cr,hn.mt, ?_⟩;obtain⟨out,ho,(⟨q1,q2,q3⟩|⟨q1,q2,q3⟩)⟩:=h.pk
 . rw[hb]at q1;simp at q1
 . unfold unpF;rw[q2,q3,if_pos rfl]
theorem IC {fs:List Fl}(he:Eh fs=0)(hb:∀f∈fs,f.bytes= []):Wr fs (wrL fs):=by
 obtain⟨h1,h2,h3⟩:=Vm (Vn he hb);obtain⟨l,hl⟩:=J3 fs;have ha:=M5 hl;rw[ha]at h2;have hE:Eh (l.map En.f)=0:=by rw[hl.1];exact h1
 have hk:∀x∈l,EOk x:=fun x hx=>Z4b (hl.2 x hx) ((Hu hE).2 x.f (WX hx)) (hb _ (by rw[<-hl.1];exact WX hx))
 have hs:Ms l=true:=by
  unfold Ms;rw[WS];intro x hx;exact decide_eq_true (hl.2 x hx).cr
 obtain⟨r1,r2⟩:=A3 l hk hE hs h2;obtain⟨n1,n2,n3⟩:=CO hE hl.2 h2;rw[h3,ha];exact⟨n1,r1,by rw[r2,hl.1],n2,n3⟩
end Go.Proofs.YtieianhejdcgdaaGreatDoor
namespace Go.Proofs.YtieianhejdcgdaaGreatDoor
open Go.RowKit
set_option linter.unusedVariables false
set_option maxRecDepth 100000
theorem Z2h {b ar:List Nat}(hw:Fj b (rF b))(hv:∀x∈ar,x<256)(h1:Ew ar=0){j:Nat}(hj:j<8+ar.length):rF (b++(Ga ar).take j)=rF b/\rN (b++(Ga ar).take j)=b.length:=Ug (Recs.snoc_less hw hv h1 hj)
structure KI (S T:List Nat)(hs:List (List Fl))(k:Nat):Prop where
 lt:k<hs.length
 dsk:dskE S T=0
 last:rF (S++T)=hs.getD (hs.length-1) []
 cut:∀j,j<=T.length->∃i,k<=i/\i<hs.length/\rF (S++T.take j)=hs.getD i []/\S.length<=rN (S++T.take j)
 v1:∀x∈S,x<256
 v2:∀x∈T,x<256
theorem KI.init:KI [] [] [[]] 0:=by
 refine⟨by decide,CA, ?_,fun j hj=>⟨0,VC _,by decide, ?_,VM _⟩,(fun x hx=>by cases hx),(fun x hx=>by cases hx)⟩
 . rw[WO,AC];rfl
 . rw[List.take_nil,WO,AC];rfl
theorem Uv {α:Type}(a b:List α)(d:α){i:Nat}(h:i<a.length):(a++b).getD i d=a.getD i d:=by simp[List.getD,WE h]
theorem KI.add {S T:List Nat}{hs:List (List Fl)}{k:Nat}{fs:List Fl}(h:KI S T hs k)(ha:addE S T fs=0):KI S (T++Ga (wrL fs)) (hs++ [rF (S++(T++Ga (wrL fs)))]) k:=by
 obtain⟨d1,d2,d3,d4,_,_⟩:=Hf ha;have hw:=Z6b d2;obtain⟨wh,dk⟩:=Sj ha hw;obtain⟨_,_,w3⟩:=Nb d1;obtain⟨nf,hnf⟩:∃nf,rF (S++(T++Ga (wrL fs)))=nf:=⟨_,rfl⟩
 rw[hnf];have hlen:(hs++ [nf]).length=hs.length+1:=by simp
 have hlast:(hs++ [nf]).getD hs.length []=nf:=by simp[List.getD]
 have hl:=h.lt;refine⟨by rw[hlen];omega,dk,by rw[hlen,XW,hlast,hnf],fun j hj=> ?_,h.v1,fun x hx=> ?_⟩
 . by_cases hjT:j<=T.length
   . rw[WC hjT];obtain⟨i,i1,i2,i3,i4⟩:=h.cut j hjT;exact⟨i,i1,by rw[hlen];omega,by rw[Uv _ _ _ i2];exact i3,i4⟩
   . have e:(T++Ga (wrL fs)).take j=T++(Ga (wrL fs)).take (j-T.length):=by rw[List.take_append,VP (by omega)]
     rw[e]
     by_cases hq:j-T.length<8+(wrL fs).length
     . obtain⟨r1,r2⟩:=Z2h w3 hw.1 hw.2.1 hq;rw[VJ]at r1 r2;refine⟨hs.length-1,by omega,by rw[hlen];omega, ?_, ?_⟩
       . rw[r1,Uv _ _ _ (by omega)];exact h.last
       . rw[r2,VB];omega
     . have e2:(Ga (wrL fs)).take (j-T.length)=Ga (wrL fs):=VP (by rw[Er];omega);rw[e2];refine⟨hs.length,by omega,by rw[hlen];omega,by rw[hlast,hnf], ?_⟩;have:=(Hh wh).2
       rw[this,VB];omega
 . rcases VZ.1 hx with hx|hx
   . exact h.v2 x hx
   . exact Wh hw.1 x hx
theorem KI.flush {S T:List Nat}{hs:List (List Fl)}{k:Nat}(h:KI S T hs k):KI (S++T) [] hs (hs.length-1):=by
 obtain⟨d1,_,d3⟩:=Nb h.dsk;have hl:=h.lt;have e:S++T++ []=S++T:=WO _;refine⟨by omega,Nc (by simp;omega) d3 (by rw[e];exact d3),by rw[e];exact h.last,fun j hj=>⟨hs.length-1,VC _,by omega, ?_, ?_⟩,fun x hx=> ?_,fun x hx=>by cases hx⟩
 . rw[List.take_nil,e];exact h.last
 . rw[List.take_nil,e,(Hh d3).2];exact VC _
 . rcases VZ.1 hx with hx|hx
   . exact h.v1 x hx
   . exact h.v2 x hx
theorem KI.few {S T:List Nat}{hs:List (List Fl)}{k:Nat}(h:KI S T hs k):S.length+T.length<=40000:=(Ry h.dsk).1
def SlB (w:World)(g:Nat):Prop:=∀o u,w.cell? ⟨g,o,none⟩=some u->∃a l c,u=.slice a l c
theorem BsIn.off {w w':World}{g c:Nat}{a:Option Addr}{bs:List UInt8}(h:BsIn w a c bs)(hg:w.grownBy w' (some g))(hs:SlB w g):BsIn w' a c bs:=by
 rcases h with h|h|⟨b,o,h1,h2,h3,h4⟩
 . exact .inl h
 . exact .inr (.inl h)
 . by_cases h0:bs= []
   . exact .inr (.inl ⟨h0,_,h1⟩)
   . refine .inr (.inr ⟨b,o,h1,VK h2 hg.size,h3,fun j hj=>hg.cell (h4 j hj) (fun e=> ?_)⟩)
     cases e
     obtain⟨_,_,_,e⟩:=hs _ _ (h4 j hj)
     cases e
theorem LIn.off {w w':World}{g:Nat}{v:Value}{l:List Fl}(h:LIn w v l)(hg:w.grownBy w' (some g))(hs:SlB w g):LIn w' v l:=by
 obtain⟨ad,c,out,h1,h2,h3⟩:=h;refine⟨ad,c,out,h1,⟨?_,h2.cap,h2.capm,h2.lim,fun x hx=>⟨(h2.all x hx).bs.off hg hs,(h2.all x hx).big,(h2.all x hx).txt⟩⟩,h3⟩
 rcases h2.at_ with k|⟨b,o,k1,k2,k3⟩
 . exact .inl k
 . by_cases h0:out= []
   . exact .inl h0
   . refine .inr ⟨b,o,k1,VK k2 hg.size,fun j x hj=> ?_⟩
     have hbg:some b≠some g:=by
      intro e
      cases e
      obtain⟨y,r,rfl⟩:∃y r,out=y::r:=by cases out with|nil=>exact absurd rfl h0|cons y r=>exact⟨y,r,rfl⟩
      obtain⟨_,_,_,e⟩:=hs _ _ (k3 0 y rfl).1
      cases e
     obtain⟨q0,q1,q2,q3,q4⟩:=k3 j x hj;exact⟨hg.cell q0 hbg,hg.cell q1 hbg,hg.cell q2 hbg,hg.cell q3 hbg,hg.cell q4 hbg⟩
theorem PIn.off {w w':World}{g:Nat}{v:Value}{ys:List Nat}(h:PIn w v ys)(hg:w.grownBy w' (some g))(hs:SlB w g):PIn w' v ys:=by
 obtain⟨a,c,rfl,h1,h2⟩:=h;refine⟨a,c,rfl,h1,h2.grown hg ?_⟩;rintro b o rfl hne e
 cases e
 have hpos:0<ys.length:=YJ.2 hne;obtain⟨b',o',e,hb,hB⟩:=Ca h2.1 hpos
 cases e
 obtain⟨_,_,_,e⟩:=hs _ _ (hB 0 hpos)
 cases e
theorem SlB.disk {w:World}{g l1 c1 l2 c2:Nat}{a1 a2:Option Addr}{T:TypeId}(h:w.heap[g]? =some (.cells #[.slice a1 l1 c1,.slice a2 l2 c2] T (0,0))):SlB w g:=by
 intro o u hu;rw[Ac h]at hu
 rcases(by omega:o=0\/o=1\/2<=o)with e|e|e
 . subst e;simp at hu;exact⟨_,_,_,hu.symm⟩
 . subst e;simp at hu;exact⟨_,_,_,hu.symm⟩
 . rw[XX (by simpa using e)]at hu;cases hu
structure HRow (w:World)(B g cap:Nat)(cur:List Value)(n:Nat)(hs:List (List Fl)):Prop where
 blk:w.heap[g]? =some (.cells cur.toArray 22 (0,0))
 base:B<=g
 csz:cur.length=cap
 room:n<=cap
 capm:cap<=maxLen
 len:hs.length=n
 pos:0<n
 all:∀(j:Nat) (l:List Fl),hs[j]? =some l->∃x,cur[j]? =some x/\LIn w x l
 slc:∀u∈cur,∃a l c,u=.slice a l c
theorem HRow.slb {w:World}{B g cap n:Nat}{cur:List Value}{hs:List (List Fl)}(h:HRow w B g cap cur n hs):SlB w g:=by
 intro o u hu;rw[Ac h.blk]at hu;exact h.slc u (YF (by simpa using hu))
theorem HRow.below {w w':World}{B g cap n:Nat}{cur:List Value}{hs:List (List Fl)}(h:HRow w B g cap cur n hs)(hB:Below w.heap.size w w'):HRow w' B g cap cur n hs:=
 ⟨(hB.block g (VG.1 h.blk).1).trans h.blk,h.base,h.csz,h.room,h.capm,h.len,h.pos,fun j l hj=>by
   obtain⟨x,h1,h2⟩:=h.all j l hj;exact⟨x,h1,h2.below hB⟩,h.slc⟩
theorem HRow.off {w w':World}{B g cap n k:Nat}{cur:List Value}{hs:List (List Fl)}(h:HRow w B g cap cur n hs)(hg:w.grownBy w' (some k))(hs':SlB w k)(hB:k<B):HRow w' B g cap cur n hs:=by
 have hb:=h.base;refine⟨(hg.block g (VG.1 h.blk).1 (fun e=>by have:=VN e;omega)).trans h.blk,h.base,h.csz,h.room,h.capm,h.len,h.pos,fun j l hj=> ?_,h.slc⟩;obtain⟨x,h1,h2⟩:=h.all j l hj;exact⟨x,h1,h2.off hg hs'⟩
theorem MN:(Tryz.prog.info? 22).map (fun i=>(i.zero,i.size,i.bytes))=some (some (.slice none 0 0),1,24):=by kernel_rfl
theorem N7 (n:Nat):∀u∈(Builtin.zeroCells (Value.slice none 0 0).cells n).toList,∃a l c,u=Value.slice a l c:=by
 intro u hu;unfold Builtin.zeroCells at hu;simp[Value.cells]at hu
 obtain⟨i,_,e⟩:=hu;rw[Nat.mod_one]at e;exact⟨none,0,0,e.symm⟩
theorem Qm (w:World)(ty:TypeId){B g cap n:Nat}{cur:List Value}{hs:List (List Fl)}(h:HRow w B g cap cur n hs)(gx:Nat)(y:Value)(l:List Fl)(hc:w.cell? ⟨gx,0,none⟩=some y)(hy:LIn w y l)(hn:n<=1000):
 ∃g' cap' cur' w',(Builtin.append_ #[61,61] ty #[.slice (some ⟨g,0,none⟩) n cap,.slice (some ⟨gx,0,none⟩) 1 1]).run Tryz.prog w=.ok (.slice (some ⟨g',0,none⟩) (n+1) cap') w'/\HRow w' B g' cap' cur' (n+1) (hs++ [l])/\w.grownBy w' (some g):=by
 obtain⟨i0,hi,hz0,hz1,hz2⟩:=info_parts MN
 have hnews:∀(j:Nat) (u:Value),[y][j]? =some u->w.cell? ((⟨gx,0,none⟩:Addr).add j)=some u:=by
  intro j u hj
  have hj0:j=0:=by
   have:=(WQ.1 hj).1
   simp at this
   omega
  subst hj0;rw[Sl];simp at hj
  subst hj;exact hc
 have hys:∃a l c,y=.slice a l c:=by obtain⟨a,c,e⟩:=hy.shape;exact⟨a,_,c,e⟩
 have hone:∀u∈ [y],u.oneCell'=true:=by
  intro u hu;rw[WK.1 hu];obtain⟨a,l,c,e⟩:=hys;rw[e];rfl
 have hall:∀(cur':List Value) (w':World),(∀j,j<n->cur'[j]? =cur[j]?)->cur'[n]? =some y->(∀x l,LIn w x l->LIn w' x l)->∀(j:Nat) (l':List Fl),(hs++ [l])[j]? =some l'->∃x,cur'[j]? =some x/\LIn w' x l':=by
  intro cur' w' h1 h2 h3 j l' hj
  by_cases hjn:j<n
  . rw[WE (by rw[h.len];exact hjn)]at hj;obtain⟨x,q1,q2⟩:=h.all j l' hj;exact⟨x,by rw[h1 j hjn];exact q1,h3 _ _ q2⟩
  . have hjl:=(WQ.1 hj).1;have hjn2:j=n:=by rw[VB,h.len]at hjl;simp at hjl;omega
    subst hjn2;rw[VY (by rw[h.len];exact VC _),h.len,XK]at hj;simp at hj
    subst hj;exact⟨y,h2,h3 _ _ hy⟩
 have hsz:=h.csz
 by_cases hroom:n+1<=cap
 . have hr:=run_append_room (P:=Tryz.prog) w 61 ty 22 i0 Tryz.underlying61 hi g n cap cur.toArray h.blk ⟨gx,0,none⟩ 1 1 [y] (by rw[hz1];rfl) hnews hone hroom (by rw[hz1];simp;omega);rw[hz1]at hr;simp only[Nat.mul_one,List.length_singleton]at hr;have hgr:w.grownBy (w.setRow g (cur.take n++ [y]++cur.drop (n+1)).toArray) (some g):=Iw w g _;refine⟨g,cap,cur.take n++ [y]++cur.drop (n+1),_,hr,⟨setRow_heap _ _ _ _ _ _ h.blk,h.base, ?_,hroom,h.capm,by simp[h.len],by omega,hall _ _ ?_ ?_ (fun x l hx=>hx.off hgr h.slb), ?_⟩,hgr⟩
   . simp;omega
   . intro j hj;rw[VJ,WE (by rw[VL];omega),XM hj]
   . rw[VJ,VY (by rw[VL];omega),VL,YC (by omega),XK];rfl
   . intro u hu
     rcases VZ.1 hu with hu|hu
     . rcases VZ.1 hu with hu|hu
       . exact h.slc u (VS hu)
       . rw[WK.1 hu];exact hys
     . exact h.slc u (WB hu)
 . obtain rfl:n=cap:=by have:=h.room;omega
   have hr:=run_append_grow (P:=Tryz.prog) (w:=w) 61 ty 22 i0 (.slice none 0 0) Tryz.underlying61 hi hz0 ⟨g,0,none⟩ n n cur (by rw[hz1];omega) (fun j v hv=>by
    rw[Sl,WI,Ac h.blk];simpa using hv) ⟨gx,0,none⟩ 1 1 [y] (by rw[hz1];rfl) hnews (by omega) (by omega) (by rw[hz2];exact growslice_fits (by omega) (by omega))
   have hB:Below w.heap.size w (w.drew.alloc (.cells (cur.toArray++ [y].toArray++Builtin.zeroCells (Value.slice none 0 0).cells (grownCap w (n+1) n 22-(n+1))) 22)):=(Af (Below.refl w.heap.size w) 1).alloc (VC _) _;have hge:=grownCap_ge w (n+1) n 22
   have e1:(cur.toArray++ [y].toArray++Builtin.zeroCells (Value.slice none 0 0).cells (grownCap w (n+1) n 22-(n+1)))=(cur++ [y]++(Builtin.zeroCells (Value.slice none 0 0).cells (grownCap w (n+1) n 22-(n+1))).toList).toArray:=by
    apply Array.ext'
    simp
   refine⟨w.heap.size,_,cur++ [y]++(Builtin.zeroCells (Value.slice none 0 0).cells (grownCap w (n+1) n 22-(n+1))).toList,_,hr,⟨?_, ?_, ?_,hge,grownCap_le_maxLen _ _ _ _ (by unfold maxLen;omega),by simp[h.len],by omega,hall _ _ ?_ ?_ (fun x l hx=>hx.below hB), ?_⟩,⟨rfl,rfl,rfl,by rw[World.size_alloc];exact Nat.le_succ _,fun k hk _=>Below.heap_alloc w.drew _ k hk⟩⟩
   . have:=heap_alloc_new w.drew (.cells (cur.toArray++ [y].toArray++Builtin.zeroCells (Value.slice none 0 0).cells (grownCap w (n+1) n 22-(n+1))) 22)
     rw[show w.drew.heap.size=w.heap.size from rfl]at this;rw[this,e1]
   . have:=(VG.1 h.blk).1
     have:=h.base
     omega
   . simp only[VB,List.length_singleton,Array.length_toList,size_zeroCells,hsz];have:(Value.slice none 0 0).cells.size=1:=rfl
     rw[this];omega
   . intro j hj;rw[VJ,WE (by omega)]
   . rw[VJ,VY (by omega),hsz,XK];rfl
   . intro u hu
     rcases VZ.1 hu with hu|hu
     . rcases VZ.1 hu with hu|hu
       . exact h.slc u hu
       . rw[WK.1 hu];exact hys
     . exact N7 _ u hu
theorem Kr {w:World}{ops:Array Oper}{rest:List Oper}{o:Oper}{a:Act}{Q:Exit->Act->World->Prop}(hgd:o.guard=none)(s x:Operand)
 (ho:o.op=.call {callee:=.builtin .append,args:= #[s,x],argTypes:= #[61,61]}) {B g cap n:Nat} {cur:List Value} {hs:List (List Fl)} (h:HRow w B g cap cur n hs) (gx:Nat) (y:Value) (l:List Fl) (h1:a.eval s=.slice (some ⟨g,0,none⟩) n cap) (h2:a.eval x=.slice (some ⟨gx,0,none⟩) 1 1) (hc:w.cell? ⟨gx,0,none⟩=some y) (hy:LIn w y l) (hn:n<=1000)
 (hk:∀g' cap' cur' w',Hid (HRow w' B g' cap' cur' (n+1) (hs++ [l]))->Hid (w.grownBy w' (some g))->wpList Tryz.prog ops Q rest (a.put o.dst (.slice (some ⟨g',0,none⟩) (n+1) cap')) w'):wpList Tryz.prog ops Q (o::rest) a w:=by
 refine wpList_plain hgd fun K hK=> ?_
 obtain⟨g',cap',cur',w',hr,q1,q2⟩:=Qm w o.type h gx y l hc hy hn;unfold Oper.wp execOp;simp only[ho,resolve,invoke,builtin,Sem.run_bind,Sem.run_pure,Result.andThen_ok,YD,WG,YB,h1,h2,hr];exact hK _ _ (hk g' cap' cur' w' (Ab q1) (Ab q2))
structure Lists (w:World)(b o:Nat)(vs:List Value)(hs:List (List Fl)):Prop where
 lt:b<w.heap.size
 cell:∀(j:Nat) (x:Value),vs[j]? =some x->w.cell? ⟨b,o+j,none⟩=some x
 all:∀(j:Nat) (x:Value) (l:List Fl),vs[j]? =some x->hs[j]? =some l->LIn w x l
 len:vs.length=hs.length
theorem Lists.below {w w':World}{b o:Nat}{vs:List Value}{hs:List (List Fl)}(h:Lists w b o vs hs)(hB:Below w.heap.size w w'):Lists w' b o vs hs:=
 ⟨VK h.lt hB.size,fun j x hx=>(hB.cell (p:=⟨b,o+j,none⟩) h.lt).trans (h.cell j x hx),fun j x l h1 h2=>(h.all j x l h1 h2).below hB,h.len⟩
theorem Lists.get {w:World}{b o k:Nat}{vs:List Value}{hs:List (List Fl)}(h:Lists w b o vs hs)(hk:k<vs.length):∃x l,vs[k]? =some x/\hs[k]? =some l/\w.cell? ⟨b,o+k,none⟩=some x/\LIn w x l:=by
 have h1:vs[k]? =some vs[k]:=VR hk;have hk2:k<hs.length:=by rw[<-h.len];exact hk
 have h2:hs[k]? =some hs[k]:=VR hk2;exact⟨_,_,h1,h2,h.cell k _ h1,h.all k _ _ h1 h2⟩
theorem HRow.lists {w:World}{B g cap n:Nat}{cur:List Value}{hs:List (List Fl)}(h:HRow w B g cap cur n hs)(k:Nat)(hk:k<=n):Lists w g k ((cur.take n).drop k) (hs.drop k):=by
 have hr:=h.room;have hc:=h.csz;refine⟨(VG.1 h.blk).1,fun j x hx=> ?_,fun j x l hx hl=> ?_,by simp only[VO,VL,h.len];omega⟩
 . rw[XP]at hx;rw[Ac h.blk];have hj:=(WQ.1 hx).1;rw[VL]at hj;rw[XM (by omega)]at hx;simpa using hx
 . rw[XP]at hx hl;obtain⟨y,q1,q2⟩:=h.all _ _ hl;have hj:=(WQ.1 hx).1;rw[VL]at hj;rw[XM (by omega),q1]at hx
   cases hx
   exact q2
theorem EL {w:World}{x lv:Value}{g:Nat}{l lx:List Fl}(hg:w.cell? ⟨g,0,none⟩=some lv)(h:LIn w lv l)(k:LIn w x lx):
 Calls Tryz.prog 40 #[x,.pointer (some ⟨g,0,none⟩)] w fun e w'=>e=.returned (.bool (decide (l=lx)))/\Below w.heap.size w w':=by
 have HS:=Ab (Z4z h k);obtain⟨a1,c1,hv1⟩:=h.shape;obtain⟨a2,c2,hv2⟩:=k.shape;obtain⟨n1,hn1⟩:∃n1,l.length=n1:=⟨_,rfl⟩
 obtain⟨n2,hn2⟩:∃n2,lx.length=n2:=⟨_,rfl⟩
 rw[hn1]at hv1;rw[hn2]at hv2;subst hv1 hv2;obtain⟨q,hq⟩:∃q,decide (l=lx)=q:=⟨_,rfl⟩
 rw[hq]at HS ⊢;clear h k hn1 hn2 hq;go_enter Tryz.func40,Tryz.ntmps40
 go_wp2_with fail
 refine(Aa HS).mono ?_;rintro e w1 ⟨rfl,hB1⟩;have HB:=Ab hB1;clear hB1;go_wp2;go_ret;exact⟨rfl,Aa HB⟩
theorem Tc (b o m c g:Nat)(vs:List Value)(hs:List (List Fl))(lv:Value)(l:List Fl)(w:World)(h:Lists w b o vs hs)(hm:vs.length=m)(hm2:m<=1000)(hg:w.cell? ⟨g,0,none⟩=some lv)(hgl:g<w.heap.size)(hl:LIn w lv l)(hex:∃i:Nat,hs[i]? =some l):
 Calls Tryz.prog 59 #[.slice (some ⟨b,o,none⟩) m c,.func (.func 40) #[] #[.pointer (some ⟨g,0,none⟩)]] w fun e w'=>∃r:Nat,e=.returned (.int .i64 (r:Int))/\Below w.heap.size w w':=by
 have HH:=Ab h;have HM:=Ab hm;have HEX:=Ab hex;have HP:=Ab (fun(x:Value) (lx:List Fl) (W:World) (hW:Below w.heap.size w W) (hx:LIn W x lx)=>EL ((hW.cell (p:=⟨g,0,none⟩) hgl).trans hg) (hl.below hW) hx);clear h hm hg hex hl;go_enter Tryz.func59,Tryz.ntmps59
 go_wp2;go_loopw [5,8] (fun _ i wr=>∃k:Nat,k<=m/\i=.int .i64 (k:Int)/\Hid (∀j:Nat,j<k->hs[j]? ≠some l)/\Hid (Below w.heap.size w wr)) (fun _ i _=>m-(intOf i).toNat)
 case atStart=>exact⟨0,VM _,rfl,Ab (fun j hj=>by omega),Below.refl _ _⟩
 case round=>
  obtain⟨k,hk,rfl,HL,HB⟩:=hrel
  by_cases hlt:k<m
  . obtain⟨x,lx,h1,h2,h3,h4⟩:=((Aa HH).below (Aa HB)).get (k:=k) (by rw[Aa HM];exact hlt);have HPX:=Ab (Aa HP x lx wr (Aa HB) h4);obtain⟨q,hq⟩:∃q,decide (l=lx)=q:=⟨_,rfl⟩
    rw[hq]at HPX;have HQ:=Ab hq;have HN:=Ab h2;obtain⟨a2,c2,hv2⟩:=h4.shape;obtain⟨n2,hn2⟩:∃n2,lx.length=n2:=⟨_,rfl⟩
    rw[hn2]at hv2;subst hv2;clear h1 h2 h4 hq hn2;go_wp2_with fail
    refine(Aa HPX).mono ?_;rintro e w1 ⟨rfl,hb1⟩;have HB1:=Ab ((Aa HB).trans (hb1.mono (Aa HB).size));clear hb1
    cases q with
    |true=>
     go_wp2;go_ret;exact⟨k,rfl,Aa HB1⟩
    |false=>
     have he:¬l=lx:=of_decide_eq_false (Aa HQ)
     have HL2:Hid (∀j:Nat,j<k+1->hs[j]? ≠some l):=Ab (fun j hj=>by
      by_cases hjk:j<k
      . exact Aa HL j hjk
      . obtain rfl:j=k:=by omega
        rw[Aa HN];intro e;exact he (VN e).symm)
     clear he;go_wp2;go_roundw
     case rel=>exact⟨k+1,by omega,by go_num,HL2,HB1⟩
     case measure=>simp[intOf];omega
  . obtain⟨i,hi⟩:=Aa HEX;have h1:=(WQ.1 hi).1;exact absurd hi (Aa HL i (by rw[<-(Aa HH).len,Aa HM]at h1;omega))
theorem Nf (b o m c g:Nat)(vs:List Value)(hs:List (List Fl))(lv:Value)(l:List Fl)(w:World)(h:Lists w b o vs hs)(hm:vs.length=m)(hm2:m<=1000)(hg:w.cell? ⟨g,0,none⟩=some lv)(hgl:g<w.heap.size)(hl:LIn w lv l)(hex:∃i:Nat,hs[i]? =some l):
 Calls Tryz.prog 39 #[.slice (some ⟨b,o,none⟩) m c,.func (.func 40) #[] #[.pointer (some ⟨g,0,none⟩)]] w fun e w'=>e=.returned (.bool true)/\Below w.heap.size w w':=by
 have HI:=Ab (Tc b o m c g vs hs lv l w h hm hm2 hg hgl hl hex);clear h hm hg hex hl;go_enter Tryz.func39,Tryz.ntmps39
 go_wp2_with fail
 refine(Aa HI).mono ?_;rintro e w1 ⟨r,rfl,hB⟩;have HB:=Ab hB;have hr:(0:Int)<=(r:Int):=by omega
 clear hB;go_wp2;go_ret;exact⟨rfl,Aa HB⟩
def shA:Fl:=⟨[97],[],1,0,false⟩
def shB:Fl:=⟨[98],[],2,0,false⟩
theorem Qk:Eh [shA]=0:=by decide
theorem Q3:Eh [shB]=0:=by decide
theorem Z0x {f:Fl}(h:Eh [f]=0)(hb:f.bytes= [])(hn:f.name.length=1):wrE [f]=0/\122<=(wrL [f]).length:=by
 have hw:=Vn h (fun g hg=>by rw[WK.1 hg];exact hb);refine⟨hw, ?_⟩;obtain⟨_,_,h3⟩:=Vm hw;obtain⟨l,hl⟩:=J3 [f];rw[h3,M5 hl,Ps];obtain⟨h1,_⟩:=hl
 match l,h1 with
 | [x],h1=>
  simp only[WG,YB,List.cons.injEq,and_true]at h1;rw[Bh,Bj,VB,VB,Pi,Vz,h1,hn];omega
theorem Z28:Ct [shA] [shB]=0:=by
 refine Js.2 ⟨Qk,Q3, ?_⟩;rw[Z3 (by decide),Kc];decide
structure ShF (R1 R2:List Nat):Prop where
 a1:addE [] [] [shA]=0/\addS [] [] [shA]= []/\addW [] [] [shA]=R1
 f1:dskE [] R1=0/\flS [] R1=R1
 a2:addE R1 [] [shB]=0/\addS R1 [] [shB]=R1/\addW R1 [] [shB]=R2
 big:100<R2.length/\R2.length<=40000/\R1.length<=40000
 c:cutE R1 R2 9=0/\cutN R1 R2 9=9/\cutS R1 R2 9=R1
 r:dskE R1 []=0/\rF (R1++ [])= [shA]
 v:(∀x∈R1,x<256)/\∀x∈R2,x<256
theorem Z6d:∃R1 R2,ShF R1 R2:=by
 obtain⟨w1,l1⟩:=Z0x Qk rfl rfl;obtain⟨w2,l2⟩:=Z0x Q3 rfl rfl;have k1:=IC Qk (fun g hg=>by rw[WK.1 hg];rfl);have k2:=IC Q3 (fun g hg=>by rw[WK.1 hg];rfl);have a1:addE [] [] [shA]=0:=Ye CA w1 (by rw[WO,AC];exact(Ya Qk).1) (by have:=k1.2.2.2.2;simp only[VQ];omega);obtain⟨_,_,_,_,s1,t1⟩:=Hf a1;obtain⟨wh1,d1⟩:=Sj a1 k1;rw[XG]at t1;rw[XG,XG,WO,AC,(Ya Qk).2.1]at wh1;rw[XG]at d1;obtain⟨R1,hR1⟩:∃R1,Ga (wrL [shA])=R1:=⟨_,rfl⟩
 rw[hR1]at t1 wh1 d1;have r1:R1.length=8+(wrL [shA]).length:=by rw[<-hR1,Er]
 have hr1:=k1.2.2.2.2;have wh1':Fj (R1++ []) [shA]:=by rw[WO];exact wh1
 have d1':dskE R1 []=0:=Nc (by simp only[VQ];omega) wh1 wh1';have e1:rF (R1++ [])= [shA]:=(Hh wh1').1;have hr2:=k2.2.2.2.2;have a2:addE R1 [] [shB]=0:=Ye d1' w2 (by rw[e1];exact Z28) (by simp only[VQ];omega);obtain⟨_,_,_,_,s2,t2⟩:=Hf a2;obtain⟨wh2,d2⟩:=Sj a2 k2;rw[XG]at t2 wh2 d2;obtain⟨R2,hR2⟩:∃R2,Ga (wrL [shB])=R2:=⟨_,rfl⟩
 rw[hR2]at t2 wh2 d2;have r2:R2.length=8+(wrL [shB]).length:=by rw[<-hR2,Er]
 have cB:Z3t R1 R2 9=R1++R2.take 9:=rfl
 have hre:Recs [] (R1++R2.take 9) [shA] R1.length:=by
  have:=Recs.snoc_less (fs:= []) (f:= [shA]) (b:=R1) wh1 k2.1 k2.2.1 (j:=9) (by omega)
  rw[hR2]at this;exact this
 obtain⟨g1,g2⟩:=Ug hre;have cE:cutE R1 R2 9=0:=by unfold cutE;rw[if_neg (by simp[d2]),if_neg (by omega)]
 refine⟨R1,R2,⟨a1,s1,t1⟩,⟨d1,by unfold flS;rw[if_pos d1,XG]⟩,⟨a2,s2,t2⟩,⟨by omega,by omega,by omega⟩,⟨cE, ?_, ?_⟩,⟨d1',e1⟩,⟨by rw[<-hR1];exact Wh k1.1,by rw[<-hR2];exact Wh k2.1⟩⟩
 . unfold cutN;rw[if_pos cE,cB,g2,VB,VL];omega
 . unfold cutS;rw[if_pos cE,cB,g2,WC (VC _),VP (VC _)]
theorem LIn.one (w:World)(f:Fl)(A:Array Value)(hA:A=(fcells [⟨f,none,0⟩]).toArray)(hb:f.bytes= [])(hn:f.name.length<=40):LIn (w.alloc (.cells A 30)) (.slice (some ⟨w.heap.size,0,none⟩) 1 1) [f]:=
 Z0z (FsIn.new w [⟨f,none,0⟩] 30 A 1 hA rfl (fun x hx=>by rw[WK.1 hx];exact FvIn.bare w f hb (by omega)) (by simp)) rfl
theorem Q2 (w:World):Calls Tryz.prog 27 #[] w fun e w'=>e=.returned (.bool true)/\Below w.heap.size w w':=by
 obtain⟨R1,R2,hF⟩:=Z6d;have HF:=Ab hF;obtain⟨r1,hr1⟩:∃r1,R1.length=r1:=⟨_,rfl⟩
 obtain⟨r2,hr2⟩:∃r2,R2.length=r2:=⟨_,rfl⟩
 have hbig:=hF.big;rw[hr1,hr2]at hbig;obtain⟨hb1,hb2,hb3⟩:=hbig;have HA1:=Ab (Yd (.agg #[.slice none 0 0,.slice none 0 0]) (.slice (some ⟨w.heap.size,0,none⟩) 1 1) [] [] [shA] _ (DIn.nil _) (LIn.one w shA #[.string ⟨#[97]⟩,.slice none 0 0,.int .i64 1,.int .i64 0,.bool false] rfl rfl (by decide)) (fun x hx=>by cases hx) (fun x hx=>by cases hx) (by decide) (by decide));unfold DkA at HA1;rw[hF.a1.1,hF.a1.2.1,hF.a1.2.2]at HA1;have HB0:=Ab ((Below.refl w.heap.size w).alloc (VC _) (.cells #[.string ⟨#[97]⟩,.slice none 0 0,.int .i64 1,.int .i64 0,.bool false] 30));have HR1:=Ab hr1;have HR2:=Ab hr2;clear hF hr1 hr2;go_enter Tryz.func27,Tryz.ntmps27
 go_wp2_with fail
 refine(Aa HA1).mono ?_;rintro e w1 ⟨hB1,d1,rfl,hD1⟩;have hBw1:=(Aa HB0).trans (hB1.mono (Aa HB0).size);obtain⟨p1,q1,p2,q2,rfl,-,-,-,-⟩:=hD1.parts;rw[Aa HR1]at hD1 ⊢;have hD1':DIn w1 (.agg #[.slice p1 0 q1,.slice p2 r1 q2]) [] R1:=hD1;obtain⟨N,hN⟩:∃N,w1.heap.size=N:=⟨_,rfl⟩
 have hBA:Below w.heap.size w (w1.alloc (.cells #[.slice p1 0 q1,.slice p2 r1 q2] 52)):=hBw1.alloc hBw1.size _;have hNA:(w1.alloc (.cells #[.slice p1 0 q1,.slice p2 r1 q2] 52)).heap[N]? =some (.cells #[.slice p1 0 q1,.slice p2 r1 q2] 52 (0,0)):=by rw[<-hN];exact heap_alloc_new _ _
 have hwN:w.heap.size<=N:=by rw[<-hN];exact hBw1.size
 have HFL:=Ab (F7 _ [] R1 _ (hD1'.below ((Below.refl w1.heap.size w1).alloc (VC _) (.cells #[.slice p1 0 q1,.slice p2 r1 q2] 52))) (fun x hx=>by cases hx) (Aa HF).v.1 (by decide) (by rw[Aa HR1];omega));unfold DkA at HFL;rw[(Aa HF).f1.1,(Aa HF).f1.2]at HFL;have HBA:=Ab hBA;have HNA:=Ab hNA;clear hB1 hBw1 hD1 hD1' hBA hNA HA1;go_wp2_with fail
 refine(Aa HFL).mono ?_;rintro e w2 ⟨hB2,d2,rfl,hD2⟩;have hBw2:=(Aa HBA).trans (hB2.mono (Aa HBA).size);have hN2:=(hB2.block N (VG.1 (Aa HNA)).1).trans (Aa HNA);obtain⟨s2,t2,rfl,hs2,ht2⟩:=hD2;obtain⟨k1,k2,k3⟩:=DIn.put hBw2 hwN hN2 hs2 ht2;obtain⟨p3,q3,rfl,-⟩:=id hs2;obtain⟨p4,q4,rfl,-⟩:=id ht2;rw[Aa HR1]at k1 k2 k3 ⊢;have e0:=Ac (i:=0) hN2;have e1:=Ac (i:=1) hN2;have f0:=frozen_of_row _ N 0 _ _ hN2;have f1:=frozen_of_row _ N 1 _ _ hN2;simp only[VQ]at k1 k2 k3 ⊢;have hsz:((w2.setCell ⟨N,0,none⟩ (.slice p3 r1 q3)).setCell ⟨N,1,none⟩ (.slice p4 0 q4)).heap.size=w2.heap.size:=by simp
 have hLB:=LIn.one ((w2.setCell ⟨N,0,none⟩ (.slice p3 r1 q3)).setCell ⟨N,1,none⟩ (.slice p4 0 q4)) shB #[.string ⟨#[98]⟩,.slice none 0 0,.int .i64 2,.int .i64 0,.bool false] rfl rfl (by decide);rw[hsz]at hLB;have hBb:=k2.alloc k2.size (.cells #[.string ⟨#[98]⟩,.slice none 0 0,.int .i64 2,.int .i64 0,.bool false] 30);have HA2:=Ab (Yd _ _ R1 [] [shB] _ (k3.below ((Below.refl _ _).alloc (VC _) (.cells #[.string ⟨#[98]⟩,.slice none 0 0,.int .i64 2,.int .i64 0,.bool false] 30))) hLB (Aa HF).v.1 (fun x hx=>by cases hx) (by rw[Aa HR1];omega) (by decide));unfold DkA at HA2;rw[(Aa HF).a2.1,(Aa HF).a2.2.1,(Aa HF).a2.2.2]at HA2;have HBb:=Ab hBb;clear hB2 hBw2 hN2 hs2 ht2 k1 k2 k3 hLB hBb HFL hsz;go_wp2_with fail
 refine(Aa HA2).mono ?_;rintro e w3 ⟨hB3,d3,rfl,hD3⟩;have hBw3:=(Aa HBb).trans (hB3.mono (Aa HBb).size);obtain⟨p5,q5,p6,q6,rfl,-,-,-,-⟩:=hD3.parts;rw[Aa HR1,Aa HR2]at hD3 ⊢;obtain⟨X,hX⟩:∃X,w3.heap.size=X:=⟨_,rfl⟩
 have hBC:Below w.heap.size w (w3.alloc (.cells #[.slice p5 r1 q5,.slice p6 r2 q6] 52)):=hBw3.alloc hBw3.size _;have hXC:(w3.alloc (.cells #[.slice p5 r1 q5,.slice p6 r2 q6] 52)).heap[X]? =some (.cells #[.slice p5 r1 q5,.slice p6 r2 q6] 52 (0,0)):=by rw[<-hX];exact heap_alloc_new _ _
 have HCU:=Ab (OK _ 9 R1 R2 _ (hD3.below ((Below.refl w3.heap.size w3).alloc (VC _) (.cells #[.slice p5 r1 q5,.slice p6 r2 q6] 52))) (Aa HF).v.1 (Aa HF).v.2 (by rw[Aa HR1];omega) (by rw[Aa HR2];omega));unfold DnA at HCU;rw[(Aa HF).c.1,(Aa HF).c.2.1,(Aa HF).c.2.2]at HCU;have HBC:=Ab hBC;have HXC:=Ab hXC;clear hB3 hBw3 hD3 hBC hXC HA2;go_wp2_with fail
 refine(Aa HCU).mono ?_;rintro e w4 ⟨hB4,d4,rfl,hD4⟩;have hBw4:=(Aa HBC).trans (hB4.mono (Aa HBC).size);have hX4:=(hB4.block X (VG.1 (Aa HXC)).1).trans (Aa HXC);obtain⟨p7,q7,p8,q8,rfl,-,-,-,-⟩:=hD4.parts;rw[Aa HR1]at hD4 ⊢;simp only[VQ]at hD4 ⊢;have hBD:Below w.heap.size w (w4.alloc (.cells #[.slice p7 r1 q7,.slice p8 0 q8] 52)):=hBw4.alloc hBw4.size _;have hXD:=(Below.heap_alloc w4 (.cells #[.slice p7 r1 q7,.slice p8 0 q8] 52) X (VG.1 hX4).1).trans hX4;have HFI:=Ab ((Iz _ R1 [] _ (hD4.below ((Below.refl w4.heap.size w4).alloc (VC _) (.cells #[.slice p7 r1 q7,.slice p8 0 q8] 52))) (Aa HF).v.1 (fun x hx=>by cases hx) (by rw[Aa HR1];omega) (by decide)).mono (fun e w' h=>Xj h));rw[(Aa HF).r.1,(Aa HF).r.2]at HFI;have HBD:=Ab hBD;have HXD:=Ab hXD;clear hB4 hBw4 hD4 hBD hXD HCU hX4;go_wp2_with fail
 refine(Aa HFI).mono ?_;rintro e w5 ⟨hB5,v5,l5,rfl,hL5,hl5,-⟩;have hl6:l5= [shA]:=by simpa using hl5
 subst hl6;obtain⟨ad,c5,rfl⟩:=hL5.shape;have hBw5:=Ab ((Aa HBD).trans (hB5.mono (Aa HBD).size));have hX5:=(hB5.block X (VG.1 (Aa HXD)).1).trans (Aa HXD);have x1:=Ac (i:=1) hX5;have hbI:(100:Int)<(r2:Int):=by omega
 simp only[VH,VQ];clear hB5 hL5 hl5 hX5 HFI;go_wp2;go_ret;exact⟨rfl,Aa hBw5⟩
theorem Z4a {w:World}{u v:Value}{xs ys:List Nat}(h:PIn w u xs)(k:PIn w v ys)(hv:∀x∈xs,x<256)(e:xs=ys):
 Calls Tryz.prog 15 #[u,v] w fun e w'=>e=.returned (.bool true)/\w'=w:=by
 subst e;obtain⟨a1,c1,rfl,h1,h2⟩:=h;obtain⟨a2,c2,rfl,k1,k2⟩:=k;have:=M2 a1 a2 xs.length c1 xs.length c2 xs xs w rfl rfl (Dj hv) (Dj hv) h2.1 k2.1
 rw[beq_self_eq_true]at this;exact this
theorem DW {w:World}{u v:Value}{xs ys:List Nat}(h:PIn w u xs)(k:PIn w v ys)(hv:∀x∈xs,x<256)(e:ys=xs.take ys.length):
 Calls Tryz.prog 38 #[u,v] w fun e w'=>e=.returned (.bool true)/\w'=w:=by
 obtain⟨a1,c1,rfl,h1,h2⟩:=h
 have hle:ys.length<=xs.length:=by
  have:=congrArg List.length e
  rw[VL]at this;omega
 have hcut:PIn w (.slice a1 ys.length c1) ys:=⟨a1,c1,rfl,by omega,by rw[e];exact Wj h2 _⟩
 have HQ:=Ab (Z4a hcut k (by rw[e];exact Zh hv _) rfl);have hsl:=KA a1 ys.length xs.length c1 hle h1;obtain⟨a2,c2,rfl,-⟩:=k;obtain⟨n,hn⟩:∃n,xs.length=n:=⟨_,rfl⟩
 obtain⟨m,hm⟩:∃m,ys.length=m:=⟨_,rfl⟩
 rw[hm]at HQ hsl hle;rw[hn]at hsl hle;rw[hn,hm];have hI:(m:Int)<=(n:Int):=by omega
 clear h1 h2 hcut e hv hn hm;go_enter Tryz.func38,Tryz.ntmps38
 go_wp2_with fail
 refine(Aa HQ).mono ?_;rintro e w' ⟨rfl,rfl⟩;go_wp2;go_ret;exact⟨rfl,rfl⟩
end Go.Proofs.YtieianhejdcgdaaGreatDoor
namespace Go.Proofs.YtieianhejdcgdaaGreatDoor
open Go.RowKit
set_option linter.unusedVariables false
set_option maxRecDepth 100000
theorem PQ (x:Int)(n:Nat)(w:World)(h0:0<n)(hn:n<=100000):Calls Tryz.prog 37 #[.int .i64 x,.int .i64 (n:Int)] w fun e w'=>∃t:Nat,e=.returned (.int .i64 t)/\t<n/\w'=w:=by
 have hp:(0:Int)<(n:Int):=by omega
 have h1: -(n:Int)<x.tmod n:=by have:=Int.lt_tmod_of_pos x hp;omega
 have h2:x.tmod n<n:=Int.tmod_lt_of_pos x hp;have hz:((n:Int)==0)=false:=by rw[beq_eq_false_iff_ne];omega
 go_enter Tryz.func37,Tryz.ntmps37
 by_cases hn:x.tmod n<0
 . go_wp2;go_ret;refine⟨(x.tmod n+n).toNat, ?_,by omega,rfl⟩;have:((x.tmod n+n).toNat:Int)=x.tmod n+n:=by omega
   rw[this];rfl
 . go_wp2;go_ret;refine⟨(x.tmod n).toNat, ?_,by omega,rfl⟩;have:((x.tmod n).toNat:Int)=x.tmod n:=by omega
   rw[this];rfl
end Go.Proofs.YtieianhejdcgdaaGreatDoor
