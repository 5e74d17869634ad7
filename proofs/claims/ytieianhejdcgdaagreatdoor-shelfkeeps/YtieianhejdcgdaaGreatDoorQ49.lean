import Derived.Test.YtieianhejdcgdaaGreatDoorQ48
set_option linter.unusedSimpArgs false
set_option maxHeartbeats 4000000
namespace Go.Proofs.YtieianhejdcgdaaGreatDoor
open Go.RowKit
set_option linter.unusedVariables false
set_option maxRecDepth 100000
theorem EOf.one {x y:En}(h:EOf x)(k:EOf y)(e:x.f=y.f):x=y:=by
 obtain⟨xf,xm,xp,xc⟩:=x;obtain⟨yf,ym,yp,yc⟩:=y;have h1:=h.cr;have k1:=k.cr;obtain⟨o1,h2,h3⟩:=h.pk;obtain⟨o2,k2,k3⟩:=k.pk;dsimp only at e h1 k1 h2 h3 k2 k3;subst e;obtain rfl:=h2.one k2
 rcases h3 with ⟨p1,p2,p3⟩|⟨p1,p2,p3⟩<;>rcases k3 with ⟨q1,q2,q3⟩|⟨q1,q2,q3⟩
 . rw[h1,k1,p2,p3,q2,q3]
 . omega
 . omega
 . rw[h1,k1,p2,p3,q2,q3]
def Ens (fs:List Fl)(l:List En):Prop:=l.map En.f=fs/\∀x∈l,EOf x
theorem Ens.one:∀ {fs:List Fl} {l k:List En},Ens fs l->Ens fs k->l=k
 | [],l,k,h,h2=>by rw[List.map_eq_nil_iff.1 h.1,List.map_eq_nil_iff.1 h2.1]
 |f::fs,l,k,h,h2=>by
  obtain⟨h1,h3⟩:=h;obtain⟨k1,k3⟩:=h2
  match l,k,h1,k1,h3,k3 with
  |x::l,y::k,h1,k1,h3,k3=>
   rw[WG,List.cons.injEq]at h1 k1;rw[(h3 x (by simp)).one (k3 y (by simp)) (h1.1.trans k1.1.symm),Ens.one ⟨h1.2,fun z hz=>h3 z (by simp[hz])⟩ ⟨k1.2,fun z hz=>k3 z (by simp[hz])⟩]
open Classical in
noncomputable def arL (fs:List Fl):List Nat:=if h:∃l,Ens fs l then Cb h.choose else []
theorem M5 {fs:List Fl}{l:List En}(h:Ens fs l):arL fs=Cb l:=by
 have h2:∃l,Ens fs l:=⟨l,h⟩
 unfold arL;rw[dif_pos h2,h2.choose_spec.one h]
noncomputable def wrE (fs:List Fl):Nat:=if Eh fs≠0 then Eh fs else if 12000<(arL fs).length then 11 else 0
noncomputable def wrL (fs:List Fl):List Nat:=if wrE fs=0 then arL fs else []
theorem Z1j {fs:List Fl}(h:Eh fs≠0):wrE fs=Eh fs:=by unfold wrE;rw[if_pos h]
theorem Vm {fs:List Fl}(h:wrE fs=0):Eh fs=0/\(arL fs).length<=12000/\wrL fs=arL fs:=by
 have h3:wrL fs=arL fs:=by unfold wrL;rw[if_pos h]
 unfold wrE at h
 split at h
 . rename_i h1;exact absurd h h1
 . split at h
   . cases h
   . rename_i h1 h2
     exact⟨by simpa using h1,by omega,h3⟩
def Wr (fs:List Fl)(ar:List Nat):Prop:=(∀x∈ar,x<256)/\Ew ar=0/\Dn ar=fs/\22<=ar.length/\ar.length<=12000
theorem Z4h {l:List En}(hE:Eh (l.map En.f)=0)(ho:∀x∈l,EOf x)(hn:(Cb l).length<=12000):Wr (l.map En.f) (Cb l):=by
 obtain⟨_,h2,h3⟩:=CT l hE ho hn;exact⟨Yc l (fun x hx=>((ho x hx).num ((Hu hE).2 x.f (WX hx))).2),h2,h3,by rw[Ps];omega,hn⟩
def WrN (ar:List Nat):Prop:=(∀x∈ar,x<256)/\22<=ar.length/\ar.length<=12000
theorem CO {l:List En}(hE:Eh (l.map En.f)=0)(ho:∀x∈l,EOf x)(hn:(Cb l).length<=12000):WrN (Cb l):=
 ⟨Yc l (fun x hx=>((ho x hx).num ((Hu hE).2 x.f (WX hx))).2),by rw[Ps];omega,hn⟩
theorem Z4l {w w':World}{fs:List Fl}{e:Ending}(h:WrA w fs e w'):Below w.heap.size w w'/\(∃v,e=.returned (.tuple #[v,.int .i64 (wrE fs:Nat)])/\PIn w' v (wrL fs))/\(wrE fs=0->WrN (wrL fs)):=by
 obtain⟨hB,h⟩:=h;refine⟨hB, ?_⟩
 rcases h with ⟨h1,rfl⟩|⟨h1,l,h2,h3,h4⟩
 . have hz:=Z1j h1;have hl:wrL fs= []:=by unfold wrL;rw[if_neg (by rw[hz];exact h1)]
   exact⟨⟨_,by rw[hz],by rw[hl];exact PIn.nil _⟩,fun e=>absurd (hz.symm.trans e) h1⟩
 . have ha:=M5 ⟨h2,h3⟩
   rcases h4 with ⟨h4,rfl⟩|⟨h4,a,c,rfl,h5,h6⟩
   . have hz:wrE fs=11:=by unfold wrE;rw[if_neg (by simp[h1]),ha,if_pos h4]
     have hl:wrL fs= []:=by unfold wrL;rw[if_neg (by rw[hz];decide)]
     exact⟨⟨_,by rw[hz];rfl,by rw[hl];exact PIn.nil _⟩,fun e=>by rw[hz]at e;cases e⟩
   . have hz:wrE fs=0:=by unfold wrE;rw[if_neg (by simp[h1]),ha,if_neg (by omega)]
     have hl:wrL fs=Cb l:=by unfold wrL;rw[if_pos hz,ha]
     refine⟨⟨_,by rw[hz,<-hl];rfl,by rw[hl];exact⟨a,c,rfl,h5,h6⟩⟩,fun _=> ?_⟩;rw[hl];exact CO (by rw[h2];exact h1) h3 h4
noncomputable def rF (b:List Nat):List Fl:=(Recs.ex b.length [] b (VC _)).choose
noncomputable def rN (b:List Nat):Nat:=(Recs.ex b.length [] b (VC _)).choose_spec.choose
theorem Zy (b:List Nat):Recs [] b (rF b) (rN b):=(Recs.ex b.length [] b (VC _)).choose_spec.choose_spec
theorem Ug {b:List Nat}{f:List Fl}{m:Nat}(h:Recs [] b f m):rF b=f/\rN b=m:=(Zy b).one h
theorem Z6e (b:List Nat):rN b<=b.length:=(Zy b).le
theorem Hh {b:List Nat}{f:List Fl}(h:Fj b f):rF b=f/\rN b=b.length:=Ug h
theorem Pm:Eh []=0:=by decide
theorem Z51 (b:List Nat):Eh (rF b)=0:=(Zy b).err Pm
theorem Nb {S T:List Nat}(h:dskE S T=0):S.length+T.length<=40000/\Fj S (rF S)/\Fj (S++T) (rF (S++T)):=by
 obtain⟨h1,⟨f,h2⟩,⟨g,h3⟩⟩:=Ry h;exact⟨h1,by rw[(Hh h2).1];exact h2,by rw[(Hh h3).1];exact h3⟩
theorem Pv:Fj [] []:=Zx []
theorem CA:dskE [] []=0:=Nc (by decide) Pv Pv
theorem AC:rF []= []:=(Hh Pv).1
noncomputable def addE (S T:List Nat)(fs:List Fl):Nat:=
 if dskE S T≠0 then dskE S T else if wrE fs≠0 then wrE fs else if Ct (rF (S++T)) fs≠0 then Ct (rF (S++T)) fs else if 40000<S.length+T.length+(8+(wrL fs).length)then 11 else 0
noncomputable def addS (S T:List Nat)(fs:List Fl):List Nat:=if addE S T fs=0 then S else []
noncomputable def addW (S T:List Nat)(fs:List Fl):List Nat:=if addE S T fs=0 then T++Ga (wrL fs)else []
theorem CP {S T:List Nat}{fs:List Fl}(h:dskE S T≠0):addE S T fs=dskE S T:=by unfold addE;rw[if_pos h]
theorem PU {S T:List Nat}{fs:List Fl}(h:dskE S T=0)(h1:wrE fs≠0):addE S T fs=wrE fs:=by unfold addE;rw[if_neg (by simp[h]),if_pos h1]
theorem N1 {S T:List Nat}{fs:List Fl}(h:dskE S T=0)(h1:wrE fs=0)(h2:Ct (rF (S++T)) fs≠0):addE S T fs=Ct (rF (S++T)) fs:=by unfold addE;rw[if_neg (by simp[h]),if_neg (by simp[h1]),if_pos h2]
theorem Sm {S T:List Nat}{fs:List Fl}(h:dskE S T=0)(h1:wrE fs=0)(h2:Ct (rF (S++T)) fs=0)(h3:40000<S.length+T.length+(8+(wrL fs).length)):addE S T fs=11:=by unfold addE;rw[if_neg (by simp[h]),if_neg (by simp[h1]),if_neg (by simp[h2]),if_pos h3]
theorem Ye {S T:List Nat}{fs:List Fl}(h:dskE S T=0)(h1:wrE fs=0)(h2:Ct (rF (S++T)) fs=0)(h3:¬40000<S.length+T.length+(8+(wrL fs).length)):addE S T fs=0:=by unfold addE;rw[if_neg (by simp[h]),if_neg (by simp[h1]),if_neg (by simp[h2]),if_neg h3]
theorem Hf {S T:List Nat}{fs:List Fl}(h:addE S T fs=0):dskE S T=0/\wrE fs=0/\Ct (rF (S++T)) fs=0/\S.length+T.length+(8+(wrL fs).length)<=40000/\addS S T fs=S/\addW S T fs=T++Ga (wrL fs):=by
 have h0:=h
 by_cases c1:dskE S T=0
 . by_cases c2:wrE fs=0
   . by_cases c3:Ct (rF (S++T)) fs=0
     . by_cases c4:40000<S.length+T.length+(8+(wrL fs).length)
       . rw[Sm c1 c2 c3 c4]at h;cases h
       . exact⟨c1,c2,c3,by omega,by unfold addS;rw[if_pos h0],by unfold addW;rw[if_pos h0]⟩
     . rw[N1 c1 c2 c3]at h;exact absurd h c3
   . rw[PU c1 c2]at h;exact absurd h c2
 . rw[CP c1]at h;exact absurd h c1
theorem Mk {S T:List Nat}{fs:List Fl}(h:addE S T fs≠0):addS S T fs= []/\addW S T fs= []:=⟨by unfold addS;rw[if_neg h],by unfold addW;rw[if_neg h]⟩
theorem Sj {S T:List Nat}{fs:List Fl}(h:addE S T fs=0)(hw:Wr fs (wrL fs)):Fj (S++(T++Ga (wrL fs))) (Gz (rF (S++T)) fs)/\dskE S (T++Ga (wrL fs))=0:=by
 obtain⟨h1,h2,h3,h4,_⟩:=Hf h;obtain⟨k1,k2,k3⟩:=Nb h1;obtain⟨w1,w2,w3,w4,w5⟩:=hw
 have h5:Fj (S++(T++Ga (wrL fs))) (Gz (rF (S++T)) fs):=by
  have:=Recs.snoc k3 w1 w2 (by rw[w3];exact h3)
  rw[w3,VJ]at this;exact this
 exact⟨h5,Nc (by rw[VB,Er];omega) k2 h5⟩
theorem Ya {a:List Fl}(h:Eh a=0):Ct [] a=0/\Gz [] a=a/\Ct a []=0/\Gz a []=a:=by
 have hl:=Pn h;have h1:Ct [] a=0:=Js.2 ⟨Pm,h,by rw[Kc];exact hl⟩;have h2:Ct a []=0:=Js.2 ⟨h,Pm,by rw[Kt];exact hl⟩;exact⟨h1,by rw[Pq h1,Kc],h2,by rw[Pq h2,Kt]⟩
end Go.Proofs.YtieianhejdcgdaaGreatDoor
namespace Go.Proofs.YtieianhejdcgdaaGreatDoor
open Go.RowKit
set_option linter.unusedVariables false
set_option maxRecDepth 100000
def DkA (w:World)(S T:List Nat)(E:Nat)(e:Ending)(w':World):Prop:=Below w.heap.size w w'/\∃d,e=.returned (.tuple #[d,.int .i64 (E:Int)])/\DIn w' d S T
theorem DIn.parts {w:World}{v:Value}{S T:List Nat}(h:DIn w v S T):∃a1 c1 a2 c2,v=.agg #[.slice a1 S.length c1,.slice a2 T.length c2]/\S.length<=c1/\T.length<=c2/\PkIn w a1 c1 S/\PkIn w a2 c2 T:=by
 obtain⟨s,t,rfl,⟨a1,c1,rfl,h1,h2⟩,⟨a2,c2,rfl,h3,h4⟩⟩:=h;exact⟨a1,c1,a2,c2,rfl,h1,h3,h2,h4⟩
theorem DIn.put {w W:World}{N l1 c1 l2 c2:Nat}{a1 a2:Option Addr}{u v:Value}{S T:List Nat}(hB:Below w.heap.size w W)(hN:w.heap.size<=N)(h:W.heap[N]? =some (.cells #[.slice a1 l1 c1,.slice a2 l2 c2] 52 (0,0)))(hu:PIn W u S)(hv:PIn W v T):
 ((W.setCell ⟨N,0,none⟩ u).setCell ⟨N,1,none⟩ v).heap[N]? =some (.cells #[u,v] 52 (0,0))/\Below w.heap.size w ((W.setCell ⟨N,0,none⟩ u).setCell ⟨N,1,none⟩ v)/\DIn ((W.setCell ⟨N,0,none⟩ u).setCell ⟨N,1,none⟩ v) (.agg #[u,v]) S T:=by
 have hu0:∃a l c,u=.slice a l c:=by obtain⟨a,c,e,_⟩:=hu;exact⟨a,_,c,e⟩
 exact⟨(V4 hB hN h u v).1,(V4 hB hN h u v).2,u,v,rfl,hu.put h hu0,hv.put h hu0⟩
noncomputable def flS (S T:List Nat):List Nat:=if dskE S T=0 then S++T else []
theorem F7 (v:Value)(S T:List Nat)(w:World)(hD:DIn w v S T)(hv1:∀x∈S,x<256)(hv2:∀x∈T,x<256)(hm1:S.length<=140737488355328)(hm2:T.length<=140737488355328):
 Calls Tryz.prog 23 #[v] w fun e w'=>DkA w (flS S T) [] (dskE S T) e w':=by
 have HCK:=Ab (fun W (hW:Below w.heap.size w W)=>Vb v S T W (hD.below hW) hv1 hv2 hm1 hm2);obtain⟨a1,c1,a2,c2,rfl,hc1,hc2,hP1,hP2⟩:=hD.parts;obtain⟨N,hN⟩:∃N,w.heap.size=N:=⟨_,rfl⟩
 obtain⟨n1,hn1⟩:∃n1,S.length=n1:=⟨_,rfl⟩
 obtain⟨n2,hn2⟩:∃n2,T.length=n2:=⟨_,rfl⟩
 obtain⟨E,hE⟩:∃E,dskE S T=E:=⟨_,rfl⟩
 rw[hn1,hn2,hE]at HCK;rw[hn1]at hm1 hc1 ⊢;rw[hn2]at hm2 hc2 ⊢;rw[hE];have hB0:Below w.heap.size w ((w.alloc (.cells #[.slice a1 n1 c1,.slice a2 n2 c2] 52)).alloc (.cells #[.slice none 0 0,.slice none 0 0] 52)):=((Below.refl w.heap.size w).alloc (VC _) _).alloc (by simp) _
 have hX:((w.alloc (.cells #[.slice a1 n1 c1,.slice a2 n2 c2] 52)).alloc (.cells #[.slice none 0 0,.slice none 0 0] 52)).heap[N]? =some (.cells #[.slice a1 n1 c1,.slice a2 n2 c2] 52 (0,0)):=by
  refine(Below.heap_alloc _ _ _ (by simp[hN])).trans ?_;rw[<-hN];exact heap_alloc_new _ _
 have hY:((w.alloc (.cells #[.slice a1 n1 c1,.slice a2 n2 c2] 52)).alloc (.cells #[.slice none 0 0,.slice none 0 0] 52)).heap[N+1]? =some (.cells #[.slice none 0 0,.slice none 0 0] 52 (0,0)):=by
  have:=heap_alloc_new (w.alloc (.cells #[.slice a1 n1 c1,.slice a2 n2 c2] 52)) (.cells #[.slice none 0 0,.slice none 0 0] 52)
  rw[<-(by simp[hN]:(w.alloc (.cells #[.slice a1 n1 c1,.slice a2 n2 c2] 52)).heap.size=N+1)];exact this
 have HB0:=Ab hB0;have HX:=Ab hX;have HY:=Ab hY;have HP1:=Ab hP1;have HP2:=Ab hP2;have HE:=Ab hE;have HM1:=Ab hn1;have HM2:=Ab hn2;have HSZ:=Ab (show w.heap.size<=N+1 by omega);clear hD hv1 hv2 hP1 hP2 hB0 hX hY hE hn1 hn2;go_enter Tryz.func23,Tryz.ntmps23
 go_wp2_with fail
 refine(Aa HCK _ (Aa HB0)).mono ?_;rintro e w1 ⟨rfl,hB1⟩;have hB01:=(Aa HB0).trans (hB1.mono (Aa HB0).size);have hX1:=(hB1.block N (VG.1 (Aa HX)).1).trans (Aa HX);have hY1:=(hB1.block (N+1) (VG.1 (Aa HY)).1).trans (Aa HY)
 by_cases hE0:E=0
 . subst hE0;have HCC:=Ab (Gs w1 a1 a2 n1 n2 c1 c2 2 S T 23 (Aa HM1) (Aa HM2) ((Aa HP1).below hB01).1 ((Aa HP2).below hB01).1 (by omega));have d0:=Ac (i:=0) hX1;have d1:=Ac (i:=1) hX1;have HB01:=Ab hB01;have HY1:=Ab hY1;clear hB1 hB01 hX1 hY1 HCK;go_wp2_with fail
   refine(Aa HCC).mono ?_;rintro e w2 ⟨x,c,hxc,rfl,hBy,hB2,hnil⟩;have hB02:=(Aa HB01).trans (hB2.mono (Aa HB01).size);have hY2:=(hB2.block (N+1) (VG.1 (Aa HY1)).1).trans (Aa HY1);have hl:(S++T).length=n1+n2:=by rw[VB,Aa HM1,Aa HM2]
   have hpin:PIn w2 (.slice x (n1+n2) c) (S++T):=⟨x,c,by rw[hl],by rw[hl];exact hxc,hBy,hnil⟩
   have hfl:flS S T=S++T:=by unfold flS;rw[if_pos (Aa HE)]
   obtain⟨k1,k2,k3⟩:=DIn.put hB02 (Aa HSZ) hY2 hpin (PIn.nil w2);have e0:=Ac (i:=0) hY2;have e1:=Ac (i:=1) hY2;have f0:=frozen_of_row _ (N+1) 0 _ _ hY2;have f1:=frozen_of_row _ (N+1) 1 _ _ hY2;have HF:Hid (DkA w (flS S T) [] 0 (.returned (.tuple #[.agg #[.slice x (n1+n2) c,.slice none 0 0],.int .i64 0])) ((w2.setCell ⟨N+1,0,none⟩ (.slice x (n1+n2) c)).setCell ⟨N+1,1,none⟩ (.slice none 0 0))):=Ab ⟨k2,_,rfl,by rw[hfl];exact k3⟩;have HK:=Ab k1;clear hBy hB2 hB02 hY2 hpin k1 k2 k3 hnil hl hfl HCC d0 d1;go_wp2;refine bodyPost_ret (v:=.tuple #[.agg #[.slice x (n1+n2) c,.slice none 0 0],.int .i64 0]) ?_ rfl (Aa HF);exact El rfl _ _ (N+1) _ _ rfl (Df (Aa HK)) rfl
 . have hEb:((E:Int)==0)=false:=by rw[beq_eq_false_iff_ne];omega
   have hEc:((E:Int)!=0)=true:=by rw[bne,hEb];rfl
   have hfl:flS S T= []:=by unfold flS;rw[if_neg (by rw[Aa HE];exact hE0)]
   obtain⟨k1,k2,k3⟩:=DIn.put hB01 (Aa HSZ) hY1 (PIn.nil w1) (PIn.nil w1);have e0:=Ac (i:=0) hY1;have e1:=Ac (i:=1) hY1;have f0:=frozen_of_row _ (N+1) 0 _ _ hY1;have f1:=frozen_of_row _ (N+1) 1 _ _ hY1;have HF:Hid (DkA w (flS S T) [] E (.returned (.tuple #[.agg #[.slice none 0 0,.slice none 0 0],.int .i64 (E:Int)])) ((w1.setCell ⟨N+1,0,none⟩ (.slice none 0 0)).setCell ⟨N+1,1,none⟩ (.slice none 0 0))):=Ab ⟨k2,_,rfl,by rw[hfl];exact k3⟩;have HK:=Ab k1;clear hB1 hB01 hX1 hY1 k1 k2 k3 hfl HCK hE0;go_wp2;refine bodyPost_ret (v:=.tuple #[.agg #[.slice none 0 0,.slice none 0 0],.int .i64 (E:Int)]) ?_ rfl (Aa HF);exact El rfl _ _ (N+1) _ _ rfl (Df (Aa HK)) rfl
theorem Z1i {w:World}{v:Value}{fs:List Fl}(h:LIn w v fs):
 Calls Tryz.prog 9 #[v] w fun e w'=>Below w.heap.size w w'/\(∃v,e=.returned (.tuple #[v,.int .i64 (wrE fs:Nat)])/\PIn w' v (wrL fs))/\(wrE fs=0->WrN (wrL fs)):=by
 obtain⟨ad,c,xs,rfl,h1,h2⟩:=h;refine(CQ ad c fs.length xs w h1 (Rm h2)).mono ?_;intro e w' h3;rw[h2]at h3;exact Z4l h3
theorem Xj {w w':World}{S T:List Nat}{e:Ending}(h:FiA w S T e w'):Below w.heap.size w w'/\∃v l,e=.returned (.tuple #[v,.int .i64 (dskE S T:Nat)])/\LIn w' v l/\(dskE S T=0->l=rF (S++T))/\(dskE S T≠0->l= []):=by
 obtain⟨hB,v,l,h1,h2,h3,h4⟩:=h;exact⟨hB,v,l,h1,h2,fun e=>(Hh (h3 e)).1.symm,h4⟩
structure Box (w:World)(N:Nat)(u v:Value)(W:World):Prop where
 bel:Below w.heap.size w W
 at0:W.heap[N]? =some (.cells #[u,v] 52 (0,0))
 at1:W.heap[N+1]? =some (.cells #[.slice none 0 0,.slice none 0 0] 52 (0,0))
 le:w.heap.size<=N+1
theorem Box.new {w:World}{N:Nat}(hN:w.heap.size=N)(u v:Value):Box w N u v ((w.alloc (.cells #[u,v] 52)).alloc (.cells #[.slice none 0 0,.slice none 0 0] 52)):=by
 refine⟨((Below.refl w.heap.size w).alloc (VC _) _).alloc (by simp) _, ?_, ?_,by omega⟩
 . refine(Below.heap_alloc _ _ _ (by simp[hN])).trans ?_;rw[<-hN];exact heap_alloc_new _ _
 . have:=heap_alloc_new (w.alloc (.cells #[u,v] 52)) (.cells #[.slice none 0 0,.slice none 0 0] 52)
   rw[<-(by simp[hN]:(w.alloc (.cells #[u,v] 52)).heap.size=N+1)];exact this
theorem Box.below {w W W':World}{N:Nat}{u v:Value}(h:Box w N u v W)(hB:Below W.heap.size W W'):Box w N u v W':=
 ⟨h.bel.trans (hB.mono h.bel.size),(hB.block N (VG.1 h.at0).1).trans h.at0,(hB.block (N+1) (VG.1 h.at1).1).trans h.at1,h.le⟩
theorem Box.empty {w W:World}{N E:Nat}{u v:Value}{S T:List Nat}(h:Box w N u v W)(hS:S= [])(hT:T= []):
 ((W.setCell ⟨N+1,0,none⟩ (.slice none 0 0)).setCell ⟨N+1,1,none⟩ (.slice none 0 0)).heap[N+1]? =some (.cells #[.slice none 0 0,.slice none 0 0] 52 (0,0))/\DkA w S T E (.returned (.tuple #[.agg #[.slice none 0 0,.slice none 0 0],.int .i64 (E:Int)])) ((W.setCell ⟨N+1,0,none⟩ (.slice none 0 0)).setCell ⟨N+1,1,none⟩ (.slice none 0 0)):=by
 obtain⟨k1,k2,k3⟩:=DIn.put h.bel h.le h.at1 (PIn.nil W) (PIn.nil W);exact⟨k1,k2,_,rfl,by rw[hS,hT];exact k3⟩
theorem Box.facts {w W:World}{N:Nat}{u v:Value}(h:Box w N u v W):W.cell? ⟨N+1,0,none⟩=some (.slice none 0 0)/\W.cell? ⟨N+1,1,none⟩=some (.slice none 0 0)/\W.frozen? ⟨N+1,0,none⟩=false/\W.frozen? ⟨N+1,1,none⟩=false/\W.cell? ⟨N,0,none⟩=some u/\W.cell? ⟨N,1,none⟩=some v:=
 ⟨Ac (i:=0) h.at1,Ac (i:=1) h.at1,frozen_of_row _ (N+1) 0 _ _ h.at1,frozen_of_row _ (N+1) 1 _ _ h.at1,Ac (i:=0) h.at0,Ac (i:=1) h.at0⟩
theorem Yd (v u:Value)(S T:List Nat)(fs:List Fl)(w:World)(hD:DIn w v S T)(hL:LIn w u fs)(hv1:∀x∈S,x<256)(hv2:∀x∈T,x<256)(hm1:S.length<=140737488355328)(hm2:T.length<=140737488355328):
 Calls Tryz.prog 33 #[v,u] w fun e w'=>DkA w (addS S T fs) (addW S T fs) (addE S T fs) e w':=by
 have HFI:=Ab (fun W (hW:Below w.heap.size w W)=>(Iz v S T W (hD.below hW) hv1 hv2 hm1 hm2).mono (fun e w' h=>Xj h));obtain⟨a1,c1,a2,c2,rfl,hc1,hc2,hP1,hP2⟩:=hD.parts;obtain⟨N,hN⟩:∃N,w.heap.size=N:=⟨_,rfl⟩
 obtain⟨n1,hn1⟩:∃n1,S.length=n1:=⟨_,rfl⟩
 obtain⟨n2,hn2⟩:∃n2,T.length=n2:=⟨_,rfl⟩
 obtain⟨E,hE⟩:∃E,dskE S T=E:=⟨_,rfl⟩
 rw[hn1,hn2,hE]at HFI;rw[hn1]at hm1 hc1 ⊢;rw[hn2]at hm2 hc2 ⊢;obtain⟨ad,uc,hu⟩:=hL.shape;obtain⟨k,hk⟩:∃k,fs.length=k:=⟨_,rfl⟩
 rw[hk]at hu;subst hu;have HBX:=Ab (Box.new hN (.slice a1 n1 c1) (.slice a2 n2 c2));have HP1:=Ab hP1;have HP2:=Ab hP2;have HLL:=Ab hL;have HE:=Ab hE;have HM1:=Ab hn1;have HM2:=Ab hn2;clear hD hv1 hv2 hP1 hP2 hE hn1 hn2 hL hk;go_enter Tryz.func33,Tryz.ntmps33
 go_wp2_with fail
 refine(Aa HFI _ (Aa HBX).bel).mono ?_;rintro e w1 ⟨hB1,v1,l,rfl,hL1,hl1,_⟩;have hX1:=(Aa HBX).below hB1
 by_cases hE0:¬E=0
 . have hEb:((E:Int)==0)=false:=by rw[beq_eq_false_iff_ne];omega
   have hEc:((E:Int)!=0)=true:=by rw[bne,hEb];rfl
   have hA:addE S T fs=E:=by rw[CP (by rw[Aa HE];exact hE0),Aa HE]
   obtain⟨q1,q2⟩:=Mk (S:=S) (T:=T) (fs:=fs) (by rw[hA];exact hE0);obtain⟨e0,e1,f0,f1,_,_⟩:=hX1.facts;have HF:=Ab (hX1.empty (E:=E) q1 q2);have HA:=Ab hA;clear hB1 hX1 hE0 hL1 hl1 HFI hA q1 q2;go_wp2;refine bodyPost_ret (v:=.tuple #[.agg #[.slice none 0 0,.slice none 0 0],.int .i64 (E:Int)]) ?_ rfl (by rw[Aa HA];exact(Aa HF).2);exact El rfl _ _ (N+1) _ _ rfl (Df (Aa HF).1) rfl
 obtain rfl:E=0:=by omega
 have hlf:l=rF (S++T):=hl1 rfl;have HWR:=Ab (Z1i ((Aa HLL).below hX1.bel));obtain⟨F,hF⟩:∃F,wrE fs=F:=⟨_,rfl⟩
 rw[hF]at HWR;have HFF:=Ab hF;have HX1:=Ab hX1;have HL1:=Ab hL1;have HLF:=Ab hlf;clear hB1 hX1 hL1 hl1 hlf HFI hF;go_wp2_with fail
 refine(Aa HWR).mono ?_;rintro e w2 ⟨hB2,⟨v2,rfl,hP2⟩,hwr⟩;have hX2:=(Aa HX1).below hB2
 by_cases hF0:¬F=0
 . have hEb:((F:Int)==0)=false:=by rw[beq_eq_false_iff_ne];omega
   have hEc:((F:Int)!=0)=true:=by rw[bne,hEb];rfl
   have hA:addE S T fs=F:=by rw[PU (Aa HE) (by rw[Aa HFF];exact hF0),Aa HFF]
   obtain⟨q1,q2⟩:=Mk (S:=S) (T:=T) (fs:=fs) (by rw[hA];exact hF0);obtain⟨e0,e1,f0,f1,_,_⟩:=hX2.facts;have HF:=Ab (hX2.empty (E:=F) q1 q2);have HA:=Ab hA;clear hB2 hX2 hF0 hP2 hwr HWR hA q1 q2;go_wp2;refine bodyPost_ret (v:=.tuple #[.agg #[.slice none 0 0,.slice none 0 0],.int .i64 (F:Int)]) ?_ rfl (by rw[Aa HA];exact(Aa HF).2);exact El rfl _ _ (N+1) _ _ rfl (Df (Aa HF).1) rfl
 obtain rfl:F=0:=by omega
 have HBO:=Ab (Z1e ((Aa HL1).below hB2) ((Aa HLL).below hX2.bel));obtain⟨G,hG⟩:∃G,Ct l fs=G:=⟨_,rfl⟩
 rw[hG]at HBO;have HG:Hid (Ct (rF (S++T)) fs=G):=Ab (by rw[<-Aa HLF];exact hG);have HX2:=Ab hX2;have HP2':=Ab hP2;have HWR2:=Ab (hwr rfl);clear hB2 hX2 hP2 hwr HWR hG;go_wp2_with fail
 refine(Aa HBO).mono ?_;rintro e w3 ⟨v3,rfl,_,hB3⟩;have hX3:=(Aa HX2).below hB3
 by_cases hG0:¬G=0
 . have hEb:((G:Int)==0)=false:=by rw[beq_eq_false_iff_ne];omega
   have hEc:((G:Int)!=0)=true:=by rw[bne,hEb];rfl
   have hA:addE S T fs=G:=by rw[N1 (Aa HE) (Aa HFF) (by rw[Aa HG];exact hG0),Aa HG]
   obtain⟨q1,q2⟩:=Mk (S:=S) (T:=T) (fs:=fs) (by rw[hA];exact hG0);obtain⟨e0,e1,f0,f1,_,_⟩:=hX3.facts;have HF:=Ab (hX3.empty (E:=G) q1 q2);have HA:=Ab hA;clear hB3 hX3 hG0 HBO hA q1 q2;go_wp2;refine bodyPost_ret (v:=.tuple #[.agg #[.slice none 0 0,.slice none 0 0],.int .i64 (G:Int)]) ?_ rfl (by rw[Aa HA];exact(Aa HF).2);exact El rfl _ _ (N+1) _ _ rfl (Df (Aa HF).1) rfl
 obtain rfl:G=0:=by omega
 obtain⟨ar,har⟩:∃ar,wrL fs=ar:=⟨_,rfl⟩
 have hP3:=(Aa HP2').below hB3;rw[har]at hP3;obtain⟨x4,z4,rfl,hz4,hpk4⟩:=hP3;obtain⟨m,hm⟩:∃m,ar.length=m:=⟨_,rfl⟩
 rw[hm]at hz4 ⊢;obtain⟨r1,r4,r5⟩:=Aa HWR2;rw[har]at r1 r4 r5;rw[hm]at r4 r5;have HRC:Hid (∀W:World,Below w3.heap.size w3 W->Calls Tryz.prog 56 #[.slice x4 m z4] W fun e w'=>∃g c,e=.returned (.slice (some ⟨g,0,none⟩) (8+m) c)/\8+m<=c/\W.heap.size<=g/\g<w'.heap.size/\Bytes w' g 0 (Ga ar)/\Below W.heap.size W w'):=Ab (fun W hW=>DS x4 m z4 ar W hm (by omega) r5 (hpk4.below hW).1 r1);have HCC:Hid (∀(W:World) (g c:Nat),Below w3.heap.size w3 W->g<W.heap.size->Bytes W g 0 (Ga ar)->Calls Tryz.prog 32 #[.slice (some ⟨W.heap.size,0,none⟩) 2 2] (W.alloc (.cells #[.slice a2 n2 c2,.slice (some ⟨g,0,none⟩) (8+m) c] 23)) fun e w'=>∃x c,n2+(8+m)<=c/\e=.returned (.slice x (n2+(8+m)) c)/\BytesIn w' x (T++Ga ar)/\Below W.heap.size W w'/\(x=none->c=0)):=Ab (fun W g c hW hg hb=>Gs W a2 (some ⟨g,0,none⟩) n2 (8+m) c2 c 2 T (Ga ar) 23 (Aa HM2) (by rw[Er,hm]) ((Aa HP2).below (hX3.bel.trans (hW.mono hX3.bel.size))).1 (.inr ⟨g,0,rfl,hg,hb⟩) (by omega));have HX3:=Ab hX3;have HAR:=Ab har;have HMM:=Ab hm;have HW3:=Ab (show N<w3.heap.size from (VG.1 hX3.at0).1);clear hB3 hX3 HBO hpk4 r1 har hm;go_upto_region 10 with fail
 go_cut [11] (fun v11 wc=>∃x c,v11=.slice x (n2+(8+m)) c/\n2+(8+m)<=c/\Hid (PkIn wc x c (T++Ga ar)/\Below w3.heap.size w3 wc))
 case first=>
  have hcell:w3.cell? ⟨N,1,none⟩=some (.slice a2 n2 c2):=Ac (i:=1) (Aa HX3).at0;refine wp_region_held_drew (S:=fun W=>W.cell? ⟨N,1,none⟩=some (.slice a2 n2 c2)/\Below w3.heap.size w3 W) (by kernel_rfl) ⟨hcell,Af (Below.refl _ _) 1⟩ (fun hHeld=> ?_);refine wpAnyH_take (i:=0) (v:=.pointer (some ⟨N,1,none⟩)) rfl (by kernel_rfl) (by kernel_rfl) (by kernel_rfl) (fun _ _ _ h=>h) (Or.inl ⟨by rfl,fun W hS=>by go_simp⟩) hHeld ?_;simp only[Act.put,VA,VD,VE];refine wpAnyH_take (i:=1) (v:=.slice a2 n2 c2) rfl (by kernel_rfl) (by kernel_rfl) (by kernel_rfl) (fun _ _ _ h=>h) (Or.inl ⟨by rfl,fun W hS=>by have hc:=hS.1;go_simp⟩) hHeld ?_;simp only[Act.put,VA,VD,VE];refine wpAnyH_take (i:=2) (v:=.slice x4 m z4) rfl (by kernel_rfl) (by kernel_rfl) (by kernel_rfl) (fun _ _ _ h=>h) (Or.inl ⟨by rfl,fun W hS=>by go_simp⟩) hHeld ?_;simp only[Act.put,VA,VD,VE];have hrr:∀W,Below w3.heap.size w3 W->W.cell? ⟨N,1,none⟩=some (.slice a2 n2 c2)/\Below w3.heap.size w3 W:=fun W hW=>⟨(hW.cell (p:=⟨N,1,none⟩) (Aa HW3)).trans hcell,hW⟩
  refine wpAnyH_ready (rs:= [3]) (by kernel_rfl) (by simp) (AllReadyH.cons rfl (fun K hK=> ?_) AllReadyH.nil);go_simp
  refine(Aa HRC _ hHeld.2).mono ?_;rintro e w4 ⟨g,c,rfl,hgc,hg1,hg2,hby,hB4⟩;have hB34:Below w3.heap.size w3 w4:=hHeld.2.trans (hB4.mono hHeld.2.size);dsimp only;refine hK.out _ _ (hrr _ hB34) (fun hHeld4=> ?_);clear hK K hHeld;refine wpAnyH_ready (rs:= [4]) (by kernel_rfl) (by simp) (AllReadyH.cons rfl (fun K hK=> ?_) AllReadyH.nil);go_simp
  refine hK.out _ _ (hrr _ (hB34.alloc hB34.size _)) (fun hHeld5=> ?_);clear hK K hHeld4;refine wpAnyH_ready (rs:= [5]) (by kernel_rfl) (by simp) (AllReadyH.cons rfl (fun K hK=> ?_) AllReadyH.nil);go_simp
  refine(Aa HCC w4 g c hB34 hg2 hby).mono ?_;rintro e w5 ⟨x5,c5,hc5,rfl,hby5,hB5,hnil5⟩;have hB35:Below w3.heap.size w3 w5:=hB34.trans (hB5.mono hB34.size);dsimp only;refine hK.out _ _ (hrr _ hB35) (fun hHeld6=> ?_);clear hK K hHeld5;refine wpAnyH_ready (rs:= [6]) (by kernel_rfl) (by simp) (AllReadyH.cons rfl (fun K hK=> ?_) AllReadyH.nil);go_simp
  refine hK.out _ _ hHeld6 (fun hHeld7=> ?_);clear hK K hHeld6;refine wpAnyH_done (by kernel_rfl) ?_ _;have HF:Hid (n2+(8+m)<=c5/\PkIn w5 x5 c5 (T++Ga ar)/\Below w3.heap.size w3 w5):=Ab ⟨hc5,⟨hby5,hnil5⟩,hB35⟩;clear hc5 hby5 hnil5 hB35 hB5 hB34 hB4 hby hHeld7 hrr hcell;go_wp2_with fail
  go_meet
  exact⟨_,_,rfl,(Aa HF).1,Ab (Aa HF).2⟩
 case rest=>
  obtain⟨x,c,rfl,hxc,hst⟩:=hcut;obtain⟨hpk,hBc⟩:=Aa hst;have hXc:=(Aa HX3).below hBc;obtain⟨e0,e1,f0,f1,g0,g1⟩:=hXc.facts;have hwr:IntKind.i64.wrap ((40000:Int)-(n1:Int))=(40000:Int)-(n1:Int):=by simp[IntKind.wrap,IntKind.signed,IntKind.bits];omega
  obtain⟨q,hq⟩:∃q,n2+(8+m)=q:=⟨_,rfl⟩
  rw[hq]at hxc ⊢;have hlen:(wrL fs).length=m:=by rw[Aa HAR];exact Aa HMM
  by_cases h4:40000<n1+q
  . have hA:addE S T fs=11:=Sm (Aa HE) (Aa HFF) (Aa HG) (by rw[Aa HM1,Aa HM2,hlen];omega);obtain⟨q1,q2⟩:=Mk (S:=S) (T:=T) (fs:=fs) (by rw[hA];decide);have h4I:(40000:Int)-(n1:Int)<(q:Int):=by omega
    have HF:=Ab (hXc.empty (E:=11) q1 q2);have HA:=Ab hA;clear hpk hBc hXc hst h4 hA q1 q2 hq hlen;go_wp2;refine bodyPost_ret (v:=.tuple #[.agg #[.slice none 0 0,.slice none 0 0],.int .i64 11]) ?_ rfl (by rw[Aa HA];exact(Aa HF).2);exact El rfl _ _ (N+1) _ _ rfl (Df (Aa HF).1) rfl
  . have hA:addE S T fs=0:=Ye (Aa HE) (Aa HFF) (Aa HG) (by rw[Aa HM1,Aa HM2,hlen];omega);obtain⟨_,_,_,_,q1,q2⟩:=Hf hA;rw[Aa HAR]at q2;have h4I:¬(40000:Int)-(n1:Int)<(q:Int):=by omega
    have HCO:=Ab (Sa a1 n1 c1 S wc (Aa HM1) ((Aa HP1).below hXc.bel) hm1);have hpin:PIn wc (.slice x q c) (T++Ga ar):=⟨x,c,by rw[VB,Er,Aa HM2,Aa HMM,hq],by rw[VB,Er,Aa HM2,Aa HMM,hq];exact hxc,hpk⟩
    have HPN:=Ab hpin;have HXc:=Ab hXc;have HA:=Ab hA;have HQ1:=Ab q1;have HQ2:=Ab q2;clear hpk hBc hXc hst h4 hA q1 q2 hq hlen hpin e0 e1 f0 f1;go_wp2_with fail
    refine(Aa HCO).mono ?_;rintro e w6 ⟨v6,rfl,hP6,hB6⟩;have hX6:=(Aa HXc).below hB6;obtain⟨e0,e1,f0,f1,_,_⟩:=hX6.facts;obtain⟨k1,k2,k3⟩:=DIn.put hX6.bel hX6.le hX6.at1 hP6 ((Aa HPN).below hB6);obtain⟨a6,c6,rfl,_⟩:=id hP6;rw[Aa HM1]at k1 k2 k3 ⊢;have HF:Hid (DkA w (addS S T fs) (addW S T fs) 0 (.returned (.tuple #[.agg #[.slice a6 n1 c6,.slice x q c],.int .i64 0])) ((w6.setCell ⟨N+1,0,none⟩ (.slice a6 n1 c6)).setCell ⟨N+1,1,none⟩ (.slice x q c))):=Ab ⟨k2,_,rfl,by rw[Aa HQ1,Aa HQ2];exact k3⟩;have HK:=Ab k1;clear k1 k2 k3 hP6 hB6 hX6 HCO;go_wp2;refine bodyPost_ret (v:=.tuple #[.agg #[.slice a6 n1 c6,.slice x q c],.int .i64 0]) ?_ rfl (by rw[Aa HA];exact Aa HF);exact El rfl _ _ (N+1) _ _ rfl (Df (Aa HK)) rfl
noncomputable def cutE (S T:List Nat)(n:Int):Nat:=if dskE S T≠0 then dskE S T else if n<0\/ (T.length:Int)<n then 3 else 0
def Z3t (S T:List Nat)(n:Int):List Nat:=S++T.take n.toNat
noncomputable def cutS (S T:List Nat)(n:Int):List Nat:=if cutE S T n=0 then (Z3t S T n).take (rN (Z3t S T n))else []
noncomputable def cutN (S T:List Nat)(n:Int):Nat:=if cutE S T n=0 then (Z3t S T n).length-rN (Z3t S T n)else 0
def DnA (w:World)(S T:List Nat)(m E:Nat)(e:Ending)(w':World):Prop:=Below w.heap.size w w'/\∃d,e=.returned (.tuple #[d,.int .i64 (m:Int),.int .i64 (E:Int)])/\DIn w' d S T
theorem Z50 {w w':World}{bs:List Nat}{e:Ending}(h:RcA w bs e w'):(40000<bs.length/\DnA w [] [] 0 2 e w')\/ (bs.length<=40000/\DnA w (bs.take (rN bs)) [] (bs.length-rN bs) 0 e w'):=by
 obtain⟨hB,⟨h1,rfl⟩|⟨h1,f,m,v,h2,rfl,h3⟩⟩:=h
 . exact .inl ⟨h1,hB,_,rfl,DIn.nil _⟩
 . rw[<-(Ug h2).2]at h3;exact .inr ⟨h1,hB,_,by rw[(Ug h2).2];rfl,_,_,rfl,h3,PIn.nil _⟩
theorem Box.empty3 {w W:World}{N E:Nat}{u v:Value}{S:List Nat}{m:Nat}(h:Box w N u v W)(hS:S= [])(hm:m=0):
 ((W.setCell ⟨N+1,0,none⟩ (.slice none 0 0)).setCell ⟨N+1,1,none⟩ (.slice none 0 0)).heap[N+1]? =some (.cells #[.slice none 0 0,.slice none 0 0] 52 (0,0))/\DnA w S [] m E (.returned (.tuple #[.agg #[.slice none 0 0,.slice none 0 0],.int .i64 0,.int .i64 (E:Int)])) ((W.setCell ⟨N+1,0,none⟩ (.slice none 0 0)).setCell ⟨N+1,1,none⟩ (.slice none 0 0)):=by
 obtain⟨k1,k2,k3⟩:=DIn.put h.bel h.le h.at1 (PIn.nil W) (PIn.nil W);exact⟨k1,k2,_,by rw[hm];rfl,by rw[hS];exact k3⟩
theorem OJ {S T:List Nat}{n:Int}(h:cutE S T n≠0):cutS S T n= []/\cutN S T n=0:=⟨by unfold cutS;rw[if_neg h],by unfold cutN;rw[if_neg h]⟩
theorem OK (v:Value)(n:Int)(S T:List Nat)(w:World)(hD:DIn w v S T)(hv1:∀x∈S,x<256)(hv2:∀x∈T,x<256)(hm1:S.length<=140737488355328)(hm2:T.length<=140737488355328):
 Calls Tryz.prog 24 #[v,.int .i64 n] w fun e w'=>DnA w (cutS S T n) [] (cutN S T n) (cutE S T n) e w':=by
 have HCK:=Ab (fun W (hW:Below w.heap.size w W)=>Vb v S T W (hD.below hW) hv1 hv2 hm1 hm2);obtain⟨a1,c1,a2,c2,rfl,hc1,hc2,hP1,hP2⟩:=hD.parts;obtain⟨N,hN⟩:∃N,w.heap.size=N:=⟨_,rfl⟩
 obtain⟨n1,hn1⟩:∃n1,S.length=n1:=⟨_,rfl⟩
 obtain⟨n2,hn2⟩:∃n2,T.length=n2:=⟨_,rfl⟩
 obtain⟨E,hE⟩:∃E,dskE S T=E:=⟨_,rfl⟩
 rw[hn1,hn2,hE]at HCK;rw[hn1]at hm1 hc1 ⊢;rw[hn2]at hm2 hc2 ⊢;have HBX:=Ab (Box.new hN (.slice a1 n1 c1) (.slice a2 n2 c2));have HP1:=Ab hP1;have HP2:=Ab hP2;have HV1:=Ab hv1;have HV2:=Ab hv2;have HE:=Ab hE;have HM1:=Ab hn1;have HM2:=Ab hn2;clear hD hv1 hv2 hP1 hP2 hE hn1 hn2;go_enter Tryz.func24,Tryz.ntmps24
 go_wp2_with fail
 refine(Aa HCK _ (Aa HBX).bel).mono ?_;rintro e w1 ⟨rfl,hB1⟩;have hX1:=(Aa HBX).below hB1;obtain⟨e0,e1,f0,f1,g0,g1⟩:=hX1.facts
 by_cases hE0:¬E=0
 . have hEb:((E:Int)==0)=false:=by rw[beq_eq_false_iff_ne];omega
   have hEc:((E:Int)!=0)=true:=by rw[bne,hEb];rfl
   have hA:cutE S T n=E:=by unfold cutE;rw[if_pos (by rw[Aa HE];exact hE0),Aa HE]
   obtain⟨q1,q2⟩:=OJ (S:=S) (T:=T) (n:=n) (by rw[hA];exact hE0);have HF:=Ab (hX1.empty3 (E:=E) q1 q2);have HA:=Ab hA;clear hB1 hX1 hE0 HCK hA q1 q2;go_wp2;refine bodyPost_ret (v:=.tuple #[.agg #[.slice none 0 0,.slice none 0 0],.int .i64 0,.int .i64 (E:Int)]) ?_ rfl (by rw[Aa HA];exact(Aa HF).2);exact Ek rfl _ _ (N+1) _ _ _ rfl (Df (Aa HF).1) rfl rfl
 obtain rfl:E=0:=by omega
 by_cases hr:n<0\/ (n2:Int)<n
 . have hA:cutE S T n=3:=by unfold cutE;rw[if_neg (by simp[Aa HE]),Aa HM2,if_pos hr]
   obtain⟨q1,q2⟩:=OJ (S:=S) (T:=T) (n:=n) (by rw[hA];decide);have HF:=Ab (hX1.empty3 (E:=3) q1 q2);have HA:=Ab hA
   rcases(by omega:n<0\/ (¬n<0/\(n2:Int)<n))with h1|⟨h1,h2⟩
   . clear hB1 hX1 hE0 HCK hA q1 q2 hr;go_wp2;refine bodyPost_ret (v:=.tuple #[.agg #[.slice none 0 0,.slice none 0 0],.int .i64 0,.int .i64 3]) ?_ rfl (by rw[Aa HA];exact(Aa HF).2);exact Ek rfl _ _ (N+1) _ _ _ rfl (Df (Aa HF).1) rfl rfl
   . clear hB1 hX1 hE0 HCK hA q1 q2 hr;go_wp2;refine bodyPost_ret (v:=.tuple #[.agg #[.slice none 0 0,.slice none 0 0],.int .i64 0,.int .i64 3]) ?_ rfl (by rw[Aa HA];exact(Aa HF).2);exact Ek rfl _ _ (N+1) _ _ _ rfl (Df (Aa HF).1) rfl rfl
 have hA:cutE S T n=0:=by unfold cutE;rw[if_neg (by simp[Aa HE]),Aa HM2,if_neg hr]
 obtain⟨k,rfl⟩:∃k:Nat,n=(k:Int):=⟨n.toNat,by omega⟩
 have hk2:k<=n2:=by omega
 have h1:¬(k:Int)<0:=by omega
 have h2:¬(n2:Int)<(k:Int):=by omega
 have hcB:Z3t S T (k:Int)=S++T.take k:=rfl;have htl:(T.take k).length=k:=by rw[VL,Aa HM2];omega
 have hsz:=(Ry (Aa HE)).1;rw[Aa HM1,Aa HM2]at hsz;obtain⟨b,hb⟩:∃b,S++T.take k=b:=⟨_,rfl⟩
 have hbl:b.length=n1+k:=by rw[<-hb,VB,Aa HM1,htl]
 have hbv:∀x∈b,x<256:=fun x hx=>by
  rw[<-hb]at hx
  rcases VZ.1 hx with h|h
  . exact Aa HV1 x h
  . exact Aa HV2 x (VS h)
 have hq1:cutS S T (k:Int)=b.take (rN b):=by unfold cutS;rw[if_pos hA,hcB,hb]
 have hq2:cutN S T (k:Int)=b.length-rN b:=by unfold cutN;rw[if_pos hA,hcB,hb]
 have hsl:=KA a2 k n2 c2 hk2 hc2;obtain⟨L,hL⟩:∃L,b.length-rN b=L:=⟨_,rfl⟩
 rw[hL]at hq2
 have HCC:Hid (∀W:World,Below w1.heap.size w1 W->Calls Tryz.prog 32 #[.slice (some ⟨W.heap.size,0,none⟩) 2 2] (W.alloc (.cells #[.slice a1 n1 c1,.slice a2 k c2] 23)) fun e w'=>∃x c,n1+k<=c/\e=.returned (.slice x (n1+k) c)/\BytesIn w' x b/\Below W.heap.size W w'/\(x=none->c=0)):=Ab (fun W hW=>by
  have hPW1:=(Aa HP1).below (hX1.bel.trans (hW.mono hX1.bel.size));have hPW2:=Wj ((Aa HP2).below (hX1.bel.trans (hW.mono hX1.bel.size))) k;rw[<-hb];exact Gs W a1 a2 n1 k c1 c2 2 S (T.take k) 23 (Aa HM1) htl hPW1.1 hPW2.1 (by omega))
 have HRC:Hid (∀(W:World) (x:Option Addr) (c:Nat),n1+k<=c->PkIn W x c b->Calls Tryz.prog 25 #[.slice x (n1+k) c] W fun e w'=>Below W.heap.size W w'/\∃b1 m1 d1 b2 d2,e=.returned (.tuple #[.agg #[.slice b1 m1 d1,.slice b2 0 d2],.int .i64 (L:Int),.int .i64 0])/\PIn w' (.slice b1 m1 d1) (b.take (rN b))/\PIn w' (.slice b2 0 d2) []):=Ab (fun W x c hc hp=>(Q8 x (n1+k) c b W hbl hc hp hbv (by omega)).mono (fun e w' h=>by
  rcases Z50 h with ⟨h1,_⟩|⟨_,hB,d,h3,h4⟩
  . omega
  . obtain⟨b1,d1,b2,d2,rfl,p1,p2,p3,p4⟩:=h4.parts;rw[hL]at h3;exact⟨hB,b1,_,d1,b2,d2,h3,⟨b1,d1,rfl,p1,p3⟩,⟨b2,d2,rfl,p2,p4⟩⟩))
 have HX1:=Ab hX1;have HA:=Ab hA;have HQ1:=Ab hq1;have HQ2:=Ab hq2;have hW1:N<w1.heap.size:=(VG.1 hX1.at0).1;clear hB1 hX1 hE0 HCK hA hr hcB htl hsz hb hbl hbv hq1 hq2 hL HV1 HV2 e0 e1 f0 f1;go_upto_region 6 with fail
 refine wp_region_held_drew (S:=fun W=>W.cell? ⟨N,0,none⟩=some (.slice a1 n1 c1)/\W.cell? ⟨N,1,none⟩=some (.slice a2 n2 c2)) (by kernel_rfl) ⟨g0,g1⟩ (fun hHeld=> ?_);refine wpAnyH_take (i:=0) (v:=.pointer (some ⟨N,0,none⟩)) rfl (by kernel_rfl) (by kernel_rfl) (by kernel_rfl) (fun _ _ _ h=>h) (Or.inl ⟨by rfl,fun W hS=>by go_simp⟩) hHeld ?_;simp only[Act.put,VA,VD,VE];refine wpAnyH_take (i:=1) (v:=.slice a1 n1 c1) rfl (by kernel_rfl) (by kernel_rfl) (by kernel_rfl) (fun _ _ _ h=>h) (Or.inl ⟨by rfl,fun W hS=>by have hc:=hS.1;go_simp⟩) hHeld ?_;simp only[Act.put,VA,VD,VE];refine wpAnyH_take (i:=2) (v:=.pointer (some ⟨N,1,none⟩)) rfl (by kernel_rfl) (by kernel_rfl) (by kernel_rfl) (fun _ _ _ h=>h) (Or.inl ⟨by rfl,fun W hS=>by go_simp⟩) hHeld ?_;simp only[Act.put,VA,VD,VE];refine wpAnyH_take (i:=3) (v:=.slice a2 n2 c2) rfl (by kernel_rfl) (by kernel_rfl) (by kernel_rfl) (fun _ _ _ h=>h) (Or.inl ⟨by rfl,fun W hS=>by have hc:=hS.2;go_simp⟩) hHeld ?_;simp only[Act.put,VA,VD,VE];refine wpAnyH_take (i:=4) (v:=.int .i64 (k:Int)) rfl (by kernel_rfl) (by kernel_rfl) (by kernel_rfl) (fun _ _ _ h=>h) (Or.inl ⟨by rfl,fun W hS=>by go_simp⟩) hHeld ?_;simp only[Act.put,VA,VD,VE];refine wpAnyH_take (i:=5) (v:=.slice a2 k c2) rfl (by kernel_rfl) (by kernel_rfl) (by kernel_rfl) (fun _ _ _ h=>h) (Or.inl ⟨by rfl,fun W hS=>by go_simp⟩) hHeld ?_;simp only[Act.put,VA,VD,VE];have hrr:∀W,Below w1.heap.size w1 W->W.cell? ⟨N,0,none⟩=some (.slice a1 n1 c1)/\W.cell? ⟨N,1,none⟩=some (.slice a2 n2 c2):=fun W hW=>⟨(hW.cell (p:=⟨N,0,none⟩) hW1).trans g0,(hW.cell (p:=⟨N,1,none⟩) hW1).trans g1⟩
 refine wpAnyH_ready (rs:= [6]) (by kernel_rfl) (by simp) (AllReadyH.cons rfl (fun K hK=> ?_) AllReadyH.nil);go_simp
 have hBd:Below w1.heap.size w1 w1.drew:=Af (Below.refl _ _) 1;have hBa:=hBd.alloc hBd.size (.cells #[.slice a1 n1 c1,.slice a2 k c2] 23);refine hK.out _ _ (hrr _ hBa) (fun hHeld5=> ?_);clear hK K hHeld;refine wpAnyH_ready (rs:= [7]) (by kernel_rfl) (by simp) (AllReadyH.cons rfl (fun K hK=> ?_) AllReadyH.nil);go_simp
 refine(Aa HCC w1.drew hBd).mono ?_;rintro e w5 ⟨x5,c5,hc5,rfl,hby5,hB5,hnil5⟩;have hB15:Below w1.heap.size w1 w5:=hBd.trans (hB5.mono hBd.size);dsimp only;refine hK.out _ _ (hrr _ hB15) (fun hHeld6=> ?_);clear hK K hHeld5;refine wpAnyH_ready (rs:= [8]) (by kernel_rfl) (by simp) (AllReadyH.cons rfl (fun K hK=> ?_) AllReadyH.nil);go_simp
 refine(Aa HRC w5 x5 c5 hc5 ⟨hby5,hnil5⟩).mono ?_;rintro e w6 ⟨hB6,b1,m1,d1,b2,d2,rfl,hpa,hpb⟩;have hB16:Below w1.heap.size w1 w6:=hB15.trans (hB6.mono hB15.size);dsimp only;refine hK.out _ _ (hrr _ hB16) (fun hHeld7=> ?_);clear hK K hHeld6;refine wpAnyH_take (i:=9) (v:=.agg #[.slice b1 m1 d1,.slice b2 0 d2]) rfl (by kernel_rfl) (by kernel_rfl) (by kernel_rfl) (fun _ _ _ h=>h) (Or.inl ⟨by rfl,fun W hS=>by go_simp⟩) hHeld7 ?_;simp only[Act.put,VA,VD,VE];refine wpAnyH_take (i:=10) (v:=.int .i64 (L:Int)) rfl (by kernel_rfl) (by kernel_rfl) (by kernel_rfl) (fun _ _ _ h=>h) (Or.inl ⟨by rfl,fun W hS=>by go_simp⟩) hHeld7 ?_;simp only[Act.put,VA,VD,VE];refine wpAnyH_take (i:=11) (v:=.int .i64 0) rfl (by kernel_rfl) (by kernel_rfl) (by kernel_rfl) (fun _ _ _ h=>h) (Or.inl ⟨by rfl,fun W hS=>by go_simp⟩) hHeld7 ?_;simp only[Act.put,VA,VD,VE];have hX6:=(Aa HX1).below hB16;obtain⟨e0,e1,f0,f1,_,_⟩:=hX6.facts;obtain⟨k1,k2,k3⟩:=DIn.put hX6.bel hX6.le hX6.at1 hpa hpb;have HF:Hid (DnA w (cutS S T (k:Int)) [] (cutN S T (k:Int)) 0 (.returned (.tuple #[.agg #[.slice b1 m1 d1,.slice b2 0 d2],.int .i64 (L:Int),.int .i64 0])) ((w6.setCell ⟨N+1,0,none⟩ (.slice b1 m1 d1)).setCell ⟨N+1,1,none⟩ (.slice b2 0 d2))):=Ab ⟨k2,_,by rw[Aa HQ2];rfl,by rw[Aa HQ1];exact k3⟩;have HK:=Ab k1
 have HS7:Hid (((w6.setCell ⟨N+1,0,none⟩ (.slice b1 m1 d1)).setCell ⟨N+1,1,none⟩ (.slice b2 0 d2)).cell? ⟨N,0,none⟩=some (.slice a1 n1 c1)/\((w6.setCell ⟨N+1,0,none⟩ (.slice b1 m1 d1)).setCell ⟨N+1,1,none⟩ (.slice b2 0 d2)).cell? ⟨N,1,none⟩=some (.slice a2 n2 c2)):=Ab (by
  have hz:=(VG.1 hX6.at0).1;have g1:=Ad w6 (N+1) 0 (.slice b1 m1 d1);have g2:=Ad (w6.setCell ⟨N+1,0,none⟩ (.slice b1 m1 d1)) (N+1) 1 (.slice b2 0 d2);have hne:some N≠some (N+1):=fun e=>by have:=VN e;omega
  have e1:((w6.setCell ⟨N+1,0,none⟩ (.slice b1 m1 d1)).setCell ⟨N+1,1,none⟩ (.slice b2 0 d2)).heap[N]? =w6.heap[N]? :=(g2.block N (VK hz g1.size) hne).trans (g1.block N hz hne);exact⟨(World.cell?_of_block (a:=⟨N,0,none⟩) e1).trans (hrr w6 hB16).1,(World.cell?_of_block (a:=⟨N,1,none⟩) e1).trans (hrr w6 hB16).2⟩)
 clear k1 k2 k3 hpa hpb hB6 hB5 hby5 hnil5 hX6;refine wpAnyH_ready (rs:= [12]) (by kernel_rfl) (by simp) (AllReadyH.cons rfl (fun K hK=> ?_) AllReadyH.nil);go_simp
 refine hK.out _ _ (Aa HS7) (fun hHeld8=> ?_);clear hK K hHeld7;refine wpAnyH_ready (rs:= [13]) (by kernel_rfl) (by simp) (AllReadyH.cons rfl (fun K hK=> ?_) AllReadyH.nil);go_simp
 refine hK.out _ _ hHeld8 (fun hHeld9=> ?_);clear hK K;refine wpAnyH_ready (rs:= [14]) (by kernel_rfl) (by simp) (AllReadyH.cons rfl (fun K hK=> ?_) AllReadyH.nil);go_simp
 refine hK.out _ _ hHeld9 (fun hHeld10=> ?_);clear hK K;refine wpAnyH_done (by kernel_rfl) ?_ _;go_wp2;refine bodyPost_ret (v:=.tuple #[.agg #[.slice b1 m1 d1,.slice b2 0 d2],.int .i64 (L:Int),.int .i64 0]) ?_ rfl (by rw[Aa HA];exact Aa HF);exact Ek rfl _ _ (N+1) _ _ _ rfl (Df (Aa HK)) rfl rfl
end Go.Proofs.YtieianhejdcgdaaGreatDoor
