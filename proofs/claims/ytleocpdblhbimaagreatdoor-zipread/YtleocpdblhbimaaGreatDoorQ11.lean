import Derived.Test.YtleocpdblhbimaaGreatDoorQ8
import Derived.Test.YtleocpdblhbimaaGreatDoorQ10
import Derived.Deep.RegionHeld3
import Derived.Deep.CutBlock
set_option linter.unusedSimpArgs false
set_option maxHeartbeats 8000000
namespace Go.Proofs.YtleocpdblhbimaaGreatDoor
open Go.RowKit
set_option linter.unusedVariables false
set_option maxRecDepth 100000
def UnA (w:World)(pk:List Nat)(n:Nat)(e:Ending)(w':World):Prop:=Below w.heap.size w w'/\
 (((Oh (rowB pk n)).e=0/\∃ov oc kv,e=.returned (.tuple #[.slice ov (Oh (rowB pk n)).out.length oc,.int .i64 ((((Oh (rowB pk n)).p+7)/8:Nat):Int),kv,.int .i64 0])/\PIn w' (.slice ov (Oh (rowB pk n)).out.length oc) (Oh (rowB pk n)).out/\∀g o,ov=some ⟨g,o,none⟩->w.heap.size<=g)\/
  ((Oh (rowB pk n)).e≠0/\e=.returned (.tuple #[.slice none 0 0,.int .i64 0,.slice none 0 0,.int .i64 (Oh (rowB pk n)).e])))
def UnC (Gd:Prop):Prop:=∀(W:World) (a:Option Addr) (n c:Nat) (pk:List Nat),pk.length=n->n<=12000->BytesIn W a pk->(∀x∈pk,x<256)->(Gd\/ (Oh (rowB pk n)).e=0)->
 Calls Tryz.prog 39 #[.slice a n c] W fun e w'=>UnA W pk n e w'
def EnD (w:World)(bs:List Nat)(e:Ending)(w':World):Prop:=Below w.heap.size w w'/\
 ((Tt bs=none/\e=.returned (.tuple #[.slice none 0 0,.bool false]))\/
  ∃es ad c,Tt bs=some (es.map Ev.e)/\e=.returned (.tuple #[.slice ad es.length c,.bool (Be (es.map Ev.e)==bs)])/\RsIn w' ad es)
theorem RsIn.below {w w':World}{ad:Option Addr}{xs:List Ev}(h:RsIn w ad xs)(hB:Below w.heap.size w w'):RsIn w' ad xs:=by
 refine⟨?_,fun x hx=>⟨(h.all x hx).1.below hB,(h.all x hx).2⟩⟩
 rcases h.at_ with h1|⟨b,o,e,hb,hE⟩
 . exact .inl h1
 . exact .inr ⟨b,o,e,VG hb hB.size,fun j x hj i hi=>(World.cell?_of_block (w:=w) (a:=⟨b,_,none⟩) (hB.block b hb)).trans (hE j x hj i hi)⟩
theorem BC {m:Nat}{pk ys:List Nat}(hl:pk.length<=12000)(h:unpD m pk=some ys):ys.length<=12000:=by
 rw[Le]at h;unfold unpF at h
 split at h
 . cases h;exact hl
 . split at h
   . split at h
     . rename_i c
       cases h
       have:=(Rn (rowB pk pk.length) pk.length (Af _ _) c.2.1).2.2.1
       omega
     . cases h
   . cases h
theorem Z4 (a:Option Addr)(n cap:Nat)(bs:List Nat)(w:World)(hl:bs.length=n)(hn:n<=12000)(hc:n<=cap)(hP:PkIn w a cap bs)(hv:∀x∈bs,x<256)(Gd:Prop)(hG:Gd\/Tt bs≠none)(hU:UnC Gd):
 Calls Tryz.prog 10 #[.slice a n cap] w fun e w'=>EnD w bs e w':=by
 have HNO:Hid (Tt bs=none->∀W,Below w.heap.size w W->EnD w bs (.returned (.tuple #[.slice none 0 0,.bool false])) W):=Ab (fun h W hW=>⟨hW,.inl ⟨h,rfl⟩⟩)
 by_cases h22:n<22
 . have HF:=Ab (Aa HNO (by unfold Tt;rw[if_pos (by omega)]) w (Below.refl _ _));have h22I:(n:Int)<22:=by omega
   clear hP hv hl hU hG HNO;go_enter Tryz.func10,Tryz.ntmps10
   go_wp2;go_ret2;exact Aa HF
 have h22I:¬(n:Int)<22:=by omega
 obtain⟨g,o,rfl,hg,hB⟩:=Dz hP.1 (by omega);obtain⟨q,hq⟩:∃q,n-22=q:=⟨_,rfl⟩
 have hs3:=Z2h g o n cap q ((n:Int)-22) 22 (by omega) (by omega) hc (by omega) (by omega);have hw3:IntKind.i64.wrap ((n:Int)-22)=(n:Int)-22:=by simp[IntKind.wrap,IntKind.signed,IntKind.bits];omega
 have hE:∀j,j<(bs.drop q).length->w.cell? ⟨g,o+q+j,none⟩=some (.int .u8 (((bs.drop q).getD j 0:Nat):Int)):=by
  intro j hj;rw[VQ]at hj;have e:(bs.drop q).getD j 0=bs.getD (q+j) 0:=by simp only[List.getD];rw[XJ]
  rw[e,WT];exact hB (q+j) (by omega)
 have hvE:∀x∈bs.drop q,x<256:=fun x hx=>hv x (VW hx)
 have hEl:(bs.drop q).length=22:=by rw[VQ];omega
 have hse1:=Gq g (o+q) 22 (cap-q) 8 10 8 10 2 rfl rfl (by omega) (by omega) (by omega) (by omega) rfl;have hse2:=Gq g (o+q) 22 (cap-q) 12 16 12 16 4 rfl rfl (by omega) (by omega) (by omega) (by omega) rfl;have hse3:=Gq g (o+q) 22 (cap-q) 16 20 16 20 4 rfl rfl (by omega) (by omega) (by omega) (by omega) rfl;have HO1:=Ab (Cw hg hE hvE 8 10 2 (cap-q-8) rfl (by omega) (by omega) (by omega));have HO2:=Ab (Cw hg hE hvE 12 16 4 (cap-q-12) rfl (by omega) (by omega) (by omega));have HO3:=Ab (Cw hg hE hvE 16 20 4 (cap-q-16) rfl (by omega) (by omega) (by omega));obtain⟨N,hN⟩:∃N,Dh (bs.drop q) 8 10=N:=⟨_,rfl⟩
 obtain⟨SZ,hSZ⟩:∃SZ,Dh (bs.drop q) 12 16=SZ:=⟨_,rfl⟩
 obtain⟨AT,hAT⟩:∃AT,Dh (bs.drop q) 16 20=AT:=⟨_,rfl⟩
 have hN2:N<65536:=by rw[<-hN];exact Dm hvE rfl
 have hSZ2:SZ<4294967296:=by rw[<-hSZ];exact Dm hvE rfl
 have hAT2:AT<4294967296:=by rw[<-hAT];exact Dm hvE rfl
 rw[hN]at HO1;rw[hSZ]at HO2;rw[hAT]at HO3;have HEND:Hid (Tt bs=if 12<N\/AT+SZ+22≠n then none else Np bs AT N ((bs.drop AT).take SZ)):=Ab (by unfold Tt;rw[if_neg (by omega),hl,hq,hN,hSZ,hAT]);have HB:=Ab hB;have HV:=Ab hv;have HL:=Ab hl;have HU:=Ab hU;have HG:=Ab hG;clear hP hv hl hU hG hE hvE hEl hN hSZ hAT hB;go_enter Tryz.func10,Tryz.ntmps10
 go_upto_region 4 with fail
 refine wp_region_held_drew (S:=fun W=>Below w.heap.size w W) (by kernel_rfl) (Ae (Below.refl _ _) 1) (fun hHeld=> ?_);refine wpAnyH_take (i:=0) (v:=.slice (some ⟨g,o+q,none⟩) 22 (cap-q)) rfl (by kernel_rfl) (by kernel_rfl) (by kernel_rfl) (fun _ _ _ h=>h) (Or.inl ⟨by rfl,fun W hS=>by go_simp⟩) hHeld ?_;simp only[Act.put,VA,VC,VD];refine wpAnyH_take (i:=1) (v:=.slice (some ⟨g,o+q+8,none⟩) 2 (cap-q-8)) rfl (by kernel_rfl) (by kernel_rfl) (by kernel_rfl) (fun _ _ _ h=>h) (Or.inl ⟨by rfl,fun W hS=>by go_simp⟩) hHeld ?_;simp only[Act.put,VA,VC,VD];refine wpAnyH_take (i:=3) (v:=.slice (some ⟨g,o+q,none⟩) 22 (cap-q)) rfl (by kernel_rfl) (by kernel_rfl) (by kernel_rfl) (fun _ _ _ h=>h) (Or.inl ⟨by rfl,fun W hS=>by go_simp⟩) hHeld ?_;simp only[Act.put,VA,VC,VD];refine wpAnyH_take (i:=4) (v:=.slice (some ⟨g,o+q+12,none⟩) 4 (cap-q-12)) rfl (by kernel_rfl) (by kernel_rfl) (by kernel_rfl) (fun _ _ _ h=>h) (Or.inl ⟨by rfl,fun W hS=>by go_simp⟩) hHeld ?_;simp only[Act.put,VA,VC,VD];refine wpAnyH_take (i:=6) (v:=.slice (some ⟨g,o+q,none⟩) 22 (cap-q)) rfl (by kernel_rfl) (by kernel_rfl) (by kernel_rfl) (fun _ _ _ h=>h) (Or.inl ⟨by rfl,fun W hS=>by go_simp⟩) hHeld ?_;simp only[Act.put,VA,VC,VD];refine wpAnyH_take (i:=7) (v:=.slice (some ⟨g,o+q+16,none⟩) 4 (cap-q-16)) rfl (by kernel_rfl) (by kernel_rfl) (by kernel_rfl) (fun _ _ _ h=>h) (Or.inl ⟨by rfl,fun W hS=>by go_simp⟩) hHeld ?_;simp only[Act.put,VA,VC,VD];refine wpAnyH_ready (rs:= [2]) (by kernel_rfl) (by simp) (AllReadyH.cons rfl (fun K hK=> ?_) AllReadyH.nil);go_simp
 refine(Aa HO1 _ hHeld).mono ?_;rintro e w' ⟨rfl,rfl⟩;dsimp only;refine hK.out _ _ hHeld (fun _=> ?_);clear hK K;refine wpAnyH_ready (rs:= [5]) (by kernel_rfl) (by simp) (AllReadyH.cons rfl (fun K hK=> ?_) AllReadyH.nil);go_simp
 refine(Aa HO2 _ hHeld).mono ?_;rintro e w' ⟨rfl,rfl⟩;dsimp only;refine hK.out _ _ hHeld (fun _=> ?_);clear hK K;refine wpAnyH_ready (rs:= [8]) (by kernel_rfl) (by simp) (AllReadyH.cons rfl (fun K hK=> ?_) AllReadyH.nil);go_simp
 refine(Aa HO3 _ hHeld).mono ?_;rintro e w' ⟨rfl,rfl⟩;dsimp only;refine hK.out _ _ hHeld (fun _=> ?_);clear hK K;refine wpAnyH_ready (rs:= [9]) (by kernel_rfl) (by simp) (AllReadyH.cons rfl (fun K hK=> ?_) AllReadyH.nil);go_simp
 refine hK.out _ _ hHeld (fun _=> ?_);clear hK K;refine wpAnyH_ready (rs:= [10]) (by kernel_rfl) (by simp) (AllReadyH.cons rfl (fun K hK=> ?_) AllReadyH.nil);go_simp
 refine hK.out _ _ hHeld (fun _=> ?_);clear hK K;refine wpAnyH_ready (rs:= [11]) (by kernel_rfl) (by simp) (AllReadyH.cons rfl (fun K hK=> ?_) AllReadyH.nil);go_simp
 refine hK.out _ _ hHeld (fun _=> ?_);clear hK K;refine wpAnyH_done (by kernel_rfl) ?_ _;clear hs3 hw3 hse1 hse2 hse3 HO1 HO2 HO3 hHeld;have hB1:Below w.heap.size w w.drew:=Ae (Below.refl _ _) 1
 by_cases h12:12<N\/AT+SZ+22≠n
 . have HF:=Ab (Aa HNO (by rw[Aa HEND,if_pos h12]) w.drew hB1);clear HNO HEND HB HV HL HU HG hB1
   by_cases h12':12<N
   . have hI:(12:Int)<(N:Int):=by omega
     go_wp2;go_ret2;exact Aa HF
   . have hI:¬(12:Int)<(N:Int):=by omega
     have hJ:((AT:Int)+(SZ:Int)+22 !=(n:Int))=true:=by simp only[bne_iff_ne,ne_eq];omega
     go_wp2;go_ret2;exact Aa HF
 have hI:¬(12:Int)<(N:Int):=by omega
 have hsum:AT+SZ+22=n:=by omega
 have hJ:((AT:Int)+(SZ:Int)+22 !=(n:Int))=false:=by simp only[bne_eq_false_iff_eq];omega
 have HEN:Hid (Tt bs=Np bs AT N ((bs.drop AT).take SZ)):=Ab (by rw[Aa HEND,if_neg h12]);have hs7:=Gq g o n cap AT (AT+SZ) (AT:Int) ((AT:Int)+(SZ:Int)) SZ rfl (by omega) (by omega) (by omega) hc (by omega) (by omega);have HB1:=Ab hB1;clear h12 HEND hB1;go_wp2;go_loopw [8,9,10,11,12,13,14,15,16,17,18,19,55] (fun v8 v9 _ _ _ _ _ _ _ _ _ _ v55 wr=>∃(k p m:Nat) (es:List Ev),k<=N/\v55=.int .i64 (k:Int)/\v8=.slice (some ⟨g,o+p,none⟩) m (cap-p)/\Hid (p+m+22=n)/\Hid (es.length=k)/\Hid (RRow wr w.heap.size v9 es)/\Hid (Below w.heap.size w wr)/\Hid (Tt bs=(Np bs AT (N-k) ((bs.drop p).take m)).map (es.map Ev.e++ ·))/\Hid (∀x∈es,EWd x.e/\∀y∈x.e.pk,y<256)) (fun _ _ _ _ _ _ _ _ _ _ _ _ v55 _=>N-(intOf v55).toNat)
 case atStart=>exact⟨0,AT,SZ,[],VH _,rfl,rfl,Ab hsum,Ab rfl,Ab (RRow.nil _ _),HB1,Ab (by rw[Aa HEN];simp),Ab (fun x hx=>by cases hx)⟩
 case round=>
  obtain⟨k,p,m,es,hk,rfl,rfl,hpm,hel,hR,hBw,hEq,hW⟩:=hrel
  by_cases hlt:k<N
  . have hpm2:=Aa hpm;obtain⟨r,hr⟩:∃r,(bs.drop p).take m=r:=⟨_,rfl⟩
    obtain⟨j,hj⟩:∃j,N-k=j+1:=⟨N-k-1,by omega⟩
    have HEQ:Hid (Tt bs=((JR bs AT r).bind fun x=>(Np bs AT j x.2).map (x.1:: ·)).map (es.map Ev.e++ ·)):=Ab (by rw[Aa hEq,hj,hr,Np]);have hrl:r.length=m:=by rw[<-hr,VL,VQ,Aa HL];omega
    have HNR:Hid (JR bs AT r=none->∀W,Below w.heap.size w W->EnD w bs (.returned (.tuple #[.slice none 0 0,.bool false])) W):=Ab (fun h W hW=>Aa HNO (by rw[Aa HEQ,h];rfl) W hW);have hgr:g<wr.heap.size:=VG hg (Aa hBw).size
    have hRB:∀i,i<r.length->wr.cell? ⟨g,o+p+i,none⟩=some (.int .u8 ((r.getD i 0:Nat):Int)):=by
     intro i hi
     have e2:r.getD i 0=bs.getD (p+i) 0:=by
      rw[<-hr];simp only[List.getD];rw[XX (by omega),XJ]
     rw[e2,(Aa hBw).cell (p:=⟨g,_,none⟩) hg,WT];exact Aa HB (p+i) (by rw[Aa HL];omega)
    have hrv:∀x∈r,x<256:=fun x hx=>Aa HV x (by rw[<-hr]at hx;exact VW (VR hx))
    by_cases h46:m<46
    . have HF:=Ab (Aa HNR (by unfold JR;rw[if_pos (by omega)]) wr (Aa hBw));have h46I:(m:Int)<46:=by omega
      clear HNO HNR HEQ hEq hR hW HB HV HL HU HG hRB hrv hr hBw;go_wp2;go_ret2;exact Aa HF
    have h46I:¬(m:Int)<46:=by omega
    have hl1:=Gq g (o+p) m (cap-p) 28 30 28 30 2 rfl rfl (by omega) (by omega) (by omega) (by omega) rfl;have hl2:=Gq g (o+p) m (cap-p) 20 24 20 24 4 rfl rfl (by omega) (by omega) (by omega) (by omega) rfl;have hl3:=Gq g (o+p) m (cap-p) 42 46 42 46 4 rfl rfl (by omega) (by omega) (by omega) (by omega) rfl;have HO1:=Ab (Cw hgr hRB hrv 28 30 2 (cap-p-28) rfl (by omega) (by omega) (by omega));have HO2:=Ab (Cw hgr hRB hrv 20 24 4 (cap-p-20) rfl (by omega) (by omega) (by omega));have HO3:=Ab (Cw hgr hRB hrv 42 46 4 (cap-p-42) rfl (by omega) (by omega) (by omega));obtain⟨LG,hLG⟩:∃LG,Dh r 28 30=LG:=⟨_,rfl⟩
    obtain⟨PK,hPK⟩:∃PK,Dh r 20 24=PK:=⟨_,rfl⟩
    obtain⟨PL,hPL⟩:∃PL,Dh r 42 46=PL:=⟨_,rfl⟩
    have hLG2:LG<65536:=by rw[<-hLG];exact Dm hrv rfl
    have hPK2:PK<4294967296:=by rw[<-hPK];exact Dm hrv rfl
    have hPL2:PL<4294967296:=by rw[<-hPL];exact Dm hrv rfl
    rw[hLG]at HO1;rw[hPK]at HO2;rw[hPL]at HO3;have HRB:=Ab hRB;have HRV:=Ab hrv;have HLG:=Ab hLG;have HPK:=Ab hPK;have HPL:=Ab hPL;have HR:=Ab hr;have HRL:=Ab hrl;have HJ:=Ab hj;clear hRB hrv hLG hPK hPL hr hrl hj hEq;go_upto_region 13 with fail
    refine wp_region_held_drew (S:=fun W=>Below wr.heap.size wr W) (by kernel_rfl) (Ae (Below.refl _ _) 1) (fun hHeld=> ?_);refine wpAnyH_take (i:=0) (v:=.slice (some ⟨g,o+p,none⟩) m (cap-p)) rfl (by kernel_rfl) (by kernel_rfl) (by kernel_rfl) (fun _ _ _ h=>h) (Or.inl ⟨by rfl,fun W hS=>by go_simp⟩) hHeld ?_;simp only[Act.put,VA,VC,VD];refine wpAnyH_take (i:=1) (v:=.slice (some ⟨g,o+p+28,none⟩) 2 (cap-p-28)) rfl (by kernel_rfl) (by kernel_rfl) (by kernel_rfl) (fun _ _ _ h=>h) (Or.inl ⟨by rfl,fun W hS=>by go_simp⟩) hHeld ?_;simp only[Act.put,VA,VC,VD];refine wpAnyH_take (i:=3) (v:=.slice (some ⟨g,o+p,none⟩) m (cap-p)) rfl (by kernel_rfl) (by kernel_rfl) (by kernel_rfl) (fun _ _ _ h=>h) (Or.inl ⟨by rfl,fun W hS=>by go_simp⟩) hHeld ?_;simp only[Act.put,VA,VC,VD];refine wpAnyH_take (i:=4) (v:=.slice (some ⟨g,o+p+20,none⟩) 4 (cap-p-20)) rfl (by kernel_rfl) (by kernel_rfl) (by kernel_rfl) (fun _ _ _ h=>h) (Or.inl ⟨by rfl,fun W hS=>by go_simp⟩) hHeld ?_;simp only[Act.put,VA,VC,VD];refine wpAnyH_take (i:=6) (v:=.slice (some ⟨g,o+p,none⟩) m (cap-p)) rfl (by kernel_rfl) (by kernel_rfl) (by kernel_rfl) (fun _ _ _ h=>h) (Or.inl ⟨by rfl,fun W hS=>by go_simp⟩) hHeld ?_;simp only[Act.put,VA,VC,VD];refine wpAnyH_take (i:=7) (v:=.slice (some ⟨g,o+p+42,none⟩) 4 (cap-p-42)) rfl (by kernel_rfl) (by kernel_rfl) (by kernel_rfl) (fun _ _ _ h=>h) (Or.inl ⟨by rfl,fun W hS=>by go_simp⟩) hHeld ?_;simp only[Act.put,VA,VC,VD];refine wpAnyH_ready (rs:= [2]) (by kernel_rfl) (by simp) (AllReadyH.cons rfl (fun K hK=> ?_) AllReadyH.nil);go_simp
    refine(Aa HO1 _ hHeld).mono ?_;rintro e w' ⟨rfl,rfl⟩;dsimp only;refine hK.out _ _ hHeld (fun _=> ?_);clear hK K;refine wpAnyH_ready (rs:= [5]) (by kernel_rfl) (by simp) (AllReadyH.cons rfl (fun K hK=> ?_) AllReadyH.nil);go_simp
    refine(Aa HO2 _ hHeld).mono ?_;rintro e w' ⟨rfl,rfl⟩;dsimp only;refine hK.out _ _ hHeld (fun _=> ?_);clear hK K;refine wpAnyH_ready (rs:= [8]) (by kernel_rfl) (by simp) (AllReadyH.cons rfl (fun K hK=> ?_) AllReadyH.nil);go_simp
    refine(Aa HO3 _ hHeld).mono ?_;rintro e w' ⟨rfl,rfl⟩;dsimp only;refine hK.out _ _ hHeld (fun _=> ?_);clear hK K;refine wpAnyH_ready (rs:= [9]) (by kernel_rfl) (by simp) (AllReadyH.cons rfl (fun K hK=> ?_) AllReadyH.nil);go_simp
    refine hK.out _ _ hHeld (fun _=> ?_);clear hK K;refine wpAnyH_ready (rs:= [10]) (by kernel_rfl) (by simp) (AllReadyH.cons rfl (fun K hK=> ?_) AllReadyH.nil);go_simp
    refine hK.out _ _ hHeld (fun _=> ?_);clear hK K;refine wpAnyH_ready (rs:= [11]) (by kernel_rfl) (by simp) (AllReadyH.cons rfl (fun K hK=> ?_) AllReadyH.nil);go_simp
    refine hK.out _ _ hHeld (fun _=> ?_);clear hK K;refine wpAnyH_done (by kernel_rfl) ?_ _;clear hl1 hl2 hl3 HO1 HO2 HO3 hHeld;have hBr:Below wr.heap.size wr wr.drew:=Ae (Below.refl _ _) 1
    by_cases hbad:m<46+LG+11\/AT<PL+30+LG+11+PK
    . have HF:=Ab (Aa HNR (by unfold JR;rw[if_neg (by rw[Aa HRL];omega),Aa HLG,Aa HPK,Aa HPL,Aa HRL,if_pos hbad]) wr.drew ((Aa hBw).trans (hBr.mono (Aa hBw).size)));clear HNO HNR HEQ hR hW HB HV HL HU HG HRB HRV HR HLG HPK HPL hBw hBr
      by_cases hb1:m<46+LG+11
      . have hI1:(m:Int)<46+(LG:Int)+11:=by omega
        go_wp2;go_ret2;exact Aa HF
      . have hI1:¬(m:Int)<46+(LG:Int)+11:=by omega
        have hI2:(AT:Int)<(PL:Int)+30+(LG:Int)+11+(PK:Int):=by omega
        go_wp2;go_ret2;exact Aa HF
    have hI1:¬(m:Int)<46+(LG:Int)+11:=by omega
    have hI2:¬(AT:Int)<(PL:Int)+30+(LG:Int)+11+(PK:Int):=by omega
    obtain⟨M,hM⟩:∃M,Dh r 10 12=M:=⟨_,rfl⟩
    obtain⟨CR,hCR⟩:∃CR,Dh r 16 20=CR:=⟨_,rfl⟩
    have hrl2:=Aa HRL;have hM2:M<65536:=by rw[<-hM];exact Dm (Aa HRV) rfl
    have hCR2:CR<4294967296:=by rw[<-hCR];exact Dm (Aa HRV) rfl
    have HO4:=Ab (Cw hgr (Aa HRB) (Aa HRV) 10 12 2 (cap-p-10) rfl (by omega) (by omega) (by omega));have HO5:=Ab (Cw hgr (Aa HRB) (Aa HRV) 16 20 4 (cap-p-16) rfl (by omega) (by omega) (by omega));rw[hM]at HO4;rw[hCR]at HO5;have hwC:IntKind.u32.wrap (CR:Int)=(CR:Int):=Bh hCR2;have hs16:=Gq g (o+p) m (cap-p) (46+LG) (46+LG+11) (46+(LG:Int)) (46+(LG:Int)+11) 11 (by omega) (by omega) (by omega) (by omega) (by omega) (by omega) (by omega);have hl4:=Gq g (o+p) m (cap-p) 10 12 10 12 2 rfl rfl (by omega) (by omega) (by omega) (by omega) rfl;have hl5:=Gq g (o+p) m (cap-p) 16 20 16 20 4 rfl rfl (by omega) (by omega) (by omega) (by omega) rfl;have HM:=Ab hM;have HCR:=Ab hCR;clear hM hCR;obtain⟨w1,hw1⟩:∃x,wr.drew=x:=⟨_,rfl⟩
    rw[hw1]at hBr ⊢;clear hw1;have HBR:=Ab hBr;clear hBr;go_upto_region 17 with fail
    go_cut [14] (fun v14 wq=>∃X,v14=.pointer (some ⟨X,0,none⟩)/\Hid (wq.heap[X]? =some (.cells #[.string ⟨#[]⟩,.slice none 0 0,.int .i64 0,.int .i64 0,.bool false,.int .i64 (M:Int),.slice none 0 0,.int .u32 (CR:Int)] 37 (0,0))/\wr.heap.size<=X/\Below wr.heap.size wr wq))
    case first=>
     refine wp_region_held_drew (S:=fun W=>Below wr.heap.size wr W) (by kernel_rfl) (Ae (Aa HBR) 1) (fun hHeld=> ?_);generalize w1.drew=w2 at hHeld ⊢;refine wpAnyH_take (i:=0) (v:=.slice (some ⟨g,o+p,none⟩) m (cap-p)) rfl (by kernel_rfl) (by kernel_rfl) (by kernel_rfl) (fun _ _ _ h=>h) (Or.inl ⟨by rfl,fun W hS=>by go_simp⟩) hHeld ?_;simp only[Act.put,VA,VC,VD];refine wpAnyH_take (i:=1) (v:=.slice (some ⟨g,o+p+10,none⟩) 2 (cap-p-10)) rfl (by kernel_rfl) (by kernel_rfl) (by kernel_rfl) (fun _ _ _ h=>h) (Or.inl ⟨by rfl,fun W hS=>by go_simp⟩) hHeld ?_;simp only[Act.put,VA,VC,VD];refine wpAnyH_take (i:=3) (v:=.slice (some ⟨g,o+p,none⟩) m (cap-p)) rfl (by kernel_rfl) (by kernel_rfl) (by kernel_rfl) (fun _ _ _ h=>h) (Or.inl ⟨by rfl,fun W hS=>by go_simp⟩) hHeld ?_;simp only[Act.put,VA,VC,VD];refine wpAnyH_take (i:=4) (v:=.slice (some ⟨g,o+p+16,none⟩) 4 (cap-p-16)) rfl (by kernel_rfl) (by kernel_rfl) (by kernel_rfl) (fun _ _ _ h=>h) (Or.inl ⟨by rfl,fun W hS=>by go_simp⟩) hHeld ?_;simp only[Act.put,VA,VC,VD];refine wpAnyH_ready (rs:= [2,8]) (by kernel_rfl) (by simp) (AllReadyH.cons rfl (fun K hK=> ?_) (AllReadyH.cons rfl (fun K hK=> ?_) AllReadyH.nil))
     . go_simp
       refine(Aa HO4 _ hHeld).mono ?_;rintro e wN ⟨rfl,hwN⟩;obtain rfl:w2=wN:=hwN.symm;dsimp only;refine hK.out _ _ hHeld (fun _=> ?_);clear hK K;refine wpAnyH_ready (rs:= [5,8]) (by kernel_rfl) (by simp) (AllReadyH.cons rfl (fun K hK=> ?_) (AllReadyH.cons rfl (fun K hK=> ?_) AllReadyH.nil))
       . go_simp
         refine(Aa HO5 _ hHeld).mono ?_;rintro e wN ⟨rfl,hwN⟩;obtain rfl:w2=wN:=hwN.symm;dsimp only;refine hK.out _ _ hHeld (fun _=> ?_);clear hK K;refine wpAnyH_take (i:=6) (v:=.int .u32 (CR:Int)) rfl (by kernel_rfl) (by kernel_rfl) (by kernel_rfl) (fun _ _ _ h=>h) (Or.inl ⟨by rfl,fun W hS=>by go_simp⟩) hHeld ?_;simp only[Act.put,VA,VC,VD];refine wpAnyH_take (i:=7) (v:=.agg #[.string ⟨#[]⟩,.slice none 0 0,.int .i64 0,.int .i64 0,.bool false,.int .i64 (M:Int),.slice none 0 0,.int .u32 (CR:Int)]) rfl (by kernel_rfl) (by kernel_rfl) (by kernel_rfl) (fun _ _ _ h=>h) (Or.inl ⟨by rfl,fun W hS=>by go_simp⟩) hHeld ?_;simp only[Act.put,VA,VC,VD];refine wpAnyH_ready (rs:= [8]) (by kernel_rfl) (by simp) (AllReadyH.cons rfl (fun K hK=> ?_) AllReadyH.nil);go_simp
         have hX:=heap_alloc_new w2 (.cells #[.string ⟨#[]⟩,.slice none 0 0,.int .i64 0,.int .i64 0,.bool false,.int .i64 0,.slice none 0 0,.int .u32 0] 37);have hNew:Below wr.heap.size wr (w2.alloc (.cells #[.string ⟨#[]⟩,.slice none 0 0,.int .i64 0,.int .i64 0,.bool false,.int .i64 0,.slice none 0 0,.int .u32 0] 37)):=hHeld.alloc hHeld.size _;have hXs:=hHeld.size;generalize w2.alloc (.cells #[.string ⟨#[]⟩,.slice none 0 0,.int .i64 0,.int .i64 0,.bool false,.int .i64 0,.slice none 0 0,.int .u32 0] 37)=w3 at hX hNew ⊢;generalize w2.heap.size=X at hX hXs ⊢;refine hK.out _ _ hNew (fun _=> ?_);clear hK K hHeld;have hHeld:=hNew;clear hNew;refine wpAnyH_ready (rs:= [9]) (by kernel_rfl) (by simp) (AllReadyH.cons rfl (fun K hK=> ?_) AllReadyH.nil);rw[if_pos (by rfl)];refine wp_store_row 37 (.tmp 14) (.tmp 100) rfl X #[.string ⟨#[]⟩,.slice none 0 0,.int .i64 0,.int .i64 0,.bool false,.int .i64 (M:Int),.slice none 0 0,.int .u32 (CR:Int)] rfl rfl 37 _ hX (by kernel_rfl) rfl (by simp[Value.oneCell']) ?_;have hX2:(w3.setRow X #[.string ⟨#[]⟩,.slice none 0 0,.int .i64 0,.int .i64 0,.bool false,.int .i64 (M:Int),.slice none 0 0,.int .u32 (CR:Int)]).heap[X]? =some (.cells #[.string ⟨#[]⟩,.slice none 0 0,.int .i64 0,.int .i64 0,.bool false,.int .i64 (M:Int),.slice none 0 0,.int .u32 (CR:Int)] 37 (0,0)):=setRow_heap _ _ _ _ _ _ hX;have hN2:=Yv hHeld hXs (#[.string ⟨#[]⟩,.slice none 0 0,.int .i64 0,.int .i64 0,.bool false,.int .i64 (M:Int),.slice none 0 0,.int .u32 (CR:Int)]:Array Value);refine hK.out _ _ hN2 (fun _=> ?_);clear hK K;refine wpAnyH_done (by kernel_rfl) ?_ _;go_wp2_with fail
         go_meet
         exact⟨X,rfl,Ab ⟨hX2,hXs,hN2⟩⟩
       . go_simp
         have hX:=heap_alloc_new w2 (.cells #[.string ⟨#[]⟩,.slice none 0 0,.int .i64 0,.int .i64 0,.bool false,.int .i64 0,.slice none 0 0,.int .u32 0] 37);have hNew:Below wr.heap.size wr (w2.alloc (.cells #[.string ⟨#[]⟩,.slice none 0 0,.int .i64 0,.int .i64 0,.bool false,.int .i64 0,.slice none 0 0,.int .u32 0] 37)):=hHeld.alloc hHeld.size _;have hXs:=hHeld.size;generalize w2.alloc (.cells #[.string ⟨#[]⟩,.slice none 0 0,.int .i64 0,.int .i64 0,.bool false,.int .i64 0,.slice none 0 0,.int .u32 0] 37)=w3 at hX hNew ⊢;generalize w2.heap.size=X at hX hXs ⊢;refine hK.out _ _ hNew (fun _=> ?_);clear hK K hHeld;have hHeld:=hNew;clear hNew;refine wpAnyH_ready (rs:= [5]) (by kernel_rfl) (by simp) (AllReadyH.cons rfl (fun K hK=> ?_) AllReadyH.nil);go_simp
         refine(Aa HO5 _ hHeld).mono ?_;rintro e wN ⟨rfl,hwN⟩;obtain rfl:w3=wN:=hwN.symm;dsimp only;refine hK.out _ _ hHeld (fun _=> ?_);clear hK K;refine wpAnyH_take (i:=6) (v:=.int .u32 (CR:Int)) rfl (by kernel_rfl) (by kernel_rfl) (by kernel_rfl) (fun _ _ _ h=>h) (Or.inl ⟨by rfl,fun W hS=>by go_simp⟩) hHeld ?_;simp only[Act.put,VA,VC,VD];refine wpAnyH_take (i:=7) (v:=.agg #[.string ⟨#[]⟩,.slice none 0 0,.int .i64 0,.int .i64 0,.bool false,.int .i64 (M:Int),.slice none 0 0,.int .u32 (CR:Int)]) rfl (by kernel_rfl) (by kernel_rfl) (by kernel_rfl) (fun _ _ _ h=>h) (Or.inl ⟨by rfl,fun W hS=>by go_simp⟩) hHeld ?_;simp only[Act.put,VA,VC,VD];refine wpAnyH_ready (rs:= [9]) (by kernel_rfl) (by simp) (AllReadyH.cons rfl (fun K hK=> ?_) AllReadyH.nil);rw[if_pos (by rfl)];refine wp_store_row 37 (.tmp 14) (.tmp 100) rfl X #[.string ⟨#[]⟩,.slice none 0 0,.int .i64 0,.int .i64 0,.bool false,.int .i64 (M:Int),.slice none 0 0,.int .u32 (CR:Int)] rfl rfl 37 _ hX (by kernel_rfl) rfl (by simp[Value.oneCell']) ?_;have hX2:(w3.setRow X #[.string ⟨#[]⟩,.slice none 0 0,.int .i64 0,.int .i64 0,.bool false,.int .i64 (M:Int),.slice none 0 0,.int .u32 (CR:Int)]).heap[X]? =some (.cells #[.string ⟨#[]⟩,.slice none 0 0,.int .i64 0,.int .i64 0,.bool false,.int .i64 (M:Int),.slice none 0 0,.int .u32 (CR:Int)] 37 (0,0)):=setRow_heap _ _ _ _ _ _ hX;have hN2:=Yv hHeld hXs (#[.string ⟨#[]⟩,.slice none 0 0,.int .i64 0,.int .i64 0,.bool false,.int .i64 (M:Int),.slice none 0 0,.int .u32 (CR:Int)]:Array Value);refine hK.out _ _ hN2 (fun _=> ?_);clear hK K;refine wpAnyH_done (by kernel_rfl) ?_ _;go_wp2_with fail
         go_meet
         exact⟨X,rfl,Ab ⟨hX2,hXs,hN2⟩⟩
     . go_simp
       have hX:=heap_alloc_new w2 (.cells #[.string ⟨#[]⟩,.slice none 0 0,.int .i64 0,.int .i64 0,.bool false,.int .i64 0,.slice none 0 0,.int .u32 0] 37);have hNew:Below wr.heap.size wr (w2.alloc (.cells #[.string ⟨#[]⟩,.slice none 0 0,.int .i64 0,.int .i64 0,.bool false,.int .i64 0,.slice none 0 0,.int .u32 0] 37)):=hHeld.alloc hHeld.size _;have hXs:=hHeld.size;generalize w2.alloc (.cells #[.string ⟨#[]⟩,.slice none 0 0,.int .i64 0,.int .i64 0,.bool false,.int .i64 0,.slice none 0 0,.int .u32 0] 37)=w3 at hX hNew ⊢;generalize w2.heap.size=X at hX hXs ⊢;refine hK.out _ _ hNew (fun _=> ?_);clear hK K hHeld;have hHeld:=hNew;clear hNew;refine wpAnyH_ready (rs:= [2]) (by kernel_rfl) (by simp) (AllReadyH.cons rfl (fun K hK=> ?_) AllReadyH.nil);go_simp
       refine(Aa HO4 _ hHeld).mono ?_;rintro e wN ⟨rfl,hwN⟩;obtain rfl:w3=wN:=hwN.symm;dsimp only;refine hK.out _ _ hHeld (fun _=> ?_);clear hK K;refine wpAnyH_ready (rs:= [5]) (by kernel_rfl) (by simp) (AllReadyH.cons rfl (fun K hK=> ?_) AllReadyH.nil);go_simp
       refine(Aa HO5 _ hHeld).mono ?_;rintro e wN ⟨rfl,hwN⟩;obtain rfl:w3=wN:=hwN.symm;dsimp only;refine hK.out _ _ hHeld (fun _=> ?_);clear hK K;refine wpAnyH_take (i:=6) (v:=.int .u32 (CR:Int)) rfl (by kernel_rfl) (by kernel_rfl) (by kernel_rfl) (fun _ _ _ h=>h) (Or.inl ⟨by rfl,fun W hS=>by go_simp⟩) hHeld ?_;simp only[Act.put,VA,VC,VD];refine wpAnyH_take (i:=7) (v:=.agg #[.string ⟨#[]⟩,.slice none 0 0,.int .i64 0,.int .i64 0,.bool false,.int .i64 (M:Int),.slice none 0 0,.int .u32 (CR:Int)]) rfl (by kernel_rfl) (by kernel_rfl) (by kernel_rfl) (fun _ _ _ h=>h) (Or.inl ⟨by rfl,fun W hS=>by go_simp⟩) hHeld ?_;simp only[Act.put,VA,VC,VD];refine wpAnyH_ready (rs:= [9]) (by kernel_rfl) (by simp) (AllReadyH.cons rfl (fun K hK=> ?_) AllReadyH.nil);rw[if_pos (by rfl)];refine wp_store_row 37 (.tmp 14) (.tmp 100) rfl X #[.string ⟨#[]⟩,.slice none 0 0,.int .i64 0,.int .i64 0,.bool false,.int .i64 (M:Int),.slice none 0 0,.int .u32 (CR:Int)] rfl rfl 37 _ hX (by kernel_rfl) rfl (by simp[Value.oneCell']) ?_;have hX2:(w3.setRow X #[.string ⟨#[]⟩,.slice none 0 0,.int .i64 0,.int .i64 0,.bool false,.int .i64 (M:Int),.slice none 0 0,.int .u32 (CR:Int)]).heap[X]? =some (.cells #[.string ⟨#[]⟩,.slice none 0 0,.int .i64 0,.int .i64 0,.bool false,.int .i64 (M:Int),.slice none 0 0,.int .u32 (CR:Int)] 37 (0,0)):=setRow_heap _ _ _ _ _ _ hX;have hN2:=Yv hHeld hXs (#[.string ⟨#[]⟩,.slice none 0 0,.int .i64 0,.int .i64 0,.bool false,.int .i64 (M:Int),.slice none 0 0,.int .u32 (CR:Int)]:Array Value);refine hK.out _ _ hN2 (fun _=> ?_);clear hK K;refine wpAnyH_done (by kernel_rfl) ?_ _;go_wp2_with fail
       go_meet
       exact⟨X,rfl,Ab ⟨hX2,hXs,hN2⟩⟩
    case rest=>
     rename World=>wq
     obtain⟨X,rfl,hX⟩:=hcut;obtain⟨hX1,hX2,hX3⟩:=Aa hX;obtain⟨nml,hnml⟩:∃nml,(r.drop 46).take LG=nml:=⟨_,rfl⟩
     obtain⟨nm,hnm⟩:∃nm,B (o8 nml)=nm:=⟨_,rfl⟩
     obtain⟨xs,hxs⟩:∃xs,(r.drop (46+LG)).take 11=xs:=⟨_,rfl⟩
     have hxl:xs.length=11:=by rw[<-hxs,VL,VQ];omega
     have hnl:nml.length=LG:=by rw[<-hnml,VL,VQ];omega
     have hxv:∀x∈xs,x<256:=fun x hx=>Aa HRV x (by rw[<-hxs]at hx;exact VW (VR hx))
     have hXB:∀i,i<xs.length->wr.cell? ⟨g,o+p+(46+LG)+i,none⟩=some (.int .u8 ((xs.getD i 0:Nat):Int)):=by
      intro i hi
      have e2:xs.getD i 0=r.getD (46+LG+i) 0:=by
       rw[<-hxs];simp only[List.getD];rw[XX (by omega),XJ]
      rw[e2,WT];exact Aa HRB (46+LG+i) (by rw[hrl2];omega)
     have HCV:Hid (∀W,Below wr.heap.size wr W->(convert 23 9 (.slice (some ⟨g,o+p+46,none⟩) LG (cap-p-46))).run Tryz.prog W=.ok (.string nm) W):=Ab (fun W hW=>by
      have h1:BytesIn wr (some ⟨g,o+p+46,none⟩) nml:=by rw[<-hnml];exact Sk hgr (Aa HRB) 46 LG
      have h2:=Z7 (some ⟨g,o+p+46,none⟩) LG (cap-p-46) nml W hnl (h1.below hW (VB _));rw[h2,<-hnm];rfl)
     obtain⟨xb,hxb⟩:∃xb,xs.getD 10 0=xb:=⟨_,rfl⟩
     have HCX:Hid (∀W,Below wr.heap.size wr W->W.cell? ⟨g,o+p+(46+LG)+10,none⟩=some (.int .u8 (xb:Int))):=Ab (fun W hW=>by
      rw[hW.cell (p:=⟨g,_,none⟩) hgr,<-hxb];exact hXB 10 (by omega))
     have HO6:=Ab (Cw hgr hXB hxv 4 8 4 (cap-p-(46+LG)-4) rfl (by omega) (by omega) (by omega));have HO7:=Ab (Cw hgr hXB hxv 8 10 2 (cap-p-(46+LG)-8) rfl (by omega) (by omega) (by omega));obtain⟨ST,hST⟩:∃ST,Dh xs 4 8=ST:=⟨_,rfl⟩
     obtain⟨ND,hND⟩:∃ND,Dh xs 8 10=ND:=⟨_,rfl⟩
     have hST2:ST<4294967296:=by rw[<-hST];exact Dm hxv rfl
     have hND2:ND<65536:=by rw[<-hND];exact Dm hxv rfl
     rw[hST]at HO6;rw[hND]at HO7;obtain⟨gn,hgn⟩:∃gn,((xb:Int)==1)=gn:=⟨_,rfl⟩
     have hs18:=Gq g (o+p) m (cap-p) 46 (46+LG) 46 (46+(LG:Int)) LG rfl (by omega) (by omega) (by omega) (by omega) (by omega) (by omega);have hx1:=Gq g (o+p+(46+LG)) 11 (cap-p-(46+LG)) 4 8 4 8 4 rfl rfl (by omega) (by omega) (by omega) (by omega) rfl;have hx2:=Gq g (o+p+(46+LG)) 11 (cap-p-(46+LG)) 8 10 8 10 2 rfl rfl (by omega) (by omega) (by omega) (by omega) rfl;obtain⟨ys0,hys0⟩:∃pk,(bs.drop (PL+30+LG+11)).take PK=pk:=⟨_,rfl⟩
     have HXX:=Ab (show nml.length=LG/\B (o8 nml)=nm/\(r.drop 46).take LG=nml/\Dh xs 4 8=ST/\Dh xs 8 10=ND/\((xb:Int)==1)=gn/\xs.getD 10 0=xb/\(r.drop (46+LG)).take 11=xs from ⟨hnl,hnm,hnml,hST,hND,hgn,hxb,hxs⟩);have hw46:IntKind.i64.wrap (46+(LG:Int))=46+(LG:Int):=by simp[IntKind.wrap,IntKind.signed,IntKind.bits];omega
     have HENT:Hid (JR bs AT r=(unpD M ys0).bind fun ys=>some (⟨⟨o8 nml,o8 ys,((ST:Nat):Int),((ND:Nat):Int),gn⟩,M,ys0,CR⟩,r.drop (46+LG+11))):=Ab (by
      unfold JR;rw[if_neg (by omega),Aa HLG,Aa HPK,Aa HPL,if_neg (by rw[hrl2];exact hbad),Aa HM,hys0,Aa HCR,hxs,hST,hND,hnml,hxb]
      have e:decide (xb=1)=gn:=by
       rw[<-hgn]
       by_cases h1:xb=1
       . rw[h1];rfl
       . rw[decide_eq_false h1];symm;rw[beq_eq_false_iff_ne];omega
      rw[e])
     have hysl:ys0.length=PK:=by rw[<-hys0,VL,VQ,Aa HL];omega
     have HYV:Hid (∀x∈ys0,x<256):=Ab (fun x hx=>Aa HV x (by rw[<-hys0]at hx;exact VW (VR hx)))
     have HYB:Hid (∀W,Below wr.heap.size wr W->BytesIn W (some ⟨g,o+(PL+30+LG+11),none⟩) ys0):=Ab (fun W hW=>by
      rw[<-hys0];exact Sk (VG hgr hW.size) (fun i hi=>(hW.cell (p:=⟨g,_,none⟩) hgr).trans (((Aa hBw).cell (p:=⟨g,_,none⟩) hg).trans (Aa HB i hi))) _ _)
     have HYL:=Ab hysl;clear hnml hxs hxl hnl hxv hXB hxb hST hND hX hnm hys0 hysl;go_upto_region 18 with fail
     go_cut [14] (fun v14 wz=>v14=.pointer (some ⟨X,0,none⟩)/\Hid (wz.heap[X]? =some (.cells #[.string nm,.slice none 0 0,.int .i64 (ST:Int),.int .i64 (ND:Int),.bool gn,.int .i64 (M:Int),.slice none 0 0,.int .u32 (CR:Int)] 37 (0,0))/\Below wr.heap.size wr wz))
     case first=>
      refine wp_region_held_drew (S:=fun W=>Below wr.heap.size wr W) (by kernel_rfl) (Ae hX3 1) (fun hHeld=> ?_);have hX4:wq.drew.heap[X]? =some (.cells #[.string ⟨#[]⟩,.slice none 0 0,.int .i64 0,.int .i64 0,.bool false,.int .i64 (M:Int),.slice none 0 0,.int .u32 (CR:Int)] 37 (0,0)):=hX1;generalize wq.drew=w2 at hHeld hX4 ⊢;refine wpAnyH_take (i:=0) (v:=.slice (some ⟨g,o+p,none⟩) m (cap-p)) rfl (by kernel_rfl) (by kernel_rfl) (by kernel_rfl) (fun _ _ _ h=>h) (Or.inl ⟨by rfl,fun W hS=>by go_simp⟩) hHeld ?_;simp only[Act.put,VA,VC,VD];refine wpAnyH_take (i:=1) (v:=.int .i64 (LG:Int)) rfl (by kernel_rfl) (by kernel_rfl) (by kernel_rfl) (fun _ _ _ h=>h) (Or.inl ⟨by rfl,fun W hS=>by go_simp⟩) hHeld ?_;simp only[Act.put,VA,VC,VD];refine wpAnyH_take (i:=2) (v:=.int .i64 (46+(LG:Int))) rfl (by kernel_rfl) (by kernel_rfl) (by kernel_rfl) (fun _ _ _ h=>h) (Or.inl ⟨by rfl,fun W hS=>by go_simp⟩) hHeld ?_;simp only[Act.put,VA,VC,VD];refine wpAnyH_take (i:=3) (v:=.slice (some ⟨g,o+p+46,none⟩) LG (cap-p-46)) rfl (by kernel_rfl) (by kernel_rfl) (by kernel_rfl) (fun _ _ _ h=>h) (Or.inl ⟨by rfl,fun W hS=>by go_simp⟩) hHeld ?_;simp only[Act.put,VA,VC,VD];refine wpAnyH_take (i:=4) (v:=.string nm) rfl (by kernel_rfl) (by kernel_rfl) (by kernel_rfl) (fun _ _ _ h=>h) (Or.inl ⟨by rfl,fun W hS=>by have hcv:=Aa HCV W hS;go_simp⟩) hHeld ?_;simp only[Act.put,VA,VC,VD];refine wpAnyH_take (i:=5) (v:=.slice (some ⟨g,o+p+(46+LG),none⟩) 11 (cap-p-(46+LG))) rfl (by kernel_rfl) (by kernel_rfl) (by kernel_rfl) (fun _ _ _ h=>h) (Or.inl ⟨by rfl,fun W hS=>by go_simp⟩) hHeld ?_;simp only[Act.put,VA,VC,VD];refine wpAnyH_take (i:=6) (v:=.slice (some ⟨g,o+p+(46+LG)+4,none⟩) 4 (cap-p-(46+LG)-4)) rfl (by kernel_rfl) (by kernel_rfl) (by kernel_rfl) (fun _ _ _ h=>h) (Or.inl ⟨by rfl,fun W hS=>by go_simp⟩) hHeld ?_;simp only[Act.put,VA,VC,VD];refine wpAnyH_take (i:=8) (v:=.slice (some ⟨g,o+p+(46+LG),none⟩) 11 (cap-p-(46+LG))) rfl (by kernel_rfl) (by kernel_rfl) (by kernel_rfl) (fun _ _ _ h=>h) (Or.inl ⟨by rfl,fun W hS=>by go_simp⟩) hHeld ?_;simp only[Act.put,VA,VC,VD];refine wpAnyH_take (i:=9) (v:=.slice (some ⟨g,o+p+(46+LG)+8,none⟩) 2 (cap-p-(46+LG)-8)) rfl (by kernel_rfl) (by kernel_rfl) (by kernel_rfl) (fun _ _ _ h=>h) (Or.inl ⟨by rfl,fun W hS=>by go_simp⟩) hHeld ?_;simp only[Act.put,VA,VC,VD];refine wpAnyH_take (i:=11) (v:=.slice (some ⟨g,o+p+(46+LG),none⟩) 11 (cap-p-(46+LG))) rfl (by kernel_rfl) (by kernel_rfl) (by kernel_rfl) (fun _ _ _ h=>h) (Or.inl ⟨by rfl,fun W hS=>by go_simp⟩) hHeld ?_;simp only[Act.put,VA,VC,VD];refine wpAnyH_take (i:=12) (v:=.pointer (some ⟨g,o+p+(46+LG)+10,none⟩)) rfl (by kernel_rfl) (by kernel_rfl) (by kernel_rfl) (fun _ _ _ h=>h) (Or.inl ⟨by rfl,fun W hS=>by go_simp⟩) hHeld ?_;simp only[Act.put,VA,VC,VD];refine wpAnyH_take (i:=13) (v:=.int .u8 (xb:Int)) rfl (by kernel_rfl) (by kernel_rfl) (by kernel_rfl) (fun _ _ _ h=>h) (Or.inl ⟨by rfl,fun W hS=>by have hcx:=Aa HCX W hS;go_simp⟩) hHeld ?_;simp only[Act.put,VA,VC,VD];refine wpAnyH_take (i:=14) (v:=.bool gn) rfl (by kernel_rfl) (by kernel_rfl) (by kernel_rfl) (fun _ _ _ h=>h) (Or.inl ⟨by rfl,fun W hS=>by go_simp⟩) hHeld ?_
      simp only[Act.put,VA,VC,VD];refine wpAnyH_ready (rs:= [7]) (by kernel_rfl) (by simp) (AllReadyH.cons rfl (fun K hK=> ?_) AllReadyH.nil);go_simp
      refine(Aa HO6 _ hHeld).mono ?_;rintro e wN ⟨rfl,hwN⟩;obtain rfl:w2=wN:=hwN.symm;dsimp only;refine hK.out _ _ hHeld (fun _=> ?_);clear hK K;refine wpAnyH_ready (rs:= [10]) (by kernel_rfl) (by simp) (AllReadyH.cons rfl (fun K hK=> ?_) AllReadyH.nil);go_simp
      refine(Aa HO7 _ hHeld).mono ?_;rintro e wN ⟨rfl,hwN⟩;obtain rfl:w2=wN:=hwN.symm;dsimp only;refine hK.out _ _ hHeld (fun _=> ?_);clear hK K;refine wpAnyH_take (i:=15) (v:=.agg #[.string nm,.slice none 0 0,.int .i64 (ST:Int),.int .i64 (ND:Int),.bool gn]) rfl (by kernel_rfl) (by kernel_rfl) (by kernel_rfl) (fun _ _ _ h=>h) (Or.inl ⟨by rfl,fun W hS=>by go_simp⟩) hHeld ?_;simp only[Act.put,VA,VC,VD];refine wpAnyH_ready (rs:= [16]) (by kernel_rfl) (by simp) (AllReadyH.cons rfl (fun K hK=> ?_) AllReadyH.nil);go_simp
      refine hK.out _ _ hHeld (fun _=> ?_);clear hK K;refine wpAnyH_ready (rs:= [17]) (by kernel_rfl) (by simp) (AllReadyH.cons rfl (fun K hK=> ?_) AllReadyH.nil);rw[if_pos (by rfl)];refine wp_store_mid 30 (.tmp 117) (.tmp 116) rfl X 0 #[.string nm,.slice none 0 0,.int .i64 (ST:Int),.int .i64 (ND:Int),.bool gn] rfl rfl (RF hX4) (by kernel_rfl) (by kernel_rfl) ?_;obtain⟨hY1,hY2⟩:=Z8t w2 X 37 _ _ _ _ _ _ _ _ (.string nm) (.slice none 0 0) (.int .i64 (ST:Int)) (.int .i64 (ND:Int)) (.bool gn) hX4;have hN2:=hHeld.grown hY2 hHeld.size (fun g e=>by cases e;exact hX2);refine hK.out _ _ hN2 (fun _=> ?_);clear hK K;refine wpAnyH_done (by kernel_rfl) ?_ _;go_wp2_with fail
      go_meet
      exact⟨rfl,Ab ⟨hY1,hN2⟩⟩
     case rest=>
      rename World=>wz
      obtain⟨rfl,hZ⟩:=hcut;obtain⟨hZ1,hZ2⟩:=Aa hZ;obtain⟨FR,hFR⟩:∃FR,PL+30+LG+11=FR:=⟨_,rfl⟩
      have hs20:=Gq g o n cap FR (FR+PK) ((PL:Int)+30+(LG:Int)+11) ((PL:Int)+30+(LG:Int)+11+(PK:Int)) PK (by omega) (by omega) (by omega) (by omega) hc (by omega) (by omega);obtain⟨CF,hCF⟩:∃CF,cap-FR=CF:=⟨_,rfl⟩
      have hCF2:PK<=CF:=by omega
      rw[hCF]at hs20;clear hCF;have c6:=Ac (i:=6) hZ1;simp only[VZ,VY,WI]at c6;have f6:=frozen_of_row wz X 6 _ _ hZ1;obtain⟨w6,hw6⟩:∃w6,wz.setCell ⟨X,6,none⟩ (.slice (some ⟨g,o+FR,none⟩) PK CF)=w6:=⟨_,rfl⟩
      have hV1:w6.heap[X]? =some (.cells (#[.string nm,.slice none 0 0,.int .i64 (ST:Int),.int .i64 (ND:Int),.bool gn,.int .i64 (M:Int),.slice (some ⟨g,o+FR,none⟩) PK CF,.int .u32 (CR:Int)]) 37 (0,0)):=by
       rw[<-hw6,heap_setCell_same wz X 6 _ _ _ hZ1];rfl
      have hV2:Below wr.heap.size wr w6:=by rw[<-hw6];exact hZ2.grown (Ad wz X 6 _) hZ2.size (fun g e=>by cases e;exact hX2)
      have HW6:=Ab hw6;clear hw6;clear hX1 hX3 hZ HO4 HO5 HO6 HO7 HCV HCX hs18 hx1 hx2 hl4 hl5 hs16 hw46 hwC hZ2 hgn;rw[hFR]at HYB;have HV1:=Ab hV1;have HV2:=Ab hV2;have k5:=Ac (i:=5) hV1;have k6:=Ac (i:=6) hV1;have k1:=Ac (i:=1) hV1;simp only[VZ,VY,WI]at k5 k6 k1;have fr:=fun j=>frozen_of_row w6 X j _ _ hV1
      have f1:=fr 1;clear hV1 hV2 fr;go_upto_region 21 with fail
      rw[Aa HW6];clear c6 f6 hs20 hZ1 HW6;go_upto_block 2 with fail
      go_cut [16,17,18,19] (fun _ _ _ _ wy=>∃ys fa fc,Hid (unpD M ys0=some ys/\wy.heap[X]? =some (.cells (#[.string nm,.slice fa ys.length fc,.int .i64 (ST:Int),.int .i64 (ND:Int),.bool gn,.int .i64 (M:Int),.slice (some ⟨g,o+FR,none⟩) PK CF,.int .u32 (CR:Int)]) 37 (0,0))/\Below wr.heap.size wr wy/\PkIn wy fa fc ys/\ys.length<=fc/\∀g' o',fa=some ⟨g',o',none⟩->g'<w.heap.size\/wr.heap.size<=g'))
      case first=>
       by_cases m0:M=0
       . subst m0
         have HFN:Hid (∀W,w6.setCell ⟨X,1,none⟩ (.slice (some ⟨g,o+FR,none⟩) PK CF)=W->∃ys fa fc,Hid (unpD 0 ys0=some ys/\W.heap[X]? =some (.cells (#[.string nm,.slice fa ys.length fc,.int .i64 (ST:Int),.int .i64 (ND:Int),.bool gn,.int .i64 ((0:Nat):Int),.slice (some ⟨g,o+FR,none⟩) PK CF,.int .u32 (CR:Int)]) 37 (0,0))/\Below wr.heap.size wr W/\PkIn W fa fc ys/\ys.length<=fc/\∀g' o',fa=some ⟨g',o',none⟩->g'<w.heap.size\/wr.heap.size<=g')):=Ab (by
          intro W hW;have hBe:Below wr.heap.size wr W:=by rw[<-hW];exact(Aa HV2).grown (Ad w6 X 1 _) (Aa HV2).size (fun g e=>by cases e;exact hX2)
          refine⟨ys0,some ⟨g,o+FR,none⟩,CF,Ab ⟨by unfold unpD;rw[if_pos rfl], ?_,hBe,⟨Aa HYB W hBe,fun e=>by cases e⟩,by rw[Aa HYL];exact hCF2,fun g' o' e=>.inl (by cases e;exact hg)⟩⟩;rw[<-hW,heap_setCell_same w6 X 1 _ _ _ (Aa HV1),Aa HYL];rfl)
         replace k5:w6.cell? ⟨X,5,none⟩=some (.int .i64 0):=k5;clear HENT HNO HNR HEQ HEN HU HG;go_wp2;go_meet
         exact Aa HFN _ rfl
       have hM0:((M:Int)==0)=false:=by rw[beq_eq_false_iff_ne];omega
       by_cases m8:M=8
       . subst m8;clear hM0;replace k5:w6.cell? ⟨X,5,none⟩=some (.int .i64 8):=k5;have hPK12:PK<=12000:=by omega
         have HGD:Hid (Gd\/ (Oh (rowB ys0 PK)).e=0):=Ab (by
          rcases Aa HG with h1|h1
          . exact .inl h1
          . refine .inr ?_
            by_cases h2:(Oh (rowB ys0 PK)).e=0
            . exact h2
            . exfalso
              apply h1
              rw[Aa HEQ,Aa HENT]
              have:unpD 8 ys0=none:=by
               unfold unpD;rw[if_neg (by decide),if_pos rfl,Aa HYL,if_neg (fun h3=>h2 h3.1)]
              rw[this];rfl)
         have HUN:Hid (unpD 8 ys0=if (Oh (rowB ys0 PK)).e=0/\((Oh (rowB ys0 PK)).p+7)/8=PK/\PK<=6000 then some (Oh (rowB ys0 PK)).out else none):=Ab (by
          unfold unpD;rw[if_neg (by decide),if_pos rfl,Aa HYL])
         have HCU:=Ab (Aa HU w6 (some ⟨g,o+FR,none⟩) PK CF ys0 (Aa HYL) hPK12 (Aa HYB w6 (Aa HV2)) (Aa HYV) (Aa HGD));have HBW6:Hid (∀W,Below w6.heap.size w6 W->Below w.heap.size w W):=Ab (fun W hW=>(Aa hBw).trans (((Aa HV2).trans (hW.mono (Aa HV2).size)).mono (Aa hBw).size));have HXL:Hid (X<w6.heap.size):=Ab (VK.1 (Aa HV1)).1;clear HU HG HGD HEQ HEN HNO;go_wp2_with fail
         refine(Aa HCU).mono ?_;rintro e w7 ⟨hB7,h7⟩;have hV7:=(hB7.block X (Aa HXL)).trans (Aa HV1);have q6:=Ac (i:=6) hV7;have q1:=Ac (i:=1) hV7;simp only[VZ,VY,WI]at q6 q1;have f71:=frozen_of_row w7 X 1 _ _ hV7
         rcases h7 with ⟨he,ov,oc,kv,rfl,hp,hnew⟩|⟨he,rfl⟩
         . generalize Oh (rowB ys0 PK)=U at*;obtain⟨UP,hUP⟩:∃UP,(U.p+7)/8=UP:=⟨_,rfl⟩
           obtain⟨UL,hUL⟩:∃UL,U.out.length=UL:=⟨_,rfl⟩
           rw[hUL]at hp;rw[hUP,hUL];have HHP:=Ab hp;have HNE:=Ab hnew;have HUP:=Ab hUP;have HUL:=Ab hUL;have HV7:=Ab hV7;have HB7:=Ab hB7;clear hp hnew hUP hUL hV7 hB7 HCU
           by_cases hbad2:UP≠PK\/6000<PK
           . have HF:=Ab (Aa HNR (by rw[Aa HENT,Aa HUN,if_neg (by rw[Aa HUP];omega)];rfl) w7 (Aa HBW6 w7 (Aa HB7)));clear HNR HENT HUN HHP HNE HV7
             by_cases hu1:UP≠PK
             . have hI3:((UP:Int)!=(PK:Int))=true:=by simp only[bne_iff_ne,ne_eq];omega
               go_wp2;go_ret2;exact Aa HF
             . have hI3:((UP:Int)!=(PK:Int))=false:=by simp only[bne_eq_false_iff_eq];omega
               have hI4:(6000:Int)<(PK:Int):=by omega
               go_wp2;go_ret2;exact Aa HF
           . have hI3:((UP:Int)!=(PK:Int))=false:=by simp only[bne_eq_false_iff_eq];omega
             have hI4:¬(6000:Int)<(PK:Int):=by omega
             have HFN:Hid (∀W,w7.setCell ⟨X,1,none⟩ (.slice ov UL oc)=W->∃ys fa fc,Hid (unpD 8 ys0=some ys/\W.heap[X]? =some (.cells (#[.string nm,.slice fa ys.length fc,.int .i64 (ST:Int),.int .i64 (ND:Int),.bool gn,.int .i64 ((8:Nat):Int),.slice (some ⟨g,o+FR,none⟩) PK CF,.int .u32 (CR:Int)]) 37 (0,0))/\Below wr.heap.size wr W/\PkIn W fa fc ys/\ys.length<=fc/\∀g' o',fa=some ⟨g',o',none⟩->g'<w.heap.size\/wr.heap.size<=g')):=Ab (by
              intro W hW;have hB7r:Below wr.heap.size wr w7:=(Aa HV2).trans ((Aa HB7).mono (Aa HV2).size);have hBe:Below wr.heap.size wr W:=by rw[<-hW];exact hB7r.grown (Ad w7 X 1 _) hB7r.size (fun g e=>by cases e;exact hX2)
              obtain⟨oa,oc',e1,hle,hpk⟩:=Aa HHP;rw[Aa HUL]at e1 hle
              cases e1
              have hs6:=(Aa HV2).size;refine⟨U.out,ov,oc,Ab ⟨by rw[Aa HUN,if_pos ⟨he,by rw[Aa HUP];omega,by omega⟩], ?_,hBe, ?_,by rw[Aa HUL];exact hle,fun g' o' e=>.inr (by have:=Aa HNE g' o' e;omega)⟩⟩
              . rw[<-hW,heap_setCell_same w7 X 1 _ _ _ (Aa HV7),Aa HUL];rfl
              . rw[<-hW];refine hpk.grown (Ad w7 X 1 _) (fun g' o' e hne e2=> ?_);have h5:=Aa HNE g' o' e;have h6:=Aa HXL
                cases e2
                omega)
             clear HNR HENT HUN HHP HNE HV7 HB7;go_wp2;go_meet
             exact Aa HFN _ rfl
         . have HF:=Ab (Aa HNR (by rw[Aa HENT,Aa HUN,if_neg (fun h3=>he h3.1)];rfl) w7 (Aa HBW6 w7 hB7));have hne:((Oh (rowB ys0 PK)).e !=0)=true:=by simp only[bne_iff_ne,ne_eq];exact he
           clear HNR HENT HUN HCU hB7 hV7;generalize (Oh (rowB ys0 PK)).e=ue at*;go_wp2;go_ret2;exact Aa HF
       . have hM8:((M:Int)==8)=false:=by rw[beq_eq_false_iff_ne];omega
         have HF:=Ab (Aa HNR (by rw[Aa HENT,show unpD M ys0=none by unfold unpD;rw[if_neg m0,if_neg m8]];rfl) w6 ((Aa hBw).trans ((Aa HV2).mono (Aa hBw).size)));clear HNO HNR HEQ HEN HU HG HENT;go_wp2;go_ret2;exact Aa HF
      case rest=>
       rename World=>wy
       obtain⟨ys,fa,fc,hY⟩:=hcut;obtain⟨hy1,hy2,hy3,hy4,hy5,hy6⟩:=Aa hY;obtain⟨xnl,xnm,xnml,xST,xND,xgn,xxb,xxs⟩:=Aa HXX;have hyv:∀x∈ys,x<256:=Wt (Aa HYV) (by rw[<-Le];exact hy1);have hyl:ys.length<=12000:=BC (by rw[Aa HYL];omega) hy1;obtain⟨y,hyD⟩:∃y:Ev,y=⟨⟨⟨o8 nml,o8 ys,((ST:Nat):Int),((ND:Nat):Int),gn⟩,M,ys0,CR⟩,fa,fc,some ⟨g,o+FR,none⟩,CF⟩:=⟨_,rfl⟩
       obtain⟨YL,hYL⟩:∃YL,ys.length=YL:=⟨_,rfl⟩
       have hrc:y.rcells= [.string nm,.slice fa YL fc,.int .i64 (ST:Int),.int .i64 (ND:Int),.bool gn,.int .i64 (M:Int),.slice (some ⟨g,o+FR,none⟩) PK CF,.int .u32 (CR:Int)]:=by
        rw[hyD];simp only[Ev.rcells,Ey,hYL,Aa HYL,xnm]
       have hEV:EvR wy y:=by
        rw[hyD];refine⟨⟨?_,by simp only[Ey];exact hy5,by simp only[Ey];omega,by simp only[Ey];omega,Aa HYB wy hy3,fun e=>by cases e⟩,by simp only[];rw[Aa HYL];exact hCF2⟩;simp only[];rw[Z0w hyv];exact hy4
       have hLI:y.lies (fun b=>some b≠u9.ownBlock):=by
        rw[hyD]
        constructor
        . intro b o' e1 e2 e3;have h5:=(Aa hR).own.lt b e3.symm;have h6:=hy6 b o' e1;omega
        . intro b o' e1 e2 e3;have h5:=(Aa hR).own.lt b e3.symm
          cases e1
          omega
       have hEW:EWd y.e/\∀z∈y.e.pk,z<256:=by
        rw[hyD];exact⟨⟨⟨by simp only[];omega,by simp only[];omega⟩,⟨by simp only[];omega,by simp only[];omega⟩,by simp only[Ey];omega,by simp only[Ey];omega,by simp only[];rw[Aa HYL];omega,hCR2,hM2⟩,Aa HYV⟩
       have hye:y.e=⟨⟨o8 nml,o8 ys,((ST:Nat):Int),((ND:Nat):Int),gn⟩,M,ys0,CR⟩:=by rw[hyD]
       have HNX:Hid (Tt bs=(Np bs AT (N-(k+1)) ((bs.drop (p+(46+LG+11))).take (m-(46+LG+11)))).map ((es++ [y]).map Ev.e++ ·)):=Ab (by
        rw[Aa HEQ,Aa HENT,hy1,VF,VF,<-Aa HR,Tu bs p m _ (by omega),show N-(k+1)=j by have:=Aa HJ;omega,Option.map_map,hye.symm]
        congr 1
        funext l
        simp)
       have z0:=Ac (i:=0) hy2;have z1:=Ac (i:=1) hy2;have z2:=Ac (i:=2) hy2;have z3:=Ac (i:=3) hy2;have z4:=Ac (i:=4) hy2;have z5:=Ac (i:=5) hy2;have z6:=Ac (i:=6) hy2;have z7:=Ac (i:=7) hy2;simp only[VZ,VY,WI]at z0 z1 z2 z3 z4 z5 z6 z7;rw[hYL]at z1;have hBy:Below w.heap.size w wy:=(Aa hBw).trans (hy3.mono (Aa hBw).size);have hRy:RRow wy w.heap.size u9 es:=(Aa hR).below hy3;have HR3:=Ab (fun o1:Obj=>hRy.below ((Below.refl wy.heap.size wy).alloc (VB _) o1));have HYI:=Ab (fun o1:Obj=>hEV.below ((Below.refl wy.heap.size wy).alloc (VB _) o1));have HYLI:=Ab hLI
       have HCE:Hid (∀o1,o1=Obj.cells #[.string nm,.slice fa YL fc,.int .i64 (ST:Int),.int .i64 (ND:Int),.bool gn,.int .i64 (M:Int),.slice (some ⟨g,o+FR,none⟩) PK CF,.int .u32 (CR:Int)] 37->∀j u,y.rcells[j]? =some u->(wy.alloc o1).cell? ⟨wy.heap.size,j,none⟩=some u):=Ab (fun o1 e j u hj=>by
        subst e;rw[Ac (heap_alloc_new wy _)];rw[hrc]at hj;simpa using hj)
       have HEL:Hid (es.length+1<=100000):=Ab (by have:=Aa hel;omega);have HBY:=Ab hBy;have hwz:w.heap.size<=wy.heap.size:=hBy.size;have HEWY:=Ab hEW;have hs31:=Z2h g (o+p) m (cap-p) (46+LG+11) (46+(LG:Int)+11) (m-(46+LG+11)) (by omega) (by omega) (by omega) (by omega) rfl;clear hY hy1 hy2 hy3 hy4 hy5 hy6 hEV hLI hEW hRy hBy hrc hyv hyl hye xnl xnm xnml xST xND xgn xxb xxs HXX HENT HNO HNR HEQ HU HG HYV HYB HV1 HV2 HRB HRV HCR HM HLG HPK HPL HB HV HEN k1 k5 k6 f1 hYL hyD;go_wp2_with (at_builtin;refine Kz _ rfl _ _ rfl w.heap.size _ es rfl (Aa HR3 _) wy.heap.size y rfl (Aa HCE _ rfl) (Aa HYI _) (Aa HYLI) (Aa HEL) (by simp;omega) ?_)
       intro v' w8 hR8 hG8;have HB8:Hid (Below w.heap.size w w8):=Ab (((Aa HBY).alloc (Aa HBY).size _).grown (Aa hG8) (by simp;omega) (fun b e=>((Aa hR).own.lt b e).1));clear HR3 HYI HCE HYLI hG8;go_wp2;go_roundw
       case rel=>
        refine⟨k+1,p+(46+LG+11),m-(46+LG+11),es++ [y],by omega,by go_num,by rw[WT,Nat.sub_sub],Ab (by omega),Ab (by rw[VE,Aa hel];rfl),hR8,HB8,HNX,Ab (fun x hx=> ?_)⟩
        rcases WP.1 hx with hx|hx
        . exact Aa hW x hx
        . rw[WO.1 hx];exact Aa HEWY
       case measure=>simp[intOf];omega
  . obtain rfl:N=k:=by omega
    obtain⟨ad,c9,hu9,hRs⟩:=(Aa hR).entries;rw[Aa hel]at hu9;subst hu9;have HEND2:Hid (Tt bs=some (es.map Ev.e)):=Ab (by rw[Aa hEq,XW,Np];simp);have HLA:=Ab (Z18 ad c9 N es wr hRs (Aa hel) (by omega) (fun x hx=>(Aa hW x hx).1));have HRS:=Ab hRs
    have HAV:Hid (∀j,(Be (es.map Ev.e)).getD j 0<256):=Ab (Er (Yx _ (fun x hx=>by
     obtain⟨z,hz,rfl⟩:=XG.1 hx;exact(Aa hW z hz).2)))
    have HBV:Hid (∀j,bs.getD j 0<256):=Ab (Er (Aa HV));have HBB:Hid (∀W,Below w.heap.size w W->BytesIn W (some ⟨g,o,none⟩) bs):=Ab (fun W hW=>.inr ⟨g,o,rfl,VG hg hW.size,fun j hj=>(hW.cell (p:=⟨g,_,none⟩) hg).trans (Aa HB j hj)⟩);clear hRs HNO HU HG HEN hEq HV HB;go_wp2_with fail
    refine(Aa HLA).mono ?_;rintro e w3 ⟨v3,rfl,hp3,hB3⟩;obtain⟨a3,c3,rfl,hl3,hk3⟩:=hp3;obtain⟨L3,hL3⟩:∃L3,(Be (es.map Ev.e)).length=L3:=⟨_,rfl⟩
    rw[hL3];have hB3w:Below w.heap.size w w3:=(Aa hBw).trans (hB3.mono (Aa hBw).size);have HBQ:=Ab (P4 a3 (some ⟨g,o,none⟩) L3 c3 n cap (Be (es.map Ev.e)) bs w3 hL3 (Aa HL) (Aa HAV) (Aa HBV) hk3.1 (Aa HBB w3 hB3w));have HF:Hid (EnD w bs (.returned (.tuple #[.slice ad N c9,.bool (Be (es.map Ev.e)==bs)])) w3):=Ab ⟨hB3w,.inr ⟨es,ad,c9,Aa HEND2,by rw[Aa hel],(Aa HRS).below hB3⟩⟩;generalize (Be (es.map Ev.e)==bs)=eqB at*;clear hB3 hB3w hl3 hk3 hL3 HLA HAV HBV HBB HRS HEND2 hR hW hBw;go_wp2_with fail
    refine(Aa HBQ).mono ?_;rintro e w4 ⟨rfl,rfl⟩;go_wp2;go_ret2;exact Aa HF
end Go.Proofs.YtleocpdblhbimaaGreatDoor
