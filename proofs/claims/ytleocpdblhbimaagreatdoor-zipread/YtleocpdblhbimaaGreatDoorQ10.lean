import Derived.Test.YtleocpdblhbimaaGreatDoorQ7
import Derived.Test.YtleocpdblhbimaaGreatDoorQ9
import Derived.Deep.RegionHeld3
import Derived.Deep.CutBlock
set_option linter.unusedSimpArgs false
set_option linter.unusedVariables false
set_option maxRecDepth 100000
set_option maxHeartbeats 8000000
namespace Go.Proofs.YtleocpdblhbimaaGreatDoor
open Go.RowKit
def UnA (w:World)(pk:List Nat)(n:Nat)(e:Ending)(w':World):Prop:=Below w.heap.size w w'/\
 (((Oh (rowB pk n)).e=0/\∃ov oc kv,e=.returned (.tuple #[.slice ov (Oh (rowB pk n)).out.length oc,.int .i64 ((((Oh (rowB pk n)).p+7)/8:Nat):Int),kv,.int .i64 0])/\PIn w' (.slice ov (Oh (rowB pk n)).out.length oc) (Oh (rowB pk n)).out/\∀g o,ov=some ⟨g,o,none⟩->w.heap.size<=g)\/
  ((Oh (rowB pk n)).e≠0/\e=.returned (.tuple #[.slice none 0 0,.int .i64 0,.slice none 0 0,.int .i64 (Oh (rowB pk n)).e])))
def UnC (Gd:Prop):Prop:=∀(W:World) (a:Option Addr) (n c:Nat) (pk:List Nat),pk.length=n->n<=12000->BytesIn W a pk->(∀x∈pk,x<256)->(Gd\/ (Oh (rowB pk n)).e=0)->
 Calls Tryz.prog 39 #[.slice a n c] W fun e w'=>UnA W pk n e w'
def EnD (w:World)(bs:List Nat)(e:Ending)(w':World):Prop:=Below w.heap.size w w'/\
 ((Tt bs=none/\e=.returned (.tuple #[.slice none 0 0,.bool false]))\/
  ∃es ad c,Tt bs=some (es.map Ev.e)/\e=.returned (.tuple #[.slice ad es.length c,.bool (Be (es.map Ev.e)==bs)])/\RsIn w' ad es)
theorem RsIn.below {w w':World}{G:Option Addr}{xs:List Ev}(E:RsIn w G xs)(F:Below w.heap.size w w'):RsIn w' G xs:=by
 refine⟨?_,fun x H=>⟨(E.all x H).1.below F,(E.all x H).2⟩⟩
 rcases E.at_ with M|⟨b,o,e,hb,I⟩
 . exact .inl M
 . exact .inr ⟨b,o,e,VG hb F.size,fun j x O i hi=>(World.cell?_of_block (w:=w) (a:=⟨b,_,none⟩) (F.block b hb)).trans (I j x O i hi)⟩
theorem BC {m:Nat}{pk ys:List Nat}(F:pk.length<=12000)(E:unpD m pk=some ys):ys.length<=12000:=by
 rw[Le]at E;unfold unpF at E
 split at E
 . cases E;exact F
 . split at E
   . split at E
     . rename_i c
       cases E
       have:=(Rn (rowB pk pk.length) pk.length (Af _ _) c.2.1).2.2.1
       omega
     . cases E
   . cases E
theorem Z4 (a:Option Addr)(n G:Nat)(bs:List Nat)(w:World)(de:bs.length=n)(lm:n<=12000)(fe:n<=G)(d6:PkIn w a G bs)(dr:∀x∈bs,x<256)(e6:Prop)(ep:e6\/Tt bs≠none)(d5:UnC e6):
 Calls Tryz.prog 10 #[.slice a n G] w fun e w'=>EnD w bs e w':=by
 have ax:Hid (Tt bs=none->∀W,Below w.heap.size w W->EnD w bs (.returned (.tuple #[.slice none 0 0,.bool false])) W):=Ab (fun h W O=>⟨O,.inl ⟨h,rfl⟩⟩)
 by_cases li:n<22
 . have aa:=Ab (Aa ax (by unfold Tt;rw[if_pos (by omega)]) w (Below.refl _ _));have i6:(n:Int)<22:=by omega
   clear d6 dr de d5 ep ax;go_enter Tryz.func10,Tryz.ntmps10
   go_wp2;go_ret2;exact Aa aa
 have i6:¬(n:Int)<22:=by omega
 obtain⟨g,o,rfl,bd,e8⟩:=Dz d6.1 (by omega);obtain⟨q,ju⟩:=exq (n-22);have iq:=Z2h g o n G q ((n:Int)-22) 22 (by omega) (by omega) fe (by omega) (by omega);have kt:IntKind.i64.wrap ((n:Int)-22)=(n:Int)-22:=by simp[IntKind.wrap,IntKind.signed,IntKind.bits];omega
 have c5:∀j,j<(bs.drop q).length->w.cell? ⟨g,o+q+j,none⟩=some (.int .u8 (((bs.drop q).getD j 0:Nat):Int)):=by
  intro j a2;rw[VQ]at a2;have e:(bs.drop q).getD j 0=bs.getD (q+j) 0:=by simp only[List.getD];rw[XJ]
  rw[e,WT];exact e8 (q+j) (by omega)
 have bo:∀x∈bs.drop q,x<256:=fun x Z=>dr x (VW Z)
 have jv:(bs.drop q).length=22:=by rw[VQ];omega
 have kg:=Gq g (o+q) 22 (G-q) 8 10 8 10 2 rfl rfl (by omega) (by omega) (by omega) (by omega) rfl;have ii:=Gq g (o+q) 22 (G-q) 12 16 12 16 4 rfl rfl (by omega) (by omega) (by omega) (by omega) rfl;have iu:=Gq g (o+q) 22 (G-q) 16 20 16 20 4 rfl rfl (by omega) (by omega) (by omega) (by omega) rfl;have bq:=Ab (Cw bd c5 bo 8 10 2 (G-q-8) rfl (by omega) (by omega) (by omega));have bv:=Ab (Cw bd c5 bo 12 16 4 (G-q-12) rfl (by omega) (by omega) (by omega));have bk:=Ab (Cw bd c5 bo 16 20 4 (G-q-16) rfl (by omega) (by omega) (by omega));obtain⟨N,dj⟩:=exq (Dh (bs.drop q) 8 10);obtain⟨av,dp⟩:=exq (Dh (bs.drop q) 12 16);obtain⟨T,c9⟩:=exq (Dh (bs.drop q) 16 20);have aw:N<65536:=by rw[<-dj];exact Dm bo rfl
 have l5:av<4294967296:=by rw[<-dp];exact Dm bo rfl
 have lg:T<4294967296:=by rw[<-c9];exact Dm bo rfl
 rw[dj]at bq;rw[dp]at bv;rw[c9]at bk;have dm:Hid (Tt bs=if 12<N\/T+av+22≠n then none else Np bs T N ((bs.drop T).take av)):=Ab (by unfold Tt;rw[if_neg (by omega),de,ju,dj,dp,c9]);have bg:=Ab e8;have bf:=Ab dr;have bj:=Ab de;have ba:=Ab d5;have bc:=Ab ep;clear d6 dr de d5 ep c5 bo jv dj dp c9 e8;go_enter Tryz.func10,Tryz.ntmps10
 go_upto_region 4 with fail
 refine wp_region_held_drew (S:=fun W=>Below w.heap.size w W) (by kernel_rfl) (Ae (Below.refl _ _) 1) (fun E=> ?_);refine tkH (i:=0) (v:=.slice (some ⟨g,o+q,none⟩) 22 (G-q)) E ?_;simp only[Act.put,VA,VC,VD];refine tkH (i:=1) (v:=.slice (some ⟨g,o+q+8,none⟩) 2 (G-q-8)) E ?_;simp only[Act.put,VA,VC,VD];refine tkH (i:=3) (v:=.slice (some ⟨g,o+q,none⟩) 22 (G-q)) E ?_;simp only[Act.put,VA,VC,VD];refine tkH (i:=4) (v:=.slice (some ⟨g,o+q+12,none⟩) 4 (G-q-12)) E ?_;simp only[Act.put,VA,VC,VD];refine tkH (i:=6) (v:=.slice (some ⟨g,o+q,none⟩) 22 (G-q)) E ?_;simp only[Act.put,VA,VC,VD];refine tkH (i:=7) (v:=.slice (some ⟨g,o+q+16,none⟩) 4 (G-q-16)) E ?_;simp only[Act.put,VA,VC,VD];refine rdH (i:=2) fun K hK=> ?_
 go_simp
 refine(Aa bq _ E).mono ?_;rintro e w' ⟨rfl,rfl⟩;dsimp only;refine hK.out _ _ E (fun _=> ?_);clear hK K;refine rdH (i:=5) fun K hK=> ?_
 go_simp
 refine(Aa bv _ E).mono ?_;rintro e w' ⟨rfl,rfl⟩;dsimp only;refine hK.out _ _ E (fun _=> ?_);clear hK K;refine rdH (i:=8) fun K hK=> ?_
 go_simp
 refine(Aa bk _ E).mono ?_;rintro e w' ⟨rfl,rfl⟩;dsimp only;refine hK.out _ _ E (fun _=> ?_);clear hK K;refine rdH (i:=9) fun K hK=> ?_
 go_simp
 refine hK.out _ _ E (fun _=> ?_);clear hK K;refine rdH (i:=10) fun K hK=> ?_
 go_simp
 refine hK.out _ _ E (fun _=> ?_);clear hK K;refine rdH (i:=11) fun K hK=> ?_
 go_simp
 refine hK.out _ _ E (fun _=> ?_);clear hK K;refine wpAnyH_done (by kernel_rfl) ?_ _;clear iq kt kg ii iu bq bv bk E;have c6:Below w.heap.size w w.drew:=Ae (Below.refl _ _) 1
 by_cases e4:12<N\/T+av+22≠n
 . have aa:=Ab (Aa ax (by rw[Aa dm,if_pos e4]) w.drew c6);clear ax dm bg bf bj ba bc c6
   by_cases l8:12<N
   . have h7:(12:Int)<(N:Int):=by omega
     go_wp2;go_ret2;exact Aa aa
   . have h7:¬(12:Int)<(N:Int):=by omega
     have jg:((T:Int)+(av:Int)+22 !=(n:Int))=true:=by simp only[bne_iff_ne,ne_eq];omega
     go_wp2;go_ret2;exact Aa aa
 have h7:¬(12:Int)<(N:Int):=by omega
 have kc:T+av+22=n:=by omega
 have jg:((T:Int)+(av:Int)+22 !=(n:Int))=false:=by simp only[bne_eq_false_iff_eq];omega
 have bw:Hid (Tt bs=Np bs T N ((bs.drop T).take av)):=Ab (by rw[Aa dm,if_neg e4]);have lq:=Gq g o n G T (T+av) (T:Int) ((T:Int)+(av:Int)) av rfl (by omega) (by omega) (by omega) fe (by omega) (by omega);have i5:=Ab c6;clear e4 dm c6;go_wp2;go_loopw [8,9,10,11,12,13,14,15,16,17,18,19,55] (fun ja kh _ _ _ _ _ _ _ _ _ _ fi wr=>∃(k p m:Nat) (es:List Ev),k<=N/\fi=.int .i64 (k:Int)/\ja=.slice (some ⟨g,o+p,none⟩) m (G-p)/\Hid (p+m+22=n)/\Hid (es.length=k)/\Hid (RRow wr w.heap.size kh es)/\Hid (Below w.heap.size w wr)/\Hid (Tt bs=(Np bs T (N-k) ((bs.drop p).take m)).map (es.map Ev.e++ ·))/\Hid (∀x∈es,EWd x.e/\∀y∈x.e.pk,y<256)) (fun _ _ _ _ _ _ _ _ _ _ _ _ fi _=>N-(intOf fi).toNat)
 case atStart=>exact⟨0,T,av,[],VH _,rfl,rfl,Ab kc,Ab rfl,Ab (RRow.nil _ _),i5,Ab (by rw[Aa bw];simp),Ab (fun x Z=>by cases Z)⟩
 case round=>
  obtain⟨k,p,m,es,k9,rfl,rfl,kq,cp,bi,ae,ct,O⟩:=hrel
  by_cases k4:k<N
  . have k8:=Aa kq;obtain⟨r,hr⟩:=exq ((bs.drop p).take m);obtain⟨j,a2⟩:∃j,N-k=j+1:=⟨N-k-1,by omega⟩
    have a6:Hid (Tt bs=((JR bs T r).bind fun x=>(Np bs T j x.2).map (x.1:: ·)).map (es.map Ev.e++ ·)):=Ab (by rw[Aa ct,a2,hr,Np]);have f8:r.length=m:=by rw[<-hr,VL,VQ,Aa bj];omega
    have ap:Hid (JR bs T r=none->∀W,Below w.heap.size w W->EnD w bs (.returned (.tuple #[.slice none 0 0,.bool false])) W):=Ab (fun h W O=>Aa ax (by rw[Aa a6,h];rfl) W O);have az:g<wr.heap.size:=VG bd (Aa ae).size
    have b7:∀i,i<r.length->wr.cell? ⟨g,o+p+i,none⟩=some (.int .u8 ((r.getD i 0:Nat):Int)):=by
     intro i hi
     have e2:r.getD i 0=bs.getD (p+i) 0:=by
      rw[<-hr];simp only[List.getD];rw[XX (by omega),XJ]
     rw[e2,(Aa ae).cell (p:=⟨g,_,none⟩) bd,WT];exact Aa bg (p+i) (by rw[Aa bj];omega)
    have a8:∀x∈r,x<256:=fun x Z=>Aa bf x (by rw[<-hr]at Z;exact VW (VR Z))
    by_cases k3:m<46
    . have aa:=Ab (Aa ap (by unfold JR;rw[if_pos (by omega)]) wr (Aa ae));have im:(m:Int)<46:=by omega
      clear ax ap a6 ct bi O bg bf bj ba bc b7 a8 hr ae;go_wp2;go_ret2;exact Aa aa
    have im:¬(m:Int)<46:=by omega
    have js:=Gq g (o+p) m (G-p) 28 30 28 30 2 rfl rfl (by omega) (by omega) (by omega) (by omega) rfl;have ig:=Gq g (o+p) m (G-p) 20 24 20 24 4 rfl rfl (by omega) (by omega) (by omega) (by omega) rfl;have d9:=Gq g (o+p) m (G-p) 42 46 42 46 4 rfl rfl (by omega) (by omega) (by omega) (by omega) rfl;have bq:=Ab (Cw az b7 a8 28 30 2 (G-p-28) rfl (by omega) (by omega) (by omega));have bv:=Ab (Cw az b7 a8 20 24 4 (G-p-20) rfl (by omega) (by omega) (by omega));have bk:=Ab (Cw az b7 a8 42 46 4 (G-p-42) rfl (by omega) (by omega) (by omega));obtain⟨F,dd⟩:=exq (Dh r 28 30);obtain⟨H,du⟩:=exq (Dh r 20 24);obtain⟨bb,db⟩:=exq (Dh r 42 46);have lw:F<65536:=by rw[<-dd];exact Dm a8 rfl
    have lf:H<4294967296:=by rw[<-du];exact Dm a8 rfl
    have k5:bb<4294967296:=by rw[<-db];exact Dm a8 rfl
    rw[dd]at bq;rw[du]at bv;rw[db]at bk;have b0:=Ab b7;have bu:=Ab a8;have df:=Ab dd;have dc:=Ab du;have c7:=Ab db;have hx:=Ab hr;have eg:=Ab f8;have j9:=Ab a2;clear b7 a8 dd du db hr f8 a2 ct;go_upto_region 13 with fail
    refine wp_region_held_drew (S:=fun W=>Below wr.heap.size wr W) (by kernel_rfl) (Ae (Below.refl _ _) 1) (fun E=> ?_);refine tkH (i:=0) (v:=.slice (some ⟨g,o+p,none⟩) m (G-p)) E ?_;simp only[Act.put,VA,VC,VD];refine tkH (i:=1) (v:=.slice (some ⟨g,o+p+28,none⟩) 2 (G-p-28)) E ?_;simp only[Act.put,VA,VC,VD];refine tkH (i:=3) (v:=.slice (some ⟨g,o+p,none⟩) m (G-p)) E ?_;simp only[Act.put,VA,VC,VD];refine tkH (i:=4) (v:=.slice (some ⟨g,o+p+20,none⟩) 4 (G-p-20)) E ?_;simp only[Act.put,VA,VC,VD];refine tkH (i:=6) (v:=.slice (some ⟨g,o+p,none⟩) m (G-p)) E ?_;simp only[Act.put,VA,VC,VD];refine tkH (i:=7) (v:=.slice (some ⟨g,o+p+42,none⟩) 4 (G-p-42)) E ?_;simp only[Act.put,VA,VC,VD];refine rdH (i:=2) fun K hK=> ?_
    go_simp
    refine(Aa bq _ E).mono ?_;rintro e w' ⟨rfl,rfl⟩;dsimp only;refine hK.out _ _ E (fun _=> ?_);clear hK K;refine rdH (i:=5) fun K hK=> ?_
    go_simp
    refine(Aa bv _ E).mono ?_;rintro e w' ⟨rfl,rfl⟩;dsimp only;refine hK.out _ _ E (fun _=> ?_);clear hK K;refine rdH (i:=8) fun K hK=> ?_
    go_simp
    refine(Aa bk _ E).mono ?_;rintro e w' ⟨rfl,rfl⟩;dsimp only;refine hK.out _ _ E (fun _=> ?_);clear hK K;refine rdH (i:=9) fun K hK=> ?_
    go_simp
    refine hK.out _ _ E (fun _=> ?_);clear hK K;refine rdH (i:=10) fun K hK=> ?_
    go_simp
    refine hK.out _ _ E (fun _=> ?_);clear hK K;refine rdH (i:=11) fun K hK=> ?_
    go_simp
    refine hK.out _ _ E (fun _=> ?_);clear hK K;refine wpAnyH_done (by kernel_rfl) ?_ _;clear js ig d9 bq bv bk E;have cm:Below wr.heap.size wr wr.drew:=Ae (Below.refl _ _) 1
    by_cases gu:m<46+F+11\/T<bb+30+F+11+H
    . have aa:=Ab (Aa ap (by unfold JR;rw[if_neg (by rw[Aa eg];omega),Aa df,Aa dc,Aa c7,Aa eg,if_pos gu]) wr.drew ((Aa ae).trans (cm.mono (Aa ae).size)));clear ax ap a6 bi O bg bf bj ba bc b0 bu hx df dc c7 ae cm
      by_cases l9:m<46+F+11
      . have fq:(m:Int)<46+(F:Int)+11:=by omega
        go_wp2;go_ret2;exact Aa aa
      . have fq:¬(m:Int)<46+(F:Int)+11:=by omega
        have ku:(T:Int)<(bb:Int)+30+(F:Int)+11+(H:Int):=by omega
        go_wp2;go_ret2;exact Aa aa
    have fq:¬(m:Int)<46+(F:Int)+11:=by omega
    have ku:¬(T:Int)<(bb:Int)+30+(F:Int)+11+(H:Int):=by omega
    obtain⟨M,ds⟩:=exq (Dh r 10 12);obtain⟨I,dh⟩:=exq (Dh r 16 20);have gg:=Aa eg;have jf:M<65536:=by rw[<-ds];exact Dm (Aa bu) rfl
    have fu:I<4294967296:=by rw[<-dh];exact Dm (Aa bu) rfl
    have dx:=Ab (Cw az (Aa b0) (Aa bu) 10 12 2 (G-p-10) rfl (by omega) (by omega) (by omega));have ce:=Ab (Cw az (Aa b0) (Aa bu) 16 20 4 (G-p-16) rfl (by omega) (by omega) (by omega));rw[ds]at dx;rw[dh]at ce;have ix:IntKind.u32.wrap (I:Int)=(I:Int):=Bh fu;have ki:=Gq g (o+p) m (G-p) (46+F) (46+F+11) (46+(F:Int)) (46+(F:Int)+11) 11 (by omega) (by omega) (by omega) (by omega) (by omega) (by omega) (by omega);have ij:=Gq g (o+p) m (G-p) 10 12 10 12 2 rfl rfl (by omega) (by omega) (by omega) (by omega) rfl;have j5:=Gq g (o+p) m (G-p) 16 20 16 20 4 rfl rfl (by omega) (by omega) (by omega) (by omega) rfl;have hu:=Ab ds;have ha:=Ab dh;clear ds dh;obtain⟨i7,f4⟩:=exq (wr.drew);rw[f4]at cm ⊢;clear f4;have ic:=Ab cm;clear cm;go_upto_region 17 with fail
    go_cut [14] (fun eu ck=>∃X,eu=.pointer (some ⟨X,0,none⟩)/\Hid (ck.heap[X]? =some (.cells #[.string ⟨#[]⟩,.slice none 0 0,.int .i64 0,.int .i64 0,.bool false,.int .i64 (M:Int),.slice none 0 0,.int .u32 (I:Int)] 37 (0,0))/\wr.heap.size<=X/\Below wr.heap.size wr ck))
    case first=>
     refine wp_region_held_drew (S:=fun W=>Below wr.heap.size wr W) (by kernel_rfl) (Ae (Aa ic) 1) (fun E=> ?_);generalize i7.drew=ac at E ⊢;refine tkH (i:=0) (v:=.slice (some ⟨g,o+p,none⟩) m (G-p)) E ?_;simp only[Act.put,VA,VC,VD];refine tkH (i:=1) (v:=.slice (some ⟨g,o+p+10,none⟩) 2 (G-p-10)) E ?_;simp only[Act.put,VA,VC,VD];refine tkH (i:=3) (v:=.slice (some ⟨g,o+p,none⟩) m (G-p)) E ?_;simp only[Act.put,VA,VC,VD];refine tkH (i:=4) (v:=.slice (some ⟨g,o+p+16,none⟩) 4 (G-p-16)) E ?_;simp only[Act.put,VA,VC,VD];refine wpAnyH_ready (rs:= [2,8]) (by kernel_rfl) (by simp) (AllReadyH.cons rfl (fun K hK=> ?_) (AllReadyH.cons rfl (fun K hK=> ?_) AllReadyH.nil))
     . go_simp
       refine(Aa dx _ E).mono ?_;rintro e ar ⟨rfl,au⟩;obtain rfl:ac=ar:=au.symm;dsimp only;refine hK.out _ _ E (fun _=> ?_);clear hK K;refine wpAnyH_ready (rs:= [5,8]) (by kernel_rfl) (by simp) (AllReadyH.cons rfl (fun K hK=> ?_) (AllReadyH.cons rfl (fun K hK=> ?_) AllReadyH.nil))
       . go_simp
         refine(Aa ce _ E).mono ?_;rintro e ar ⟨rfl,au⟩;obtain rfl:ac=ar:=au.symm;dsimp only;refine hK.out _ _ E (fun _=> ?_);clear hK K;refine tkH (i:=6) (v:=.int .u32 (I:Int)) E ?_;simp only[Act.put,VA,VC,VD];refine tkH (i:=7) (v:=.agg #[.string ⟨#[]⟩,.slice none 0 0,.int .i64 0,.int .i64 0,.bool false,.int .i64 (M:Int),.slice none 0 0,.int .u32 (I:Int)]) E ?_;simp only[Act.put,VA,VC,VD];refine rdH (i:=8) fun K hK=> ?_
         go_simp
         have ag:=heap_alloc_new ac (.cells #[.string ⟨#[]⟩,.slice none 0 0,.int .i64 0,.int .i64 0,.bool false,.int .i64 0,.slice none 0 0,.int .u32 0] 37);have al:Below wr.heap.size wr (ac.alloc (.cells #[.string ⟨#[]⟩,.slice none 0 0,.int .i64 0,.int .i64 0,.bool false,.int .i64 0,.slice none 0 0,.int .u32 0] 37)):=E.alloc E.size _;have a1:=E.size;generalize ac.alloc (.cells #[.string ⟨#[]⟩,.slice none 0 0,.int .i64 0,.int .i64 0,.bool false,.int .i64 0,.slice none 0 0,.int .u32 0] 37)=w3 at ag al ⊢;generalize ac.heap.size=X at ag a1 ⊢;refine hK.out _ _ al (fun _=> ?_);clear hK K E;have E:=al;clear al;refine rdH (i:=9) fun K hK=> ?_
         rw[if_pos (by rfl)];refine wp_store_row 37 (.tmp 14) (.tmp 100) rfl X #[.string ⟨#[]⟩,.slice none 0 0,.int .i64 0,.int .i64 0,.bool false,.int .i64 (M:Int),.slice none 0 0,.int .u32 (I:Int)] rfl rfl 37 _ ag (by kernel_rfl) rfl (by simp[Value.oneCell']) ?_;have a3:(w3.setRow X #[.string ⟨#[]⟩,.slice none 0 0,.int .i64 0,.int .i64 0,.bool false,.int .i64 (M:Int),.slice none 0 0,.int .u32 (I:Int)]).heap[X]? =some (.cells #[.string ⟨#[]⟩,.slice none 0 0,.int .i64 0,.int .i64 0,.bool false,.int .i64 (M:Int),.slice none 0 0,.int .u32 (I:Int)] 37 (0,0)):=setRow_heap _ _ _ _ _ _ ag;have aw:=Yv E a1 (#[.string ⟨#[]⟩,.slice none 0 0,.int .i64 0,.int .i64 0,.bool false,.int .i64 (M:Int),.slice none 0 0,.int .u32 (I:Int)]:Array Value);refine hK.out _ _ aw (fun _=> ?_);clear hK K;refine wpAnyH_done (by kernel_rfl) ?_ _;go_wp2_with fail
         go_meet
         exact⟨X,rfl,Ab ⟨a3,a1,aw⟩⟩
       . go_simp
         have ag:=heap_alloc_new ac (.cells #[.string ⟨#[]⟩,.slice none 0 0,.int .i64 0,.int .i64 0,.bool false,.int .i64 0,.slice none 0 0,.int .u32 0] 37);have al:Below wr.heap.size wr (ac.alloc (.cells #[.string ⟨#[]⟩,.slice none 0 0,.int .i64 0,.int .i64 0,.bool false,.int .i64 0,.slice none 0 0,.int .u32 0] 37)):=E.alloc E.size _;have a1:=E.size;generalize ac.alloc (.cells #[.string ⟨#[]⟩,.slice none 0 0,.int .i64 0,.int .i64 0,.bool false,.int .i64 0,.slice none 0 0,.int .u32 0] 37)=w3 at ag al ⊢;generalize ac.heap.size=X at ag a1 ⊢;refine hK.out _ _ al (fun _=> ?_);clear hK K E;have E:=al;clear al;refine rdH (i:=5) fun K hK=> ?_
         go_simp
         refine(Aa ce _ E).mono ?_;rintro e ar ⟨rfl,au⟩;obtain rfl:w3=ar:=au.symm;dsimp only;refine hK.out _ _ E (fun _=> ?_);clear hK K;refine tkH (i:=6) (v:=.int .u32 (I:Int)) E ?_;simp only[Act.put,VA,VC,VD];refine tkH (i:=7) (v:=.agg #[.string ⟨#[]⟩,.slice none 0 0,.int .i64 0,.int .i64 0,.bool false,.int .i64 (M:Int),.slice none 0 0,.int .u32 (I:Int)]) E ?_;simp only[Act.put,VA,VC,VD];refine rdH (i:=9) fun K hK=> ?_
         rw[if_pos (by rfl)];refine wp_store_row 37 (.tmp 14) (.tmp 100) rfl X #[.string ⟨#[]⟩,.slice none 0 0,.int .i64 0,.int .i64 0,.bool false,.int .i64 (M:Int),.slice none 0 0,.int .u32 (I:Int)] rfl rfl 37 _ ag (by kernel_rfl) rfl (by simp[Value.oneCell']) ?_;have a3:(w3.setRow X #[.string ⟨#[]⟩,.slice none 0 0,.int .i64 0,.int .i64 0,.bool false,.int .i64 (M:Int),.slice none 0 0,.int .u32 (I:Int)]).heap[X]? =some (.cells #[.string ⟨#[]⟩,.slice none 0 0,.int .i64 0,.int .i64 0,.bool false,.int .i64 (M:Int),.slice none 0 0,.int .u32 (I:Int)] 37 (0,0)):=setRow_heap _ _ _ _ _ _ ag;have aw:=Yv E a1 (#[.string ⟨#[]⟩,.slice none 0 0,.int .i64 0,.int .i64 0,.bool false,.int .i64 (M:Int),.slice none 0 0,.int .u32 (I:Int)]:Array Value);refine hK.out _ _ aw (fun _=> ?_);clear hK K;refine wpAnyH_done (by kernel_rfl) ?_ _;go_wp2_with fail
         go_meet
         exact⟨X,rfl,Ab ⟨a3,a1,aw⟩⟩
     . go_simp
       have ag:=heap_alloc_new ac (.cells #[.string ⟨#[]⟩,.slice none 0 0,.int .i64 0,.int .i64 0,.bool false,.int .i64 0,.slice none 0 0,.int .u32 0] 37);have al:Below wr.heap.size wr (ac.alloc (.cells #[.string ⟨#[]⟩,.slice none 0 0,.int .i64 0,.int .i64 0,.bool false,.int .i64 0,.slice none 0 0,.int .u32 0] 37)):=E.alloc E.size _;have a1:=E.size;generalize ac.alloc (.cells #[.string ⟨#[]⟩,.slice none 0 0,.int .i64 0,.int .i64 0,.bool false,.int .i64 0,.slice none 0 0,.int .u32 0] 37)=w3 at ag al ⊢;generalize ac.heap.size=X at ag a1 ⊢;refine hK.out _ _ al (fun _=> ?_);clear hK K E;have E:=al;clear al;refine rdH (i:=2) fun K hK=> ?_
       go_simp
       refine(Aa dx _ E).mono ?_;rintro e ar ⟨rfl,au⟩;obtain rfl:w3=ar:=au.symm;dsimp only;refine hK.out _ _ E (fun _=> ?_);clear hK K;refine rdH (i:=5) fun K hK=> ?_
       go_simp
       refine(Aa ce _ E).mono ?_;rintro e ar ⟨rfl,au⟩;obtain rfl:w3=ar:=au.symm;dsimp only;refine hK.out _ _ E (fun _=> ?_);clear hK K;refine tkH (i:=6) (v:=.int .u32 (I:Int)) E ?_;simp only[Act.put,VA,VC,VD];refine tkH (i:=7) (v:=.agg #[.string ⟨#[]⟩,.slice none 0 0,.int .i64 0,.int .i64 0,.bool false,.int .i64 (M:Int),.slice none 0 0,.int .u32 (I:Int)]) E ?_;simp only[Act.put,VA,VC,VD];refine rdH (i:=9) fun K hK=> ?_
       rw[if_pos (by rfl)];refine wp_store_row 37 (.tmp 14) (.tmp 100) rfl X #[.string ⟨#[]⟩,.slice none 0 0,.int .i64 0,.int .i64 0,.bool false,.int .i64 (M:Int),.slice none 0 0,.int .u32 (I:Int)] rfl rfl 37 _ ag (by kernel_rfl) rfl (by simp[Value.oneCell']) ?_;have a3:(w3.setRow X #[.string ⟨#[]⟩,.slice none 0 0,.int .i64 0,.int .i64 0,.bool false,.int .i64 (M:Int),.slice none 0 0,.int .u32 (I:Int)]).heap[X]? =some (.cells #[.string ⟨#[]⟩,.slice none 0 0,.int .i64 0,.int .i64 0,.bool false,.int .i64 (M:Int),.slice none 0 0,.int .u32 (I:Int)] 37 (0,0)):=setRow_heap _ _ _ _ _ _ ag;have aw:=Yv E a1 (#[.string ⟨#[]⟩,.slice none 0 0,.int .i64 0,.int .i64 0,.bool false,.int .i64 (M:Int),.slice none 0 0,.int .u32 (I:Int)]:Array Value);refine hK.out _ _ aw (fun _=> ?_);clear hK K;refine wpAnyH_done (by kernel_rfl) ?_ _;go_wp2_with fail
       go_meet
       exact⟨X,rfl,Ab ⟨a3,a1,aw⟩⟩
    case rest=>
     rename World=>ck
     obtain⟨X,rfl,ag⟩:=hcut;obtain⟨h2,a3,f5⟩:=Aa ag;obtain⟨nml,ci⟩:=exq ((r.drop 46).take F);obtain⟨nm,eh⟩:=exq (B (o8 nml));obtain⟨xs,b5⟩:=exq ((r.drop (46+F)).take 11);have ip:xs.length=11:=by rw[<-b5,VL,VQ];omega
     have fg:nml.length=F:=by rw[<-ci,VL,VQ];omega
     have cj:∀x∈xs,x<256:=fun x Z=>Aa bu x (by rw[<-b5]at Z;exact VW (VR Z))
     have cy:∀i,i<xs.length->wr.cell? ⟨g,o+p+(46+F)+i,none⟩=some (.int .u8 ((xs.getD i 0:Nat):Int)):=by
      intro i hi
      have e2:xs.getD i 0=r.getD (46+F+i) 0:=by
       rw[<-b5];simp only[List.getD];rw[XX (by omega),XJ]
      rw[e2,WT];exact Aa b0 (46+F+i) (by rw[gg];omega)
     have fw:Hid (∀W,Below wr.heap.size wr W->(convert 23 9 (.slice (some ⟨g,o+p+46,none⟩) F (G-p-46))).run Tryz.prog W=.ok (.string nm) W):=Ab (fun W O=>by
      have bh:BytesIn wr (some ⟨g,o+p+46,none⟩) nml:=by rw[<-ci];exact Sk az (Aa b0) 46 F
      have da:=Z7 (some ⟨g,o+p+46,none⟩) F (G-p-46) nml W fg (bh.below O (VB _));rw[da,<-eh];rfl)
     obtain⟨bm,dv⟩:=exq (xs.getD 10 0)
     have fy:Hid (∀W,Below wr.heap.size wr W->W.cell? ⟨g,o+p+(46+F)+10,none⟩=some (.int .u8 (bm:Int))):=Ab (fun W O=>by
      rw[O.cell (p:=⟨g,_,none⟩) az,<-dv];exact cy 10 (by omega))
     have ew:=Ab (Cw az cy cj 4 8 4 (G-p-(46+F)-4) rfl (by omega) (by omega) (by omega));have em:=Ab (Cw az cy cj 8 10 2 (G-p-(46+F)-8) rfl (by omega) (by omega) (by omega));obtain⟨aj,cu⟩:=exq (Dh xs 4 8);obtain⟨ai,cv⟩:=exq (Dh xs 8 10);have lh:aj<4294967296:=by rw[<-cu];exact Dm cj rfl
     have l3:ai<65536:=by rw[<-cv];exact Dm cj rfl
     rw[cu]at ew;rw[cv]at em;obtain⟨gn,e9⟩:=exq (((bm:Int)==1));have iw:=Gq g (o+p) m (G-p) 46 (46+F) 46 (46+(F:Int)) F rfl (by omega) (by omega) (by omega) (by omega) (by omega) (by omega);have jr:=Gq g (o+p+(46+F)) 11 (G-p-(46+F)) 4 8 4 8 4 rfl rfl (by omega) (by omega) (by omega) (by omega) rfl;have ky:=Gq g (o+p+(46+F)) 11 (G-p-(46+F)) 8 10 8 10 2 rfl rfl (by omega) (by omega) (by omega) (by omega) rfl;obtain⟨Y,cn⟩:=exq ((bs.drop (bb+30+F+11)).take H);have f6:=Ab (show nml.length=F/\B (o8 nml)=nm/\(r.drop 46).take F=nml/\Dh xs 4 8=aj/\Dh xs 8 10=ai/\((bm:Int)==1)=gn/\xs.getD 10 0=bm/\(r.drop (46+F)).take 11=xs from ⟨fg,eh,ci,cu,cv,e9,dv,b5⟩);have i9:IntKind.i64.wrap (46+(F:Int))=46+(F:Int):=by simp[IntKind.wrap,IntKind.signed,IntKind.bits];omega
     have ay:Hid (JR bs T r=(unpD M Y).bind fun ys=>some (⟨⟨o8 nml,o8 ys,((aj:Nat):Int),((ai:Nat):Int),gn⟩,M,Y,I⟩,r.drop (46+F+11))):=Ab (by
      unfold JR;rw[if_neg (by omega),Aa df,Aa dc,Aa c7,if_neg (by rw[gg];exact gu),Aa hu,cn,Aa ha,b5,cu,cv,ci,dv]
      have e:decide (bm=1)=gn:=by
       rw[<-e9]
       by_cases bh:bm=1
       . rw[bh];rfl
       . rw[decide_eq_false bh];symm;rw[beq_eq_false_iff_ne];omega
      rw[e])
     have gz:Y.length=H:=by rw[<-cn,VL,VQ,Aa bj];omega
     have di:Hid (∀x∈Y,x<256):=Ab (fun x Z=>Aa bf x (by rw[<-cn]at Z;exact VW (VR Z)))
     have cg:Hid (∀W,Below wr.heap.size wr W->BytesIn W (some ⟨g,o+(bb+30+F+11),none⟩) Y):=Ab (fun W O=>by
      rw[<-cn];exact Sk (VG az O.size) (fun i hi=>(O.cell (p:=⟨g,_,none⟩) az).trans (((Aa ae).cell (p:=⟨g,_,none⟩) bd).trans (Aa bg i hi))) _ _)
     have a7:=Ab gz;clear ci b5 ip fg cj cy dv cu cv ag eh cn gz;go_upto_region 18 with fail
     go_cut [14] (fun eu bn=>eu=.pointer (some ⟨X,0,none⟩)/\Hid (bn.heap[X]? =some (.cells #[.string nm,.slice none 0 0,.int .i64 (aj:Int),.int .i64 (ai:Int),.bool gn,.int .i64 (M:Int),.slice none 0 0,.int .u32 (I:Int)] 37 (0,0))/\Below wr.heap.size wr bn))
     case first=>
      refine wp_region_held_drew (S:=fun W=>Below wr.heap.size wr W) (by kernel_rfl) (Ae f5 1) (fun E=> ?_);have ej:ck.drew.heap[X]? =some (.cells #[.string ⟨#[]⟩,.slice none 0 0,.int .i64 0,.int .i64 0,.bool false,.int .i64 (M:Int),.slice none 0 0,.int .u32 (I:Int)] 37 (0,0)):=h2;generalize ck.drew=ac at E ej ⊢;refine tkH (i:=0) (v:=.slice (some ⟨g,o+p,none⟩) m (G-p)) E ?_;simp only[Act.put,VA,VC,VD];refine tkH (i:=1) (v:=.int .i64 (F:Int)) E ?_;simp only[Act.put,VA,VC,VD];refine tkH (i:=2) (v:=.int .i64 (46+(F:Int))) E ?_;simp only[Act.put,VA,VC,VD];refine tkH (i:=3) (v:=.slice (some ⟨g,o+p+46,none⟩) F (G-p-46)) E ?_;simp only[Act.put,VA,VC,VD];refine wpAnyH_take (i:=4) (v:=.string nm) rfl (by kernel_rfl) (by kernel_rfl) (by kernel_rfl) (fun _ _ _ h=>h) (Or.inl ⟨by rfl,fun W ei=>by have lk:=Aa fw W ei;go_simp⟩) E ?_;simp only[Act.put,VA,VC,VD];refine tkH (i:=5) (v:=.slice (some ⟨g,o+p+(46+F),none⟩) 11 (G-p-(46+F))) E ?_;simp only[Act.put,VA,VC,VD];refine tkH (i:=6) (v:=.slice (some ⟨g,o+p+(46+F)+4,none⟩) 4 (G-p-(46+F)-4)) E ?_;simp only[Act.put,VA,VC,VD];refine tkH (i:=8) (v:=.slice (some ⟨g,o+p+(46+F),none⟩) 11 (G-p-(46+F))) E ?_;simp only[Act.put,VA,VC,VD];refine tkH (i:=9) (v:=.slice (some ⟨g,o+p+(46+F)+8,none⟩) 2 (G-p-(46+F)-8)) E ?_;simp only[Act.put,VA,VC,VD];refine tkH (i:=11) (v:=.slice (some ⟨g,o+p+(46+F),none⟩) 11 (G-p-(46+F))) E ?_;simp only[Act.put,VA,VC,VD];refine tkH (i:=12) (v:=.pointer (some ⟨g,o+p+(46+F)+10,none⟩)) E ?_;simp only[Act.put,VA,VC,VD];refine wpAnyH_take (i:=13) (v:=.int .u8 (bm:Int)) rfl (by kernel_rfl) (by kernel_rfl) (by kernel_rfl) (fun _ _ _ h=>h) (Or.inl ⟨by rfl,fun W ei=>by have l6:=Aa fy W ei;go_simp⟩) E ?_;simp only[Act.put,VA,VC,VD];refine tkH (i:=14) (v:=.bool gn) E ?_;simp only[Act.put,VA,VC,VD];refine rdH (i:=7) fun K hK=> ?_
      go_simp
      refine(Aa ew _ E).mono ?_;rintro e ar ⟨rfl,au⟩;obtain rfl:ac=ar:=au.symm;dsimp only;refine hK.out _ _ E (fun _=> ?_);clear hK K;refine rdH (i:=10) fun K hK=> ?_
      go_simp
      refine(Aa em _ E).mono ?_;rintro e ar ⟨rfl,au⟩;obtain rfl:ac=ar:=au.symm;dsimp only;refine hK.out _ _ E (fun _=> ?_);clear hK K;refine tkH (i:=15) (v:=.agg #[.string nm,.slice none 0 0,.int .i64 (aj:Int),.int .i64 (ai:Int),.bool gn]) E ?_;simp only[Act.put,VA,VC,VD];refine rdH (i:=16) fun K hK=> ?_
      go_simp
      refine hK.out _ _ E (fun _=> ?_);clear hK K;refine rdH (i:=17) fun K hK=> ?_
      rw[if_pos (by rfl)];refine wp_store_mid 30 (.tmp 117) (.tmp 116) rfl X 0 #[.string nm,.slice none 0 0,.int .i64 (aj:Int),.int .i64 (ai:Int),.bool gn] rfl rfl (RF ej) (by kernel_rfl) (by kernel_rfl) ?_;obtain⟨jz,jb⟩:=Z8t ac X 37 _ _ _ _ _ _ _ _ (.string nm) (.slice none 0 0) (.int .i64 (aj:Int)) (.int .i64 (ai:Int)) (.bool gn) ej;have aw:=E.grown jb E.size (fun g e=>by cases e;exact a3);refine hK.out _ _ aw (fun _=> ?_);clear hK K;refine wpAnyH_done (by kernel_rfl) ?_ _;go_wp2_with fail
      go_meet
      exact⟨rfl,Ab ⟨jz,aw⟩⟩
     case rest=>
      rename World=>bn
      obtain⟨rfl,hp⟩:=hcut;obtain⟨dw,e7⟩:=Aa hp;obtain⟨ak,jj⟩:=exq (bb+30+F+11);have h3:=Gq g o n G ak (ak+H) ((bb:Int)+30+(F:Int)+11) ((bb:Int)+30+(F:Int)+11+(H:Int)) H (by omega) (by omega) (by omega) (by omega) fe (by omega) (by omega);obtain⟨CF,ia⟩:=exq (G-ak);have hk:H<=CF:=by omega
      rw[ia]at h3;clear ia;have hq:=Ac (i:=6) dw;simp only[VZ,VY,WI]at hq;have j3:=frozen_of_row bn X 6 _ _ dw;obtain⟨w6,dt⟩:=exq (bn.setCell ⟨X,6,none⟩ (.slice (some ⟨g,o+ak,none⟩) H CF))
      have b3:w6.heap[X]? =some (.cells (#[.string nm,.slice none 0 0,.int .i64 (aj:Int),.int .i64 (ai:Int),.bool gn,.int .i64 (M:Int),.slice (some ⟨g,o+ak,none⟩) H CF,.int .u32 (I:Int)]) 37 (0,0)):=by
       rw[<-dt,heap_setCell_same bn X 6 _ _ _ dw];rfl
      have h9:Below wr.heap.size wr w6:=by rw[<-dt];exact e7.grown (Ad bn X 6 _) e7.size (fun g e=>by cases e;exact a3)
      have g0:=Ab dt;clear dt;clear h2 f5 hp dx ce ew em fw fy iw jr ky ij j5 ki i9 ix e7 e9;rw[jj]at cg;have dy:=Ab b3;have a4:=Ab h9;have b9:=Ac (i:=5) b3;have gj:=Ac (i:=6) b3;have k1:=Ac (i:=1) b3;simp only[VZ,VY,WI]at b9 gj k1;have hf:=fun j=>frozen_of_row w6 X j _ _ b3
      have f1:=hf 1;clear b3 h9 hf;go_upto_region 21 with fail
      rw[Aa g0];clear hq j3 h3 dw g0;go_upto_block 2 with fail
      go_cut [16,17,18,19] (fun _ _ _ _ af=>∃ys fa fc,Hid (unpD M Y=some ys/\af.heap[X]? =some (.cells (#[.string nm,.slice fa ys.length fc,.int .i64 (aj:Int),.int .i64 (ai:Int),.bool gn,.int .i64 (M:Int),.slice (some ⟨g,o+ak,none⟩) H CF,.int .u32 (I:Int)]) 37 (0,0))/\Below wr.heap.size wr af/\PkIn af fa fc ys/\ys.length<=fc/\∀ah ao,fa=some ⟨ah,ao,none⟩->ah<w.heap.size\/wr.heap.size<=ah))
      case first=>
       by_cases m0:M=0
       . subst m0
         have ey:Hid (∀W,w6.setCell ⟨X,1,none⟩ (.slice (some ⟨g,o+ak,none⟩) H CF)=W->∃ys fa fc,Hid (unpD 0 Y=some ys/\W.heap[X]? =some (.cells (#[.string nm,.slice fa ys.length fc,.int .i64 (aj:Int),.int .i64 (ai:Int),.bool gn,.int .i64 ((0:Nat):Int),.slice (some ⟨g,o+ak,none⟩) H CF,.int .u32 (I:Int)]) 37 (0,0))/\Below wr.heap.size wr W/\PkIn W fa fc ys/\ys.length<=fc/\∀ah ao,fa=some ⟨ah,ao,none⟩->ah<w.heap.size\/wr.heap.size<=ah)):=Ab (by
          intro W O;have dl:Below wr.heap.size wr W:=by rw[<-O];exact(Aa a4).grown (Ad w6 X 1 _) (Aa a4).size (fun g e=>by cases e;exact a3)
          refine⟨Y,some ⟨g,o+ak,none⟩,CF,Ab ⟨by unfold unpD;rw[if_pos rfl], ?_,dl,⟨Aa cg W dl,fun e=>by cases e⟩,by rw[Aa a7];exact hk,fun ah ao e=>.inl (by cases e;exact bd)⟩⟩;rw[<-O,heap_setCell_same w6 X 1 _ _ _ (Aa dy),Aa a7];rfl)
         replace b9:w6.cell? ⟨X,5,none⟩=some (.int .i64 0):=b9;clear ay ax ap a6 bw ba bc;go_wp2;go_meet
         exact Aa ey _ rfl
       have jk:((M:Int)==0)=false:=by rw[beq_eq_false_iff_ne];omega
       by_cases hg:M=8
       . subst hg;clear jk;replace b9:w6.cell? ⟨X,5,none⟩=some (.int .i64 8):=b9;have j1:H<=12000:=by omega
         have h4:Hid (e6\/ (Oh (rowB Y H)).e=0):=Ab (by
          rcases Aa bc with bh|bh
          . exact .inl bh
          . refine .inr ?_
            by_cases da:(Oh (rowB Y H)).e=0
            . exact da
            . exfalso
              apply bh
              rw[Aa a6,Aa ay]
              have:unpD 8 Y=none:=by
               unfold unpD;rw[if_neg (by decide),if_pos rfl,Aa a7,if_neg (fun d7=>da d7.1)]
              rw[this];rfl)
         have cd:Hid (unpD 8 Y=if (Oh (rowB Y H)).e=0/\((Oh (rowB Y H)).p+7)/8=H/\H<=6000 then some (Oh (rowB Y H)).out else none):=Ab (by
          unfold unpD;rw[if_neg (by decide),if_pos rfl,Aa a7])
         have e5:=Ab (Aa ba w6 (some ⟨g,o+ak,none⟩) H CF Y (Aa a7) j1 (Aa cg w6 (Aa a4)) (Aa di) (Aa h4));have f7:Hid (∀W,Below w6.heap.size w6 W->Below w.heap.size w W):=Ab (fun W O=>(Aa ae).trans (((Aa a4).trans (O.mono (Aa a4).size)).mono (Aa ae).size));have hs:Hid (X<w6.heap.size):=Ab (VK.1 (Aa dy)).1;clear ba bc h4 a6 bw ax;go_wp2_with fail
         refine(Aa e5).mono ?_;rintro e a5 ⟨co,j7⟩;have b4:=(co.block X (Aa hs)).trans (Aa dy);have jt:=Ac (i:=6) b4;have jy:=Ac (i:=1) b4;simp only[VZ,VY,WI]at jt jy;have lu:=frozen_of_row a5 X 1 _ _ b4
         rcases j7 with ⟨dq,ov,hv,kv,rfl,d8,fo⟩|⟨dq,rfl⟩
         . generalize Oh (rowB Y H)=U at*;obtain⟨cq,fh⟩:=exq ((U.p+7)/8);obtain⟨i0,cw⟩:=exq (U.out.length);rw[cw]at d8;rw[fh,cw];have e0:=Ab d8;have cz:=Ab fo;have g4:=Ab fh;have eo:=Ab cw;have ee:=Ab b4;have e1:=Ab co;clear d8 fo fh cw b4 co e5
           by_cases ll:cq≠H\/6000<H
           . have aa:=Ab (Aa ap (by rw[Aa ay,Aa cd,if_neg (by rw[Aa g4];omega)];rfl) a5 (Aa f7 a5 (Aa e1)));clear ap ay cd e0 cz ee
             by_cases lr:cq≠H
             . have gx:((cq:Int)!=(H:Int))=true:=by simp only[bne_iff_ne,ne_eq];omega
               go_wp2;go_ret2;exact Aa aa
             . have gx:((cq:Int)!=(H:Int))=false:=by simp only[bne_eq_false_iff_eq];omega
               have j0:(6000:Int)<(H:Int):=by omega
               go_wp2;go_ret2;exact Aa aa
           . have gx:((cq:Int)!=(H:Int))=false:=by simp only[bne_eq_false_iff_eq];omega
             have j0:¬(6000:Int)<(H:Int):=by omega
             have ey:Hid (∀W,a5.setCell ⟨X,1,none⟩ (.slice ov i0 hv)=W->∃ys fa fc,Hid (unpD 8 Y=some ys/\W.heap[X]? =some (.cells (#[.string nm,.slice fa ys.length fc,.int .i64 (aj:Int),.int .i64 (ai:Int),.bool gn,.int .i64 ((8:Nat):Int),.slice (some ⟨g,o+ak,none⟩) H CF,.int .u32 (I:Int)]) 37 (0,0))/\Below wr.heap.size wr W/\PkIn W fa fc ys/\ys.length<=fc/\∀ah ao,fa=some ⟨ah,ao,none⟩->ah<w.heap.size\/wr.heap.size<=ah)):=Ab (by
              intro W O;have ho:Below wr.heap.size wr a5:=(Aa a4).trans ((Aa e1).mono (Aa a4).size);have dl:Below wr.heap.size wr W:=by rw[<-O];exact ho.grown (Ad a5 X 1 _) ho.size (fun g e=>by cases e;exact a3)
              obtain⟨lz,l4,b8,hj,j8⟩:=Aa e0;rw[Aa eo]at b8 hj
              cases b8
              have l0:=(Aa a4).size;refine⟨U.out,ov,hv,Ab ⟨by rw[Aa cd,if_pos ⟨dq,by rw[Aa g4];omega,by omega⟩], ?_,dl, ?_,by rw[Aa eo];exact hj,fun ah ao e=>.inr (by have:=Aa cz ah ao e;omega)⟩⟩
              . rw[<-O,heap_setCell_same a5 X 1 _ _ _ (Aa ee),Aa eo];rfl
              . rw[<-O];refine j8.grown (Ad a5 X 1 _) (fun ah ao e iz e2=> ?_);have fm:=Aa cz ah ao e;have ka:=Aa hs
                cases e2
                omega)
             clear ap ay cd e0 cz ee e1;go_wp2;go_meet
             exact Aa ey _ rfl
         . have aa:=Ab (Aa ap (by rw[Aa ay,Aa cd,if_neg (fun d7=>dq d7.1)];rfl) a5 (Aa f7 a5 co));have iz:((Oh (rowB Y H)).e !=0)=true:=by simp only[bne_iff_ne,ne_eq];exact dq
           clear ap ay cd e5 co b4;generalize (Oh (rowB Y H)).e=lv at*;go_wp2;go_ret2;exact Aa aa
       . have k6:((M:Int)==8)=false:=by rw[beq_eq_false_iff_ne];omega
         have aa:=Ab (Aa ap (by rw[Aa ay,show unpD M Y=none by unfold unpD;rw[if_neg m0,if_neg hg]];rfl) w6 ((Aa ae).trans ((Aa a4).mono (Aa ae).size)));clear ax ap a6 bw ba bc ay;go_wp2;go_ret2;exact Aa aa
      case rest=>
       rename World=>af
       obtain⟨ys,fa,fc,gh⟩:=hcut;obtain⟨dn,a9,c8,gv,fk,h0⟩:=Aa gh;obtain⟨i1,h8,i4,jc,iy,ie,j4,il⟩:=Aa f6;have g5:∀x∈ys,x<256:=Wt (Aa di) (by rw[<-Le];exact dn);have i3:ys.length<=12000:=BC (by rw[Aa a7];omega) dn;obtain⟨y,bz⟩:∃y:Ev,y=⟨⟨⟨o8 nml,o8 ys,((aj:Nat):Int),((ai:Nat):Int),gn⟩,M,Y,I⟩,fa,fc,some ⟨g,o+ak,none⟩,CF⟩:=⟨_,rfl⟩
       obtain⟨g9,ed⟩:=exq (ys.length)
       have h6:y.rcells= [.string nm,.slice fa g9 fc,.int .i64 (aj:Int),.int .i64 (ai:Int),.bool gn,.int .i64 (M:Int),.slice (some ⟨g,o+ak,none⟩) H CF,.int .u32 (I:Int)]:=by
        rw[bz];simp only[Ev.rcells,Ey,ed,Aa a7,h8]
       have ht:EvR af y:=by
        rw[bz];refine⟨⟨?_,by simp only[Ey];exact fk,by simp only[Ey];omega,by simp only[Ey];omega,Aa cg af c8,fun e=>by cases e⟩,by simp only[];rw[Aa a7];exact hk⟩;simp only[];rw[Z0w g5];exact gv
       have gq:y.lies (fun b=>some b≠u9.ownBlock):=by
        rw[bz]
        constructor
        . intro b ao b8 e2 e3;have fm:=(Aa bi).own.lt b e3.symm;have ka:=h0 b ao b8;omega
        . intro b ao b8 e2 e3;have fm:=(Aa bi).own.lt b e3.symm
          cases b8
          omega
       have gi:EWd y.e/\∀z∈y.e.pk,z<256:=by
        rw[bz];exact⟨⟨⟨by simp only[];omega,by simp only[];omega⟩,⟨by simp only[];omega,by simp only[];omega⟩,by simp only[Ey];omega,by simp only[Ey];omega,by simp only[];rw[Aa a7];omega,fu,jf⟩,Aa di⟩
       have gy:y.e=⟨⟨o8 nml,o8 ys,((aj:Nat):Int),((ai:Nat):Int),gn⟩,M,Y,I⟩:=by rw[bz]
       have km:Hid (Tt bs=(Np bs T (N-(k+1)) ((bs.drop (p+(46+F+11))).take (m-(46+F+11)))).map ((es++ [y]).map Ev.e++ ·)):=Ab (by
        rw[Aa a6,Aa ay,dn,VF,VF,<-Aa hx,Tu bs p m _ (by omega),show N-(k+1)=j by have:=Aa j9;omega,Option.map_map,gy.symm]
        congr 1
        funext l
        simp)
       have jw:=Ac (i:=0) a9;have fj:=Ac (i:=1) a9;have jp:=Ac (i:=2) a9;have ji:=Ac (i:=3) a9;have kk:=Ac (i:=4) a9;have kx:=Ac (i:=5) a9;have ik:=Ac (i:=6) a9;have ko:=Ac (i:=7) a9;simp only[VZ,VY,WI]at jw fj jp ji kk kx ik ko;rw[ed]at fj;have eb:Below w.heap.size w af:=(Aa ae).trans (c8.mono (Aa ae).size);have ib:RRow af w.heap.size u9 es:=(Aa bi).below c8;have f3:=Ab (fun o1:Obj=>ib.below ((Below.refl af.heap.size af).alloc (VB _) o1));have g8:=Ab (fun o1:Obj=>ht.below ((Below.refl af.heap.size af).alloc (VB _) o1));have g7:=Ab gq
       have f9:Hid (∀o1,o1=Obj.cells #[.string nm,.slice fa g9 fc,.int .i64 (aj:Int),.int .i64 (ai:Int),.bool gn,.int .i64 (M:Int),.slice (some ⟨g,o+ak,none⟩) H CF,.int .u32 (I:Int)] 37->∀j u,y.rcells[j]? =some u->(af.alloc o1).cell? ⟨af.heap.size,j,none⟩=some u):=Ab (fun o1 e j u a2=>by
        subst e;rw[Ac (heap_alloc_new af _)];rw[h6]at a2;simpa using a2)
       have k0:Hid (es.length+1<=100000):=Ab (by have:=Aa cp;omega);have h5:=Ab eb;have k7:w.heap.size<=af.heap.size:=eb.size;have jl:=Ab gi;have lj:=Z2h g (o+p) m (G-p) (46+F+11) (46+(F:Int)+11) (m-(46+F+11)) (by omega) (by omega) (by omega) (by omega) rfl;clear gh dn a9 c8 gv fk h0 ht gq gi ib eb h6 g5 i3 gy i1 h8 i4 jc iy ie j4 il f6 ay ax ap a6 ba bc di cg dy a4 b0 bu ha hu df dc c7 bg bf bw k1 b9 gj f1 ed bz;go_wp2_with (at_builtin;refine Kz _ rfl _ _ rfl w.heap.size _ es rfl (Aa f3 _) af.heap.size y rfl (Aa f9 _ rfl) (Aa g8 _) (Aa g7) (Aa k0) (by simp;omega) ?_)
       intro v' jh jo hz;have j6:Hid (Below w.heap.size w jh):=Ab (((Aa h5).alloc (Aa h5).size _).grown (Aa hz) (by simp;omega) (fun b e=>((Aa bi).own.lt b e).1));clear f3 g8 f9 g7 hz;go_wp2;go_roundw
       case rel=>
        refine⟨k+1,p+(46+F+11),m-(46+F+11),es++ [y],by omega,by go_num,by rw[WT,Nat.sub_sub],Ab (by omega),Ab (by rw[VE,Aa cp];rfl),jo,j6,km,Ab (fun x Z=> ?_)⟩
        rcases WP.1 Z with Z|Z
        . exact Aa O x Z
        . rw[WO.1 Z];exact Aa jl
       case measure=>simp[intOf];omega
  . obtain rfl:N=k:=by omega
    obtain⟨ad,ek,gw,ff⟩:=(Aa bi).entries;rw[Aa cp]at gw;subst gw;have hw:Hid (Tt bs=some (es.map Ev.e)):=Ab (by rw[Aa ct,XW,Np];simp);have ft:=Ab (Z18 ad ek N es wr ff (Aa cp) (by omega) (fun x Z=>(Aa O x Z).1));have h1:=Ab ff
    have fp:Hid (∀j,(Be (es.map Ev.e)).getD j 0<256):=Ab (Er (Yx _ (fun x Z=>by
     obtain⟨z,kz,rfl⟩:=XG.1 Z;exact(Aa O z kz).2)))
    have hh:Hid (∀j,bs.getD j 0<256):=Ab (Er (Aa bf));have fx:Hid (∀W,Below w.heap.size w W->BytesIn W (some ⟨g,o,none⟩) bs):=Ab (fun W O=>.inr ⟨g,o,rfl,VG bd O.size,fun j a2=>(O.cell (p:=⟨g,_,none⟩) bd).trans (Aa bg j a2)⟩);clear ff ax ba bc bw ct bf bg;go_wp2_with fail
    refine(Aa ft).mono ?_;rintro e w3 ⟨l7,rfl,jq,en⟩;obtain⟨jm,ir,rfl,d9,gd⟩:=jq;obtain⟨je,dz⟩:=exq ((Be (es.map Ev.e)).length);rw[dz];have et:Below w.heap.size w w3:=(Aa ae).trans (en.mono (Aa ae).size);have kj:=Ab (P4 jm (some ⟨g,o,none⟩) je ir n G (Be (es.map Ev.e)) bs w3 dz (Aa bj) (Aa fp) (Aa hh) gd.1 (Aa fx w3 et));have aa:Hid (EnD w bs (.returned (.tuple #[.slice ad N ek,.bool (Be (es.map Ev.e)==bs)])) w3):=Ab ⟨et,.inr ⟨es,ad,ek,Aa hw,by rw[Aa cp],(Aa h1).below en⟩⟩;generalize (Be (es.map Ev.e)==bs)=eqB at*;clear en et d9 gd dz ft fp hh fx h1 hw bi O ae;go_wp2_with fail
    refine(Aa kj).mono ?_;rintro e ly ⟨rfl,rfl⟩;go_wp2;go_ret2;exact Aa aa
end Go.Proofs.YtleocpdblhbimaaGreatDoor
