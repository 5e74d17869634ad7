import Derived.Test.YtleocpdblhbimaaGreatDoorQ7
import Derived.Test.YtleocpdblhbimaaGreatDoorQ9
import Derived.Deep.RegionHeld3
import Derived.Deep.CutBlock
set_option linter.unusedSimpArgs false
set_option maxHeartbeats 8000000
namespace Go.Proofs.YtleocpdblhbimaaGreatDoor
open Go.RowKit
set_option linter.unusedVariables false
set_option maxRecDepth 100000
def UnA (w:World)(pk:List Nat)(n:Nat)(e:Ending)(w':World):Prop:=Below w.heap.size w w'/\
 (((Oh (rowB pk n)).e=0/\∃ov oc kv,e=.returned (.tuple #[.slice ov (Oh (rowB pk n)).out.length oc,.int .i64 ((((Oh (rowB pk n)).p+7)/8:Nat):Int),kv,.int .i64 0])/\PIn w' (.slice ov (Oh (rowB pk n)).out.length oc) (Oh (rowB pk n)).out/\∀g o,ov=some ⟨g,o,none⟩->w.heap.size<=g)\/
  ((Oh (rowB pk n)).e≠0/\e=.returned (.tuple #[.slice none 0 0,.int .i64 0,.slice none 0 0,.int .i64 (Oh (rowB pk n)).e])))
def UnC (Gd:Prop):Prop:=∀(W:World) (a:Option Addr) (n c:Nat) (pk:List Nat),pk.length=n->n<=12000->BytesIn W a pk->(∀x∈pk,x<256)->(Gd\/ (Oh (rowB pk n)).e=0)->
 Calls Tryz.prog 39 #[.slice a n c] W fun e w'=>UnA W pk n e w'
def EnD (w:World)(bs:List Nat)(e:Ending)(w':World):Prop:=Below w.heap.size w w'/\
 ((Tt bs=none/\e=.returned (.tuple #[.slice none 0 0,.bool false]))\/
  ∃es ad c,Tt bs=some (es.map Ev.e)/\e=.returned (.tuple #[.slice ad es.length c,.bool (Be (es.map Ev.e)==bs)])/\RsIn w' ad es)
theorem RsIn.below {w w':World}{H:Option Addr}{xs:List Ev}(E:RsIn w H xs)(F:Below w.heap.size w w'):RsIn w' H xs:=by
 refine⟨?_,fun x G=>⟨(E.all x G).1.below F,(E.all x G).2⟩⟩
 rcases E.at_ with I|⟨b,o,e,hb,M⟩
 . exact .inl I
 . exact .inr ⟨b,o,e,VG hb F.size,fun j x O i hi=>(World.cell?_of_block (w:=w) (a:=⟨b,_,none⟩) (F.block b hb)).trans (M j x O i hi)⟩
theorem BC {m:Nat}{pk ys:List Nat}(F:pk.length<=12000)(E:unpD m pk=some ys):ys.length<=12000:=by
 rw[Le]at E;unfold unpF at E
 split at E
 . cases E;exact F
 . split at E
   . split at E
     . rename_i c
       cases E
       have:=(Rn (rowB pk pk.length) pk.length (Af _ _) c.2.1).2.2.1
       omega
     . cases E
   . cases E
theorem Z4 (a:Option Addr)(n G:Nat)(bs:List Nat)(w:World)(dr:bs.length=n)(lu:n<=12000)(ee:n<=G)(e7:PkIn w a G bs)(db:∀x∈bs,x<256)(en:Prop)(ej:en\/Tt bs≠none)(eh:UnC en):
 Calls Tryz.prog 10 #[.slice a n G] w fun e w'=>EnD w bs e w':=by
 have av:Hid (Tt bs=none->∀W,Below w.heap.size w W->EnD w bs (.returned (.tuple #[.slice none 0 0,.bool false])) W):=Ab (fun h W O=>⟨O,.inl ⟨h,rfl⟩⟩)
 by_cases lj:n<22
 . have ac:=Ab (Aa av (by unfold Tt;rw[if_pos (by omega)]) w (Below.refl _ _));have im:(n:Int)<22:=by omega
   clear e7 db dr eh ej av;go_enter Tryz.func10,Tryz.ntmps10
   go_wp2;go_ret2;exact Aa ac
 have im:¬(n:Int)<22:=by omega
 obtain⟨g,o,rfl,ba,eg⟩:=Dz e7.1 (by omega);obtain⟨q,j4⟩:=exq (n-22);have il:=Z2h g o n G q ((n:Int)-22) 22 (by omega) (by omega) ee (by omega) (by omega);have jl:IntKind.i64.wrap ((n:Int)-22)=(n:Int)-22:=by simp[IntKind.wrap,IntKind.signed,IntKind.bits];omega
 have dh:∀j,j<(bs.drop q).length->w.cell? ⟨g,o+q+j,none⟩=some (.int .u8 (((bs.drop q).getD j 0:Nat):Int)):=by
  intro j a2;rw[VQ]at a2;have e:(bs.drop q).getD j 0=bs.getD (q+j) 0:=by simp only[List.getD];rw[XJ]
  rw[e,WT];exact eg (q+j) (by omega)
 have bo:∀x∈bs.drop q,x<256:=fun x Z=>db x (VW Z)
 have jo:(bs.drop q).length=22:=by rw[VQ];omega
 have i4:=Gq g (o+q) 22 (G-q) 8 10 8 10 2 rfl rfl (by omega) (by omega) (by omega) (by omega) rfl;have ik:=Gq g (o+q) 22 (G-q) 12 16 12 16 4 rfl rfl (by omega) (by omega) (by omega) (by omega) rfl;have ky:=Gq g (o+q) 22 (G-q) 16 20 16 20 4 rfl rfl (by omega) (by omega) (by omega) (by omega) rfl;have bv:=Ab (Cw ba dh bo 8 10 2 (G-q-8) rfl (by omega) (by omega) (by omega));have bj:=Ab (Cw ba dh bo 12 16 4 (G-q-12) rfl (by omega) (by omega) (by omega));have bk:=Ab (Cw ba dh bo 16 20 4 (G-q-16) rfl (by omega) (by omega) (by omega));obtain⟨N,dp⟩:=exq (Dh (bs.drop q) 8 10);obtain⟨aw,ds⟩:=exq (Dh (bs.drop q) 12 16);obtain⟨T,cy⟩:=exq (Dh (bs.drop q) 16 20);have ax:N<65536:=by rw[<-dp];exact Dm bo rfl
 have lf:aw<4294967296:=by rw[<-ds];exact Dm bo rfl
 have lv:T<4294967296:=by rw[<-cy];exact Dm bo rfl
 rw[dp]at bv;rw[ds]at bj;rw[cy]at bk;have dv:Hid (Tt bs=if 12<N\/T+aw+22≠n then none else Np bs T N ((bs.drop T).take aw)):=Ab (by unfold Tt;rw[if_neg (by omega),dr,j4,dp,ds,cy]);have bi:=Ab eg;have bf:=Ab db;have bu:=Ab dr;have bc:=Ab eh;have bd:=Ab ej;clear e7 db dr eh ej dh bo jo dp ds cy eg;go_enter Tryz.func10,Tryz.ntmps10
 go_upto_region 4 with fail
 refine wp_region_held_drew (S:=fun W=>Below w.heap.size w W) (by kernel_rfl) (Ae (Below.refl _ _) 1) (fun E=> ?_);refine tkH (i:=0) (v:=.slice (some ⟨g,o+q,none⟩) 22 (G-q)) E ?_;simp only[Act.put,VA,VC,VD];refine tkH (i:=1) (v:=.slice (some ⟨g,o+q+8,none⟩) 2 (G-q-8)) E ?_;simp only[Act.put,VA,VC,VD];refine tkH (i:=3) (v:=.slice (some ⟨g,o+q,none⟩) 22 (G-q)) E ?_;simp only[Act.put,VA,VC,VD];refine tkH (i:=4) (v:=.slice (some ⟨g,o+q+12,none⟩) 4 (G-q-12)) E ?_;simp only[Act.put,VA,VC,VD];refine tkH (i:=6) (v:=.slice (some ⟨g,o+q,none⟩) 22 (G-q)) E ?_;simp only[Act.put,VA,VC,VD];refine tkH (i:=7) (v:=.slice (some ⟨g,o+q+16,none⟩) 4 (G-q-16)) E ?_;simp only[Act.put,VA,VC,VD];refine rdH (i:=2) fun K hK=> ?_
 go_simp
 refine(Aa bv _ E).mono ?_;rintro e w' ⟨rfl,rfl⟩;dsimp only;refine hK.out _ _ E (fun _=> ?_);clear hK K;refine rdH (i:=5) fun K hK=> ?_
 go_simp
 refine(Aa bj _ E).mono ?_;rintro e w' ⟨rfl,rfl⟩;dsimp only;refine hK.out _ _ E (fun _=> ?_);clear hK K;refine rdH (i:=8) fun K hK=> ?_
 go_simp
 refine(Aa bk _ E).mono ?_;rintro e w' ⟨rfl,rfl⟩;dsimp only;refine hK.out _ _ E (fun _=> ?_);clear hK K;refine rdH (i:=9) fun K hK=> ?_
 go_simp
 refine hK.out _ _ E (fun _=> ?_);clear hK K;refine rdH (i:=10) fun K hK=> ?_
 go_simp
 refine hK.out _ _ E (fun _=> ?_);clear hK K;refine rdH (i:=11) fun K hK=> ?_
 go_simp
 refine hK.out _ _ E (fun _=> ?_);clear hK K;refine wpAnyH_done (by kernel_rfl) ?_ _;clear il jl i4 ik ky bv bj bk E;have dt:Below w.heap.size w w.drew:=Ae (Below.refl _ _) 1
 by_cases fe:12<N\/T+aw+22≠n
 . have ac:=Ab (Aa av (by rw[Aa dv,if_pos fe]) w.drew dt);clear av dv bi bf bu bc bd dt
   by_cases lm:12<N
   . have hg:(12:Int)<(N:Int):=by omega
     go_wp2;go_ret2;exact Aa ac
   . have hg:¬(12:Int)<(N:Int):=by omega
     have kk:((T:Int)+(aw:Int)+22 !=(n:Int))=true:=by simp only[bne_iff_ne,ne_eq];omega
     go_wp2;go_ret2;exact Aa ac
 have hg:¬(12:Int)<(N:Int):=by omega
 have jk:T+aw+22=n:=by omega
 have kk:((T:Int)+(aw:Int)+22 !=(n:Int))=false:=by simp only[bne_eq_false_iff_eq];omega
 have b3:Hid (Tt bs=Np bs T N ((bs.drop T).take aw)):=Ab (by rw[Aa dv,if_neg fe]);have k4:=Gq g o n G T (T+aw) (T:Int) ((T:Int)+(aw:Int)) aw rfl (by omega) (by omega) (by omega) ee (by omega) (by omega);have km:=Ab dt;clear fe dv dt;go_wp2;go_loopw [8,9,10,11,12,13,14,15,16,17,18,19,55] (fun jb ka _ _ _ _ _ _ _ _ _ _ e4 wr=>∃(k p m:Nat) (es:List Ev),k<=N/\e4=.int .i64 (k:Int)/\jb=.slice (some ⟨g,o+p,none⟩) m (G-p)/\Hid (p+m+22=n)/\Hid (es.length=k)/\Hid (RRow wr w.heap.size ka es)/\Hid (Below w.heap.size w wr)/\Hid (Tt bs=(Np bs T (N-k) ((bs.drop p).take m)).map (es.map Ev.e++ ·))/\Hid (∀x∈es,EWd x.e/\∀y∈x.e.pk,y<256)) (fun _ _ _ _ _ _ _ _ _ _ _ _ e4 _=>N-(intOf e4).toNat)
 case atStart=>exact⟨0,T,aw,[],VH _,rfl,rfl,Ab jk,Ab rfl,Ab (RRow.nil _ _),km,Ab (by rw[Aa b3];simp),Ab (fun x Z=>by cases Z)⟩
 case round=>
  obtain⟨k,p,m,es,ly,rfl,rfl,jy,cv,bg,ag,ct,O⟩:=hrel
  by_cases k8:k<N
  . have l4:=Aa jy;obtain⟨r,hr⟩:=exq ((bs.drop p).take m);obtain⟨j,a2⟩:∃j,N-k=j+1:=⟨N-k-1,by omega⟩
    have bb:Hid (Tt bs=((JR bs T r).bind fun x=>(Np bs T j x.2).map (x.1:: ·)).map (es.map Ev.e++ ·)):=Ab (by rw[Aa ct,a2,hr,Np]);have f8:r.length=m:=by rw[<-hr,VL,VQ,Aa bu];omega
    have ap:Hid (JR bs T r=none->∀W,Below w.heap.size w W->EnD w bs (.returned (.tuple #[.slice none 0 0,.bool false])) W):=Ab (fun h W O=>Aa av (by rw[Aa bb,h];rfl) W O);have ay:g<wr.heap.size:=VG ba (Aa ag).size
    have b8:∀i,i<r.length->wr.cell? ⟨g,o+p+i,none⟩=some (.int .u8 ((r.getD i 0:Nat):Int)):=by
     intro i hi
     have e2:r.getD i 0=bs.getD (p+i) 0:=by
      rw[<-hr];simp only[List.getD];rw[XX (by omega),XJ]
     rw[e2,(Aa ag).cell (p:=⟨g,_,none⟩) ba,WT];exact Aa bi (p+i) (by rw[Aa bu];omega)
    have a9:∀x∈r,x<256:=fun x Z=>Aa bf x (by rw[<-hr]at Z;exact VW (VR Z))
    by_cases lr:m<46
    . have ac:=Ab (Aa ap (by unfold JR;rw[if_pos (by omega)]) wr (Aa ag));have kt:(m:Int)<46:=by omega
      clear av ap bb ct bg O bi bf bu bc bd b8 a9 hr ag;go_wp2;go_ret2;exact Aa ac
    have kt:¬(m:Int)<46:=by omega
    have ii:=Gq g (o+p) m (G-p) 28 30 28 30 2 rfl rfl (by omega) (by omega) (by omega) (by omega) rfl;have iu:=Gq g (o+p) m (G-p) 20 24 20 24 4 rfl rfl (by omega) (by omega) (by omega) (by omega) rfl;have dz:=Gq g (o+p) m (G-p) 42 46 42 46 4 rfl rfl (by omega) (by omega) (by omega) (by omega) rfl;have bv:=Ab (Cw ay b8 a9 28 30 2 (G-p-28) rfl (by omega) (by omega) (by omega));have bj:=Ab (Cw ay b8 a9 20 24 4 (G-p-20) rfl (by omega) (by omega) (by omega));have bk:=Ab (Cw ay b8 a9 42 46 4 (G-p-42) rfl (by omega) (by omega) (by omega));obtain⟨F,cw⟩:=exq (Dh r 28 30);obtain⟨H,df⟩:=exq (Dh r 20 24);obtain⟨a8,dl⟩:=exq (Dh r 42 46);have l5:F<65536:=by rw[<-cw];exact Dm a9 rfl
    have l7:H<4294967296:=by rw[<-df];exact Dm a9 rfl
    have l9:a8<4294967296:=by rw[<-dl];exact Dm a9 rfl
    rw[cw]at bv;rw[df]at bj;rw[dl]at bk;have b5:=Ab b8;have bn:=Ab a9;have dc:=Ab cw;have c5:=Ab df;have dd:=Ab dl;have gy:=Ab hr;have eb:=Ab f8;have ki:=Ab a2;clear b8 a9 cw df dl hr f8 a2 ct;go_upto_region 13 with fail
    refine wp_region_held_drew (S:=fun W=>Below wr.heap.size wr W) (by kernel_rfl) (Ae (Below.refl _ _) 1) (fun E=> ?_);refine tkH (i:=0) (v:=.slice (some ⟨g,o+p,none⟩) m (G-p)) E ?_;simp only[Act.put,VA,VC,VD];refine tkH (i:=1) (v:=.slice (some ⟨g,o+p+28,none⟩) 2 (G-p-28)) E ?_;simp only[Act.put,VA,VC,VD];refine tkH (i:=3) (v:=.slice (some ⟨g,o+p,none⟩) m (G-p)) E ?_;simp only[Act.put,VA,VC,VD];refine tkH (i:=4) (v:=.slice (some ⟨g,o+p+20,none⟩) 4 (G-p-20)) E ?_;simp only[Act.put,VA,VC,VD];refine tkH (i:=6) (v:=.slice (some ⟨g,o+p,none⟩) m (G-p)) E ?_;simp only[Act.put,VA,VC,VD];refine tkH (i:=7) (v:=.slice (some ⟨g,o+p+42,none⟩) 4 (G-p-42)) E ?_;simp only[Act.put,VA,VC,VD];refine rdH (i:=2) fun K hK=> ?_
    go_simp
    refine(Aa bv _ E).mono ?_;rintro e w' ⟨rfl,rfl⟩;dsimp only;refine hK.out _ _ E (fun _=> ?_);clear hK K;refine rdH (i:=5) fun K hK=> ?_
    go_simp
    refine(Aa bj _ E).mono ?_;rintro e w' ⟨rfl,rfl⟩;dsimp only;refine hK.out _ _ E (fun _=> ?_);clear hK K;refine rdH (i:=8) fun K hK=> ?_
    go_simp
    refine(Aa bk _ E).mono ?_;rintro e w' ⟨rfl,rfl⟩;dsimp only;refine hK.out _ _ E (fun _=> ?_);clear hK K;refine rdH (i:=9) fun K hK=> ?_
    go_simp
    refine hK.out _ _ E (fun _=> ?_);clear hK K;refine rdH (i:=10) fun K hK=> ?_
    go_simp
    refine hK.out _ _ E (fun _=> ?_);clear hK K;refine rdH (i:=11) fun K hK=> ?_
    go_simp
    refine hK.out _ _ E (fun _=> ?_);clear hK K;refine wpAnyH_done (by kernel_rfl) ?_ _;clear ii iu dz bv bj bk E;have ci:Below wr.heap.size wr wr.drew:=Ae (Below.refl _ _) 1
    by_cases hw:m<46+F+11\/T<a8+30+F+11+H
    . have ac:=Ab (Aa ap (by unfold JR;rw[if_neg (by rw[Aa eb];omega),Aa dc,Aa c5,Aa dd,Aa eb,if_pos hw]) wr.drew ((Aa ag).trans (ci.mono (Aa ag).size)));clear av ap bb bg O bi bf bu bc bd b5 bn gy dc c5 dd ag ci
      by_cases l3:m<46+F+11
      . have fo:(m:Int)<46+(F:Int)+11:=by omega
        go_wp2;go_ret2;exact Aa ac
      . have fo:¬(m:Int)<46+(F:Int)+11:=by omega
        have ir:(T:Int)<(a8:Int)+30+(F:Int)+11+(H:Int):=by omega
        go_wp2;go_ret2;exact Aa ac
    have fo:¬(m:Int)<46+(F:Int)+11:=by omega
    have ir:¬(T:Int)<(a8:Int)+30+(F:Int)+11+(H:Int):=by omega
    obtain⟨M,dj⟩:=exq (Dh r 10 12);obtain⟨I,cz⟩:=exq (Dh r 16 20);have gq:=Aa eb;have iz:M<65536:=by rw[<-dj];exact Dm (Aa bn) rfl
    have gh:I<4294967296:=by rw[<-cz];exact Dm (Aa bn) rfl
    have c8:=Ab (Cw ay (Aa b5) (Aa bn) 10 12 2 (G-p-10) rfl (by omega) (by omega) (by omega));have cq:=Ab (Cw ay (Aa b5) (Aa bn) 16 20 4 (G-p-16) rfl (by omega) (by omega) (by omega));rw[dj]at c8;rw[cz]at cq;have ij:IntKind.u32.wrap (I:Int)=(I:Int):=Bh gh;have ie:=Gq g (o+p) m (G-p) (46+F) (46+F+11) (46+(F:Int)) (46+(F:Int)+11) 11 (by omega) (by omega) (by omega) (by omega) (by omega) (by omega) (by omega);have j1:=Gq g (o+p) m (G-p) 10 12 10 12 2 rfl rfl (by omega) (by omega) (by omega) (by omega) rfl;have i6:=Gq g (o+p) m (G-p) 16 20 16 20 4 rfl rfl (by omega) (by omega) (by omega) (by omega) rfl;have gz:=Ab dj;have fm:=Ab cz;clear dj cz;obtain⟨kc,hp⟩:=exq (wr.drew);rw[hp]at ci ⊢;clear hp;have jz:=Ab ci;clear ci;go_upto_region 17 with fail
    go_cut [14] (fun e0 cj=>∃X,e0=.pointer (some ⟨X,0,none⟩)/\Hid (cj.heap[X]? =some (.cells #[.string ⟨#[]⟩,.slice none 0 0,.int .i64 0,.int .i64 0,.bool false,.int .i64 (M:Int),.slice none 0 0,.int .u32 (I:Int)] 37 (0,0))/\wr.heap.size<=X/\Below wr.heap.size wr cj))
    case first=>
     refine wp_region_held_drew (S:=fun W=>Below wr.heap.size wr W) (by kernel_rfl) (Ae (Aa jz) 1) (fun E=> ?_);generalize kc.drew=aa at E ⊢;refine tkH (i:=0) (v:=.slice (some ⟨g,o+p,none⟩) m (G-p)) E ?_;simp only[Act.put,VA,VC,VD];refine tkH (i:=1) (v:=.slice (some ⟨g,o+p+10,none⟩) 2 (G-p-10)) E ?_;simp only[Act.put,VA,VC,VD];refine tkH (i:=3) (v:=.slice (some ⟨g,o+p,none⟩) m (G-p)) E ?_;simp only[Act.put,VA,VC,VD];refine tkH (i:=4) (v:=.slice (some ⟨g,o+p+16,none⟩) 4 (G-p-16)) E ?_;simp only[Act.put,VA,VC,VD];refine wpAnyH_ready (rs:= [2,8]) (by kernel_rfl) (by simp) (AllReadyH.cons rfl (fun K hK=> ?_) (AllReadyH.cons rfl (fun K hK=> ?_) AllReadyH.nil))
     . go_simp
       refine(Aa c8 _ E).mono ?_;rintro e ar ⟨rfl,ao⟩;obtain rfl:aa=ar:=ao.symm;dsimp only;refine hK.out _ _ E (fun _=> ?_);clear hK K;refine wpAnyH_ready (rs:= [5,8]) (by kernel_rfl) (by simp) (AllReadyH.cons rfl (fun K hK=> ?_) (AllReadyH.cons rfl (fun K hK=> ?_) AllReadyH.nil))
       . go_simp
         refine(Aa cq _ E).mono ?_;rintro e ar ⟨rfl,ao⟩;obtain rfl:aa=ar:=ao.symm;dsimp only;refine hK.out _ _ E (fun _=> ?_);clear hK K;refine tkH (i:=6) (v:=.int .u32 (I:Int)) E ?_;simp only[Act.put,VA,VC,VD];refine tkH (i:=7) (v:=.agg #[.string ⟨#[]⟩,.slice none 0 0,.int .i64 0,.int .i64 0,.bool false,.int .i64 (M:Int),.slice none 0 0,.int .u32 (I:Int)]) E ?_;simp only[Act.put,VA,VC,VD];refine rdH (i:=8) fun K hK=> ?_
         go_simp
         have af:=heap_alloc_new aa (.cells #[.string ⟨#[]⟩,.slice none 0 0,.int .i64 0,.int .i64 0,.bool false,.int .i64 0,.slice none 0 0,.int .u32 0] 37);have al:Below wr.heap.size wr (aa.alloc (.cells #[.string ⟨#[]⟩,.slice none 0 0,.int .i64 0,.int .i64 0,.bool false,.int .i64 0,.slice none 0 0,.int .u32 0] 37)):=E.alloc E.size _;have az:=E.size;generalize aa.alloc (.cells #[.string ⟨#[]⟩,.slice none 0 0,.int .i64 0,.int .i64 0,.bool false,.int .i64 0,.slice none 0 0,.int .u32 0] 37)=w3 at af al ⊢;generalize aa.heap.size=X at af az ⊢;refine hK.out _ _ al (fun _=> ?_);clear hK K E;have E:=al;clear al;refine rdH (i:=9) fun K hK=> ?_
         rw[if_pos (by rfl)];refine wp_store_row 37 (.tmp 14) (.tmp 100) rfl X #[.string ⟨#[]⟩,.slice none 0 0,.int .i64 0,.int .i64 0,.bool false,.int .i64 (M:Int),.slice none 0 0,.int .u32 (I:Int)] rfl rfl 37 _ af (by kernel_rfl) rfl (by simp[Value.oneCell']) ?_;have a3:(w3.setRow X #[.string ⟨#[]⟩,.slice none 0 0,.int .i64 0,.int .i64 0,.bool false,.int .i64 (M:Int),.slice none 0 0,.int .u32 (I:Int)]).heap[X]? =some (.cells #[.string ⟨#[]⟩,.slice none 0 0,.int .i64 0,.int .i64 0,.bool false,.int .i64 (M:Int),.slice none 0 0,.int .u32 (I:Int)] 37 (0,0)):=setRow_heap _ _ _ _ _ _ af;have ax:=Yv E az (#[.string ⟨#[]⟩,.slice none 0 0,.int .i64 0,.int .i64 0,.bool false,.int .i64 (M:Int),.slice none 0 0,.int .u32 (I:Int)]:Array Value);refine hK.out _ _ ax (fun _=> ?_);clear hK K;refine wpAnyH_done (by kernel_rfl) ?_ _;go_wp2_with fail
         go_meet
         exact⟨X,rfl,Ab ⟨a3,az,ax⟩⟩
       . go_simp
         have af:=heap_alloc_new aa (.cells #[.string ⟨#[]⟩,.slice none 0 0,.int .i64 0,.int .i64 0,.bool false,.int .i64 0,.slice none 0 0,.int .u32 0] 37);have al:Below wr.heap.size wr (aa.alloc (.cells #[.string ⟨#[]⟩,.slice none 0 0,.int .i64 0,.int .i64 0,.bool false,.int .i64 0,.slice none 0 0,.int .u32 0] 37)):=E.alloc E.size _;have az:=E.size;generalize aa.alloc (.cells #[.string ⟨#[]⟩,.slice none 0 0,.int .i64 0,.int .i64 0,.bool false,.int .i64 0,.slice none 0 0,.int .u32 0] 37)=w3 at af al ⊢;generalize aa.heap.size=X at af az ⊢;refine hK.out _ _ al (fun _=> ?_);clear hK K E;have E:=al;clear al;refine rdH (i:=5) fun K hK=> ?_
         go_simp
         refine(Aa cq _ E).mono ?_;rintro e ar ⟨rfl,ao⟩;obtain rfl:w3=ar:=ao.symm;dsimp only;refine hK.out _ _ E (fun _=> ?_);clear hK K;refine tkH (i:=6) (v:=.int .u32 (I:Int)) E ?_;simp only[Act.put,VA,VC,VD];refine tkH (i:=7) (v:=.agg #[.string ⟨#[]⟩,.slice none 0 0,.int .i64 0,.int .i64 0,.bool false,.int .i64 (M:Int),.slice none 0 0,.int .u32 (I:Int)]) E ?_;simp only[Act.put,VA,VC,VD];refine rdH (i:=9) fun K hK=> ?_
         rw[if_pos (by rfl)];refine wp_store_row 37 (.tmp 14) (.tmp 100) rfl X #[.string ⟨#[]⟩,.slice none 0 0,.int .i64 0,.int .i64 0,.bool false,.int .i64 (M:Int),.slice none 0 0,.int .u32 (I:Int)] rfl rfl 37 _ af (by kernel_rfl) rfl (by simp[Value.oneCell']) ?_;have a3:(w3.setRow X #[.string ⟨#[]⟩,.slice none 0 0,.int .i64 0,.int .i64 0,.bool false,.int .i64 (M:Int),.slice none 0 0,.int .u32 (I:Int)]).heap[X]? =some (.cells #[.string ⟨#[]⟩,.slice none 0 0,.int .i64 0,.int .i64 0,.bool false,.int .i64 (M:Int),.slice none 0 0,.int .u32 (I:Int)] 37 (0,0)):=setRow_heap _ _ _ _ _ _ af;have ax:=Yv E az (#[.string ⟨#[]⟩,.slice none 0 0,.int .i64 0,.int .i64 0,.bool false,.int .i64 (M:Int),.slice none 0 0,.int .u32 (I:Int)]:Array Value);refine hK.out _ _ ax (fun _=> ?_);clear hK K;refine wpAnyH_done (by kernel_rfl) ?_ _;go_wp2_with fail
         go_meet
         exact⟨X,rfl,Ab ⟨a3,az,ax⟩⟩
     . go_simp
       have af:=heap_alloc_new aa (.cells #[.string ⟨#[]⟩,.slice none 0 0,.int .i64 0,.int .i64 0,.bool false,.int .i64 0,.slice none 0 0,.int .u32 0] 37);have al:Below wr.heap.size wr (aa.alloc (.cells #[.string ⟨#[]⟩,.slice none 0 0,.int .i64 0,.int .i64 0,.bool false,.int .i64 0,.slice none 0 0,.int .u32 0] 37)):=E.alloc E.size _;have az:=E.size;generalize aa.alloc (.cells #[.string ⟨#[]⟩,.slice none 0 0,.int .i64 0,.int .i64 0,.bool false,.int .i64 0,.slice none 0 0,.int .u32 0] 37)=w3 at af al ⊢;generalize aa.heap.size=X at af az ⊢;refine hK.out _ _ al (fun _=> ?_);clear hK K E;have E:=al;clear al;refine rdH (i:=2) fun K hK=> ?_
       go_simp
       refine(Aa c8 _ E).mono ?_;rintro e ar ⟨rfl,ao⟩;obtain rfl:w3=ar:=ao.symm;dsimp only;refine hK.out _ _ E (fun _=> ?_);clear hK K;refine rdH (i:=5) fun K hK=> ?_
       go_simp
       refine(Aa cq _ E).mono ?_;rintro e ar ⟨rfl,ao⟩;obtain rfl:w3=ar:=ao.symm;dsimp only;refine hK.out _ _ E (fun _=> ?_);clear hK K;refine tkH (i:=6) (v:=.int .u32 (I:Int)) E ?_;simp only[Act.put,VA,VC,VD];refine tkH (i:=7) (v:=.agg #[.string ⟨#[]⟩,.slice none 0 0,.int .i64 0,.int .i64 0,.bool false,.int .i64 (M:Int),.slice none 0 0,.int .u32 (I:Int)]) E ?_;simp only[Act.put,VA,VC,VD];refine rdH (i:=9) fun K hK=> ?_
       rw[if_pos (by rfl)];refine wp_store_row 37 (.tmp 14) (.tmp 100) rfl X #[.string ⟨#[]⟩,.slice none 0 0,.int .i64 0,.int .i64 0,.bool false,.int .i64 (M:Int),.slice none 0 0,.int .u32 (I:Int)] rfl rfl 37 _ af (by kernel_rfl) rfl (by simp[Value.oneCell']) ?_;have a3:(w3.setRow X #[.string ⟨#[]⟩,.slice none 0 0,.int .i64 0,.int .i64 0,.bool false,.int .i64 (M:Int),.slice none 0 0,.int .u32 (I:Int)]).heap[X]? =some (.cells #[.string ⟨#[]⟩,.slice none 0 0,.int .i64 0,.int .i64 0,.bool false,.int .i64 (M:Int),.slice none 0 0,.int .u32 (I:Int)] 37 (0,0)):=setRow_heap _ _ _ _ _ _ af;have ax:=Yv E az (#[.string ⟨#[]⟩,.slice none 0 0,.int .i64 0,.int .i64 0,.bool false,.int .i64 (M:Int),.slice none 0 0,.int .u32 (I:Int)]:Array Value);refine hK.out _ _ ax (fun _=> ?_);clear hK K;refine wpAnyH_done (by kernel_rfl) ?_ _;go_wp2_with fail
       go_meet
       exact⟨X,rfl,Ab ⟨a3,az,ax⟩⟩
    case rest=>
     rename World=>cj
     obtain⟨X,rfl,af⟩:=hcut;obtain⟨ha,a3,h5⟩:=Aa af;obtain⟨nml,co⟩:=exq ((r.drop 46).take F);obtain⟨nm,ff⟩:=exq (B (o8 nml));obtain⟨xs,bw⟩:=exq ((r.drop (46+F)).take 11);have jv:xs.length=11:=by rw[<-bw,VL,VQ];omega
     have e6:nml.length=F:=by rw[<-co,VL,VQ];omega
     have cm:∀x∈xs,x<256:=fun x Z=>Aa bn x (by rw[<-bw]at Z;exact VW (VR Z))
     have dn:∀i,i<xs.length->wr.cell? ⟨g,o+p+(46+F)+i,none⟩=some (.int .u8 ((xs.getD i 0:Nat):Int)):=by
      intro i hi
      have e2:xs.getD i 0=r.getD (46+F+i) 0:=by
       rw[<-bw];simp only[List.getD];rw[XX (by omega),XJ]
      rw[e2,WT];exact Aa b5 (46+F+i) (by rw[gq];omega)
     have hs:Hid (∀W,Below wr.heap.size wr W->(convert 23 9 (.slice (some ⟨g,o+p+46,none⟩) F (G-p-46))).run Tryz.prog W=.ok (.string nm) W):=Ab (fun W O=>by
      have bh:BytesIn wr (some ⟨g,o+p+46,none⟩) nml:=by rw[<-co];exact Sk ay (Aa b5) 46 F
      have c6:=Z7 (some ⟨g,o+p+46,none⟩) F (G-p-46) nml W e6 (bh.below O (VB _));rw[c6,<-ff];rfl)
     obtain⟨bq,dq⟩:=exq (xs.getD 10 0)
     have h7:Hid (∀W,Below wr.heap.size wr W->W.cell? ⟨g,o+p+(46+F)+10,none⟩=some (.int .u8 (bq:Int))):=Ab (fun W O=>by
      rw[O.cell (p:=⟨g,_,none⟩) ay,<-dq];exact dn 10 (by omega))
     have eo:=Ab (Cw ay dn cm 4 8 4 (G-p-(46+F)-4) rfl (by omega) (by omega) (by omega));have ei:=Ab (Cw ay dn cm 8 10 2 (G-p-(46+F)-8) rfl (by omega) (by omega) (by omega));obtain⟨aj,ck⟩:=exq (Dh xs 4 8);obtain⟨ai,cg⟩:=exq (Dh xs 8 10);have l6:aj<4294967296:=by rw[<-ck];exact Dm cm rfl
     have lz:ai<65536:=by rw[<-cg];exact Dm cm rfl
     rw[ck]at eo;rw[cg]at ei;obtain⟨gn,e8⟩:=exq (((bq:Int)==1));have kz:=Gq g (o+p) m (G-p) 46 (46+F) 46 (46+(F:Int)) F rfl (by omega) (by omega) (by omega) (by omega) (by omega) (by omega);have i5:=Gq g (o+p+(46+F)) 11 (G-p-(46+F)) 4 8 4 8 4 rfl rfl (by omega) (by omega) (by omega) (by omega) rfl;have i7:=Gq g (o+p+(46+F)) 11 (G-p-(46+F)) 8 10 8 10 2 rfl rfl (by omega) (by omega) (by omega) (by omega) rfl;obtain⟨Y,cp⟩:=exq ((bs.drop (a8+30+F+11)).take H);have fw:=Ab (show nml.length=F/\B (o8 nml)=nm/\(r.drop 46).take F=nml/\Dh xs 4 8=aj/\Dh xs 8 10=ai/\((bq:Int)==1)=gn/\xs.getD 10 0=bq/\(r.drop (46+F)).take 11=xs from ⟨e6,ff,co,ck,cg,e8,dq,bw⟩);have jw:IntKind.i64.wrap (46+(F:Int))=46+(F:Int):=by simp[IntKind.wrap,IntKind.signed,IntKind.bits];omega
     have a1:Hid (JR bs T r=(unpD M Y).bind fun ys=>some (⟨⟨o8 nml,o8 ys,((aj:Nat):Int),((ai:Nat):Int),gn⟩,M,Y,I⟩,r.drop (46+F+11))):=Ab (by
      unfold JR;rw[if_neg (by omega),Aa dc,Aa c5,Aa dd,if_neg (by rw[gq];exact hw),Aa gz,cp,Aa fm,bw,ck,cg,co,dq]
      have e:decide (bq=1)=gn:=by
       rw[<-e8]
       by_cases bh:bq=1
       . rw[bh];rfl
       . rw[decide_eq_false bh];symm;rw[beq_eq_false_iff_ne];omega
      rw[e])
     have fy:Y.length=H:=by rw[<-cp,VL,VQ,Aa bu];omega
     have de:Hid (∀x∈Y,x<256):=Ab (fun x Z=>Aa bf x (by rw[<-cp]at Z;exact VW (VR Z)))
     have cn:Hid (∀W,Below wr.heap.size wr W->BytesIn W (some ⟨g,o+(a8+30+F+11),none⟩) Y):=Ab (fun W O=>by
      rw[<-cp];exact Sk (VG ay O.size) (fun i hi=>(O.cell (p:=⟨g,_,none⟩) ay).trans (((Aa ag).cell (p:=⟨g,_,none⟩) ba).trans (Aa bi i hi))) _ _)
     have a6:=Ab fy;clear co bw jv e6 cm dn dq ck cg af ff cp fy;go_upto_region 18 with fail
     go_cut [14] (fun e0 bm=>e0=.pointer (some ⟨X,0,none⟩)/\Hid (bm.heap[X]? =some (.cells #[.string nm,.slice none 0 0,.int .i64 (aj:Int),.int .i64 (ai:Int),.bool gn,.int .i64 (M:Int),.slice none 0 0,.int .u32 (I:Int)] 37 (0,0))/\Below wr.heap.size wr bm))
     case first=>
      refine wp_region_held_drew (S:=fun W=>Below wr.heap.size wr W) (by kernel_rfl) (Ae h5 1) (fun E=> ?_);have et:cj.drew.heap[X]? =some (.cells #[.string ⟨#[]⟩,.slice none 0 0,.int .i64 0,.int .i64 0,.bool false,.int .i64 (M:Int),.slice none 0 0,.int .u32 (I:Int)] 37 (0,0)):=ha;generalize cj.drew=aa at E et ⊢;refine tkH (i:=0) (v:=.slice (some ⟨g,o+p,none⟩) m (G-p)) E ?_;simp only[Act.put,VA,VC,VD];refine tkH (i:=1) (v:=.int .i64 (F:Int)) E ?_;simp only[Act.put,VA,VC,VD];refine tkH (i:=2) (v:=.int .i64 (46+(F:Int))) E ?_;simp only[Act.put,VA,VC,VD];refine tkH (i:=3) (v:=.slice (some ⟨g,o+p+46,none⟩) F (G-p-46)) E ?_;simp only[Act.put,VA,VC,VD];refine wpAnyH_take (i:=4) (v:=.string nm) rfl (by kernel_rfl) (by kernel_rfl) (by kernel_rfl) (fun _ _ _ h=>h) (Or.inl ⟨by rfl,fun W em=>by have lg:=Aa hs W em;go_simp⟩) E ?_;simp only[Act.put,VA,VC,VD];refine tkH (i:=5) (v:=.slice (some ⟨g,o+p+(46+F),none⟩) 11 (G-p-(46+F))) E ?_;simp only[Act.put,VA,VC,VD];refine tkH (i:=6) (v:=.slice (some ⟨g,o+p+(46+F)+4,none⟩) 4 (G-p-(46+F)-4)) E ?_;simp only[Act.put,VA,VC,VD];refine tkH (i:=8) (v:=.slice (some ⟨g,o+p+(46+F),none⟩) 11 (G-p-(46+F))) E ?_;simp only[Act.put,VA,VC,VD];refine tkH (i:=9) (v:=.slice (some ⟨g,o+p+(46+F)+8,none⟩) 2 (G-p-(46+F)-8)) E ?_;simp only[Act.put,VA,VC,VD];refine tkH (i:=11) (v:=.slice (some ⟨g,o+p+(46+F),none⟩) 11 (G-p-(46+F))) E ?_;simp only[Act.put,VA,VC,VD];refine tkH (i:=12) (v:=.pointer (some ⟨g,o+p+(46+F)+10,none⟩)) E ?_;simp only[Act.put,VA,VC,VD];refine wpAnyH_take (i:=13) (v:=.int .u8 (bq:Int)) rfl (by kernel_rfl) (by kernel_rfl) (by kernel_rfl) (fun _ _ _ h=>h) (Or.inl ⟨by rfl,fun W em=>by have l8:=Aa h7 W em;go_simp⟩) E ?_;simp only[Act.put,VA,VC,VD];refine tkH (i:=14) (v:=.bool gn) E ?_;simp only[Act.put,VA,VC,VD];refine rdH (i:=7) fun K hK=> ?_
      go_simp
      refine(Aa eo _ E).mono ?_;rintro e ar ⟨rfl,ao⟩;obtain rfl:aa=ar:=ao.symm;dsimp only;refine hK.out _ _ E (fun _=> ?_);clear hK K;refine rdH (i:=10) fun K hK=> ?_
      go_simp
      refine(Aa ei _ E).mono ?_;rintro e ar ⟨rfl,ao⟩;obtain rfl:aa=ar:=ao.symm;dsimp only;refine hK.out _ _ E (fun _=> ?_);clear hK K;refine tkH (i:=15) (v:=.agg #[.string nm,.slice none 0 0,.int .i64 (aj:Int),.int .i64 (ai:Int),.bool gn]) E ?_;simp only[Act.put,VA,VC,VD];refine rdH (i:=16) fun K hK=> ?_
      go_simp
      refine hK.out _ _ E (fun _=> ?_);clear hK K;refine rdH (i:=17) fun K hK=> ?_
      rw[if_pos (by rfl)];refine wp_store_mid 30 (.tmp 117) (.tmp 116) rfl X 0 #[.string nm,.slice none 0 0,.int .i64 (aj:Int),.int .i64 (ai:Int),.bool gn] rfl rfl (RF et) (by kernel_rfl) (by kernel_rfl) ?_;obtain⟨i1,iy⟩:=Z8t aa X 37 _ _ _ _ _ _ _ _ (.string nm) (.slice none 0 0) (.int .i64 (aj:Int)) (.int .i64 (ai:Int)) (.bool gn) et;have ax:=E.grown iy E.size (fun g e=>by cases e;exact a3);refine hK.out _ _ ax (fun _=> ?_);clear hK K;refine wpAnyH_done (by kernel_rfl) ?_ _;go_wp2_with fail
      go_meet
      exact⟨rfl,Ab ⟨i1,ax⟩⟩
     case rest=>
      rename World=>bm
      obtain⟨rfl,h9⟩:=hcut;obtain⟨c7,e1⟩:=Aa h9;obtain⟨ak,i3⟩:=exq (a8+30+F+11);have hz:=Gq g o n G ak (ak+H) ((a8:Int)+30+(F:Int)+11) ((a8:Int)+30+(F:Int)+11+(H:Int)) H (by omega) (by omega) (by omega) (by omega) ee (by omega) (by omega);obtain⟨CF,hq⟩:=exq (G-ak);have g7:H<=CF:=by omega
      rw[hq]at hz;clear hq;have hu:=Ac (i:=6) c7;simp only[VZ,VY,WI]at hu;have kq:=frozen_of_row bm X 6 _ _ c7;obtain⟨w6,dy⟩:=exq (bm.setCell ⟨X,6,none⟩ (.slice (some ⟨g,o+ak,none⟩) H CF))
      have cd:w6.heap[X]? =some (.cells (#[.string nm,.slice none 0 0,.int .i64 (aj:Int),.int .i64 (ai:Int),.bool gn,.int .i64 (M:Int),.slice (some ⟨g,o+ak,none⟩) H CF,.int .u32 (I:Int)]) 37 (0,0)):=by
       rw[<-dy,heap_setCell_same bm X 6 _ _ _ c7];rfl
      have gj:Below wr.heap.size wr w6:=by rw[<-dy];exact e1.grown (Ad bm X 6 _) e1.size (fun g e=>by cases e;exact a3)
      have g0:=Ab dy;clear dy;clear ha h5 h9 c8 cq eo ei hs h7 kz i5 i7 j1 i6 ie jw ij e1 e8;rw[i3]at cn;have da:=Ab cd;have a5:=Ab gj;have b7:=Ac (i:=5) cd;have fj:=Ac (i:=6) cd;have k1:=Ac (i:=1) cd;simp only[VZ,VY,WI]at b7 fj k1;have fk:=fun j=>frozen_of_row w6 X j _ _ cd
      have f1:=fk 1;clear cd gj fk;go_upto_region 21 with fail
      rw[Aa g0];clear hu kq hz c7 g0;go_upto_block 2 with fail
      go_cut [16,17,18,19] (fun _ _ _ _ ae=>∃ys fa fc,Hid (unpD M Y=some ys/\ae.heap[X]? =some (.cells (#[.string nm,.slice fa ys.length fc,.int .i64 (aj:Int),.int .i64 (ai:Int),.bool gn,.int .i64 (M:Int),.slice (some ⟨g,o+ak,none⟩) H CF,.int .u32 (I:Int)]) 37 (0,0))/\Below wr.heap.size wr ae/\PkIn ae fa fc ys/\ys.length<=fc/\∀ah au,fa=some ⟨ah,au,none⟩->ah<w.heap.size\/wr.heap.size<=ah))
      case first=>
       by_cases m0:M=0
       . subst m0
         have fg:Hid (∀W,w6.setCell ⟨X,1,none⟩ (.slice (some ⟨g,o+ak,none⟩) H CF)=W->∃ys fa fc,Hid (unpD 0 Y=some ys/\W.heap[X]? =some (.cells (#[.string nm,.slice fa ys.length fc,.int .i64 (aj:Int),.int .i64 (ai:Int),.bool gn,.int .i64 ((0:Nat):Int),.slice (some ⟨g,o+ak,none⟩) H CF,.int .u32 (I:Int)]) 37 (0,0))/\Below wr.heap.size wr W/\PkIn W fa fc ys/\ys.length<=fc/\∀ah au,fa=some ⟨ah,au,none⟩->ah<w.heap.size\/wr.heap.size<=ah)):=Ab (by
          intro W O;have c9:Below wr.heap.size wr W:=by rw[<-O];exact(Aa a5).grown (Ad w6 X 1 _) (Aa a5).size (fun g e=>by cases e;exact a3)
          refine⟨Y,some ⟨g,o+ak,none⟩,CF,Ab ⟨by unfold unpD;rw[if_pos rfl], ?_,c9,⟨Aa cn W c9,fun e=>by cases e⟩,by rw[Aa a6];exact g7,fun ah au e=>.inl (by cases e;exact ba)⟩⟩;rw[<-O,heap_setCell_same w6 X 1 _ _ _ (Aa da),Aa a6];rfl)
         replace b7:w6.cell? ⟨X,5,none⟩=some (.int .i64 0):=b7;clear a1 av ap bb b3 bc bd;go_wp2;go_meet
         exact Aa fg _ rfl
       have ko:((M:Int)==0)=false:=by rw[beq_eq_false_iff_ne];omega
       by_cases hk:M=8
       . subst hk;clear ko;replace b7:w6.cell? ⟨X,5,none⟩=some (.int .i64 8):=b7;have k0:H<=12000:=by omega
         have gg:Hid (en\/ (Oh (rowB Y H)).e=0):=Ab (by
          rcases Aa bd with bh|bh
          . exact .inl bh
          . refine .inr ?_
            by_cases c6:(Oh (rowB Y H)).e=0
            . exact c6
            . exfalso
              apply bh
              rw[Aa bb,Aa a1]
              have:unpD 8 Y=none:=by
               unfold unpD;rw[if_neg (by decide),if_pos rfl,Aa a6,if_neg (fun d6=>c6 d6.1)]
              rw[this];rfl)
         have b4:Hid (unpD 8 Y=if (Oh (rowB Y H)).e=0/\((Oh (rowB Y H)).p+7)/8=H/\H<=6000 then some (Oh (rowB Y H)).out else none):=Ab (by
          unfold unpD;rw[if_neg (by decide),if_pos rfl,Aa a6])
         have d9:=Ab (Aa bc w6 (some ⟨g,o+ak,none⟩) H CF Y (Aa a6) k0 (Aa cn w6 (Aa a5)) (Aa de) (Aa gg));have fq:Hid (∀W,Below w6.heap.size w6 W->Below w.heap.size w W):=Ab (fun W O=>(Aa ag).trans (((Aa a5).trans (O.mono (Aa a5).size)).mono (Aa ag).size));have g5:Hid (X<w6.heap.size):=Ab (VK.1 (Aa da)).1;clear bc bd gg bb b3 av;go_wp2_with fail
         refine(Aa d9).mono ?_;rintro e a4 ⟨cu,j8⟩;have b9:=(cu.block X (Aa g5)).trans (Aa da);have ix:=Ac (i:=6) b9;have ju:=Ac (i:=1) b9;simp only[VZ,VY,WI]at ix ju;have lk:=frozen_of_row a4 X 1 _ _ b9
         rcases j8 with ⟨dw,ov,gv,kv,rfl,ew,f5⟩|⟨dw,rfl⟩
         . generalize Oh (rowB Y H)=U at*;obtain⟨ce,d8⟩:=exq ((U.p+7)/8);obtain⟨j7,dx⟩:=exq (U.out.length);rw[dx]at ew;rw[d8,dx];have fi:=Ab ew;have dm:=Ab f5;have hh:=Ab d8;have fh:=Ab dx;have ek:=Ab b9;have ed:=Ab cu;clear ew f5 d8 dx b9 cu d9
           by_cases li:ce≠H\/6000<H
           . have ac:=Ab (Aa ap (by rw[Aa a1,Aa b4,if_neg (by rw[Aa hh];omega)];rfl) a4 (Aa fq a4 (Aa ed)));clear ap a1 b4 fi dm ek
             by_cases lh:ce≠H
             . have hf:((ce:Int)!=(H:Int))=true:=by simp only[bne_iff_ne,ne_eq];omega
               go_wp2;go_ret2;exact Aa ac
             . have hf:((ce:Int)!=(H:Int))=false:=by simp only[bne_eq_false_iff_eq];omega
               have jr:(6000:Int)<(H:Int):=by omega
               go_wp2;go_ret2;exact Aa ac
           . have hf:((ce:Int)!=(H:Int))=false:=by simp only[bne_eq_false_iff_eq];omega
             have jr:¬(6000:Int)<(H:Int):=by omega
             have fg:Hid (∀W,a4.setCell ⟨X,1,none⟩ (.slice ov j7 gv)=W->∃ys fa fc,Hid (unpD 8 Y=some ys/\W.heap[X]? =some (.cells (#[.string nm,.slice fa ys.length fc,.int .i64 (aj:Int),.int .i64 (ai:Int),.bool gn,.int .i64 ((8:Nat):Int),.slice (some ⟨g,o+ak,none⟩) H CF,.int .u32 (I:Int)]) 37 (0,0))/\Below wr.heap.size wr W/\PkIn W fa fc ys/\ys.length<=fc/\∀ah au,fa=some ⟨ah,au,none⟩->ah<w.heap.size\/wr.heap.size<=ah)):=Ab (by
              intro W O;have gi:Below wr.heap.size wr a4:=(Aa a5).trans ((Aa ed).mono (Aa a5).size);have c9:Below wr.heap.size wr W:=by rw[<-O];exact gi.grown (Ad a4 X 1 _) gi.size (fun g e=>by cases e;exact a3)
              obtain⟨lq,k7,b0,ib,kh⟩:=Aa fi;rw[Aa fh]at b0 ib
              cases b0
              have k6:=(Aa a5).size;refine⟨U.out,ov,gv,Ab ⟨by rw[Aa b4,if_pos ⟨dw,by rw[Aa hh];omega,by omega⟩], ?_,c9, ?_,by rw[Aa fh];exact ib,fun ah au e=>.inr (by have:=Aa dm ah au e;omega)⟩⟩
              . rw[<-O,heap_setCell_same a4 X 1 _ _ _ (Aa ek),Aa fh];rfl
              . rw[<-O];refine kh.grown (Ad a4 X 1 _) (fun ah au e ig e2=> ?_);have hv:=Aa dm ah au e;have j3:=Aa g5
                cases e2
                omega)
             clear ap a1 b4 fi dm ek ed;go_wp2;go_meet
             exact Aa fg _ rfl
         . have ac:=Ab (Aa ap (by rw[Aa a1,Aa b4,if_neg (fun d6=>dw d6.1)];rfl) a4 (Aa fq a4 cu));have ig:((Oh (rowB Y H)).e !=0)=true:=by simp only[bne_iff_ne,ne_eq];exact dw
           clear ap a1 b4 d9 cu b9;generalize (Oh (rowB Y H)).e=k3 at*;go_wp2;go_ret2;exact Aa ac
       . have k5:((M:Int)==8)=false:=by rw[beq_eq_false_iff_ne];omega
         have ac:=Ab (Aa ap (by rw[Aa a1,show unpD M Y=none by unfold unpD;rw[if_neg m0,if_neg hk]];rfl) w6 ((Aa ag).trans ((Aa a5).mono (Aa ag).size)));clear av ap bb b3 bc bd a1;go_wp2;go_ret2;exact Aa ac
      case rest=>
       rename World=>ae
       obtain⟨ys,fa,fc,h2⟩:=hcut;obtain⟨di,a7,du,gx,f9,g4⟩:=Aa h2;obtain⟨j5,h0,kg,jh,jf,i9,j9,js⟩:=Aa fw;have fu:∀x∈ys,x<256:=Wt (Aa de) (by rw[<-Le];exact di);have ji:ys.length<=12000:=BC (by rw[Aa a6];omega) di;obtain⟨y,bz⟩:∃y:Ev,y=⟨⟨⟨o8 nml,o8 ys,((aj:Nat):Int),((ai:Nat):Int),gn⟩,M,Y,I⟩,fa,fc,some ⟨g,o+ak,none⟩,CF⟩:=⟨_,rfl⟩
       obtain⟨ho,d5⟩:=exq (ys.length)
       have h3:y.rcells= [.string nm,.slice fa ho fc,.int .i64 (aj:Int),.int .i64 (ai:Int),.bool gn,.int .i64 (M:Int),.slice (some ⟨g,o+ak,none⟩) H CF,.int .u32 (I:Int)]:=by
        rw[bz];simp only[Ev.rcells,Ey,d5,Aa a6,h0]
       have f3:EvR ae y:=by
        rw[bz];refine⟨⟨?_,by simp only[Ey];exact f9,by simp only[Ey];omega,by simp only[Ey];omega,Aa cn ae du,fun e=>by cases e⟩,by simp only[];rw[Aa a6];exact g7⟩;simp only[];rw[Z0w fu];exact gx
       have h6:y.lies (fun b=>some b≠u9.ownBlock):=by
        rw[bz]
        constructor
        . intro b au b0 e2 e3;have hv:=(Aa bg).own.lt b e3.symm;have j3:=g4 b au b0;omega
        . intro b au b0 e2 e3;have hv:=(Aa bg).own.lt b e3.symm
          cases b0
          omega
       have h1:EWd y.e/\∀z∈y.e.pk,z<256:=by
        rw[bz];exact⟨⟨⟨by simp only[];omega,by simp only[];omega⟩,⟨by simp only[];omega,by simp only[];omega⟩,by simp only[Ey];omega,by simp only[Ey];omega,by simp only[];rw[Aa a6];omega,gh,iz⟩,Aa de⟩
       have h4:y.e=⟨⟨o8 nml,o8 ys,((aj:Nat):Int),((ai:Nat):Int),gn⟩,M,Y,I⟩:=by rw[bz]
       have kj:Hid (Tt bs=(Np bs T (N-(k+1)) ((bs.drop (p+(46+F+11))).take (m-(46+F+11)))).map ((es++ [y]).map Ev.e++ ·)):=Ab (by
        rw[Aa bb,Aa a1,di,VF,VF,<-Aa gy,Tu bs p m _ (by omega),show N-(k+1)=j by have:=Aa ki;omega,Option.map_map,h4.symm]
        congr 1
        funext l
        simp)
       have j0:=Ac (i:=0) a7;have f6:=Ac (i:=1) a7;have i0:=Ac (i:=2) a7;have jp:=Ac (i:=3) a7;have iw:=Ac (i:=4) a7;have ku:=Ac (i:=5) a7;have kx:=Ac (i:=6) a7;have jq:=Ac (i:=7) a7;simp only[VZ,VY,WI]at j0 f6 i0 jp iw ku kx jq;rw[d5]at f6;have d7:Below w.heap.size w ae:=(Aa ag).trans (du.mono (Aa ag).size);have g9:RRow ae w.heap.size u9 es:=(Aa bg).below du;have gd:=Ab (fun o1:Obj=>g9.below ((Below.refl ae.heap.size ae).alloc (VB _) o1));have hj:=Ab (fun o1:Obj=>f3.below ((Below.refl ae.heap.size ae).alloc (VB _) o1));have ft:=Ab h6
       have hx:Hid (∀o1,o1=Obj.cells #[.string nm,.slice fa ho fc,.int .i64 (aj:Int),.int .i64 (ai:Int),.bool gn,.int .i64 (M:Int),.slice (some ⟨g,o+ak,none⟩) H CF,.int .u32 (I:Int)] 37->∀j u,y.rcells[j]? =some u->(ae.alloc o1).cell? ⟨ae.heap.size,j,none⟩=some u):=Ab (fun o1 e j u a2=>by
        subst e;rw[Ac (heap_alloc_new ae _)];rw[h3]at a2;simpa using a2)
       have jg:Hid (es.length+1<=100000):=Ab (by have:=Aa cv;omega);have fx:=Ab d7;have l0:w.heap.size<=ae.heap.size:=d7.size;have iq:=Ab h1;have ll:=Z2h g (o+p) m (G-p) (46+F+11) (46+(F:Int)+11) (m-(46+F+11)) (by omega) (by omega) (by omega) (by omega) rfl;clear h2 di a7 du gx f9 g4 f3 h6 h1 g9 d7 h3 fu ji h4 j5 h0 kg jh jf i9 j9 js fw a1 av ap bb bc bd de cn da a5 b5 bn fm gz dc c5 dd bi bf b3 k1 b7 fj f1 d5 bz;go_wp2_with (at_builtin;refine Kz _ rfl _ _ rfl w.heap.size _ es rfl (Aa gd _) ae.heap.size y rfl (Aa hx _ rfl) (Aa hj _) (Aa ft) (Aa jg) (by simp;omega) ?_)
       intro v' jc jm g8;have ip:Hid (Below w.heap.size w jc):=Ab (((Aa fx).alloc (Aa fx).size _).grown (Aa g8) (by simp;omega) (fun b e=>((Aa bg).own.lt b e).1));clear gd hj hx ft g8;go_wp2;go_roundw
       case rel=>
        refine⟨k+1,p+(46+F+11),m-(46+F+11),es++ [y],by omega,by go_num,by rw[WT,Nat.sub_sub],Ab (by omega),Ab (by rw[VE,Aa cv];rfl),jm,ip,kj,Ab (fun x Z=> ?_)⟩
        rcases WP.1 Z with Z|Z
        . exact Aa O x Z
        . rw[WO.1 Z];exact Aa iq
       case measure=>simp[intOf];omega
  . obtain rfl:N=k:=by omega
    obtain⟨ad,ep,fp,e5⟩:=(Aa bg).entries;rw[Aa cv]at fp;subst fp;have gw:Hid (Tt bs=some (es.map Ev.e)):=Ab (by rw[Aa ct,XW,Np];simp);have f7:=Ab (Z18 ad ep N es wr e5 (Aa cv) (by omega) (fun x Z=>(Aa O x Z).1));have h8:=Ab e5
    have ht:Hid (∀j,(Be (es.map Ev.e)).getD j 0<256):=Ab (Er (Yx _ (fun x Z=>by
     obtain⟨z,ic,rfl⟩:=XG.1 Z;exact(Aa O z ic).2)))
    have f4:Hid (∀j,bs.getD j 0<256):=Ab (Er (Aa bf));have ia:Hid (∀W,Below w.heap.size w W->BytesIn W (some ⟨g,o,none⟩) bs):=Ab (fun W O=>.inr ⟨g,o,rfl,VG ba O.size,fun j a2=>(O.cell (p:=⟨g,_,none⟩) ba).trans (Aa bi j a2)⟩);clear e5 av bc bd b3 ct bf bi;go_wp2_with fail
    refine(Aa f7).mono ?_;rintro e w3 ⟨k9,rfl,jt,e9⟩;obtain⟨ja,je,rfl,dz,gu⟩:=jt;obtain⟨j6,ey⟩:=exq ((Be (es.map Ev.e)).length);rw[ey];have eu:Below w.heap.size w w3:=(Aa ag).trans (e9.mono (Aa ag).size);have jj:=Ab (P4 ja (some ⟨g,o,none⟩) j6 je n G (Be (es.map Ev.e)) bs w3 ey (Aa bu) (Aa ht) (Aa f4) gu.1 (Aa ia w3 eu));have ac:Hid (EnD w bs (.returned (.tuple #[.slice ad N ep,.bool (Be (es.map Ev.e)==bs)])) w3):=Ab ⟨eu,.inr ⟨es,ad,ep,Aa gw,by rw[Aa cv],(Aa h8).below e9⟩⟩;generalize (Be (es.map Ev.e)==bs)=eqB at*;clear e9 eu dz gu ey f7 ht f4 ia h8 gw bg O ag;go_wp2_with fail
    refine(Aa jj).mono ?_;rintro e lw ⟨rfl,rfl⟩;go_wp2;go_ret2;exact Aa ac
end Go.Proofs.YtleocpdblhbimaaGreatDoor
