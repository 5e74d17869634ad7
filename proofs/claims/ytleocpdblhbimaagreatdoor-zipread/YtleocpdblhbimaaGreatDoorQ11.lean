import Derived.Test.YtleocpdblhbimaaGreatDoorQ8
import Derived.Test.YtleocpdblhbimaaGreatDoorQ10
import Derived.Deep.RegionHeld3
import Derived.Deep.CutBlock
set_option linter.unusedSimpArgs false
set_option maxHeartbeats 8000000
namespace Go.Proofs.YtleocpdblhbimaaGreatDoor
open Go.RowKit
set_option linter.unusedVariables false
set_option maxRecDepth 100000
def UnA (w:World)(pk:List Nat)(n:Nat)(e:Ending)(w':World):Prop:=Below w.heap.size w w'/\
 (((Oh (rowB pk n)).e=0/\∃ov oc kv,e=.returned (.tuple #[.slice ov (Oh (rowB pk n)).out.length oc,.int .i64 ((((Oh (rowB pk n)).p+7)/8:Nat):Int),kv,.int .i64 0])/\PIn w' (.slice ov (Oh (rowB pk n)).out.length oc) (Oh (rowB pk n)).out/\∀g o,ov=some ⟨g,o,none⟩->w.heap.size<=g)\/
  ((Oh (rowB pk n)).e≠0/\e=.returned (.tuple #[.slice none 0 0,.int .i64 0,.slice none 0 0,.int .i64 (Oh (rowB pk n)).e])))
def UnC (Gd:Prop):Prop:=∀(W:World) (a:Option Addr) (n c:Nat) (pk:List Nat),pk.length=n->n<=12000->BytesIn W a pk->(∀x∈pk,x<256)->(Gd\/ (Oh (rowB pk n)).e=0)->
 Calls Tryz.prog 39 #[.slice a n c] W fun e w'=>UnA W pk n e w'
def EnD (w:World)(bs:List Nat)(e:Ending)(w':World):Prop:=Below w.heap.size w w'/\
 ((Tt bs=none/\e=.returned (.tuple #[.slice none 0 0,.bool false]))\/
  ∃es ad c,Tt bs=some (es.map Ev.e)/\e=.returned (.tuple #[.slice ad es.length c,.bool (Be (es.map Ev.e)==bs)])/\RsIn w' ad es)
theorem RsIn.below {w w':World}{H:Option Addr}{xs:List Ev}(E:RsIn w H xs)(F:Below w.heap.size w w'):RsIn w' H xs:=by
 refine⟨?_,fun x G=>⟨(E.all x G).1.below F,(E.all x G).2⟩⟩
 rcases E.at_ with O|⟨b,o,e,hb,I⟩
 . exact .inl O
 . exact .inr ⟨b,o,e,VG hb F.size,fun j x M i hi=>(World.cell?_of_block (w:=w) (a:=⟨b,_,none⟩) (F.block b hb)).trans (I j x M i hi)⟩
theorem BC {m:Nat}{pk ys:List Nat}(F:pk.length<=12000)(E:unpD m pk=some ys):ys.length<=12000:=by
 rw[Le]at E;unfold unpF at E
 split at E
 . cases E;exact F
 . split at E
   . split at E
     . rename_i c
       cases E
       have:=(Rn (rowB pk pk.length) pk.length (Af _ _) c.2.1).2.2.1
       omega
     . cases E
   . cases E
theorem Z4 (a:Option Addr)(n G:Nat)(bs:List Nat)(w:World)(c6:bs.length=n)(j1:n<=12000)(eh:n<=G)(ej:PkIn w a G bs)(cl:∀x∈bs,x<256)(dm:Prop)(dn:dm\/Tt bs≠none)(dx:UnC dm):
 Calls Tryz.prog 10 #[.slice a n G] w fun e w'=>EnD w bs e w':=by
 have ap:Hid (Tt bs=none->∀W,Below w.heap.size w W->EnD w bs (.returned (.tuple #[.slice none 0 0,.bool false])) W):=Ab (fun h W O=>⟨O,.inl ⟨h,rfl⟩⟩)
 by_cases kk:n<22
 . have aa:=Ab (Aa ap (by unfold Tt;rw[if_pos (by omega)]) w (Below.refl _ _));have je:(n:Int)<22:=by omega
   clear ej cl c6 dx dn ap;go_enter Tryz.func10,Tryz.ntmps10
   go_wp2;go_ret2;exact Aa aa
 have je:¬(n:Int)<22:=by omega
 obtain⟨g,o,rfl,a1,d1⟩:=Dz ej.1 (by omega);obtain⟨q,iu⟩:=exq (n-22);have ir:=Z2h g o n G q ((n:Int)-22) 22 (by omega) (by omega) eh (by omega) (by omega);have i0:IntKind.i64.wrap ((n:Int)-22)=(n:Int)-22:=by simp[IntKind.wrap,IntKind.signed,IntKind.bits];omega
 have c8:∀j,j<(bs.drop q).length->w.cell? ⟨g,o+q+j,none⟩=some (.int .u8 (((bs.drop q).getD j 0:Nat):Int)):=by
  intro j ay;rw[VQ]at ay;have e:(bs.drop q).getD j 0=bs.getD (q+j) 0:=by simp only[List.getD];rw[XJ]
  rw[e,WT];exact d1 (q+j) (by omega)
 have bh:∀x∈bs.drop q,x<256:=fun x Z=>cl x (VW Z)
 have jp:(bs.drop q).length=22:=by rw[VQ];omega
 have it:=Gq g (o+q) 22 (G-q) 8 10 8 10 2 rfl rfl (by omega) (by omega) (by omega) (by omega) rfl;have ia:=Gq g (o+q) 22 (G-q) 12 16 12 16 4 rfl rfl (by omega) (by omega) (by omega) (by omega) rfl;have i5:=Gq g (o+q) 22 (G-q) 16 20 16 20 4 rfl rfl (by omega) (by omega) (by omega) (by omega) rfl;have bf:=Ab (Cw a1 c8 bh 8 10 2 (G-q-8) rfl (by omega) (by omega) (by omega));have bi:=Ab (Cw a1 c8 bh 12 16 4 (G-q-12) rfl (by omega) (by omega) (by omega));have bc:=Ab (Cw a1 c8 bh 16 20 4 (G-q-16) rfl (by omega) (by omega) (by omega));obtain⟨N,dg⟩:=exq (Dh (bs.drop q) 8 10);obtain⟨ar,di⟩:=exq (Dh (bs.drop q) 12 16);obtain⟨T,cz⟩:=exq (Dh (bs.drop q) 16 20);have aq:N<65536:=by rw[<-dg];exact Dm bh rfl
 have kx:ar<4294967296:=by rw[<-di];exact Dm bh rfl
 have j4:T<4294967296:=by rw[<-cz];exact Dm bh rfl
 rw[dg]at bf;rw[di]at bi;rw[cz]at bc;have c9:Hid (Tt bs=if 12<N\/T+ar+22≠n then none else Np bs T N ((bs.drop T).take ar)):=Ab (by unfold Tt;rw[if_neg (by omega),c6,iu,dg,di,cz]);have a8:=Ab d1;have bb:=Ab cl;have bj:=Ab c6;have a6:=Ab dx;have a2:=Ab dn;clear ej cl c6 dx dn c8 bh jp dg di cz d1;go_enter Tryz.func10,Tryz.ntmps10
 go_upto_region 4 with fail
 refine wp_region_held_drew (S:=fun W=>Below w.heap.size w W) (by kernel_rfl) (Ae (Below.refl _ _) 1) (fun E=> ?_);refine tkH (i:=0) (v:=.slice (some ⟨g,o+q,none⟩) 22 (G-q)) E ?_;simp only[Act.put,VA,VC,VD];refine tkH (i:=1) (v:=.slice (some ⟨g,o+q+8,none⟩) 2 (G-q-8)) E ?_;simp only[Act.put,VA,VC,VD];refine tkH (i:=3) (v:=.slice (some ⟨g,o+q,none⟩) 22 (G-q)) E ?_;simp only[Act.put,VA,VC,VD];refine tkH (i:=4) (v:=.slice (some ⟨g,o+q+12,none⟩) 4 (G-q-12)) E ?_;simp only[Act.put,VA,VC,VD];refine tkH (i:=6) (v:=.slice (some ⟨g,o+q,none⟩) 22 (G-q)) E ?_;simp only[Act.put,VA,VC,VD];refine tkH (i:=7) (v:=.slice (some ⟨g,o+q+16,none⟩) 4 (G-q-16)) E ?_;simp only[Act.put,VA,VC,VD];refine rdH (i:=2) fun K hK=> ?_
 go_simp
 refine(Aa bf _ E).mono ?_;rintro e w' ⟨rfl,rfl⟩;dsimp only;refine hK.out _ _ E (fun _=> ?_);clear hK K;refine rdH (i:=5) fun K hK=> ?_
 go_simp
 refine(Aa bi _ E).mono ?_;rintro e w' ⟨rfl,rfl⟩;dsimp only;refine hK.out _ _ E (fun _=> ?_);clear hK K;refine rdH (i:=8) fun K hK=> ?_
 go_simp
 refine(Aa bc _ E).mono ?_;rintro e w' ⟨rfl,rfl⟩;dsimp only;refine hK.out _ _ E (fun _=> ?_);clear hK K;refine rdH (i:=9) fun K hK=> ?_
 go_simp
 refine hK.out _ _ E (fun _=> ?_);clear hK K;refine rdH (i:=10) fun K hK=> ?_
 go_simp
 refine hK.out _ _ E (fun _=> ?_);clear hK K;refine rdH (i:=11) fun K hK=> ?_
 go_simp
 refine hK.out _ _ E (fun _=> ?_);clear hK K;refine wpAnyH_done (by kernel_rfl) ?_ _;clear ir i0 it ia i5 bf bi bc E;have c4:Below w.heap.size w w.drew:=Ae (Below.refl _ _) 1
 by_cases d8:12<N\/T+ar+22≠n
 . have aa:=Ab (Aa ap (by rw[Aa c9,if_pos d8]) w.drew c4);clear ap c9 a8 bb bj a6 a2 c4
   by_cases jz:12<N
   . have fy:(12:Int)<(N:Int):=by omega
     go_wp2;go_ret2;exact Aa aa
   . have fy:¬(12:Int)<(N:Int):=by omega
     have ht:((T:Int)+(ar:Int)+22 !=(n:Int))=true:=by simp only[bne_iff_ne,ne_eq];omega
     go_wp2;go_ret2;exact Aa aa
 have fy:¬(12:Int)<(N:Int):=by omega
 have h0:T+ar+22=n:=by omega
 have ht:((T:Int)+(ar:Int)+22 !=(n:Int))=false:=by simp only[bne_eq_false_iff_eq];omega
 have bn:Hid (Tt bs=Np bs T N ((bs.drop T).take ar)):=Ab (by rw[Aa c9,if_neg d8]);have ki:=Gq g o n G T (T+ar) (T:Int) ((T:Int)+(ar:Int)) ar rfl (by omega) (by omega) (by omega) eh (by omega) (by omega);have hk:=Ab c4;clear d8 c9 c4;go_wp2;go_loopw [8,9,10,11,12,13,14,15,16,17,18,19,55] (fun i1 h8 _ _ _ _ _ _ _ _ _ _ ed wr=>∃(k p m:Nat) (es:List Ev),k<=N/\ed=.int .i64 (k:Int)/\i1=.slice (some ⟨g,o+p,none⟩) m (G-p)/\Hid (p+m+22=n)/\Hid (es.length=k)/\Hid (RRow wr w.heap.size h8 es)/\Hid (Below w.heap.size w wr)/\Hid (Tt bs=(Np bs T (N-k) ((bs.drop p).take m)).map (es.map Ev.e++ ·))/\Hid (∀x∈es,EWd x.e/\∀y∈x.e.pk,y<256)) (fun _ _ _ _ _ _ _ _ _ _ _ _ ed _=>N-(intOf ed).toNat)
 case atStart=>exact⟨0,T,ar,[],VH _,rfl,rfl,Ab h0,Ab rfl,Ab (RRow.nil _ _),hk,Ab (by rw[Aa bn];simp),Ab (fun x Z=>by cases Z)⟩
 case round=>
  obtain⟨k,p,m,es,j3,rfl,rfl,hz,cd,a9,af,cj,O⟩:=hrel
  by_cases kg:k<N
  . have jt:=Aa hz;obtain⟨r,hr⟩:=exq ((bs.drop p).take m);obtain⟨j,ay⟩:∃j,N-k=j+1:=⟨N-k-1,by omega⟩
    have a0:Hid (Tt bs=((JR bs T r).bind fun x=>(Np bs T j x.2).map (x.1:: ·)).map (es.map Ev.e++ ·)):=Ab (by rw[Aa cj,ay,hr,Np]);have eu:r.length=m:=by rw[<-hr,VL,VQ,Aa bj];omega
    have am:Hid (JR bs T r=none->∀W,Below w.heap.size w W->EnD w bs (.returned (.tuple #[.slice none 0 0,.bool false])) W):=Ab (fun h W O=>Aa ap (by rw[Aa a0,h];rfl) W O);have as:g<wr.heap.size:=VG a1 (Aa af).size
    have bo:∀i,i<r.length->wr.cell? ⟨g,o+p+i,none⟩=some (.int .u8 ((r.getD i 0:Nat):Int)):=by
     intro i hi
     have e2:r.getD i 0=bs.getD (p+i) 0:=by
      rw[<-hr];simp only[List.getD];rw[XX (by omega),XJ]
     rw[e2,(Aa af).cell (p:=⟨g,_,none⟩) a1,WT];exact Aa a8 (p+i) (by rw[Aa bj];omega)
    have a4:∀x∈r,x<256:=fun x Z=>Aa bb x (by rw[<-hr]at Z;exact VW (VR Z))
    by_cases ju:m<46
    . have aa:=Ab (Aa am (by unfold JR;rw[if_pos (by omega)]) wr (Aa af));have id:(m:Int)<46:=by omega
      clear ap am a0 cj a9 O a8 bb bj a6 a2 bo a4 hr af;go_wp2;go_ret2;exact Aa aa
    have id:¬(m:Int)<46:=by omega
    have ik:=Gq g (o+p) m (G-p) 28 30 28 30 2 rfl rfl (by omega) (by omega) (by omega) (by omega) rfl;have io:=Gq g (o+p) m (G-p) 20 24 20 24 4 rfl rfl (by omega) (by omega) (by omega) (by omega) rfl;have ds:=Gq g (o+p) m (G-p) 42 46 42 46 4 rfl rfl (by omega) (by omega) (by omega) (by omega) rfl;have bf:=Ab (Cw as bo a4 28 30 2 (G-p-28) rfl (by omega) (by omega) (by omega));have bi:=Ab (Cw as bo a4 20 24 4 (G-p-20) rfl (by omega) (by omega) (by omega));have bc:=Ab (Cw as bo a4 42 46 4 (G-p-42) rfl (by omega) (by omega) (by omega));obtain⟨F,cm⟩:=exq (Dh r 28 30);obtain⟨H,dd⟩:=exq (Dh r 20 24);obtain⟨a3,cw⟩:=exq (Dh r 42 46);have ko:F<65536:=by rw[<-cm];exact Dm a4 rfl
    have kh:H<4294967296:=by rw[<-dd];exact Dm a4 rfl
    have jv:a3<4294967296:=by rw[<-cw];exact Dm a4 rfl
    rw[cm]at bf;rw[dd]at bi;rw[cw]at bc;have bk:=Ab bo;have bd:=Ab a4;have co:=Ab cm;have cp:=Ab dd;have ct:=Ab cw;have fp:=Ab hr;have dy:=Ab eu;have i6:=Ab ay;clear bo a4 cm dd cw hr eu ay cj;go_upto_region 13 with fail
    refine wp_region_held_drew (S:=fun W=>Below wr.heap.size wr W) (by kernel_rfl) (Ae (Below.refl _ _) 1) (fun E=> ?_);refine tkH (i:=0) (v:=.slice (some ⟨g,o+p,none⟩) m (G-p)) E ?_;simp only[Act.put,VA,VC,VD];refine tkH (i:=1) (v:=.slice (some ⟨g,o+p+28,none⟩) 2 (G-p-28)) E ?_;simp only[Act.put,VA,VC,VD];refine tkH (i:=3) (v:=.slice (some ⟨g,o+p,none⟩) m (G-p)) E ?_;simp only[Act.put,VA,VC,VD];refine tkH (i:=4) (v:=.slice (some ⟨g,o+p+20,none⟩) 4 (G-p-20)) E ?_;simp only[Act.put,VA,VC,VD];refine tkH (i:=6) (v:=.slice (some ⟨g,o+p,none⟩) m (G-p)) E ?_;simp only[Act.put,VA,VC,VD];refine tkH (i:=7) (v:=.slice (some ⟨g,o+p+42,none⟩) 4 (G-p-42)) E ?_;simp only[Act.put,VA,VC,VD];refine rdH (i:=2) fun K hK=> ?_
    go_simp
    refine(Aa bf _ E).mono ?_;rintro e w' ⟨rfl,rfl⟩;dsimp only;refine hK.out _ _ E (fun _=> ?_);clear hK K;refine rdH (i:=5) fun K hK=> ?_
    go_simp
    refine(Aa bi _ E).mono ?_;rintro e w' ⟨rfl,rfl⟩;dsimp only;refine hK.out _ _ E (fun _=> ?_);clear hK K;refine rdH (i:=8) fun K hK=> ?_
    go_simp
    refine(Aa bc _ E).mono ?_;rintro e w' ⟨rfl,rfl⟩;dsimp only;refine hK.out _ _ E (fun _=> ?_);clear hK K;refine rdH (i:=9) fun K hK=> ?_
    go_simp
    refine hK.out _ _ E (fun _=> ?_);clear hK K;refine rdH (i:=10) fun K hK=> ?_
    go_simp
    refine hK.out _ _ E (fun _=> ?_);clear hK K;refine rdH (i:=11) fun K hK=> ?_
    go_simp
    refine hK.out _ _ E (fun _=> ?_);clear hK K;refine wpAnyH_done (by kernel_rfl) ?_ _;clear ik io ds bf bi bc E;have b7:Below wr.heap.size wr wr.drew:=Ae (Below.refl _ _) 1
    by_cases fm:m<46+F+11\/T<a3+30+F+11+H
    . have aa:=Ab (Aa am (by unfold JR;rw[if_neg (by rw[Aa dy];omega),Aa co,Aa cp,Aa ct,Aa dy,if_pos fm]) wr.drew ((Aa af).trans (b7.mono (Aa af).size)));clear ap am a0 a9 O a8 bb bj a6 a2 bk bd fp co cp ct af b7
      by_cases j8:m<46+F+11
      . have g4:(m:Int)<46+(F:Int)+11:=by omega
        go_wp2;go_ret2;exact Aa aa
      . have g4:¬(m:Int)<46+(F:Int)+11:=by omega
        have h7:(T:Int)<(a3:Int)+30+(F:Int)+11+(H:Int):=by omega
        go_wp2;go_ret2;exact Aa aa
    have g4:¬(m:Int)<46+(F:Int)+11:=by omega
    have h7:¬(T:Int)<(a3:Int)+30+(F:Int)+11+(H:Int):=by omega
    obtain⟨M,de⟩:=exq (Dh r 10 12);obtain⟨I,da⟩:=exq (Dh r 16 20);have e8:=Aa dy;have jc:M<65536:=by rw[<-de];exact Dm (Aa bd) rfl
    have f9:I<4294967296:=by rw[<-da];exact Dm (Aa bd) rfl
    have c5:=Ab (Cw as (Aa bk) (Aa bd) 10 12 2 (G-p-10) rfl (by omega) (by omega) (by omega));have b4:=Ab (Cw as (Aa bk) (Aa bd) 16 20 4 (G-p-16) rfl (by omega) (by omega) (by omega));rw[de]at c5;rw[da]at b4;have ib:IntKind.u32.wrap (I:Int)=(I:Int):=Bh f9;have jj:=Gq g (o+p) m (G-p) (46+F) (46+F+11) (46+(F:Int)) (46+(F:Int)+11) 11 (by omega) (by omega) (by omega) (by omega) (by omega) (by omega) (by omega);have i4:=Gq g (o+p) m (G-p) 10 12 10 12 2 rfl rfl (by omega) (by omega) (by omega) (by omega) rfl;have i7:=Gq g (o+p) m (G-p) 16 20 16 20 4 rfl rfl (by omega) (by omega) (by omega) (by omega) rfl;have fr:=Ab de;have ew:=Ab da;clear de da;obtain⟨hy,hf⟩:=exq (wr.drew);rw[hf]at b7 ⊢;clear hf;have iy:=Ab b7;clear b7;go_upto_region 17 with fail
    go_cut [14] (fun d7 b0=>∃X,d7=.pointer (some ⟨X,0,none⟩)/\Hid (b0.heap[X]? =some (.cells #[.string ⟨#[]⟩,.slice none 0 0,.int .i64 0,.int .i64 0,.bool false,.int .i64 (M:Int),.slice none 0 0,.int .u32 (I:Int)] 37 (0,0))/\wr.heap.size<=X/\Below wr.heap.size wr b0))
    case first=>
     refine wp_region_held_drew (S:=fun W=>Below wr.heap.size wr W) (by kernel_rfl) (Ae (Aa iy) 1) (fun E=> ?_);generalize hy.drew=ab at E ⊢;refine tkH (i:=0) (v:=.slice (some ⟨g,o+p,none⟩) m (G-p)) E ?_;simp only[Act.put,VA,VC,VD];refine tkH (i:=1) (v:=.slice (some ⟨g,o+p+10,none⟩) 2 (G-p-10)) E ?_;simp only[Act.put,VA,VC,VD];refine tkH (i:=3) (v:=.slice (some ⟨g,o+p,none⟩) m (G-p)) E ?_;simp only[Act.put,VA,VC,VD];refine tkH (i:=4) (v:=.slice (some ⟨g,o+p+16,none⟩) 4 (G-p-16)) E ?_;simp only[Act.put,VA,VC,VD];refine wpAnyH_ready (rs:= [2,8]) (by kernel_rfl) (by simp) (AllReadyH.cons rfl (fun K hK=> ?_) (AllReadyH.cons rfl (fun K hK=> ?_) AllReadyH.nil))
     . go_simp
       refine(Aa c5 _ E).mono ?_;rintro e al ⟨rfl,ao⟩;obtain rfl:ab=al:=ao.symm;dsimp only;refine hK.out _ _ E (fun _=> ?_);clear hK K;refine wpAnyH_ready (rs:= [5,8]) (by kernel_rfl) (by simp) (AllReadyH.cons rfl (fun K hK=> ?_) (AllReadyH.cons rfl (fun K hK=> ?_) AllReadyH.nil))
       . go_simp
         refine(Aa b4 _ E).mono ?_;rintro e al ⟨rfl,ao⟩;obtain rfl:ab=al:=ao.symm;dsimp only;refine hK.out _ _ E (fun _=> ?_);clear hK K;refine tkH (i:=6) (v:=.int .u32 (I:Int)) E ?_;simp only[Act.put,VA,VC,VD];refine tkH (i:=7) (v:=.agg #[.string ⟨#[]⟩,.slice none 0 0,.int .i64 0,.int .i64 0,.bool false,.int .i64 (M:Int),.slice none 0 0,.int .u32 (I:Int)]) E ?_;simp only[Act.put,VA,VC,VD];refine rdH (i:=8) fun K hK=> ?_
         go_simp
         have ac:=heap_alloc_new ab (.cells #[.string ⟨#[]⟩,.slice none 0 0,.int .i64 0,.int .i64 0,.bool false,.int .i64 0,.slice none 0 0,.int .u32 0] 37);have aj:Below wr.heap.size wr (ab.alloc (.cells #[.string ⟨#[]⟩,.slice none 0 0,.int .i64 0,.int .i64 0,.bool false,.int .i64 0,.slice none 0 0,.int .u32 0] 37)):=E.alloc E.size _;have au:=E.size;generalize ab.alloc (.cells #[.string ⟨#[]⟩,.slice none 0 0,.int .i64 0,.int .i64 0,.bool false,.int .i64 0,.slice none 0 0,.int .u32 0] 37)=w3 at ac aj ⊢;generalize ab.heap.size=X at ac au ⊢;refine hK.out _ _ aj (fun _=> ?_);clear hK K E;have E:=aj;clear aj;refine rdH (i:=9) fun K hK=> ?_
         rw[if_pos (by rfl)];refine wp_store_row 37 (.tmp 14) (.tmp 100) rfl X #[.string ⟨#[]⟩,.slice none 0 0,.int .i64 0,.int .i64 0,.bool false,.int .i64 (M:Int),.slice none 0 0,.int .u32 (I:Int)] rfl rfl 37 _ ac (by kernel_rfl) rfl (by simp[Value.oneCell']) ?_;have az:(w3.setRow X #[.string ⟨#[]⟩,.slice none 0 0,.int .i64 0,.int .i64 0,.bool false,.int .i64 (M:Int),.slice none 0 0,.int .u32 (I:Int)]).heap[X]? =some (.cells #[.string ⟨#[]⟩,.slice none 0 0,.int .i64 0,.int .i64 0,.bool false,.int .i64 (M:Int),.slice none 0 0,.int .u32 (I:Int)] 37 (0,0)):=setRow_heap _ _ _ _ _ _ ac;have aq:=Yv E au (#[.string ⟨#[]⟩,.slice none 0 0,.int .i64 0,.int .i64 0,.bool false,.int .i64 (M:Int),.slice none 0 0,.int .u32 (I:Int)]:Array Value);refine hK.out _ _ aq (fun _=> ?_);clear hK K;refine wpAnyH_done (by kernel_rfl) ?_ _;go_wp2_with fail
         go_meet
         exact⟨X,rfl,Ab ⟨az,au,aq⟩⟩
       . go_simp
         have ac:=heap_alloc_new ab (.cells #[.string ⟨#[]⟩,.slice none 0 0,.int .i64 0,.int .i64 0,.bool false,.int .i64 0,.slice none 0 0,.int .u32 0] 37);have aj:Below wr.heap.size wr (ab.alloc (.cells #[.string ⟨#[]⟩,.slice none 0 0,.int .i64 0,.int .i64 0,.bool false,.int .i64 0,.slice none 0 0,.int .u32 0] 37)):=E.alloc E.size _;have au:=E.size;generalize ab.alloc (.cells #[.string ⟨#[]⟩,.slice none 0 0,.int .i64 0,.int .i64 0,.bool false,.int .i64 0,.slice none 0 0,.int .u32 0] 37)=w3 at ac aj ⊢;generalize ab.heap.size=X at ac au ⊢;refine hK.out _ _ aj (fun _=> ?_);clear hK K E;have E:=aj;clear aj;refine rdH (i:=5) fun K hK=> ?_
         go_simp
         refine(Aa b4 _ E).mono ?_;rintro e al ⟨rfl,ao⟩;obtain rfl:w3=al:=ao.symm;dsimp only;refine hK.out _ _ E (fun _=> ?_);clear hK K;refine tkH (i:=6) (v:=.int .u32 (I:Int)) E ?_;simp only[Act.put,VA,VC,VD];refine tkH (i:=7) (v:=.agg #[.string ⟨#[]⟩,.slice none 0 0,.int .i64 0,.int .i64 0,.bool false,.int .i64 (M:Int),.slice none 0 0,.int .u32 (I:Int)]) E ?_;simp only[Act.put,VA,VC,VD];refine rdH (i:=9) fun K hK=> ?_
         rw[if_pos (by rfl)];refine wp_store_row 37 (.tmp 14) (.tmp 100) rfl X #[.string ⟨#[]⟩,.slice none 0 0,.int .i64 0,.int .i64 0,.bool false,.int .i64 (M:Int),.slice none 0 0,.int .u32 (I:Int)] rfl rfl 37 _ ac (by kernel_rfl) rfl (by simp[Value.oneCell']) ?_;have az:(w3.setRow X #[.string ⟨#[]⟩,.slice none 0 0,.int .i64 0,.int .i64 0,.bool false,.int .i64 (M:Int),.slice none 0 0,.int .u32 (I:Int)]).heap[X]? =some (.cells #[.string ⟨#[]⟩,.slice none 0 0,.int .i64 0,.int .i64 0,.bool false,.int .i64 (M:Int),.slice none 0 0,.int .u32 (I:Int)] 37 (0,0)):=setRow_heap _ _ _ _ _ _ ac;have aq:=Yv E au (#[.string ⟨#[]⟩,.slice none 0 0,.int .i64 0,.int .i64 0,.bool false,.int .i64 (M:Int),.slice none 0 0,.int .u32 (I:Int)]:Array Value);refine hK.out _ _ aq (fun _=> ?_);clear hK K;refine wpAnyH_done (by kernel_rfl) ?_ _;go_wp2_with fail
         go_meet
         exact⟨X,rfl,Ab ⟨az,au,aq⟩⟩
     . go_simp
       have ac:=heap_alloc_new ab (.cells #[.string ⟨#[]⟩,.slice none 0 0,.int .i64 0,.int .i64 0,.bool false,.int .i64 0,.slice none 0 0,.int .u32 0] 37);have aj:Below wr.heap.size wr (ab.alloc (.cells #[.string ⟨#[]⟩,.slice none 0 0,.int .i64 0,.int .i64 0,.bool false,.int .i64 0,.slice none 0 0,.int .u32 0] 37)):=E.alloc E.size _;have au:=E.size;generalize ab.alloc (.cells #[.string ⟨#[]⟩,.slice none 0 0,.int .i64 0,.int .i64 0,.bool false,.int .i64 0,.slice none 0 0,.int .u32 0] 37)=w3 at ac aj ⊢;generalize ab.heap.size=X at ac au ⊢;refine hK.out _ _ aj (fun _=> ?_);clear hK K E;have E:=aj;clear aj;refine rdH (i:=2) fun K hK=> ?_
       go_simp
       refine(Aa c5 _ E).mono ?_;rintro e al ⟨rfl,ao⟩;obtain rfl:w3=al:=ao.symm;dsimp only;refine hK.out _ _ E (fun _=> ?_);clear hK K;refine rdH (i:=5) fun K hK=> ?_
       go_simp
       refine(Aa b4 _ E).mono ?_;rintro e al ⟨rfl,ao⟩;obtain rfl:w3=al:=ao.symm;dsimp only;refine hK.out _ _ E (fun _=> ?_);clear hK K;refine tkH (i:=6) (v:=.int .u32 (I:Int)) E ?_;simp only[Act.put,VA,VC,VD];refine tkH (i:=7) (v:=.agg #[.string ⟨#[]⟩,.slice none 0 0,.int .i64 0,.int .i64 0,.bool false,.int .i64 (M:Int),.slice none 0 0,.int .u32 (I:Int)]) E ?_;simp only[Act.put,VA,VC,VD];refine rdH (i:=9) fun K hK=> ?_
       rw[if_pos (by rfl)];refine wp_store_row 37 (.tmp 14) (.tmp 100) rfl X #[.string ⟨#[]⟩,.slice none 0 0,.int .i64 0,.int .i64 0,.bool false,.int .i64 (M:Int),.slice none 0 0,.int .u32 (I:Int)] rfl rfl 37 _ ac (by kernel_rfl) rfl (by simp[Value.oneCell']) ?_;have az:(w3.setRow X #[.string ⟨#[]⟩,.slice none 0 0,.int .i64 0,.int .i64 0,.bool false,.int .i64 (M:Int),.slice none 0 0,.int .u32 (I:Int)]).heap[X]? =some (.cells #[.string ⟨#[]⟩,.slice none 0 0,.int .i64 0,.int .i64 0,.bool false,.int .i64 (M:Int),.slice none 0 0,.int .u32 (I:Int)] 37 (0,0)):=setRow_heap _ _ _ _ _ _ ac;have aq:=Yv E au (#[.string ⟨#[]⟩,.slice none 0 0,.int .i64 0,.int .i64 0,.bool false,.int .i64 (M:Int),.slice none 0 0,.int .u32 (I:Int)]:Array Value);refine hK.out _ _ aq (fun _=> ?_);clear hK K;refine wpAnyH_done (by kernel_rfl) ?_ _;go_wp2_with fail
       go_meet
       exact⟨X,rfl,Ab ⟨az,au,aq⟩⟩
    case rest=>
     rename World=>b0
     obtain⟨X,rfl,ac⟩:=hcut;obtain⟨fq,az,e0⟩:=Aa ac;obtain⟨nml,b3⟩:=exq ((r.drop 46).take F);obtain⟨nm,dl⟩:=exq (B (o8 nml));obtain⟨xs,bz⟩:=exq ((r.drop (46+F)).take 11);have h2:xs.length=11:=by rw[<-bz,VL,VQ];omega
     have dr:nml.length=F:=by rw[<-b3,VL,VQ];omega
     have b5:∀x∈xs,x<256:=fun x Z=>Aa bd x (by rw[<-bz]at Z;exact VW (VR Z))
     have ck:∀i,i<xs.length->wr.cell? ⟨g,o+p+(46+F)+i,none⟩=some (.int .u8 ((xs.getD i 0:Nat):Int)):=by
      intro i hi
      have e2:xs.getD i 0=r.getD (46+F+i) 0:=by
       rw[<-bz];simp only[List.getD];rw[XX (by omega),XJ]
      rw[e2,WT];exact Aa bk (46+F+i) (by rw[e8];omega)
     have ha:Hid (∀W,Below wr.heap.size wr W->(convert 23 9 (.slice (some ⟨g,o+p+46,none⟩) F (G-p-46))).run Tryz.prog W=.ok (.string nm) W):=Ab (fun W O=>by
      have ba:BytesIn wr (some ⟨g,o+p+46,none⟩) nml:=by rw[<-b3];exact Sk as (Aa bk) 46 F
      have cn:=Z7 (some ⟨g,o+p+46,none⟩) F (G-p-46) nml W dr (ba.below O (VB _));rw[cn,<-dl];rfl)
     obtain⟨bg,c3⟩:=exq (xs.getD 10 0)
     have gh:Hid (∀W,Below wr.heap.size wr W->W.cell? ⟨g,o+p+(46+F)+10,none⟩=some (.int .u8 (bg:Int))):=Ab (fun W O=>by
      rw[O.cell (p:=⟨g,_,none⟩) as,<-c3];exact ck 10 (by omega))
     have d5:=Ab (Cw as ck b5 4 8 4 (G-p-(46+F)-4) rfl (by omega) (by omega) (by omega));have ek:=Ab (Cw as ck b5 8 10 2 (G-p-(46+F)-8) rfl (by omega) (by omega) (by omega));obtain⟨ai,b8⟩:=exq (Dh xs 4 8);obtain⟨ah,ce⟩:=exq (Dh xs 8 10);have jw:ai<4294967296:=by rw[<-b8];exact Dm b5 rfl
     have j9:ah<65536:=by rw[<-ce];exact Dm b5 rfl
     rw[b8]at d5;rw[ce]at ek;obtain⟨gn,el⟩:=exq (((bg:Int)==1));have hv:=Gq g (o+p) m (G-p) 46 (46+F) 46 (46+(F:Int)) F rfl (by omega) (by omega) (by omega) (by omega) (by omega) (by omega);have jb:=Gq g (o+p+(46+F)) 11 (G-p-(46+F)) 4 8 4 8 4 rfl rfl (by omega) (by omega) (by omega) (by omega) rfl;have ho:=Gq g (o+p+(46+F)) 11 (G-p-(46+F)) 8 10 8 10 2 rfl rfl (by omega) (by omega) (by omega) (by omega) rfl;obtain⟨Y,ch⟩:=exq ((bs.drop (a3+30+F+11)).take H);have fk:=Ab (show nml.length=F/\B (o8 nml)=nm/\(r.drop 46).take F=nml/\Dh xs 4 8=ai/\Dh xs 8 10=ah/\((bg:Int)==1)=gn/\xs.getD 10 0=bg/\(r.drop (46+F)).take 11=xs from ⟨dr,dl,b3,b8,ce,el,c3,bz⟩);have i2:IntKind.i64.wrap (46+(F:Int))=46+(F:Int):=by simp[IntKind.wrap,IntKind.signed,IntKind.bits];omega
     have av:Hid (JR bs T r=(unpD M Y).bind fun ys=>some (⟨⟨o8 nml,o8 ys,((ai:Nat):Int),((ah:Nat):Int),gn⟩,M,Y,I⟩,r.drop (46+F+11))):=Ab (by
      unfold JR;rw[if_neg (by omega),Aa co,Aa cp,Aa ct,if_neg (by rw[e8];exact fm),Aa fr,ch,Aa ew,bz,b8,ce,b3,c3]
      have e:decide (bg=1)=gn:=by
       rw[<-el]
       by_cases ba:bg=1
       . rw[ba];rfl
       . rw[decide_eq_false ba];symm;rw[beq_eq_false_iff_ne];omega
      rw[e])
     have gw:Y.length=H:=by rw[<-ch,VL,VQ,Aa bj];omega
     have cy:Hid (∀x∈Y,x<256):=Ab (fun x Z=>Aa bb x (by rw[<-ch]at Z;exact VW (VR Z)))
     have b9:Hid (∀W,Below wr.heap.size wr W->BytesIn W (some ⟨g,o+(a3+30+F+11),none⟩) Y):=Ab (fun W O=>by
      rw[<-ch];exact Sk (VG as O.size) (fun i hi=>(O.cell (p:=⟨g,_,none⟩) as).trans (((Aa af).cell (p:=⟨g,_,none⟩) a1).trans (Aa a8 i hi))) _ _)
     have a5:=Ab gw;clear b3 bz h2 dr b5 ck c3 b8 ce ac dl ch gw;go_upto_region 18 with fail
     go_cut [14] (fun d7 be=>d7=.pointer (some ⟨X,0,none⟩)/\Hid (be.heap[X]? =some (.cells #[.string nm,.slice none 0 0,.int .i64 (ai:Int),.int .i64 (ah:Int),.bool gn,.int .i64 (M:Int),.slice none 0 0,.int .u32 (I:Int)] 37 (0,0))/\Below wr.heap.size wr be))
     case first=>
      refine wp_region_held_drew (S:=fun W=>Below wr.heap.size wr W) (by kernel_rfl) (Ae e0 1) (fun E=> ?_);have dp:b0.drew.heap[X]? =some (.cells #[.string ⟨#[]⟩,.slice none 0 0,.int .i64 0,.int .i64 0,.bool false,.int .i64 (M:Int),.slice none 0 0,.int .u32 (I:Int)] 37 (0,0)):=fq;generalize b0.drew=ab at E dp ⊢;refine tkH (i:=0) (v:=.slice (some ⟨g,o+p,none⟩) m (G-p)) E ?_;simp only[Act.put,VA,VC,VD];refine tkH (i:=1) (v:=.int .i64 (F:Int)) E ?_;simp only[Act.put,VA,VC,VD];refine tkH (i:=2) (v:=.int .i64 (46+(F:Int))) E ?_;simp only[Act.put,VA,VC,VD];refine tkH (i:=3) (v:=.slice (some ⟨g,o+p+46,none⟩) F (G-p-46)) E ?_;simp only[Act.put,VA,VC,VD];refine wpAnyH_take (i:=4) (v:=.string nm) rfl (by kernel_rfl) (by kernel_rfl) (by kernel_rfl) (fun _ _ _ h=>h) (Or.inl ⟨by rfl,fun W d9=>by have j2:=Aa ha W d9;go_simp⟩) E ?_;simp only[Act.put,VA,VC,VD];refine tkH (i:=5) (v:=.slice (some ⟨g,o+p+(46+F),none⟩) 11 (G-p-(46+F))) E ?_;simp only[Act.put,VA,VC,VD];refine tkH (i:=6) (v:=.slice (some ⟨g,o+p+(46+F)+4,none⟩) 4 (G-p-(46+F)-4)) E ?_;simp only[Act.put,VA,VC,VD];refine tkH (i:=8) (v:=.slice (some ⟨g,o+p+(46+F),none⟩) 11 (G-p-(46+F))) E ?_;simp only[Act.put,VA,VC,VD];refine tkH (i:=9) (v:=.slice (some ⟨g,o+p+(46+F)+8,none⟩) 2 (G-p-(46+F)-8)) E ?_;simp only[Act.put,VA,VC,VD];refine tkH (i:=11) (v:=.slice (some ⟨g,o+p+(46+F),none⟩) 11 (G-p-(46+F))) E ?_;simp only[Act.put,VA,VC,VD];refine tkH (i:=12) (v:=.pointer (some ⟨g,o+p+(46+F)+10,none⟩)) E ?_;simp only[Act.put,VA,VC,VD];refine wpAnyH_take (i:=13) (v:=.int .u8 (bg:Int)) rfl (by kernel_rfl) (by kernel_rfl) (by kernel_rfl) (fun _ _ _ h=>h) (Or.inl ⟨by rfl,fun W d9=>by have kq:=Aa gh W d9;go_simp⟩) E ?_;simp only[Act.put,VA,VC,VD];refine tkH (i:=14) (v:=.bool gn) E ?_;simp only[Act.put,VA,VC,VD];refine rdH (i:=7) fun K hK=> ?_
      go_simp
      refine(Aa d5 _ E).mono ?_;rintro e al ⟨rfl,ao⟩;obtain rfl:ab=al:=ao.symm;dsimp only;refine hK.out _ _ E (fun _=> ?_);clear hK K;refine rdH (i:=10) fun K hK=> ?_
      go_simp
      refine(Aa ek _ E).mono ?_;rintro e al ⟨rfl,ao⟩;obtain rfl:ab=al:=ao.symm;dsimp only;refine hK.out _ _ E (fun _=> ?_);clear hK K;refine tkH (i:=15) (v:=.agg #[.string nm,.slice none 0 0,.int .i64 (ai:Int),.int .i64 (ah:Int),.bool gn]) E ?_;simp only[Act.put,VA,VC,VD];refine rdH (i:=16) fun K hK=> ?_
      go_simp
      refine hK.out _ _ E (fun _=> ?_);clear hK K;refine rdH (i:=17) fun K hK=> ?_
      rw[if_pos (by rfl)];refine wp_store_mid 30 (.tmp 117) (.tmp 116) rfl X 0 #[.string nm,.slice none 0 0,.int .i64 (ai:Int),.int .i64 (ah:Int),.bool gn] rfl rfl (RF dp) (by kernel_rfl) (by kernel_rfl) ?_;obtain⟨h6,ix⟩:=Z8t ab X 37 _ _ _ _ _ _ _ _ (.string nm) (.slice none 0 0) (.int .i64 (ai:Int)) (.int .i64 (ah:Int)) (.bool gn) dp;have aq:=E.grown ix E.size (fun g e=>by cases e;exact az);refine hK.out _ _ aq (fun _=> ?_);clear hK K;refine wpAnyH_done (by kernel_rfl) ?_ _;go_wp2_with fail
      go_meet
      exact⟨rfl,Ab ⟨h6,aq⟩⟩
     case rest=>
      rename World=>be
      obtain⟨rfl,gq⟩:=hcut;obtain⟨dj,dw⟩:=Aa gq;obtain⟨ak,ii⟩:=exq (a3+30+F+11);have fn:=Gq g o n G ak (ak+H) ((a3:Int)+30+(F:Int)+11) ((a3:Int)+30+(F:Int)+11+(H:Int)) H (by omega) (by omega) (by omega) (by omega) eh (by omega) (by omega);obtain⟨CF,fg⟩:=exq (G-ak);have f4:H<=CF:=by omega
      rw[fg]at fn;clear fg;have fe:=Ac (i:=6) dj;simp only[VZ,VY,WI]at fe;have i9:=frozen_of_row be X 6 _ _ dj;obtain⟨w6,cq⟩:=exq (be.setCell ⟨X,6,none⟩ (.slice (some ⟨g,o+ak,none⟩) H CF))
      have bv:w6.heap[X]? =some (.cells (#[.string nm,.slice none 0 0,.int .i64 (ai:Int),.int .i64 (ah:Int),.bool gn,.int .i64 (M:Int),.slice (some ⟨g,o+ak,none⟩) H CF,.int .u32 (I:Int)]) 37 (0,0)):=by
       rw[<-cq,heap_setCell_same be X 6 _ _ _ dj];rfl
      have gg:Below wr.heap.size wr w6:=by rw[<-cq];exact dw.grown (Ad be X 6 _) dw.size (fun g e=>by cases e;exact az)
      have fw:=Ab cq;clear cq;clear fq e0 gq c5 b4 d5 ek ha gh hv jb ho i4 i7 jj i2 ib dw el;rw[ii]at b9;have dh:=Ab bv;have ax:=Ab gg;have bw:=Ac (i:=5) bv;have gz:=Ac (i:=6) bv;have k1:=Ac (i:=1) bv;simp only[VZ,VY,WI]at bw gz k1;have ey:=fun j=>frozen_of_row w6 X j _ _ bv
      have f1:=ey 1;clear bv gg ey;go_upto_region 21 with fail
      rw[Aa fw];clear fe i9 fn dj fw;go_upto_block 2 with fail
      go_cut [16,17,18,19] (fun _ _ _ _ ae=>∃ys fa fc,Hid (unpD M Y=some ys/\ae.heap[X]? =some (.cells (#[.string nm,.slice fa ys.length fc,.int .i64 (ai:Int),.int .i64 (ah:Int),.bool gn,.int .i64 (M:Int),.slice (some ⟨g,o+ak,none⟩) H CF,.int .u32 (I:Int)]) 37 (0,0))/\Below wr.heap.size wr ae/\PkIn ae fa fc ys/\ys.length<=fc/\∀ag an,fa=some ⟨ag,an,none⟩->ag<w.heap.size\/wr.heap.size<=ag))
      case first=>
       by_cases m0:M=0
       . subst m0
         have em:Hid (∀W,w6.setCell ⟨X,1,none⟩ (.slice (some ⟨g,o+ak,none⟩) H CF)=W->∃ys fa fc,Hid (unpD 0 Y=some ys/\W.heap[X]? =some (.cells (#[.string nm,.slice fa ys.length fc,.int .i64 (ai:Int),.int .i64 (ah:Int),.bool gn,.int .i64 ((0:Nat):Int),.slice (some ⟨g,o+ak,none⟩) H CF,.int .u32 (I:Int)]) 37 (0,0))/\Below wr.heap.size wr W/\PkIn W fa fc ys/\ys.length<=fc/\∀ag an,fa=some ⟨ag,an,none⟩->ag<w.heap.size\/wr.heap.size<=ag)):=Ab (by
          intro W O;have cu:Below wr.heap.size wr W:=by rw[<-O];exact(Aa ax).grown (Ad w6 X 1 _) (Aa ax).size (fun g e=>by cases e;exact az)
          refine⟨Y,some ⟨g,o+ak,none⟩,CF,Ab ⟨by unfold unpD;rw[if_pos rfl], ?_,cu,⟨Aa b9 W cu,fun e=>by cases e⟩,by rw[Aa a5];exact f4,fun ag an e=>.inl (by cases e;exact a1)⟩⟩;rw[<-O,heap_setCell_same w6 X 1 _ _ _ (Aa dh),Aa a5];rfl)
         replace bw:w6.cell? ⟨X,5,none⟩=some (.int .i64 0):=bw;clear av ap am a0 bn a6 a2;go_wp2;go_meet
         exact Aa em _ rfl
       have h1:((M:Int)==0)=false:=by rw[beq_eq_false_iff_ne];omega
       by_cases e5:M=8
       . subst e5;clear h1;replace bw:w6.cell? ⟨X,5,none⟩=some (.int .i64 8):=bw;have i3:H<=12000:=by omega
         have fd:Hid (dm\/ (Oh (rowB Y H)).e=0):=Ab (by
          rcases Aa a2 with ba|ba
          . exact .inl ba
          . refine .inr ?_
            by_cases cn:(Oh (rowB Y H)).e=0
            . exact cn
            . exfalso
              apply ba
              rw[Aa a0,Aa av]
              have:unpD 8 Y=none:=by
               unfold unpD;rw[if_neg (by decide),if_pos rfl,Aa a5,if_neg (fun d2=>cn d2.1)]
              rw[this];rfl)
         have bt:Hid (unpD 8 Y=if (Oh (rowB Y H)).e=0/\((Oh (rowB Y H)).p+7)/8=H/\H<=6000 then some (Oh (rowB Y H)).out else none):=Ab (by
          unfold unpD;rw[if_neg (by decide),if_pos rfl,Aa a5])
         have ee:=Ab (Aa a6 w6 (some ⟨g,o+ak,none⟩) H CF Y (Aa a5) i3 (Aa b9 w6 (Aa ax)) (Aa cy) (Aa fd));have ft:Hid (∀W,Below w6.heap.size w6 W->Below w.heap.size w W):=Ab (fun W O=>(Aa af).trans (((Aa ax).trans (O.mono (Aa ax).size)).mono (Aa af).size));have fo:Hid (X<w6.heap.size):=Ab (VK.1 (Aa dh)).1;clear a6 a2 fd a0 bn ap;go_wp2_with fail
         refine(Aa ee).mono ?_;rintro e aw ⟨cg,hq⟩;have bu:=(cg.block X (Aa fo)).trans (Aa dh);have ja:=Ac (i:=6) bu;have h4:=Ac (i:=1) bu;simp only[VZ,VY,WI]at ja h4;have km:=frozen_of_row aw X 1 _ _ bu
         rcases hq with ⟨dc,ov,gt,kv,rfl,ei,hd⟩|⟨dc,rfl⟩
         . generalize Oh (rowB Y H)=U at*;obtain⟨ci,dt⟩:=exq ((U.p+7)/8);obtain⟨im,c7⟩:=exq (U.out.length);rw[c7]at ei;rw[dt,c7];have d4:=Ab ei;have cv:=Ab hd;have e6:=Ab dt;have d6:=Ab c7;have dv:=Ab bu;have eb:=Ab cg;clear ei hd dt c7 bu cg ee
           by_cases j7:ci≠H\/6000<H
           . have aa:=Ab (Aa am (by rw[Aa av,Aa bt,if_neg (by rw[Aa e6];omega)];rfl) aw (Aa ft aw (Aa eb)));clear am av bt d4 cv dv
             by_cases kc:ci≠H
             . have ep:((ci:Int)!=(H:Int))=true:=by simp only[bne_iff_ne,ne_eq];omega
               go_wp2;go_ret2;exact Aa aa
             . have ep:((ci:Int)!=(H:Int))=false:=by simp only[bne_eq_false_iff_eq];omega
               have jo:(6000:Int)<(H:Int):=by omega
               go_wp2;go_ret2;exact Aa aa
           . have ep:((ci:Int)!=(H:Int))=false:=by simp only[bne_eq_false_iff_eq];omega
             have jo:¬(6000:Int)<(H:Int):=by omega
             have em:Hid (∀W,aw.setCell ⟨X,1,none⟩ (.slice ov im gt)=W->∃ys fa fc,Hid (unpD 8 Y=some ys/\W.heap[X]? =some (.cells (#[.string nm,.slice fa ys.length fc,.int .i64 (ai:Int),.int .i64 (ah:Int),.bool gn,.int .i64 ((8:Nat):Int),.slice (some ⟨g,o+ak,none⟩) H CF,.int .u32 (I:Int)]) 37 (0,0))/\Below wr.heap.size wr W/\PkIn W fa fc ys/\ys.length<=fc/\∀ag an,fa=some ⟨ag,an,none⟩->ag<w.heap.size\/wr.heap.size<=ag)):=Ab (by
              intro W O;have fh:Below wr.heap.size wr aw:=(Aa ax).trans ((Aa eb).mono (Aa ax).size);have cu:Below wr.heap.size wr W:=by rw[<-O];exact fh.grown (Ad aw X 1 _) fh.size (fun g e=>by cases e;exact az)
              obtain⟨j0,ka,bq,gj,hp⟩:=Aa d4;rw[Aa d6]at bq gj
              cases bq
              have j6:=(Aa ax).size;refine⟨U.out,ov,gt,Ab ⟨by rw[Aa bt,if_pos ⟨dc,by rw[Aa e6];omega,by omega⟩], ?_,cu, ?_,by rw[Aa d6];exact gj,fun ag an e=>.inr (by have:=Aa cv ag an e;omega)⟩⟩
              . rw[<-O,heap_setCell_same aw X 1 _ _ _ (Aa dv),Aa d6];rfl
              . rw[<-O];refine hp.grown (Ad aw X 1 _) (fun ag an e ig e2=> ?_);have fi:=Aa cv ag an e;have jq:=Aa fo
                cases e2
                omega)
             clear am av bt d4 cv dv eb;go_wp2;go_meet
             exact Aa em _ rfl
         . have aa:=Ab (Aa am (by rw[Aa av,Aa bt,if_neg (fun d2=>dc d2.1)];rfl) aw (Aa ft aw cg));have ig:((Oh (rowB Y H)).e !=0)=true:=by simp only[bne_iff_ne,ne_eq];exact dc
           clear am av bt ee cg bu;generalize (Oh (rowB Y H)).e=j5 at*;go_wp2;go_ret2;exact Aa aa
       . have jx:((M:Int)==8)=false:=by rw[beq_eq_false_iff_ne];omega
         have aa:=Ab (Aa am (by rw[Aa av,show unpD M Y=none by unfold unpD;rw[if_neg m0,if_neg e5]];rfl) w6 ((Aa af).trans ((Aa ax).mono (Aa af).size)));clear ap am a0 bn a6 a2 av;go_wp2;go_ret2;exact Aa aa
      case rest=>
       rename World=>ae
       obtain⟨ys,fa,fc,g0⟩:=hcut;obtain⟨db,a7,df,f8,gv,ff⟩:=Aa g0;obtain⟨iq,et,iw,ip,hw,js,hh,iz⟩:=Aa fk;have g7:∀x∈ys,x<256:=Wt (Aa cy) (by rw[<-Le];exact db);have ij:ys.length<=12000:=BC (by rw[Aa a5];omega) db;obtain⟨y,bm⟩:∃y:Ev,y=⟨⟨⟨o8 nml,o8 ys,((ai:Nat):Int),((ah:Nat):Int),gn⟩,M,Y,I⟩,fa,fc,some ⟨g,o+ak,none⟩,CF⟩:=⟨_,rfl⟩
       obtain⟨eq,dq⟩:=exq (ys.length)
       have gy:y.rcells= [.string nm,.slice fa eq fc,.int .i64 (ai:Int),.int .i64 (ah:Int),.bool gn,.int .i64 (M:Int),.slice (some ⟨g,o+ak,none⟩) H CF,.int .u32 (I:Int)]:=by
        rw[bm];simp only[Ev.rcells,Ey,dq,Aa a5,et]
       have gu:EvR ae y:=by
        rw[bm];refine⟨⟨?_,by simp only[Ey];exact gv,by simp only[Ey];omega,by simp only[Ey];omega,Aa b9 ae df,fun e=>by cases e⟩,by simp only[];rw[Aa a5];exact f4⟩;simp only[];rw[Z0w g7];exact f8
       have f3:y.lies (fun b=>some b≠u9.ownBlock):=by
        rw[bm]
        constructor
        . intro b an bq e2 e3;have fi:=(Aa a9).own.lt b e3.symm;have jq:=ff b an bq;omega
        . intro b an bq e2 e3;have fi:=(Aa a9).own.lt b e3.symm
          cases bq
          omega
       have f6:EWd y.e/\∀z∈y.e.pk,z<256:=by
        rw[bm];exact⟨⟨⟨by simp only[];omega,by simp only[];omega⟩,⟨by simp only[];omega,by simp only[];omega⟩,by simp only[Ey];omega,by simp only[Ey];omega,by simp only[];rw[Aa a5];omega,f9,jc⟩,Aa cy⟩
       have f7:y.e=⟨⟨o8 nml,o8 ys,((ai:Nat):Int),((ah:Nat):Int),gn⟩,M,Y,I⟩:=by rw[bm]
       have hx:Hid (Tt bs=(Np bs T (N-(k+1)) ((bs.drop (p+(46+F+11))).take (m-(46+F+11)))).map ((es++ [y]).map Ev.e++ ·)):=Ab (by
        rw[Aa a0,Aa av,db,VF,VF,<-Aa fp,Tu bs p m _ (by omega),show N-(k+1)=j by have:=Aa i6;omega,Option.map_map,f7.symm]
        congr 1
        funext l
        simp)
       have jk:=Ac (i:=0) a7;have e7:=Ac (i:=1) a7;have jl:=Ac (i:=2) a7;have hu:=Ac (i:=3) a7;have h5:=Ac (i:=4) a7;have ic:=Ac (i:=5) a7;have ji:=Ac (i:=6) a7;have h3:=Ac (i:=7) a7;simp only[VZ,VY,WI]at jk e7 jl hu h5 ic ji h3;rw[dq]at e7;have du:Below w.heap.size w ae:=(Aa af).trans (df.mono (Aa af).size);have f5:RRow ae w.heap.size u9 es:=(Aa a9).below df;have e4:=Ab (fun o1:Obj=>f5.below ((Below.refl ae.heap.size ae).alloc (VB _) o1));have e1:=Ab (fun o1:Obj=>gu.below ((Below.refl ae.heap.size ae).alloc (VB _) o1));have gi:=Ab f3
       have e9:Hid (∀o1,o1=Obj.cells #[.string nm,.slice fa eq fc,.int .i64 (ai:Int),.int .i64 (ah:Int),.bool gn,.int .i64 (M:Int),.slice (some ⟨g,o+ak,none⟩) H CF,.int .u32 (I:Int)] 37->∀j u,y.rcells[j]? =some u->(ae.alloc o1).cell? ⟨ae.heap.size,j,none⟩=some u):=Ab (fun o1 e j u ay=>by
        subst e;rw[Ac (heap_alloc_new ae _)];rw[gy]at ay;simpa using ay)
       have hs:Hid (es.length+1<=100000):=Ab (by have:=Aa cd;omega);have fu:=Ab du;have ku:w.heap.size<=ae.heap.size:=du.size;have il:=Ab f6;have kj:=Z2h g (o+p) m (G-p) (46+F+11) (46+(F:Int)+11) (m-(46+F+11)) (by omega) (by omega) (by omega) (by omega) rfl;clear g0 db a7 df f8 gv ff gu f3 f6 f5 du gy g7 ij f7 iq et iw ip hw js hh iz fk av ap am a0 a6 a2 cy b9 dh ax bk bd ew fr co cp ct a8 bb bn k1 bw gz f1 dq bm;go_wp2_with (at_builtin;refine Kz _ rfl _ _ rfl w.heap.size _ es rfl (Aa e4 _) ae.heap.size y rfl (Aa e9 _ rfl) (Aa e1 _) (Aa gi) (Aa hs) (by simp;omega) ?_)
       intro v' ie h9 he;have jm:Hid (Below w.heap.size w ie):=Ab (((Aa fu).alloc (Aa fu).size _).grown (Aa he) (by simp;omega) (fun b e=>((Aa a9).own.lt b e).1));clear e4 e1 e9 gi he;go_wp2;go_roundw
       case rel=>
        refine⟨k+1,p+(46+F+11),m-(46+F+11),es++ [y],by omega,by go_num,by rw[WT,Nat.sub_sub],Ab (by omega),Ab (by rw[VE,Aa cd];rfl),h9,jm,hx,Ab (fun x Z=> ?_)⟩
        rcases WP.1 Z with Z|Z
        . exact Aa O x Z
        . rw[WO.1 Z];exact Aa il
       case measure=>simp[intOf];omega
  . obtain rfl:N=k:=by omega
    obtain⟨ad,en,gd,dz⟩:=(Aa a9).entries;rw[Aa cd]at gd;subst gd;have fx:Hid (Tt bs=some (es.map Ev.e)):=Ab (by rw[Aa cj,XW,Np];simp);have gx:=Ab (Z18 ad en N es wr dz (Aa cd) (by omega) (fun x Z=>(Aa O x Z).1));have g8:=Ab dz
    have fj:Hid (∀j,(Be (es.map Ev.e)).getD j 0<256):=Ab (Er (Yx _ (fun x Z=>by
     obtain⟨z,jr,rfl⟩:=XG.1 Z;exact(Aa O z jr).2)))
    have hg:Hid (∀j,bs.getD j 0<256):=Ab (Er (Aa bb));have g5:Hid (∀W,Below w.heap.size w W->BytesIn W (some ⟨g,o,none⟩) bs):=Ab (fun W O=>.inr ⟨g,o,rfl,VG a1 O.size,fun j ay=>(O.cell (p:=⟨g,_,none⟩) a1).trans (Aa a8 j ay)⟩);clear dz ap a6 a2 bn cj bb a8;go_wp2_with fail
    refine(Aa gx).mono ?_;rintro e w3 ⟨kt,rfl,hj,d3⟩;obtain⟨i8,jf,rfl,ds,g9⟩:=hj;obtain⟨jh,eg⟩:=exq ((Be (es.map Ev.e)).length);rw[eg];have eo:Below w.heap.size w w3:=(Aa af).trans (d3.mono (Aa af).size);have jg:=Ab (P4 i8 (some ⟨g,o,none⟩) jh jf n G (Be (es.map Ev.e)) bs w3 eg (Aa bj) (Aa fj) (Aa hg) g9.1 (Aa g5 w3 eo));have aa:Hid (EnD w bs (.returned (.tuple #[.slice ad N en,.bool (Be (es.map Ev.e)==bs)])) w3):=Ab ⟨eo,.inr ⟨es,ad,en,Aa fx,by rw[Aa cd],(Aa g8).below d3⟩⟩;generalize (Be (es.map Ev.e)==bs)=eqB at*;clear d3 eo ds g9 eg gx fj hg g5 g8 fx a9 O af;go_wp2_with fail
    refine(Aa jg).mono ?_;rintro e jy ⟨rfl,rfl⟩;go_wp2;go_ret2;exact Aa aa
end Go.Proofs.YtleocpdblhbimaaGreatDoor
