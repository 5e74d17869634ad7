import Derived.Shelf.Strings.Builder1
import Derived.Test.YtleocpdblhbimaaGreatDoorQ5
import Derived.Laws.BytesArg
import Derived.Lib.Strings
import Derived.Lib.ReflectliteSwap
import Derived.Laws.IdiomCopy
set_option linter.unusedSimpArgs false
set_option maxHeartbeats 2000000
namespace Go.Proofs.YtleocpdblhbimaaGreatDoor
open Go.RowKit
set_option linter.unusedVariables false
set_option maxRecDepth 100000
theorem Z41:(Tryz.prog.info? 149).map (·.size)=some 2:=by kernel_rfl
theorem Z4s:liesAt Tryz.prog Tryz.prog.depth 149 (2/Tryz.prog.cellsOf 149) 0 149 1=true:=by kernel_rfl
theorem KM:(Tryz.prog.info? 5).map (fun i=>(i.zero,i.size,i.bytes))=some (some (.int .u8 0),1,1):=by kernel_rfl
def IsB (w:World)(b:Nat)(bs:List Value):Prop:=Lib.IsBuilder 149 5 b b bs w
set_option maxRecDepth 100000 in
theorem Tc (b:Nat)(w:World)(h0:w.cell? ⟨b,0,none⟩=some (.pointer (some ⟨b,0,none⟩))):
 Calls Tryz.prog 120 #[.pointer (some ⟨b,0,none⟩)] w fun e w'=>e=.returned (.tuple #[])/\w'=w:=by
 obtain⟨j,hj,_⟩:=XG.1 Z41;have hne:=fun w=>Lib.run_neq_ptr_same (P:=Tryz.prog) w ⟨b,0,none⟩ Tryz.underlying147 hj
 go_enter Tryz.func120,Tryz.ntmps120
 go_wp2;go_end0
 exact⟨rfl,rfl⟩
set_option maxRecDepth 100000 in
theorem Sc (b:Nat)(w:World)(h0:w.cell? ⟨b,0,none⟩=some (.pointer none))(hsh:w.shape? b=some (149,2))(hfz:w.frozen? ⟨b,0,none⟩=false):
 Calls Tryz.prog 120 #[.pointer (some ⟨b,0,none⟩)] w fun e w'=>e=.returned (.tuple #[])/\w'=w.setCell ⟨b,0,none⟩ (.pointer (some ⟨b,0,none⟩)):=by
 obtain⟨j,hj,hjs⟩:=XG.1 Z41;have hne:=fun w=>Lib.run_neq_ptr_same (P:=Tryz.prog) w ⟨b,0,none⟩ Tryz.underlying147 hj
 have hto:=Lib.run_to_unsafe (P:=Tryz.prog) w ⟨b,0,none⟩ Tryz.underlying147 Tryz.underlying222 hj (by rw[hjs];decide) hsh (Nat.zero_lt_succ 1);have hfrom:=Lib.run_from_unsafe (P:=Tryz.prog) w ⟨b,0,none⟩ Tryz.underlying222 Tryz.underlying147 hj hsh Z4s;go_enter Tryz.func120,Tryz.ntmps120
 go_wp2;rw[run_callFunc_extern Tryz.func158 (by kernel_rfl) (by kernel_rfl) (by kernel_rfl) (e:=Extern.AbiNoEscape.same) (by kernel_rfl)];rw[Lib.run_noEscape];simp only[Result.andThen];rw[Oper.upon_value];go_wp2;go_end0
 exact⟨rfl,rfl⟩
theorem Wy (b:Nat)(bs:List Value)(w:World)(h:IsB w b bs):
 Calls Tryz.prog 120 #[.pointer (some ⟨b,0,none⟩)] w fun e w'=>e=.returned (.tuple #[])/\Lib.BuilderAt 149 5 b b (.pointer (some ⟨b,0,none⟩)) bs w'/\Below b w w':=by
 rcases h with h|h
 . refine(Sc b w h.cell0 h.shape h.frozen0).mono ?_;rintro e w' ⟨rfl,rfl⟩;exact⟨rfl,h.used _,(Below.refl b w).setCell (p:=⟨b,0,none⟩) (VC _) _⟩
 . refine(Tc b w h.cell0).mono ?_;rintro e w' ⟨rfl,rfl⟩;exact⟨rfl,h,Below.refl b _⟩
theorem Vg (b:Nat)(bs:List Value)(c:Int)(w:World)(h:IsB w b bs)(hlen:bs.length<=1000000):
 Calls Tryz.prog 89 #[.pointer (some ⟨b,0,none⟩),.int .u8 c] w fun e w'=>e=.returned .nilIface/\IsB w' b (bs++ [.int .u8 c])/\Below b w w':=by
 obtain⟨i0,hi,hz0,hz1,hz2⟩:=info_parts KM;go_enter Tryz.func89,Tryz.ntmps89
 go_wp2_with fail
 refine(Wy b bs _ h).mono ?_;rintro e w1 ⟨rfl,h1,hb1⟩;have hlt:=h1.lt;obtain⟨hB,v,hbk,hown,hne⟩:=h1;have c0:w1.cell? ⟨b,0,none⟩=some (.pointer (some ⟨b,0,none⟩)):=by rw[Lib.cell_of_heap hbk];rfl
 have c1:w1.cell? ⟨b,1,none⟩=some v:=by rw[Lib.cell_of_heap hbk];rfl
 have HO:=Ab hown;have HB:=Ab hb1;have HK:=Ab hbk;have HN:=Ab hne;clear hown hb1 hbk hne;go_wp2_with (at_builtin;refine wpList_append_own _ rfl _ _ 23 rfl b 5 i0 (.int .u8 0) 1 1 Tryz.underlying23 hi hz0 hz1 hz2 rfl (by decide) _ _ _ rfl ((Aa HO).alloc _) ⟨w1.heap.size,0,none⟩ 1 1 [.int .u8 c] rfl rfl (by intro j u hj;match j,hj with|0,hj=>simp at hj;subst hj;simp[Addr.add]) (by intro u hu;simp at hu;subst hu;rfl) (by unfold maxLen;omega) (by omega) (by simp;omega) ?_)
 intro v' w2 hown' hgrow _
 have hb2:w2.heap[b]? =some (.cells #[.pointer (some ⟨b,0,none⟩),v] 149 (0,0)):=by
  rw[hgrow.block b (by simp;omega) (fun e=>(Aa HN) e.symm),Lib.alloc_old w1 _ b hlt];exact Aa HK
 have d0:w2.cell? ⟨b,0,none⟩=some (.pointer (some ⟨b,0,none⟩)):=by rw[Lib.cell_of_heap hb2];rfl
 have d1:w2.cell? ⟨b,1,none⟩=some v:=by rw[Lib.cell_of_heap hb2];rfl
 have f1:w2.frozen? ⟨b,1,none⟩=false:=Lib.frozen_of_heap hb2 1;have HO2:=Ab hown';have HG:=Ab hgrow;have HK2:=Ab hb2
 obtain⟨g,cap,rfl⟩:∃g cap,v'=.slice (some ⟨g,0,none⟩) (bs.length+1) cap:=by
  rcases hown'.2 with ⟨_,h0⟩|⟨g,cap,cur,hv,_⟩
  . omega
  . exact⟨g,cap,hv⟩
 clear hown' hgrow hb2;go_wp2;go_ret;refine⟨rfl,.inr ?_, ?_⟩
 . exact Lib.BuilderAt.put (T:=149) (e:=5) hB (Aa HK2) (bs':=bs++ [.int .u8 c]) (by simpa using Aa HO2) (by decide)
 . exact(((Aa HB).alloc (by omega) _).grown (Aa HG) (by simp;omega) (fun k hk=>((Aa HO).lt k hk).1)).setCell (p:=⟨b,1,none⟩) (VC _) _
def SW:Go.Shelf.Ren:=⟨fun|169=>90|n=>n,fun|70=>147|9=>9|0=>0|72=>149|37=>23|127=>186|3=>3|5=>5|n=>n,fun|n=>n⟩
theorem Z0n:Go.Proofs.Lays.n169 Tryz.prog SW:= {
 mixed:=by kernel_rfl
 f169:=Tryz.func90.trans (congrArg some (by kernel_rfl))
 t0:=Tryz.underlying0
 a0:=Tryz.isAgg0
 z0:=Tryz.sizeOf0
 v0:=Tryz.zeroValue0
 t3:=Tryz.underlying3
 a3:=Tryz.isAgg3
 z3:=Tryz.sizeOf3
 v3:=Tryz.zeroValue3
 t9:=Tryz.underlying9
 a9:=Tryz.isAgg9
 z9:=Tryz.sizeOf9
 v9:=Tryz.zeroValue9
 t37:=Tryz.underlying23
 a37:=Tryz.isAgg23
 z37:=Tryz.sizeOf23
 v37:=Tryz.zeroValue23
 t70:=Tryz.underlying147
 a70:=Tryz.isAgg147
 z70:=Tryz.sizeOf147
 v70:=Tryz.zeroValue147
 t72:=Tryz.underlying149
 a72:=Tryz.isAgg149
 z72:=Tryz.sizeOf149
 v72:=Tryz.zeroValue149
 t127:=Tryz.underlying186
 a127:=Tryz.isAgg186
 z127:=Tryz.sizeOf186
 v127:=Tryz.zeroValue186}
theorem PD:Go.Proofs.Builder.Extra Tryz.prog SW:= {
 sizeBuilder:=by kernel_rfl
 liesBuilder:=by kernel_rfl
 t5:=Tryz.underlying5
 a5:=Tryz.isAgg5
 z5:=Tryz.sizeOf5
 v5:=Tryz.zeroValue5
 infoByte:=by kernel_rfl
 cellsByte:=by kernel_rfl
 sizeByte:=by kernel_rfl
 neB5:=by decide}
theorem Tx (b:Nat)(l:List UInt8)(w:World)(h:IsB w b (Lib.byteCells l))(hb:b<=w.heap.size):
 Calls Tryz.prog 90 #[.pointer (some ⟨b,0,none⟩)] w fun e w'=>e=.returned (.string ⟨l.toArray⟩)/\Below b w w':=
 Go.Proofs.Any.Builder_String_any Z0n PD b b l w h hb
def chr (b:Bool):UInt8:=if b then 49 else 48
def text (l:List Bool):ByteArray:=⟨(l.map chr).toArray⟩
theorem Cl (l:List Bool):(text l).size=l.length:=by simp[text,ByteArray.size]
theorem GM (l:List Bool)(j:Nat)(hj:j<l.length)(h:j<(text l).size):((text l)[j]'h).toNat=48+if l[j]then 1 else 0:=by
 have e:(text l)[j]'h=chr l[j]:=by
  show (text l).data[j]'h=_
  simp[text]
 rw[e]
 cases l[j]<;>rfl
theorem IsB.new (w:World):IsB (w.alloc (.cells #[.pointer none,.slice none 0 0] 149)) w.heap.size []:=
 .inl ⟨VC _,.slice none 0 0,heap_alloc_new w _,World.ownsRow_nil _ _ _ _,by simp[Value.ownBlock]⟩
theorem ME (l:List Bool)(j:Nat)(hj:j<l.length):El (l.drop j)=(if l[j]then 1 else 0)+2*El (l.drop (j+1)):=by
 rw[WU hj,El]
theorem EK (m x:Nat)(b:Bool)(hm:m<65536)(hx:x=48+if b then 1 else 0):2*(m:Int)+((x:Int)-48)%256=(((if b then 1 else 0)+2*m:Nat):Int):=by
 subst hx
 cases b<;>simp<;>omega
theorem Zp (l:List Bool)(w:World)(hl:l.length<=16):
 Calls Tryz.prog 121 #[.string (text l)] w fun e w'=>e=.returned (.int .i64 (El l:Nat))/\w'=w:=by
 have hsz:=Cl l;have HTA:=Ab (GM l);have hD:=Ab (ME l);have HLT:=Ab (fun j=>CX (l:=l.drop j) (by rw[VN];omega));have HN:Hid (El l=El (l.drop 0)):=rfl;have HE:Hid (0=El (l.drop l.length)):=by rw[List.drop_length];exact rfl
 go_enter Tryz.func121,Tryz.ntmps121
 go_wp2;go_loop [3,4] (fun vn vi=>∃j m:Nat,j<=l.length/\vi=.int .i64 ((j:Int)-1)/\vn=.int .i64 m/\m=El (l.drop j)) (fun _ i=>(intOf i+1).toNat)
 case atStart=>exact⟨l.length,0,VC _,rfl,rfl,Aa HE⟩
 case round=>
  obtain⟨j,m,hj,rfl,rfl,hm⟩:=hrel;have HM:=Ab hm;have hmlt:m<65536:=by rw[hm];exact Aa HLT j
  clear hm
  by_cases hlt:0<j
  . have hlt2:j-1<l.length:=by omega
    go_wp2;go_round
    case rel=>
     refine⟨j-1,El (l.drop (j-1)),by omega,by go_num, ?_,rfl⟩;have e:=Aa hD (j-1) hlt2;rw[show j-1+1=j by omega,<-Aa HM]at e;rw[e];exact congrArg (Value.int .i64) (EK m _ _ hmlt (Aa HTA (j-1) hlt2 _))
    case measure=>simp[intOf];omega
  . obtain rfl:j=0:=by omega
    go_wp2;go_ret;exact⟨Cz (by rw[Aa HN,Aa HM]),rfl⟩
def ucells (row:List Bool)(u:US)(ov kv:Value):Array Value:= #[.string (text row),.int .i64 (u.p:Int),ov,kv,.int .i64 u.e]
structure UIs (No:Nat->Prop)(B:Nat)(w:World)(b:Nat)(row:List Bool)(u:US):Prop where
 base:B<=b
 no:¬No b
 ex:∃ov kv,w.heap[b]? =some (.cells (ucells row u ov kv) 110 (0,0))/\w.ownsRow (b+1) 5 1 ov u.out.length (u8s u.out)/\w.ownsRow (b+1) 3 1 kv u.ks.length (i64s u.ks)/\(ov.ownBlock=none\/ov.ownBlock≠kv.ownBlock)/\(∀g,ov.ownBlock=some g->¬No g)/\(∀g,kv.ownBlock=some g->¬No g)
structure UUp (No:Nat->Prop)(B:Nat)(w:World)(b:Nat)(row:List Bool)(u:US)(w':World):Prop where
 is:UIs No B w' b row u
 below:Below B w w'
 kp:Kp No w w'
theorem UIs.lt {No:Nat->Prop}{B b:Nat}{w:World}{row:List Bool}{u:US}(h:UIs No B w b row u):b<w.heap.size:=by
 obtain⟨ov,kv,h1,_⟩:=h.ex;exact(VL.1 h1).1
theorem UIs.cell {No:Nat->Prop}{B b:Nat}{w:World}{row:List Bool}{u:US}(h:UIs No B w b row u):w.cell? ⟨b,0,none⟩=some (.string (text row))/\w.cell? ⟨b,1,none⟩=some (.int .i64 (u.p:Int))/\w.cell? ⟨b,4,none⟩=some (.int .i64 u.e)/\∀j,w.frozen? ⟨b,j,none⟩=false:=by
 obtain⟨ov,kv,h1,_⟩:=h.ex;exact⟨Ac h1,Ac h1,Ac h1,fun j=>frozen_of_row w b j _ _ h1⟩
theorem UUp.refl {No:Nat->Prop}{B b:Nat}{w:World}{row:List Bool}{u:US}(h:UIs No B w b row u):UUp No B w b row u w:=⟨h,Below.refl _ _,Kp.refl _ _⟩
theorem UUp.trans {No:Nat->Prop}{B b:Nat}{w w1 w2:World}{row:List Bool}{u v:US}(h:UUp No B w b row u w1)(k:UUp No B w1 b row v w2):UUp No B w b row v w2:=⟨k.is,h.below.trans k.below,h.kp.trans k.kp h.below.size⟩
theorem UIs.grown {No:Nat->Prop}{B b:Nat}{w w':World}{row:List Bool}{u:US}(h:UIs No B w b row u)(hg:w.grownBy w' none):UIs No B w' b row u:=by
 obtain⟨ov,kv,h1,h2,h3,h4⟩:=h.ex;exact⟨h.base,h.no,ov,kv,(hg.block b h.lt (by simp)).trans h1,Lk h2 hg,Lk h3 hg,h4⟩
theorem UUp.drewN {No:Nat->Prop}{B b:Nat}{w w':World}{row:List Bool}{u:US}(h:UUp No B w b row u w')(q:Nat):UUp No B w b row u (w'.drewN q):=
 ⟨h.is.grown ⟨rfl,rfl,rfl,VC _,fun _ _ _=>rfl⟩,Af h.below q,h.kp⟩
theorem UIs.set {No:Nat->Prop}{B b:Nat}{w:World}{row:List Bool}{u:US}(h:UIs No B w b row u)(i:Nat)(v:Value)(u':US)(ho:u'.out=u.out)(hk:u'.ks=u.ks)(hc:∀ov kv,(ucells row u ov kv).setIfInBounds i v=ucells row u' ov kv):UUp No B w b row u' (w.setCell ⟨b,i,none⟩ v):=by
 obtain⟨ov,kv,h1,h2,h3,h4,h5,h6⟩:=h.ex;have hg:=Ad w b i v
 have hne:∀ {e size n:Nat} {x:Value} {xs:List Value},w.ownsRow (b+1) e size x n xs->x.ownBlock=none\/x.ownBlock≠some b:=fun {e size n x xs} ho=>by
  cases hx:x.ownBlock with
  |none=>exact .inl rfl
  |some g=>
   refine .inr (fun e=> ?_);have:=(ho.lt g hx).1
   cases e
   omega
 refine⟨⟨h.base,h.no,ov,kv, ?_,by rw[ho];exact h2.kept hg (hne h2),by rw[hk];exact h3.kept hg (hne h3),h4,h5,h6⟩, ?_, ?_⟩
 . rw[heap_setCell_same w b i _ _ _ h1,hc]
 . exact(Below.refl B w).grown hg (WC h.base (Nat.le_of_lt h.lt)) (fun g e=>by cases e;exact h.base)
 . exact(Kp.refl No w).grown hg (VC _) (fun g e=>by cases e;exact h.no)
theorem UIs.setE {No:Nat->Prop}{B b:Nat}{w:World}{row:List Bool}{u:US}(h:UIs No B w b row u)(x:Int):UUp No B w b row {u with e:=x} (w.setCell ⟨b,4,none⟩ (.int .i64 x)):=h.set 4 _ _ rfl rfl (fun _ _=>rfl)
theorem UIs.setP {No:Nat->Prop}{B b:Nat}{w:World}{row:List Bool}{u:US}(h:UIs No B w b row u)(q:Nat):UUp No B w b row {u with p:=q} (w.setCell ⟨b,1,none⟩ (.int .i64 (q:Int))):=h.set 1 _ _ rfl rfl (fun _ _=>rfl)
theorem Yh (row:List Bool)(p n:Nat):(text row).extract p (p+n)=text ((row.drop p).take n):=by
 apply ByteArray.ext
 simp[text,List.map_take,List.map_drop]
theorem Z1z (No:Nat->Prop)(B b n:Nat)(row:List Bool)(u:US)(w:World)(h:UIs No B w b row u)(hn:n<=16)(hrow:row.length<=200000)(hp:u.p<=row.length):
 Calls Tryz.prog 91 #[.pointer (some ⟨b,0,none⟩),.int .i64 (n:Int)] w fun e w'=>e=.returned (.int .i64 ((uget row n u).1:Int))/\UUp No B w b row (uget row n u).2 w':=by
 obtain⟨c0,c1,c4,fr⟩:=h.cell;have H:=Ab h;obtain⟨N,hN⟩:∃N,row.length=N:=⟨_,rfl⟩
 have hsz:(text row).size=N:=by rw[Cl,hN]
 rw[hN]at hrow hp;clear h
 by_cases h0:u.e=0
 . by_cases hl:N<u.p+n
   . have HU:Hid (uget row n u=(0,{u with e:=7})):=Ab (by unfold uget;rw[if_pos h0,if_pos (by rw[hN];exact hl)]);rw[Aa HU];rw[h0]at c4;have HT:=Ab (Yh row);clear h0 HU;generalize text row=T at*;obtain⟨p,out,ks,e⟩:=u;simp only at*
     have hd:decide ((N:Int)<(p:Int)+(n:Int))=true:=decide_eq_true (by omega);go_enter Tryz.func91,Tryz.ntmps91
     go_wp2;go_quiet (fail)
     go_wp2;go_ret;exact⟨rfl,((UUp.refl (Aa H)).drewN nq).trans (((UUp.refl (Aa H)).drewN nq).is.setE 7)⟩
   . have HU:Hid (uget row n u=(El ((row.drop u.p).take n),{u with p:=u.p+n})):=Ab (by unfold uget;rw[if_pos h0,if_neg (by rw[hN];exact hl)]);rw[Aa HU];rw[h0]at c4;have hx:=Yh row u.p n;have HO:=Ab (fun W=>Zp ((row.drop u.p).take n) W (by simp;omega));generalize El ((row.drop u.p).take n)=x at*;generalize text ((row.drop u.p).take n)=S at*;clear h0 HU;generalize text row=T at*;obtain⟨p,out,ks,e⟩:=u;simp only at*
     have hd:decide ((N:Int)<(p:Int)+(n:Int))=false:=decide_eq_false (by omega);go_enter Tryz.func91,Tryz.ntmps91
     go_wp2;go_quiet (fail)
     go_wp2;go_quiet ((go_at_call 121;refine Calls.quiet_of_same (Aa HO _)))
     go_wp2;go_ret;exact⟨rfl,(((UUp.refl (Aa H)).drewN _).trans (((UUp.refl (Aa H)).drewN _).is.setP (p+n))).drewN _⟩
 . have HU:Hid (uget row n u=(0,u)):=Ab (by unfold uget;rw[if_neg h0]);rw[Aa HU];have hb:(u.e==0)=false:=by rw[beq_eq_false_iff_ne];exact h0
   have hb2:(u.e !=0)=true:=by rw[bne_iff_ne];exact h0
   generalize u.e=e0 at c4 hb hb2;clear h0 HU;go_enter Tryz.func91,Tryz.ntmps91
   go_wp2;go_quiet (fail)
   go_wp2;go_ret;exact⟨rfl,(UUp.refl (Aa H)).drewN nq⟩
end Go.Proofs.YtleocpdblhbimaaGreatDoor
namespace Go.Proofs.YtleocpdblhbimaaGreatDoor
open Go.RowKit
set_option linter.unusedVariables false
def PS (N bp:Nat)(d:Nat->Int×Int)(W:World):Prop:=
 ∀k,k<N->(W.cell? ⟨bp,k*2,none⟩=some (.int .i64 (d k).1)/\W.frozen? ⟨bp,k*2,none⟩=false)/\(W.cell? ⟨bp,k*2+1,none⟩=some (.int .i64 (d k).2)/\W.frozen? ⟨bp,k*2+1,none⟩=false)
theorem Pc (N bp bx cap:Nat)(d:Nat->Int×Int)(W:World)(i j:Nat)(hi:i<N)(hj:j<N)(hN:N<=288)(hP:PS N bp d W)(hb:W.cell? ⟨bx,0,none⟩=some (.slice (some ⟨bp,0,none⟩) N cap)):
 Calls Tryz.prog 163 #[.int .i64 i,.int .i64 j,.pointer (some ⟨bx,0,none⟩)] W fun e w'=>e=.returned (.bool (decide ((d i).1<(d j).1)))/\∃q,w'=W.drewN q:=by
 have c1:=(hP i hi).1.1;have c2:=(hP j hj).1.1;generalize (d i).1=x at*;generalize (d j).1=y at*;have hiI:(i:Int)<(N:Int):=by omega
 have hjI:(j:Int)<(N:Int):=by omega
 clear hP;go_enter Tryz.func163,Tryz.ntmps163
 go_wp2;go_quiet (fail)
 go_wp2;go_ret;exact⟨rfl,_,rfl⟩
def swW (W:World)(bp:Nat)(d:Nat->Int×Int)(i j:Nat):World:=
 (W.setCells bp (0+i*2) [.int .i64 (d j).1,.int .i64 (d j).2]).setCells bp (0+j*2) [.int .i64 (d i).1,.int .i64 (d i).2]
theorem Z4y:(Tryz.prog.info? 230).map (·.size)=some 2:=by kernel_rfl
theorem Z69 (w:World):(isAgg 230).run Tryz.prog w=.ok true w:=by kernel_rfl
theorem Oo (N bp cap:Nat)(d:Nat->Int×Int)(W:World)(i j:Nat)(hi:i<N)(hj:j<N)(hP:PS N bp d W):
 (callFunc 224 #[.int .i64 i,.int .i64 j,.slice (some ⟨bp,0,none⟩) N cap,typeHandle Tryz.prog 230]).run Tryz.prog W=.ok (.value (.tuple #[])) (swW W bp d i j):=by
 obtain⟨ie,hie,hs⟩:=XG.1 Z4y
 have h:=Lib.run_swap_cells (P:=Tryz.prog) false 230 ie hie Z69 bp 0 N cap i j hi hj [.int .i64 (d i).1,.int .i64 (d i).2] [.int .i64 (d j).1,.int .i64 (d j).2] (by rw[hs];rfl) (by rw[hs];rfl)
  (by intro v hv;simp at hv;rcases hv with rfl|rfl<;>rfl) (by intro v hv;simp at hv;rcases hv with rfl|rfl<;>rfl) W
  (by intro k v hk;rw[hs];match k,hk with
   |0,hk=>simp at hk;subst hk;simpa using (hP i hi).1.1
   |1,hk=>simp at hk;subst hk;simpa using (hP i hi).2.1)
  (by intro k v hk;rw[hs];match k,hk with
   |0,hk=>simp at hk;subst hk;simpa using (hP j hj).1.1
   |1,hk=>simp at hk;subst hk;simpa using (hP j hj).2.1)
  (by rw[hs];intro k hk;match k,hk with
   |0,_=>simpa using (hP i hi).1.2
   |1,_=>simpa using (hP i hi).2.2)
  (by rw[hs];intro k hk;match k,hk with
   |0,_=>simpa using (hP j hj).1.2
   |1,_=>simpa using (hP j hj).2.2)
 rw[run_callFunc_extern Tryz.func224 (by kernel_rfl) (by kernel_rfl) (by kernel_rfl) (e:=Extern.ReflectliteSwapper.swap false) (by kernel_rfl),h,hs];rfl
theorem Bi (w:World)(r:Option Nat):w.grownBy w r:=⟨rfl,rfl,rfl,VC _,fun _ _ _=>rfl⟩
theorem Bc {a b c:World}{r:Option Nat}(h:a.grownBy b r)(k:b.grownBy c r):a.grownBy c r:=
 ⟨k.os.trans h.os,k.tape.trans h.tape,k.output.trans h.output,WC h.size k.size,fun i hi hr=>(k.block i (VG hi h.size) hr).trans (h.block i hi hr)⟩
theorem Ep {a b:World}{r:Option Nat}(h:a.grownBy b r)(n:Nat):a.grownBy (b.drewN n) r:=⟨h.os,h.tape,h.output,h.size,h.block⟩
theorem Bk {a b:World}{r:Option Nat}(h:a.grownBy b r)(o:Obj):a.grownBy (b.alloc o) r:=Bc h (World.grownBy_alloc b o r)
theorem DQ (w:World)(b i:Nat)(v:Value):w.grownBy (w.setCell ⟨b,i,none⟩ v) (some b):=
 ⟨rfl,rfl,rfl,by simp,fun k _ hk=>heap_setCell_other w ⟨b,i,none⟩ k v (fun e=>hk (by simp[e]))⟩
theorem Iy (b:Nat):∀(vs:List Value) (o:Nat) (w:World),w.grownBy (w.setCells b o vs) (some b)
 | [],o,w=>Bi _ _
 |v::vs,o,w=>Bc (DQ w b o v) (Iy b vs (o+1) _)
theorem Pg (W:World)(bp:Nat)(d:Nat->Int×Int)(i j:Nat):W.grownBy (swW W bp d i j) (some bp):=Bc (Iy bp _ _ W) (Iy bp _ _ _)
theorem GB {W:World}{bp o:Nat}{x y:Value}(h0:(W.cell? ⟨bp,o,none⟩).isSome=true)(h1:(W.cell? ⟨bp,o+1,none⟩).isSome=true):(W.setCells bp o [x,y]).cell? ⟨bp,o,none⟩=some x/\(W.setCells bp o [x,y]).cell? ⟨bp,o+1,none⟩=some y:=by
 have hs:∀j,j< [x,y].length->(W.cell? ⟨bp,o+j,none⟩).isSome=true:=by
  intro j hj
  match j,hj with
  |0,_=>exact h0
  |1,_=>exact h1
 exact⟨World.cell?_setCells_in bp [x,y] o W hs 0 (by simp),World.cell?_setCells_in bp [x,y] o W hs 1 (by simp)⟩
theorem Ms {W:World}{bp o k:Nat}{x y:Value}(h:k<o\/o+2<=k):(W.setCells bp o [x,y]).cell? ⟨bp,k,none⟩=W.cell? ⟨bp,k,none⟩:=
 World.cell?_setCells_out bp [x,y] o W ⟨bp,k,none⟩ (fun _ _=>by simpa using h)
theorem PS.sw {N bp:Nat}{d:Nat->Int×Int}{W:World}(hP:PS N bp d W)(i j:Nat)(hi:i<N)(hj:j<N):PS N bp (Stab.swp d i j) (swW W bp d i j):=by
 intro k hk;obtain⟨⟨c0,f0⟩,c1,f1⟩:=hP k hk;unfold swW;simp only[WI,World.frozen?_setCells,f0,f1,and_true];have some1:∀q,q<N->(W.cell? ⟨bp,q*2,none⟩).isSome=true/\(W.cell? ⟨bp,q*2+1,none⟩).isSome=true:=fun q hq=>⟨by rw[(hP q hq).1.1];rfl,by rw[(hP q hq).2.1];rfl⟩
 have some2:∀q,q<N->((W.setCells bp (i*2) [.int .i64 (d j).1,.int .i64 (d j).2]).cell? ⟨bp,q*2,none⟩).isSome=true/\((W.setCells bp (i*2) [.int .i64 (d j).1,.int .i64 (d j).2]).cell? ⟨bp,q*2+1,none⟩).isSome=true:=by
  intro q hq
  by_cases e:q=i
  . subst e;have:=GB (x:=.int .i64 (d j).1) (y:=.int .i64 (d j).2) (some1 q hq).1 (some1 q hq).2
    exact⟨by rw[this.1];rfl,by rw[this.2];rfl⟩
  . rw[Ms (o:=i*2) (k:=q*2) (by omega),Ms (o:=i*2) (k:=q*2+1) (by omega)];exact some1 q hq
 unfold Stab.swp
 by_cases e2:k=j
 . subst e2;have:=GB (x:=.int .i64 (d i).1) (y:=.int .i64 (d i).2) (some2 k hk).1 (some2 k hk).2
   by_cases e1:k=i
   . subst e1;rw[if_pos rfl];exact this
   . rw[if_neg e1,if_pos rfl];exact this
 . rw[Ms (o:=j*2) (k:=k*2) (by omega),Ms (o:=j*2) (k:=k*2+1) (by omega)]
   by_cases e1:k=i
   . subst e1;rw[if_pos rfl];exact GB (x:=.int .i64 (d j).1) (y:=.int .i64 (d j).2) (some1 k hk).1 (some1 k hk).2
   . rw[if_neg e1,if_neg e2,Ms (o:=i*2) (k:=k*2) (by omega),Ms (o:=i*2) (k:=k*2+1) (by omega)];exact⟨c0,c1⟩
theorem PS.kept {N bp:Nat}{d:Nat->Int×Int}{W W':World}(hP:PS N bp d W)(hg:W.grownBy W' none)(hb:bp<W.heap.size):PS N bp d W':=by
 intro k hk;obtain⟨⟨c0,f0⟩,c1,f1⟩:=hP k hk;have e:=hg.block bp hb (by simp);exact⟨⟨by rw[World.cell?_of_block (w:=W) (a:=⟨bp,k*2,none⟩) e];exact c0,by rw[World.frozen?_of_block (w:=W) (a:=⟨bp,k*2,none⟩) e];exact f0⟩,by rw[World.cell?_of_block (w:=W) (a:=⟨bp,k*2+1,none⟩) e];exact c1,by rw[World.frozen?_of_block (w:=W) (a:=⟨bp,k*2+1,none⟩) e];exact f1⟩
theorem PS.drewN {N bp:Nat}{d:Nat->Int×Int}{W:World}(hP:PS N bp d W)(n:Nat):PS N bp d (W.drewN n):=hP
theorem PS.alloc {N bp:Nat}{d:Nat->Int×Int}{W:World}(hP:PS N bp d W)(hb:bp<W.heap.size)(o:Obj):PS N bp d (W.alloc o):=hP.kept (World.grownBy_alloc W o none) hb
abbrev LF (bx:Nat):Value:=.func (.func 163) #[] #[.pointer (some ⟨bx,0,none⟩)]
abbrev SF (h:Value)(N bp cap:Nat):Value:=.func (.func 224) #[] #[.slice (some ⟨bp,0,none⟩) N cap,h]
theorem Hg (h:Value)(hh:Hid (h=typeHandle Tryz.prog 230))(N bp bx cap:Nat)(d:Nat->Int×Int)(a b n:Nat)(w:World)(hN:N<=288)(ha:a+n<=N)(hb:b+n<=N)(hbp:bp<w.heap.size)(hP:PS N bp d w):
 Calls Tryz.prog 264 #[.agg #[LF bx,SF h N bp cap],.int .i64 a,.int .i64 b,.int .i64 n] w fun e w'=>e=.returned (.tuple #[])/\PS N bp (Stab.swr d a b n) w'/\w.grownBy w' (some bp):=by
 have HP:=Ab hP;clear hP;go_enter Tryz.func264,Tryz.ntmps264
 go_wp2;go_loopw [8] (fun vi wr=>∃i:Nat,i<=n/\vi=.int .i64 i/\PS N bp (Stab.swr d a b i) wr/\w.grownBy wr (some bp)/\wr.cell? ⟨w.heap.size,1,none⟩=some (SF h N bp cap)/\w.heap.size<wr.heap.size) (fun vi _=>n-(intOf vi).toNat)
 case atStart=>exact⟨0,VK _,rfl,(Aa HP).alloc hbp _,Bk (Bi _ _) _,by simp,by simp⟩
 case round=>
  obtain⟨i,hi,rfl,hPi,hg,hc,hz⟩:=hrel;have HPi:=Ab hPi;have HG:=Ab hg;have HS:Hid (Stab.swr d a b (i+1)=Stab.swp (Stab.swr d a b i) (a+i) (b+i)):=rfl;clear hPi hg
  by_cases hlt:i<n
  . generalize Stab.swr d a b i=di at*;have hrun:=Oo N bp cap di wr (a+i) (b+i) (by omega) (by omega) (Aa HPi);rw[<-Aa hh]at hrun;push_cast at hrun
    have HSW:=Ab ((Aa HPi).sw (a+i) (b+i) (by omega) (by omega));have hgs:=Pg wr bp di (a+i) (b+i);have HGS:=Ab (Bc (Aa HG) hgs);have hc2:=hgs.cell hc (by simp;omega);have hz2:=VG hz hgs.size;clear hgs;generalize swW wr bp di (a+i) (b+i)=w2 at*;go_wp2;go_roundw
    case rel=>exact⟨i+1,by omega,by go_num,by rw[Aa HS];exact Aa HSW,Aa HGS,hc2,hz2⟩
    case measure=>simp[intOf];omega
  . obtain rfl:i=n:=by omega
    go_wp2;go_end0
    exact⟨rfl,Aa HPi,Aa HG⟩
theorem Jl (h:Value)(hh:Hid (h=typeHandle Tryz.prog 230))(N bp bx cap:Nat)(d:Nat->Int×Int)(a m b:Nat)(w:World)(hN:N<=288)(ha:a<m)(hm:m<b)(hb:b<=N)(hbp:bp<w.heap.size)(hP:PS N bp d w):
 Calls Tryz.prog 246 #[.agg #[LF bx,SF h N bp cap],.int .i64 a,.int .i64 m,.int .i64 b] w fun e w'=>e=.returned (.tuple #[])/\PS N bp (Stab.rot d a m b) w'/\w.grownBy w' (some bp):=by
 have HP:=Ab hP;have HR:Hid (Stab.rot d (m-(m-a)) m (m+(b-m))=Stab.rot d a m b):=by rw[show m-(m-a)=a by omega,show m+(b-m)=b by omega];exact rfl
 clear hP;go_enter Tryz.func246,Tryz.ntmps246
 go_wp2
 go_loopw [8,9] (fun vi vj wr=>∃(i j:Nat) (dk:Nat->Int×Int),0<i/\0<j/\i<=m-a/\j<=b-m/\vi=.int .i64 i/\vj=.int .i64 j/\Stab.rot dk (m-i) m (m+j)=Stab.rot d a m b/\PS N bp dk wr/\w.grownBy wr (some bp)/\
  (wr.cell? ⟨w.heap.size,0,none⟩=some (LF bx)/\wr.cell? ⟨w.heap.size,1,none⟩=some (SF h N bp cap))/\w.heap.size<wr.heap.size) (fun vi vj _=>(intOf vi).toNat+(intOf vj).toNat)
 case atStart=>exact⟨m-a,b-m,d,by omega,by omega,VC _,VC _,by go_num,by go_num,Aa HR,(Aa HP).alloc hbp _,Bk (Bi _ _) _,⟨by simp,by simp⟩,by simp⟩
 case round=>
  obtain⟨i,j,dk,hi0,hj0,hi,hj,rfl,rfl,hrot,hPk,hg,⟨hc0,hc1⟩,hz⟩:=hrel;have HPk:=Ab hPk;have HG:=Ab hg;have HRot:=Ab hrot;have hbw:=VG hbp hg.size;clear hPk hg hrot
  rcases ZK i j with hij|hij|hij
  . have hne:((i:Int)!=(j:Int))=true:=by rw[bne_iff_ne];omega
    have hle:¬(j:Int)<(i:Int):=by omega
    have e1:(m:Int)-(i:Int)=((m-i:Nat):Int):=by omega
    have e2:(m:Int)+(j:Int)-(i:Int)=((m+j-i:Nat):Int):=by omega
    have E1:=Ab e1;have E2:=Ab e2;clear e1 e2;go_wp2_with fail
    rw[Aa E1,Aa E2];refine(Hg h hh N bp bx cap dk _ _ _ _ hN (by omega) (by omega) hbw (Aa HPk)).mono ?_;rintro e w2 ⟨rfl,hP2,hg2⟩;have HP2:=Ab hP2;have HG2:=Ab (Bc (Aa HG) hg2);have c0:=hg2.cell hc0 (by simp;omega);have c1:=hg2.cell hc1 (by simp;omega);have hz2:=VG hz hg2.size;have HR2:=Ab ((Stab.rot_lt dk m i j hij (by omega)).trans (Aa HRot));clear hP2 hg2;go_wp2;go_roundw
    case rel=>exact⟨i,j-i,_,hi0,by omega,hi,by omega,rfl,by go_num,Aa HR2,Aa HP2,Aa HG2,⟨c0,c1⟩,hz2⟩
    case measure=>simp[intOf];omega
  . subst hij;have hne:((i:Int)!=(i:Int))=false:=by simp
    have E1:Hid ((m:Int)-(i:Int)=((m-i:Nat):Int)):=by unfold Hid;omega
    go_wp2_with fail
    rw[Aa E1];refine(Hg h hh N bp bx cap dk _ _ _ _ hN (by omega) (by omega) hbw (Aa HPk)).mono ?_;rintro e w2 ⟨rfl,hP2,hg2⟩;rw[Stab.rot_eq dk m i (by omega),Aa HRot]at hP2;have HP2:=Ab hP2;have HG2:=Ab (Bc (Aa HG) hg2);clear hP2 hg2;go_wp2;go_end0
    exact⟨rfl,Aa HP2,Aa HG2⟩
  . have hne:((i:Int)!=(j:Int))=true:=by rw[bne_iff_ne];omega
    have hle:(j:Int)<(i:Int):=by omega
    have E1:Hid ((m:Int)-(i:Int)=((m-i:Nat):Int)):=by unfold Hid;omega
    go_wp2_with fail
    rw[Aa E1];refine(Hg h hh N bp bx cap dk _ _ _ _ hN (by omega) (by omega) hbw (Aa HPk)).mono ?_;rintro e w2 ⟨rfl,hP2,hg2⟩;have HP2:=Ab hP2;have HG2:=Ab (Bc (Aa HG) hg2);have c0:=hg2.cell hc0 (by simp;omega);have c1:=hg2.cell hc1 (by simp;omega);have hz2:=VG hz hg2.size;have HR2:=Ab ((Stab.rot_gt dk m i j hij (by omega)).trans (Aa HRot));clear hP2 hg2;go_wp2;go_roundw
    case rel=>exact⟨i-j,j,_,by omega,hj0,by omega,hj,by go_num,rfl,Aa HR2,Aa HP2,Aa HG2,⟨c0,c1⟩,hz2⟩
    case measure=>simp[intOf];omega
end Go.Proofs.YtleocpdblhbimaaGreatDoor
