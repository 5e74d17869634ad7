import Derived.Shelf.Strings.Builder1
import Derived.Test.YtleocpdblhbimaaGreatDoorQ4
import Derived.Laws.BytesArg
import Derived.Lib.Strings
set_option linter.unusedSimpArgs false
set_option linter.unusedVariables false
set_option maxRecDepth 100000
set_option maxHeartbeats 1000000
namespace Go.Proofs.YtleocpdblhbimaaGreatDoor
open Go.RowKit
theorem Z73:(Tryz.prog.info? 149).map (·.size)=some 2:=oR
theorem Z7y:liesAt Tryz.prog Tryz.prog.depth 149 (2/Tryz.prog.cellsOf 149) 0 149 1=true:=oR
theorem OK:(Tryz.prog.info? 5).map (fun i=>(i.zero,i.size,i.bytes))=some (some (.int .u8 0),1,1):=oR
def IsB (w:World)(b:Nat)(bs:List Value):Prop:=Lib.IsBuilder 149 5 b b bs w
set_option maxRecDepth 100000 in
theorem Tv (b:Nat)(w:World)(G:w.cell? ⟨b,0,none⟩=some (.pointer (some ⟨b,0,none⟩))):Calls Tryz.prog 120 #[.pointer (some ⟨b,0,none⟩)] w fun e w'=>e=.returned (.tuple #[])/\w'=w:=by obtain⟨j,E,_⟩:=XF.1 Z73;have F:=fun w=>Lib.run_neq_ptr_same (P:=Tryz.prog) w ⟨b,0,none⟩ Tryz.underlying147 E;go_enter Tryz.func120,Tryz.ntmps120;go_wp2;go_end0;exact⟨rfl,rfl⟩
set_option maxRecDepth 100000 in
theorem So (b:Nat)(w:World)(T:w.cell? ⟨b,0,none⟩=some (.pointer none))(F:w.shape? b=some (149,2))(H:w.frozen? ⟨b,0,none⟩=false):Calls Tryz.prog 120 #[.pointer (some ⟨b,0,none⟩)] w fun e w'=>e=.returned (.tuple #[])/\w'=w.setCell ⟨b,0,none⟩ (.pointer (some ⟨b,0,none⟩)):=by obtain⟨j,E,G⟩:=XF.1 Z73;have I:=fun w=>Lib.run_neq_ptr_same (P:=Tryz.prog) w ⟨b,0,none⟩ Tryz.underlying147 E;have O:=Lib.run_to_unsafe (P:=Tryz.prog) w ⟨b,0,none⟩ Tryz.underlying147 Tryz.underlying222 E (by rw[G];decide) F (Nat.zero_lt_succ 1);have M:=Lib.run_from_unsafe (P:=Tryz.prog) w ⟨b,0,none⟩ Tryz.underlying222 Tryz.underlying147 E F Z7y;go_enter Tryz.func120,Tryz.ntmps120;go_wp2;rw[run_callFunc_extern Tryz.func158 oR oR oR (e:=Extern.AbiNoEscape.same) oR];rw[Lib.run_noEscape];simp only[Result.andThen];rw[Oper.upon_value];go_wp2;go_end0;exact⟨rfl,rfl⟩
theorem Yn (b:Nat)(bs:List Value)(w:World)(E:IsB w b bs):Calls Tryz.prog 120 #[.pointer (some ⟨b,0,none⟩)] w fun e w'=>e=.returned (.tuple #[])/\Lib.BuilderAt 149 5 b b (.pointer (some ⟨b,0,none⟩)) bs w'/\Below b w w':=by rcases E with E|E;refine(So b w E.cell0 E.shape E.frozen0).mono ?_;rintro e w' ⟨rfl,rfl⟩;exact⟨rfl,E.used _,(Below.refl b w).setCell (p:=⟨b,0,none⟩) (VB _) _⟩;refine(Tv b w E.cell0).mono ?_;rintro e w' ⟨rfl,rfl⟩;exact⟨rfl,E,Below.refl b _⟩
theorem Wi (b:Nat)(bs:List Value)(c:Int)(w:World)(h:IsB w b bs)(az:bs.length<=1000000):Calls Tryz.prog 89 #[.pointer (some ⟨b,0,none⟩),.int .u8 c] w fun e w'=>e=.returned .nilIface/\IsB w' b (bs++ [.int .u8 c])/\Below b w w':=by obtain⟨av,hi,ap,ah,ai⟩:=info_parts OK;go_enter Tryz.func89,Tryz.ntmps89;go_wp2_with fail;refine(Yn b bs _ h).mono ?_;rintro e G ⟨rfl,U,Y⟩;have ar:=U.lt;obtain⟨ax,v,I,ae,Z⟩:=U;(have c0:G.cell? ⟨b,0,none⟩=some (.pointer (some ⟨b,0,none⟩)):=by rw[Lib.cell_of_heap I];rfl);(have c1:G.cell? ⟨b,1,none⟩=some v:=by rw[Lib.cell_of_heap I];rfl);have ac:=Ab ae;have ao:=Ab Y;have ak:=Ab I;have aj:=Ab Z;clear ae Y I Z;go_wp2_with (at_builtin;refine wpList_append_own _ rfl _ _ 23 rfl b 5 av (.int .u8 0) 1 1 Tryz.underlying23 hi ap ah ai rfl od _ _ _ rfl ((Aa ac).alloc _) ⟨G.heap.size,0,none⟩ 1 1 [.int .u8 c] rfl rfl (by intro j u F;match j,F with|0,F=>simp at F;subst F;simp[Addr.add]) (by intro u aa;simp at aa;subst aa;rfl) ou om oO ?_);intro v' H M O _;(have E:H.heap[b]? =some (.cells #[.pointer (some ⟨b,0,none⟩),v] 149 (0,0)):=by rw[O.block b oO (fun e=>(Aa aj) e.symm),Lib.alloc_old G _ b ar];exact Aa ak);(have d0:H.cell? ⟨b,0,none⟩=some (.pointer (some ⟨b,0,none⟩)):=by rw[Lib.cell_of_heap E];rfl);(have a1:H.cell? ⟨b,1,none⟩=some v:=by rw[Lib.cell_of_heap E];rfl);have f1:H.frozen? ⟨b,1,none⟩=false:=Lib.frozen_of_heap E 1;have aw:=Ab M;have al:=Ab O;have ag:=Ab E;(obtain⟨g,cap,rfl⟩:∃g cap,v'=.slice (some ⟨g,0,none⟩) (bs.length+1) cap:=by(rcases M.2 with ⟨_,ay⟩|⟨g,cap,cur,af,_⟩);omega;exact⟨g,cap,af⟩);clear M O E;go_wp2;go_ret;refine⟨rfl,.inr ?_, ?_⟩;exact Lib.BuilderAt.put (T:=149) (e:=5) ax (Aa ag) (bs':=bs++ [.int .u8 c]) (by simpa using Aa aw) od;exact(((Aa ao).alloc om _).grown (Aa al) oO (fun k au=>((Aa ac).lt k au).1)).setCell (p:=⟨b,1,none⟩) (VB _) _
def Z2e:Go.Shelf.Ren:=⟨fun|169=>90|n=>n,fun|70=>147|9=>9|0=>0|72=>149|37=>23|127=>186|3=>3|5=>5|n=>n,fun|n=>n⟩
theorem Z3l:Go.Proofs.Lays.n169 Tryz.prog Z2e:= {
 mixed:=oR
 f169:=Tryz.func90.trans (congrArg some oR)
 t0:=Tryz.underlying0
 a0:=Tryz.isAgg0
 z0:=Tryz.sizeOf0
 v0:=Tryz.zeroValue0
 t3:=Tryz.underlying3
 a3:=Tryz.isAgg3
 z3:=Tryz.sizeOf3
 v3:=Tryz.zeroValue3
 t9:=Tryz.underlying9
 a9:=Tryz.isAgg9
 z9:=Tryz.sizeOf9
 v9:=Tryz.zeroValue9
 t37:=Tryz.underlying23
 a37:=Tryz.isAgg23
 z37:=Tryz.sizeOf23
 v37:=Tryz.zeroValue23
 t70:=Tryz.underlying147
 a70:=Tryz.isAgg147
 z70:=Tryz.sizeOf147
 v70:=Tryz.zeroValue147
 t72:=Tryz.underlying149
 a72:=Tryz.isAgg149
 z72:=Tryz.sizeOf149
 v72:=Tryz.zeroValue149
 t127:=Tryz.underlying186
 a127:=Tryz.isAgg186
 z127:=Tryz.sizeOf186
 v127:=Tryz.zeroValue186}
theorem TU:Go.Proofs.Builder.Extra Tryz.prog Z2e:= {
 sizeBuilder:=oR
 liesBuilder:=oR
 t5:=Tryz.underlying5
 a5:=Tryz.isAgg5
 z5:=Tryz.sizeOf5
 v5:=Tryz.zeroValue5
 infoByte:=oR
 cellsByte:=oR
 sizeByte:=oR
 neB5:=od}
theorem Us (b:Nat)(l:List UInt8)(w:World)(E:IsB w b (Lib.byteCells l))(F:b<=w.heap.size):
 Calls Tryz.prog 90 #[.pointer (some ⟨b,0,none⟩)] w fun e w'=>e=.returned (.string ⟨l.toArray⟩)/\Below b w w':=
 Go.Proofs.Any.Builder_String_any Z3l TU b b l w E F
def chr (b:Bool):UInt8:=if b then 49 else 48
def text (l:List Bool):ByteArray:=⟨(l.map chr).toArray⟩
theorem Ct (l:List Bool):(text l).size=l.length:=by simp[text,ByteArray.size]
theorem LC (l:List Bool)(j:Nat)(F:j<l.length)(E:j<(text l).size):((text l)[j]'E).toNat=48+if l[j]then 1 else 0:=by(have e:(text l)[j]'E=chr l[j]:=by show (text l).data[j]'E=_;simp[text]);rw[e];cases l[j]<;>rfl
theorem IsB.new (w:World):IsB (w.alloc (.cells #[.pointer none,.slice none 0 0] 149)) w.heap.size []:=
 .inl ⟨VB _,.slice none 0 0,heap_alloc_new w _,World.ownsRow_nil _ _ _ _,by simp[Value.ownBlock]⟩
theorem QA (l:List Bool)(j:Nat)(E:j<l.length):Eb (l.drop j)=(if l[j]then 1 else 0)+2*Eb (l.drop (j+1)):=by rw[WS E,Eb]
theorem IL (m x:Nat)(b:Bool)(F:m<65536)(E:x=48+if b then 1 else 0):2*(m:Int)+((x:Int)-48)%256=(((if b then 1 else 0)+2*m:Nat):Int):=by subst E;cases b<;>simp<;>omega
theorem D7 (l:List Bool)(w:World)(ac:l.length<=16):Calls Tryz.prog 121 #[.string (text l)] w fun e w'=>e=.returned (.int .i64 (Eb l:Nat))/\w'=w:=by have Z:=Ct l;have H:=Ab (LC l);have U:=Ab (QA l);have M:=Ab (fun j=>FU (l:=l.drop j) (by rw[VQ];omega));have O:Hid (Eb l=Eb (l.drop 0)):=rfl;(have T:Hid (0=Eb (l.drop l.length)):=by rw[List.drop_length];exact rfl);go_enter Tryz.func121,Tryz.ntmps121;go_wp2;go_loop [3,4] (fun Y G=>∃j m:Nat,j<=l.length/\G=.int .i64 ((j:Int)-1)/\Y=.int .i64 m/\m=Eb (l.drop j)) (fun _ i=>(intOf i+1).toNat);(case atStart=>exact⟨l.length,0,VB _,rfl,rfl,Aa T⟩);case round=>obtain⟨j,m,ae,rfl,rfl,hm⟩:=hrel;have E:=Ab hm;(have I:m<65536:=by rw[hm];exact Aa M j);clear hm;by_cases aa:0<j;(. have F:j-1<l.length:=om;go_wp2;go_round;(case rel=>refine⟨j-1,Eb (l.drop (j-1)),om,by go_num, ?_,rfl⟩;have e:=Aa U (j-1) F;rw[show j-1+1=j by omega,<-Aa E]at e;rw[e];exact congrArg (Value.int .i64) (IL m _ _ I (Aa H (j-1) F _)));case measure=>simp[intOf];omega);. obtain rfl:j=0:=om;go_wp2;go_ret;exact⟨Dd (by rw[Aa O,Aa E]),rfl⟩
def ucells (row:List Bool)(u:US)(ov kv:Value):Array Value:= #[.string (text row),.int .i64 (u.p:Int),ov,kv,.int .i64 u.e]
structure UIs (No:Nat->Prop)(B:Nat)(w:World)(b:Nat)(row:List Bool)(u:US):Prop where
 base:B<=b
 no:¬No b
 ex:∃ov kv,w.heap[b]? =some (.cells (ucells row u ov kv) 110 (0,0))/\w.ownsRow (b+1) 5 1 ov u.out.length (u8s u.out)/\w.ownsRow (b+1) 3 1 kv u.ks.length (i64s u.ks)/\(ov.ownBlock=none\/ov.ownBlock≠kv.ownBlock)/\(∀g,ov.ownBlock=some g->¬No g)/\(∀g,kv.ownBlock=some g->¬No g)
structure UUp (No:Nat->Prop)(B:Nat)(w:World)(b:Nat)(row:List Bool)(u:US)(w':World):Prop where
 is:UIs No B w' b row u
 below:Below B w w'
 kp:Kp No w w'
theorem UIs.lt {No:Nat->Prop}{B b:Nat}{w:World}{row:List Bool}{u:US}(F:UIs No B w b row u):b<w.heap.size:=by obtain⟨ov,kv,E,_⟩:=F.ex;exact(VK.1 E).1
theorem UIs.cell {No:Nat->Prop}{B b:Nat}{w:World}{row:List Bool}{u:US}(F:UIs No B w b row u):w.cell? ⟨b,0,none⟩=some (.string (text row))/\w.cell? ⟨b,1,none⟩=some (.int .i64 (u.p:Int))/\w.cell? ⟨b,4,none⟩=some (.int .i64 u.e)/\∀j,w.frozen? ⟨b,j,none⟩=false:=by obtain⟨ov,kv,E,_⟩:=F.ex;exact⟨Ac E,Ac E,Ac E,fun j=>frozen_of_row w b j _ _ E⟩
theorem UUp.refl {No:Nat->Prop}{B b:Nat}{w:World}{row:List Bool}{u:US}(E:UIs No B w b row u):UUp No B w b row u w:=⟨E,Below.refl _ _,Kp.refl _ _⟩
theorem UUp.trans {No:Nat->Prop}{B b:Nat}{w F G:World}{row:List Bool}{u v:US}(E:UUp No B w b row u F)(k:UUp No B F b row v G):UUp No B w b row v G:=⟨k.is,E.below.trans k.below,E.kp.trans k.kp E.below.size⟩
theorem UIs.grown {No:Nat->Prop}{B b:Nat}{w w':World}{row:List Bool}{u:US}(E:UIs No B w b row u)(F:w.grownBy w' none):UIs No B w' b row u:=by obtain⟨ov,kv,M,G,H,I⟩:=E.ex;exact⟨E.base,E.no,ov,kv,(F.block b E.lt oS).trans M,Hv G F,Hv H F,I⟩
theorem UUp.drewN {No:Nat->Prop}{B b:Nat}{w w':World}{row:List Bool}{u:US}(E:UUp No B w b row u w')(q:Nat):UUp No B w b row u (w'.drewN q):=
 ⟨E.is.grown ⟨rfl,rfl,rfl,VB _,fun _ _ _=>rfl⟩,Ae E.below q,E.kp⟩
theorem UIs.set {No:Nat->Prop}{B b:Nat}{w:World}{row:List Bool}{u:US}(E:UIs No B w b row u)(i:Nat)(v:Value)(G:US)(H:G.out=u.out)(aa:G.ks=u.ks)(Y:∀ov kv,(ucells row u ov kv).setIfInBounds i v=ucells row G ov kv):UUp No B w b row G (w.setCell ⟨b,i,none⟩ v):=by
 obtain⟨ov,kv,U,I,M,T,ac,Z⟩:=E.ex;have F:=Ad w b i v
 have O:∀ {e size n:Nat} {x:Value} {xs:List Value},w.ownsRow (b+1) e size x n xs->x.ownBlock=none\/x.ownBlock≠some b:=fun {e size n x xs} H=>by
  cases ae:x.ownBlock with
  |none=>exact .inl rfl
  |some g=>refine .inr (fun e=> ?_);have:=(H.lt g ae).1;cases e;omega
 refine⟨⟨E.base,E.no,ov,kv, ?_,by rw[H];exact I.kept F (O I),by rw[aa];exact M.kept F (O M),T,ac,Z⟩, ?_, ?_⟩;rw[heap_setCell_same w b i _ _ _ U,Y];exact(Below.refl B w).grown F (VU E.base (YX E.lt)) (fun g e=>by cases e;exact E.base);exact(Kp.refl No w).grown F (VB _) (fun g e=>by cases e;exact E.no)
theorem UIs.setE {No:Nat->Prop}{B b:Nat}{w:World}{row:List Bool}{u:US}(E:UIs No B w b row u)(x:Int):UUp No B w b row {u with e:=x} (w.setCell ⟨b,4,none⟩ (.int .i64 x)):=E.set 4 _ _ rfl rfl (fun _ _=>rfl)
theorem UIs.setP {No:Nat->Prop}{B b:Nat}{w:World}{row:List Bool}{u:US}(E:UIs No B w b row u)(q:Nat):UUp No B w b row {u with p:=q} (w.setCell ⟨b,1,none⟩ (.int .i64 (q:Int))):=E.set 1 _ _ rfl rfl (fun _ _=>rfl)
theorem Dn (No:Nat->Prop)(B b:Nat)(row:List Bool)(u:US)(x:Int)(w:World)(G:UIs No B w b row u):Calls Tryz.prog 92 #[.pointer (some ⟨b,0,none⟩),.int .i64 x] w fun e w'=>e=.returned (.tuple #[])/\UUp No B w b row (Am x u) w':=by obtain⟨c0,c1,I,M⟩:=G.cell;have H:=Ab G;clear G;by_cases E:u.e=0;(. have F:Hid (Am x u= {u with e:=x}):=Ab (by unfold Am;rw[if_pos E]);rw[E]at I;clear E;go_enter Tryz.func92,Tryz.ntmps92;go_wp2;go_end0;exact⟨rfl,by rw[Aa F];exact(Aa H).setE x⟩);. have F:Hid (Am x u=u):=Ab (by unfold Am;rw[if_neg E]);(have hb:(u.e==0)=false:=by rw[beq_eq_false_iff_ne];exact E);generalize u.e=e0 at I hb;clear E;go_enter Tryz.func92,Tryz.ntmps92;go_wp2;go_end0;exact⟨rfl,by rw[Aa F];exact UUp.refl (Aa H)⟩
theorem Zw (row:List Bool)(p n:Nat):(text row).extract p (p+n)=text ((row.drop p).take n):=by apply ByteArray.ext;simp[text,List.map_take,List.map_drop]
theorem Z51 (No:Nat->Prop)(B b n:Nat)(row:List Bool)(u:US)(w:World)(M:UIs No B w b row u)(ae:n<=16)(Y:row.length<=200000)(O:u.p<=row.length):Calls Tryz.prog 91 #[.pointer (some ⟨b,0,none⟩),.int .i64 (n:Int)] w fun e w'=>e=.returned (.int .i64 ((uget row n u).1:Int))/\UUp No B w b row (uget row n u).2 w':=by obtain⟨c0,c1,I,af⟩:=M.cell;have H:=Ab M;obtain⟨N,G⟩:=exq (row.length);(have ac:(text row).size=N:=by rw[Ct,G]);rw[G]at Y O;clear M;by_cases E:u.e=0;(. by_cases hl:N<u.p+n;(. have F:Hid (uget row n u=(0,{u with e:=7})):=Ab (by unfold uget;rw[if_pos E,if_pos (by rw[G];exact hl)]);rw[Aa F];rw[E]at I;have ag:=Ab (Zw row);clear E F;generalize text row=T at*;obtain⟨p,out,ks,e⟩:=u;simp only at*;have aa:decide ((N:Int)<(p:Int)+(n:Int))=true:=decide_eq_true om;go_enter Tryz.func91,Tryz.ntmps91;go_wp2;go_quiet (fail);go_wp2;go_ret;exact⟨rfl,((UUp.refl (Aa H)).drewN nq).trans (((UUp.refl (Aa H)).drewN nq).is.setE 7)⟩);. have F:Hid (uget row n u=(Eb ((row.drop u.p).take n),{u with p:=u.p+n})):=Ab (by unfold uget;rw[if_pos E,if_neg (by rw[G];exact hl)]);rw[Aa F];rw[E]at I;have ah:=Zw row u.p n;have U:=Ab (fun W=>D7 ((row.drop u.p).take n) W oO);generalize Eb ((row.drop u.p).take n)=x at*;generalize text ((row.drop u.p).take n)=S at*;clear E F;generalize text row=T at*;obtain⟨p,out,ks,e⟩:=u;simp only at*;have aa:decide ((N:Int)<(p:Int)+(n:Int))=false:=decide_eq_false om;go_enter Tryz.func91,Tryz.ntmps91;go_wp2;go_quiet (fail);go_wp2;go_quiet ((go_at_call 121;refine Calls.quiet_of_same (Aa U _)));go_wp2;go_ret;exact⟨rfl,(((UUp.refl (Aa H)).drewN _).trans (((UUp.refl (Aa H)).drewN _).is.setP (p+n))).drewN _⟩);. have F:Hid (uget row n u=(0,u)):=Ab (by unfold uget;rw[if_neg E]);rw[Aa F];(have hb:(u.e==0)=false:=by rw[beq_eq_false_iff_ne];exact E);(have Z:(u.e !=0)=true:=by rw[bne_iff_ne];exact E);generalize u.e=e0 at I hb Z;clear E F;go_enter Tryz.func91,Tryz.ntmps91;go_wp2;go_quiet (fail);go_wp2;go_ret;exact⟨rfl,(UUp.refl (Aa H)).drewN nq⟩
theorem Z9i (s:ByteArray):(s.extract 0 1).toList=s.data.toList.take 1:=by rw[Lib.toList_data];simp[List.extract_eq_take_drop]
theorem El (s:ByteArray)(b:Bool)(w:World)(I:1<=s.size)(E:(s.data.toList.take 1== [48])=b):Calls Tryz.prog 200 #[.string s,.string ⟨#[48]⟩] w fun e w'=>e=.returned (.bool b)/\w'=w:=by have G:(⟨#[48]⟩:ByteArray).size=1:=rfl;have H:(1:Int)<=(s.size:Int):=om;(have F:Hid (((s.extract 0 1).toList== [48])=b):=by rw[Z9i];exact E);clear E;go_enter Tryz.func200,Tryz.ntmps200;go_wp2;go_ret;exact⟨Dq (Aa F),rfl⟩
theorem Z9c (w:World):Calls Tryz.prog 160 #[.int .u64 1,.int .u64 2] w fun e w'=>e=.returned (.tuple #[.int .u64 0,.int .u64 2])/\w'=w:=by go_enter Tryz.func160,Tryz.ntmps160;go_wp2;all_goals (go_ret2;exact⟨by rfl,rfl⟩)
theorem Z91 (w:World):Calls Tryz.prog 165 #[.string ⟨#[48]⟩,.int .i64 2] w fun e w'=>e=.returned (.string (text (List.replicate 2 false)))/\w'=w:=by go_enter Tryz.func165,Tryz.ntmps165;go_wp2_with (first|(go_at_call 160;refine(Z9c _).mono ?_;rintro e w' ⟨rfl,rfl⟩)|(go_at_call 200;refine(El _ false _ od od).mono ?_;rintro e w' ⟨rfl,rfl⟩)|(go_at_call 200;refine(El _ true _ od od).mono ?_;rintro e w' ⟨rfl,rfl⟩));go_ret;exact⟨rfl,rfl⟩
theorem Z9b (w:World):Calls Tryz.prog 160 #[.int .u64 1,.int .u64 3] w fun e w'=>e=.returned (.tuple #[.int .u64 0,.int .u64 3])/\w'=w:=by go_enter Tryz.func160,Tryz.ntmps160;go_wp2;all_goals (go_ret2;exact⟨by rfl,rfl⟩)
theorem Z90 (w:World):Calls Tryz.prog 165 #[.string ⟨#[48]⟩,.int .i64 3] w fun e w'=>e=.returned (.string (text (List.replicate 3 false)))/\w'=w:=by go_enter Tryz.func165,Tryz.ntmps165;go_wp2_with (first|(go_at_call 160;refine(Z9b _).mono ?_;rintro e w' ⟨rfl,rfl⟩)|(go_at_call 200;refine(El _ false _ od od).mono ?_;rintro e w' ⟨rfl,rfl⟩)|(go_at_call 200;refine(El _ true _ od od).mono ?_;rintro e w' ⟨rfl,rfl⟩));go_ret;exact⟨rfl,rfl⟩
theorem Z9a (w:World):Calls Tryz.prog 160 #[.int .u64 1,.int .u64 4] w fun e w'=>e=.returned (.tuple #[.int .u64 0,.int .u64 4])/\w'=w:=by go_enter Tryz.func160,Tryz.ntmps160;go_wp2;all_goals (go_ret2;exact⟨by rfl,rfl⟩)
theorem Z8z (w:World):Calls Tryz.prog 165 #[.string ⟨#[48]⟩,.int .i64 4] w fun e w'=>e=.returned (.string (text (List.replicate 4 false)))/\w'=w:=by go_enter Tryz.func165,Tryz.ntmps165;go_wp2_with (first|(go_at_call 160;refine(Z9a _).mono ?_;rintro e w' ⟨rfl,rfl⟩)|(go_at_call 200;refine(El _ false _ od od).mono ?_;rintro e w' ⟨rfl,rfl⟩)|(go_at_call 200;refine(El _ true _ od od).mono ?_;rintro e w' ⟨rfl,rfl⟩));go_ret;exact⟨rfl,rfl⟩
theorem Z99 (w:World):Calls Tryz.prog 160 #[.int .u64 1,.int .u64 5] w fun e w'=>e=.returned (.tuple #[.int .u64 0,.int .u64 5])/\w'=w:=by go_enter Tryz.func160,Tryz.ntmps160;go_wp2;all_goals (go_ret2;exact⟨by rfl,rfl⟩)
theorem Z8y (w:World):Calls Tryz.prog 165 #[.string ⟨#[48]⟩,.int .i64 5] w fun e w'=>e=.returned (.string (text (List.replicate 5 false)))/\w'=w:=by go_enter Tryz.func165,Tryz.ntmps165;go_wp2_with (first|(go_at_call 160;refine(Z99 _).mono ?_;rintro e w' ⟨rfl,rfl⟩)|(go_at_call 200;refine(El _ false _ od od).mono ?_;rintro e w' ⟨rfl,rfl⟩)|(go_at_call 200;refine(El _ true _ od od).mono ?_;rintro e w' ⟨rfl,rfl⟩));go_ret;exact⟨rfl,rfl⟩
theorem Z98 (w:World):Calls Tryz.prog 160 #[.int .u64 1,.int .u64 6] w fun e w'=>e=.returned (.tuple #[.int .u64 0,.int .u64 6])/\w'=w:=by go_enter Tryz.func160,Tryz.ntmps160;go_wp2;all_goals (go_ret2;exact⟨by rfl,rfl⟩)
theorem Z8x (w:World):Calls Tryz.prog 165 #[.string ⟨#[48]⟩,.int .i64 6] w fun e w'=>e=.returned (.string (text (List.replicate 6 false)))/\w'=w:=by go_enter Tryz.func165,Tryz.ntmps165;go_wp2_with (first|(go_at_call 160;refine(Z98 _).mono ?_;rintro e w' ⟨rfl,rfl⟩)|(go_at_call 200;refine(El _ false _ od od).mono ?_;rintro e w' ⟨rfl,rfl⟩)|(go_at_call 200;refine(El _ true _ od od).mono ?_;rintro e w' ⟨rfl,rfl⟩));go_ret;exact⟨rfl,rfl⟩
theorem Z97 (w:World):Calls Tryz.prog 160 #[.int .u64 1,.int .u64 7] w fun e w'=>e=.returned (.tuple #[.int .u64 0,.int .u64 7])/\w'=w:=by go_enter Tryz.func160,Tryz.ntmps160;go_wp2;all_goals (go_ret2;exact⟨by rfl,rfl⟩)
theorem Z8w (w:World):Calls Tryz.prog 165 #[.string ⟨#[48]⟩,.int .i64 7] w fun e w'=>e=.returned (.string (text (List.replicate 7 false)))/\w'=w:=by go_enter Tryz.func165,Tryz.ntmps165;go_wp2_with (first|(go_at_call 160;refine(Z97 _).mono ?_;rintro e w' ⟨rfl,rfl⟩)|(go_at_call 200;refine(El _ false _ od od).mono ?_;rintro e w' ⟨rfl,rfl⟩)|(go_at_call 200;refine(El _ true _ od od).mono ?_;rintro e w' ⟨rfl,rfl⟩));go_ret;exact⟨rfl,rfl⟩
theorem Z96 (w:World):Calls Tryz.prog 160 #[.int .u64 1,.int .u64 8] w fun e w'=>e=.returned (.tuple #[.int .u64 0,.int .u64 8])/\w'=w:=by go_enter Tryz.func160,Tryz.ntmps160;go_wp2;all_goals (go_ret2;exact⟨by rfl,rfl⟩)
theorem Z8v (w:World):Calls Tryz.prog 165 #[.string ⟨#[48]⟩,.int .i64 8] w fun e w'=>e=.returned (.string (text (List.replicate 8 false)))/\w'=w:=by go_enter Tryz.func165,Tryz.ntmps165;go_wp2_with (first|(go_at_call 160;refine(Z96 _).mono ?_;rintro e w' ⟨rfl,rfl⟩)|(go_at_call 200;refine(El _ false _ od od).mono ?_;rintro e w' ⟨rfl,rfl⟩)|(go_at_call 200;refine(El _ true _ od od).mono ?_;rintro e w' ⟨rfl,rfl⟩));go_ret;exact⟨rfl,rfl⟩
theorem Z95 (w:World):Calls Tryz.prog 160 #[.int .u64 1,.int .u64 9] w fun e w'=>e=.returned (.tuple #[.int .u64 0,.int .u64 9])/\w'=w:=by go_enter Tryz.func160,Tryz.ntmps160;go_wp2;all_goals (go_ret2;exact⟨by rfl,rfl⟩)
theorem Z8u (w:World):Calls Tryz.prog 165 #[.string ⟨#[48]⟩,.int .i64 9] w fun e w'=>e=.returned (.string (text (List.replicate 9 false)))/\w'=w:=by go_enter Tryz.func165,Tryz.ntmps165;go_wp2_with (first|(go_at_call 160;refine(Z95 _).mono ?_;rintro e w' ⟨rfl,rfl⟩)|(go_at_call 200;refine(El _ false _ od od).mono ?_;rintro e w' ⟨rfl,rfl⟩)|(go_at_call 200;refine(El _ true _ od od).mono ?_;rintro e w' ⟨rfl,rfl⟩));go_ret;exact⟨rfl,rfl⟩
theorem Z7x (w:World):Calls Tryz.prog 160 #[.int .u64 1,.int .u64 10] w fun e w'=>e=.returned (.tuple #[.int .u64 0,.int .u64 10])/\w'=w:=by go_enter Tryz.func160,Tryz.ntmps160;go_wp2;all_goals (go_ret2;exact⟨by rfl,rfl⟩)
theorem Z7q (w:World):Calls Tryz.prog 165 #[.string ⟨#[48]⟩,.int .i64 10] w fun e w'=>e=.returned (.string (text (List.replicate 10 false)))/\w'=w:=by go_enter Tryz.func165,Tryz.ntmps165;go_wp2_with (first|(go_at_call 160;refine(Z7x _).mono ?_;rintro e w' ⟨rfl,rfl⟩)|(go_at_call 200;refine(El _ false _ od od).mono ?_;rintro e w' ⟨rfl,rfl⟩)|(go_at_call 200;refine(El _ true _ od od).mono ?_;rintro e w' ⟨rfl,rfl⟩));go_ret;exact⟨rfl,rfl⟩
theorem Z7w (w:World):Calls Tryz.prog 160 #[.int .u64 1,.int .u64 11] w fun e w'=>e=.returned (.tuple #[.int .u64 0,.int .u64 11])/\w'=w:=by go_enter Tryz.func160,Tryz.ntmps160;go_wp2;all_goals (go_ret2;exact⟨by rfl,rfl⟩)
theorem Z7p (w:World):Calls Tryz.prog 165 #[.string ⟨#[48]⟩,.int .i64 11] w fun e w'=>e=.returned (.string (text (List.replicate 11 false)))/\w'=w:=by go_enter Tryz.func165,Tryz.ntmps165;go_wp2_with (first|(go_at_call 160;refine(Z7w _).mono ?_;rintro e w' ⟨rfl,rfl⟩)|(go_at_call 200;refine(El _ false _ od od).mono ?_;rintro e w' ⟨rfl,rfl⟩)|(go_at_call 200;refine(El _ true _ od od).mono ?_;rintro e w' ⟨rfl,rfl⟩));go_ret;exact⟨rfl,rfl⟩
theorem Z7v (w:World):Calls Tryz.prog 160 #[.int .u64 1,.int .u64 12] w fun e w'=>e=.returned (.tuple #[.int .u64 0,.int .u64 12])/\w'=w:=by go_enter Tryz.func160,Tryz.ntmps160;go_wp2;all_goals (go_ret2;exact⟨by rfl,rfl⟩)
theorem Z7o (w:World):Calls Tryz.prog 165 #[.string ⟨#[48]⟩,.int .i64 12] w fun e w'=>e=.returned (.string (text (List.replicate 12 false)))/\w'=w:=by go_enter Tryz.func165,Tryz.ntmps165;go_wp2_with (first|(go_at_call 160;refine(Z7v _).mono ?_;rintro e w' ⟨rfl,rfl⟩)|(go_at_call 200;refine(El _ false _ od od).mono ?_;rintro e w' ⟨rfl,rfl⟩)|(go_at_call 200;refine(El _ true _ od od).mono ?_;rintro e w' ⟨rfl,rfl⟩));go_ret;exact⟨rfl,rfl⟩
theorem Z7u (w:World):Calls Tryz.prog 160 #[.int .u64 1,.int .u64 13] w fun e w'=>e=.returned (.tuple #[.int .u64 0,.int .u64 13])/\w'=w:=by go_enter Tryz.func160,Tryz.ntmps160;go_wp2;all_goals (go_ret2;exact⟨by rfl,rfl⟩)
theorem Z7n (w:World):Calls Tryz.prog 165 #[.string ⟨#[48]⟩,.int .i64 13] w fun e w'=>e=.returned (.string (text (List.replicate 13 false)))/\w'=w:=by go_enter Tryz.func165,Tryz.ntmps165;go_wp2_with (first|(go_at_call 160;refine(Z7u _).mono ?_;rintro e w' ⟨rfl,rfl⟩)|(go_at_call 200;refine(El _ false _ od od).mono ?_;rintro e w' ⟨rfl,rfl⟩)|(go_at_call 200;refine(El _ true _ od od).mono ?_;rintro e w' ⟨rfl,rfl⟩));go_ret;exact⟨rfl,rfl⟩
theorem Z7t (w:World):Calls Tryz.prog 160 #[.int .u64 1,.int .u64 14] w fun e w'=>e=.returned (.tuple #[.int .u64 0,.int .u64 14])/\w'=w:=by go_enter Tryz.func160,Tryz.ntmps160;go_wp2;all_goals (go_ret2;exact⟨by rfl,rfl⟩)
theorem Z7m (w:World):Calls Tryz.prog 165 #[.string ⟨#[48]⟩,.int .i64 14] w fun e w'=>e=.returned (.string (text (List.replicate 14 false)))/\w'=w:=by go_enter Tryz.func165,Tryz.ntmps165;go_wp2_with (first|(go_at_call 160;refine(Z7t _).mono ?_;rintro e w' ⟨rfl,rfl⟩)|(go_at_call 200;refine(El _ false _ od od).mono ?_;rintro e w' ⟨rfl,rfl⟩)|(go_at_call 200;refine(El _ true _ od od).mono ?_;rintro e w' ⟨rfl,rfl⟩));go_ret;exact⟨rfl,rfl⟩
theorem Z7s (w:World):Calls Tryz.prog 160 #[.int .u64 1,.int .u64 15] w fun e w'=>e=.returned (.tuple #[.int .u64 0,.int .u64 15])/\w'=w:=by go_enter Tryz.func160,Tryz.ntmps160;go_wp2;all_goals (go_ret2;exact⟨by rfl,rfl⟩)
theorem Z7l (w:World):Calls Tryz.prog 165 #[.string ⟨#[48]⟩,.int .i64 15] w fun e w'=>e=.returned (.string (text (List.replicate 15 false)))/\w'=w:=by go_enter Tryz.func165,Tryz.ntmps165;go_wp2_with (first|(go_at_call 160;refine(Z7s _).mono ?_;rintro e w' ⟨rfl,rfl⟩)|(go_at_call 200;refine(El _ false _ od od).mono ?_;rintro e w' ⟨rfl,rfl⟩)|(go_at_call 200;refine(El _ true _ od od).mono ?_;rintro e w' ⟨rfl,rfl⟩));go_ret;exact⟨rfl,rfl⟩
theorem Z93 (w:World):Calls Tryz.prog 165 #[.string ⟨#[48]⟩,.int .i64 0] w fun e w'=>e=.returned (.string (text (List.replicate 0 false)))/\w'=w:=by go_enter Tryz.func165,Tryz.ntmps165;go_wp2_with fail;go_ret;exact⟨rfl,rfl⟩
theorem Z92 (w:World):Calls Tryz.prog 165 #[.string ⟨#[48]⟩,.int .i64 1] w fun e w'=>e=.returned (.string (text (List.replicate 1 false)))/\w'=w:=by go_enter Tryz.func165,Tryz.ntmps165;go_wp2_with fail;go_ret;exact⟨rfl,rfl⟩
theorem T6 (k:Nat)(E:k<=15)(w:World):Calls Tryz.prog 165 #[.string ⟨#[48]⟩,.int .i64 (k:Int)] w fun e w'=>e=.returned (.string (text (List.replicate k false)))/\w'=w:=by
 match k,E with
 |0,_=>exact Z93 w
 |1,_=>exact Z92 w
 |2,_=>exact Z91 w
 |3,_=>exact Z90 w
 |4,_=>exact Z8z w
 |5,_=>exact Z8y w
 |6,_=>exact Z8x w
 |7,_=>exact Z8w w
 |8,_=>exact Z8v w
 |9,_=>exact Z8u w
 |10,_=>exact Z7q w
 |11,_=>exact Z7p w
 |12,_=>exact Z7o w
 |13,_=>exact Z7n w
 |14,_=>exact Z7m w
 |15,_=>exact Z7l w
theorem JB (l:List Bool)(b:Bool)(c:Int)(E:c=((chr b).toNat:Int)):Lib.byteCells (l.map chr)++ [.int .u8 c]=Lib.byteCells ((l++ [b]).map chr):=by rw[WU,Lib.byteCells_append,E];rfl
theorem Z5d (x k:Nat)(E:x<256):(48+bits .and .u8 ((x:Int)/2^k) 1)%256=((chr (x.testBit k)).toNat:Int):=by rw[Z62 x k E,RK];cases x.testBit k<;>rfl
theorem FI (a:Option Addr)(T:Nat)(w:World):Calls Tryz.prog 60 #[.slice a 0 T] w fun e w'=>e=.returned (.string (text []))/\Below w.heap.size w w':=by go_enter Tryz.func60,Tryz.ntmps60;go_wp2;go_loopw [9] (fun i wr=>i=.int .i64 0/\IsB wr w.heap.size (Lib.byteCells ([].map chr))/\Below w.heap.size w wr) (fun i _=>0);(case atStart=>exact⟨rfl,IsB.new w,(Below.refl _ _).alloc (VB _) _⟩);case round=>obtain⟨rfl,F,E⟩:=hrel;have H:=Ab F;have I:=Ab E;have O:=E.size;clear F E;go_wp2_with fail;refine(Us _ _ _ (Aa H) O).mono ?_;rintro e U ⟨rfl,G⟩;have M:=Ab ((Aa I).trans G);clear G;go_wp2;go_ret;exact⟨rfl,Aa M⟩
end Go.Proofs.YtleocpdblhbimaaGreatDoor
