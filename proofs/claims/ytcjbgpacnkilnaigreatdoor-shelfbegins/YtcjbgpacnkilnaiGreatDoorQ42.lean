import Derived.Test.YtcjbgpacnkilnaiGreatDoorQ0
import Derived.Shelf.Strings.Split
import Derived.Test.YtcjbgpacnkilnaiGreatDoorQ12
import Derived.Test.YtcjbgpacnkilnaiGreatDoorQ41
import Derived.Test.YtcjbgpacnkilnaiGreatDoorQ14
set_option maxHeartbeats 8000000
namespace Go.Proofs.YtcjbgpacnkilnaiGreatDoor
open Go.RowKit
set_option linter.unusedVariables false
set_option maxRecDepth 100000
def spn:List (Nat×Nat):= [(97,122),(65,90),(48,57),(46,46),(95,95),(45,45)]
def Ld (c:Nat)(p:Nat×Nat):Bool:=decide (p.1<=c)&&decide (c<=p.2)
theorem Z8k:∀c:UInt8,okB c=spn.any (Ld c.toNat):=by
 have h:∀n:Fin 256,okB (UInt8.ofNat n.val)=spn.any (Ld n.val):=by decide+kernel
 intro c;have:=h ⟨c.toNat,c.toNat_lt⟩
 simpa using this
theorem Zjz (W:World):(Instr.index 171 (.agg #[.int .u8 97,.int .u8 122,.int .u8 65,.int .u8 90,.int .u8 48,.int .u8 57,.int .u8 46,.int .u8 46,.int .u8 95,.int .u8 95,.int .u8 45,.int .u8 45]) (.int .i64 0)).run Tryz.prog W=.ok (.agg #[.int .u8 97,.int .u8 122]) W:=by kernel_rfl
theorem Zjy (W:World):(Instr.index 171 (.agg #[.int .u8 97,.int .u8 122,.int .u8 65,.int .u8 90,.int .u8 48,.int .u8 57,.int .u8 46,.int .u8 46,.int .u8 95,.int .u8 95,.int .u8 45,.int .u8 45]) (.int .i64 1)).run Tryz.prog W=.ok (.agg #[.int .u8 65,.int .u8 90]) W:=by kernel_rfl
theorem Zjx (W:World):(Instr.index 171 (.agg #[.int .u8 97,.int .u8 122,.int .u8 65,.int .u8 90,.int .u8 48,.int .u8 57,.int .u8 46,.int .u8 46,.int .u8 95,.int .u8 95,.int .u8 45,.int .u8 45]) (.int .i64 2)).run Tryz.prog W=.ok (.agg #[.int .u8 48,.int .u8 57]) W:=by kernel_rfl
theorem Zjw (W:World):(Instr.index 171 (.agg #[.int .u8 97,.int .u8 122,.int .u8 65,.int .u8 90,.int .u8 48,.int .u8 57,.int .u8 46,.int .u8 46,.int .u8 95,.int .u8 95,.int .u8 45,.int .u8 45]) (.int .i64 3)).run Tryz.prog W=.ok (.agg #[.int .u8 46,.int .u8 46]) W:=by kernel_rfl
theorem Zjv (W:World):(Instr.index 171 (.agg #[.int .u8 97,.int .u8 122,.int .u8 65,.int .u8 90,.int .u8 48,.int .u8 57,.int .u8 46,.int .u8 46,.int .u8 95,.int .u8 95,.int .u8 45,.int .u8 45]) (.int .i64 4)).run Tryz.prog W=.ok (.agg #[.int .u8 95,.int .u8 95]) W:=by kernel_rfl
theorem Zju (W:World):(Instr.index 171 (.agg #[.int .u8 97,.int .u8 122,.int .u8 65,.int .u8 90,.int .u8 48,.int .u8 57,.int .u8 46,.int .u8 46,.int .u8 95,.int .u8 95,.int .u8 45,.int .u8 45]) (.int .i64 5)).run Tryz.prog W=.ok (.agg #[.int .u8 45,.int .u8 45]) W:=by kernel_rfl
theorem Zkn (k:Nat)(hk:k<6)(W:World):(Instr.index 171 (.agg #[.int .u8 97,.int .u8 122,.int .u8 65,.int .u8 90,.int .u8 48,.int .u8 57,.int .u8 46,.int .u8 46,.int .u8 95,.int .u8 95,.int .u8 45,.int .u8 45]) (.int .i64 (k:Int))).run Tryz.prog W=.ok (.agg #[.int .u8 ((spn.getD k (0,0)).1:Nat),.int .u8 ((spn.getD k (0,0)).2:Nat)]) W:=by
 have h:k=0\/k=1\/k=2\/k=3\/k=4\/k=5:=by omega
 rcases h with rfl|rfl|rfl|rfl|rfl|rfl
 . exact Zjz W
 . exact Zjy W
 . exact Zjx W
 . exact Zjw W
 . exact Zjv W
 . exact Zju W
theorem Zi5 (k:Nat):(spn.getD k (0,0)).1<256/\(spn.getD k (0,0)).2<256:=by
 match k with
 |0=>decide
 |1=>decide
 |2=>decide
 |3=>decide
 |4=>decide
 |5=>decide
 |k+6=>simp[spn]
theorem Zfm (n k:Nat)(hk:k<6)(h:Ld n (spn.getD k (0,0))=true):spn.any (Ld n)=true:=by
 rw[List.any_eq_true];refine⟨spn.getD k (0,0), ?_,h⟩;have hl:k<spn.length:=hk;simp[List.getD,hl]
theorem Zcb (n:Nat)(h:∀j,j<6->Ld n (spn.getD j (0,0))=false):spn.any (Ld n)=false:=by
 rw[List.any_eq_false];intro x hx;obtain⟨j,hj,rfl⟩:=List.mem_iff_getElem.1 hx;have:=h j hj
 simp[List.getD,hj]at this
 simp[this]
theorem Xl (n:Nat)(hn:n<256)(w:World):
 Calls Tryz.prog 81 #[.int .u8 n] w fun e w'=>e=.returned (.bool (spn.any (Ld n)))/\Below w.heap.size w w':=by
 have hI:=Zkn;go_enter Tryz.func81,Tryz.ntmps81
 go_wp2;go_loopw [12] (fun i wr=>∃k:Nat,k<=6/\i=.int .i64 k/\Hid (∀j,j<k->Ld n (spn.getD j (0,0))=false)/\Hid (Below w.heap.size w wr)) (fun i _=>6-(intOf i).toNat)
 case atStart=>exact⟨0,Nat.zero_le _,rfl,fun j hj=>absurd hj (by omega),Below.refl _ _⟩
 case round=>
  obtain⟨k,hk,rfl,HN,HB⟩:=hrel
  by_cases hlt:k<6
  . have hix:=hI k hlt;obtain⟨h1,h2⟩:=Zi5 k;have HS:Hid (Ld n (spn.getD k (0,0))=(decide ((spn.getD k (0,0)).1<=n)&&decide (n<=(spn.getD k (0,0)).2))):=rfl;have HY:=Ab (Zfm n k hlt);generalize (spn.getD k (0,0)).1=lo at*;generalize (spn.getD k (0,0)).2=hi at*;clear hI;have hz:=(Aa HB).size
    by_cases ha:lo<=n
    . by_cases hb:n<=hi
      . go_wp2;go_ret;refine⟨Id ((Aa HY) ?_).symm,(Aa HB).alloc (Aa HB).size _⟩;rw[Aa HS];simp[ha,hb]
      . go_wp2;go_roundw
        case rel=>
         refine⟨k+1,by omega,by go_num,fun j hj=> ?_,(Aa HB).alloc (Aa HB).size _⟩
         by_cases hjk:j=k
         . subst hjk;rw[Aa HS];simp[hb]
         . exact(Aa HN) j (by omega)
        case measure=>simp[intOf];omega
    . go_wp2;go_roundw
      case rel=>
       refine⟨k+1,by omega,by go_num,fun j hj=> ?_,(Aa HB).alloc (Aa HB).size _⟩
       by_cases hjk:j=k
       . subst hjk;rw[Aa HS];simp[ha]
       . exact(Aa HN) j (by omega)
      case measure=>simp[intOf];omega
  . obtain rfl:k=6:=by omega
    go_wp2;go_ret;exact⟨Id (Zcb n (Aa HN)).symm,Aa HB⟩
theorem Z8j (p:ByteArray)(h0:p.data.toList≠ [])(h1:p.data.toList≠ [46])(h2:p.data.toList≠ [46,46])(hall:∀j (h:j<p.size),spn.any (Ld (p[j]'h).toNat)=true):okP p.data.toList=true:=by
 simp only[okP,Bool.and_eq_true,bne_iff_ne];refine⟨⟨⟨h0,h1⟩,h2⟩, ?_⟩;rw[List.all_eq_true];intro x hx;obtain⟨j,hj,rfl⟩:=List.mem_iff_getElem.1 hx;rw[Z8k];have hs:j<p.size:=by rw[Zcf];exact hj
 exact hall j hs
theorem Zga (p:ByteArray)(j:Nat)(h:j<p.size)(hbad:spn.any (Ld (p[j]'h).toNat)=false):okP p.data.toList=false:=by
 have hb:okB (p[j]'h)=false:=by rw[Z8k];exact hbad
 have:p.data.toList.all okB=false:=by
  rw[List.all_eq_false];refine⟨p[j]'h, ?_,by simp[hb]⟩;exact Array.mem_toList_iff.2 (Array.getElem_mem _)
 simp[okP,this]
theorem Zeh (p:ByteArray)(l:List UInt8)(h:¬p.data.toList=l):(p.toList==l)=false:=by
 rw[Lib.toList_data];simpa using h
theorem Zc7 (p:ByteArray)(h:¬p.data.toList= []):p.toList.isEmpty=false:=by
 rw[Lib.toList_data]
 cases hl:p.data.toList with
 |nil=>exact absurd hl h
 |cons x xs=>rfl
theorem Z55 (p:ByteArray)(hp:p.size<=maxLen)(w:World):
 Calls Tryz.prog 69 #[.string p] w fun e w'=>e=.returned (.bool (okP p.data.toList))/\Below w.heap.size w w':=by
 by_cases h0:p.data.toList= []
 . obtain rfl:p=⟨#[]⟩:=by rw[<-Z40 p,h0];rfl
   go_enter Tryz.func69,Tryz.ntmps69
   go_wp2;go_ret;exact⟨rfl,Below.refl _ _⟩
 by_cases h1:p.data.toList= [46]
 . obtain rfl:p=⟨#[46]⟩:=by rw[<-Z40 p,h1];rfl
   go_enter Tryz.func69,Tryz.ntmps69
   go_wp2;go_ret;exact⟨rfl,Below.refl _ _⟩
 by_cases h2:p.data.toList= [46,46]
 . obtain rfl:p=⟨#[46,46]⟩:=by rw[<-Z40 p,h2];rfl
   go_enter Tryz.func69,Tryz.ntmps69
   go_wp2;go_ret;exact⟨rfl,Below.refl _ _⟩
 have HP:=Ab (Z8j p h0 h1 h2);have e0:=Zc7 p h0;have e1:=Zeh p [46] h1;have e2:=Zeh p [46,46] h2;clear h0 h1 h2;have HQ:=Ab (Zga p);go_enter Tryz.func69,Tryz.ntmps69
 go_wp2;go_loopw [3,16] (fun _ i wr=>∃k:Nat,k<=p.size/\i=.int .i64 k/\Hid (∀j (h:j<p.size),j<k->spn.any (Ld (p[j]'h).toNat)=true)/\Hid (Below w.heap.size w wr)) (fun _ i _=>p.size-(intOf i).toNat)
 case atStart=>exact⟨0,Nat.zero_le _,rfl,fun j _ hj=>absurd hj (by omega),Below.refl _ _⟩
 case round=>
  obtain⟨k,hk,rfl,HN,HB⟩:=hrel;unfold maxLen at hp;have hz:=(Aa HB).size
  by_cases hlt:k<p.size
  . have HM:=Ab (fun W=>Xl (p[k]'hlt).toNat (p[k]'hlt).toNat_lt W)
    cases hm:spn.any (Ld (p[k]'hlt).toNat)with
    |true=>
     rw[hm]at HM;have HM2:=Ab hm;clear hm;go_wp2_with (go_at_call 81;refine((Aa HM) _).mono ?_;rintro e w1 ⟨rfl,hb1⟩;have HB1:=Ab ((Aa HB).trans (hb1.mono hz));clear hb1)
     go_roundw
     case rel=>
      refine⟨k+1,by omega,by go_num,fun j h hj=> ?_,Aa HB1⟩
      by_cases hjk:j=k
      . subst hjk;exact Aa HM2
      . exact(Aa HN) j h (by omega)
     case measure=>simp[intOf];omega
    |false=>
     rw[hm]at HM;have HM2:=Ab hm;clear hm;go_wp2_with (go_at_call 81;refine((Aa HM) _).mono ?_;rintro e w1 ⟨rfl,hb1⟩;have HB1:=Ab ((Aa HB).trans (hb1.mono hz));clear hb1)
     go_ret;exact⟨Id ((Aa HQ) k hlt (Aa HM2)).symm,Aa HB1⟩
  . obtain rfl:k=p.size:=by omega
    go_wp2;go_ret;exact⟨Id ((Aa HP) (fun j h=>(Aa HN) j h h)).symm,Aa HB⟩
def Wh:Go.Shelf.Ren:=⟨fun|221=>80|268=>99|138=>100|143=>101|195=>115|197=>116|218=>117|219=>118|260=>140|217=>141|225=>142|224=>143|267=>144|266=>164|314=>165|n=>n,fun|9=>9|3=>3|31=>50|4=>4|0=>0|105=>192|21=>21|5=>5|46=>117|119=>233|139=>236|138=>235|146=>237|51=>54|n=>n,fun|1=>0|3=>1|4=>2|n=>n⟩
theorem Z08:Go.Proofs.Lays.n221 Tryz.prog Wh:= {
 mixed:=by kernel_rfl
 f138:=Tryz.func100.trans (congrArg some (by kernel_rfl))
 f143:=Tryz.func101.trans (congrArg some (by kernel_rfl))
 f195:=Tryz.func115.trans (congrArg some (by kernel_rfl))
 f197:=Tryz.func116.trans (congrArg some (by kernel_rfl))
 f217:=Tryz.func141.trans (congrArg some (by kernel_rfl))
 f218:=Tryz.func117.trans (congrArg some (by kernel_rfl))
 f219:=Tryz.func118.trans (congrArg some (by kernel_rfl))
 f221:=Tryz.func80.trans (congrArg some (by kernel_rfl))
 f224:=Tryz.func143.trans (congrArg some (by kernel_rfl))
 f225:=Tryz.func142.trans (congrArg some (by kernel_rfl))
 f260:=Tryz.func140.trans (congrArg some (by kernel_rfl))
 f266:=Tryz.func164.trans (congrArg some (by kernel_rfl))
 f267:=Tryz.func144.trans (congrArg some (by kernel_rfl))
 f268:=Tryz.func99.trans (congrArg some (by kernel_rfl))
 f314:=Tryz.func165.trans (congrArg some (by kernel_rfl))
 t0:=Tryz.underlying0
 a0:=Tryz.isAgg0
 z0:=Tryz.sizeOf0
 v0:=Tryz.zeroValue0
 t3:=Tryz.underlying3
 a3:=Tryz.isAgg3
 z3:=Tryz.sizeOf3
 v3:=Tryz.zeroValue3
 t4:=Tryz.underlying4
 a4:=Tryz.isAgg4
 z4:=Tryz.sizeOf4
 v4:=Tryz.zeroValue4
 t5:=Tryz.underlying5
 a5:=Tryz.isAgg5
 z5:=Tryz.sizeOf5
 v5:=Tryz.zeroValue5
 t9:=Tryz.underlying9
 a9:=Tryz.isAgg9
 z9:=Tryz.sizeOf9
 v9:=Tryz.zeroValue9
 t21:=Tryz.underlying21
 a21:=Tryz.isAgg21
 z21:=Tryz.sizeOf21
 v21:=Tryz.zeroValue21
 t31:=Tryz.underlying50
 a31:=Tryz.isAgg50
 z31:=Tryz.sizeOf50
 v31:=Tryz.zeroValue50
 t46:=Tryz.underlying117
 a46:=Tryz.isAgg117
 z46:=Tryz.sizeOf117
 v46:=Tryz.zeroValue117
 t51:=Tryz.underlying54
 a51:=Tryz.isAgg54
 z51:=Tryz.sizeOf54
 v51:=Tryz.zeroValue54
 t105:=Tryz.underlying192
 a105:=Tryz.isAgg192
 z105:=Tryz.sizeOf192
 v105:=Tryz.zeroValue192
 t119:=Tryz.underlying233
 a119:=Tryz.isAgg233
 z119:=Tryz.sizeOf233
 t138:=Tryz.underlying235
 a138:=Tryz.isAgg235
 z138:=Tryz.sizeOf235
 v138:=Tryz.zeroValue235
 t139:=Tryz.underlying236
 a139:=Tryz.isAgg236
 z139:=Tryz.sizeOf236
 v139:=Tryz.zeroValue236
 t146:=Tryz.underlying237
 a146:=Tryz.isAgg237
 z146:=Tryz.sizeOf237
 v146:=Tryz.zeroValue237
 g1:=by kernel_rfl
 g3:=by kernel_rfl
 g4:=by kernel_rfl}
def Z7n (ps:List (List UInt8)):List Value:=ps.map fun p=>.string (B p)
theorem Zdg:(Tryz.prog.info? 9).map (fun i=>(i.zero,i.size,i.bytes))=some (some (.string ByteArray.empty),1,16):=by kernel_rfl
theorem Yg (s:ByteArray)(w:World)(hs:s.size<4294967281):
 Calls Tryz.prog 80 #[.string s,.string ⟨#[47]⟩,.int .i64 0,.int .i64 (-1)] w fun e w'=>
  e=.returned (.slice (some ⟨w.heap.size,0,none⟩) (spl s.data.toList).length (spl s.data.toList).length)/\w'=w.alloc (.cells (Z7n (spl s.data.toList)).toArray 9):=by
 have hsz:(⟨#[47]⟩:ByteArray).size=1:=rfl;have hle:=Lib.countB_le ⟨#[47]⟩ (by rw[hsz];decide) s.size s (Nat.le_refl _);have hlen:=Lib.splitB_all ⟨#[47]⟩ (by rw[hsz];decide) 0 _ s rfl
 have hI:∀(x:ByteArray) (c:Array Value),x.size<=s.size->Calls Tryz.prog (Wh.f 143) #[.string x,.string ⟨#[47]⟩] (w.alloc (.cells c (Wh.t 9))) fun e w'=>e=.returned (.int .i64 (Lib.indexB x ⟨#[47]⟩))/\w'=w.alloc (.cells c (Wh.t 9)):=by
  intro x c _;refine(Any.strings_Index_one {Z08 with} x 47 _).mono ?_;rintro e w' ⟨rfl,rfl⟩;refine⟨?_,rfl⟩;show _=Ending.returned (Value.int .i64 (Lib.index x.data.toList [47]))
  rw[Lib.index_one]
 have hC:Calls Tryz.prog (Wh.f 138) #[.string s,.string ⟨#[47]⟩] w fun e w'=>e=.returned (.int .i64 (Lib.countB s ⟨#[47]⟩))/\w'=w:=by
  refine(Any.strings_Count_one {Z08 with} s 47 w).mono ?_;rintro e w' ⟨rfl,rfl⟩;refine⟨?_,rfl⟩;show _=Ending.returned (Value.int .i64 ((Lib.count s.data.toList [47]:Nat):Int))
  rw[Lib.count_one];rfl
 have c:=Any.strings_genSplit_core Z08 Zdg s ⟨#[47]⟩ 0 (-1) (Lib.countB s ⟨#[47]⟩+1) w hs (by rw[hsz];decide) (Nat.zero_le _) hI hC (by decide) (by decide) (by rw[if_pos (by decide)];omega);rw[Nat.add_sub_cancel]at c;have e2:Lib.cellsOf (Lib.splitB ⟨#[47]⟩ 0 (Lib.countB s ⟨#[47]⟩) s) (Lib.countB s ⟨#[47]⟩+1)=((Lib.splitB ⟨#[47]⟩ 0 (Lib.countB s ⟨#[47]⟩) s).map Value.string).toArray:=by rw[<-hlen];exact Lib.cellsOf_full _
 rw[e2,Z4k,Z5x]at c;refine c.mono ?_;rintro e w' ⟨rfl,rfl⟩;refine⟨by simp, ?_⟩;simp only[Z7n,List.map_map];rfl
theorem Z7t (s:ByteArray)(w:World)(hs:s.size<4294967281):
 Calls Tryz.prog 68 #[.string s,.string ⟨#[47]⟩] w fun e w'=>
  e=.returned (.slice (some ⟨w.heap.size,0,none⟩) (spl s.data.toList).length (spl s.data.toList).length)/\w'=w.alloc (.cells (Z7n (spl s.data.toList)).toArray 9):=by
 have c:=Yg s w hs;go_enter Tryz.func68,Tryz.ntmps68
 go_wp2_with (go_at_call 80;refine c.mono ?_;rintro e w' ⟨rfl,hw⟩;rw[hw])
 go_ret;exact⟨rfl,rfl⟩
def SRow (w:World)(b:Nat)(v:Value)(ps:List (List UInt8)):Prop:=w.ownsRow b 9 1 v ps.length (Z7n ps)
theorem Te (ps:List (List UInt8)):(Z7n ps).length=ps.length:=by simp[Z7n]
theorem SRow.nil (w:World)(b:Nat):SRow w b (.slice none 0 0) []:=World.ownsRow_nil _ _ _ _
theorem SRow.new (w:World)(ps:List (List UInt8))(h:ps.length<=maxLen):SRow (w.alloc (.cells (Z7n ps).toArray 9)) w.heap.size (.slice (some ⟨w.heap.size,0,none⟩) ps.length ps.length) ps:=
 ⟨by rw[Te];omega,.inr ⟨w.heap.size,ps.length,(Z7n ps).toArray,rfl,Nat.le_refl _,heap_alloc_new w _,Nat.le_refl _,h,by simp[Te],by simp[<-Te]⟩⟩
theorem SRow.below {w w':World}{b:Nat}{v:Value}{ps:List (List UInt8)}(h:SRow w b v ps)(hg:Below w.heap.size w w'):SRow w' b v ps:=Xb h hg
theorem Za4 {s:List UInt8}(h:40<s.length):Md s=2:=by unfold Md;rw[if_pos h]
theorem Zdx {s:List UInt8}(h:s.length<=40){p:List UInt8}(hp:p∈spl s)(hb:okP p=false):Md s=1:=by
 unfold Md;rw[if_neg (by omega),if_neg];intro hall;have:=List.all_eq_true.1 hall p hp
 rw[hb]at this;exact absurd this (by simp)
theorem Zcc {s:List UInt8}(h:s.length<=40):(spl s).length<=41:=by
 have:=List.count_le_length (a:=(47:UInt8)) (l:=s)
 rw[Z7u];omega
def Zia (s:List UInt8):List (List UInt8):=if Md s=0 then spl s else []
theorem Zg0 {s:List UInt8}(h:Md s=0):Zia s=spl s:=by unfold Zia;rw[if_pos h]
theorem Z2i {s:List UInt8}(h:Md s≠0):Zia s= []:=by unfold Zia;rw[if_neg h]
theorem Zl (w:World)(o:Obj):Below w.heap.size w (w.alloc o):=(Below.refl _ _).alloc (Nat.le_refl _) o
theorem Z8c (s:List UInt8)(w:World)(hs:s.length<=maxLen):
 Calls Tryz.prog 56 #[.string (B s)] w fun e w'=>∃v,e=.returned (.tuple #[v,.int .i64 (Md s:Nat)])/\SRow w' w.heap.size v (Zia s)/\Below w.heap.size w w'/\(Md s≠0->v=.slice none 0 0):=by
 have hsz:=St s;unfold maxLen at hs
 by_cases h40:40<s.length
 . have HE:=Ab (Za4 h40);have h40':40<(B s).size:=by rw[hsz];omega
   have hms:(B s).size<=9223372036854775807:=by rw[hsz];omega
   clear hsz h40 hs;generalize B s=t at*;go_enter Tryz.func56,Tryz.ntmps56
   go_wp2;go_ret2;rw[Z2i (by rw[Aa HE];decide),Aa HE];exact⟨_,rfl,SRow.nil _ _,Below.refl _ _,fun _=>rfl⟩
 . have hsp:=Z7t (B s) w (by rw[hsz];omega);rw[Zf0]at hsp;have h40':(B s).size<=40:=by rw[hsz];omega
   have h41:=Zcc (s:=s) (by omega);have HR:=Ab (SRow.new w (spl s) (by unfold maxLen;omega));have HE:=Ab (fun p hp hb=>Zdx (s:=s) (p:=p) (by omega) hp hb);have HO:=Ab (Zh3 (l:=s) (by omega));have hmem:∀p∈spl s,p.length<=s.length:=Zi6 s;obtain⟨L,hL⟩:∃L,(spl s).length=L:=⟨_,rfl⟩
   rw[hL]at hsp HR h41;have HL:=Ab hL
   have HC:Hid (∀j (hj:j<(spl s).length) (W:World),Below (w.heap.size+1) (w.alloc (.cells (Z7n (spl s)).toArray 9)) W->W.cell? ⟨w.heap.size,j,none⟩=some (.string (B ((spl s)[j]'hj)))):=by
    intro j hj W hW;rw[hW.cell (p:=⟨w.heap.size,j,none⟩) (Nat.lt_succ_self _),World.cell?_alloc_at _ _ _ _ rfl];simp[Z7n,hj]
   have hs40:s.length<=40:=by omega
   clear hL hsz h40 hs;generalize B s=t at*;go_enter Tryz.func56,Tryz.ntmps56
   go_wp2_with (go_at_call 68;refine hsp.mono ?_;rintro e w' ⟨rfl,hw⟩;rw[hw])
   clear hsp;go_loopw [6,14] (fun _ i wr=>∃k:Nat,k<=L/\i=.int .i64 k/\Hid (∀j (hj:j<(spl s).length),j<k->okP ((spl s)[j]'hj)=true)/\Hid (Below (w.heap.size+1) (w.alloc (.cells (Z7n (spl s)).toArray 9)) wr)) (fun _ i _=>L-(intOf i).toNat)
   case atStart=>exact⟨0,Nat.zero_le _,rfl,fun j _ hj=>absurd hj (by omega),Below.refl _ _⟩
   case round=>
    obtain⟨k,hk,rfl,HN,HB⟩:=hrel
    by_cases hlt:k<L
    . have hlt':k<(spl s).length:=by rw[Aa HL];exact hlt
      have hcell:=(Aa HC) k hlt' wr (Aa HB);have hz:=(Aa HB).size;have hlen:=hmem _ (List.getElem_mem hlt');have HM:=Ab (List.getElem_mem hlt');have HQ:=Ab (fun h=>(Aa HE) _ (Aa HM) h)
      have HN2:Hid (okP ((spl s)[k]'hlt')=true->∀j (hj:j<(spl s).length),j<k+1->okP ((spl s)[j]'hj)=true):=by
       intro h j hj hjk
       by_cases e:j=k
       . subst e;exact h
       . exact(Aa HN) j hj (by omega)
      generalize (spl s)[k]'hlt'=q at*;have hI:=Z55 (B q) (by rw[St];unfold maxLen;omega) wr;rw[Zf0]at hI;clear HM;generalize B q=qb at*;have hz2:w.heap.size+1<=wr.heap.size:=by simp at hz;omega
      cases ho:okP q with
      |true=>
       rw[ho]at hI;have HO2:=Ab ho;clear ho;go_wp2_with (go_at_call 69;refine hI.mono ?_;rintro e w1 ⟨rfl,hb1⟩;have HB1:=Ab ((Aa HB).trans (hb1.mono hz2));clear hb1)
       go_roundw
       case rel=>exact⟨k+1,by omega,by go_num,(Aa HN2) (Aa HO2),Aa HB1⟩
       case measure=>simp[intOf];omega
      |false=>
       rw[ho]at hI;have HO2:=Ab ho;clear ho;go_wp2_with (go_at_call 69;refine hI.mono ?_;rintro e w1 ⟨rfl,hb1⟩;have HB1:=Ab ((Aa HB).trans (hb1.mono hz2));clear hb1)
       go_ret2;have he:=(Aa HQ) (Aa HO2)
       rw[Z2i (by rw[he];decide),he];exact⟨_,rfl,SRow.nil _ _,(Zl w _).trans ((Aa HB1).mono (Nat.le_succ _)),fun _=>rfl⟩
    . obtain rfl:k=L:=by omega
      have HZ:Hid (Md s=0):=(Aa HO) (by
       rw[List.all_eq_true];intro p hp;obtain⟨j,hj,rfl⟩:=List.mem_iff_getElem.1 hp;exact(Aa HN) j hj (by rw[Aa HL]at hj;exact hj))
      go_wp2;go_ret2;rw[Zg0 (Aa HZ),Aa HZ];refine⟨_,rfl, ?_,(Zl w _).trans ((Aa HB).mono (Nat.le_succ _)),fun h=>absurd rfl h⟩;exact(Aa HR).below (by simpa using Aa HB)
theorem Um {l:List Fl}(h:Em l=0):l.length<=12:=by
 unfold Em at h
 split at h
 . omega
 . omega
structure Ans (w w':World)(v:Value)(l:List Fl):Prop where
 ex:∃ad c out,v=.slice ad l.length c/\FsIn w' ad c out/\fls out=l
 bel:Below w.heap.size w w'
theorem Ans.nil {w w':World}(h:Below w.heap.size w w'):Ans w w' (.slice none 0 0) []:=⟨⟨none,0,[],rfl,FsIn.nil _,rfl⟩,h⟩
theorem Ans.row {w w':World}{B:Nat}{v:Value}{out:List Fv}(h:FRow w' B v out)(hl:out.length<=1000)(hb:Below w.heap.size w w'):Ans w w' v (fls out):=by
 obtain⟨ad,c,h1,h2⟩:=h.files (by omega);exact⟨⟨ad,c,out,by rw[h1];simp[fls],h2,rfl⟩,hb⟩
theorem Px (ad:Option Addr)(c n:Nat)(es:List Ev)(w:World)(h:EsIn w ad c es)(hl:es.length=n)(hn:n<=12)(hE:∀x∈es,ENum x.e):
 Calls Tryz.prog 19 #[.slice ad n c] w fun e w'=>∃v,e=.returned v/\w'.ownsRow (w.heap.size+1) 5 1 v (Bt (es.map Ev.e)).length (u8s (Bt (es.map Ev.e)))/\Below w.heap.size w w':=by
 obtain⟨i0,hi,hz0,hz1,hz2⟩:=info_parts Z9b;obtain⟨l,hle⟩:∃l,es.map Ev.e=l:=⟨_,rfl⟩
 have hll:l.length=n:=by rw[<-hle];simpa using hl
 have hEl:∀x∈l,ENum x:=by
  rw[<-hle];intro x hx;obtain⟨y,hy,rfl⟩:=List.mem_map.1 hx;exact hE y hy
 have hbnd:∀k,(Bd (l.take k)).length<=12081*12:=fun k=>by
  have h1:=Z9l (l.take k) (fun x hx=>hEl x (List.mem_of_mem_take hx));have h2:(l.take k).length<=12:=by rw[List.length_take];omega
  omega
 have hbnd2:∀k,(Bf 0 (l.take k)).length<=97*12:=fun k=>by
  have h1:=Z28 (l.take k) 0 (fun x hx=>hEl x (List.mem_of_mem_take hx));have h2:(l.take k).length<=12:=by rw[List.length_take];omega
  omega
 rw[hle];have HG:∀(k:Nat) (x:Ev),es[k]? =some x->l[k]? =some x.e:=fun k x hk=>by rw[<-hle];simp[hk]
 have HS0:Hid (AS w w.heap.size w.heap.size (Bd (l.take 0)) (.slice none 0 0) (Qk 0 (l.take 0)) (w.alloc (.cells #[.slice none 0 0] 76))):=Ab (by
  refine⟨⟨.slice none 0 0,Nat.le_refl _,heap_alloc_new w _,World.ownsRow_nil _ _ _ _⟩,World.ownsRow_nil _ _ _ _,(Below.refl _ _).alloc (Nat.le_refl _) _⟩)
 have HI:=Ab h;have HBN:=Ab hbnd;have HBN2:=Ab hbnd2;have HEE:=Ab hE;have HLL:=Ab hll;have HL:=Ab hl;have HGG:=Ab HG;clear h hbnd hbnd2 hE hll hl HG hEl hle;go_enter Tryz.func19,Tryz.ntmps19
 go_wp2;go_loopw [4,6,14] (fun v4 _ i wr=>∃k:Nat,k<=n/\i=.int .i64 (k:Int)/\Hid (AS w w.heap.size w.heap.size (Bd (l.take k)) v4 (Qk 0 (l.take k)) wr)) (fun _ _ i _=>n-(intOf i).toNat)
 case atStart=>exact⟨0,Nat.zero_le _,rfl,HS0⟩
 case round=>
  obtain⟨k,hk,rfl,HA⟩:=hrel
  by_cases hlt:k<n
  . obtain⟨x,hx,hxm⟩:∃x,es[k]? =some x/\x∈es:=⟨es[k]'(by rw[Aa HL];exact hlt),List.getElem?_eq_getElem _,List.getElem_mem _⟩
    obtain⟨b,o,rfl,hb,c0,c1,c2,c3,c4,c5,c6,c7⟩:=(Aa HI).get (Aa HA).below hx;have hgl:=Aa HGG k x hx;have HIN:=Ab ((Aa HI).all x hxm);have hnum:=Aa HEE x hxm
    have HF:=Ab (fun(W:World) (hA:∃v ps,AS w w.heap.size w.heap.size (Bd (l.take k)) v ps W)=>Zbi w.heap.size w.heap.size x (Bd (l.take k)) W (by obtain⟨v,ps,hA⟩:=hA;exact hA.z) hnum (by
     obtain⟨v,ps,hA⟩:=hA;exact(Aa HIN).pk.below hA.below) (fun g o' e1 e2=>To (Aa HIN).pk g o' e1 e2) (by have:=Aa HBN k;omega))
    unfold Ev.val at HF;have HTK:=Ab (Jk hgl);obtain⟨x,fa,fc,pa,pc⟩:=x;obtain⟨⟨nml,bys,st,nd,gn⟩,mt,pk,cr⟩:=x;dsimp only at c0 c1 c2 c3 c4 c5 c6 c7 HF;generalize B nml=nm at c0 HF;generalize bys.length=bl at c1 HF;generalize pk.length=pl at c6 HF;clear hx hxm hgl hnum;obtain⟨ov,hC⟩:=(Aa HA).z;obtain⟨d0,g0⟩:=hC.new;obtain⟨oa,oc,rfl⟩:=An hC.own;have hlb:=Aa HBN k;obtain⟨L,hL⟩:∃L,(Bd (l.take k)).length=L:=⟨_,rfl⟩
    rw[hL]at d0 hlb;have HLE:=Ab hL;have hbl:=hC.lt;have d0':∀o1:Obj,(wr.alloc o1).cell? ⟨w.heap.size,0,none⟩=some (.slice oa L oc):=fun o1=>(World.cell?_alloc_lt wr o1 _ hbl).trans d0
    have HA1:=Ab (fun o1 o2:Obj=>((Aa HA).later ((Below.refl _ _).alloc (Nat.le_refl _) o1)).later ((Below.refl _ _).alloc (Nat.le_refl _) o2));have hpl2:(Qk 0 (l.take k)).length=k:=by rw[Z0l,List.length_take,Aa HLL];omega
    have HPL:=Ab hpl2;have HO:=Ab (fun o1 o2:Obj=>(Aa HA1 o1 o2).p);rw[hpl2]at HO;clear hC hL hpl2;go_wp2_with (at_builtin;refine wpList_append_own_at _ rfl _ _ 77 rfl (w.heap.size+1) 3 i0 (.int .i64 0) 1 8 Tryz.underlying77 hi hz0 hz1 hz2 rfl (by decide) _ k (i64s (Qk 0 (l.take k))) rfl (Aa HO _ _) ⟨wr.heap.size+1,0,none⟩ 1 1 [.int .i64 (L:Int)] rfl rfl (fun j u hj=>Z2w (Zg (by simp)) hj) (Bb rfl) (by unfold maxLen;omega) (by omega) (by simp;omega) ?_)
    intro v' w3 hO3 hg3 _ _
    have hX:w3.heap[wr.heap.size]? =some (.cells #[.string nm,.slice fa bl fc,.int .i64 st,.int .i64 nd,.bool gn,.int .u32 (mt:Int),.slice pa pl pc,.int .u32 (cr:Int)] 56 (0,0)):=by
     refine(hg3.block _ (by simp;omega) (fun e=> ?_)).trans ((heap_alloc_old _ _ (by simp)).trans (heap_alloc_new wr _));have:=((Aa HA).p.lt _ e.symm).2
     omega
    have HA3:=Ab ((Aa HA1 _ _).app hg3 (by rw[Aa HPL];exact hO3));have e0:=Ac (i:=0) hX;have e1:=Ac (i:=1) hX;have e2:=Ac (i:=2) hX;have e3:=Ac (i:=3) hX;have e4:=Ac (i:=4) hX;have e5:=Ac (i:=5) hX;have e6:=Ac (i:=6) hX;have e7:=Ac (i:=7) hX;simp only[List.getElem?_toArray,List.getElem?_cons_zero,List.getElem?_cons_succ]at e0 e1 e2 e3 e4 e5 e6 e7;clear hO3 hg3 hX c0 c1 c2 c3 c4 c5 c6 c7 d0 g0 d0' HO;go_wp2_with fail
    refine(Aa HF w3 ⟨_,_,Aa HA3⟩).mono ?_;rintro e w4 ⟨rfl,hU⟩
    have HA4:Hid (AS w w.heap.size w.heap.size (Bd (l.take (k+1))) v' (Qk 0 (l.take (k+1))) w4):=Ab (by
     rw[Aa HTK,Z9k,Z2k,Nat.zero_add,Aa HLE];exact(Aa HA3).up hU)
    clear hU e0 e1 e2 e3 e4 e5 e6 e7;go_wp2;go_roundw
    case rel=>exact⟨k+1,by omega,by go_num,HA4⟩
    case measure=>simp[intOf];omega
  . obtain rfl:n=k:=by omega
    have hta:l.take n=l:=List.take_of_length_le (by rw[Aa HLL];exact Nat.le_refl _);rw[hta]at HA;have HTA:=Ab hta;clear hta;obtain⟨ov,hC⟩:=(Aa HA).z;obtain⟨d0,g0⟩:=hC.new;obtain⟨oa,oc,rfl⟩:=An hC.own;have hlb:=Aa HBN n;rw[Aa HTA]at hlb;obtain⟨L,hL⟩:∃L,(Bd l).length=L:=⟨_,rfl⟩
    rw[hL]at d0 hlb;have HLE:=Ab hL;clear hC hL;go_wp2;go_loopw [8,9,37] (fun _ _ i wr=>∃k:Nat,k<=n/\i=.int .i64 (k:Int)/\Hid (AS w w.heap.size w.heap.size (Bd l++Bf 0 (l.take k)) u4 (Qk 0 l) wr)) (fun _ _ i _=>n-(intOf i).toNat)
    case atStart=>exact⟨0,Nat.zero_le _,rfl,Ab (by simpa[Bf]using Aa HA)⟩
    case round=>
     clear d0 g0 HA hlt;obtain⟨k,hk,rfl,HA⟩:=hrel
     by_cases hlt:k<n
     . obtain⟨x,hx,hxm⟩:∃x,es[k]? =some x/\x∈es:=⟨es[k]'(by rw[Aa HL];exact hlt),List.getElem?_eq_getElem _,List.getElem_mem _⟩
       obtain⟨b,o,rfl,hb,c0,c1,c2,c3,c4,c5,c6,c7⟩:=(Aa HI).get (Aa HA).below hx;have hgl:=Aa HGG k x hx;have HIN:=Ab ((Aa HI).all x hxm);have hnum:=Aa HEE x hxm;obtain⟨P,hP⟩:∃P,(Bd (l.take k)).length=P:=⟨_,rfl⟩
       have hPb:=Aa HBN k;rw[hP]at hPb;have HPE:=Ab hP;have HF:=Ab (fun(W:World) (hA:AS w w.heap.size w.heap.size (Bd l++Bf 0 (l.take k)) u4 (Qk 0 l) W)=>Zbh w.heap.size w.heap.size P x (Bd l++Bf 0 (l.take k)) W hA.z hnum (by omega) (by rw[List.length_append];have h1:=Aa HBN n;have h2:=Aa HBN2 k;rw[List.take_of_length_le (by rw[Aa HLL];exact Nat.le_refl _)]at h1;omega));unfold Ev.val at HF;have HTK:=Ab (Jk hgl);obtain⟨x,fa,fc,pa,pc⟩:=x;obtain⟨⟨nml,bys,st,nd,gn⟩,mt,pk,cr⟩:=x;dsimp only at c0 c1 c2 c3 c4 c5 c6 c7 HF;generalize B nml=nm at c0 HF;generalize bys.length=bl at c1 HF;generalize pk.length=pl at c6 HF;clear hx hxm hgl hnum;have hplen:(Qk 0 l).length=n:=by rw[Z0l,Aa HLL]
       have hown:=(Aa HA).p;rw[hplen]at hown;obtain⟨pg,pcap,hu4,hpg1,hpg2⟩:=Bm hown (by omega);subst hu4
       have hpk:wr.cell? ⟨pg,k,none⟩=some (.int .i64 (P:Int)):=by
        rw[hown.cellAt k (by omega),<-Aa HPE];have:=Zem l 0 k (by rw[Aa HLL];exact hlt)
        rw[Nat.zero_add]at this;have hk2:k<(Qk 0 l).length:=by omega
        simp[List.getD,hk2]at this
        simp[i64s,hk2,this]
       have hpk':∀o1:Obj,(wr.alloc o1).cell? ⟨pg,k,none⟩=some (.int .i64 (P:Int)):=fun o1=>(World.cell?_alloc_lt wr o1 _ hpg2).trans hpk
       have HA1:=Ab (fun o1:Obj=>(Aa HA).later ((Below.refl _ _).alloc (Nat.le_refl _) o1));clear hown hplen hpg1;go_wp2;go_region_with (go_at_call 37;refine(Aa HF _ ((Aa HA1 _).later (Ae (Below.refl _ _) _))).mono ?_;rintro e w4 ⟨rfl,hU⟩)
       all_goals
        have HA4:Hid (AS w w.heap.size w.heap.size (Bd l++Bf 0 (l.take (k+1))) (.slice (some ⟨pg,0,none⟩) n pcap) (Qk 0 l) w4):=Ab (by
         rw[Aa HTK,Z4b,Aa HPE,<-List.append_assoc];exact((Aa HA1 _).later (Ae (Below.refl _ _) _)).up hU)
        clear hU c0 c1 c2 c3 c4 c5 c6 c7 hpk hpk';go_wp2;go_roundw
        case rel=>exact⟨k+1,by omega,by go_num,HA4⟩
        case measure=>simp[intOf];omega
     . obtain rfl:n=k:=by omega
       rw[Aa HTA]at HA;have hb2:=Aa HBN2 n;rw[Aa HTA]at hb2;obtain⟨ov,hC⟩:=(Aa HA).z;obtain⟨d0,g0⟩:=hC.new;obtain⟨oa2,oc2,rfl⟩:=An hC.own;obtain⟨T,hT⟩:∃T,(Bf 0 l).length=T:=⟨_,rfl⟩
       have hLT:(Bd l++Bf 0 l).length=L+T:=by rw[List.length_append,Aa HLE,hT]
       rw[hLT]at d0;rw[hT]at hb2;have HTE:=Ab hT;have hsub:((L:Int)+(T:Int)-(L:Int))=(T:Int):=by omega
       have HEND:Hid (Calls Tryz.prog 38 #[.pointer (some ⟨w.heap.size,0,none⟩),.int .i64 (n:Int),.int .i64 ((L:Int)+(T:Int)-(L:Int)),.int .i64 (L:Int)] wr fun e w'=>e=.returned (.tuple #[])/\ZUp w.heap.size wr w.heap.size (Bd l++Bf 0 l++Z6k n T L) w'):=Ab (by
        rw[hsub];exact Zbk w.heap.size w.heap.size n T L (Bd l++Bf 0 l) wr (Aa HA).z (by omega) (by omega) (by omega) (by rw[hLT];omega))
       clear hC hT hLT hsub;go_wp2_with fail
       refine(Aa HEND).mono ?_;rintro e w5 ⟨rfl,hU⟩;have hA5:=(Aa HA).up hU;obtain⟨ov,hC⟩:=hA5.z;have har:Bt l=Bd l++Bf 0 l++Z6k n T L:=by unfold Bt;rw[Aa HLL,Aa HTE,Aa HLE]
       have HAR:=Ab har;clear d0 g0 hU har;obtain⟨d0,g0⟩:=hC.new;have HFIN:=Ab (And.intro hC.own hA5.below);clear hC hA5;go_wp2;go_ret;exact⟨_,rfl,by rw[Aa HAR];exact(Aa HFIN).1,(Aa HFIN).2⟩
end Go.Proofs.YtcjbgpacnkilnaiGreatDoor
