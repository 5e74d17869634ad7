import Derived.Shelf.Strings.Split
import Derived.Test.YtieianhejdcgdaaGreatDoorQ40
set_option linter.unusedSimpArgs false
set_option maxHeartbeats 8000000
namespace Go.Proofs.YtieianhejdcgdaaGreatDoor
open Go.RowKit
set_option linter.unusedVariables false
set_option maxRecDepth 100000
def spn:List (Nat×Nat):= [(97,122),(65,90),(48,57),(46,46),(95,95),(45,45)]
def Mt (c:Nat)(p:Nat×Nat):Bool:=decide (p.1<=c)&&decide (c<=p.2)
theorem LE:∀c:UInt8,okB c=spn.any (Mt c.toNat):=by
 have h:∀n:Fin 256,okB (UInt8.ofNat n.val)=spn.any (Mt n.val):=by decide+kernel
 intro c;have:=h ⟨c.toNat,c.toNat_lt⟩
 simpa using this
theorem Z6s (W:World):(Instr.index 293 (.agg #[.int .u8 97,.int .u8 122,.int .u8 65,.int .u8 90,.int .u8 48,.int .u8 57,.int .u8 46,.int .u8 46,.int .u8 95,.int .u8 95,.int .u8 45,.int .u8 45]) (.int .i64 0)).run Tryz.prog W=.ok (.agg #[.int .u8 97,.int .u8 122]) W:=by kernel_rfl
theorem Z6r (W:World):(Instr.index 293 (.agg #[.int .u8 97,.int .u8 122,.int .u8 65,.int .u8 90,.int .u8 48,.int .u8 57,.int .u8 46,.int .u8 46,.int .u8 95,.int .u8 95,.int .u8 45,.int .u8 45]) (.int .i64 1)).run Tryz.prog W=.ok (.agg #[.int .u8 65,.int .u8 90]) W:=by kernel_rfl
theorem Z6q (W:World):(Instr.index 293 (.agg #[.int .u8 97,.int .u8 122,.int .u8 65,.int .u8 90,.int .u8 48,.int .u8 57,.int .u8 46,.int .u8 46,.int .u8 95,.int .u8 95,.int .u8 45,.int .u8 45]) (.int .i64 2)).run Tryz.prog W=.ok (.agg #[.int .u8 48,.int .u8 57]) W:=by kernel_rfl
theorem Z6p (W:World):(Instr.index 293 (.agg #[.int .u8 97,.int .u8 122,.int .u8 65,.int .u8 90,.int .u8 48,.int .u8 57,.int .u8 46,.int .u8 46,.int .u8 95,.int .u8 95,.int .u8 45,.int .u8 45]) (.int .i64 3)).run Tryz.prog W=.ok (.agg #[.int .u8 46,.int .u8 46]) W:=by kernel_rfl
theorem Z6o (W:World):(Instr.index 293 (.agg #[.int .u8 97,.int .u8 122,.int .u8 65,.int .u8 90,.int .u8 48,.int .u8 57,.int .u8 46,.int .u8 46,.int .u8 95,.int .u8 95,.int .u8 45,.int .u8 45]) (.int .i64 4)).run Tryz.prog W=.ok (.agg #[.int .u8 95,.int .u8 95]) W:=by kernel_rfl
theorem Z6n (W:World):(Instr.index 293 (.agg #[.int .u8 97,.int .u8 122,.int .u8 65,.int .u8 90,.int .u8 48,.int .u8 57,.int .u8 46,.int .u8 46,.int .u8 95,.int .u8 95,.int .u8 45,.int .u8 45]) (.int .i64 5)).run Tryz.prog W=.ok (.agg #[.int .u8 45,.int .u8 45]) W:=by kernel_rfl
theorem Z7h (k:Nat)(hk:k<6)(W:World):(Instr.index 293 (.agg #[.int .u8 97,.int .u8 122,.int .u8 65,.int .u8 90,.int .u8 48,.int .u8 57,.int .u8 46,.int .u8 46,.int .u8 95,.int .u8 95,.int .u8 45,.int .u8 45]) (.int .i64 (k:Int))).run Tryz.prog W=.ok (.agg #[.int .u8 ((spn.getD k (0,0)).1:Nat),.int .u8 ((spn.getD k (0,0)).2:Nat)]) W:=by
 have h:k=0\/k=1\/k=2\/k=3\/k=4\/k=5:=by omega
 rcases h with rfl|rfl|rfl|rfl|rfl|rfl
 . exact Z6s W
 . exact Z6r W
 . exact Z6q W
 . exact Z6p W
 . exact Z6o W
 . exact Z6n W
theorem Z4u (k:Nat):(spn.getD k (0,0)).1<256/\(spn.getD k (0,0)).2<256:=by
 match k with
 |0=>decide
 |1=>decide
 |2=>decide
 |3=>decide
 |4=>decide
 |5=>decide
 |k+6=>simp[spn]
theorem Z24 (n k:Nat)(hk:k<6)(h:Mt n (spn.getD k (0,0))=true):spn.any (Mt n)=true:=by
 rw[List.any_eq_true];refine⟨spn.getD k (0,0), ?_,h⟩;have hl:k<spn.length:=hk;simp[List.getD,hl]
theorem RF (n:Nat)(h:∀j,j<6->Mt n (spn.getD j (0,0))=false):spn.any (Mt n)=false:=by
 rw[List.any_eq_false];intro x hx;obtain⟨j,hj,rfl⟩:=List.mem_iff_getElem.1 hx;have:=h j hj
 simp[List.getD,hj]at this
 simp[this]
theorem C6 (n:Nat)(hn:n<256)(w:World):
 Calls Tryz.prog 183 #[.int .u8 n] w fun e w'=>e=.returned (.bool (spn.any (Mt n)))/\Below w.heap.size w w':=by
 have hI:=Z7h;go_enter Tryz.func183,Tryz.ntmps183
 go_wp2;go_loopw [12] (fun i wr=>∃k:Nat,k<=6/\i=.int .i64 k/\Hid (∀j,j<k->Mt n (spn.getD j (0,0))=false)/\Hid (Below w.heap.size w wr)) (fun i _=>6-(intOf i).toNat)
 case atStart=>exact⟨0,VM _,rfl,fun j hj=>absurd hj (by omega),Below.refl _ _⟩
 case round=>
  obtain⟨k,hk,rfl,HN,HB⟩:=hrel
  by_cases hlt:k<6
  . have hix:=hI k hlt;obtain⟨h1,h2⟩:=Z4u k;have HS:Hid (Mt n (spn.getD k (0,0))=(decide ((spn.getD k (0,0)).1<=n)&&decide (n<=(spn.getD k (0,0)).2))):=rfl;have HY:=Ab (Z24 n k hlt);generalize (spn.getD k (0,0)).1=lo at*;generalize (spn.getD k (0,0)).2=hi at*;clear hI;have hz:=(Aa HB).size
    by_cases ha:lo<=n
    . by_cases hb:n<=hi
      . go_wp2;go_ret;refine⟨Hk ((Aa HY) ?_).symm,(Aa HB).alloc (Aa HB).size _⟩;rw[Aa HS];simp[ha,hb]
      . go_wp2;go_roundw
        case rel=>
         refine⟨k+1,by omega,by go_num,fun j hj=> ?_,(Aa HB).alloc (Aa HB).size _⟩
         by_cases hjk:j=k
         . subst hjk;rw[Aa HS];simp[hb]
         . exact(Aa HN) j (by omega)
        case measure=>simp[intOf];omega
    . go_wp2;go_roundw
      case rel=>
       refine⟨k+1,by omega,by go_num,fun j hj=> ?_,(Aa HB).alloc (Aa HB).size _⟩
       by_cases hjk:j=k
       . subst hjk;rw[Aa HS];simp[ha]
       . exact(Aa HN) j (by omega)
      case measure=>simp[intOf];omega
  . obtain rfl:k=6:=by omega
    go_wp2;go_ret;exact⟨Hk (RF n (Aa HN)).symm,Aa HB⟩
theorem LD (p:ByteArray)(h0:p.data.toList≠ [])(h1:p.data.toList≠ [46])(h2:p.data.toList≠ [46,46])(hall:∀j (h:j<p.size),spn.any (Mt (p[j]'h).toNat)=true):okP p.data.toList=true:=by
 simp only[okP,Bool.and_eq_true,bne_iff_ne];refine⟨⟨⟨h0,h1⟩,h2⟩, ?_⟩;rw[WS];intro x hx;obtain⟨j,hj,rfl⟩:=List.mem_iff_getElem.1 hx;rw[LE];have hs:j<p.size:=by rw[RK];exact hj
 exact hall j hs
theorem Z2v (p:ByteArray)(j:Nat)(h:j<p.size)(hbad:spn.any (Mt (p[j]'h).toNat)=false):okP p.data.toList=false:=by
 have hb:okB (p[j]'h)=false:=by rw[LE];exact hbad
 have:p.data.toList.all okB=false:=by
  rw[List.all_eq_false];refine⟨p[j]'h, ?_,by simp[hb]⟩;exact Array.mem_toList_iff.2 (Array.getElem_mem _)
 simp[okP,this]
theorem Z0n (p:ByteArray)(l:List UInt8)(h:¬p.data.toList=l):(p.toList==l)=false:=by
 rw[Lib.toList_data];simpa using h
theorem RB (p:ByteArray)(h:¬p.data.toList= []):p.toList.isEmpty=false:=by
 rw[Lib.toList_data]
 cases hl:p.data.toList with
 |nil=>exact absurd hl h
 |cons x xs=>rfl
theorem EU (p:ByteArray)(hp:p.size<=maxLen)(w:World):
 Calls Tryz.prog 153 #[.string p] w fun e w'=>e=.returned (.bool (okP p.data.toList))/\Below w.heap.size w w':=by
 by_cases h0:p.data.toList= []
 . obtain rfl:p=⟨#[]⟩:=by rw[<-N3 p,h0];rfl
   go_enter Tryz.func153,Tryz.ntmps153
   go_wp2;go_ret;exact⟨rfl,Below.refl _ _⟩
 by_cases h1:p.data.toList= [46]
 . obtain rfl:p=⟨#[46]⟩:=by rw[<-N3 p,h1];rfl
   go_enter Tryz.func153,Tryz.ntmps153
   go_wp2;go_ret;exact⟨rfl,Below.refl _ _⟩
 by_cases h2:p.data.toList= [46,46]
 . obtain rfl:p=⟨#[46,46]⟩:=by rw[<-N3 p,h2];rfl
   go_enter Tryz.func153,Tryz.ntmps153
   go_wp2;go_ret;exact⟨rfl,Below.refl _ _⟩
 have HP:=Ab (LD p h0 h1 h2);have e0:=RB p h0;have e1:=Z0n p [46] h1;have e2:=Z0n p [46,46] h2;clear h0 h1 h2;have HQ:=Ab (Z2v p);go_enter Tryz.func153,Tryz.ntmps153
 go_wp2;go_loopw [3,16] (fun _ i wr=>∃k:Nat,k<=p.size/\i=.int .i64 k/\Hid (∀j (h:j<p.size),j<k->spn.any (Mt (p[j]'h).toNat)=true)/\Hid (Below w.heap.size w wr)) (fun _ i _=>p.size-(intOf i).toNat)
 case atStart=>exact⟨0,VM _,rfl,fun j _ hj=>absurd hj (by omega),Below.refl _ _⟩
 case round=>
  obtain⟨k,hk,rfl,HN,HB⟩:=hrel;unfold maxLen at hp;have hz:=(Aa HB).size
  by_cases hlt:k<p.size
  . have HM:=Ab (fun W=>C6 (p[k]'hlt).toNat (p[k]'hlt).toNat_lt W)
    cases hm:spn.any (Mt (p[k]'hlt).toNat)with
    |true=>
     rw[hm]at HM;have HM2:=Ab hm;clear hm;go_wp2_with (go_at_call 183;refine((Aa HM) _).mono ?_;rintro e w1 ⟨rfl,hb1⟩;have HB1:=Ab ((Aa HB).trans (hb1.mono hz));clear hb1)
     go_roundw
     case rel=>
      refine⟨k+1,by omega,by go_num,fun j h hj=> ?_,Aa HB1⟩
      by_cases hjk:j=k
      . subst hjk;exact Aa HM2
      . exact(Aa HN) j h (by omega)
     case measure=>simp[intOf];omega
    |false=>
     rw[hm]at HM;have HM2:=Ab hm;clear hm;go_wp2_with (go_at_call 183;refine((Aa HM) _).mono ?_;rintro e w1 ⟨rfl,hb1⟩;have HB1:=Ab ((Aa HB).trans (hb1.mono hz));clear hb1)
     go_ret;exact⟨Hk ((Aa HQ) k hlt (Aa HM2)).symm,Aa HB1⟩
  . obtain rfl:k=p.size:=by omega
    go_wp2;go_ret;exact⟨Hk ((Aa HP) (fun j h=>(Aa HN) j h h)).symm,Aa HB⟩
def Zo:Go.Shelf.Ren:=⟨fun|221=>89|268=>121|138=>122|143=>123|195=>160|197=>125|218=>161|219=>162|260=>163|217=>195|225=>196|224=>197|267=>198|266=>222|314=>223|n=>n,fun|9=>9|3=>3|31=>43|4=>4|0=>0|105=>188|21=>21|5=>5|46=>68|119=>265|139=>268|138=>267|146=>270|51=>35|n=>n,fun|1=>0|3=>1|4=>2|n=>n⟩
theorem P8:Go.Proofs.Lays.n221 Tryz.prog Zo:= {
 mixed:=by kernel_rfl
 f138:=Tryz.func122.trans (congrArg some (by kernel_rfl))
 f143:=Tryz.func123.trans (congrArg some (by kernel_rfl))
 f195:=Tryz.func160.trans (congrArg some (by kernel_rfl))
 f197:=Tryz.func125.trans (congrArg some (by kernel_rfl))
 f217:=Tryz.func195.trans (congrArg some (by kernel_rfl))
 f218:=Tryz.func161.trans (congrArg some (by kernel_rfl))
 f219:=Tryz.func162.trans (congrArg some (by kernel_rfl))
 f221:=Tryz.func89.trans (congrArg some (by kernel_rfl))
 f224:=Tryz.func197.trans (congrArg some (by kernel_rfl))
 f225:=Tryz.func196.trans (congrArg some (by kernel_rfl))
 f260:=Tryz.func163.trans (congrArg some (by kernel_rfl))
 f266:=Tryz.func222.trans (congrArg some (by kernel_rfl))
 f267:=Tryz.func198.trans (congrArg some (by kernel_rfl))
 f268:=Tryz.func121.trans (congrArg some (by kernel_rfl))
 f314:=Tryz.func223.trans (congrArg some (by kernel_rfl))
 t0:=Tryz.underlying0
 a0:=Tryz.isAgg0
 z0:=Tryz.sizeOf0
 v0:=Tryz.zeroValue0
 t3:=Tryz.underlying3
 a3:=Tryz.isAgg3
 z3:=Tryz.sizeOf3
 v3:=Tryz.zeroValue3
 t4:=Tryz.underlying4
 a4:=Tryz.isAgg4
 z4:=Tryz.sizeOf4
 v4:=Tryz.zeroValue4
 t5:=Tryz.underlying5
 a5:=Tryz.isAgg5
 z5:=Tryz.sizeOf5
 v5:=Tryz.zeroValue5
 t9:=Tryz.underlying9
 a9:=Tryz.isAgg9
 z9:=Tryz.sizeOf9
 v9:=Tryz.zeroValue9
 t21:=Tryz.underlying21
 a21:=Tryz.isAgg21
 z21:=Tryz.sizeOf21
 v21:=Tryz.zeroValue21
 t31:=Tryz.underlying43
 a31:=Tryz.isAgg43
 z31:=Tryz.sizeOf43
 v31:=Tryz.zeroValue43
 t46:=Tryz.underlying68
 a46:=Tryz.isAgg68
 z46:=Tryz.sizeOf68
 v46:=Tryz.zeroValue68
 t51:=Tryz.underlying35
 a51:=Tryz.isAgg35
 z51:=Tryz.sizeOf35
 v51:=Tryz.zeroValue35
 t105:=Tryz.underlying188
 a105:=Tryz.isAgg188
 z105:=Tryz.sizeOf188
 v105:=Tryz.zeroValue188
 t119:=Tryz.underlying265
 a119:=Tryz.isAgg265
 z119:=Tryz.sizeOf265
 t138:=Tryz.underlying267
 a138:=Tryz.isAgg267
 z138:=Tryz.sizeOf267
 v138:=Tryz.zeroValue267
 t139:=Tryz.underlying268
 a139:=Tryz.isAgg268
 z139:=Tryz.sizeOf268
 v139:=Tryz.zeroValue268
 t146:=Tryz.underlying270
 a146:=Tryz.isAgg270
 z146:=Tryz.sizeOf270
 v146:=Tryz.zeroValue270
 g1:=by kernel_rfl
 g3:=by kernel_rfl
 g4:=by kernel_rfl}
def JR (ps:List (List UInt8)):List Value:=ps.map fun p=>.string (B p)
theorem TE:(Tryz.prog.info? 9).map (fun i=>(i.zero,i.size,i.bytes))=some (some (.string ByteArray.empty),1,16):=by kernel_rfl
theorem F5 (s:ByteArray)(w:World)(hs:s.size<4294967281):
 Calls Tryz.prog 89 #[.string s,.string ⟨#[47]⟩,.int .i64 0,.int .i64 (-1)] w fun e w'=>
  e=.returned (.slice (some ⟨w.heap.size,0,none⟩) (spl s.data.toList).length (spl s.data.toList).length)/\w'=w.alloc (.cells (JR (spl s.data.toList)).toArray 9):=by
 have hsz:(⟨#[47]⟩:ByteArray).size=1:=rfl;have hle:=Lib.countB_le ⟨#[47]⟩ (by rw[hsz];decide) s.size s (VC _);have hlen:=Lib.splitB_all ⟨#[47]⟩ (by rw[hsz];decide) 0 _ s rfl
 have hI:∀(x:ByteArray) (c:Array Value),x.size<=s.size->Calls Tryz.prog (Zo.f 143) #[.string x,.string ⟨#[47]⟩] (w.alloc (.cells c (Zo.t 9))) fun e w'=>e=.returned (.int .i64 (Lib.indexB x ⟨#[47]⟩))/\w'=w.alloc (.cells c (Zo.t 9)):=by
  intro x c _;refine(Any.strings_Index_one {P8 with} x 47 _).mono ?_;rintro e w' ⟨rfl,rfl⟩;refine⟨?_,rfl⟩;show _=Ending.returned (Value.int .i64 (Lib.index x.data.toList [47]))
  rw[Lib.index_one]
 have hC:Calls Tryz.prog (Zo.f 138) #[.string s,.string ⟨#[47]⟩] w fun e w'=>e=.returned (.int .i64 (Lib.countB s ⟨#[47]⟩))/\w'=w:=by
  refine(Any.strings_Count_one {P8 with} s 47 w).mono ?_;rintro e w' ⟨rfl,rfl⟩;refine⟨?_,rfl⟩;show _=Ending.returned (Value.int .i64 ((Lib.count s.data.toList [47]:Nat):Int))
  rw[Lib.count_one];rfl
 have c:=Any.strings_genSplit_core P8 TE s ⟨#[47]⟩ 0 (-1) (Lib.countB s ⟨#[47]⟩+1) w hs (by rw[hsz];decide) (VM _) hI hC (by decide) (by decide) (by rw[if_pos (by decide)];omega);rw[XW]at c;have e2:Lib.cellsOf (Lib.splitB ⟨#[47]⟩ 0 (Lib.countB s ⟨#[47]⟩) s) (Lib.countB s ⟨#[47]⟩+1)=((Lib.splitB ⟨#[47]⟩ 0 (Lib.countB s ⟨#[47]⟩) s).map Value.string).toArray:=by rw[<-hlen];exact Lib.cellsOf_full _
 rw[e2,DM,FZ]at c;refine c.mono ?_;rintro e w' ⟨rfl,rfl⟩;refine⟨by simp, ?_⟩;simp only[JR,List.map_map];rfl
theorem JY (s:ByteArray)(w:World)(hs:s.size<4294967281):
 Calls Tryz.prog 66 #[.string s,.string ⟨#[47]⟩] w fun e w'=>
  e=.returned (.slice (some ⟨w.heap.size,0,none⟩) (spl s.data.toList).length (spl s.data.toList).length)/\w'=w.alloc (.cells (JR (spl s.data.toList)).toArray 9):=by
 have c:=F5 s w hs;go_enter Tryz.func66,Tryz.ntmps66
 go_wp2_with (go_at_call 89;refine c.mono ?_;rintro e w' ⟨rfl,hw⟩;rw[hw])
 go_ret;exact⟨rfl,rfl⟩
def SRow (w:World)(b:Nat)(v:Value)(ps:List (List UInt8)):Prop:=w.ownsRow b 9 1 v ps.length (JR ps)
theorem Vx (ps:List (List UInt8)):(JR ps).length=ps.length:=by simp[JR]
theorem SRow.nil (w:World)(b:Nat):SRow w b (.slice none 0 0) []:=World.ownsRow_nil _ _ _ _
theorem SRow.new (w:World)(ps:List (List UInt8))(h:ps.length<=maxLen):SRow (w.alloc (.cells (JR ps).toArray 9)) w.heap.size (.slice (some ⟨w.heap.size,0,none⟩) ps.length ps.length) ps:=
 ⟨by rw[Vx];omega,.inr ⟨w.heap.size,ps.length,(JR ps).toArray,rfl,VC _,heap_alloc_new w _,VC _,h,by simp[Vx],by simp[<-Vx]⟩⟩
theorem SRow.below {w w':World}{b:Nat}{v:Value}{ps:List (List UInt8)}(h:SRow w b v ps)(hg:Below w.heap.size w w'):SRow w' b v ps:=B4 h hg
theorem NZ {s:List UInt8}(h:40<s.length):Nw s=2:=by unfold Nw;rw[if_pos h]
theorem TY {s:List UInt8}(h:s.length<=40){p:List UInt8}(hp:p∈spl s)(hb:okP p=false):Nw s=1:=by
 unfold Nw;rw[if_neg (by omega),if_neg];intro hall;have:=WS.1 hall p hp
 rw[hb]at this;exact absurd this (by simp)
theorem RG {s:List UInt8}(h:s.length<=40):(spl s).length<=41:=by
 have:=YE (a:=(47:UInt8)) (l:=s)
 rw[JZ];omega
def Z52 (s:List UInt8):List (List UInt8):=if Nw s=0 then spl s else []
theorem Z2k {s:List UInt8}(h:Nw s=0):Z52 s=spl s:=by unfold Z52;rw[if_pos h]
theorem AE {s:List UInt8}(h:Nw s≠0):Z52 s= []:=by unfold Z52;rw[if_neg h]
theorem M3 (w:World)(o:Obj):Below w.heap.size w (w.alloc o):=(Below.refl _ _).alloc (VC _) o
theorem KX (s:List UInt8)(w:World)(hs:s.length<=maxLen):
 Calls Tryz.prog 117 #[.string (B s)] w fun e w'=>∃v,e=.returned (.tuple #[v,.int .i64 (Nw s:Nat)])/\SRow w' w.heap.size v (Z52 s)/\Below w.heap.size w w'/\(Nw s≠0->v=.slice none 0 0):=by
 have hsz:=Vk s;unfold maxLen at hs
 by_cases h40:40<s.length
 . have HE:=Ab (NZ h40);have h40':40<(B s).size:=by rw[hsz];omega
   have hms:(B s).size<=9223372036854775807:=by rw[hsz];omega
   clear hsz h40 hs;generalize B s=t at*;go_enter Tryz.func117,Tryz.ntmps117
   go_wp2;go_ret2;rw[AE (by rw[Aa HE];decide),Aa HE];exact⟨_,rfl,SRow.nil _ _,Below.refl _ _,fun _=>rfl⟩
 . have hsp:=JY (B s) w (by rw[hsz];omega);rw[Z1b]at hsp;have h40':(B s).size<=40:=by rw[hsz];omega
   have h41:=RG (s:=s) (by omega);have HR:=Ab (SRow.new w (spl s) (by unfold maxLen;omega));have HE:=Ab (fun p hp hb=>TY (s:=s) (p:=p) (by omega) hp hb);have HO:=Ab (Z3p (l:=s) (by omega));have hmem:∀p∈spl s,p.length<=s.length:=Z4v s;obtain⟨L,hL⟩:∃L,(spl s).length=L:=⟨_,rfl⟩
   rw[hL]at hsp HR h41;have HL:=Ab hL
   have HC:Hid (∀j (hj:j<(spl s).length) (W:World),Below (w.heap.size+1) (w.alloc (.cells (JR (spl s)).toArray 9)) W->W.cell? ⟨w.heap.size,j,none⟩=some (.string (B ((spl s)[j]'hj)))):=by
    intro j hj W hW;rw[hW.cell (p:=⟨w.heap.size,j,none⟩) (Nat.lt_succ_self _),World.cell?_alloc_at _ _ _ _ rfl];simp[JR,hj]
   have hs40:s.length<=40:=by omega
   clear hL hsz h40 hs;generalize B s=t at*;go_enter Tryz.func117,Tryz.ntmps117
   go_wp2_with (go_at_call 66;refine hsp.mono ?_;rintro e w' ⟨rfl,hw⟩;rw[hw])
   clear hsp;go_loopw [6,14] (fun _ i wr=>∃k:Nat,k<=L/\i=.int .i64 k/\Hid (∀j (hj:j<(spl s).length),j<k->okP ((spl s)[j]'hj)=true)/\Hid (Below (w.heap.size+1) (w.alloc (.cells (JR (spl s)).toArray 9)) wr)) (fun _ i _=>L-(intOf i).toNat)
   case atStart=>exact⟨0,VM _,rfl,fun j _ hj=>absurd hj (by omega),Below.refl _ _⟩
   case round=>
    obtain⟨k,hk,rfl,HN,HB⟩:=hrel
    by_cases hlt:k<L
    . have hlt':k<(spl s).length:=by rw[Aa HL];exact hlt
      have hcell:=(Aa HC) k hlt' wr (Aa HB);have hz:=(Aa HB).size;have hlen:=hmem _ (WR hlt');have HM:=Ab (WR hlt');have HQ:=Ab (fun h=>(Aa HE) _ (Aa HM) h)
      have HN2:Hid (okP ((spl s)[k]'hlt')=true->∀j (hj:j<(spl s).length),j<k+1->okP ((spl s)[j]'hj)=true):=by
       intro h j hj hjk
       by_cases e:j=k
       . subst e;exact h
       . exact(Aa HN) j hj (by omega)
      generalize (spl s)[k]'hlt'=q at*;have hI:=EU (B q) (by rw[Vk];unfold maxLen;omega) wr;rw[Z1b]at hI;clear HM;generalize B q=qb at*;have hz2:w.heap.size+1<=wr.heap.size:=by simp at hz;omega
      cases ho:okP q with
      |true=>
       rw[ho]at hI;have HO2:=Ab ho;clear ho;go_wp2_with (go_at_call 153;refine hI.mono ?_;rintro e w1 ⟨rfl,hb1⟩;have HB1:=Ab ((Aa HB).trans (hb1.mono hz2));clear hb1)
       go_roundw
       case rel=>exact⟨k+1,by omega,by go_num,(Aa HN2) (Aa HO2),Aa HB1⟩
       case measure=>simp[intOf];omega
      |false=>
       rw[ho]at hI;have HO2:=Ab ho;clear ho;go_wp2_with (go_at_call 153;refine hI.mono ?_;rintro e w1 ⟨rfl,hb1⟩;have HB1:=Ab ((Aa HB).trans (hb1.mono hz2));clear hb1)
       go_ret2;have he:=(Aa HQ) (Aa HO2)
       rw[AE (by rw[he];decide),he];exact⟨_,rfl,SRow.nil _ _,(M3 w _).trans ((Aa HB1).mono (Nat.le_succ _)),fun _=>rfl⟩
    . obtain rfl:k=L:=by omega
      have HZ:Hid (Nw s=0):=(Aa HO) (by
       rw[WS];intro p hp;obtain⟨j,hj,rfl⟩:=List.mem_iff_getElem.1 hp;exact(Aa HN) j hj (by rw[Aa HL]at hj;exact hj))
      go_wp2;go_ret2;rw[Z2k (Aa HZ),Aa HZ];refine⟨_,rfl, ?_,(M3 w _).trans ((Aa HB).mono (Nat.le_succ _)),fun h=>absurd rfl h⟩;exact(Aa HR).below (by simpa using Aa HB)
theorem Pn {l:List Fl}(h:Eh l=0):l.length<=12:=by
 unfold Eh at h
 split at h
 . omega
 . omega
structure Ans (w w':World)(v:Value)(l:List Fl):Prop where
 ex:∃ad c out,v=.slice ad l.length c/\FsIn w' ad c out/\fls out=l
 bel:Below w.heap.size w w'
theorem Ans.nil {w w':World}(h:Below w.heap.size w w'):Ans w w' (.slice none 0 0) []:=⟨⟨none,0,[],rfl,FsIn.nil _,rfl⟩,h⟩
theorem Ans.row {w w':World}{B:Nat}{v:Value}{out:List Fv}(h:FRow w' B v out)(hl:out.length<=1000)(hb:Below w.heap.size w w'):Ans w w' v (fls out):=by
 obtain⟨ad,c,h1,h2⟩:=h.files (by omega);exact⟨⟨ad,c,out,by rw[h1];simp[fls],h2,rfl⟩,hb⟩
theorem Si (ad:Option Addr)(c n:Nat)(es:List Ev)(w:World)(h:EsIn w ad c es)(hl:es.length=n)(hn:n<=12)(hE:∀x∈es,ENum x.e):
 Calls Tryz.prog 43 #[.slice ad n c] w fun e w'=>∃v,e=.returned v/\w'.ownsRow (w.heap.size+1) 5 1 v (Cb (es.map Ev.e)).length (u8s (Cb (es.map Ev.e)))/\Below w.heap.size w w':=by
 obtain⟨i0,hi,hz0,hz1,hz2⟩:=info_parts MO;obtain⟨l,hle⟩:∃l,es.map Ev.e=l:=⟨_,rfl⟩
 have hll:l.length=n:=by rw[<-hle];simpa using hl
 have hEl:∀x∈l,ENum x:=by
  rw[<-hle];intro x hx;obtain⟨y,hy,rfl⟩:=WY.1 hx;exact hE y hy
 have hbnd:∀k,(Bh (l.take k)).length<=12081*12:=fun k=>by
  have h1:=NC (l.take k) (fun x hx=>hEl x (VS hx));have h2:(l.take k).length<=12:=by rw[VL];omega
  omega
 have hbnd2:∀k,(Bj 0 (l.take k)).length<=97*12:=fun k=>by
  have h1:=Z4 (l.take k) 0 (fun x hx=>hEl x (VS hx));have h2:(l.take k).length<=12:=by rw[VL];omega
  omega
 rw[hle];have HG:∀(k:Nat) (x:Ev),es[k]? =some x->l[k]? =some x.e:=fun k x hk=>by rw[<-hle];simp[hk]
 have HS0:Hid (AS w w.heap.size w.heap.size (Bh (l.take 0)) (.slice none 0 0) (Sz 0 (l.take 0)) (w.alloc (.cells #[.slice none 0 0] 106))):=Ab (by
  refine⟨⟨.slice none 0 0,VC _,heap_alloc_new w _,World.ownsRow_nil _ _ _ _⟩,World.ownsRow_nil _ _ _ _,(Below.refl _ _).alloc (VC _) _⟩)
 have HI:=Ab h;have HBN:=Ab hbnd;have HBN2:=Ab hbnd2;have HEE:=Ab hE;have HLL:=Ab hll;have HL:=Ab hl;have HGG:=Ab HG;clear h hbnd hbnd2 hE hll hl HG hEl hle;go_enter Tryz.func43,Tryz.ntmps43
 go_wp2;go_loopw [4,6,14] (fun v4 _ i wr=>∃k:Nat,k<=n/\i=.int .i64 (k:Int)/\Hid (AS w w.heap.size w.heap.size (Bh (l.take k)) v4 (Sz 0 (l.take k)) wr)) (fun _ _ i _=>n-(intOf i).toNat)
 case atStart=>exact⟨0,VM _,rfl,HS0⟩
 case round=>
  obtain⟨k,hk,rfl,HA⟩:=hrel
  by_cases hlt:k<n
  . obtain⟨x,hx,hxm⟩:∃x,es[k]? =some x/\x∈es:=⟨es[k]'(by rw[Aa HL];exact hlt),VR _,WR _⟩
    obtain⟨b,o,rfl,hb,c0,c1,c2,c3,c4,c5,c6,c7⟩:=(Aa HI).get (Aa HA).below hx;have hgl:=Aa HGG k x hx;have HIN:=Ab ((Aa HI).all x hxm);have hnum:=Aa HEE x hxm
    have HF:=Ab (fun(W:World) (hA:∃v ps,AS w w.heap.size w.heap.size (Bh (l.take k)) v ps W)=>QB w.heap.size w.heap.size x (Bh (l.take k)) W (by obtain⟨v,ps,hA⟩:=hA;exact hA.z) hnum (by
     obtain⟨v,ps,hA⟩:=hA;exact(Aa HIN).pk.below hA.below) (fun g o' e1 e2=>Wk (Aa HIN).pk g o' e1 e2) (by have:=Aa HBN k;omega))
    unfold Ev.val at HF;have HTK:=Ab (Kv hgl);obtain⟨x,fa,fc,pa,pc⟩:=x;obtain⟨⟨nml,bys,st,nd,gn⟩,mt,pk,cr⟩:=x;dsimp only at c0 c1 c2 c3 c4 c5 c6 c7 HF;generalize B nml=nm at c0 HF;generalize bys.length=bl at c1 HF;generalize pk.length=pl at c6 HF;clear hx hxm hgl hnum;obtain⟨ov,hC⟩:=(Aa HA).z;obtain⟨d0,g0⟩:=hC.new;obtain⟨oa,oc,rfl⟩:=Ao hC.own;have hlb:=Aa HBN k;obtain⟨L,hL⟩:∃L,(Bh (l.take k)).length=L:=⟨_,rfl⟩
    rw[hL]at d0 hlb;have HLE:=Ab hL;have hbl:=hC.lt;have d0':∀o1:Obj,(wr.alloc o1).cell? ⟨w.heap.size,0,none⟩=some (.slice oa L oc):=fun o1=>(World.cell?_alloc_lt wr o1 _ hbl).trans d0
    have HA1:=Ab (fun o1 o2:Obj=>((Aa HA).later ((Below.refl _ _).alloc (VC _) o1)).later ((Below.refl _ _).alloc (VC _) o2));have hpl2:(Sz 0 (l.take k)).length=k:=by rw[R6,VL,Aa HLL];omega
    have HPL:=Ab hpl2;have HO:=Ab (fun o1 o2:Obj=>(Aa HA1 o1 o2).p);rw[hpl2]at HO;clear hC hL hpl2;go_wp2_with (at_builtin;refine wpList_append_own_at _ rfl _ _ 81 rfl (w.heap.size+1) 3 i0 (.int .i64 0) 1 8 Tryz.underlying81 hi hz0 hz1 hz2 rfl (by decide) _ k (i64s (Sz 0 (l.take k))) rfl (Aa HO _ _) ⟨wr.heap.size+1,0,none⟩ 1 1 [.int .i64 (L:Int)] rfl rfl (fun j u hj=>AZ (L8 (by simp)) hj) (Bf rfl) (by unfold maxLen;omega) (by omega) (by simp;omega) ?_)
    intro v' w3 hO3 hg3 _ _
    have hX:w3.heap[wr.heap.size]? =some (.cells #[.string nm,.slice fa bl fc,.int .i64 st,.int .i64 nd,.bool gn,.int .u32 (mt:Int),.slice pa pl pc,.int .u32 (cr:Int)] 76 (0,0)):=by
     refine(hg3.block _ (by simp;omega) (fun e=> ?_)).trans ((heap_alloc_old _ _ (by simp)).trans (heap_alloc_new wr _));have:=((Aa HA).p.lt _ e.symm).2
     omega
    have HA3:=Ab ((Aa HA1 _ _).app hg3 (by rw[Aa HPL];exact hO3));have e0:=Ac (i:=0) hX;have e1:=Ac (i:=1) hX;have e2:=Ac (i:=2) hX;have e3:=Ac (i:=3) hX;have e4:=Ac (i:=4) hX;have e5:=Ac (i:=5) hX;have e6:=Ac (i:=6) hX;have e7:=Ac (i:=7) hX;simp only[WM,WH,WT]at e0 e1 e2 e3 e4 e5 e6 e7;clear hO3 hg3 hX c0 c1 c2 c3 c4 c5 c6 c7 d0 g0 d0' HO;go_wp2_with fail
    refine(Aa HF w3 ⟨_,_,Aa HA3⟩).mono ?_;rintro e w4 ⟨rfl,hU⟩
    have HA4:Hid (AS w w.heap.size w.heap.size (Bh (l.take (k+1))) v' (Sz 0 (l.take (k+1))) w4):=Ab (by
     rw[Aa HTK,NB,AG,WI,Aa HLE];exact(Aa HA3).up hU)
    clear hU e0 e1 e2 e3 e4 e5 e6 e7;go_wp2;go_roundw
    case rel=>exact⟨k+1,by omega,by go_num,HA4⟩
    case measure=>simp[intOf];omega
  . obtain rfl:n=k:=by omega
    have hta:l.take n=l:=VP (by rw[Aa HLL];exact VC _);rw[hta]at HA;have HTA:=Ab hta;clear hta;obtain⟨ov,hC⟩:=(Aa HA).z;obtain⟨d0,g0⟩:=hC.new;obtain⟨oa,oc,rfl⟩:=Ao hC.own;have hlb:=Aa HBN n;rw[Aa HTA]at hlb;obtain⟨L,hL⟩:∃L,(Bh l).length=L:=⟨_,rfl⟩
    rw[hL]at d0 hlb;have HLE:=Ab hL;clear hC hL;go_wp2;go_loopw [8,9,37] (fun _ _ i wr=>∃k:Nat,k<=n/\i=.int .i64 (k:Int)/\Hid (AS w w.heap.size w.heap.size (Bh l++Bj 0 (l.take k)) u4 (Sz 0 l) wr)) (fun _ _ i _=>n-(intOf i).toNat)
    case atStart=>exact⟨0,VM _,rfl,Ab (by simpa[Bj]using Aa HA)⟩
    case round=>
     clear d0 g0 HA hlt;obtain⟨k,hk,rfl,HA⟩:=hrel
     by_cases hlt:k<n
     . obtain⟨x,hx,hxm⟩:∃x,es[k]? =some x/\x∈es:=⟨es[k]'(by rw[Aa HL];exact hlt),VR _,WR _⟩
       obtain⟨b,o,rfl,hb,c0,c1,c2,c3,c4,c5,c6,c7⟩:=(Aa HI).get (Aa HA).below hx;have hgl:=Aa HGG k x hx;have HIN:=Ab ((Aa HI).all x hxm);have hnum:=Aa HEE x hxm;obtain⟨P,hP⟩:∃P,(Bh (l.take k)).length=P:=⟨_,rfl⟩
       have hPb:=Aa HBN k;rw[hP]at hPb;have HPE:=Ab hP;have HF:=Ab (fun(W:World) (hA:AS w w.heap.size w.heap.size (Bh l++Bj 0 (l.take k)) u4 (Sz 0 l) W)=>QA w.heap.size w.heap.size P x (Bh l++Bj 0 (l.take k)) W hA.z hnum (by omega) (by rw[VB];have h1:=Aa HBN n;have h2:=Aa HBN2 k;rw[VP (by rw[Aa HLL];exact VC _)]at h1;omega));unfold Ev.val at HF;have HTK:=Ab (Kv hgl);obtain⟨x,fa,fc,pa,pc⟩:=x;obtain⟨⟨nml,bys,st,nd,gn⟩,mt,pk,cr⟩:=x;dsimp only at c0 c1 c2 c3 c4 c5 c6 c7 HF;generalize B nml=nm at c0 HF;generalize bys.length=bl at c1 HF;generalize pk.length=pl at c6 HF;clear hx hxm hgl hnum;have hplen:(Sz 0 l).length=n:=by rw[R6,Aa HLL]
       have hown:=(Aa HA).p;rw[hplen]at hown;obtain⟨pg,pcap,hu4,hpg1,hpg2⟩:=Bt hown (by omega);subst hu4
       have hpk:wr.cell? ⟨pg,k,none⟩=some (.int .i64 (P:Int)):=by
        rw[hown.cellAt k (by omega),<-Aa HPE];have:=Z0u l 0 k (by rw[Aa HLL];exact hlt)
        rw[WI]at this;have hk2:k<(Sz 0 l).length:=by omega
        simp[List.getD,hk2]at this
        simp[i64s,hk2,this]
       have hpk':∀o1:Obj,(wr.alloc o1).cell? ⟨pg,k,none⟩=some (.int .i64 (P:Int)):=fun o1=>(World.cell?_alloc_lt wr o1 _ hpg2).trans hpk
       have HA1:=Ab (fun o1:Obj=>(Aa HA).later ((Below.refl _ _).alloc (VC _) o1));clear hown hplen hpg1;go_wp2;go_region_with (go_at_call 64;refine(Aa HF _ ((Aa HA1 _).later (Af (Below.refl _ _) _))).mono ?_;rintro e w4 ⟨rfl,hU⟩)
       all_goals
        have HA4:Hid (AS w w.heap.size w.heap.size (Bh l++Bj 0 (l.take (k+1))) (.slice (some ⟨pg,0,none⟩) n pcap) (Sz 0 l) w4):=Ab (by
         rw[Aa HTK,DE,Aa HPE,<-VJ];exact((Aa HA1 _).later (Af (Below.refl _ _) _)).up hU)
        clear hU c0 c1 c2 c3 c4 c5 c6 c7 hpk hpk';go_wp2;go_roundw
        case rel=>exact⟨k+1,by omega,by go_num,HA4⟩
        case measure=>simp[intOf];omega
     . obtain rfl:n=k:=by omega
       rw[Aa HTA]at HA;have hb2:=Aa HBN2 n;rw[Aa HTA]at hb2;obtain⟨ov,hC⟩:=(Aa HA).z;obtain⟨d0,g0⟩:=hC.new;obtain⟨oa2,oc2,rfl⟩:=Ao hC.own;obtain⟨T,hT⟩:∃T,(Bj 0 l).length=T:=⟨_,rfl⟩
       have hLT:(Bh l++Bj 0 l).length=L+T:=by rw[VB,Aa HLE,hT]
       rw[hLT]at d0;rw[hT]at hb2;have HTE:=Ab hT;have hsub:((L:Int)+(T:Int)-(L:Int))=(T:Int):=by omega
       have HEND:Hid (Calls Tryz.prog 65 #[.pointer (some ⟨w.heap.size,0,none⟩),.int .i64 (n:Int),.int .i64 ((L:Int)+(T:Int)-(L:Int)),.int .i64 (L:Int)] wr fun e w'=>e=.returned (.tuple #[])/\ZUp w.heap.size wr w.heap.size (Bh l++Bj 0 l++GW n T L) w'):=Ab (by
        rw[hsub];exact QD w.heap.size w.heap.size n T L (Bh l++Bj 0 l) wr (Aa HA).z (by omega) (by omega) (by omega) (by rw[hLT];omega))
       clear hC hT hLT hsub;go_wp2_with fail
       refine(Aa HEND).mono ?_;rintro e w5 ⟨rfl,hU⟩;have hA5:=(Aa HA).up hU;obtain⟨ov,hC⟩:=hA5.z;have har:Cb l=Bh l++Bj 0 l++GW n T L:=by unfold Cb;rw[Aa HLL,Aa HTE,Aa HLE]
       have HAR:=Ab har;clear d0 g0 hU har;obtain⟨d0,g0⟩:=hC.new;have HFIN:=Ab (And.intro hC.own hA5.below);clear hC hA5;go_wp2;go_ret;exact⟨_,rfl,by rw[Aa HAR];exact(Aa HFIN).1,(Aa HFIN).2⟩
end Go.Proofs.YtieianhejdcgdaaGreatDoor
