import Derived.Test.YtcjbgpacnkilnaiGreatDoorQ3
import Derived.Test.YtcjbgpacnkilnaiGreatDoorQ0
import Derived.Test.YtcjbgpacnkilnaiGreatDoorQ17
import Derived.Deep.RegionHeld3
set_option maxHeartbeats 4000000
namespace Go.Proofs.YtcjbgpacnkilnaiGreatDoor
open Go.RowKit
set_option linter.unusedVariables false
set_option maxRecDepth 100000
theorem BytesIn.cut {w:World}{a:Option Addr}{xs:List Nat}(h:BytesIn w a xs)(q:Nat):BytesIn w a (xs.take q):=by
 rcases h with rfl|⟨b,o,rfl,hb,hB⟩
 . exact .inl (by simp)
 . refine .inr ⟨b,o,rfl,hb,fun j hj=> ?_⟩;have hj2:j<q/\j<xs.length:=by rw[List.length_take]at hj;omega
   have e:(xs.take q).getD j 0=xs.getD j 0:=by simp only[List.getD];rw[List.getElem?_take_of_lt hj2.1]
   rw[e];exact hB j hj2.2
abbrev Zf4:Ending:=.panicked [{v:=.iface 92 (.agg #[]),recovered:=false}]
structure ZT (w:World)(b:Nat)(R:Value)(p:Nat)(w':World):Prop where
 is:w'.heap[b]? =some (.cells #[R,.int .i64 (p:Int)] 72 (0,0))
 below:Below b w w'
 keep:∀g,g≠b->g<w.heap.size->w'.heap[g]? =w.heap[g]?
theorem ZT.trans {w w1 w2:World}{b p q:Nat}{R:Value}(h:ZT w b R p w1)(k:ZT w1 b R q w2):ZT w b R q w2:=
 ⟨k.is,h.below.trans k.below,fun g h1 h2=>(k.keep g h1 (Nat.lt_of_lt_of_le h2 h.below.size)).trans (h.keep g h1 h2)⟩
theorem ZT.drewN {w w1:World}{b p:Nat}{R:Value}(h:ZT w b R p w1)(q:Nat):ZT w b R p (w1.drewN q):=⟨h.is,Ae h.below q,h.keep⟩
structure ZRow (w:World)(b:Nat)(a:Option Addr)(n cap:Nat)(bs:List Nat):Prop where
 len:bs.length=n
 few:n<=12000
 room:n<=cap
 nil:a=none->cap=0
 byt:BytesIn w a bs
 val:∀x∈bs,x<256
 apart:∀g o,a=some ⟨g,o,none⟩->bs≠ []->g≠b
theorem ZRow.keep {w w':World}{b n cap:Nat}{a:Option Addr}{bs:List Nat}(h:ZRow w b a n cap bs)(hs:w.heap.size<=w'.heap.size)(hk:∀g,g≠b->g<w.heap.size->w'.heap[g]? =w.heap[g]?):ZRow w' b a n cap bs:=by
 refine⟨h.len,h.few,h.room,h.nil, ?_,h.val,h.apart⟩
 by_cases e:bs= []
 . exact .inl e
 . rcases h.byt with h1|⟨g,o,e1,hb,hB⟩
   . exact absurd h1 e
   . exact .inr ⟨g,o,e1,by omega,fun j hj=>(World.cell?_of_block (w:=w) (a:=⟨g,_,none⟩) (hk g (h.apart g o e1 e) hb)).trans (hB j hj)⟩
theorem ZRow.after {w w':World}{b n cap p:Nat}{a:Option Addr}{bs:List Nat}{R:Value}(h:ZRow w b a n cap bs)(hT:ZT w b R p w'):ZRow w' b a n cap bs:=h.keep hT.below.size hT.keep
theorem Z0a (a:Option Addr)(p n cap:Nat)(h:p<=n)(hn:n<=cap)(hnil:a=none->cap=0):
 ∃a',(∀W:World,(Instr.slice 22 (.slice a n cap) (some (.int .i64 (p:Int))) none none).run Tryz.prog W=.ok (.slice a' (n-p) (cap-p)) W)/\(∀b o,a=some ⟨b,o,none⟩->p<n->a'=some ⟨b,o+p,none⟩)/\(a'=none->cap-p=0):=by
 have hs:=Tryz.sizeOf5;have ht:=Tryz.underlying22;have h1:(p:Int)<=(n:Int):=by omega
 cases a with
 |none=>
  have:=hnil rfl
  subst this;obtain rfl:n=0:=by omega
  obtain rfl:p=0:=by omega
  exact⟨none,fun W=>by simp[go_sem,ht],fun b o e=>(by cases e),fun _=>rfl⟩
 |some ad=>
  by_cases hp:cap=p
  . subst hp;obtain rfl:n=cap:=by omega
    refine⟨some ad,fun W=> ?_,fun b o e hlt=>by omega,fun e=>by cases e⟩;simp[go_sem,ht,hs]
  . have h2:(p:Int)<(cap:Int):=by omega
    refine⟨some (ad.add p),fun W=> ?_,fun b o e hlt=> ?_,fun e=>by cases e⟩
    . simp[go_sem,ht,hs,h1,hp]
      try omega
    . cases e
      unfold Addr.add
      split<;>simp_all
theorem Zi8 (a:Option Addr)(m n cap:Nat)(h:m<=n)(hn:n<=cap)(W:World):(Instr.slice 22 (.slice a n cap) none (some (.int .u32 (m:Int))) none).run Tryz.prog W=.ok (.slice a m cap) W:=by
 have hs:=Tryz.sizeOf5;have ht:=Tryz.underlying22;have h2:(m:Int)<=(cap:Int):=by omega
 cases a<;>simp[go_sem,ht,hs,h2]
theorem Z1w {n:Nat}(h:n<18446744073709551616):IntKind.u64.wrap (n:Int)=(n:Int):=by
 simp[IntKind.wrap,IntKind.bits,IntKind.signed]
 omega
theorem ZT.set {w:World}{b p q:Nat}{R:Value}(h:w.heap[b]? =some (.cells #[R,.int .i64 (p:Int)] 72 (0,0))):ZT w b R q (w.setCell ⟨b,1,none⟩ (.int .i64 (q:Int))):=by
 have hb:=(Array.getElem?_eq_some_iff.1 h).1;have hg:=Ad w b 1 (.int .i64 (q:Int));refine⟨by rw[heap_setCell_same w b 1 _ _ _ h];rfl,(Below.refl b w).grown hg (by omega) (fun g e=>by cases e;exact Nat.le_refl _),fun g hne hlt=>hg.block g hlt (fun e=>hne (Option.some.inj e))⟩
theorem Zid {w:World}{b p many n cap k:Nat}{a a':Option Addr}{bs:List Nat}(hR:ZRow w b a n cap bs)(hp:p<=n)(hq:p+many<=n)(h1:∀b o,a=some ⟨b,o,none⟩->p<n->a'=some ⟨b,o+p,none⟩)(h2:a'=none->k=0):PkIn w a' k ((bs.drop p).take many):=by
 refine⟨?_,h2⟩
 by_cases h0:many=0
 . subst h0;exact .inl (by simp)
 . have hb:bs≠ []:=by
    intro e;have:=hR.len
    rw[e]at this;simp at this
    omega
   rcases hR.byt with e|⟨g,o,e,hg,hB⟩
   . exact absurd e hb
   . refine .inr ⟨g,o+p,h1 g o e (by omega),hg,fun j hj=> ?_⟩
     have hj2:j<many/\p+j<bs.length:=by
      rw[List.length_take,List.length_drop]at hj;omega
     have e2:((bs.drop p).take many).getD j 0=bs.getD (p+j) 0:=by
      simp only[List.getD];rw[List.getElem?_take_of_lt hj2.1,List.getElem?_drop]
     rw[e2,Nat.add_assoc];exact hB (p+j) hj2.2
theorem De (b p many n cap:Nat)(a:Option Addr)(bs:List Nat)(w:World)(hI:w.heap[b]? =some (.cells #[.slice a n cap,.int .i64 (p:Int)] 72 (0,0)))(hp:p<=n)(hR:ZRow w b a n cap bs)(hm:many<4294967296):
 Calls Tryz.prog 63 #[.pointer (some ⟨b,0,none⟩),.int .u32 (many:Int)] w fun e w'=>(n<p+many/\e=Zf4/\ZT w b (.slice a n cap) p w')\/ (p+many<=n/\(∃a' c',e=.returned (.slice a' many c')/\many<=c'/\∀W,ZRow W b a n cap bs->PkIn W a' c' ((bs.drop p).take many))/\ZT w b (.slice a n cap) (p+many) w'):=by
 obtain⟨a',hsl,ha1,ha2⟩:=Z0a a p n cap hp hR.room hR.nil;have hfew:=hR.few;have hrm:=hR.room;have c0:=Ac (i:=0) hI;have c1:=Ac (i:=1) hI;simp only[List.getElem?_toArray,List.getElem?_cons_zero,List.getElem?_cons_succ]at c0 c1;have f1:=frozen_of_row w b 1 _ _ hI;obtain⟨d,hd⟩:∃d,n-p=d:=⟨_,rfl⟩
 obtain⟨k,hk⟩:∃k,cap-p=k:=⟨_,rfl⟩
 rw[hd,hk]at hsl;have hwd:=Z1w (n:=d) (by omega);have hwm:=Z1w (n:=many) (by omega);have HI:=Ab hI;have HA1:=Ab ha1;have HA2:=Ab ha2;have HK:=Ab hk;clear hI hR ha1 ha2
 by_cases hq:n<p+many
 . have hlt:(d:Int)<(many:Int):=by omega
   have HF:Hid (n<p+many/\∀q,ZT w b (.slice a n cap) p (w.drewN q)):=Ab ⟨hq,fun q=>(⟨Aa HI,Below.refl _ _,fun g _ _=>rfl⟩:ZT w b (.slice a n cap) p w).drewN q⟩;clear hd hk hq;go_enter Tryz.func63,Tryz.ntmps63
   go_wp2;go_quiet (fail)
   go_wp2;exact⟨rfl,.inl ⟨(Aa HF).1,rfl,(Aa HF).2 _⟩⟩
 . have hlt:¬(d:Int)<(many:Int):=by omega
   have hto:=Zi8 a' many d k (by omega) (by omega);have hsum:((p:Int)+(many:Int))=((p+many:Nat):Int):=by omega
   have HQ:=Ab (show p+many<=n by omega);have HD:=Ab hd;have HS:=Ab hsum;have hmk:many<=k:=by omega
   have HT:∀q,ZT w b (.slice a n cap) (p+many) ((w.drewN q).setCell ⟨b,1,none⟩ (.int .i64 ((p:Int)+(many:Int)))):=fun q=>by
    have h1:ZT w b (.slice a n cap) p (w.drewN q):=(⟨Aa HI,Below.refl _ _,fun g _ _=>rfl⟩:ZT w b (.slice a n cap) p w).drewN q;rw[hsum];exact h1.trans (ZT.set h1.is)
   clear hd hk hq hsum;go_enter Tryz.func63,Tryz.ntmps63
   go_wp2;go_quiet (fail)
   go_wp2;go_ret;refine .inr ⟨Aa HQ,⟨a',k,rfl,hmk,fun W hW=>Zid hW hp (Aa HQ) (Aa HA1) (fun e=>by rw[<-Aa HK];exact Aa HA2 e)⟩,HT _⟩
theorem Zg1 (k:Nat):256^k=2^(8*k):=by rw[Nat.pow_mul]
theorem ZC.new {B b:Nat}{w:World}{xs:List Nat}{ov:Value}(h:ZC B w b xs ov):w.cell? ⟨b,0,none⟩=some ov/\w.frozen? ⟨b,0,none⟩=false:=⟨Ac h.cell,frozen_of_row w b 0 _ _ h.cell⟩
theorem Zic {W:World}{blk y:Nat}(h:W.cell? ⟨blk,0,none⟩=some (.int .u8 (y:Int))):PkIn W (some ⟨blk,0,none⟩) 1 [y]:=by
 refine⟨.inr ⟨blk,0,rfl, ?_, ?_⟩,fun e=>by cases e⟩
 . simp only[World.cell?]at h
   cases hb:W.heap[blk]? with
   |none=>rw[hb]at h;cases h
   |some o=>exact(Array.getElem?_eq_some_iff.1 hb).1
 . intro j hj;obtain rfl:j=0:=by simpa using hj
   simpa using h
theorem Zfo (n k:Nat)(hk:k<=10)(hn:n<4294967296)(W:World):(Op.shift .shr .u32 (n:Int) .i64 (IntKind.i64.wrap (8*(k:Int)))).run Tryz.prog W=.ok (.int .u32 ((n/256^k:Nat):Int)) W:=by
 have e:IntKind.i64.wrap (8*(k:Int))=((8*k:Nat):Int):=by
  simp[IntKind.wrap,IntKind.bits,IntKind.signed]
  omega
 rw[e,Zg1];have hd:n/2^(8*k)<=n:=Nat.div_le_self _ _
 have h2:(n:Int).fdiv (2^min (8*k) 32)=((n/2^(8*k):Nat):Int):=by
  rw[Int.fdiv_eq_ediv_of_nonneg _ (by exact_mod_cast Nat.zero_le _)]
  by_cases h8:8*k<=32
  . rw[Nat.min_eq_left h8];push_cast;rfl
  . rw[Nat.min_eq_right (by omega)];have h3:n/2^(8*k)=0:=Nat.div_eq_of_lt (Nat.lt_of_lt_of_le hn (show (4294967296:Nat)<=2^(8*k) from Nat.pow_le_pow_right (n:=2) (i:=32) (j:=8*k) (by decide) (by omega)));rw[h3];omega
 unfold Op.shift;rw[if_neg (by omega),Int.toNat_natCast];show Result.ok (Value.int .u32 ((n:Int).fdiv (2^min (8*k) 32))) W=_
 rw[h2]
theorem Av (B b size n:Nat)(xs:List Nat)(w:World)(h:∃ov,ZC B w b xs ov)(hs:size<=10)(hn:n<4294967296)(hx:xs.length<=900000):
 Calls Tryz.prog 50 #[.pointer (some ⟨b,0,none⟩),.int .i64 (size:Int),.int .u32 (n:Int)] w fun e w'=>e=.returned (.tuple #[])/\ZUp B w b (xs++Az n size) w':=by
 obtain⟨ov0,h0⟩:=h;have H:=Ab h0;clear h0;go_enter Tryz.func50,Tryz.ntmps50
 go_wp2;go_loopw [8] (fun i wr=>∃k:Nat,k<=size/\i=.int .i64 (k:Int)/\Hid (ZUp B w b (xs++Az n k) wr)) (fun i _=>size-(intOf i).toNat)
 case atStart=>exact⟨0,Nat.zero_le _,rfl,Ab (by simpa[Az]using ZUp.refl (Aa H))⟩
 case round=>
  obtain⟨k,hk,rfl,hU⟩:=hrel
  by_cases hlt:k<size
  . obtain⟨ov,hC⟩:=(Aa hU).is;have hsn:=Xn k n;have hlen:=Aj k n;obtain⟨c0,f0⟩:=hC.new;have hsh:=Zfo n k (by omega) hn;obtain⟨z,hz⟩:∃z,n/256^k=z:=⟨_,rfl⟩
    rw[hz]at hsn hsh;obtain⟨y,hy⟩:∃y,z%256=y:=⟨_,rfl⟩
    rw[hy]at hsn
    have hw8:IntKind.u8.wrap (z:Int)=(y:Int):=by
     simp[IntKind.wrap,IntKind.bits,IntKind.signed]
     omega
    have c0':∀o:Obj,(wr.alloc o).cell? ⟨b,0,none⟩=some ov:=fun o=>(World.cell?_alloc_lt wr o _ hC.lt).trans c0
    have HSN:=Ab hsn;have hyl:(xs++Az n k).length+1<=1000000:=by rw[List.length_append,hlen];omega
    have HYL:=Ab hyl;have HC:=Ab hC;clear hC hsn hlen hyl hy hz;go_wp2;go_region_law (refine Z7p rfl (.tmp 15) (.tmp 21) rfl wr B b _ [y] _ rfl (Aa HC) (by repeat (first|with_reducible exact Ao _ _|with_reducible refine Bi ?_|with_reducible refine ga ?_ _)) _ 1 1 rfl rfl (Zic (by repeat (first|with_reducible refine Zaw ?_|with_reducible exact Zg (by simp)|with_reducible exact Zav (by simp)))) (Aa HYL) ?_;intro a' l' c' w' c1 c2 c3)
    all_goals
     have HN:Hid (ZUp B w b (xs++Az n (k+1)) (w'.setCell ⟨b,0,none⟩ (.slice a' l' c'))):=Ab (by
      rw[Aa HSN,<-List.append_assoc];exact(Aa hU).trans (Aa c3))
     clear c1 c2 c3;go_wp2;go_roundw
     case rel=>exact⟨k+1,by omega,by go_num,HN⟩
     case measure=>simp[intOf];omega
  . obtain rfl:size=k:=by omega
    go_wp2;go_end0
    exact⟨rfl,Aa hU⟩
theorem Gb (B b size:Nat)(xs:List Nat)(w:World)(h:∃ov,ZC B w b xs ov)(hs:size<=10)(hx:xs.length<=900000):
 Calls Tryz.prog 53 #[.pointer (some ⟨b,0,none⟩),.int .i64 (size:Int)] w fun e w'=>e=.returned (.tuple #[])/\ZUp B w b (xs++Az 0 size) w':=by
 have H:=Ab (Av B b size 0 xs w h hs (by decide) hx);clear h;go_enter Tryz.func53,Tryz.ntmps53
 go_wp2_with fail
 refine(Aa H).mono ?_;rintro e w' ⟨rfl,hU⟩;have HU:=Ab hU;clear hU;go_wp2;go_end0
 exact⟨rfl,Aa HU⟩
end Go.Proofs.YtcjbgpacnkilnaiGreatDoor
