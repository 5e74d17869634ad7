import Derived.Test.YtieianhejdcgdaaGreatDoorQ41
import Derived.Laws.BytesArg
import Derived.Lib.Strings
set_option linter.unusedSimpArgs false
set_option maxHeartbeats 4000000
namespace Go.Proofs.YtieianhejdcgdaaGreatDoor
open Go.RowKit
set_option linter.unusedVariables false
set_option maxRecDepth 100000
theorem OY (s:List UInt8)(w:World)(hs:s.length<=maxLen):
 Calls Tryz.prog 82 #[.string (B s)] w fun e w'=>e=.returned (.int .i64 (Nw s:Nat))/\Below w.heap.size w w':=by
 have c:=KX s w hs;generalize B s=t at*;go_enter Tryz.func82,Tryz.ntmps82
 go_wp2_with (go_at_call 117;refine c.mono ?_;rintro e w' ⟨v,rfl,_,hb,_⟩;have HB:=Ab hb;clear hb)
 go_ret;exact⟨rfl,Aa HB⟩
theorem NT {f:Fl}(h:Nw f.name≠0):Jx f=Nw f.name:=by unfold Jx;rw[if_pos h]
theorem NU {f:Fl}(h:Nw f.name=0)(h2:3000<f.bytes.length):Jx f=2:=by unfold Jx;rw[if_neg (by simp[h]),if_pos h2]
theorem FM {f:Fl}(h:Nw f.name=0)(h2:¬3000<f.bytes.length)(h3:f.stamp<0\/1000000<f.stamp\/f.node<0\/3<f.node):Jx f=3:=by
 unfold Jx;rw[if_neg (by simp[h]),if_neg h2,if_pos h3]
theorem NS {f:Fl}(h:Nw f.name=0)(h2:¬3000<f.bytes.length)(h3:¬(f.stamp<0\/1000000<f.stamp\/f.node<0\/3<f.node)):Jx f=if f.gone=true/\0<f.bytes.length then 4 else 0:=by
 unfold Jx;rw[if_neg (by simp[h]),if_neg h2,if_neg h3]
theorem Xw (x:Fv)(w:World)(h:FvIn w x):
 Calls Tryz.prog 60 #[x.val] w fun e w'=>e=.returned (.int .i64 (Jx x.f:Nat))/\Below w.heap.size w w':=by
 have hc:=fun W=>OY x.f.name W (by have:=h.txt;unfold maxLen;omega)
 have e0:= @NT x.f;have e1:= @NU x.f;have e2:= @FM x.f;have e3:= @NS x.f;rw[Dz];clear h;obtain⟨⟨nm,bs,st,nd,gn⟩,a,c⟩:=x;simp only at*
 have hbox:∀W W':World,Below W.heap.size W W'->Below W.heap.size W W':=fun _ _ h=>h
 generalize B nm=t at*;generalize bs.length=n at*;have HC:=Ab hc
 by_cases h0:Nw nm=0
 . replace e1:=e1 h0;replace e2:=e2 h0;replace e3:=e3 h0;rw[h0]at HC;clear e0 h0 hc
   have leaf:∀(E:Nat),Hid (Jx ⟨nm,bs,st,nd,gn⟩=E)->Hid ((E=2/\3000<n)\/ (E=3/\n<=3000/\(st<0\/ (0<=st/\1000000<st)\/ (0<=st/\st<=1000000/\nd<0)\/ (0<=st/\st<=1000000/\0<=nd/\4<=nd)))\/ (E=4/\n<=3000/\0<=st/\st<=1000000/\0<=nd/\nd<4/\gn=true/\0<n)\/ (E=0/\n<=3000/\0<=st/\st<=1000000/\0<=nd/\nd<4/\gn=true/\n=0)\/ (E=0/\n<=3000/\0<=st/\st<=1000000/\0<=nd/\nd<4/\gn=false))->
    Calls Tryz.prog 60 #[.agg #[.string t,.slice a n c,.int .i64 st,.int .i64 nd,.bool gn]] w fun e w'=>e=.returned (.int .i64 ((Jx ⟨nm,bs,st,nd,gn⟩:Nat):Int))/\Below w.heap.size w w':=by
    intro E hE hcs;rw[Aa hE];clear e1 e2 e3 hE
    rcases Aa hcs with ⟨rfl,h1⟩|⟨rfl,h1,h2|⟨h2,h3⟩|⟨h2,h3,h4⟩|⟨h2,h3,h4,h5⟩⟩|⟨rfl,h1,h2,h3,h4,h5,rfl,h6⟩|⟨rfl,h1,h2,h3,h4,h5,rfl,rfl⟩|⟨rfl,h1,h2,h3,h4,h5,rfl⟩
    all_goals (
     clear hcs;go_enter Tryz.func60,Tryz.ntmps60
     go_wp2_with fail
     refine(Aa HC _).mono ?_;rintro e w' ⟨rfl,hb⟩;have c1:=(hb.cell (p:=⟨w.heap.size,1,none⟩) (by simp)).trans (by simp;rfl);have c2:=(hb.cell (p:=⟨w.heap.size,2,none⟩) (by simp)).trans (by simp;rfl);have c3:=(hb.cell (p:=⟨w.heap.size,3,none⟩) (by simp)).trans (by simp;rfl);have c4:=(hb.cell (p:=⟨w.heap.size,4,none⟩) (by simp)).trans (by simp;rfl);have HB:=Ab (((Below.refl w.heap.size w).alloc (VC _) _).trans (hb.mono (by simp)));clear hb;go_wp2;go_ret;exact⟨rfl,Aa HB⟩)
   have HN:=Ab (rfl:bs.length=bs.length)
   by_cases h1:3000<n
   . exact leaf 2 (e1 h1) (.inl ⟨rfl,h1⟩)
   . by_cases h3:st<0\/1000000<st\/nd<0\/3<nd
     . refine leaf 3 (e2 h1 h3) (.inr (.inl ⟨rfl,by omega,by omega⟩))
     . have e4:=e3 h1 h3
       cases gn with
       |true=>
        by_cases hn:0<n
        . exact leaf 4 (by rw[e4,if_pos ⟨rfl,hn⟩];rfl) (.inr (.inr (.inl ⟨rfl,by omega,by omega,by omega,by omega,by omega,rfl,hn⟩)))
        . exact leaf 0 (by rw[e4,if_neg (fun k=>hn k.2)];rfl) (.inr (.inr (.inr (.inl ⟨rfl,by omega,by omega,by omega,by omega,by omega,rfl,by omega⟩))))
       |false=>exact leaf 0 (by rw[e4,if_neg (fun k=>by cases k.1)];rfl) (.inr (.inr (.inr (.inr ⟨rfl,by omega,by omega,by omega,by omega,by omega,rfl⟩))))
 . rw[e0 h0];clear e0 e1 e2 e3 hc;obtain⟨k,hk⟩:∃k,Nw nm=k:=⟨_,rfl⟩
   rw[hk]at HC h0 ⊢;go_enter Tryz.func60,Tryz.ntmps60
   go_wp2_with fail
   refine(Aa HC _).mono ?_;rintro e w' ⟨rfl,hb⟩;have HB:=Ab (((Below.refl w.heap.size w).alloc (VC _) _).trans (hb.mono (by simp)));clear hb;go_wp2;go_ret;exact⟨rfl,Aa HB⟩
def ahd (xs:List Fv):Nat->Option Fl
 |0=>none
 |k+1=>(fls xs)[k]?
theorem NV {xs:List Fv}{k:Nat}{x:Fv}(h:xs[k]? =some x):
 U7 (ahd xs k) ((fls xs).drop k)=if Jx x.f≠0 then Jx x.f else if behind (ahd xs k) x.f=false then 4 else U7 (ahd xs (k+1)) ((fls xs).drop (k+1)):=by
 have hf:(fls xs)[k]? =some x.f:=by simp[fls,h]
 have hlt:k<(fls xs).length:=by
  rcases YO k (fls xs).length with h'|h'
  . exact h'
  . rw[WA h']at hf;cases hf
 have e:(fls xs).drop k=x.f::(fls xs).drop (k+1):=by
  rw[XD hlt]
  congr 1
  rw[VR hlt]at hf;exact VN hf
 rw[e,U7];show _=if Jx x.f≠0 then Jx x.f else if behind (ahd xs k) x.f=false then 4 else U7 ((fls xs)[k]?) _
 rw[hf]
theorem Z4s (x y:List UInt8):Op.bytesLess (B x).toList (B y).toList=decide (Fd x y<0):=by rw[Dk,Dk,Wy]
theorem Z4t (x y:List UInt8):((B x).toList==(B y).toList)=decide (Fd x y=0):=by
 rw[Dk,Dk,YK,beq_iff_eq,decide_eq_true_iff,K7]
theorem GI (ad:Option Addr)(n c:Nat)(w:World)(h:12<n):Calls Tryz.prog 41 #[.slice ad n c] w fun e w'=>e=.returned (.int .i64 2)/\w'=w:=by
 go_enter Tryz.func41,Tryz.ntmps41
 go_wp2;go_ret;exact⟨rfl,rfl⟩
theorem Hv (ad:Option Addr)(c:Nat)(xs:List Fv)(w:World)(h:FsIn w ad c xs)(n:Nat)(hn:xs.length=n):
 Calls Tryz.prog 41 #[.slice ad n c] w fun e w'=>e=.returned (.int .i64 (Eh (fls xs):Nat))/\Below w.heap.size w w':=by
 have hl:(fls xs).length=n:=by simp[fls,hn]
 by_cases hm:12<n
 . have e:Eh (fls xs)=2:=by unfold Eh;rw[if_pos (by omega)]
   rw[e];refine(GI ad n c w hm).mono ?_;rintro e w' ⟨rfl,rfl⟩;exact⟨rfl,Below.refl _ _⟩
 . have e:Eh (fls xs)=U7 none (fls xs):=by unfold Eh;rw[if_neg (by omega)]
   obtain⟨E,hE⟩:∃E,U7 none (fls xs)=E:=⟨_,rfl⟩
   rw[e,hE];have HI:=Ab h;have HN:=Ab hn;have HE:=Ab hE;have HL:=Ab hl;clear h e hE hn hl;go_enter Tryz.func41,Tryz.ntmps41
   go_wp2;go_loopw [3,4,5,11] (fun _ _ _ i wr=>∃k:Nat,k<=n/\i=.int .i64 (k:Int)/\Hid (U7 (ahd xs k) ((fls xs).drop k)=E)/\Hid (Below w.heap.size w wr)) (fun _ _ _ i _=>n-(intOf i).toNat)
   case atStart=>exact⟨0,VM _,rfl,Aa HE,Below.refl _ _⟩
   case round=>
    obtain⟨k,hk,rfl,HR,HB⟩:=hrel
    by_cases hlt:k<n
    . obtain⟨x,hx,hxm⟩:=Rj (xs:=xs) (k:=k) (by rw[Aa HN];exact hlt);obtain⟨b,o,rfl,hb,c0,c1,c2,c3,c4⟩:=(Aa HI).get (Aa HB) hx;have hst:=NV hx;rw[Aa HR]at hst;have hz:=(Aa HB).size;have HCK:=Ab (fun W (hW:Below w.heap.size w W)=>Xw x W (((Aa HI).all x hxm).below hW (VC _)));have HS:=Ab hst;rw[Dz]at HCK;unfold Fv.sl at c1;obtain⟨er,her⟩:∃er,Jx x.f=er:=⟨_,rfl⟩
      rw[her]at HCK HS;clear hst her hxm;have HX:=Ab hx;clear hx;obtain⟨xf,xa,xc⟩:=x;simp only at*
      have hname:∃nm,xf.name=nm:=⟨_,rfl⟩
      obtain⟨nm,hnm⟩:=hname;rw[hnm]at c0 HCK;obtain⟨t,ht⟩:∃t,B nm=t:=⟨_,rfl⟩
      rw[ht]at c0 HCK;have HT:=Ab ht;have HNM:=Ab hnm;clear ht hnm;generalize xf.bytes.length=nb at*;generalize xf.stamp=st at*;generalize xf.node=nd at*;generalize xf.gone=gn at*;have hbl:∀o',Below w.heap.size w (wr.alloc o'):=fun o'=>(Aa HB).alloc hz o'
      have HBL:=Ab hbl;clear hbl
      by_cases he:er=0
      . subst he
        cases k with
        |zero=>
         simp only[ZI,YN]at c0 c1 c2 c3 c4;have hst:=Aa HS;rw[if_neg (by simp),if_neg (by simp[ahd,behind])]at hst;have HN2:=Ab hst;clear hst;go_wp2_with fail
         refine(Aa HCK _ (Aa HBL _)).mono ?_;rintro e w1 ⟨rfl,hb1⟩;have HB1:=Ab ((Aa HBL _).trans (hb1.mono (by simp;omega)));clear hb1;go_wp2;go_quiet (fail)
         go_wp2;go_roundw
         case rel=>exact⟨1,by omega,by go_num,(Aa HN2).symm,Af (Aa HB1) _⟩
         case measure=>simp[intOf];omega
        |succ j=>
         obtain⟨y,hy,hym⟩:=Rj (xs:=xs) (k:=j) (by rw[Aa HN];omega);obtain⟨b',o',hab,hb',d0,_⟩:=(Aa HI).get (Aa HB) hy
         cases hab
         have hst:=Aa HS;rw[if_neg (by simp)]at hst;have ha:ahd xs (j+1)=some y.f:=by show (fls xs)[j]? =_;simp[fls,hy]
         rw[ha]at hst;have hle:=Z4s nm y.f.name;have heq:=Z4t nm y.f.name;have hbh:behind (some y.f) xf=decide (Fd y.f.name nm<0):=by show decide (Fd y.f.name xf.name<0)=_;rw[Aa HNM]
         rw[hbh]at hst;have hanti:=Mg nm y.f.name;rw[Aa HT]at hle heq;generalize B y.f.name=t' at*;generalize y.f.name=ny at*;clear hbh ha hy hym;have hji:((j+1:Nat):Int)-1=(j:Int):=by omega
         have hjn:(j:Int)<(n:Int):=by omega
         by_cases h1:Fd nm ny=1
         . rw[h1]at hle heq hanti;rw[if_neg (by rw[hanti];decide)]at hst;have HN2:=Ab hst;simp only[Int.reduceLT,Int.reduceEq,decide_false]at hle heq;clear hst hanti h1;go_wp2_with fail
           refine(Aa HCK _ (Aa HBL _)).mono ?_;rintro e w1 ⟨rfl,hb1⟩;have HB1:=Ab ((Aa HBL _).trans (hb1.mono (by simp;omega)));have q0:w1.cell? ⟨wr.heap.size,0,none⟩=some (.string t):=(hb1.cell (p:=⟨wr.heap.size,0,none⟩) (by simp)).trans (by simp);have r0:w1.cell? ⟨b,o+j*5,none⟩=some (.string t'):=(hb1.cell (p:=⟨b,o+j*5,none⟩) (by simp;omega)).trans ((World.cell?_alloc_past _ _ _ (by show b<wr.heap.size;omega)).trans d0);clear hb1;go_wp2;go_quiet (fail)
           go_wp2;go_roundw
           case rel=>exact⟨j+2,by omega,by go_num,(Aa HN2).symm,Af (Aa HB1) _⟩
           case measure=>simp[intOf];omega
         . have h2:(Fd nm ny= -1\/Fd nm ny=0):=by rcases Ep nm ny with h|h|h<;>omega
           rw[if_pos (by rw[hanti];apply decide_eq_false;omega)]at hst;have HN2:=Ab hst;clear hst hanti h1
           rcases h2 with h2|h2
           all_goals (
            rw[h2]at hle heq;simp only[Int.reduceLT,Int.reduceEq,Int.reduceNeg,decide_true,decide_false]at hle heq;clear h2;go_wp2_with fail
            refine(Aa HCK _ (Aa HBL _)).mono ?_;rintro e w1 ⟨rfl,hb1⟩;have HB1:=Ab ((Aa HBL _).trans (hb1.mono (by simp;omega)));have q0:w1.cell? ⟨wr.heap.size,0,none⟩=some (.string t):=(hb1.cell (p:=⟨wr.heap.size,0,none⟩) (by simp)).trans (by simp);have r0:w1.cell? ⟨b,o+j*5,none⟩=some (.string t'):=(hb1.cell (p:=⟨b,o+j*5,none⟩) (by simp;omega)).trans ((World.cell?_alloc_past _ _ _ (by show b<wr.heap.size;omega)).trans d0);clear hb1;go_wp2;go_quiet (fail)
            go_wp2;go_ret;exact⟨Fb (by rw[Aa HN2];rfl),Af (Aa HB1) _⟩)
      . have hst:=Aa HS;rw[if_pos (by simpa using he)]at hst;have HN2:=Ab hst;clear hst;go_wp2_with fail
        refine(Aa HCK _ (Aa HBL _)).mono ?_;rintro e w1 ⟨rfl,hb1⟩;have HB1:=Ab ((Aa HBL _).trans (hb1.mono (by simp;omega)));clear hb1;go_wp2;go_ret;exact⟨Fb (by rw[Aa HN2]),Aa HB1⟩
    . obtain rfl:n=k:=by omega
      go_wp2;go_ret;have:=Aa HR
      rw[XL (by rw[Aa HL];exact VC _)]at this;exact⟨Fb (by rw[<-this];rfl),Aa HB⟩
theorem FsIn.new (w:World)(xs:List Fv)(t:TypeId)(A:Array Value)(n:Nat)(hA:A=(fcells xs).toArray)(hn:xs.length=n)(h:∀x∈xs,FvIn w x)(hl:xs.length<=2199023255552):FsIn (w.alloc (.cells A t)) (some ⟨w.heap.size,0,none⟩) n xs:=by
 subst hn;refine⟨.inr ⟨w.heap.size,0,rfl,by simp, ?_⟩,VC _,by omega,hl,fun x hx=>(h x hx).alloc _⟩;intro j x hj
 have hc:∀i u,i<5->x.cells[i]? =some u->(w.alloc (.cells A t)).cell? ⟨w.heap.size,0+j*5+i,none⟩=some u:=by
  intro i u hi hu;rw[World.cell?_alloc_at _ _ _ _ rfl,hA];have e:=Lz xs j x i hj hi;rw[WI];simpa using e.trans hu
 exact⟨hc 0 _ (by decide) rfl,hc 1 _ (by decide) rfl,hc 2 _ (by decide) rfl,hc 3 _ (by decide) rfl,hc 4 _ (by decide) rfl⟩
theorem FvIn.bare (w:World)(f:Fl)(hb:f.bytes= [])(hn:f.name.length<=140737488355328):FvIn w ⟨f,none,0⟩:=⟨.inl ⟨rfl,hb,rfl⟩,by rw[hb];simp,hn⟩
def LIn (w:World)(v:Value)(l:List Fl):Prop:=∃ad c out,v=.slice ad l.length c/\FsIn w ad c out/\fls out=l
theorem Ans.lin {w w':World}{v:Value}{l:List Fl}(h:Ans w w' v l):LIn w' v l:=h.ex
theorem LIn.below {w w':World}{v:Value}{l:List Fl}(h:LIn w v l)(hB:Below w.heap.size w w'):LIn w' v l:=by
 obtain⟨ad,c,out,h1,h2,h3⟩:=h;exact⟨ad,c,out,h1,h2.below hB (VC _),h3⟩
theorem LIn.shape {w:World}{v:Value}{l:List Fl}(h:LIn w v l):∃ad c,v=.slice ad l.length c:=by
 obtain⟨ad,c,out,h1,_⟩:=h;exact⟨ad,c,h1⟩
theorem Rm {out:List Fv}{l:List Fl}(h:fls out=l):out.length=l.length:=by rw[<-h];simp[fls]
theorem Z0z {w:World}{ad:Option Addr}{c n:Nat}{xs:List Fv}(h:FsIn w ad c xs)(hn:xs.length=n):LIn w (.slice ad n c) (fls xs):=⟨ad,c,xs,by rw[<-hn];simp[fls],h,rfl⟩
theorem W7 (v1 v2:Value)(s1 s2:ByteArray)(w:World)(h1:(convert 23 9 v1).run Tryz.prog w=.ok (.string s1) w)(h2:(convert 23 9 v2).run Tryz.prog w=.ok (.string s2) w):
 Calls Tryz.prog 15 #[v1,v2] w fun e w'=>e=.returned (.bool (s1.toList==s2.toList))/\w'=w:=by
 go_enter Tryz.func15,Tryz.ntmps15
 go_wp2;go_ret;exact⟨rfl,rfl⟩
def Z4i (xs:List Nat):ByteArray:=⟨(xs.map UInt8.ofNat).toArray⟩
theorem Qf (xs:List Nat):(Z4i xs).toList=xs.map UInt8.ofNat:=by
 rw[Lib.toList_data];rfl
theorem OP (a:Option Addr)(len cap:Nat)(xs:List Nat)(w:World)(hl:xs.length=len)(hB:BytesIn w a xs):
 (convert 23 9 (.slice a len cap)).run Tryz.prog w=.ok (.string (Z4i xs)) w:=by
 rcases hB with rfl|⟨b,o,rfl,_,hB⟩
 . obtain rfl:len=0:=by simp at hl;omega
   rw[run_convert_bytes_string w 23 9 5 _ 0 cap Tryz.underlying23 Tryz.underlying5 Tryz.underlying9]
   cases a<;>simp[Conv.bytesToString,loadCells,Z4i]
   all_goals rfl
 . have h:=run_convert_bytes_arg (P:=Tryz.prog) w 23 5 Tryz.underlying23 Tryz.underlying5 b o len cap (xs.map fun x:Nat=>(x:Int)) (by simpa using hl) (by
    intro i hi;rw[hB i (by omega)];have:i<xs.length:=by omega
    simp[List.getD,this]) 9 Tryz.underlying9
   rw[h];simp[strOfNums,Z4i,YR]
theorem LG {xs ys:List Nat}(hx:∀j,xs.getD j 0<256)(hy:∀j,ys.getD j 0<256)(h:xs.map UInt8.ofNat=ys.map UInt8.ofNat):xs=ys:=by
 have hl:xs.length=ys.length:=by have:=congrArg List.length h;simpa using this
 apply XF hl
 intro j h1 h2;have e:=congrArg (fun l:List UInt8=>l[j]?) h;simp[h1,h2]at e
 have a1:=hx j;have a2:=hy j;simp[List.getD,h1]at a1
 simp[List.getD,h2]at a2
 have e2:=congrArg UInt8.toNat e;simp only[UInt8.toNat_ofNat']at e2;omega
theorem M2 (a1 a2:Option Addr)(l1 c1 l2 c2:Nat)(xs ys:List Nat)(w:World)(h1:xs.length=l1)(h2:ys.length=l2)(hx:∀j,xs.getD j 0<256)(hy:∀j,ys.getD j 0<256)(hB1:BytesIn w a1 xs)(hB2:BytesIn w a2 ys):
 Calls Tryz.prog 15 #[.slice a1 l1 c1,.slice a2 l2 c2] w fun e w'=>e=.returned (.bool (xs==ys))/\w'=w:=by
 refine(W7 _ _ (Z4i xs) (Z4i ys) w (OP a1 l1 c1 xs w h1 hB1) (OP a2 l2 c2 ys w h2 hB2)).mono ?_;rintro e w' ⟨rfl,rfl⟩;refine⟨Hk ?_,rfl⟩;rw[Qf,Qf,YK,beq_iff_eq,beq_iff_eq];exact⟨LG hx hy,fun h=>by rw[h]⟩
theorem BV:∀ {l:List Fl} {p:Option Fl},U7 p l=0->∀f∈l,Jx f=0
 | [],p,h,f,hf=>by cases hf
 |g::r,p,h,f,hf=>by
  unfold U7 at h
  by_cases e:Jx g=0
  . rw[if_neg (by rw[e];decide)]at h
    split at h
    . cases h
    . rcases VW.1 hf with rfl|hf
      . exact e
      . exact BV h f hf
  . rw[if_pos e]at h;exact absurd h e
theorem Hu {l:List Fl}(h:Eh l=0):l.length<=12/\∀f∈l,Jx f=0:=by
 unfold Eh at h
 split at h
 . cases h
 . exact⟨by omega,BV h⟩
theorem Mc {f:Fl}(h:Jx f=0):f.name.length<=40/\f.bytes.length<=3000/\0<=f.stamp/\f.stamp<=1000000/\0<=f.node/\f.node<=3:=by
 unfold Jx at h
 split at h
 . rename_i h1;exact absurd h h1
 . rename_i h1
   have h1':Nw f.name=0:=by
    by_cases e:Nw f.name=0
    . exact e
    . exact absurd e h1
   split at h
   . cases h
   . split at h
     . cases h
     . have:=(Z3o h1').1
       omega
structure ENd (n:Nat)(x:En):Prop where
 mt:x.meth<65536
 cr:x.crc<4294967296
 pl:x.pk.length<=n
 st:0<=x.f.stamp/\x.f.stamp<4294967296
 nd:0<=x.f.node/\x.f.node<65536
 nm:x.f.name.length<=n/\x.f.name.length<65536
 un:∃ys,unpF x.meth x.pk=some ys/\x.f.bytes=o8 ys
theorem ENd.mono {n m:Nat}{x:En}(h:ENd n x)(hm:n<=m):ENd m x:=⟨h.mt,h.cr,VX h.pl hm,h.st,h.nd,⟨VX h.nm.1 hm,h.nm.2⟩,h.un⟩
theorem C7 {l:List Nat}{k:Nat}(hl:l.length=k)(hv:∀x∈l,x<256):Ai l<256^k:=by rw[<-hl];exact Lh l hv
theorem Z03 {r q:List Nat}{x:En}(hv:∀y∈r,y<256)(h:Fo r=some (x,q)):ENd r.length x:=by
 unfold Fo at h;obtain⟨a1,r1,rfl,l1,h⟩:=Al h;dsimp only at h;obtain⟨a2,r2,rfl,l2,h⟩:=Al h;dsimp only at h;obtain⟨a3,r3,rfl,l3,h⟩:=Al h;dsimp only at h;obtain⟨a4,r4,rfl,l4,h⟩:=Al h;dsimp only at h;obtain⟨a5,r5,rfl,l5,h⟩:=Al h;dsimp only at h;obtain⟨a6,r6,rfl,l6,h⟩:=Al h;dsimp only at h;obtain⟨a7,r7,rfl,l7,h⟩:=Al h;dsimp only at h;obtain⟨a8,r8,rfl,l8,h⟩:=Al h;dsimp only at h;obtain⟨a9,r9,rfl,l9,h⟩:=Al h;dsimp only at h;obtain⟨a10,r10,rfl,l10,h⟩:=Al h;dsimp only at h;obtain⟨a11,r11,rfl,l11,h⟩:=Al h;dsimp only at h;obtain⟨a12,r12,rfl,l12,h⟩:=Al h;dsimp only at h;obtain⟨a13,r13,rfl,l13,h⟩:=Al h;dsimp only at h;obtain⟨a14,r14,rfl,l14,h⟩:=Al h;dsimp only at h
 cases hu:unpF (Ai a2) a14 with
 |none=>rw[hu]at h;cases h
 |some b=>
  rw[hu]at h;simp only[VF,Option.some.injEq,YW]at h;obtain⟨rfl,rfl⟩:=h;have v2:=C7 l2 (fun z hz=>hv z (by simp[hz]));have v4:=C7 l4 (fun z hz=>hv z (by simp[hz]));have v7:=C7 l7 (fun z hz=>hv z (by simp[hz]));have v11:=C7 l11 (fun z hz=>hv z (by simp[hz]));have v12:=C7 l12 (fun z hz=>hv z (by simp[hz]));simp only[Nat.reducePow]at v2 v4 v7 v11 v12;refine⟨v2,v4,by simp only[VB];omega,⟨by dsimp only;omega,by dsimp only;omega⟩,⟨by dsimp only;omega,by dsimp only;omega⟩,⟨by dsimp only;rw[Li];simp only[VB];omega,by dsimp only;rw[Li];omega⟩,b,hu,rfl⟩
theorem J1:∀ {F:Nat} {r:List Nat} {l:List En},(∀y∈r,y<256)->Cf F r=some l->l.length*41<=r.length/\∀x∈l,ENd r.length x
 |0,r,l,_,h=>by cases h
 |F+1,r,l,hv,h=>by
  unfold Cf at h;obtain⟨m,q,rfl,hl,h⟩:=Al h;dsimp only at h
  split at h
  . cases he:Fo q with
    |none=>rw[he]at h;cases h
    |some p=>
     rw[he]at h;simp only[VF,ZA]at h;obtain⟨l2,h1,rfl⟩:=h;have hm:=Rx (x:=p.1) (q:=p.2) he;have hvq:∀y∈q,y<256:=fun y hy=>hv y (by simp[hy])
     have ih:=J1 (hm.2.1 hvq).2 h1;have h3:=hm.1;refine⟨by rw[VH,VB];omega,fun x hx=> ?_⟩
     rcases VW.1 hx with rfl|hx
     . exact(Z03 hvq he).mono (by rw[VB];omega)
     . exact(ih.2 x hx).mono (by rw[VB];omega)
  . cases h
    exact⟨VM _,fun x hx=>by cases hx⟩
def RdA (w:World)(bs:List Nat)(e:Ending)(w':World):Prop:=∃v,e=.returned (.tuple #[v,.int .i64 (Ew bs:Nat)])/\LIn w' v (Dn bs)/\Below w.heap.size w w'
theorem LIn.nil (w:World):LIn w (.slice none 0 0) []:=⟨none,0,[],rfl,FsIn.nil w,rfl⟩
theorem RdA.bad {w w':World}{bs:List Nat}{k:Nat}(h:Ew bs=k)(hk:k≠0)(hB:Below w.heap.size w w'):RdA w bs (.returned (.tuple #[.slice none 0 0,.int .i64 (k:Int)])) w':=by
 have hl:Dn bs= []:=by unfold Dn;rw[if_pos (by rw[h];exact hk)]
 exact⟨.slice none 0 0,by rw[h],by rw[hl];exact LIn.nil _,hB⟩
theorem Z17 (es:List Ev):fls (es.map Ev.fv)=(es.map Ev.e).map En.f:=by simp[fls,Ev.fv,YR]
theorem GX (n cap:Nat)(a:Option Addr)(bs:List Nat)(w:World)(hl:bs.length=n)(hc:n<=cap)(hP:PkIn w a cap bs)(hv:∀x∈bs,x<256)(hm:n<=9223372036854775807):
 Calls Tryz.prog 16 #[.slice a n cap] w fun e w'=>RdA w bs e w':=by
 by_cases hn:12000<n
 . have HF:=Ab (RdA.bad (w:=w) (w':=w) (bs:=bs) (k:=2) (by unfold Ew;rw[if_pos (by omega)]) (by decide) (Below.refl _ _));have hnI:(12000:Int)<(n:Int):=by omega
   clear hP hv hl;go_enter Tryz.func16,Tryz.ntmps16
   go_wp2;go_ret2;exact Aa HF
 . have hre:Ew bs=match Cf (n+1) bs with
    |none=>7
    |some l=>if Eh (l.map En.f)≠0\/Cb l≠bs then 7 else if Ms l=false then 10 else 0:=by
    conv=>lhs;unfold Ew
    rw[if_neg (by omega),hl]
    cases Cf (n+1) bs<;>rfl
   have hrl:Dn bs=if Ew bs≠0 then []else ((Cf (n+1) bs).getD []).map En.f:=by unfold Dn;rw[hl]
   have hnI:¬(12000:Int)<(n:Int):=by omega
   have HC:=Ab (Xn n cap a bs w hl (by omega) hc hP hv);have HP:=Ab hP;have HV:=Ab hv;have HRE:=Ab hre;have HRL:=Ab hrl;have HL:=Ab hl;clear hP hv hre hrl hl;go_enter Tryz.func16,Tryz.ntmps16
   go_wp2_with fail
   refine(Aa HC).mono ?_;rintro e w1 ⟨hB1,(⟨he,rfl⟩|⟨v,es,he,rfl,hrow,_⟩)⟩
   . have HF:=Ab (RdA.bad (w:=w) (w':=w1) (bs:=bs) (k:=7) (by rw[Aa HRE,he]) (by decide) hB1);clear hB1 he;go_wp2;go_ret2;exact Aa HF
   . obtain⟨ad,c,rfl,hes⟩:=hrow.entries;obtain⟨hel,hnum⟩:=J1 (Aa HV) he;have hpv:=J0 he (Aa HV);have hre:=Aa HRE;rw[he]at hre;dsimp only at hre;have hrl:=Aa HRL;rw[he]at hrl;obtain⟨l,hll⟩:∃l,es.map Ev.e=l:=⟨_,rfl⟩
     obtain⟨k,hk⟩:∃k,es.length=k:=⟨_,rfl⟩
     have hlk:l.length=k:=by rw[<-hll];simpa using hk
     rw[hll]at hnum hre hrl he hel hpv;have HPV:=Ab hpv;rw[hk];have hk20:k<=20000:=by have:=Aa HL;omega
     have HCF:=Ab (U6 ad c k es w1 hes hk hk20);have HES:=Ab hes;have HLL:=Ab hll;have HK:=Ab hk;have HNUM:=Ab hnum;have HRE2:=Ab hre;have HRL2:=Ab hrl;have HB1:=Ab hB1;clear hB1 hrow hes hel hnum hre hrl he hll hk hlk hpv HC HRE HRL;go_wp2_with fail
     refine(Aa HCF).mono ?_;rintro e w2 ⟨v2,rfl,hG,hB2⟩;obtain⟨ad2,c2,rfl,hfs⟩:=hG.files (by rw[Aa HK];omega);rw[Aa HK];have HCC:=Ab (Hv ad2 c2 (es.map Ev.fv) w2 hfs k (by simpa using Aa HK));obtain⟨E,hE⟩:∃E,Eh (fls (es.map Ev.fv))=E:=⟨_,rfl⟩
     rw[hE]at HCC;rw[Z17,Aa HLL]at hE;have HEE:=Ab hE;have HFS:=Ab hfs;have hz1:=(Aa HB1).size;have HB2:=Ab ((Aa HB1).trans (hB2.mono hz1));have HB12:=Ab hB2;clear hG hfs hB2 hE HCF;go_wp2_with fail
     refine(Aa HCC).mono ?_;rintro e w3 ⟨rfl,hB3⟩;have hz2:=(Aa HB2).size;have HB3:=Ab ((Aa HB2).trans (hB3.mono hz2));have HB13:=Ab ((Aa HB12).trans (hB3.mono (Aa HB12).size));have HB23:=Ab hB3;clear hB3 HCC
     by_cases hE0:E=0
     . subst hE0;have hok:=Hu (Aa HEE)
       have hENum:∀x∈es,ENum x.e:=fun x hx=>by
        have hxl:x.e∈l:=by rw[<-Aa HLL];exact WX hx
        have h1:=Aa HNUM x.e hxl;have h2:=Mc (hok.2 x.e.f (WX hxl));have h3:=Aa HL;have h4:=h1.pl;exact⟨⟨by omega,by omega⟩,⟨by omega,by omega⟩,by omega,by omega,by omega,h1.cr,h1.mt⟩
       have hk12:k<=12:=by
        have:=hok.1
        rw[<-Aa HLL]at this;simpa[Aa HK]using this
       have HCA:=Ab (Si ad c k es w3 ((Aa HES).below (Aa HB13)) (Aa HK) hk12 hENum);rw[Aa HLL]at HCA;have HBY:Hid (∀x∈es,x.e.f.bytes.length<=12000):=Ab (fun x hx=>by have:=(hENum x hx).bl;omega);have HVL:Hid (∀y∈Cb l,y<256):=Ab (Yc l (Aa HPV));clear hok hENum;go_wp2_with fail
       refine(Aa HCA).mono ?_;rintro e w4 ⟨v4,rfl,ho,hB4⟩;obtain⟨a4,c4,rfl,q1,q2,q3,q4⟩:=B3 ho;have HPK:=Ab (((Aa HP).below (Aa HB3)).below hB4);have hz3:=(Aa HB3).size;have HB4:=Ab ((Aa HB3).trans (hB4.mono hz3));have HB14:=Ab ((Aa HB13).trans (hB4.mono (Aa HB13).size));have HB24:=Ab ((Aa HB23).trans (hB4.mono (Aa HB23).size));have HEQ:=Ab (M2 a4 a _ c4 n cap (Cb l) bs w4 rfl (Aa HL) (Dj (Aa HVL)) (Dj (Aa HV)) q1.1 (Aa HPK).1);obtain⟨AL,hAL⟩:∃AL,(Cb l).length=AL:=⟨_,rfl⟩
       obtain⟨bq,hbq⟩:∃bq,(Cb l==bs)=bq:=⟨_,rfl⟩
       rw[hAL,hbq]at HEQ;rw[hAL];have HBQ:=Ab hbq;clear ho hB4 q1 q2 q3 q4 hAL hbq HCA HPK;go_wp2_with fail
       refine(Aa HEQ).mono ?_;rintro e w5 ⟨rfl,rfl⟩
       cases bq with
       |false=>
        have hne:Cb l≠bs:=by
         have:=Aa HBQ
         rw[beq_eq_false_iff_ne]at this;exact this
        have HF:=Ab (RdA.bad (w:=w) (w':=w5) (bs:=bs) (k:=7) (by rw[Aa HRE2,if_pos (.inr hne)]) (by decide) (Aa HB4));clear hne HEQ;go_wp2;go_ret2;exact Aa HF
       |true=>
        have heq:Cb l=bs:=eq_of_beq (Aa HBQ);have hre2:=Aa HRE2;rw[if_neg (by rintro (h|h);exact h (Aa HEE);exact h heq)]at hre2;have HRE3:=Ab hre2;obtain⟨S,hS⟩:∃S,Ms l=S:=⟨_,rfl⟩
        have HCS:=Ab (Zl ad c k es w5 ((Aa HES).below (Aa HB14)) (Aa HK) hk20 (Aa HBY) S (by rw[Aa HLL];exact hS));have HSS:=Ab hS;clear heq hre2 hS HEQ;go_wp2_with fail
        refine(Aa HCS).mono ?_;rintro e w6 ⟨rfl,hB6⟩;have hz5:=(Aa HB4).size;have HB6:=Ab ((Aa HB4).trans (hB6.mono hz5))
        cases S with
        |false=>
         have HF:=Ab (RdA.bad (w:=w) (w':=w6) (bs:=bs) (k:=10) (by rw[Aa HRE3,if_pos (Aa HSS)]) (by decide) (Aa HB6));clear hB6 HCS;go_wp2;go_ret2;exact Aa HF
        |true=>
         have h0:Ew bs=0:=by rw[Aa HRE3,if_neg (by rw[Aa HSS];decide)]
         have hl0:Dn bs=l.map En.f:=by
          have:=Aa HRL2
          rw[if_neg (by rw[h0];decide)]at this;exact this
         have hfs6:FsIn w6 ad2 c2 (es.map Ev.fv):=((Aa HFS).below (Aa HB24) (VC _)).below (hB6.mono (by omega)) (VC _);have HF:Hid (RdA w bs (.returned (.tuple #[.slice ad2 k c2,.int .i64 0])) w6):=Ab ⟨.slice ad2 k c2,by rw[h0];rfl,⟨ad2,c2,es.map Ev.fv,by rw[hl0,<-Aa HLL];simp[Aa HK],hfs6,by rw[Z17,Aa HLL,hl0]⟩,Aa HB6⟩;clear hB6 HCS h0 hl0 hfs6;go_wp2;go_ret2;exact Aa HF
     . have HF:=Ab (RdA.bad (w:=w) (w':=w3) (bs:=bs) (k:=7) (by rw[Aa HRE2,if_pos (.inl (by rw[Aa HEE];exact hE0))]) (by decide) (Aa HB3));have hEb:((E:Int)==0)=false:=by rw[beq_eq_false_iff_ne];omega
       have hEc:((E:Int)!=0)=true:=by rw[bne,hEb];rfl
       clear hE0;go_wp2;go_ret2;exact Aa HF
end Go.Proofs.YtieianhejdcgdaaGreatDoor
