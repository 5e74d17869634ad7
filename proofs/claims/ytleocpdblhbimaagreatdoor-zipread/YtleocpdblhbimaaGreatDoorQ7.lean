import Derived.Maps.Own
import Derived.Test.YtleocpdblhbimaaGreatDoorQ6
import Derived.Lib.ConvBytes
import Derived.Deep.RegionHeld3
set_option linter.unusedSimpArgs false
set_option maxHeartbeats 2000000
namespace Go.Proofs.YtleocpdblhbimaaGreatDoor
open Go.RowKit
set_option linter.unusedVariables false
set_option maxRecDepth 100000
abbrev X7:Array MapEntry:= #[{key:=.bool true,val:=.int .i64 1,born:=0}]
theorem Z4n (X:World):(Instr.mapUpdate 111 (.map (some X.heap.size)) (.bool true) (.int .i64 1)).run Tryz.prog (X.alloc (.map #[] 0))=.ok () (X.alloc (.map X7 1)):=by
 have hb:(X.alloc (.map #[] 0)).heap[X.heap.size]? =some (.map #[] 0):=heap_alloc_new X _;have hk:=Tryz.underlying4;have hf:Instr.findNow .bool (.bool true) ([]:List MapEntry) 0=some none:=rfl;have hc:(Instr.checkKey false 10000 4 (.bool true)).run Tryz.prog (X.alloc (.map #[] 0))=.ok () (X.alloc (.map #[] 0)):=MapKept.run_checkKey (k:=.bool true) hk (by simp[MapKept.IsKey]) false 9999
 have he: {X.alloc (.map #[] 0)with heap:=(X.alloc (.map #[] 0)).heap.setIfInBounds X.heap.size (.map X7 1)}=X.alloc (.map X7 1):=by
  have e1:(X.alloc (.map #[] 0)).heap.setIfInBounds X.heap.size (.map X7 1)=(X.alloc (.map X7 1)).heap:=by
   show (X.heap.push (.map #[] 0)).setIfInBounds X.heap.size (.map X7 1)=X.heap.push (.map X7 1)
   apply Array.ext
   . simp
   . intro i h1 h2;simp only[Array.size_setIfInBounds,YV]at h1;rw[Array.getElem_setIfInBounds]
     by_cases hi:X.heap.size=i
     . subst hi;simp
     . rw[if_neg hi,Array.getElem_push_lt (by omega),Array.getElem_push_lt (by omega)]
     . simpa using h1
  rw[e1];rfl
 simp only[Instr.mapUpdate,Sem.run_bind,run_underlying Tryz.underlying111,MapKept.run_getObj_map hb,hc,MapKept.run_findKey hk hf,MapKept.run_setObj_map _ hb,Result.andThen];exact congrArg (Result.ok ()) he
theorem Z10 (W:World)(r:Nat)(g:Bool)(hb:W.heap[r]? =some (.map X7 1)):(Instr.lookup 111 (.map (some r)) (.bool g) false).run Tryz.prog W=.ok (.int .i64 (if g then 1 else 0)) W:=by
 have hk:=Tryz.underlying4;have hc:(Instr.checkKey false 10000 4 (.bool g)).run Tryz.prog W=.ok () W:=MapKept.run_checkKey (k:=.bool g) hk (by simp[MapKept.IsKey]) false 9999;have hf:Instr.findNow .bool (.bool g) X7.toList 0=some (if g then some (0,.int .i64 1)else none):=by cases g<;>rfl
 have hz:(zeroValue 3).run Tryz.prog W=.ok (.int .i64 0) W:=Tryz.zeroValue3 W
 cases g
 . simp[Instr.lookup,run_underlying Tryz.underlying111,MapKept.run_getObj_map hb,hc,MapKept.run_findKey hk hf,hz,Result.andThen]
 . simp[Instr.lookup,run_underlying Tryz.underlying111,MapKept.run_getObj_map hb,hc,MapKept.run_findKey hk hf,Result.andThen]
end Go.Proofs.YtleocpdblhbimaaGreatDoor
namespace Go.Proofs.YtleocpdblhbimaaGreatDoor
open Go.RowKit
set_option linter.unusedVariables false
set_option maxRecDepth 100000
structure EWd (x:En):Prop where
 st:0<=x.f.stamp/\x.f.stamp<4294967296
 nd:0<=x.f.node/\x.f.node<65536
 nm:x.f.name.length<=12000
 bl:x.f.bytes.length<=12000
 pl:x.pk.length<=12000
 cr:x.crc<4294967296
 mt:x.meth<65536
theorem CU:∀(l:List En),(∀x∈l,EWd x)->(Av l).length<=24041*l.length
 | [],_=>by simp[Av]
 |x::r,h=>by
  have h1:=CU r (fun y hy=>h y (WR _ hy));have h2:=(h x (by simp)).nm;have h3:=(h x (by simp)).pl;rw[Av,VE,Kc,VJ];omega
theorem Zu:∀(l:List En) (p:Nat),(∀x∈l,EWd x)->(Ao p l).length<=12057*l.length
 | [],p,_=>by simp[Ao]
 |x::r,p,h=>by
  have h1:=Zu r (p+(Vr x).length) (fun y hy=>h y (WR _ hy));have h2:=(h x (by simp)).nm;rw[Ao,VE,Lk,VJ];omega
def Ev.rcells (x:Ev):List Value:= [.string (B x.e.f.name),.slice x.fa x.e.f.bytes.length x.fc,.int .i64 x.e.f.stamp,.int .i64 x.e.f.node,.bool x.e.f.gone,.int .i64 (x.e.meth:Int),.slice x.pa x.e.pk.length x.pc,.int .u32 (x.e.crc:Int)]
def Rs (w:World)(b o:Nat)(xs:List Ev):Prop:=∀j x,xs[j]? =some x->∀i,i<8->w.cell? ⟨b,o+j*8+i,none⟩=x.rcells[i]?
structure RsIn (w:World)(ad:Option Addr)(xs:List Ev):Prop where
 at_:xs= []\/∃b o,ad=some ⟨b,o,none⟩/\b<w.heap.size/\Rs w b o xs
 all:∀x∈xs,EvIn w x/\x.e.pk.length<=x.pc
theorem RsIn.get {w w':World}{ad:Option Addr}{k:Nat}{xs:List Ev}{x:Ev}(h:RsIn w ad xs)(hB:Below w.heap.size w w')(hk:xs[k]? =some x):
 ∃b o,ad=some ⟨b,o,none⟩/\b<w.heap.size/\w'.cell? ⟨b,o+k*8,none⟩=some (.string (B x.e.f.name))/\w'.cell? ⟨b,o+k*8+1,none⟩=some (.slice x.fa x.e.f.bytes.length x.fc)/\w'.cell? ⟨b,o+k*8+2,none⟩=some (.int .i64 x.e.f.stamp)/\w'.cell? ⟨b,o+k*8+3,none⟩=some (.int .i64 x.e.f.node)/\w'.cell? ⟨b,o+k*8+4,none⟩=some (.bool x.e.f.gone)/\w'.cell? ⟨b,o+k*8+5,none⟩=some (.int .i64 (x.e.meth:Int))/\w'.cell? ⟨b,o+k*8+6,none⟩=some (.slice x.pa x.e.pk.length x.pc)/\w'.cell? ⟨b,o+k*8+7,none⟩=some (.int .u32 (x.e.crc:Int)):=by
 rcases h.at_ with h1|⟨b,o,e,hb,hE⟩
 . subst h1;simp at hk
 . have hE2:∀i,i<8->w'.cell? ⟨b,o+k*8+i,none⟩=x.rcells[i]? :=fun i hi=>(World.cell?_of_block (w:=w) (a:=⟨b,_,none⟩) (hB.block b hb)).trans (hE k x hk i hi)
   exact⟨b,o,e,hb,hE2 0 (by decide),hE2 1 (by decide),hE2 2 (by decide),hE2 3 (by decide),hE2 4 (by decide),hE2 5 (by decide),hE2 6 (by decide),hE2 7 (by decide)⟩
theorem PIn.sized {w:World}{v:Value}{bs:List Nat}(h:PIn w v bs):∃a l c,v=.slice a l c/\bs.length=l:=by
 obtain⟨a,c,e,_⟩:=h;exact⟨a,_,c,e,rfl⟩
theorem RQ (w:World)(e:TypeId)(s:ByteArray):Below w.heap.size w (Lib.bytesWorld w e s):=by
 refine⟨?_, ?_, ?_,by rw[Lib.bytesWorld_size];omega,fun k hk=>Lib.bytesWorld_at_old w e s k hk⟩
 . simp[Lib.bytesWorld,World.freeze];rfl
 . simp[Lib.bytesWorld,World.freeze]
 . simp[Lib.bytesWorld,World.freeze];rfl
theorem QZ (w:World)(l:List UInt8):PIn (Lib.bytesWorld w 5 (B l)) (.slice (some ⟨w.heap.size,0,none⟩) (B l).size (grownCap w (B l).size 0 5)) (n8 l):=by
 refine⟨some ⟨w.heap.size,0,none⟩,_,by rw[Da,Im],by rw[Da];exact VU (ZV (Im l).symm) (grownCap_ge _ _ _ _),.inr ⟨_,_,rfl,by rw[Lib.bytesWorld_size];omega,fun j hj=> ?_⟩,fun e=>by cases e⟩;rw[Da]at hj;rw[WG,Lib.bytesWorld_cell w _ _ j (by rw[Im];exact hj)];simp[B,n8,List.getD,hj]
def cvW (w:World)(nm:ByteArray):World:=Lib.bytesWorld w 5 nm
def cvA (w:World):Option Addr:=some ⟨w.heap.size,0,none⟩
def cvL (nm:ByteArray):Nat:=nm.size
def cvC (w:World)(nm:ByteArray):Nat:=grownCap w nm.size 0 5
theorem Z2z (nm:ByteArray):∀W:World,(convert 9 23 (.string nm)).run Tryz.prog W=.ok (.slice (cvA W) (cvL nm) (cvC W nm)) (cvW W nm):=fun W=>
 Lib.run_convert_string_bytes (P:=Tryz.prog) W 9 23 5 nm Tryz.underlying9 Tryz.underlying23 Tryz.underlying5
theorem Sj (W:World)(nm:ByteArray)(nml:List UInt8)(hn:B nml=nm):PIn (cvW W nm) (.slice (cvA W) (cvL nm) (cvC W nm)) (n8 nml)/\Below W.heap.size W (cvW W nm):=by
 subst hn;exact⟨QZ W nml,RQ W _ _⟩
theorem PIn.slice {w:World}{v:Value}{bs:List Nat}(h:PIn w v bs):∃a l c,v=.slice a l c:=by
 obtain⟨a,c,e,_⟩:=h;exact⟨a,_,c,e⟩
theorem C5 {k:Nat}{l:List En}{nml bys:List UInt8}{st nd:Nat}{gn:Bool}{mt:Nat}{pk:List Nat}{cr nl bl pl lH:Nat}(h:l.take (k+1)=l.take k++ [⟨⟨nml,bys,(st:Int),(nd:Int),gn⟩,mt,pk,cr⟩])(h1:nml.length=nl)(h2:bys.length=bl)(h3:pk.length=pl)(h4:(Av (l.take k)).length=lH):
 Av (l.take (k+1))=([Av (l.take k),Ag 67324752 4,([Ag 20 2,Ag 0 2,Ag mt 2,Ag 0 4,Ag cr 4,Ag pl 4,Ag bl 4,Ag nl 2,Ag 11 2]:List (List Nat)).flatten,n8 nml,([Ag 29297 2,Ag 7 2,Ag st 4,Ag nd 2,Ag (Ed gn) 1]:List (List Nat)).flatten,pk]:List (List Nat)).flatten/\
 Ao 0 (l.take (k+1))=([Ao 0 (l.take k),Ag 33639248 4,Ag 20 2,([Ag 20 2,Ag 0 2,Ag mt 2,Ag 0 4,Ag cr 4,Ag pl 4,Ag bl 4,Ag nl 2,Ag 11 2]:List (List Nat)).flatten,Ag 0 10,Ag lH 4,n8 nml,([Ag 29297 2,Ag 7 2,Ag st 4,Ag nd 2,Ag (Ed gn) 1]:List (List Nat)).flatten]:List (List Nat)).flatten:=by
 subst h1 h2 h3 h4;rw[h,J3,Uq]
 constructor
 . simp[Vr,To,Jj]
 . simp[Qo,To,Jj]
theorem Z9k (th:List Nat)(nml:List UInt8)(mt cr pl bl nl st nd:Nat)(gn:Bool)(lH:Nat)(h:th.length<=12057*12)(hn:nml.length<=12000):([th,Ag 33639248 4,Ag 20 2,([Ag 20 2,Ag 0 2,Ag mt 2,Ag 0 4,Ag cr 4,Ag pl 4,Ag bl 4,Ag nl 2,Ag 11 2]:List (List Nat)).flatten,Ag 0 10,Ag lH 4,n8 nml,([Ag 29297 2,Ag 7 2,Ag st 4,Ag nd 2,Ag (Ed gn) 1]:List (List Nat)).flatten]:List (List Nat)).flatten.length<=281474976710656:=by
 simp[Ai,Da]
 omega
theorem Z9j (he pk:List Nat)(nml:List UInt8)(mt cr pl bl nl st nd:Nat)(gn:Bool)(h:he.length<=24041*12)(hn:nml.length<=12000)(hp:pk.length<=12000):([he,Ag 67324752 4,([Ag 20 2,Ag 0 2,Ag mt 2,Ag 0 4,Ag cr 4,Ag pl 4,Ag bl 4,Ag nl 2,Ag 11 2]:List (List Nat)).flatten,n8 nml,([Ag 29297 2,Ag 7 2,Ag st 4,Ag nd 2,Ag (Ed gn) 1]:List (List Nat)).flatten,pk]:List (List Nat)).flatten.length<=281474976710656:=by
 simp[Ai,Da]
 omega
theorem Z8f (he th:List Nat)(n lT lH:Nat)(h1:he.length<=24041*12)(h2:th.length<=12057*12):([he,th,Ag 101010256 4,Ag 0 4,Ag n 2,Ag n 2,Ag lT 4,Ag lH 4,Ag 0 2]:List (List Nat)).flatten.length<=281474976710656:=by
 simp[Ai]
 omega
theorem Z23 {n lH lT:Nat}{l:List En}(h:l.take n=l)(hn:l.length=n)(h1:(Av (l.take n)).length=lH)(h2:(Ao 0 (l.take n)).length=lT):Be l=([Av (l.take n),Ao 0 (l.take n),Ag 101010256 4,Ag 0 4,Ag n 2,Ag n 2,Ag lT 4,Ag lH 4,Ag 0 2]:List (List Nat)).flatten:=by
 subst h1 h2 hn;rw[h];simp[Be,Pm]
end Go.Proofs.YtleocpdblhbimaaGreatDoor
namespace Go.Proofs.YtleocpdblhbimaaGreatDoor
set_option linter.unusedVariables false
def unpD (m:Nat)(pk:List Nat):Option (List Nat):=
 if m=0 then some pk
 else if m=8 then (if (Oh (rowB pk pk.length)).e=0/\((Oh (rowB pk pk.length)).p+7)/8=pk.length/\pk.length<=6000 then some (Oh (rowB pk pk.length)).out else none)
 else none
def Dh (r:List Nat)(i j:Nat):Nat:=Ak ((r.drop i).take (j-i))
theorem Dm {r:List Nat}(hv:∀y∈r,y<256){i j k:Nat}(hk:j-i=k):Dh r i j<256^k:=by
 unfold Dh;rw[hk];have h1:=Jx ((r.drop i).take k) (fun y hy=>hv y (VW (VR hy)));exact VG h1 (VO (by decide) (by rw[VL];omega))
def JR (b:List Nat)(at_:Nat)(r:List Nat):Option (En×List Nat):=
 if r.length<46 then none
 else if r.length<46+Dh r 28 30+11\/at_<Dh r 42 46+30+Dh r 28 30+11+Dh r 20 24 then none
 else (unpD (Dh r 10 12) ((b.drop (Dh r 42 46+30+Dh r 28 30+11)).take (Dh r 20 24))).bind fun ys=>
  some (⟨⟨o8 ((r.drop 46).take (Dh r 28 30)),o8 ys,(Dh ((r.drop (46+Dh r 28 30)).take 11) 4 8:Nat),(Dh ((r.drop (46+Dh r 28 30)).take 11) 8 10:Nat),decide (((r.drop (46+Dh r 28 30)).take 11).getD 10 0=1)⟩,Dh r 10 12,(b.drop (Dh r 42 46+30+Dh r 28 30+11)).take (Dh r 20 24),Dh r 16 20⟩,r.drop (46+Dh r 28 30+11))
def Np (b:List Nat)(at_:Nat):Nat->List Nat->Option (List En)
 |0,_=>some []
 |k+1,r=>(JR b at_ r).bind fun x=>(Np b at_ k x.2).map (x.1:: ·)
def Tt (b:List Nat):Option (List En):=
 if b.length<22 then none
 else if 12<Dh (b.drop (b.length-22)) 8 10\/Dh (b.drop (b.length-22)) 16 20+Dh (b.drop (b.length-22)) 12 16+22≠b.length then none
 else Np b (Dh (b.drop (b.length-22)) 16 20) (Dh (b.drop (b.length-22)) 8 10) ((b.drop (Dh (b.drop (b.length-22)) 16 20)).take (Dh (b.drop (b.length-22)) 12 16))
theorem Z78 (p x q:List Nat){i j:Nat}(hi:p.length=i)(hj:x.length=j-i):Dh (p++(x++q)) i j=Ak x:=by
 unfold Dh;rw[YT hi,YS hj]
theorem Hb {n k i j:Nat}(p q:List Nat)(hi:p.length=i)(hk:k=j-i)(hn:n<256^k):Dh (p++(Ag n k++q)) i j=n:=by
 rw[Z78 p _ q hi (by rw[Ai];exact hk),Cu k n hn]
structure EOkD (x:En):Prop where
 st:0<=x.f.stamp/\x.f.stamp<4294967296
 nd:0<=x.f.node/\x.f.node<65536
 nm:x.f.name.length<65536
 pl:x.pk.length<4294967296
 cr:x.crc<4294967296
 mt:x.meth<65536
 un:unpD x.meth x.pk=some (n8 x.f.bytes)
theorem Z1t (b:List Nat)(at_ p:Nat)(x:En)(t:List Nat)(h:EOkD x)(hp:p<4294967296)(hat:p+41+x.f.name.length+x.pk.length<=at_)
 (hb:(b.drop (p+30+x.f.name.length+11)).take x.pk.length=x.pk):JR b at_ (Qo x p++t)=some (x,t):=by
 obtain⟨⟨st0,st1⟩,⟨nd0,nd1⟩,nm,pl,cr,mt,un⟩:=h
 have e:Qo x p++t=Ag 33639248 4++(Ag 20 2++(Ag 20 2++(Ag 0 2++(Ag x.meth 2++(Ag 0 4++(Ag x.crc 4++(Ag x.pk.length 4++(Ag x.f.bytes.length 4++(Ag x.f.name.length 2++(Ag 11 2++(Ag 0 10++(Ag p 4++(n8 x.f.name++(Jj x++t)))))))))))))):=by
  simp only[Qo,To,VS]
 have c1:Dh (Qo x p++t) 10 12=x.meth:=by
  rw[e,show ∀a b c d r:List Nat,a++(b++(c++(d++r)))=(a++(b++(c++d)))++r from fun a b c d r=>by simp];exact Hb _ _ (by simp[Ai]) rfl mt
 have c2:Dh (Qo x p++t) 16 20=x.crc:=by
  rw[e,show ∀a b c d f g r:List Nat,a++(b++(c++(d++(f++(g++r)))))=(a++(b++(c++(d++(f++g)))))++r from fun a b c d f g r=>by simp];exact Hb _ _ (by simp[Ai]) rfl cr
 have c3:Dh (Qo x p++t) 20 24=x.pk.length:=by
  rw[e,show ∀a b c d f g h r:List Nat,a++(b++(c++(d++(f++(g++(h++r))))))=(a++(b++(c++(d++(f++(g++h))))))++r from fun a b c d f g h r=>by simp];exact Hb _ _ (by simp[Ai]) rfl pl
 have c4:Dh (Qo x p++t) 28 30=x.f.name.length:=by
  rw[e,show ∀a b c d f g h i j r:List Nat,a++(b++(c++(d++(f++(g++(h++(i++(j++r))))))))=(a++(b++(c++(d++(f++(g++(h++(i++j))))))))++r from fun a b c d f g h i j r=>by simp];exact Hb _ _ (by simp[Ai]) rfl nm
 have c5:Dh (Qo x p++t) 42 46=p:=by
  rw[e,show ∀a b c d f g h i j k l m r:List Nat,a++(b++(c++(d++(f++(g++(h++(i++(j++(k++(l++(m++r)))))))))))=(a++(b++(c++(d++(f++(g++(h++(i++(j++(k++(l++m)))))))))))++r from fun a b c d f g h i j k l m r=>by simp];exact Hb _ _ (by simp[Ai]) rfl hp
 have d46:(Qo x p++t).drop 46=n8 x.f.name++(Jj x++t):=by
  rw[e,show ∀a b c d f g h i j k l m n r:List Nat,a++(b++(c++(d++(f++(g++(h++(i++(j++(k++(l++(m++(n++r))))))))))))=(a++(b++(c++(d++(f++(g++(h++(i++(j++(k++(l++(m++n))))))))))))++r from fun a b c d f g h i j k l m n r=>by simp];exact YT (by simp[Ai])
 have dx:(Qo x p++t).drop (46+x.f.name.length)=Jj x++t:=by
  rw[<-YK,d46,YT (Da _)]
 have dt:(Qo x p++t).drop (46+x.f.name.length+11)=t:=by
  rw[<-YK,dx,YT (Ie x)]
 have tx:(Jj x++t).take 11=Jj x:=YS (Ie x);have hl:(Qo x p++t).length=57+x.f.name.length+t.length:=by rw[VE,Lk]
 unfold JR;rw[if_neg (by rw[hl];omega),c4,c5,c3,if_neg (by rw[hl];omega),c1,hb,un,VF,c2,dx,tx,dt,d46,YS (Da _),FQ,FQ]
 have x1:Dh (Jj x) 4 8=x.f.stamp.toNat:=by
  have e2:Jj x=(Ag 29297 2++Ag 7 2)++(Ag x.f.stamp.toNat 4++(Ag x.f.node.toNat 2++Ag (Ed x.f.gone) 1)):=by simp[Jj]
  rw[e2];exact Hb _ _ (by simp[Ai]) rfl (by show _<4294967296;omega)
 have x2:Dh (Jj x) 8 10=x.f.node.toNat:=by
  have e2:Jj x=(Ag 29297 2++(Ag 7 2++Ag x.f.stamp.toNat 4))++(Ag x.f.node.toNat 2++Ag (Ed x.f.gone) 1):=by simp[Jj]
  rw[e2];exact Hb _ _ (by simp[Ai]) rfl (by show _<65536;omega)
 have v3:(Jj x).getD 10 0=Ed x.f.gone:=by
  have e2:Jj x=(Ag 29297 2++(Ag 7 2++(Ag x.f.stamp.toNat 4++Ag x.f.node.toNat 2)))++Ag (Ed x.f.gone) 1:=by simp[Jj]
  rw[e2,WZ,VX (by simp[Ai])]
  cases x.f.gone<;>simp[Ag,Ed]
 have x3:decide ((Jj x).getD 10 0=1)=x.f.gone:=by
  rw[v3]
  cases x.f.gone<;>rfl
 have y1:((x.f.stamp.toNat:Nat):Int)=x.f.stamp:=YU st0;have y2:((x.f.node.toNat:Nat):Int)=x.f.node:=YU nd0;rw[x1,x2,x3,y1,y2]
theorem Sh (b:List Nat)(at_:Nat):∀(l:List En) (pre:List Nat) (t:List Nat),(∀x∈l,EOkD x)->b=pre++(Av l++t)->at_=pre.length+(Av l).length->at_<4294967296->∀s,Np b at_ l.length (Ao pre.length l++s)=some l
 | [],pre,t,_,_,_,_,s=>rfl
 |x::l,pre,t,h,hb,ha,hlt,s=>by
  have hx:=h x (by simp);have hfl:=Kc x;rw[Av,VE]at ha;have e1:Ao pre.length (x::l)++s=Qo x pre.length++(Ao (pre++Vr x).length l++s):=by rw[Ao,VS,VE]
  have e2:b=(pre++Vr x)++(Av l++t):=by rw[hb,Av];simp
  have e3:(b.drop (pre.length+30+x.f.name.length+11)).take x.pk.length=x.pk:=by
   have e4:b=(pre++(Ag 67324752 4++To x++n8 x.f.name++Jj x))++(x.pk++(Av l++t)):=by rw[e2,Vr];simp
   rw[e4,YT (by simp[Ai,Ly,Ie,Da];omega),YS rfl]
  rw[VJ,Np,e1,Z1t b at_ pre.length x _ hx (by omega) (by omega) e3,VF];dsimp only;rw[Sh b at_ l (pre++Vr x) t (fun y hy=>h y (WR _ hy)) e2 (by rw[VE];omega) hlt s];rfl
theorem PY (l:List En)(h:∀x∈l,EOkD x)(hn:l.length<=12)(hlt:(Be l).length<4294967296):Tt (Be l)=some l:=by
 have hlen:(Be l).length=(Av l).length+(Ao 0 l).length+22:=by unfold Be;rw[VE,VE,Pl]
 have hd:(Be l).drop ((Be l).length-22)=Pm l.length (Ao 0 l).length (Av l).length:=by
  have:(Be l).length-22=(Av l++Ao 0 l).length:=by rw[hlen,VE];omega
  rw[this];unfold Be;rw[List.drop_left]
 have c1:Dh (Pm l.length (Ao 0 l).length (Av l).length) 8 10=l.length:=by
  have e:Pm l.length (Ao 0 l).length (Av l).length=(Ag 101010256 4++Ag 0 4)++(Ag l.length 2++(Ag l.length 2++(Ag (Ao 0 l).length 4++(Ag (Av l).length 4++Ag 0 2)))):=by simp[Pm]
  rw[e];exact Hb _ _ (by simp[Ai]) rfl (by show _<65536;omega)
 have c2:Dh (Pm l.length (Ao 0 l).length (Av l).length) 12 16=(Ao 0 l).length:=by
  have e:Pm l.length (Ao 0 l).length (Av l).length=(Ag 101010256 4++(Ag 0 4++(Ag l.length 2++Ag l.length 2)))++(Ag (Ao 0 l).length 4++(Ag (Av l).length 4++Ag 0 2)):=by simp[Pm]
  rw[e];exact Hb _ _ (by simp[Ai]) rfl (by show _<4294967296;omega)
 have c3:Dh (Pm l.length (Ao 0 l).length (Av l).length) 16 20=(Av l).length:=by
  have e:Pm l.length (Ao 0 l).length (Av l).length=(Ag 101010256 4++(Ag 0 4++(Ag l.length 2++(Ag l.length 2++Ag (Ao 0 l).length 4))))++(Ag (Av l).length 4++Ag 0 2):=by simp[Pm]
  rw[e];exact Hb _ _ (by simp[Ai]) rfl (by show _<4294967296;omega)
 unfold Tt;rw[if_neg (by omega),hd,c1,c2,c3,if_neg (by omega)]
 have e5:((Be l).drop (Av l).length).take (Ao 0 l).length=Ao 0 l:=by
  unfold Be;rw[VS,YT rfl,YS rfl]
 rw[e5];have:=Sh (Be l) (Av l).length l [] (Ao 0 l++Pm l.length (Ao 0 l).length (Av l).length) h (by unfold Be;simp) (by simp) (by omega) []
 rw[XA]at this;exact this
end Go.Proofs.YtleocpdblhbimaaGreatDoor
namespace Go.Proofs.YtleocpdblhbimaaGreatDoor
open Go.RowKit
set_option linter.unusedVariables false
set_option maxRecDepth 100000
def rcellsL (xs:List Ev):List Value:=xs.flatMap Ev.rcells
theorem T9 (xs:List Ev):(rcellsL xs).length=xs.length*8:=by
 induction xs with
 |nil=>rfl
 |cons x r ih=>
  have:rcellsL (x::r)=x.rcells++rcellsL r:=rfl
  rw[this,VE,ih,VJ];show 8+_=_
  omega
theorem U8 (xs ys:List Ev):rcellsL (xs++ys)=rcellsL xs++rcellsL ys:=by simp[rcellsL]
theorem T8 (y:Ev):rcellsL [y]=y.rcells:=by simp[rcellsL]
theorem Vc:∀(xs:List Ev) (j:Nat) (x:Ev) (i:Nat),xs[j]? =some x->i<8->(rcellsL xs)[j*8+i]? =x.rcells[i]?
 | [],j,x,i,h,_=>by simp at h
 |y::r,0,x,i,h,hi=>by
  have:rcellsL (y::r)=y.rcells++rcellsL r:=rfl
  simp at h
  subst h;rw[this,YJ,WG,WN (show i<8 from hi)]
 |y::r,j+1,x,i,h,hi=>by
  have e:rcellsL (y::r)=y.rcells++rcellsL r:=rfl;have hl:y.rcells.length=8:=rfl;have ih:=Vc r j x i (by simpa using h) hi;rw[e,VX (by rw[hl];omega),hl,show (j+1)*8+i-8=j*8+i by omega,ih]
theorem T7 (y:Ev):∀u∈y.rcells,u.oneCell'=true:=by
 intro u hu;simp only[Ev.rcells,WH,XE,or_false]at hu
 rcases hu with rfl|rfl|rfl|rfl|rfl|rfl|rfl|rfl<;>rfl
def EvR (w:World)(x:Ev):Prop:=EvIn w x/\x.e.pk.length<=x.pc
theorem EvR.below {w w':World}{x:Ev}(h:EvR w x)(hB:Below w.heap.size w w'):EvR w' x:=⟨h.1.below hB,h.2⟩
structure RRow (w:World)(B:Nat)(v:Value)(xs:List Ev):Prop where
 own:w.ownsRow B 37 8 v xs.length (rcellsL xs)
 all:∀x∈xs,EvR w x
 apart:∀x∈xs,x.lies (fun g=>some g≠v.ownBlock)
theorem RRow.nil (w:World)(B:Nat):RRow w B (.slice none 0 0) []:=⟨World.ownsRow_nil _ _ _ _,(fun x hx=>absurd hx XE),(fun x hx=>absurd hx XE)⟩
theorem RRow.below {w w':World}{B:Nat}{v:Value}{xs:List Ev}(h:RRow w B v xs)(hB:Below w.heap.size w w'):RRow w' B v xs:=
 ⟨Au h.own (fun g hg=>hB.block g (h.own.lt g hg).2),fun x hx=>(h.all x hx).below hB,h.apart⟩
theorem OH:(Tryz.prog.info? 37).map (fun i=>(i.zero,i.size,i.bytes))=some (some (.agg #[.string ⟨#[]⟩,.slice none 0 0,.int .i64 0,.int .i64 0,.bool false,.int .i64 0,.slice none 0 0,.int .u32 0]),8,104):=by kernel_rfl
theorem Kz (w:World){ops:Array Oper}{rest:List Oper}{o:Oper}{a:Act}{Q:Exit->Act->World->Prop}(hgd:o.guard=none)(s x:Operand)
 (ho:o.op=.call {callee:=.builtin .append,args:= #[s,x],argTypes:= #[31,31]}) (base:Nat) (v:Value) (xs:List Ev) (hs:a.eval s=v) (hown:RRow w base v xs)
 (g:Nat) (y:Ev) (hx:a.eval x=.slice (some ⟨g,0,none⟩) 1 1) (hc:∀j u,y.rcells[j]? =some u->w.cell? ⟨g,j,none⟩=some u) (hy:EvR w y) (hyb:y.lies (fun g=>some g≠v.ownBlock)) (hsz:xs.length+1<=100000) (hbase:base<=w.heap.size)
 (h:∀v' w',Hid (RRow w' base v' (xs++ [y]))->Hid (w.grownBy w' v.ownBlock)->wpList Tryz.prog ops Q rest (a.put o.dst v') w'):wpList Tryz.prog ops Q (o::rest) a w:=by
 obtain⟨i0,hi,hz0,hz1,hz2⟩:=info_parts OH;refine wpList_append_own_at w hgd s x 31 ho base 37 i0 _ 8 104 Tryz.underlying31 hi hz0 hz1 hz2 rfl (by decide) v xs.length (rcellsL xs) hs hown.own ⟨g,0,none⟩ 1 1 y.rcells hx rfl ?_ (T7 y) (by unfold maxLen;omega) (by omega) hbase ?_
 . intro j u hj;have e2:(⟨g,0,none⟩:Addr).add j=⟨g,j,none⟩:=by unfold Addr.add;split<;>simp_all
   rw[e2];exact hc j u hj
 . intro v' w' h1 h2 _ h4
   have hne:∀z∈xs++ [y],z.lies (fun g=>some g≠v.ownBlock):=by
    intro z hz
    rcases WP.1 hz with hz|hz
    . exact hown.apart z hz
    . rw[WO.1 hz];exact hyb
   have hin:∀z∈xs++ [y],EvR w z:=by
    intro z hz
    rcases WP.1 hz with hz|hz
    . exact hown.all z hz
    . rw[WO.1 hz];exact hy
   refine h v' w' (Ab ⟨?_,fun z hz=>⟨(hin z hz).1.grown h2 (hne z hz),(hin z hz).2⟩,fun z hz=> ?_⟩) (Ab h2)
   . rw[U8,T8,VE];exact h1
   . have hl:=(hin z hz).1.lt;have hn:=hne z hz
     rcases h4 with h4|h4
     . rw[h4];exact hn
     . rw[h4];exact hl.mono (fun g hg e=>by have:=VM e;omega)
theorem RRow.entries {w:World}{B:Nat}{v:Value}{xs:List Ev}(h:RRow w B v xs):∃ad c,v=.slice ad xs.length c/\RsIn w ad xs:=by
 rcases h.own.2 with ⟨h1,h2⟩|⟨g,cap,cur,h1,h2,h3,h4,h5⟩
 . exact⟨none,0,by rw[h1,h2],.inl (WV h2),h.all⟩
 . refine⟨some ⟨g,0,none⟩,cap,h1,.inr ⟨g,0,rfl,(h.own.lt g (by rw[h1];rfl)).2,fun j x hj i hi=> ?_⟩,h.all⟩;have hown:=h.own;rw[h1]at hown;have hl:=T9 xs;have hj2:=(XT.1 hj).1;rw[WG,hown.cellAt _ (by omega)];exact Vc xs j x i hj hi
theorem Z68 (g o n cap i j:Nat)(hi:i<=j)(hj:j<=n)(hn:n<=cap)(hic:i<cap)(W:World):(Instr.slice 23 (.slice (some ⟨g,o,none⟩) n cap) (some (.int .i64 (i:Int))) (some (.int .i64 (j:Int))) none).run Tryz.prog W=.ok (.slice (some ⟨g,o+i,none⟩) (j-i) (cap-i)) W:=by
 have hs:=Tryz.sizeOf5;have ht:=Tryz.underlying23;have h1:(i:Int)<=(j:Int):=by omega
 have h2:(j:Int)<=(cap:Int):=by omega
 have h3:¬cap=i:=by omega
 simp[go_sem,ht,hs,h1,h2,h3]
theorem Gq (g o n cap i j:Nat)(I J:Int)(L:Nat)(hI:I=(i:Int))(hJ:J=(j:Int))(hi:i<=j)(hj:j<=n)(hn:n<=cap)(hic:i<cap)(hL:j-i=L)(W:World):(Instr.slice 23 (.slice (some ⟨g,o,none⟩) n cap) (some (.int .i64 I)) (some (.int .i64 J)) none).run Tryz.prog W=.ok (.slice (some ⟨g,o+i,none⟩) L (cap-i)) W:=by
 subst hI hJ hL;exact Z68 g o n cap i j hi hj hn hic W
theorem Sk {w:World}{g o:Nat}{bs:List Nat}(hg:g<w.heap.size)(hB:∀j,j<bs.length->w.cell? ⟨g,o+j,none⟩=some (.int .u8 ((bs.getD j 0:Nat):Int)))(i k:Nat):BytesIn w (some ⟨g,o+i,none⟩) ((bs.drop i).take k):=by
 refine .inr ⟨g,o+i,rfl,hg,fun j hj=> ?_⟩
 have hj2:j<k/\i+j<bs.length:=by
  rw[VL,VQ]at hj;omega
 have e2:((bs.drop i).take k).getD j 0=bs.getD (i+j) 0:=by
  simp only[List.getD];rw[XX hj2.1,XJ]
 rw[e2,WT];exact hB (i+j) hj2.2
theorem Z2h (g o n cap i:Nat)(I:Int)(L:Nat)(hI:I=(i:Int))(hi:i<=n)(hn:n<=cap)(hic:i<cap)(hL:n-i=L)(W:World):(Instr.slice 23 (.slice (some ⟨g,o,none⟩) n cap) (some (.int .i64 I)) none none).run Tryz.prog W=.ok (.slice (some ⟨g,o+i,none⟩) L (cap-i)) W:=by
 subst hI hL;have hs:=Tryz.sizeOf5;have ht:=Tryz.underlying23;have h1:(i:Int)<=(n:Int):=by omega
 have h3:¬cap=i:=by omega
 simp[go_sem,ht,hs,h1,h3]
theorem Cw {w:World}{g o:Nat}{bs:List Nat}(hg:g<w.heap.size)(hB:∀j,j<bs.length->w.cell? ⟨g,o+j,none⟩=some (.int .u8 ((bs.getD j 0:Nat):Int)))(hv:∀x∈bs,x<256)(i j L c:Nat)(hL:j-i=L)(hj:j<=bs.length)(h7:L<=7)(hij:i<=j):
 ∀W:World,Below w.heap.size w W->Calls Tryz.prog 38 #[.slice (some ⟨g,o+i,none⟩) L c] W fun e w'=>e=.returned (.int .i64 ((Dh bs i j:Nat):Int))/\w'=W:=by
 intro W hW;subst hL;have hb:=Sk hg hB i (j-i)
 have hb2:BytesIn W (some ⟨g,o+i,none⟩) ((bs.drop i).take (j-i)):=by
  rcases hb with h0|⟨b,o',e,h1,h2⟩
  . exact .inl h0
  . exact .inr ⟨b,o',e,VG h1 hW.size,fun k hk=>(hW.cell (p:=⟨b,_,none⟩) h1).trans (h2 k hk)⟩
 exact NE _ (j-i) c _ W (by rw[VL,VQ];omega) h7 hb2 (fun x hx=>hv x (VW (VR hx)))
theorem Z8t (W:World)(X:Nat)(T:TypeId)(o0 o1 o2 o3 o4 o5 o6 o7 v0 v1 v2 v3 v4:Value)(h:W.heap[X]? =some (.cells #[o0,o1,o2,o3,o4,o5,o6,o7] T (0,0))):
 (W.setCells X 0 [v0,v1,v2,v3,v4]).heap[X]? =some (.cells #[v0,v1,v2,v3,v4,o5,o6,o7] T (0,0))/\W.grownBy (W.setCells X 0 [v0,v1,v2,v3,v4]) (some X):=by
 have h0:=heap_setCell_same W X 0 _ _ v0 h;have h1:=heap_setCell_same _ X 1 _ _ v1 h0;have h2:=heap_setCell_same _ X 2 _ _ v2 h1;have h3:=heap_setCell_same _ X 3 _ _ v3 h2;have h4:=heap_setCell_same _ X 4 _ _ v4 h3;exact⟨h4,Aj (Aj (Aj (Aj (Ad _ _ _ _) (Ad _ _ _ _)) (Ad _ _ _ _)) (Ad _ _ _ _)) (Ad _ _ _ _)⟩
theorem RF {W:World}{X:Nat}{T:TypeId}{o0 o1 o2 o3 o4 o5 o6 o7:Value}(h:W.heap[X]? =some (.cells #[o0,o1,o2,o3,o4,o5,o6,o7] T (0,0))):W.there X 0 5:=by
 intro j hj;refine⟨?_,frozen_of_row W X _ _ _ h⟩;rw[WG,Ac h]
 rcases(by omega:j=0\/j=1\/j=2\/j=3\/j=4)with rfl|rfl|rfl|rfl|rfl<;>rfl
theorem Yv {B:Nat}{a w:World}(h:Below B a w){g:Nat}(hg:B<=g)(cs:Array Value):Below B a (w.setRow g cs):=
 ⟨h.os,h.tape,h.output,by simp;exact h.size,fun k hk=>(Go.setRow_other w g k cs (by omega)).trans (h.block k hk)⟩
theorem Tu (bs:List Nat)(p m k:Nat)(h:k<=m):((bs.drop p).take m).drop k=(bs.drop (p+k)).take (m-k):=by
 rw[List.drop_take,YK]
end Go.Proofs.YtleocpdblhbimaaGreatDoor
