import Derived.Test.YtleocpdblhbimaaGreatDoorQ5
import Derived.Lib.ConvBytes
import Derived.Deep.RegionHeld3
set_option linter.unusedSimpArgs false
set_option linter.unusedVariables false
set_option maxRecDepth 100000
set_option maxHeartbeats 2000000
namespace Go.Proofs.YtleocpdblhbimaaGreatDoor
open Go.RowKit
structure EWd (x:En):Prop where
 st:0<=x.f.stamp/\x.f.stamp<4294967296
 nd:0<=x.f.node/\x.f.node<65536
 nm:x.f.name.length<=12000
 bl:x.f.bytes.length<=12000
 pl:x.pk.length<=12000
 cr:x.crc<4294967296
 mt:x.meth<65536
theorem CU:∀(l:List En),(∀x∈l,EWd x)->(Av l).length<=24041*l.length
 | [],_=>by simp[Av]
 |x::r,h=>by have H:=CU r (fun y E=>h y (WR _ E));have G:=(h x oS).nm;have F:=(h x oS).pl;rw[Av,VE,Kc,VJ];omega
theorem Zu:∀(l:List En) (p:Nat),(∀x∈l,EWd x)->(Ao p l).length<=12057*l.length
 | [],p,_=>by simp[Ao]
 |x::r,p,h=>by have G:=Zu r (p+(Vr x).length) (fun y E=>h y (WR _ E));have F:=(h x oS).nm;rw[Ao,VE,Lk,VJ];omega
def Ev.rcells (x:Ev):List Value:= [.string (B x.e.f.name),.slice x.fa x.e.f.bytes.length x.fc,.int .i64 x.e.f.stamp,.int .i64 x.e.f.node,.bool x.e.f.gone,.int .i64 (x.e.meth:Int),.slice x.pa x.e.pk.length x.pc,.int .u32 (x.e.crc:Int)]
def Rs (w:World)(b o:Nat)(xs:List Ev):Prop:=∀j x,xs[j]? =some x->∀i,i<8->w.cell? ⟨b,o+j*8+i,none⟩=x.rcells[i]?
structure RsIn (w:World)(ad:Option Addr)(xs:List Ev):Prop where
 at_:xs= []\/∃b o,ad=some ⟨b,o,none⟩/\b<w.heap.size/\Rs w b o xs
 all:∀x∈xs,EvIn w x/\x.e.pk.length<=x.pc
theorem RsIn.get {w w':World}{F:Option Addr}{k:Nat}{xs:List Ev}{x:Ev}(O:RsIn w F xs)(M:Below w.heap.size w w')(G:xs[k]? =some x):∃b o,F=some ⟨b,o,none⟩/\b<w.heap.size/\w'.cell? ⟨b,o+k*8,none⟩=some (.string (B x.e.f.name))/\w'.cell? ⟨b,o+k*8+1,none⟩=some (.slice x.fa x.e.f.bytes.length x.fc)/\w'.cell? ⟨b,o+k*8+2,none⟩=some (.int .i64 x.e.f.stamp)/\w'.cell? ⟨b,o+k*8+3,none⟩=some (.int .i64 x.e.f.node)/\w'.cell? ⟨b,o+k*8+4,none⟩=some (.bool x.e.f.gone)/\w'.cell? ⟨b,o+k*8+5,none⟩=some (.int .i64 (x.e.meth:Int))/\w'.cell? ⟨b,o+k*8+6,none⟩=some (.slice x.pa x.e.pk.length x.pc)/\w'.cell? ⟨b,o+k*8+7,none⟩=some (.int .u32 (x.e.crc:Int)):=by rcases O.at_ with H|⟨b,o,e,hb,I⟩;subst H;simp at G;have E:∀i,i<8->w'.cell? ⟨b,o+k*8+i,none⟩=x.rcells[i]? :=fun i hi=>(World.cell?_of_block (w:=w) (a:=⟨b,_,none⟩) (M.block b hb)).trans (I k x G i hi);exact⟨b,o,e,hb,E 0 od,E 1 od,E 2 od,E 3 od,E 4 od,E 5 od,E 6 od,E 7 od⟩
theorem PIn.sized {w:World}{v:Value}{bs:List Nat}(E:PIn w v bs):∃a l c,v=.slice a l c/\bs.length=l:=by obtain⟨a,c,e,_⟩:=E;exact⟨a,_,c,e,rfl⟩
theorem RQ (w:World)(e:TypeId)(s:ByteArray):Below w.heap.size w (Lib.bytesWorld w e s):=by refine⟨?_, ?_, ?_,by rw[Lib.bytesWorld_size];omega,fun k E=>Lib.bytesWorld_at_old w e s k E⟩;simp[Lib.bytesWorld,World.freeze];rfl;simp[Lib.bytesWorld,World.freeze];simp[Lib.bytesWorld,World.freeze];rfl
theorem QZ (w:World)(l:List UInt8):PIn (Lib.bytesWorld w 5 (B l)) (.slice (some ⟨w.heap.size,0,none⟩) (B l).size (grownCap w (B l).size 0 5)) (n8 l):=by refine⟨some ⟨w.heap.size,0,none⟩,_,by rw[Da,Im],by rw[Da];exact VU (ZV (Im l).symm) (grownCap_ge _ _ _ _),.inr ⟨_,_,rfl,by rw[Lib.bytesWorld_size];omega,fun j E=> ?_⟩,fun e=>by cases e⟩;rw[Da]at E;rw[WG,Lib.bytesWorld_cell w _ _ j (by rw[Im];exact E)];simp[B,n8,List.getD,E]
def cvW (w:World)(nm:ByteArray):World:=Lib.bytesWorld w 5 nm
def cvA (w:World):Option Addr:=some ⟨w.heap.size,0,none⟩
def cvL (nm:ByteArray):Nat:=nm.size
def cvC (w:World)(nm:ByteArray):Nat:=grownCap w nm.size 0 5
theorem Z2z (E:ByteArray):∀W:World,(convert 9 23 (.string E)).run Tryz.prog W=.ok (.slice (cvA W) (cvL E) (cvC W E)) (cvW W E):=fun W=>
 Lib.run_convert_string_bytes (P:=Tryz.prog) W 9 23 5 E Tryz.underlying9 Tryz.underlying23 Tryz.underlying5
theorem Sj (W:World)(E:ByteArray)(nml:List UInt8)(F:B nml=E):PIn (cvW W E) (.slice (cvA W) (cvL E) (cvC W E)) (n8 nml)/\Below W.heap.size W (cvW W E):=by subst F;exact⟨QZ W nml,RQ W _ _⟩
theorem PIn.slice {w:World}{v:Value}{bs:List Nat}(E:PIn w v bs):∃a l c,v=.slice a l c:=by obtain⟨a,c,e,_⟩:=E;exact⟨a,_,c,e⟩
theorem C5 {k:Nat}{l:List En}{nml bys:List UInt8}{st nd:Nat}{gn:Bool}{mt:Nat}{pk:List Nat}{cr G E F H:Nat}(U:l.take (k+1)=l.take k++ [⟨⟨nml,bys,(st:Int),(nd:Int),gn⟩,mt,pk,cr⟩])(O:nml.length=G)(I:bys.length=E)(T:pk.length=F)(M:(Av (l.take k)).length=H):Av (l.take (k+1))=([Av (l.take k),Ag 67324752 4,([Ag 20 2,Ag 0 2,Ag mt 2,Ag 0 4,Ag cr 4,Ag F 4,Ag E 4,Ag G 2,Ag 11 2]:List (List Nat)).flatten,n8 nml,([Ag 29297 2,Ag 7 2,Ag st 4,Ag nd 2,Ag (Ed gn) 1]:List (List Nat)).flatten,pk]:List (List Nat)).flatten/\Ao 0 (l.take (k+1))=([Ao 0 (l.take k),Ag 33639248 4,Ag 20 2,([Ag 20 2,Ag 0 2,Ag mt 2,Ag 0 4,Ag cr 4,Ag F 4,Ag E 4,Ag G 2,Ag 11 2]:List (List Nat)).flatten,Ag 0 10,Ag H 4,n8 nml,([Ag 29297 2,Ag 7 2,Ag st 4,Ag nd 2,Ag (Ed gn) 1]:List (List Nat)).flatten]:List (List Nat)).flatten:=by subst O I T M;rw[U,J3,Uq];constructor;simp[Vr,To,Jj];simp[Qo,To,Jj]
theorem Z9k (E:List Nat)(nml:List UInt8)(mt cr H G I st nd:Nat)(gn:Bool)(F:Nat)(O:E.length<=12057*12)(M:nml.length<=12000):([E,Ag 33639248 4,Ag 20 2,([Ag 20 2,Ag 0 2,Ag mt 2,Ag 0 4,Ag cr 4,Ag H 4,Ag G 4,Ag I 2,Ag 11 2]:List (List Nat)).flatten,Ag 0 10,Ag F 4,n8 nml,([Ag 29297 2,Ag 7 2,Ag st 4,Ag nd 2,Ag (Ed gn) 1]:List (List Nat)).flatten]:List (List Nat)).flatten.length<=281474976710656:=by simp[Ai,Da];omega
theorem Z9j (E pk:List Nat)(nml:List UInt8)(mt cr G F H st nd:Nat)(gn:Bool)(O:E.length<=24041*12)(I:nml.length<=12000)(M:pk.length<=12000):([E,Ag 67324752 4,([Ag 20 2,Ag 0 2,Ag mt 2,Ag 0 4,Ag cr 4,Ag G 4,Ag F 4,Ag H 2,Ag 11 2]:List (List Nat)).flatten,n8 nml,([Ag 29297 2,Ag 7 2,Ag st 4,Ag nd 2,Ag (Ed gn) 1]:List (List Nat)).flatten,pk]:List (List Nat)).flatten.length<=281474976710656:=by simp[Ai,Da];omega
theorem Z8f (E F:List Nat)(n H G:Nat)(M:E.length<=24041*12)(I:F.length<=12057*12):([E,F,Ag 101010256 4,Ag 0 4,Ag n 2,Ag n 2,Ag H 4,Ag G 4,Ag 0 2]:List (List Nat)).flatten.length<=281474976710656:=by simp[Ai];omega
theorem Z23 {n E F:Nat}{l:List En}(M:l.take n=l)(I:l.length=n)(H:(Av (l.take n)).length=E)(G:(Ao 0 (l.take n)).length=F):Be l=([Av (l.take n),Ao 0 (l.take n),Ag 101010256 4,Ag 0 4,Ag n 2,Ag n 2,Ag F 4,Ag E 4,Ag 0 2]:List (List Nat)).flatten:=by subst H G I;rw[M];simp[Be,Pm]
def unpD (m:Nat)(pk:List Nat):Option (List Nat):=
 if m=0 then some pk
 else if m=8 then (if (Oh (rowB pk pk.length)).e=0/\((Oh (rowB pk pk.length)).p+7)/8=pk.length/\pk.length<=6000 then some (Oh (rowB pk pk.length)).out else none)
 else none
def Dh (r:List Nat)(i j:Nat):Nat:=Ak ((r.drop i).take (j-i))
theorem Dm {r:List Nat}(E:∀y∈r,y<256){i j k:Nat}(G:j-i=k):Dh r i j<256^k:=by unfold Dh;rw[G];have H:=Jx ((r.drop i).take k) (fun y F=>E y (VW (VR F)));exact VG H (VO od (by rw[VL];omega))
def JR (b:List Nat)(at_:Nat)(r:List Nat):Option (En×List Nat):=
 if r.length<46 then none
 else if r.length<46+Dh r 28 30+11\/at_<Dh r 42 46+30+Dh r 28 30+11+Dh r 20 24 then none
 else (unpD (Dh r 10 12) ((b.drop (Dh r 42 46+30+Dh r 28 30+11)).take (Dh r 20 24))).bind fun ys=>
  some (⟨⟨o8 ((r.drop 46).take (Dh r 28 30)),o8 ys,(Dh ((r.drop (46+Dh r 28 30)).take 11) 4 8:Nat),(Dh ((r.drop (46+Dh r 28 30)).take 11) 8 10:Nat),decide (((r.drop (46+Dh r 28 30)).take 11).getD 10 0=1)⟩,Dh r 10 12,(b.drop (Dh r 42 46+30+Dh r 28 30+11)).take (Dh r 20 24),Dh r 16 20⟩,r.drop (46+Dh r 28 30+11))
def Np (b:List Nat)(at_:Nat):Nat->List Nat->Option (List En)
 |0,_=>some []
 |k+1,r=>(JR b at_ r).bind fun x=>(Np b at_ k x.2).map (x.1:: ·)
def Tt (b:List Nat):Option (List En):=
 if b.length<22 then none
 else if 12<Dh (b.drop (b.length-22)) 8 10\/Dh (b.drop (b.length-22)) 16 20+Dh (b.drop (b.length-22)) 12 16+22≠b.length then none
 else Np b (Dh (b.drop (b.length-22)) 16 20) (Dh (b.drop (b.length-22)) 8 10) ((b.drop (Dh (b.drop (b.length-22)) 16 20)).take (Dh (b.drop (b.length-22)) 12 16))
theorem Z78 (p x q:List Nat){i j:Nat}(F:p.length=i)(E:x.length=j-i):Dh (p++(x++q)) i j=Ak x:=by unfold Dh;rw[YT F,YS E]
theorem Hb {n k i j:Nat}(p q:List Nat)(F:p.length=i)(E:k=j-i)(G:n<256^k):Dh (p++(Ag n k++q)) i j=n:=by rw[Z78 p _ q F (by rw[Ai];exact E),Cu k n G]
structure EOkD (x:En):Prop where
 st:0<=x.f.stamp/\x.f.stamp<4294967296
 nd:0<=x.f.node/\x.f.node<65536
 nm:x.f.name.length<65536
 pl:x.pk.length<4294967296
 cr:x.crc<4294967296
 mt:x.meth<65536
 un:unpD x.meth x.pk=some (n8 x.f.bytes)
theorem Z1t (b:List Nat)(H p:Nat)(x:En)(t:List Nat)(E:EOkD x)(M:p<4294967296)(af:p+41+x.f.name.length+x.pk.length<=H) (ae:(b.drop (p+30+x.f.name.length+11)).take x.pk.length=x.pk):JR b H (Qo x p++t)=some (x,t):=by obtain⟨⟨Z,st1⟩,⟨ac,ag⟩,nm,pl,cr,mt,un⟩:=E;(have e:Qo x p++t=Ag 33639248 4++(Ag 20 2++(Ag 20 2++(Ag 0 2++(Ag x.meth 2++(Ag 0 4++(Ag x.crc 4++(Ag x.pk.length 4++(Ag x.f.bytes.length 4++(Ag x.f.name.length 2++(Ag 11 2++(Ag 0 10++(Ag p 4++(n8 x.f.name++(Jj x++t)))))))))))))):=by simp only[Qo,To,VS]);(have c1:Dh (Qo x p++t) 10 12=x.meth:=by rw[e,show ∀a b c d r:List Nat,a++(b++(c++(d++r)))=(a++(b++(c++d)))++r from fun a b c d r=>oS];exact Hb _ _ (by simp[Ai]) rfl mt);(have c2:Dh (Qo x p++t) 16 20=x.crc:=by rw[e,show ∀a b c d f g r:List Nat,a++(b++(c++(d++(f++(g++r)))))=(a++(b++(c++(d++(f++g)))))++r from fun a b c d f g r=>oS];exact Hb _ _ (by simp[Ai]) rfl cr);(have T:Dh (Qo x p++t) 20 24=x.pk.length:=by rw[e,show ∀a b c d f g E r:List Nat,a++(b++(c++(d++(f++(g++(E++r))))))=(a++(b++(c++(d++(f++(g++E))))))++r from fun a b c d f g E r=>oS];exact Hb _ _ (by simp[Ai]) rfl pl);(have O:Dh (Qo x p++t) 28 30=x.f.name.length:=by rw[e,show ∀a b c d f g E i j r:List Nat,a++(b++(c++(d++(f++(g++(E++(i++(j++r))))))))=(a++(b++(c++(d++(f++(g++(E++(i++j))))))))++r from fun a b c d f g E i j r=>oS];exact Hb _ _ (by simp[Ai]) rfl nm);(have U:Dh (Qo x p++t) 42 46=p:=by rw[e,show ∀a b c d f g E i j k l m r:List Nat,a++(b++(c++(d++(f++(g++(E++(i++(j++(k++(l++(m++r)))))))))))=(a++(b++(c++(d++(f++(g++(E++(i++(j++(k++(l++m)))))))))))++r from fun a b c d f g E i j k l m r=>oS];exact Hb _ _ (by simp[Ai]) rfl M);(have G:(Qo x p++t).drop 46=n8 x.f.name++(Jj x++t):=by rw[e,show ∀a b c d f g E i j k l m n r:List Nat,a++(b++(c++(d++(f++(g++(E++(i++(j++(k++(l++(m++(n++r))))))))))))=(a++(b++(c++(d++(f++(g++(E++(i++(j++(k++(l++(m++n))))))))))))++r from fun a b c d f g E i j k l m n r=>oS];exact YT (by simp[Ai]));(have F:(Qo x p++t).drop (46+x.f.name.length)=Jj x++t:=by rw[<-YK,G,YT (Da _)]);(have aa:(Qo x p++t).drop (46+x.f.name.length+11)=t:=by rw[<-YK,F,YT (Ie x)]);have Y:(Jj x++t).take 11=Jj x:=YS (Ie x);(have hl:(Qo x p++t).length=57+x.f.name.length+t.length:=by rw[VE,Lk]);unfold JR;rw[if_neg (by rw[hl];omega),O,U,T,if_neg (by rw[hl];omega),c1,ae,un,VF,c2,F,Y,aa,G,YS (Da _),FQ,FQ];(have x1:Dh (Jj x) 4 8=x.f.stamp.toNat:=by(have e2:Jj x=(Ag 29297 2++Ag 7 2)++(Ag x.f.stamp.toNat 4++(Ag x.f.node.toNat 2++Ag (Ed x.f.gone) 1)):=by simp[Jj]);rw[e2];exact Hb _ _ (by simp[Ai]) rfl (by show _<4294967296;omega));(have x2:Dh (Jj x) 8 10=x.f.node.toNat:=by(have e2:Jj x=(Ag 29297 2++(Ag 7 2++Ag x.f.stamp.toNat 4))++(Ag x.f.node.toNat 2++Ag (Ed x.f.gone) 1):=by simp[Jj]);rw[e2];exact Hb _ _ (by simp[Ai]) rfl (by show _<65536;omega));(have I:(Jj x).getD 10 0=Ed x.f.gone:=by(have e2:Jj x=(Ag 29297 2++(Ag 7 2++(Ag x.f.stamp.toNat 4++Ag x.f.node.toNat 2)))++Ag (Ed x.f.gone) 1:=by simp[Jj]);rw[e2,WZ,VX (by simp[Ai])];cases x.f.gone<;>simp[Ag,Ed]);(have x3:decide ((Jj x).getD 10 0=1)=x.f.gone:=by rw[I];cases x.f.gone<;>rfl);have y1:((x.f.stamp.toNat:Nat):Int)=x.f.stamp:=YU Z;have y2:((x.f.node.toNat:Nat):Int)=x.f.node:=YU ac;rw[x1,x2,x3,y1,y2]
theorem Sh (b:List Nat)(F:Nat):∀(l:List En) (E:List Nat) (t:List Nat),(∀x∈l,EOkD x)->b=E++(Av l++t)->F=E.length+(Av l).length->F<4294967296->∀s,Np b F l.length (Ao E.length l++s)=some l
 | [],E,t,_,_,_,_,s=>rfl
 |x::l,E,t,h,hb,ha,hlt,s=>by have M:=h x oS;have O:=Kc x;rw[Av,VE]at ha;(have I:Ao E.length (x::l)++s=Qo x E.length++(Ao (E++Vr x).length l++s):=by rw[Ao,VS,VE]);(have e2:b=(E++Vr x)++(Av l++t):=by rw[hb,Av];simp);(have e3:(b.drop (E.length+30+x.f.name.length+11)).take x.pk.length=x.pk:=by(have H:b=(E++(Ag 67324752 4++To x++n8 x.f.name++Jj x))++(x.pk++(Av l++t)):=by rw[e2,Vr];simp);rw[H,YT (by simp[Ai,Ly,Ie,Da];omega),YS rfl]);rw[VJ,Np,I,Z1t b F E.length x _ M om om e3,VF];dsimp only;rw[Sh b F l (E++Vr x) t (fun y G=>h y (WR _ G)) e2 (by rw[VE];omega) hlt s];rfl
theorem PY (l:List En)(I:∀x∈l,EOkD x)(M:l.length<=12)(O:(Be l).length<4294967296):Tt (Be l)=some l:=by(have E:(Be l).length=(Av l).length+(Ao 0 l).length+22:=by unfold Be;rw[VE,VE,Pl]);(have H:(Be l).drop ((Be l).length-22)=Pm l.length (Ao 0 l).length (Av l).length:=by(have:(Be l).length-22=(Av l++Ao 0 l).length:=by rw[E,VE];omega);rw[this];unfold Be;rw[List.drop_left]);(have c1:Dh (Pm l.length (Ao 0 l).length (Av l).length) 8 10=l.length:=by(have e:Pm l.length (Ao 0 l).length (Av l).length=(Ag 101010256 4++Ag 0 4)++(Ag l.length 2++(Ag l.length 2++(Ag (Ao 0 l).length 4++(Ag (Av l).length 4++Ag 0 2)))):=by simp[Pm]);rw[e];exact Hb _ _ (by simp[Ai]) rfl (by show _<65536;omega));(have c2:Dh (Pm l.length (Ao 0 l).length (Av l).length) 12 16=(Ao 0 l).length:=by(have e:Pm l.length (Ao 0 l).length (Av l).length=(Ag 101010256 4++(Ag 0 4++(Ag l.length 2++Ag l.length 2)))++(Ag (Ao 0 l).length 4++(Ag (Av l).length 4++Ag 0 2)):=by simp[Pm]);rw[e];exact Hb _ _ (by simp[Ai]) rfl (by show _<4294967296;omega));(have G:Dh (Pm l.length (Ao 0 l).length (Av l).length) 16 20=(Av l).length:=by(have e:Pm l.length (Ao 0 l).length (Av l).length=(Ag 101010256 4++(Ag 0 4++(Ag l.length 2++(Ag l.length 2++Ag (Ao 0 l).length 4))))++(Ag (Av l).length 4++Ag 0 2):=by simp[Pm]);rw[e];exact Hb _ _ (by simp[Ai]) rfl (by show _<4294967296;omega));unfold Tt;rw[if_neg om,H,c1,c2,G,if_neg om];(have F:((Be l).drop (Av l).length).take (Ao 0 l).length=Ao 0 l:=by unfold Be;rw[VS,YT rfl,YS rfl]);rw[F];have:=Sh (Be l) (Av l).length l [] (Ao 0 l++Pm l.length (Ao 0 l).length (Av l).length) I (by unfold Be;simp) oS om [];rw[XA]at this;exact this
def rcellsL (xs:List Ev):List Value:=xs.flatMap Ev.rcells
theorem T9 (xs:List Ev):(rcellsL xs).length=xs.length*8:=by
 induction xs with
 |nil=>rfl
 |cons x r ih=>have:rcellsL (x::r)=x.rcells++rcellsL r:=rfl;rw[this,VE,ih,VJ];show 8+_=_;omega
theorem U8 (xs ys:List Ev):rcellsL (xs++ys)=rcellsL xs++rcellsL ys:=by simp[rcellsL]
theorem T8 (y:Ev):rcellsL [y]=y.rcells:=by simp[rcellsL]
theorem Vc:∀(xs:List Ev) (j:Nat) (x:Ev) (i:Nat),xs[j]? =some x->i<8->(rcellsL xs)[j*8+i]? =x.rcells[i]?
 | [],j,x,i,h,_=>by simp at h
 |y::r,0,x,i,h,hi=>by have:rcellsL (y::r)=y.rcells++rcellsL r:=rfl;simp at h;subst h;rw[this,YJ,WG,WN (show i<8 from hi)]
 |y::r,j+1,x,i,h,hi=>by have e:rcellsL (y::r)=y.rcells++rcellsL r:=rfl;have hl:y.rcells.length=8:=rfl;have ih:=Vc r j x i (by simpa using h) hi;rw[e,VX (by rw[hl];omega),hl,show (j+1)*8+i-8=j*8+i by omega,ih]
theorem T7 (y:Ev):∀u∈y.rcells,u.oneCell'=true:=by intro u E;simp only[Ev.rcells,WH,XE,or_false]at E;rcases E with rfl|rfl|rfl|rfl|rfl|rfl|rfl|rfl<;>rfl
def EvR (w:World)(x:Ev):Prop:=EvIn w x/\x.e.pk.length<=x.pc
theorem EvR.below {w w':World}{x:Ev}(E:EvR w x)(F:Below w.heap.size w w'):EvR w' x:=⟨E.1.below F,E.2⟩
structure RRow (w:World)(B:Nat)(v:Value)(xs:List Ev):Prop where
 own:w.ownsRow B 37 8 v xs.length (rcellsL xs)
 all:∀x∈xs,EvR w x
 apart:∀x∈xs,x.lies (fun g=>some g≠v.ownBlock)
theorem RRow.nil (w:World)(B:Nat):RRow w B (.slice none 0 0) []:=⟨World.ownsRow_nil _ _ _ _,(fun x E=>absurd E XE),(fun x E=>absurd E XE)⟩
theorem RRow.below {w w':World}{B:Nat}{v:Value}{xs:List Ev}(E:RRow w B v xs)(F:Below w.heap.size w w'):RRow w' B v xs:=
 ⟨Au E.own (fun g H=>F.block g (E.own.lt g H).2),fun x G=>(E.all x G).below F,E.apart⟩
theorem OH:(Tryz.prog.info? 37).map (fun i=>(i.zero,i.size,i.bytes))=some (some (.agg #[.string ⟨#[]⟩,.slice none 0 0,.int .i64 0,.int .i64 0,.bool false,.int .i64 0,.slice none 0 0,.int .u32 0]),8,104):=oR
theorem Kz (w:World){U:Array Oper}{T:List Oper}{o:Oper}{a:Act}{Q:Exit->Act->World->Prop}(aj:o.guard=none)(s x:Operand) (ac:o.op=.call {callee:=.builtin .append,args:= #[s,x],argTypes:= #[31,31]}) (H:Nat) (v:Value) (xs:List Ev) (ap:a.eval s=v) (M:RRow w H v xs) (F:Nat) (y:Ev) (ar:a.eval x=.slice (some ⟨F,0,none⟩) 1 1) (ai:∀j u,y.rcells[j]? =some u->w.cell? ⟨F,j,none⟩=some u) (Z:EvR w y) (ak:y.lies (fun F=>some F≠v.ownBlock)) (au:xs.length+1<=100000) (ae:H<=w.heap.size) (h:∀v' w',Hid (RRow w' H v' (xs++ [y]))->Hid (w.grownBy w' v.ownBlock)->wpList Tryz.prog U Q T (a.put o.dst v') w'):wpList Tryz.prog U Q (o::T) a w:=by obtain⟨ao,hi,al,af,ag⟩:=info_parts OH;refine wpList_append_own_at w aj s x 31 ac H 37 ao _ 8 104 Tryz.underlying31 hi al af ag rfl od v xs.length (rcellsL xs) ap M.own ⟨F,0,none⟩ 1 1 y.rcells ar rfl ?_ (T7 y) ou om ae ?_;intro j u ah;(have e2:(⟨F,0,none⟩:Addr).add j=⟨F,j,none⟩:=by unfold Addr.add;split<;>simp_all);rw[e2];exact ai j u ah;intro v' w' aa Y _ G;(have O:∀z∈xs++ [y],z.lies (fun F=>some F≠v.ownBlock):=by intro z E;rcases WP.1 E with E|E;exact M.apart z E;rw[WO.1 E];exact ak);(have I:∀z∈xs++ [y],EvR w z:=by intro z E;rcases WP.1 E with E|E;exact M.all z E;rw[WO.1 E];exact Z);refine h v' w' (Ab ⟨?_,fun z E=>⟨(I z E).1.grown Y (O z E),(I z E).2⟩,fun z E=> ?_⟩) (Ab Y);rw[U8,T8,VE];exact aa;have hl:=(I z E).1.lt;have hn:=O z E;rcases G with G|G;rw[G];exact hn;rw[G];exact hl.mono (fun F av e=>by have:=VM e;omega)
theorem RRow.entries {w:World}{B:Nat}{v:Value}{xs:List Ev}(F:RRow w B v xs):∃ad c,v=.slice ad xs.length c/\RsIn w ad xs:=by(rcases F.own.2 with ⟨E,G⟩|⟨g,cap,cur,E,G,O,T,U⟩);exact⟨none,0,by rw[E,G],.inl (WV G),F.all⟩;refine⟨some ⟨g,0,none⟩,cap,E,.inr ⟨g,0,rfl,(F.own.lt g (by rw[E];rfl)).2,fun j x H i hi=> ?_⟩,F.all⟩;have I:=F.own;rw[E]at I;have hl:=T9 xs;have M:=(XT.1 H).1;rw[WG,I.cellAt _ om];exact Vc xs j x i H hi
theorem Z68 (F o n E i j:Nat)(U:i<=j)(Z:j<=n)(Y:n<=E)(T:i<E)(W:World):(Instr.slice 23 (.slice (some ⟨F,o,none⟩) n E) (some (.int .i64 (i:Int))) (some (.int .i64 (j:Int))) none).run Tryz.prog W=.ok (.slice (some ⟨F,o+i,none⟩) (j-i) (E-i)) W:=by have O:=Tryz.sizeOf5;have M:=Tryz.underlying23;have I:(i:Int)<=(j:Int):=om;have G:(j:Int)<=(E:Int):=om;have H:¬E=i:=om;simp[go_sem,M,O,I,G,H]
theorem Gq (F o n E i j:Nat)(G J:Int)(H:Nat)(T:G=(i:Int))(Z:J=(j:Int))(M:i<=j)(Y:j<=n)(O:n<=E)(I:i<E)(U:j-i=H)(W:World):(Instr.slice 23 (.slice (some ⟨F,o,none⟩) n E) (some (.int .i64 G)) (some (.int .i64 J)) none).run Tryz.prog W=.ok (.slice (some ⟨F,o+i,none⟩) H (E-i)) W:=by subst T Z U;exact Z68 F o n E i j M Y O I W
theorem Sk {w:World}{E o:Nat}{bs:List Nat}(H:E<w.heap.size)(G:∀j,j<bs.length->w.cell? ⟨E,o+j,none⟩=some (.int .u8 ((bs.getD j 0:Nat):Int)))(i k:Nat):BytesIn w (some ⟨E,o+i,none⟩) ((bs.drop i).take k):=by refine .inr ⟨E,o+i,rfl,H,fun j I=> ?_⟩;(have F:j<k/\i+j<bs.length:=by rw[VL,VQ]at I;omega);(have e2:((bs.drop i).take k).getD j 0=bs.getD (i+j) 0:=by simp only[List.getD];rw[XX F.1,XJ]);rw[e2,WT];exact G (i+j) F.2
theorem Z2h (G o n E i:Nat)(F:Int)(H:Nat)(O:F=(i:Int))(aa:i<=n)(ac:n<=E)(Z:i<E)(T:n-i=H)(W:World):(Instr.slice 23 (.slice (some ⟨G,o,none⟩) n E) (some (.int .i64 F)) none none).run Tryz.prog W=.ok (.slice (some ⟨G,o+i,none⟩) H (E-i)) W:=by subst O T;have Y:=Tryz.sizeOf5;have U:=Tryz.underlying23;have M:(i:Int)<=(n:Int):=om;have I:¬E=i:=om;simp[go_sem,U,Y,M,I]
theorem Cw {w:World}{E o:Nat}{bs:List Nat}(Y:E<w.heap.size)(aa:∀j,j<bs.length->w.cell? ⟨E,o+j,none⟩=some (.int .u8 ((bs.getD j 0:Nat):Int)))(O:∀x∈bs,x<256)(i j F c:Nat)(U:j-i=F)(ah:j<=bs.length)(M:F<=7)(ag:i<=j):∀W:World,Below w.heap.size w W->Calls Tryz.prog 38 #[.slice (some ⟨E,o+i,none⟩) F c] W fun e w'=>e=.returned (.int .i64 ((Dh bs i j:Nat):Int))/\w'=W:=by intro W H;subst U;have hb:=Sk Y aa i (j-i);(have ac:BytesIn W (some ⟨E,o+i,none⟩) ((bs.drop i).take (j-i)):=by rcases hb with af|⟨b,Z,e,G,I⟩;exact .inl af;exact .inr ⟨b,Z,e,VG G H.size,fun k T=>(H.cell (p:=⟨b,_,none⟩) G).trans (I k T)⟩);exact NE _ (j-i) c _ W (by rw[VL,VQ];omega) M ac (fun x ae=>O x (VW (VR ae)))
theorem Z8t (W:World)(X:Nat)(T:TypeId)(ai aa ag aj ah M O U I F H E G:Value)(h:W.heap[X]? =some (.cells #[ai,aa,ag,aj,ah,M,O,U] T (0,0))):(W.setCells X 0 [I,F,H,E,G]).heap[X]? =some (.cells #[I,F,H,E,G,M,O,U] T (0,0))/\W.grownBy (W.setCells X 0 [I,F,H,E,G]) (some X):=by have ac:=heap_setCell_same W X 0 _ _ I h;have Z:=heap_setCell_same _ X 1 _ _ F ac;have ae:=heap_setCell_same _ X 2 _ _ H Z;have af:=heap_setCell_same _ X 3 _ _ E ae;have Y:=heap_setCell_same _ X 4 _ _ G af;exact⟨Y,Aj (Aj (Aj (Aj (Ad _ _ _ _) (Ad _ _ _ _)) (Ad _ _ _ _)) (Ad _ _ _ _)) (Ad _ _ _ _)⟩
theorem RF {W:World}{X:Nat}{T:TypeId}{U O H Y I M F G:Value}(E:W.heap[X]? =some (.cells #[U,O,H,Y,I,M,F,G] T (0,0))):W.there X 0 5:=by intro j Z;refine⟨?_,frozen_of_row W X _ _ _ E⟩;rw[WG,Ac E];rcases(by omega:j=0\/j=1\/j=2\/j=3\/j=4)with rfl|rfl|rfl|rfl|rfl<;>rfl
theorem Yv {B:Nat}{a w:World}(E:Below B a w){F:Nat}(I:B<=F)(G:Array Value):Below B a (w.setRow F G):=
 ⟨E.os,E.tape,E.output,by simp;exact E.size,fun k H=>(Go.setRow_other w F k G om).trans (E.block k H)⟩
theorem Tu (bs:List Nat)(p m k:Nat)(E:k<=m):((bs.drop p).take m).drop k=(bs.drop (p+k)).take (m-k):=by rw[List.drop_take,YK]
end Go.Proofs.YtleocpdblhbimaaGreatDoor
