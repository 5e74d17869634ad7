import Derived.Test.YtleocpdblhbimaaGreatDoorQ1
import Derived.Lib.ConvBytes
import Derived.Deep.RegionHeld3
import Derived.Laws.BytesArg
import Derived.Lib.Strings
import Derived.Deep.CutBlock
set_option linter.unusedVariables false
set_option linter.unusedSimpArgs false
set_option maxRecDepth 100000
set_option maxHeartbeats 8000000
namespace Go.Proofs.YtleocpdblhbimaaGreatDoor
open Go.RowKit Go.Proofs.Tryz
open Go.Value (int)
open Go.IntKind (i64)
variable{ag:Array Oper}{gn:Bool}{Q:Exit->Act->World->Prop}{row:List Bool}{bs pk ys:List Nat}{al:List Oper}{au:List Value}{G X aa ac ai c cr d g i j k m mt n nd st:Nat}{o:Oper}{a ah:Option Addr}{u:US}{E I a3 a4 a5 a6 ay az v:Value}{W w w':World}
structure EWd (x:En):Prop where
 st:0<=x.f.stamp/\x.f.stamp<4294967296
 nd:0<=x.f.node/\x.f.node<65536
 nm:x.f.name.length<=12000
 bl:x.f.bytes.length<=12000
 pl:x.pk.length<=12000
 cr:x.crc<4294967296
 mt:x.meth<65536
theorem JL:∀(l:List En),(∀x∈l,EWd x)->(Au l).length<=24041*l.length
 | [],_=>by simp[Au]
 |x::r,h=>by have G:=JL r (fun y E=>h y (WL _ E));have H:=(h x oS).nm;have I:=(h x oS).pl;rw[Au,VB,Lf,VG];omega
theorem O4:∀(l:List En) (p:Nat),(∀x∈l,EWd x)->(Ao p l).length<=12057*l.length
 | [],p,_=>by simp[Ao]
 |x::r,p,h=>by have G:=O4 r (p+(Vw x).length) (fun y E=>h y (WL _ E));have H:=(h x oS).nm;rw[Ao,VB,My,VG];omega
def Ev.rcells (x:Ev):List Value:= [.string (B x.e.f.name),.slice x.fa x.e.f.bytes.length x.fc,int i64 x.e.f.stamp,int i64 x.e.f.node,.bool x.e.f.gone,int i64 (x.e.meth:Int),.slice x.pa x.e.pk.length x.pc,int .u32 (x.e.crc:Int)]
variable{es:List Ev}
def Rs (w:World)(b o:Nat)(xs:List Ev):Prop:=∀j x,xs[j]? =some x->∀i,i<8->w.cell? ⟨b,o+j*8+i,none⟩=x.rcells[i]?
structure RsIn (w:World)(ad:Option Addr)(xs:List Ev):Prop where
 at_:xs= []\/∃b o,ad=some ⟨b,o,none⟩/\b<w.heap.size/\Rs w b o xs
 all:∀x∈xs,EvIn w x/\x.e.pk.length<=x.pc
theorem RsIn.get {xs:List Ev}{x:Ev}(h:RsIn w ah xs)(O:Below w.heap.size w w')(G:xs[k]? =some x):∃b o,ah=some ⟨b,o,none⟩/\b<w.heap.size/\w'.cell? ⟨b,o+k*8,none⟩=some (.string (B x.e.f.name))/\w'.cell? ⟨b,o+k*8+1,none⟩=some (.slice x.fa x.e.f.bytes.length x.fc)/\w'.cell? ⟨b,o+k*8+2,none⟩=some (int i64 x.e.f.stamp)/\w'.cell? ⟨b,o+k*8+3,none⟩=some (int i64 x.e.f.node)/\w'.cell? ⟨b,o+k*8+4,none⟩=some (.bool x.e.f.gone)/\w'.cell? ⟨b,o+k*8+5,none⟩=some (int i64 (x.e.meth:Int))/\w'.cell? ⟨b,o+k*8+6,none⟩=some (.slice x.pa x.e.pk.length x.pc)/\w'.cell? ⟨b,o+k*8+7,none⟩=some (int .u32 (x.e.crc:Int)):=by rcases h.at_ with I|⟨b,o,e,hb,H⟩;subst I;simp at G;have E:∀i,i<8->w'.cell? ⟨b,o+k*8+i,none⟩=x.rcells[i]? :=fun i hi=>(kaj (w:=w) (a:=⟨b,_,none⟩) (O.block b hb)).trans (H k x G i hi);exact⟨b,o,e,hb,E 0 od,E 1 od,E 2 od,E 3 od,E 4 od,E 5 od,E 6 od,E 7 od⟩
theorem PIn.sized (h:PIn w v bs):∃a l c,v=.slice a l c/\bs.length=l:=by obtain⟨a,c,e,_⟩:=h;exact⟨a,_,c,e,rfl⟩
theorem Z2y (w:World)(e:TypeId)(s:ByteArray):Below w.heap.size w (Lib.bytesWorld w e s):=by refine⟨?_, ?_, ?_,by rw[Lib.bytesWorld_size];omega,fun k E=>Lib.bytesWorld_at_old w e s k E⟩;simp[Lib.bytesWorld,World.freeze];rfl;simp[Lib.bytesWorld,World.freeze];simp[Lib.bytesWorld,World.freeze];rfl
theorem Z2h (w:World)(l:List UInt8):PIn (Lib.bytesWorld w 5 (B l)) (.slice (some ⟨w.heap.size,0,none⟩) (B l).size (grownCap w (B l).size 0 5)) (n8 l):=by refine⟨some ⟨w.heap.size,0,none⟩,_,by rw[Cf,Jp],by rw[Cf];exact WJ (UB (Jp l).symm) (grownCap_ge _ _ _ _),.inr ⟨_,_,rfl,by rw[Lib.bytesWorld_size];omega,fun j E=> ?_⟩,fun e=>by cases e⟩;rw[Cf]at E;rw[VY,Lib.bytesWorld_cell w _ _ j (by rw[Jp];exact E)];simp[B,n8,List.getD,E]
def cvW (w:World)(nm:ByteArray):World:=Lib.bytesWorld w 5 nm
def cvA (w:World):Option Addr:=some ⟨w.heap.size,0,none⟩
def cvL (nm:ByteArray):Nat:=nm.size
def cvC (w:World)(nm:ByteArray):Nat:=grownCap w nm.size 0 5
theorem Z7o (E:ByteArray):∀W:World,(convert 9 23 (.string E)).run prog W=.ok (.slice (cvA W) (cvL E) (cvC W E)) (cvW W E):=fun W=>
 Lib.run_convert_string_bytes (P:=prog) W 9 23 5 E underlying9 underlying23 underlying5
theorem Ve (W:World)(E:ByteArray)(nml:List UInt8)(G:B nml=E):PIn (cvW W E) (.slice (cvA W) (cvL E) (cvC W E)) (n8 nml)/\Below W.heap.size W (cvW W E):=by subst G;exact⟨Z2h W nml,Z2y W _ _⟩
theorem PIn.slice (h:PIn w v bs):∃a l c,v=.slice a l c:=by obtain⟨a,c,e,_⟩:=h;exact⟨a,_,c,e⟩
theorem SO {l:List En}{nml bys:List UInt8}(h:l.take (k+1)=l.take k++ [⟨⟨nml,bys,(st:Int),(nd:Int),gn⟩,mt,pk,cr⟩])(I:nml.length=ac)(E:bys.length=G)(O:pk.length=aa)(H:(Au (l.take k)).length=ai):Au (l.take (k+1))=([Au (l.take k),Ah 67324752 4,([Ah 20 2,Ah 0 2,Ah mt 2,Ah 0 4,Ah cr 4,Ah aa 4,Ah G 4,Ah ac 2,Ah 11 2]:List (List Nat)).flatten,n8 nml,([Ah 29297 2,Ah 7 2,Ah st 4,Ah nd 2,Ah (Fy gn) 1]:List (List Nat)).flatten,pk]:List (List Nat)).flatten/\Ao 0 (l.take (k+1))=([Ao 0 (l.take k),Ah 33639248 4,Ah 20 2,([Ah 20 2,Ah 0 2,Ah mt 2,Ah 0 4,Ah cr 4,Ah aa 4,Ah G 4,Ah ac 2,Ah 11 2]:List (List Nat)).flatten,Ah 0 10,Ah ai 4,n8 nml,([Ah 29297 2,Ah 7 2,Ah st 4,Ah nd 2,Ah (Fy gn) 1]:List (List Nat)).flatten]:List (List Nat)).flatten:=by subst I E O H;rw[h,AB,Xv];constructor;simp[Vw,Wt,Kl];simp[Tb,Wt,Kl]
theorem Zeg (E:List Nat)(nml:List UInt8)(mt cr H O G st nd:Nat)(gn:Bool)(I:Nat)(h:E.length<=12057*12)(U:nml.length<=12000):([E,Ah 33639248 4,Ah 20 2,([Ah 20 2,Ah 0 2,Ah mt 2,Ah 0 4,Ah cr 4,Ah H 4,Ah O 4,Ah G 2,Ah 11 2]:List (List Nat)).flatten,Ah 0 10,Ah I 4,n8 nml,([Ah 29297 2,Ah 7 2,Ah st 4,Ah nd 2,Ah (Fy gn) 1]:List (List Nat)).flatten]:List (List Nat)).flatten.length<=281474976710656:=by simp[Ag,Cf];omega
theorem Zef (E pk:List Nat)(nml:List UInt8)(mt cr H I G st nd:Nat)(gn:Bool)(h:E.length<=24041*12)(U:nml.length<=12000)(O:pk.length<=12000):([E,Ah 67324752 4,([Ah 20 2,Ah 0 2,Ah mt 2,Ah 0 4,Ah cr 4,Ah H 4,Ah I 4,Ah G 2,Ah 11 2]:List (List Nat)).flatten,n8 nml,([Ah 29297 2,Ah 7 2,Ah st 4,Ah nd 2,Ah (Fy gn) 1]:List (List Nat)).flatten,pk]:List (List Nat)).flatten.length<=281474976710656:=by simp[Ag,Cf];omega
theorem Zdl (E G:List Nat)(n H I:Nat)(U:E.length<=24041*12)(O:G.length<=12057*12):([E,G,Ah 101010256 4,Ah 0 4,Ah n 2,Ah n 2,Ah H 4,Ah I 4,Ah 0 2]:List (List Nat)).flatten.length<=281474976710656:=by simp[Ag];omega
theorem Z6n {l:List En}(h:l.take n=l)(I:l.length=n)(H:(Au (l.take n)).length=ac)(E:(Ao 0 (l.take n)).length=G):Ba l=([Au (l.take n),Ao 0 (l.take n),Ah 101010256 4,Ah 0 4,Ah n 2,Ah n 2,Ah G 4,Ah ac 4,Ah 0 2]:List (List Nat)).flatten:=by subst H E I;rw[h];simp[Ba,Sa]
theorem JB (n E:Nat){a:World}{bs:List (List Nat)}(h:Below a.heap.size a w)(G:PIns w au bs)(aa:n<=9223372036854775807)(U:E<=100):Calls prog 62 #[int i64 (n:Int),int i64 (E:Int)] w fun e w'=>∃x l c,e=.returned (.slice x l c)/\Below a.heap.size a w'/\PIns w' (au++ [.slice x l c]) (bs++ [Ah n E]):=by
 refine(Fu n E w aa U).mono ?_;rintro e w' ⟨x,l,c,rfl,O,H⟩;refine⟨x,l,c,rfl,h.trans (H.mono h.size), ?_⟩;have I:=G.keep H;clear G
 induction I with
 |nil=>exact .cons O .nil
 |cons h3 _ ih=>exact .cons h3 ih
theorem CH (n E:Nat){a:World}(h:Below a.heap.size a w)(O:n<=9223372036854775807)(I:E<=100):Calls prog 62 #[int i64 (n:Int),int i64 (E:Int)] w fun e w'=>∃x l c,e=.returned (.slice x l c)/\PIn w' (.slice x l c) (Ah n E)/\Below w.heap.size w w'/\Below a.heap.size a w':=by refine(Fu n E w O I).mono ?_;rintro e w' ⟨x,l,c,rfl,H,G⟩;exact⟨x,l,c,rfl,H,G,h.trans (G.mono h.size)⟩
def unpD (m:Nat)(pk:List Nat):Option (List Nat):=
 if m=0 then some pk
 else if m=8 then (if (Qr (rowB pk pk.length)).e=0/\((Qr (rowB pk pk.length)).p+7)/8=pk.length/\pk.length<=6000 then some (Qr (rowB pk pk.length)).out else none)
 else none
def Cz (r:List Nat)(i j:Nat):Nat:=Ak ((r.drop i).take (j-i))
theorem Dl {r:List Nat}(G:∀y∈r,y<256)(H:j-i=k):Cz r i j<256^k:=by unfold Cz;rw[H];have E:=Ip ((r.drop i).take k) (fun y I=>G y (WM (VU I)));exact VC E (VN od qAM)
def QD (b:List Nat)(at_:Nat)(r:List Nat):Option (En×List Nat):=
 if r.length<46 then none
 else if r.length<46+Cz r 28 30+11\/at_<Cz r 42 46+30+Cz r 28 30+11+Cz r 20 24 then none
 else (unpD (Cz r 10 12) ((b.drop (Cz r 42 46+30+Cz r 28 30+11)).take (Cz r 20 24))).bind fun ys=>
  some (⟨⟨o8 ((r.drop 46).take (Cz r 28 30)),o8 ys,(Cz ((r.drop (46+Cz r 28 30)).take 11) 4 8:Nat),(Cz ((r.drop (46+Cz r 28 30)).take 11) 8 10:Nat),decide (((r.drop (46+Cz r 28 30)).take 11).getD 10 0=1)⟩,Cz r 10 12,(b.drop (Cz r 42 46+30+Cz r 28 30+11)).take (Cz r 20 24),Cz r 16 20⟩,r.drop (46+Cz r 28 30+11))
def Px (b:List Nat)(at_:Nat):Nat->List Nat->Option (List En)
 |0,_=>some []
 |k+1,r=>(QD b at_ r).bind fun x=>(Px b at_ k x.2).map (x.1:: ·)
def Xa (b:List Nat):Option (List En):=
 if b.length<22 then none
 else if 12<Cz (b.drop (b.length-22)) 8 10\/Cz (b.drop (b.length-22)) 16 20+Cz (b.drop (b.length-22)) 12 16+22≠b.length then none
 else Px b (Cz (b.drop (b.length-22)) 16 20) (Cz (b.drop (b.length-22)) 8 10) ((b.drop (Cz (b.drop (b.length-22)) 16 20)).take (Cz (b.drop (b.length-22)) 12 16))
theorem Zci {p:List Nat}(x q:List Nat)(G:p.length=i)(E:x.length=j-i):Cz (p++(x++q)) i j=Ak x:=by unfold Cz;rw[ZB G,ZA E]
theorem Hp (p q:List Nat)(E:p.length=i)(H:k=j-i)(G:n<256^k):Cz (p++(Ah n k++q)) i j=n:=by rw[Zci _ q E (by rw[Ag];exact H),Ck k n G]
structure EOkD (x:En):Prop where
 st:0<=x.f.stamp/\x.f.stamp<4294967296
 nd:0<=x.f.node/\x.f.node<65536
 nm:x.f.name.length<65536
 pl:x.pk.length<4294967296
 cr:x.crc<4294967296
 mt:x.meth<65536
 un:unpD x.meth x.pk=some (n8 x.f.bytes)
theorem Z6a (b:List Nat)(E p:Nat){x:En}(t:List Nat)(h:EOkD x)(I:p<4294967296)(ak:p+41+x.f.name.length+x.pk.length<=E) (ag:(b.drop (p+30+x.f.name.length+11)).take x.pk.length=x.pk):QD b E (Tb x p++t)=some (x,t):=by obtain⟨⟨ae,st1⟩,⟨ac,aj⟩,nm,pl,cr,mt,un⟩:=h;(have e:Tb x p++t=Ah 33639248 4++(Ah 20 2++(Ah 20 2++(Ah 0 2++(Ah x.meth 2++(Ah 0 4++(Ah x.crc 4++(Ah x.pk.length 4++(Ah x.f.bytes.length 4++(Ah x.f.name.length 2++(Ah 11 2++(Ah 0 10++(Ah p 4++(n8 x.f.name++(Kl x++t)))))))))))))):=by simp only[Tb,Wt,VO]);(have c1:Cz (Tb x p++t) 10 12=x.meth:=by rw[e,show ∀a b c d r:List Nat,a++(b++(c++(d++r)))=(a++(b++(c++d)))++r from fun a b c d r=>oS];exact Hp _ _ uH rfl mt);(have c2:Cz (Tb x p++t) 16 20=x.crc:=by rw[e,show ∀a b c d f g r:List Nat,a++(b++(c++(d++(f++(g++r)))))=(a++(b++(c++(d++(f++g)))))++r from fun a b c d f g r=>oS];exact Hp _ _ uH rfl cr);(have U:Cz (Tb x p++t) 20 24=x.pk.length:=by rw[e,show ∀a b c d f g h r:List Nat,a++(b++(c++(d++(f++(g++(h++r))))))=(a++(b++(c++(d++(f++(g++h))))))++r from fun a b c d f g h r=>oS];exact Hp _ _ uH rfl pl);(have ai:Cz (Tb x p++t) 28 30=x.f.name.length:=by rw[e,show ∀a b c d f g h i j r:List Nat,a++(b++(c++(d++(f++(g++(h++(i++(j++r))))))))=(a++(b++(c++(d++(f++(g++(h++(i++j))))))))++r from fun a b c d f g h i j r=>oS];exact Hp _ _ uH rfl nm);(have aa:Cz (Tb x p++t) 42 46=p:=by rw[e,show ∀a b c d f g h i j k l m r:List Nat,a++(b++(c++(d++(f++(g++(h++(i++(j++(k++(l++(m++r)))))))))))=(a++(b++(c++(d++(f++(g++(h++(i++(j++(k++(l++m)))))))))))++r from fun a b c d f g h i j k l m r=>oS];exact Hp _ _ uH rfl I);(have G:(Tb x p++t).drop 46=n8 x.f.name++(Kl x++t):=by rw[e,show ∀a b c d f g h i j k l m n r:List Nat,a++(b++(c++(d++(f++(g++(h++(i++(j++(k++(l++(m++(n++r))))))))))))=(a++(b++(c++(d++(f++(g++(h++(i++(j++(k++(l++(m++n))))))))))))++r from fun a b c d f g h i j k l m n r=>oS];exact ZB uH);(have H:(Tb x p++t).drop (46+x.f.name.length)=Kl x++t:=by rw[<-YF,G,ZB (Cf _)]);(have ah:(Tb x p++t).drop (46+x.f.name.length+11)=t:=by rw[<-YF,H,ZB (Jb x)]);have af:(Kl x++t).take 11=Kl x:=ZA (Jb x);(have hl:(Tb x p++t).length=57+x.f.name.length+t.length:=by rw[VB,My]);unfold QD;rw[kab uL,ai,aa,U,kab uL,c1,ag,un,VS,c2,H,af,ah,G,ZA (Cf _),MT,MT];(have x1:Cz (Kl x) 4 8=x.f.stamp.toNat:=by(have e2:Kl x=(Ah 29297 2++Ah 7 2)++(Ah x.f.stamp.toNat 4++(Ah x.f.node.toNat 2++Ah (Fy x.f.gone) 1)):=by simp[Kl]);rw[e2];exact kK);(have x2:Cz (Kl x) 8 10=x.f.node.toNat:=by(have e2:Kl x=(Ah 29297 2++(Ah 7 2++Ah x.f.stamp.toNat 4))++(Ah x.f.node.toNat 2++Ah (Fy x.f.gone) 1):=by simp[Kl]);rw[e2];exact yP);(have O:(Kl x).getD 10 0=Fy x.f.gone:=by(have e2:Kl x=(Ah 29297 2++(Ah 7 2++(Ah x.f.stamp.toNat 4++Ah x.f.node.toNat 2)))++Ah (Fy x.f.gone) 1:=by simp[Kl]);rw[e2,XG,VX uH];cases x.f.gone<;>simp[Ah,Fy]);(have x3:decide ((Kl x).getD 10 0=1)=x.f.gone:=by rw[O];cases x.f.gone<;>rfl);have y1:((x.f.stamp.toNat:Nat):Int)=x.f.stamp:=ZD ae;have y2:((x.f.node.toNat:Nat):Int)=x.f.node:=ZD ac;rw[x1,x2,x3,y1,y2]
theorem Uy (b:List Nat)(E:Nat):∀(l:List En) (pre:List Nat) (t:List Nat),(∀x∈l,EOkD x)->b=pre++(Au l++t)->E=pre.length+(Au l).length->E<4294967296->∀s,Px b E l.length (Ao pre.length l++s)=some l
 | [],pre,t,_,_,_,_,s=>rfl
 |x::l,pre,t,h,hb,ha,hlt,s=>by have I:=h x oS;have O:=Lf x;rw[Au,VB]at ha;(have e1:Ao pre.length (x::l)++s=Tb x pre.length++(Ao (pre++Vw x).length l++s):=by rw[Ao,VO,VB]);(have e2:b=(pre++Vw x)++(Au l++t):=by rw[hb,Au];simp);(have e3:(b.drop (pre.length+30+x.f.name.length+11)).take x.pk.length=x.pk:=by(have H:b=(pre++(Ah 67324752 4++Wt x++n8 x.f.name++Kl x))++(x.pk++(Au l++t)):=by rw[e2,Vw];simp);rw[H,ZB (by simp[Ag,Np,Jb,Cf];omega),ZA rfl]);rw[VG,Px,e1,Z6a b E pre.length _ I om om e3,VS];dsimp only;rw[Uy b E l (pre++Vw x) t (fun y G=>h y (WL _ G)) e2 uW hlt s];rfl
theorem Z1r (l:List En)(h:∀x∈l,EOkD x)(U:l.length<=12)(O:(Ba l).length<4294967296):Xa (Ba l)=some l:=by(have I:(Ba l).length=(Au l).length+(Ao 0 l).length+22:=by unfold Ba;rw[VB,VB,G7]);(have E:(Ba l).drop ((Ba l).length-22)=Sa l.length (Ao 0 l).length (Au l).length:=by(have:(Ba l).length-22=(Au l++Ao 0 l).length:=by rw[I,VB];omega);rw[this];unfold Ba;rw[List.drop_left]);(have c1:Cz (Sa l.length (Ao 0 l).length (Au l).length) 8 10=l.length:=by(have e:Sa l.length (Ao 0 l).length (Au l).length=(Ah 101010256 4++Ah 0 4)++(Ah l.length 2++(Ah l.length 2++(Ah (Ao 0 l).length 4++(Ah (Au l).length 4++Ah 0 2)))):=by simp[Sa]);rw[e];exact yP);(have c2:Cz (Sa l.length (Ao 0 l).length (Au l).length) 12 16=(Ao 0 l).length:=by(have e:Sa l.length (Ao 0 l).length (Au l).length=(Ah 101010256 4++(Ah 0 4++(Ah l.length 2++Ah l.length 2)))++(Ah (Ao 0 l).length 4++(Ah (Au l).length 4++Ah 0 2)):=by simp[Sa]);rw[e];exact kK);(have H:Cz (Sa l.length (Ao 0 l).length (Au l).length) 16 20=(Au l).length:=by(have e:Sa l.length (Ao 0 l).length (Au l).length=(Ah 101010256 4++(Ah 0 4++(Ah l.length 2++(Ah l.length 2++Ah (Ao 0 l).length 4))))++(Ah (Au l).length 4++Ah 0 2):=by simp[Sa]);rw[e];exact kK);unfold Xa;rw[kab om,E,c1,c2,H,kab om];(have G:((Ba l).drop (Au l).length).take (Ao 0 l).length=Ao 0 l:=by unfold Ba;rw[VO,ZB rfl,ZA rfl]);rw[G];have:=Uy (Ba l) (Au l).length l [] (Ao 0 l++Sa l.length (Ao 0 l).length (Au l).length) h (by unfold Ba;simp) oS om [];rw[XB]at this;exact this
def rcellsL (xs:List Ev):List Value:=xs.flatMap Ev.rcells
theorem DN (xs:List Ev):(rcellsL xs).length=xs.length*8:=by
 induction xs with
 |nil=>rfl
 |cons x r ih=>have:rcellsL (x::r)=x.rcells++rcellsL r:=rfl;rw[this,VB,ih,VG];show 8+_=_;omega
theorem DO (xs ys:List Ev):rcellsL (xs++ys)=rcellsL xs++rcellsL ys:=by simp[rcellsL]
theorem DM (y:Ev):rcellsL [y]=y.rcells:=by simp[rcellsL]
theorem Yg:∀(xs:List Ev) (j:Nat) (x:Ev) (i:Nat),xs[j]? =some x->i<8->(rcellsL xs)[j*8+i]? =x.rcells[i]?
 | [],j,x,i,h,_=>by simp at h
 |y::r,0,x,i,h,hi=>by have:rcellsL (y::r)=y.rcells++rcellsL r:=rfl;exact bB
 |y::r,j+1,x,i,h,hi=>by have e:rcellsL (y::r)=y.rcells++rcellsL r:=rfl;have hl:y.rcells.length=8:=rfl;have ih:=Yg r j x i uJ hi;exact jN
theorem DL (y:Ev):∀u∈y.rcells,u.oneCell'=true:=by intro u ey;simp only[Ev.rcells,VV,WS,or_false]at ey;exact yU
def EvR (w:World)(x:Ev):Prop:=EvIn w x/\x.e.pk.length<=x.pc
theorem EvR.below {x:Ev}(h:EvR w x)(E:Below w.heap.size w w'):EvR w' x:=⟨h.1.below E,h.2⟩
structure RRow (w:World)(B:Nat)(v:Value)(xs:List Ev):Prop where
 own:w.ownsRow B 37 8 v xs.length (rcellsL xs)
 all:∀x∈xs,EvR w x
 apart:∀x∈xs,x.lies (fun g=>some g≠v.ownBlock)
theorem RRow.nil (w:World)(B:Nat):RRow w B (.slice none 0 0) []:=⟨kaq _ _ _ _,(fun x E=>absurd E WS),(fun x E=>absurd E WS)⟩
theorem RRow.below {B:Nat}{xs:List Ev}(h:RRow w B v xs)(E:Below w.heap.size w w'):RRow w' B v xs:=
 ⟨Bv h.own (fun g G=>E.block g (h.own.lt g G).2),fun x H=>(h.all x H).below E,h.apart⟩
theorem Z0u:(prog.info? 37).map (fun i=>(i.zero,i.size,i.bytes))=some (some (.agg #[.string ⟨#[]⟩,.slice none 0 0,int i64 0,int i64 0,.bool false,int i64 0,.slice none 0 0,int .u32 0]),8,104):=oR
theorem Mm (w:World){a:Act}(H:o.guard=none)(s x:Operand) (ah:o.op=.call {callee:=.builtin .append,args:= #[s,x],argTypes:= #[31,31]}) (base:Nat) (v:Value) (xs:List Ev) (ai:a.eval s=v) (fq:RRow w base v xs) (g:Nat) (y:Ev) (aj:a.eval x=.slice (some ⟨g,0,none⟩) 1 1) (hc:∀j u,y.rcells[j]? =some u->w.cell? ⟨g,j,none⟩=some u) (gq:EvR w y) (pv:y.lies (fun g=>some g≠v.ownBlock)) (ao:xs.length+1<=100000) (O:base<=w.heap.size) (h:∀v' w',Hid (RRow w' base v' (xs++ [y]))->Hid (w.grownBy w' v.ownBlock)->wpList prog ag Q al (a.put o.dst v') w'):wpList prog ag Q (o::al) a w:=by obtain⟨ac,hi,I,aa,ae⟩:=kas Z0u;refine kao w H s x 31 ah base 37 ac _ 8 104 underlying31 hi I aa ae rfl od v xs.length (rcellsL xs) ai fq.own ⟨g,0,none⟩ 1 1 y.rcells aj rfl ?_ (DL y) ou om O ?_;exact qQ;intro v' w' U G _ b0;have bk:∀z∈xs++ [y],z.lies (fun g=>some g≠v.ownBlock):=zH;have E:∀z∈xs++ [y],EvR w z:=zO;refine h v' w' (Ab ⟨?_,fun z ak=>⟨(E z ak).1.grown G (bk z ak),(E z ak).2⟩,fun z ak=> ?_⟩) (Ab G);rw[DO,DM,VB];exact U;have hl:=(E z ak).1.lt;exact xN
theorem RRow.entries {B:Nat}{xs:List Ev}(h:RRow w B v xs):∃ad c,v=.slice ad xs.length c/\RsIn w ad xs:=by(rcases h.own.2 with ⟨ai,av⟩|⟨g,cap,cur,ai,av,O,H,I⟩);exact bE;refine⟨some ⟨g,0,none⟩,cap,ai,.inr ⟨g,0,rfl,(h.own.lt g qAC).2,fun j x G i hi=> ?_⟩,h.all⟩;have E:=h.own;rw[ai]at E;have hl:=DN xs;have U:=(WY.1 G).1;rw[VY,E.cellAt _ om];exact Yg xs j x i G hi
theorem Zb7 (g o:Nat)(ae:i<=j)(U:j<=n)(af:n<=ac)(aa:i<ac)(W:World):(Instr.slice 23 (.slice (some ⟨g,o,none⟩) n ac) (some (int i64 (i:Int))) (some (int i64 (j:Int))) none).run prog W=.ok (.slice (some ⟨g,o+i,none⟩) (j-i) (ac-i)) W:=by have O:=Tryz.sizeOf5;have H:=underlying23;have G:(i:Int)<=j:=om;have E:(j:Int)<=ac:=om;have I:¬ac=i:=om;simp[go_sem,H,O,G,E,I]
theorem Fr (g o n E i j:Nat)(H J:Int)(G:Nat)(I:H=(i:Int))(U:J=(j:Int))(ae:i<=j)(O:j<=n)(af:n<=E)(aa:i<E)(ac:j-i=G)(W:World):(Instr.slice 23 (.slice (some ⟨g,o,none⟩) n E) (some (int i64 H)) (some (int i64 J)) none).run prog W=.ok (.slice (some ⟨g,o+i,none⟩) G (E-i)) W:=by subst I U ac;exact Zb7 g o ae O af aa W
theorem Oj {o:Nat}(H:g<w.heap.size)(I:∀j,j<bs.length->w.cell? ⟨g,o+j,none⟩=some (int .u8 ((bs.getD j 0:Nat):Int)))(i k:Nat):BytesIn w (some ⟨g,o+i,none⟩) ((bs.drop i).take k):=by refine .inr ⟨g,o+i,rfl,H,fun j G=> ?_⟩;(have E:j<k/\i+j<bs.length:=by rw[VL,VR]at G;omega);(have e2:((bs.drop i).take k).getD j 0=bs.getD (i+j) 0:=by simp only[List.getD];rw[XR E.1,XL]);rw[e2,WV];exact I (i+j) E.2
theorem SG (g o n E i:Nat)(H:Int)(G:Nat)(I:H=(i:Int))(ag:i<=n)(ah:n<=E)(af:i<E)(ae:n-i=G)(W:World):(Instr.slice 23 (.slice (some ⟨g,o,none⟩) n E) (some (int i64 H)) none none).run prog W=.ok (.slice (some ⟨g,o+i,none⟩) G (E-i)) W:=by subst I ae;have ac:=Tryz.sizeOf5;have U:=underlying23;have O:(i:Int)<=n:=om;have aa:¬E=i:=om;simp[go_sem,U,ac,O,aa]
theorem Ch {o:Nat}(ah:g<w.heap.size)(af:∀j,j<bs.length->w.cell? ⟨g,o+j,none⟩=some (int .u8 ((bs.getD j 0:Nat):Int)))(U:∀x∈bs,x<256)(i j E c:Nat)(ai:j-i=E)(ak:j<=bs.length)(ae:E<=7)(al:i<=j):∀W:World,Below w.heap.size w W->Calls prog 38 #[.slice (some ⟨g,o+i,none⟩) E c] W fun e w'=>e=.returned (int i64 ((Cz bs i j:Nat):Int))/\w'=W:=by intro W G;subst ai;have hb:=Oj ah af i (j-i);(have I:BytesIn W (some ⟨g,o+i,none⟩) ((bs.drop i).take (j-i)):=by rcases hb with ag|⟨b,ac,e,H,aa⟩;exact .inl ag;exact .inr ⟨b,ac,e,VC H G.size,fun k O=>(G.cell (p:=⟨b,_,none⟩) H).trans (aa k O)⟩);exact TZ (j-i) c (by rw[VL,VR];omega) ae I (fun x aj=>U x (WM (VU aj)))
theorem Ze3 (W:World)(X:Nat)(T:TypeId)(ae ap ao af al U aa ac O H G E I:Value)(h:W.heap[X]? =some (.cells #[ae,ap,ao,af,al,U,aa,ac] T (0,0))):(W.setCells X 0 [O,H,G,E,I]).heap[X]? =some (.cells #[O,H,G,E,I,U,aa,ac] T (0,0))/\W.grownBy (W.setCells X 0 [O,H,G,E,I]) (some X):=by have aj:=kah W X 0 _ _ O h;have ai:=kah _ X 1 _ _ H aj;have ag:=kah _ X 2 _ _ G ai;have ak:=kah _ X 3 _ _ E ag;have ah:=kah _ X 4 _ _ I ak;exact⟨ah,Aj (Aj (Aj (Aj (Ad _ _ _ _) (Ad _ _ _ _)) (Ad _ _ _ _)) (Ad _ _ _ _)) (Ad _ _ _ _)⟩
theorem Z2l {T:TypeId}(h:W.heap[X]? =some (.cells #[E,I,ay,az,a3,a4,a5,a6] T (0,0))):W.there X 0 5:=by intro j G;refine⟨?_,kag W X _ _ _ h⟩;rw[VY,Ac h];rcases(by omega:j=0\/j=1\/j=2\/j=3\/j=4)with rfl|rfl|rfl|rfl|rfl<;>rfl
theorem J8 {B:Nat}{a:World}(h:Below B a w)(H:B<=g)(E:Array Value):Below B a (w.setRow g E):=
 ⟨h.os,h.tape,h.output,by simp;exact h.size,fun k G=>(kbb w g k E om).trans (h.block k G)⟩
theorem Xb (bs:List Nat)(p m k:Nat)(h:k<=m):((bs.drop p).take m).drop k=(bs.drop (p+k)).take (m-k):=by rw[List.drop_take,YF]
theorem Z5j (c:Nat)(h:RsIn w ah es)(dm:es.length=n)(h5:n<=12)(j1:∀x∈es,EWd x.e):Calls prog 40 #[.slice ah n c] w fun e w'=>∃v,e=.returned v/\PIn w' v (Ba (es.map Ev.e))/\Below w.heap.size w w':=by
 obtain⟨l,je⟩:=exq (es.map Ev.e);(have et:l.length=n:=by rw[<-je];simpa using dm);have dq:∀x∈l,EWd x:=yG;(have ew:∀k,(Au (l.take k)).length<=24041*12:=fun k=>by have hj:=JL (l.take k) (fun x U=>dq x (VU U));exact zN);(have ey:∀k,(Ao 0 (l.take k)).length<=12057*12:=fun k=>by have hj:=O4 (l.take k) 0 (fun x U=>dq x (VU U));exact zN);rw[je];have ek:=mW;obtain⟨ei,dj,dt,g9,ed,ay,f7⟩:=ydG h ew ey j1 et dm ek;clear h ew ey j1 et dm ek dq je;go_enter func40,ntmps40;go_wp2;go_loopw [3,4,6,7,8,9,12] (fun ft v4 _ _ _ _ i wr=>∃k:Nat,k<=n/\i=int i64 (k:Int)/\Hid (PIn wr ft (Au (l.take k))/\PIn wr v4 (Ao 0 (l.take k))/\Below w.heap.size w wr)) (fun _ _ _ _ _ _ i _=>n-(intOf i).toNat);exact⟨0,VF _,rfl,PIn.nil _,PIn.nil _,kaa _ _⟩;obtain⟨k,ba,rfl,ap⟩:=hrel;obtain⟨bj,aj,bi,rfl,db⟩:=ap.1.sized;obtain⟨bm,a5,bu,rfl,dl⟩:=ap.2.1.sized;have ho:=Aa dj k;have g4:=Aa dt k;rw[db]at ho;rw[dl]at g4;have ep:=Ab db;have fp:=Ab dl;clear db dl;by_cases aw:k<n
 . obtain⟨x,U,de⟩:=bU;obtain⟨b,o,rfl,hb,c0,c1,c2,ee,a3,bh,bk,bc⟩:=ei.get ap.2.2 U;have d5:=Aa f7 k x U;have em:=Ab (ei.all x de);have hu:=Aa g9 x de;have fi:=Ab (Ht d5);obtain⟨x,fa,fc,pa,pc⟩:=x;obtain⟨⟨nml,bys,lf,l0,gn⟩,mt,pk,cr⟩:=x;obtain⟨⟨g0,st1⟩,⟨f8,fu⟩,cq,ej,dh,ht,gy⟩:=hu;simp only at g0 st1 f8 fu cq ej dh ht gy;obtain⟨st,rfl⟩:=dI;obtain⟨nd,rfl⟩:=dJ;dsimp only at c0 c1 c2 ee a3 bh bk bc;obtain⟨nm,e8⟩:=exq (B nml);obtain⟨fx,e4⟩:=exq (nml.length);obtain⟨bl,dn⟩:=exq (bys.length);obtain⟨pl,du⟩:=exq (pk.length);have h1:=dQ;rw[e8]at c0;rw[dn]at c1 ej;rw[du]at bk dh;rw[e4]at cq;obtain⟨ru,di,f6,da⟩:=mU;clear U de d5 e8 e4 dn du;have hg:=gI;have d6:=Z0b (wr.alloc (.cells #[.string nm,.slice fa bl fc,int i64 (st:Int),int i64 (nd:Int),.bool gn,int i64 (mt:Int),.slice pa pl pc,int .u32 (cr:Int)] 37));have c7:=IZ ((wr.alloc (.cells #[.string nm,.slice fa bl fc,int i64 (st:Int),int i64 (nd:Int),.bool gn,int i64 (mt:Int),.slice pa pl pc,int .u32 (cr:Int)] 37)).alloc (.map Wu 1)) _ gn (kae _ _);simp only[kaf]at d6 c7;(have d7:(if gn then 1 else 0:Int)=((Fy gn:Nat):Int):=by cases gn<;>rfl);rw[d7]at c7;(have h0:Fy gn<=1:=by cases gn<;>decide);clear d7;go_upto_region 6 with fail;have c5:Below wr.heap.size wr ((wr.alloc (.cells #[.string nm,.slice fa bl fc,int i64 (st:Int),int i64 (nd:Int),.bool gn,int i64 (mt:Int),.slice pa pl pc,int .u32 (cr:Int)] 37)).alloc (.map Wu 1)):=((kaa _ _).alloc (VA _) _).alloc oS _;have a7:((wr.alloc (.cells #[.string nm,.slice fa bl fc,int i64 (st:Int),int i64 (nd:Int),.bool gn,int i64 (mt:Int),.slice pa pl pc,int .u32 (cr:Int)] 37)).alloc (.map Wu 1)).heap[wr.heap.size]? =some (.cells #[.string nm,.slice fa bl fc,int i64 (st:Int),int i64 (nd:Int),.bool gn,int i64 (mt:Int),.slice pa pl pc,int .u32 (cr:Int)] 37 (0,0)):=(heap_alloc_old _ _ oS).trans (kae wr _);have ac:=Ab (show PIn ((wr.alloc (.cells #[.string nm,.slice fa bl fc,int i64 (st:Int),int i64 (nd:Int),.bool gn,int i64 (mt:Int),.slice pa pl pc,int .u32 (cr:Int)] 37)).alloc (.map Wu 1)) (.slice bj aj bi) _/\PIn _ (.slice bm a5 bu) _/\Below w.heap.size w _ from ⟨ap.1.below c5,ap.2.1.below c5,ap.2.2.trans (c5.mono ap.2.2.size)⟩);have bo:=Ab (em.1.below ac.2.2);have ct:wr.heap.size<((wr.alloc (.cells #[.string nm,.slice fa bl fc,int i64 (st:Int),int i64 (nd:Int),.bool gn,int i64 (mt:Int),.slice pa pl pc,int .u32 (cr:Int)] 37)).alloc (.map Wu 1)).heap.size:=oO;clear d6 c7 hg c0 c1 c2 ee a3 bh bk bc c5 ap;generalize gz:(wr.alloc (.cells #[.string nm,.slice fa bl fc,int i64 (st:Int),int i64 (nd:Int),.bool gn,int i64 (mt:Int),.slice pa pl pc,int .u32 (cr:Int)] 37)).alloc (.map Wu 1)=ck at*;clear gz;have jo:=Ac (i:=0) a7;have x1:=Ac (i:=1) a7;have x2:=Ac (i:=2) a7;have x3:=Ac (i:=3) a7;have x4:=Ac (i:=4) a7;have kk:=Ac (i:=5) a7;have j3:=Ac (i:=6) a7;have kj:=Ac (i:=7) a7;simp only[WF,VW,WI]at jo x1 x2 x3 x4 kk j3 kj;clear a7;go_cut [8] (fun fq az=>Hid (PIn az fq ([Ah 29297 2,Ah 7 2,Ah st 4,Ah nd 2,Ah (Fy gn) 1]:List (List Nat)).flatten/\Below ck.heap.size ck az));(. refine wp_region_held_drew (S:=fun W=>Below ck.heap.size ck W) oR (Ae (kaa _ _) 1) (fun G=> ?_);generalize ck.drew=ag at G ⊢;refine tvH 2 G ?_;refine tvH 3 G ?_;refine wpAnyH_take (i:=4) (v:=int i64 (st:Int)) rfl oR oR oR (fun _ _ _ h=>h) (Or.inl ⟨by rfl,fun W ai=>by have hc:=(ai.cell (p:=⟨wr.heap.size,2,none⟩) ct).trans x2;go_simp⟩) G ?_;refine tvH 6 G ?_;refine tvH 7 G ?_;refine wpAnyH_take (i:=8) (v:=int i64 (nd:Int)) rfl oR oR oR (fun _ _ _ h=>h) (Or.inl ⟨by rfl,fun W ai=>by have hc:=(ai.cell (p:=⟨wr.heap.size,3,none⟩) ct).trans x3;go_simp⟩) G ?_;refine tvH 10 G ?_;have H:=PIns.nil (w:=ag);refine rdH 0 fun K hK=> ?_;go_simp;refine(JB 29297 2 G H od od).mono ?_;clear G H;rintro e ag ⟨cj,b8,c0,rfl,G,H⟩;dsimp only;refine hK.out _ _ G (fun _=> ?_);clear hK K;refine rdH 1 fun K hK=> ?_;go_simp;refine(JB 7 2 G H od od).mono ?_;clear G H;rintro e ag ⟨a1,l1,c1,rfl,G,H⟩;dsimp only;refine hK.out _ _ G (fun _=> ?_);clear hK K;refine rdH 5 fun K hK=> ?_;go_simp;refine(JB st 4 G H om od).mono ?_;clear G H;rintro e ag ⟨ci,cd,bh,rfl,G,H⟩;dsimp only;refine hK.out _ _ G (fun _=> ?_);clear hK K;refine rdH 9 fun K hK=> ?_;go_simp;refine(JB nd 2 G H om od).mono ?_;clear G H;rintro e ag ⟨ce,b9,b7,rfl,G,H⟩;dsimp only;refine hK.out _ _ G (fun _=> ?_);clear hK K;refine rdH 11 fun K hK=> ?_;go_simp;refine(JB (Fy gn) 1 G H om od).mono ?_;clear G H;rintro e ag ⟨a8,a9,bb,rfl,G,H⟩;dsimp only;refine hK.out _ _ G (fun _=> ?_);clear hK K;refine rjH 12 (G.alloc G.size (.cells #[.slice cj b8 c0,.slice a1 l1 c1,.slice ci cd bh,.slice ce b9 b7,.slice a8 a9 bb] 23)) ?_;refine rdH 13 fun K hK=> ?_;go_simp;refine(Id [.slice cj b8 c0,.slice a1 l1 c1,.slice ci cd bh,.slice ce b9 b7,.slice a8 a9 bb] [Ah 29297 2,Ah 7 2,Ah st 4,Ah nd 2,Ah (Fy gn) 1] _ _ 5 5 H rfl rfl od uH).mono ?_;rintro e b5 ⟨cm,cn,cg,rfl,ir,I⟩;have e9:=bT;dsimp only;refine hK.out _ _ e9 (fun _=> ?_);clear hK K;refine rjH 14 e9 ?_;exact jV);rename World=>az;obtain⟨c9,bq⟩:=Aa hcut;replace jo:=gS;replace x1:=gT;replace x2:=gU;replace x3:=gV;replace x4:=gW;replace kk:=gX;replace j3:=gY;replace kj:=gZ;replace ct:=VC ct bq.size;replace ac:=Ab (show PIn az (.slice bj aj bi) _/\PIn az (.slice bm a5 bu) _/\Below w.heap.size w az from ⟨ac.1.below bq,ac.2.1.below bq,ac.2.2.trans (bq.mono ac.2.2.size)⟩);replace bo:=Ab (bo.below bq);obtain⟨cu,cw,c6,rfl⟩:=c9.slice;have bw:=Ab c9;clear hcut bq c9;have fo:IntKind.i64.wrap (cr:Int)=cr:=sU;go_upto_region 7 with fail;go_cut [9] (fun gj ax=>Hid (PIn ax gj ([Ah 20 2,Ah 0 2,Ah mt 2,Ah 0 4,Ah cr 4,Ah pl 4,Ah bl 4,Ah fx 2,Ah 11 2]:List (List Nat)).flatten/\Below az.heap.size az ax))
   (. refine wp_region_held_drew (S:=fun W=>Below az.heap.size az W) oR (Ae (kaa _ _) 1) (fun G=> ?_);generalize az.drew=ag at G ⊢;refine tvH 2 G ?_;refine wpAnyH_take (i:=3) (v:=int i64 (mt:Int)) rfl oR oR oR (fun _ _ _ h=>h) (Or.inl ⟨by rfl,fun W ai=>by have hc:=(ai.cell (p:=⟨wr.heap.size,5,none⟩) ct).trans kk;go_simp⟩) G ?_;refine tvH 6 G ?_;refine wpAnyH_take (i:=7) (v:=int .u32 (cr:Int)) rfl oR oR oR (fun _ _ _ h=>h) (Or.inl ⟨by rfl,fun W ai=>by have hc:=(ai.cell (p:=⟨wr.heap.size,7,none⟩) ct).trans kj;go_simp⟩) G ?_;refine tvH 8 G ?_;refine tvH 10 G ?_;refine wpAnyH_take (i:=11) (v:=.slice pa pl pc) rfl oR oR oR (fun _ _ _ h=>h) (Or.inl ⟨by rfl,fun W ai=>by have hc:=(ai.cell (p:=⟨wr.heap.size,6,none⟩) ct).trans j3;go_simp⟩) G ?_;refine tvH 12 G ?_;refine tvH 14 G ?_;refine tvH 15 G ?_;refine wpAnyH_take (i:=16) (v:=.slice fa bl fc) rfl oR oR oR (fun _ _ _ h=>h) (Or.inl ⟨by rfl,fun W ai=>by have hc:=(ai.cell (p:=⟨wr.heap.size,1,none⟩) ct).trans x1;go_simp⟩) G ?_;refine tvH 17 G ?_;refine tvH 19 G ?_;refine tvH 20 G ?_;refine wpAnyH_take (i:=21) (v:=.string nm) rfl oR oR oR (fun _ _ _ h=>h) (Or.inl ⟨by rfl,fun W ai=>by have hc:=(ai.cell (p:=⟨wr.heap.size,0,none⟩) ct).trans jo;go_simp⟩) G ?_;refine tvH 22 G ?_;have H:=PIns.nil (w:=ag);refine rdH 0 fun K hK=> ?_;go_simp;refine(JB 20 2 G H od od).mono ?_;clear G H;rintro e ag ⟨cj,b8,c0,rfl,G,H⟩;dsimp only;refine hK.out _ _ G (fun _=> ?_);clear hK K;refine rdH 1 fun K hK=> ?_;go_simp;refine(JB 0 2 G H od od).mono ?_;clear G H;rintro e ag ⟨a1,l1,c1,rfl,G,H⟩;dsimp only;refine hK.out _ _ G (fun _=> ?_);clear hK K;refine rdH 4 fun K hK=> ?_;go_simp;refine(JB mt 2 G H om od).mono ?_;clear G H;rintro e ag ⟨bg,bf,a3,rfl,G,H⟩;dsimp only;refine hK.out _ _ G (fun _=> ?_);clear hK K;refine rdH 5 fun K hK=> ?_;go_simp;refine(JB 0 4 G H od od).mono ?_;clear G H;rintro e ag ⟨ci,cd,bh,rfl,G,H⟩;dsimp only;refine hK.out _ _ G (fun _=> ?_);clear hK K;refine rdH 9 fun K hK=> ?_;go_simp;refine(JB cr 4 G H om od).mono ?_;clear G H;rintro e ag ⟨ce,b9,b7,rfl,G,H⟩;dsimp only;refine hK.out _ _ G (fun _=> ?_);clear hK K;refine rdH 13 fun K hK=> ?_;go_simp;refine(JB pl 4 G H om od).mono ?_;clear G H;rintro e ag ⟨ff,d8,e6,rfl,G,H⟩;dsimp only;refine hK.out _ _ G (fun _=> ?_);clear hK K;refine rdH 18 fun K hK=> ?_;go_simp;refine(JB bl 4 G H om od).mono ?_;clear G H;rintro e ag ⟨dw,eo,dz,rfl,G,H⟩;dsimp only;refine hK.out _ _ G (fun _=> ?_);clear hK K;refine rdH 23 fun K hK=> ?_;go_simp;refine(JB fx 2 G H om od).mono ?_;clear G H;rintro e ag ⟨eb,dy,e7,rfl,G,H⟩;dsimp only;refine hK.out _ _ G (fun _=> ?_);clear hK K;refine rdH 24 fun K hK=> ?_;go_simp;refine(JB 11 2 G H od od).mono ?_;clear G H;rintro e ag ⟨en,dx,fe,rfl,G,H⟩;dsimp only;refine hK.out _ _ G (fun _=> ?_);clear hK K;refine rjH 25 (G.alloc G.size (.cells #[.slice cj b8 c0,.slice a1 l1 c1,.slice bg bf a3,.slice ci cd bh,.slice ce b9 b7,.slice ff d8 e6,.slice dw eo dz,.slice eb dy e7,.slice en dx fe] 23)) ?_;refine rdH 26 fun K hK=> ?_;go_simp;refine(Id [.slice cj b8 c0,.slice a1 l1 c1,.slice bg bf a3,.slice ci cd bh,.slice ce b9 b7,.slice ff d8 e6,.slice dw eo dz,.slice eb dy e7,.slice en dx fe] [Ah 20 2,Ah 0 2,Ah mt 2,Ah 0 4,Ah cr 4,Ah pl 4,Ah bl 4,Ah fx 2,Ah 11 2] _ _ 9 9 H rfl rfl od uH).mono ?_;rintro e b5 ⟨cm,cn,cg,rfl,ir,I⟩;have e9:=bT;dsimp only;refine hK.out _ _ e9 (fun _=> ?_);clear hK K;refine rjH 27 e9 ?_;exact jV);rename World=>ax;obtain⟨dp,bq⟩:=Aa hcut;replace jo:=gS;replace x1:=gT;replace x2:=gU;replace x3:=gV;replace x4:=gW;replace kk:=gX;replace j3:=gY;replace kj:=gZ;replace ct:=VC ct bq.size;replace ac:=Ab (show PIn ax (.slice bj aj bi) _/\PIn ax (.slice bm a5 bu) _/\Below w.heap.size w ax from ⟨ac.1.below bq,ac.2.1.below bq,ac.2.2.trans (bq.mono ac.2.2.size)⟩);replace bo:=Ab (bo.below bq);replace bw:=Ab (bw.below bq);obtain⟨cp,cv,cz,rfl⟩:=dp.slice;have co:=Ab dp;clear hcut bq dp fo;have gi:=Ab (Zeg (Ao 0 (l.take k)) nml mt cr pl bl fx st nd gn aj (dt k) (by rw[Aa di];exact cq));go_upto_region 8 with fail;go_cut [4] (fun v4 a4=>Hid (PIn a4 v4 ([Ao 0 (l.take k),Ah 33639248 4,Ah 20 2,([Ah 20 2,Ah 0 2,Ah mt 2,Ah 0 4,Ah cr 4,Ah pl 4,Ah bl 4,Ah fx 2,Ah 11 2]:List (List Nat)).flatten,Ah 0 10,Ah aj 4,n8 nml,([Ah 29297 2,Ah 7 2,Ah st 4,Ah nd 2,Ah (Fy gn) 1]:List (List Nat)).flatten]:List (List Nat)).flatten/\Below ax.heap.size ax a4))
   . have eg:=Z7o nm;refine wp_region_held_drew (S:=fun W=>Below ax.heap.size ax W) oR (Ae (kaa _ _) 1) (fun G=> ?_);generalize ax.drew=ag at G ⊢;refine tvH 0 G ?_;refine tvH 3 G ?_;refine tvH 5 G ?_;refine tvH 6 G ?_;refine tvH 8 G ?_;refine tvH 9 G ?_;refine wpAnyH_take (i:=10) (v:=.string nm) rfl oR oR oR (fun _ _ _ h=>h) (Or.inl ⟨by rfl,fun W ai=>by have hc:=(ai.cell (p:=⟨wr.heap.size,0,none⟩) ct).trans jo;go_simp⟩) G ?_;refine tvH 12 G ?_;refine wpAnyH_ready (rs:= [1,11]) oR oS (AllReadyH.cons rfl (fun K hK=> ?_) (AllReadyH.cons rfl (fun K hK=> ?_) AllReadyH.nil))
     focus
      go_simp
      refine(CH 33639248 4 G od od).mono ?_
      clear G
      rintro e ae ⟨a1,l1,c1,rfl,O,I,G⟩
      dsimp only
      refine hK.out _ _ G (fun U=> ?_)
      clear U hK K I ag
      rename World=>ag
      refine wpAnyH_ready (rs:= [2,11]) oR oS (AllReadyH.cons rfl (fun K hK=> ?_) (AllReadyH.cons rfl (fun K hK=> ?_) AllReadyH.nil))
      focus
       go_simp
       refine(CH 20 2 G od od).mono ?_
       clear G
       rintro e ae ⟨a2,l2,c2,rfl,aa,I,G⟩
       dsimp only
       replace O:=O.below I
       refine hK.out _ _ G (fun U=> ?_)
       clear U hK K I ag
       rename World=>ag
       refine wpAnyH_ready (rs:= [4,11]) oR oS (AllReadyH.cons rfl (fun K hK=> ?_) (AllReadyH.cons rfl (fun K hK=> ?_) AllReadyH.nil))
       focus
        go_simp
        refine(CH 0 10 G od od).mono ?_
        clear G
        rintro e ae ⟨bg,bf,a3,rfl,af,I,G⟩
        dsimp only
        replace O:=O.below I
        replace aa:=aa.below I
        refine hK.out _ _ G (fun U=> ?_)
        clear U hK K I ag
        rename World=>ag
        refine wpAnyH_ready (rs:= [7,11]) oR oS (AllReadyH.cons rfl (fun K hK=> ?_) (AllReadyH.cons rfl (fun K hK=> ?_) AllReadyH.nil))
        focus
         go_simp
         refine(CH aj 4 G om od).mono ?_
         clear G
         rintro e ae ⟨bv,bz,bc,rfl,bn,I,G⟩
         dsimp only
         replace O:=O.below I
         replace aa:=aa.below I
         replace af:=af.below I
         refine hK.out _ _ G (fun U=> ?_)
         clear U hK K I ag
         rename World=>ag
         refine rdH 11 fun K hK=> ?_
         go_simp
         obtain⟨E,I⟩:=fT
         replace G:=bT
         generalize cvW ag nm=ae at E I G ⊢
         generalize cvC ag nm=bb at E ⊢
         generalize cvA ag=a8 at E ⊢
         generalize cvL nm=a9 at E ⊢
         replace O:=O.below I
         replace aa:=aa.below I
         replace af:=af.below I
         replace bn:=bn.below I
         refine hK.out _ _ G (fun U=> ?_)
         clear U hK K I ag
         rename World=>ag
        rotate_left
        focus
         go_simp
         obtain⟨E,I⟩:=fT
         replace G:=bT
         generalize cvW ag nm=ae at E I G ⊢
         generalize cvC ag nm=bb at E ⊢
         generalize cvA ag=a8 at E ⊢
         generalize cvL nm=a9 at E ⊢
         replace O:=O.below I
         replace aa:=aa.below I
         replace af:=af.below I
         refine hK.out _ _ G (fun U=> ?_)
         clear U hK K I ag
         rename World=>ag
         refine rdH 7 fun K hK=> ?_
         go_simp
         refine(CH aj 4 G om od).mono ?_
         clear G
         rintro e ae ⟨bv,bz,bc,rfl,bn,I,G⟩
         dsimp only
         replace O:=O.below I
         replace aa:=aa.below I
         replace af:=af.below I
         replace E:=E.below I
         refine hK.out _ _ G (fun U=> ?_)
         clear U hK K I ag
         rename World=>ag
        rotate_left
       rotate_left 2
       focus
        go_simp
        obtain⟨E,I⟩:=fT
        replace G:=bT
        generalize cvW ag nm=ae at E I G ⊢
        generalize cvC ag nm=bb at E ⊢
        generalize cvA ag=a8 at E ⊢
        generalize cvL nm=a9 at E ⊢
        replace O:=O.below I
        replace aa:=aa.below I
        refine hK.out _ _ G (fun U=> ?_)
        clear U hK K I ag
        rename World=>ag
        refine rdH 4 fun K hK=> ?_
        go_simp
        refine(CH 0 10 G od od).mono ?_
        clear G
        rintro e ae ⟨bg,bf,a3,rfl,af,I,G⟩
        dsimp only
        replace O:=O.below I
        replace aa:=aa.below I
        replace E:=E.below I
        refine hK.out _ _ G (fun U=> ?_)
        clear U hK K I ag
        rename World=>ag
        refine rdH 7 fun K hK=> ?_
        go_simp
        refine(CH aj 4 G om od).mono ?_
        clear G
        rintro e ae ⟨bv,bz,bc,rfl,bn,I,G⟩
        dsimp only
        replace O:=O.below I
        replace aa:=aa.below I
        replace E:=E.below I
        replace af:=af.below I
        refine hK.out _ _ G (fun U=> ?_)
        clear U hK K I ag
        rename World=>ag
       rotate_left
      rotate_left 3
      focus
       go_simp
       obtain⟨E,I⟩:=fT
       replace G:=bT
       generalize cvW ag nm=ae at E I G ⊢
       generalize cvC ag nm=bb at E ⊢
       generalize cvA ag=a8 at E ⊢
       generalize cvL nm=a9 at E ⊢
       replace O:=O.below I
       refine hK.out _ _ G (fun U=> ?_)
       clear U hK K I ag
       rename World=>ag
       refine rdH 2 fun K hK=> ?_
       go_simp
       refine(CH 20 2 G od od).mono ?_
       clear G
       rintro e ae ⟨a2,l2,c2,rfl,aa,I,G⟩
       dsimp only
       replace O:=O.below I
       replace E:=E.below I
       refine hK.out _ _ G (fun U=> ?_)
       clear U hK K I ag
       rename World=>ag
       refine rdH 4 fun K hK=> ?_
       go_simp
       refine(CH 0 10 G od od).mono ?_
       clear G
       rintro e ae ⟨bg,bf,a3,rfl,af,I,G⟩
       dsimp only
       replace O:=O.below I
       replace E:=E.below I
       replace aa:=aa.below I
       refine hK.out _ _ G (fun U=> ?_)
       clear U hK K I ag
       rename World=>ag
       refine rdH 7 fun K hK=> ?_
       go_simp
       refine(CH aj 4 G om od).mono ?_
       clear G
       rintro e ae ⟨bv,bz,bc,rfl,bn,I,G⟩
       dsimp only
       replace O:=O.below I
       replace E:=E.below I
       replace aa:=aa.below I
       replace af:=af.below I
       refine hK.out _ _ G (fun U=> ?_)
       clear U hK K I ag
       rename World=>ag
      rotate_left
     rotate_left 4
     focus
      go_simp
      obtain⟨E,I⟩:=fT
      replace G:=bT
      generalize cvW ag nm=ae at E I G ⊢
      generalize cvC ag nm=bb at E ⊢
      generalize cvA ag=a8 at E ⊢
      generalize cvL nm=a9 at E ⊢
      refine hK.out _ _ G (fun U=> ?_)
      clear U hK K I ag
      rename World=>ag
      refine rdH 1 fun K hK=> ?_
      go_simp
      refine(CH 33639248 4 G od od).mono ?_
      clear G
      rintro e ae ⟨a1,l1,c1,rfl,O,I,G⟩
      dsimp only
      replace E:=E.below I
      refine hK.out _ _ G (fun U=> ?_)
      clear U hK K I ag
      rename World=>ag
      refine rdH 2 fun K hK=> ?_
      go_simp
      refine(CH 20 2 G od od).mono ?_
      clear G
      rintro e ae ⟨a2,l2,c2,rfl,aa,I,G⟩
      dsimp only
      replace E:=E.below I
      replace O:=O.below I
      refine hK.out _ _ G (fun U=> ?_)
      clear U hK K I ag
      rename World=>ag
      refine rdH 4 fun K hK=> ?_
      go_simp
      refine(CH 0 10 G od od).mono ?_
      clear G
      rintro e ae ⟨bg,bf,a3,rfl,af,I,G⟩
      dsimp only
      replace E:=E.below I
      replace O:=O.below I
      replace aa:=aa.below I
      refine hK.out _ _ G (fun U=> ?_)
      clear U hK K I ag
      rename World=>ag
      refine rdH 7 fun K hK=> ?_
      go_simp
      refine(CH aj 4 G om od).mono ?_
      clear G
      rintro e ae ⟨bv,bz,bc,rfl,bn,I,G⟩
      dsimp only
      replace E:=E.below I
      replace O:=O.below I
      replace aa:=aa.below I
      replace af:=af.below I
      refine hK.out _ _ G (fun U=> ?_)
      clear U hK K I ag
      rename World=>ag
     rotate_left;all_goals (refine rjH 13 (G.alloc G.size (.cells #[.slice bm a5 bu,.slice a1 l1 c1,.slice a2 l2 c2,.slice cp cv cz,.slice bg bf a3,.slice bv bz bc,.slice a8 a9 bb,.slice cu cw c6] 23)) ?_;refine rdH 14 fun K hK=> ?_;go_simp;refine(Id [.slice bm a5 bu,.slice a1 l1 c1,.slice a2 l2 c2,.slice cp cv cz,.slice bg bf a3,.slice bv bz bc,.slice a8 a9 bb,.slice cu cw c6] [Ao 0 (l.take k),Ah 33639248 4,Ah 20 2,([Ah 20 2,Ah 0 2,Ah mt 2,Ah 0 4,Ah cr 4,Ah pl 4,Ah bl 4,Ah fx 2,Ah 11 2]:List (List Nat)).flatten,Ah 0 10,Ah aj 4,n8 nml,([Ah 29297 2,Ah 7 2,Ah st 4,Ah nd 2,Ah (Fy gn) 1]:List (List Nat)).flatten] _ _ 8 8 (PIns.cons (ac.2.1.below G) (PIns.cons O (PIns.cons aa (PIns.cons (co.below G) (PIns.cons af (PIns.cons bn (PIns.cons E (PIns.cons (bw.below G) .nil)))))))) rfl rfl od (by exact Aa gi)).mono ?_;rintro e b5 ⟨cm,cn,cg,rfl,ir,I⟩;have e9:=bT;dsimp only;refine hK.out _ _ e9 (fun _=> ?_);clear hK K;refine rjH 15 e9 ?_;refine wpAnyH_done oR ?_ _;go_wp2_with fail;go_meet;exact Ab ⟨ir,e9⟩)
   rename World=>a4;obtain⟨af,bq⟩:=Aa hcut;replace jo:=gS;replace x1:=gT;replace x2:=gU;replace x3:=gV;replace x4:=gW;replace kk:=gX;replace j3:=gY;replace kj:=gZ;replace ct:=VC ct bq.size;replace ac:=Ab (show PIn a4 (.slice bj aj bi) _/\PIn a4 (.slice bm a5 bu) _/\Below w.heap.size w a4 from ⟨ac.1.below bq,ac.2.1.below bq,ac.2.2.trans (bq.mono ac.2.2.size)⟩);replace bo:=Ab (bo.below bq);replace bw:=Ab (bw.below bq);replace co:=Ab (co.below bq);have c8:=Ab af;clear hcut bq af;have f3:=Ab (Zef (Au (l.take k)) pk nml mt cr pl bl fx st nd gn (dj k) (by rw[Aa di];exact cq) (by rw[Aa da];exact dh));go_upto_region 9 with fail;have f5:Hid (PIn a4 (.slice pa pl pc) pk):=Ab ⟨pa,pc,by rw[Aa da],em.2,bo.pk⟩;have eg:=Z7o nm;refine wp_region_held_drew (S:=fun W=>Below a4.heap.size a4 W) oR (Ae (kaa _ _) 1) (fun G=> ?_);generalize a4.drew=ag at G ⊢;refine tvH 0 G ?_;refine tvH 2 G ?_;refine tvH 3 G ?_;refine tvH 4 G ?_;refine wpAnyH_take (i:=5) (v:=.string nm) rfl oR oR oR (fun _ _ _ h=>h) (Or.inl ⟨by rfl,fun W ai=>by have hc:=(ai.cell (p:=⟨wr.heap.size,0,none⟩) ct).trans jo;go_simp⟩) G ?_;refine tvH 7 G ?_;refine tvH 8 G ?_;refine wpAnyH_take (i:=9) (v:=.slice pa pl pc) rfl oR oR oR (fun _ _ _ h=>h) (Or.inl ⟨by rfl,fun W ai=>by have hc:=(ai.cell (p:=⟨wr.heap.size,6,none⟩) ct).trans j3;go_simp⟩) G ?_;simp only[Act.put,VE,VH,VJ];refine wpAnyH_ready (rs:= [1,6]) oR oS (AllReadyH.cons rfl (fun K hK=> ?_) (AllReadyH.cons rfl (fun K hK=> ?_) AllReadyH.nil))
   focus
    go_simp
    refine(CH 67324752 4 G od od).mono ?_
    clear G
    rintro e ae ⟨a1,l1,c1,rfl,O,I,G⟩
    dsimp only
    refine hK.out _ _ G (fun U=> ?_)
    clear U hK K I ag
    rename World=>ag
    refine rdH 6 fun K hK=> ?_
    go_simp
    obtain⟨ar,I⟩:=fT
    replace G:=bT
    generalize cvW ag nm=ae at ar I G ⊢
    generalize cvC ag nm=bk at ar ⊢
    generalize cvA ag=dv at ar ⊢
    generalize cvL nm=df at ar ⊢
    replace O:=O.below I
    refine hK.out _ _ G (fun U=> ?_)
    clear U hK K I ag
    rename World=>ag
   rotate_left
   focus
    go_simp
    obtain⟨ar,I⟩:=fT
    replace G:=bT
    generalize cvW ag nm=ae at ar I G ⊢
    generalize cvC ag nm=bk at ar ⊢
    generalize cvA ag=dv at ar ⊢
    generalize cvL nm=df at ar ⊢
    refine hK.out _ _ G (fun U=> ?_)
    clear U hK K I ag
    rename World=>ag
    refine rdH 1 fun K hK=> ?_
    go_simp
    refine(CH 67324752 4 G od od).mono ?_
    clear G
    rintro e ae ⟨a1,l1,c1,rfl,O,I,G⟩
    dsimp only
    replace ar:=ar.below I
    refine hK.out _ _ G (fun U=> ?_)
    clear U hK K I ag
    rename World=>ag
   rotate_left;all_goals (refine rjH 10 (G.alloc G.size (.cells #[.slice bj aj bi,.slice a1 l1 c1,.slice cp cv cz,.slice dv df bk,.slice cu cw c6,.slice pa pl pc] 23)) ?_;refine rdH 11 fun K hK=> ?_;go_simp;refine(Id [.slice bj aj bi,.slice a1 l1 c1,.slice cp cv cz,.slice dv df bk,.slice cu cw c6,.slice pa pl pc] [Au (l.take k),Ah 67324752 4,([Ah 20 2,Ah 0 2,Ah mt 2,Ah 0 4,Ah cr 4,Ah pl 4,Ah bl 4,Ah fx 2,Ah 11 2]:List (List Nat)).flatten,n8 nml,([Ah 29297 2,Ah 7 2,Ah st 4,Ah nd 2,Ah (Fy gn) 1]:List (List Nat)).flatten,pk] _ _ 6 6 (PIns.cons (ac.1.below G) (PIns.cons O (PIns.cons (co.below G) (PIns.cons ar (PIns.cons (bw.below G) (PIns.cons (f5.below G) .nil)))))) rfl rfl od (by exact Aa f3)).mono ?_;rintro e b5 ⟨cm,cn,cg,rfl,ir,I⟩;have e9:=bT;dsimp only;refine hK.out _ _ e9 (fun _=> ?_);clear hK K;refine rjH 12 e9 ?_;refine wpAnyH_done oR ?_ _;have eh:=Ab (SO (k:=k) (l:=l) (nml:=nml) (bys:=bys) (st:=st) (nd:=nd) (gn:=gn) (mt:=mt) (pk:=pk) (cr:=cr) fi di f6 da ep);have fy:=Ab ir;replace c8:=Ab (c8.below e9);replace ac:=Ab (ac.2.2.trans (e9.mono ac.2.2.size));clear ir e9 G I jo x1 x2 x3 x4 kk j3 kj eg;go_wp2;go_roundw;exact⟨k+1,om,by go_num,Ab ⟨by rw[(Aa eh).1];exact Aa fy,by rw[(Aa eh).2];exact Aa c8,ac⟩⟩;simp[intOf];omega)
 . obtain rfl:n=k:=om;have g8:Hid (l.take n=l):=Ab (by rw[VQ qAP]);have ak:=ap.1;have al:=ap.2.1;have h6:=ap.2.2;have hf:=Ab (Zdl (Au (l.take n)) (Ao 0 (l.take n)) n a5 aj (dj n) (dt n));clear ap;go_wp2_with fail;refine(Fu 101010256 4 _ od od).mono ?_;rintro e hx ⟨fk,gh,fw,rfl,ao,I⟩;replace ak:=ak.below I;replace al:=al.below I;replace h6:=dN;clear I;go_wp2_with fail;refine(Fu 0 4 _ od od).mono ?_;rintro e h3 ⟨hs,g7,gg,rfl,au,I⟩;replace ak:=ak.below I;replace al:=al.below I;replace ao:=ao.below I;replace h6:=dN;clear I;go_wp2_with fail;refine(Fu n 2 _ om od).mono ?_;rintro e hw ⟨f4,f9,g5,rfl,a6,I⟩;replace ak:=ak.below I;replace al:=al.below I;replace ao:=ao.below I;replace au:=au.below I;replace h6:=dN;clear I;go_wp2_with fail;refine(Fu n 2 _ om od).mono ?_;rintro e hz ⟨fh,gx,gv,rfl,bd,I⟩;replace ak:=ak.below I;replace al:=al.below I;replace ao:=ao.below I;replace au:=au.below I;replace a6:=a6.below I;replace h6:=dN;clear I;go_wp2_with fail;refine(Fu a5 4 _ om od).mono ?_;rintro e h2 ⟨ha,hp,hq,rfl,b0,I⟩;replace ak:=ak.below I;replace al:=al.below I;replace ao:=ao.below I;replace au:=au.below I;replace a6:=a6.below I;replace bd:=bd.below I;replace h6:=dN;clear I;go_wp2_with fail;refine(Fu aj 4 _ om od).mono ?_;rintro e h4 ⟨hh,hv,fj,rfl,cy,I⟩;replace ak:=ak.below I;replace al:=al.below I;replace ao:=ao.below I;replace au:=au.below I;replace a6:=a6.below I;replace bd:=bd.below I;replace b0:=b0.below I;replace h6:=dN;clear I;go_wp2_with fail;refine(Fu 0 2 _ od od).mono ?_;rintro e gw ⟨hk,gd,fg,rfl,eu,I⟩;replace ak:=ak.below I;replace al:=al.below I;replace ao:=ao.below I;replace au:=au.below I;replace a6:=a6.below I;replace bd:=bd.below I;replace b0:=b0.below I;replace cy:=cy.below I;replace h6:=dN;clear I;have gu:=Ab (show PIns gw [.slice bj aj bi,.slice bm a5 bu,.slice fk gh fw,.slice hs g7 gg,.slice f4 f9 g5,.slice fh gx gv,.slice ha hp hq,.slice hh hv fj,.slice hk gd fg] [Au (l.take n),Ao 0 (l.take n),Ah 101010256 4,Ah 0 4,Ah n 2,Ah n 2,Ah a5 4,Ah aj 4,Ah 0 2] from (PIns.cons ak (PIns.cons al (PIns.cons ao (PIns.cons au (PIns.cons a6 (PIns.cons bd (PIns.cons b0 (PIns.cons cy (PIns.cons eu .nil))))))))));have e5:=Ab h6;clear h6 ak al ao au a6 bd b0 cy eu;go_wp2_with fail;refine(Id _ _ _ _ 9 9 gu rfl rfl od hf).mono ?_;rintro e b5 ⟨cm,cn,cg,rfl,ir,I⟩;have d9:Hid (PIn b5 (.slice cm cn cg) (Ba l)/\Below w.heap.size w b5):=Ab ⟨by rw[Z6n (Aa g8) (Aa ed) (Aa ep) (Aa fp)];exact ir,e5.trans (I.mono e5.size)⟩;clear I ir;go_wp2;go_ret;exact⟨_,rfl,d9.1,d9.2⟩
theorem JV:∀ {l:List Fl} {p:Option Fl},K7 p l=0->∀f∈l,Lg f=0
 | [],p,h,f,E=>by cases E
 |g::r,p,h,f,E=>by unfold K7 at h;by_cases e:Lg g=0;(. rw[kab (by rw[e];decide)]at h;split at h;(. cases h);rcases VV.1 E with rfl|E;exact e;exact JV h f E);rw[kac e]at h;exact absurd h e
theorem Hf {l:List Fl}(h:errM l=0):l.length<=12/\∀f∈l,Lg f=0:=by unfold errM at h;split at h;(. cases h);exact⟨om,JV h⟩
theorem Oi {f:Fl}(h:Lg f=0):f.name.length<=40/\f.bytes.length<=3000/\0<=f.stamp/\f.stamp<=1000000/\0<=f.node/\f.node<=3:=by unfold Lg at h;split at h;(. rename_i E;exact absurd h E);. rename_i E;(have G:Ln f.name=0:=by by_cases e:Ln f.name=0;exact e;exact absurd e E);split at h;(. cases h);. split at h;(. cases h);have:=(Za0 G).1;omega
structure ENd (n:Nat)(x:En):Prop where
 mt:x.meth<65536
 cr:x.crc<4294967296
 pl:x.pk.length<=n
 st:0<=x.f.stamp/\x.f.stamp<4294967296
 nd:0<=x.f.node/\x.f.node<65536
 nm:x.f.name.length<=n/\x.f.name.length<65536
 un:∃ys,unpF x.meth x.pk=some ys/\x.f.bytes=o8 ys
theorem ENd.mono {x:En}(h:ENd n x)(E:n<=m):ENd m x:=⟨h.mt,h.cr,WJ h.pl E,h.st,h.nd,⟨WJ h.nm.1 E,h.nm.2⟩,h.un⟩
theorem Y3 {l:List Nat}(G:l.length=k)(E:∀x∈l,x<256):Ak l<256^k:=by rw[<-G];exact Ip l E
theorem Z68 {r q:List Nat}{x:En}(G:∀y∈r,y<256)(h:Vx r=some (x,q)):ENd r.length x:=by
 unfold Vx at h;obtain⟨a1,r1,rfl,l1,h⟩:=Ap h;dsimp only at h;obtain⟨a2,r2,rfl,l2,h⟩:=Ap h;dsimp only at h;obtain⟨ax,ai,rfl,a5,h⟩:=Ap h;dsimp only at h;obtain⟨a6,ap,rfl,ae,h⟩:=Ap h;dsimp only at h;obtain⟨az,a3,rfl,al,h⟩:=Ap h;dsimp only at h;obtain⟨bc,ao,rfl,bh,h⟩:=Ap h;dsimp only at h;obtain⟨aj,au,rfl,af,h⟩:=Ap h;dsimp only at h;obtain⟨ah,bi,rfl,aw,h⟩:=Ap h;dsimp only at h;obtain⟨a9,ba,rfl,bb,h⟩:=Ap h;dsimp only at h;obtain⟨ay,av,rfl,l10,h⟩:=Ap h;dsimp only at h;obtain⟨a7,a4,rfl,I,h⟩:=Ap h;dsimp only at h;obtain⟨bg,bf,rfl,U,h⟩:=Ap h;dsimp only at h;obtain⟨bj,a8,rfl,ak,h⟩:=Ap h;dsimp only at h;obtain⟨aa,bd,rfl,ar,h⟩:=Ap h;dsimp only at h
 cases H:unpF (Ak a2) aa with
 |none=>rw[H]at h;cases h
 |some b=>rw[H]at h;simp only[VS,YI,ZH]at h;obtain⟨rfl,rfl⟩:=h;have v2:=Y3 l2 (fun z E=>G z (by simp[E]));have v4:=Y3 ae (fun z E=>G z (by simp[E]));have ac:=Y3 af (fun z E=>G z (by simp[E]));have ag:=Y3 I (fun z E=>G z (by simp[E]));have O:=Y3 U (fun z E=>G z (by simp[E]));simp only[Nat.reducePow]at v2 v4 ac ag O;refine⟨v2,v4,by simp only[VB];omega,⟨by dsimp only;omega,by dsimp only;omega⟩,⟨by dsimp only;omega,by dsimp only;omega⟩,⟨by dsimp only;rw[Fg];simp only[VB];omega,by dsimp only;rw[Fg];omega⟩,b,H,rfl⟩
theorem Ux:∀ {F:Nat} {r:List Nat} {l:List En},(∀y∈r,y<256)->Cd F r=some l->l.length*41<=r.length/\∀x∈l,ENd r.length x
 |0,r,l,_,h=>by cases h
 |F+1,r,l,hv,h=>by
  unfold Cd at h;obtain⟨m,q,rfl,hl,h⟩:=Ap h;dsimp only at h;split at h
  . cases G:Vx q with
    |none=>rw[G]at h;cases h
    |some p=>rw[G]at h;simp only[VS,XK]at h;obtain⟨l2,O,rfl⟩:=h;have hm:=Uz (x:=p.1) (q:=p.2) G;have H:∀y∈q,y<256:=fun y I=>hv y (by simp[I]);have ih:=Ux (hm.2.1 H).2 O;have U:=hm.1;refine⟨by rw[VG,VB];omega,fun x E=> ?_⟩;rcases VV.1 E with rfl|E;exact(Z68 H G).mono uW;exact(ih.2 x E).mono uW
  . cases h;exact⟨VF _,fun x E=>by cases E⟩
def Vl (u:US):Prop:=∀x∈u.out,x<256
theorem Vl.same {v:US}(h:Vl u)(e:v.out=u.out):Vl v:=fun x E=>h x (by rw[<-e];exact E)
theorem Vl.at (h:Vl u)(j:Nat):u.out.getD j 0<256:=by by_cases E:j<u.out.length;rw[List.getD,VP E];exact h _ (WO E);rw[List.getD,VZ om];exact(by decide:(0:Nat)<256)
theorem El (row:List Bool)(n:Nat)(h:Vl u):Vl (uget row n u).2:=h.same (Cs row n u)
theorem Ej (l:List Int)(row:List Bool)(h:Vl u):Vl (uplace l row u).2:=h.same (Gz l row u).1
theorem L8 (x:Int)(h:Vl u):Vl (An x u):=h.same (L9 x u).2.1
theorem QQ (G:c<256)(h:Vl u):Vl (Fo c u):=by unfold Fo;split;(. split;exact h;intro x H;rcases WG.1 H with E|E;exact h x E;rw[WR.1 E];exact G);exact h
theorem M1 (row:List Bool):∀(k:Nat) (u:US),Vl u->Vl (ustore row k u)
 |0,u,h=>h
 |k+1,u,h=>by unfold ustore;split;exact M1 row k _ (QQ (Z39 row 8 u) (El _ _ h));exact h
theorem GP (d:Nat):∀(k:Nat) (u:US),Vl u->Vl (ucopy d k u)
 |0,u,h=>h
 |k+1,u,h=>by unfold ucopy;split;exact GP d k _ (QQ (h.at _) h);exact h
theorem NN (row:List Bool)(h:Vl u):Vl (Cn row u):=by have G:Vl {u with p:=(u.p+7)/8*8}:=h;(have E:Vl (Cr row u).2:=by unfold Cr;dsimp only;split;exact L8 _ (El _ _ (El _ _ G));exact El _ _ (El _ _ G));unfold Cn;dsimp only;split;exact L8 _ E;exact M1 _ _ _ E
theorem Z11 (row:List Bool)(l:List Int)(h:Vl u):Vl (Nt row l u).2:=by unfold Nt;split;exact Ej _ _ h;. split;exact Ej _ _ h;exact El _ _ (Ej _ _ h)
theorem Z5s (d k:Nat)(h:Vl u):Vl (Kh d k u):=by unfold Kh;split;exact h;. split;exact h;exact GP _ _ _ h
theorem JE (row:List Bool)(lb:List Int)(k:Nat)(h:Vl u):Vl (Cu row lb k u):=by unfold Cu;split;(. rename_i G;split;exact h;intro x H;rcases WG.1 H with E|E;exact h x E;rw[WR.1 E];exact G);. split;exact h;. split;exact El _ _ h;. split;exact Z11 _ _ (El _ _ h);exact Z5s _ _ (Z11 _ _ (El _ _ h))
theorem E8 (row:List Bool)(E lb:List Int):∀(f:Nat) (u:US),Vl u->Vl (Hz row E lb f u)
 |0,u,h=>by unfold Hz;split;exact Ej _ _ h;exact Ej _ _ h
 |f+1,u,h=>by rw[Hy];split;exact Ej _ _ h;. split;exact Ej _ _ h;. split;exact JE _ _ _ (Ej _ _ h);exact E8 row E lb f _ (JE _ _ _ (Ej _ _ h))
theorem F5 (k:Nat)(h:Vl u):Vl (Kg k u):=by unfold Kg;split;exact h;exact h
theorem Z5p (k:Nat)(I:u.p<=row.length)(h:Vl u)(E:(Ed row k u).e=0):Vl (Ed row k u):=by unfold Ed at E ⊢;split;exact F5 _ (NN _ h);. rename_i c0;rw[kab c0]at E;split;exact F5 _ (E8 _ _ _ _ _ h);. rename_i c1;rw[kab c1]at E;split;(. rename_i c2;rw[kac c2]at E;split;(. rename_i G;rw[kac G]at E;exact absurd E G);. rename_i G;have e0:(Dm row u).2.e=0:=om;obtain⟨A,C,v,H⟩:=sT;rw[H]at e0 ⊢;obtain⟨m0,n0,c0,u1,u2,u3,us,S,L,U⟩:=Hs H e0;obtain⟨ac,aa,O,ae⟩:=Sj U I;exact F5 _ (E8 _ _ _ _ _ (h.same O)));exact h
theorem Z6 (G:u.p<=row.length)(h:Vl u)(E:(Bh row u).2.e=0):Vl (Bh row u).2:=by unfold Bh at E ⊢;split;exact El _ _ h;. rename_i c;rw[kab c]at E;split;exact El _ _ (El _ _ h);. rename_i c2;rw[kab c2]at E;exact Z5p _ (He _ _ _ (He _ _ _ G)) (El _ _ (El _ _ h)) E
theorem Yq (N:Nat)(E:row.length=8*N):∀(F:Nat) (u:US),u.e=0->u.p<=row.length->u.out.length<=3000->Vl u->(Bz row F u).e=0->Vl (Bz row F u)
 |0,u,he,hp,ho,h,hz=>h
 |F+1,u,he,hp,ho,h,hz=>by rw[Bz]at hz ⊢;by_cases c:(Bh row u).1=0/\(Bh row u).2.e=0;rw[kac c]at hz ⊢;obtain⟨a1,a2,H,G⟩:=Ia N E u he hp ho c.2;exact Yq N E F _ c.2 H G (Z6 hp h c.2) hz;rw[kab c]at hz ⊢;exact Z6 hp h hz
theorem Z3 (row:List Bool)(N:Nat)(E:row.length=8*N)(h:(Du row).e=0)(j:Nat):(Du row).out.getD j 0<256:=
 (Yq N E (row.length+1) US0 rfl (VF _) (VF _) (by intro x G;cases G) h).at j
theorem N7:∀ {n:Nat} {u:US},(ucopy d n u).e=0->u.out.length<=3000->u.out.length+n<=3000
 |0,u,h,ho=>om
 |n+1,u,h,ho=>by have E:=So h;rw[ucopy,kac E]at h;obtain⟨_,H,G⟩:=Xl (So h);rw[G]at h;have ih:=N7 h (by simp only[VB,VG,WE];omega);simp only[VB,VG,WE]at ih;omega
theorem Le (row:List Bool)(a b:List Int):∀(F E:Nat) (u:US),(utok row a b F u).e=0->row.length+1<=u.p+F->row.length+1<=u.p+E->u.p<=row.length->u.out.length<=3000->Hz row a b E u=utok row a b F u
 |0,E,u,h,h1,h2,hp,ho=>om
 |F+1,0,u,h,h1,h2,hp,ho=>om
 |F+1,E+1,u,h,h1,h2,hp,ho=>by
  obtain⟨t,x,H,e⟩:=Xj h;obtain⟨a1,a2,ai,ag,I⟩:=H.ahead;rw[e]at h ⊢;rw[Hy]
  cases H with
  |stop v g1 g2=>simp[g1,g2]
  |byte c x g1 g2 g3 g4=>(have aj:x.out.length<=3000:=by have:=Ct g1 g2;rw[this.2.2.1];exact ho);(have G:Cu row b c x= {x with out:=x.out++ [c]}:=by unfold Cu;rw[kac g3,kab om]);rw[g1];simp only;rw[kab (fun h=>h g2),kab om,G,kab (fun h=>h g2),kac trivial];rw[kac rfl]at h;exact Le row a b F E _ h om om a2 (I ho)
  |same k n0 f d0 x1 x2 x3 x4 _ g1 g2 g3 g4 g5 g6 g7 g8 g9 g10 g11 g12 g13 g14=>have aa:=Ct g1 g2;have ae:=Bj g5 g6;have O:=Ct g7 g8;have U:=Bj g10 g11;(have af:x4.out.length<=3000:=by rw[U.2.2.1,O.2.2.1,ae.2.2.1,aa.2.2.1];exact ho);have ah:=N7 (by rw[g13];exact g14:(ucopy ((farsL.getD f (0,0)).1+d0) ((samesL.getD (k-257) (0,0)).1+n0) x4).e=0) af;(have G:Cu row b k x1=x:=by unfold Cu;rw[kab om,kab om,Y9 k g3 g4,g5];simp only;(have ac:Nt row b x2=((farsL.getD f (0,0)).1+d0,x4):=by unfold Nt;rw[g7];simp only;rw[kab (fun h=>h g8),kab om,Z1 f g9,g10]);rw[kab (fun h=>h g6),ac];simp only;rw[kab (fun h=>h g11)];unfold Kh;rw[kab om,kab om,g13]);rw[g1];simp only;rw[kab (fun h=>h g2),kab om,G,kab (fun h=>h g14),kac trivial];rw[kac rfl]at h;exact Le row a b F E _ h om om a2 (I ho)
theorem Zz (row:List Bool)(u:US):(uget row 1 u).1<2:=by have:=Z39 row 1 u;simpa using this
theorem Z13 {x:US}{t:Bool}(h:Blk1R row u t x)(au:u.p<=row.length)(aa:u.out.length<=3000):∃l,l<2/\t=decide (l=1)/\Bh row u=(l,x):=by
 cases h with
 |stored l x1 x2 h1 h2 h3 E=>obtain⟨ak,H,O,aj,G⟩:=Bj h2 h3;obtain⟨af,ah,I,ag,_⟩:=Bj h1 G;have hl:=Zz row u;rw[h1]at hl;refine⟨l,hl,rfl, ?_⟩;unfold Bh;rw[h1];simp only;rw[kab (fun h=>h G),h2];simp only;rw[kab (fun h=>h h3)];unfold Ed Kg;rw[kac rfl,NO row x2 (by rw[O,I];exact aa) E,kac E]
 |coded l k x1 x2 x3 a b h1 h2 h3 E h5 h6 h7=>obtain⟨ak,H,O,aj,G⟩:=Bj h2 h3;obtain⟨af,ah,I,ag,_⟩:=Bj h1 G;have hl:=Zz row u;rw[h1]at hl;(have U:x2.out.length<=3000:=by rw[O,I];exact aa);refine⟨l,hl,rfl, ?_⟩;unfold Bh;rw[h1];simp only;rw[kab (fun h=>h G),h2];simp only;rw[kab (fun h=>h h3)];rcases E with E|E;subst E;unfold uopen at h5;rw[kac rfl]at h5;have e1:=(VM h5).2;have e2:=VM (VM h5).1;subst e1;rw[<-e2.1,<-e2.2]at h7 ⊢;unfold Ed Kg;rw[kab od,kac rfl,Le row Pu Lj row.length (row.length+1) x2 h7 om om H U,kac h7];subst E;unfold uopen at h5;rw[kab od,kac rfl]at h5;obtain⟨m0,n0,c0,ar,v2,al,us,ao,aw,ai⟩:=Hs h5 h6;obtain⟨av,ac,ae,ap⟩:=Sj ai H;unfold Ed Kg;rw[kab od,kab od,kac rfl,h5];simp only;rw[kab (fun h=>h h6),Le row a b row.length (row.length+1) x3 h7 om om ac (by rw[ae];exact U),kac h7]
theorem Ys (row:List Bool):∀(F:Nat) (u:US),(Dn row F u).e=0->u.p<=row.length->u.out.length<=3000->Bz row F u=Dn row F u
 |0,u,h,hp,ho=>rfl
 |F+1,u,h,hp,ho=>by obtain⟨t,x,G,e⟩:=A4 h;obtain⟨a1,a2,O,ac,U⟩:=G.ahead;obtain⟨l,hl,H,hi⟩:=Z13 G hp ho;rw[e]at h ⊢;rw[Bz,hi];simp only;by_cases E:l=0;(have I:t=false:=by rw[H,E];rfl);rw[kac ⟨E,O⟩,kac I];rw[kac I]at h;exact Ys row F x h a2 (U ho);(have aa:¬t=false:=by rw[H,show l=1 by omega];decide);rw[kab (fun h=>E h.1),kab aa]
theorem NH (row:List Bool)(h:(Qr row).e=0):Du row=Qr row:=Ys row _ _ h (VF _) (by simp[US0])
theorem LD (row:List Bool)(u:US)(h:(Cn row u).e=0):ustored row u=Cn row u:=by unfold Cn at h ⊢;dsimp only at h ⊢;by_cases c:(Cr row u).2.e=0/\3000<(Cr row u).2.out.length+(Cr row u).1;rw[kac c]at h;exact jJ;rw[kab c];rfl
theorem Z9s {lb:List Int}(h:(Nt row lb u).2.e=0):∃f v d x,uplace lb row u=(f,v)/\v.e=0/\f<=29/\uget row (farsL.getD f (0,0)).2 v=(d,x)/\x.e=0/\Nt row lb u=((farsL.getD f (0,0)).1+d,x):=by unfold Nt at h ⊢;obtain⟨f,v,e⟩:∃f v,uplace lb row u=(f,v):=⟨_,_,rfl⟩;rw[e]at h ⊢;dsimp only at h ⊢;by_cases c:v.e≠0;exact bH;rw[kab c]at h ⊢;by_cases c2:29<f;rw[kac c2]at h;exact vL;rw[kab c2]at h ⊢;rw[Z1 f om]at h ⊢;exact⟨f,v,_,_,rfl,om,om,rfl,h,rfl⟩
theorem Z3o (row:List Bool)(a b:List Int)(u x:US)(U:uplace a row u=(k,x))(O:x.e=0)(ac:k≠256)(ah:x.out.length<=3000)(h:(Cu row b k x).e=0):Mp row a b u=(true,Cu row b k x):=by unfold Mp;rw[U];dsimp only;rw[kab (by rintro (E|E);exact E O;exact ac E)];unfold Cu at h ⊢;by_cases c1:k<256;rw[kac c1]at h ⊢;rw[kac c1];by_cases c2:3000<x.out.length+1;rw[kac c2]at h;exact zC;rw[kab c2];unfold Fo;rw[kac O,kab om];rw[kab c1]at h ⊢;rw[kab c1];by_cases c2:285<k;rw[kac c2]at h;exact vL;rw[kab c2]at h ⊢;rw[kab c2];rw[Y9 k om om]at h ⊢;unfold LH;obtain⟨g,y,ag⟩:∃g y,uget row (samesL.getD (k-257) (0,0)).2 x=(g,y):=⟨_,_,rfl⟩;rw[ag]at h ⊢;dsimp only at h ⊢;by_cases dt:y.e≠0;exact zQ;rw[kab dt]at h ⊢;by_cases G:(Nt row b y).2.e≠0;rw[kac G]at h;exact absurd h G;rw[kab G]at h ⊢;obtain⟨f,v,d,z,E,ae,aj,af,ai,aa⟩:=Z9s (row:=row) (lb:=b) (u:=y) om;rw[aa]at h ⊢;rw[E];dsimp only at h ⊢;rw[kab (show ¬(v.e=0/\29<f) by omega),kab (fun e=>e ae)];unfold Kh at h ⊢;by_cases H:z.out.length<(farsL.getD f (0,0)).1+d;rw[kac H]at h;exact absurd (show (9:Int)=0 from h) od;rw[kab H]at h ⊢;by_cases I:3000<z.out.length+((samesL.getD (k-257) (0,0)).1+g);rw[kac I]at h;exact zC;rw[kab I];unfold Z6s;rw[af];dsimp only;rw[kab (show ¬(z.e=0/\z.out.length<(farsL.getD f (0,0)).1+d) by omega)]
theorem Pd (row:List Bool)(a b:List Int):∀(F E:Nat) (u:US),(Hz row a b E u).e=0->row.length+1<=u.p+F->row.length+1<=u.p+E->u.p<=row.length->u.out.length<=3000->utok row a b F u=Hz row a b E u
 |0,E,u,h,h1,h2,hp,ho=>om
 |F+1,0,u,h,h1,h2,hp,ho=>om
 |F+1,E+1,u,h,h1,h2,hp,ho=>by rw[Hy]at h ⊢;obtain⟨k,x,G⟩:∃k x,uplace a row u=(k,x):=⟨_,_,rfl⟩;rw[G]at h ⊢;dsimp only at h ⊢;by_cases c1:x.e≠0;exact bA;have U:x.e=0:=om;obtain⟨ah,ac,aa,ag,ae,af⟩:=Ct G U;rw[kab c1]at h ⊢;rw[utok,kac ae];by_cases c2:k=256;(have H:Mp row a b u=(false,x):=by unfold Mp;rw[G];dsimp only;rw[kac (Or.inr c2)]);rw[kac c2,H];simp;rw[kab c2]at h ⊢;by_cases dt:(Cu row b k x).e≠0;exact zQ;rw[kab dt]at h ⊢;have H:(Cu row b k x).e=0:=om;(have O:x.out.length<=3000:=by rw[aa];exact ho);have I:=Z5 b k x ac O H;have ai:=I.ge;rw[Z3o row a b u x G U c2 O H,kac rfl];dsimp only;exact Pd row a b F E _ h om om I.le I.out
theorem N8 (q:Nat)(ak:row.length=8*q)(u:US)(ao:u.p<=row.length)(ah:u.out.length<=3000)(h:(Bh row u).2.e=0):Em row u=(decide ((Bh row u).1=1),(Bh row u).2):=by have key:∀(j:Nat) (x:US),(Kg j x).e=0->x.e=0/\Kg j x=ukept j x:=fun j x U=>vK;unfold Bh at h ⊢;unfold Em;obtain⟨l,x1,ae⟩:∃l x1,uget row 1 u=(l,x1):=⟨_,_,rfl⟩;obtain⟨k,x2,aa⟩:∃k x2,uget row 2 x1=(k,x2):=⟨_,_,rfl⟩;rw[ae]at h ⊢;dsimp only at h ⊢;rw[aa]at h ⊢;dsimp only at h ⊢;by_cases c1:x1.e≠0;exact bA;rw[kab c1]at h ⊢;by_cases c2:x2.e≠0;rw[kac c2]at h;exact absurd h c2;have e2:x2.e=0:=om;obtain⟨al,au,ag,ap,_⟩:=Bj ae om;obtain⟨s1,ac,ai,aj,_⟩:=Bj aa e2;(have af:x2.out.length<=3000:=by rw[ai,ag];exact ah);rw[kab c2]at h ⊢;rw[kab c2];unfold Ed at h ⊢;by_cases H:k=0;rw[kac H]at h ⊢;rw[kac H];obtain⟨E,G⟩:=key _ _ h;rw[G,LD row x2 E];rw[kab H]at h ⊢;rw[kab H];by_cases k1:k=1;rw[kac k1]at h ⊢;obtain⟨E,G⟩:=key _ _ h;subst k1;(have I:uopen row 1 x2=((Pu,Lj),x2):=by unfold uopen;rw[kac rfl]);rw[I];dsimp only;rw[kab c2,G,Pd row Pu Lj row.length (row.length+1) x2 E om om ac af];rw[kab k1]at h ⊢;by_cases k2:k=2;rw[kac k2]at h ⊢;subst k2;(have I:uopen row 2 x2=Dm row x2:=by unfold uopen;rw[kab od,kac rfl]);rw[I];by_cases dt:(Dm row x2).2.e≠0;exact zQ;rw[kab dt]at h ⊢;rw[kab dt];obtain⟨E,G⟩:=key _ _ h;have O:=Sk row x2 ac af om;have ar:=O.ge;rw[G,Pd row _ _ row.length (row.length+1) _ E om om O.le O.out];rw[kab k2]at h;exact jU
theorem Xp (q:Nat)(E:row.length=8*q):∀(F:Nat) (u:US),u.e=0->(Bz row F u).e=0->u.p<=row.length->u.out.length<=3000->Dn row F u=Bz row F u
 |0,u,he,h,hp,ho=>rfl
 |F+1,u,he,h,hp,ho=>by rw[Bz]at h ⊢;rw[Dn];(have hl:(Bh row u).1<2:=by unfold Bh;split;show 1<2;decide;. split;show 1<2;decide;exact Zz row u);by_cases c:(Bh row u).1=0/\(Bh row u).2.e=0;rw[kac c]at h ⊢;obtain⟨a1,a2,H,G⟩:=Ia q E u he hp ho c.2;rw[N8 q E u hp ho c.2,kac ⟨by rw[c.1];rfl,c.2⟩];exact Xp q E F _ c.2 h H G;rw[kab c]at h ⊢;(have I:(Bh row u).1=1:=by have:¬(Bh row u).1=0:=fun e=>c ⟨e,h⟩;omega);rw[N8 q E u hp ho h,kab (by rw[I];simp)]
theorem LI (q:Nat)(E:row.length=8*q)(h:(Du row).e=0):Qr row=Du row:=Xp q E _ _ rfl h (VF _) oS
theorem Ms (m:Nat)(pk:List Nat):unpD m pk=unpF m pk:=by unfold unpD unpF;by_cases m0:m=0;rw[kac m0,kac m0];rw[kab m0,kab m0];by_cases E:m=8;rw[kac E,kac E];by_cases h:(Qr (rowB pk pk.length)).e=0;rw[NH _ h];by_cases c:((Qr (rowB pk pk.length)).p+7)/8=pk.length/\pk.length<=6000;rw[kac ⟨h,c⟩,kac ⟨c.2,h,c.1⟩];rw[kab (fun k=>c k.2),kab (fun k=>c ⟨k.2.2,k.1⟩)];have hi:¬(Du (rowB pk pk.length)).e=0:=fun e=>h (by rw[LI pk.length (Af _ _) e];exact e);rw[kab (fun k=>h k.1),kab (fun k=>hi k.2.1)];rw[kab E,kab E]
theorem Zy (E:∀y∈pk,y<256)(h:unpF m pk=some ys):∀y∈ys,y<256:=by unfold unpF at h;split at h;(. cases h;exact E);. split at h;(. split at h;(. rename_i c;cases h;exact F9 (Z3 _ pk.length (Af _ _) c.2.1));. cases h);. cases h
structure EDn (n:Nat)(x:En):Prop where
 ok:EOk x
 val:∀y∈x.pk,y<256
 pl:x.pk.length<=n
 nm:x.f.name.length<=n
theorem Z6b {b r q:List Nat}{x:En}(ag:∀y∈b,y<256)(E:∀y∈r,y<256)(ah:r.length<=b.length)(h:QD b ac r=some (x,q)):EDn b.length x/\(∀y∈q,y<256)/\q.length<=b.length:=by
 unfold QD at h;split at h;. cases h
 . split at h;. cases h
   . rename_i c1 c2
     cases H:unpD (Cz r 10 12) ((b.drop (Cz r 42 46+30+Cz r 28 30+11)).take (Cz r 20 24))with
     |none=>rw[H]at h;cases h
     |some ys=>rw[H]at h;simp only[VS,YI,ZH]at h;obtain⟨rfl,rfl⟩:=h;have af:∀y∈(r.drop (46+Cz r 28 30)).take 11,y<256:=fun y G=>E y (WM (VU G));have I:=Dl E (i:=10) (j:=12) rfl;have v2:=Dl E (i:=16) (j:=20) rfl;have U:=Dl E (i:=28) (j:=30) rfl;have v4:=Dl E (i:=20) (j:=24) rfl;have ae:=Dl af (i:=4) (j:=8) rfl;have aa:=Dl af (i:=8) (j:=10) rfl;replace I:Cz r 10 12<65536:=I;replace v2:Cz r 16 20<4294967296:=v2;replace U:Cz r 28 30<65536:=U;replace v4:Cz r 20 24<4294967296:=v4;replace ae:Cz ((r.drop (46+Cz r 28 30)).take 11) 4 8<4294967296:=ae;replace aa:Cz ((r.drop (46+Cz r 28 30)).take 11) 8 10<65536:=aa;have O:∀y∈(b.drop (Cz r 42 46+30+Cz r 28 30+11)).take (Cz r 20 24),y<256:=fun y G=>ag y (WM (VU G));rw[Ms]at H;refine⟨⟨⟨⟨by dsimp only;omega,by dsimp only;omega⟩,⟨by dsimp only;omega,by dsimp only;omega⟩, ?_, ?_,v2,I, ?_⟩,O, ?_, ?_⟩,fun y G=>E y (WM G),by rw[VR];omega⟩;dsimp only;rw[Fg,VL];omega;dsimp only;rw[VL];omega;dsimp only;rw[H,Z58 (Zy O H)];dsimp only;rw[VL,VR];omega;dsimp only;rw[Fg,VL,VR];omega
theorem BD {b:List Nat}(H:∀y∈b,y<256):∀(k:Nat) (r:List Nat) (l:List En),(∀y∈r,y<256)->r.length<=b.length->Px b ac k r=some l->l.length=k/\∀x∈l,EDn b.length x
 |0,r,l,_,_,h=>by cases h;exact⟨rfl,fun x E=>by cases E⟩
 |k+1,r,l,hr,hl,h=>by
  unfold Px at h
  cases G:QD b ac r with
  |none=>rw[G]at h;cases h
  |some p=>rw[G]at h;simp only[VS,XK]at h;obtain⟨l2,I,rfl⟩:=h;obtain⟨n1,n2,O⟩:=Z6b (x:=p.1) (q:=p.2) H hr hl G;obtain⟨m1,m2⟩:=BD H k p.2 l2 n2 O I;refine⟨by rw[VG,m1],fun x E=> ?_⟩;rcases VV.1 E with rfl|E;exact n1;exact m2 x E
theorem JZ {b:List Nat}{l:List En}(E:∀y∈b,y<256)(h:Xa b=some l):l.length<=12/\∀x∈l,EDn b.length x:=by unfold Xa at h;split at h;(. cases h);. split at h;(. cases h);. rename_i c1 c2;obtain⟨I,G⟩:=BD E _ _ l (fun y H=>E y (WM (VU H))) (by rw[VL,VR];omega) h;exact⟨om,G⟩
theorem EOk.doc {x:En}(h:EOk x):EOkD x:=⟨h.st,h.nd,h.nm,h.pl,h.cr,h.mt,by rw[Ms];exact h.un⟩
theorem ENd.ok {x:En}(h:ENd n x)(I:n<=12000)(G:∀y∈x.pk,y<256):EOk x:=by obtain⟨ys,E,H⟩:=h.un;have:=h.pl;exact⟨h.st,h.nd,h.nm.2,om,h.cr,h.mt,by rw[H,Z58 (Zy G E)];exact E⟩
def Ll (b:List Nat):Nat:=
 match Xa b with
  |none=>7
  |some l=>if errM (l.map En.f)≠0\/Ba l≠b then 7 else if sumsF l=false then 10 else 0
def Yf (b:List Nat):List Fl:=if Ll b≠0 then []else ((Xa b).getD []).map En.f
theorem Z4j {b:List Nat}(af:b.length<=12000)(I:∀y∈b,y<256):Ll b=readE b/\Yf b=readL b:=by
 (have key:∀l,Cd (b.length+1) b=some l->Xa b=some l->Ll b=readE b/\Yf b=readL b:=by intro l G E;(have e:Ll b=readE b:=by unfold Ll readE;rw[kab om,G,E]);exact⟨e,by unfold Yf readL;rw[e,G,E]⟩);(have ac:Ll b=7->readE b=7->Ll b=readE b/\Yf b=readL b:=by intro G E;refine⟨G.trans E.symm, ?_⟩;unfold Yf readL;rw[G,E];rfl);by_cases A:∃l,Cd (b.length+1) b=some l/\Ba l=b/\errM (l.map En.f)=0;. obtain⟨l,G,E,aa⟩:=A;have U:=(Ux I G).2;have ae:=Uw G I;refine key l G ?_;have:=Z1r l (fun x H=>((U x H).ok af (ae x H)).doc) (by have:=(Hf aa).1;simpa using this) (by rw[E];omega);rwa [E]at this
 . by_cases D:∃l,Xa b=some l/\Ba l=b/\errM (l.map En.f)=0;obtain⟨l,G,E,aa⟩:=D;have U:=(JZ I G).2;have:=BC l (fun x H=>(U x H).ok) [] (KO l);rw[XB,E]at this;exact absurd ⟨l,this,E,aa⟩ A
   . refine ac ?_ ?_
     . unfold Ll
       cases O:Xa b with
       |none=>rfl
       |some l=>dsimp only;rw[kac];by_cases c:errM (l.map En.f)=0;exact .inr (fun e=>D ⟨l,O,e,c⟩);exact .inl c
     . unfold readE;rw[kab om]
       cases O:Cd (b.length+1) b with
       |none=>rfl
       |some l=>dsimp only;rw[kac];by_cases c:errM (l.map En.f)=0;exact .inr (fun e=>A ⟨l,O,e,c⟩);exact .inl c
theorem Ku (row:List Bool):∀(ks:List Nat) (s:List Int) (u:US),u.e≠0->(usmall row ks s u).2=u
 | [],s,u,h=>rfl
 |k::r,s,u,h=>by rw[usmall,Fw row 3 u h];exact Ku row r _ u h
theorem Xi (x:Int)(u:US)(h:u.e≠0):An x u=u:=by unfold An;rw[kab h]
theorem QW (row:List Bool)(l:List Int)(k:Nat)(u:US)(h:u.e≠0):(ukind row l k u).2.2=u:=by unfold ukind;split;(. split;exact Xi 8 u h;exact Fw row 2 u h);. split;exact Fw row 3 u h;. split;exact Fw row 7 u h;rfl
theorem N3 (tot:Nat)(l:List Int)(r:Int×Nat×US)(h:r.2.2.e≠0):(Wb tot l r).2=r.2.2:=by unfold Wb;simp only;rw[kab (fun c=>h c.1)]
theorem Z3m (row:List Bool)(u u1 u2 u3 E:US)(G H I:Nat)(S:List Int)(g1:uget row 5 u=(G,u1))(g2:uget row 5 u1=(H,u2))(af:uget row 4 u2=(I,u3))(ag:G+257<=286)(ah:H+1<=30)(ae:usmall row (ord19.take (I+4)) (List.replicate 19 0) u3=(S,E))(U:E.e=0)(O:errL S=0):Dm row u=Gy (G+257) (ulens row S (G+257+(H+1)) (G+257+(H+1)) [] E):=by(have ac:Gx row (G+257) (H+1) (I+4) u3=(S,E):=by unfold Gx;rw[kab om];exact ae);(have aa:Sp (S,E)=E:=by unfold Sp;rw[kab (fun c=>c.2 O)]);unfold Dm;simp only[g1,g2,af];rw[ac];unfold Lk;rw[aa,kab (fun c=>c U)]
theorem Pc (row:List Bool)(u u1 u2 u3:US)(E H G:Nat)(g1:uget row 5 u=(E,u1))(g2:uget row 5 u1=(H,u2))(ae:uget row 4 u2=(G,u3))(x:US)(U:x.e≠0)(ac:(usmall row (ord19.take (G+4)) (List.replicate 19 0) (if 286<E+257\/30<H+1 then An 8 u3 else u3)).2=x):(Dm row u).2=x:=by obtain⟨s,O⟩:=exq (Gx row (E+257) (H+1) (G+4) u3);(have I:s.2=x:=by rw[<-O];exact ac);(have aa:Sp s=x:=by unfold Sp;rw[kab (fun c=>U (by rw[<-I];exact c.1))];exact I);unfold Dm;simp only[g1,g2,ae];rw[O];unfold Lk;rw[aa,kac U]
theorem Uk (N:Nat)(H:row.length=8*N):∀(F:Nat) (u:US),u.e=0->u.p<=row.length->u.out.length<=3000->row.length+1<=u.p+F->(Bz row F u).e=0->u.p+3<=(Bz row F u).p/\(Bz row F u).p<=row.length/\(Bz row F u).out.length<=3000/\u.ks.length+1<=(Bz row F u).ks.length/\(Bz row F u).ks.length+u.p<=u.ks.length+(Bz row F u).p
 |0,u,he,hp,ho,hF,h=>om
 |F+1,u,he,hp,ho,hF,h=>by rw[Bz]at h ⊢;by_cases c:(Bh row u).1=0/\(Bh row u).2.e=0;rw[kac c]at h ⊢;obtain⟨a1,a2,G,E⟩:=Ia N H u he hp ho c.2;obtain⟨U,O,I,ac,aa⟩:=Uk N H F _ c.2 G E om h;exact⟨om,O,I,om,om⟩;rw[kab c]at h ⊢;obtain⟨a1,a2,G,E⟩:=Ia N H u he hp ho h;exact⟨om,G,E,om,om⟩
theorem Ue (row:List Bool)(N:Nat)(H:row.length=8*N)(h:(Du row).e=0):3<=(Du row).p/\(Du row).p<=row.length/\(Du row).out.length<=3000/\1<=(Du row).ks.length/\(Du row).ks.length<=row.length:=by have:=Uk N H (row.length+1) US0 rfl (VF _) (VF _) (by show _<=0+_;omega) h;obtain⟨I,G,E,ac,U⟩:=this;have aa:US0.p=0:=rfl;have O:US0.ks.length=0:=rfl;unfold Du;exact⟨om,G,E,om,om⟩
theorem FU (H G:Value)(I E:ByteArray)(w:World)(U:(convert 23 9 H).run prog w=.ok (.string I) w)(O:(convert 23 9 G).run prog w=.ok (.string E) w):Calls prog 13 #[H,G] w fun e w'=>e=.returned (.bool (I.toList==E.toList))/\w'=w:=by go_enter func13,ntmps13;go_wp2;go_ret;exact⟨rfl,rfl⟩
def Zas (xs:List Nat):ByteArray:=⟨(xs.map UInt8.ofNat).toArray⟩
theorem Sy (xs:List Nat):(Zas xs).toList=xs.map UInt8.ofNat:=by rw[Lib.toList_data];rfl
theorem FJ (a:Option Addr)(E G:Nat)(xs:List Nat)(w:World)(I:xs.length=E)(H:BytesIn w a xs):(convert 23 9 (.slice a E G)).run prog w=.ok (.string (Zas xs)) w:=by rcases H with rfl|⟨b,o,rfl,_,H⟩;(. (obtain rfl:E=0:=by simp at I;omega);rw[run_convert_bytes_string w 23 9 5 _ 0 G underlying23 underlying5 underlying9];cases a<;>simp[Conv.bytesToString,loadCells,Zas];all_goals rfl);have h:=run_convert_bytes_arg (P:=prog) w 23 5 underlying23 underlying5 b o E G (xs.map fun x:Nat=>(x:Int)) (by simpa using I) (by intro i hi;rw[H i om];have:i<xs.length:=om;simp[List.getD,this]) 9 underlying9;rw[h];simp[strOfNums,Zas,ZM]
theorem TY {xs:List Nat}(H:∀j,xs.getD j 0<256)(I:∀j,ys.getD j 0<256)(h:xs.map UInt8.ofNat=ys.map UInt8.ofNat):xs=ys:=by(have hl:xs.length=ys.length:=by have:=congrArg List.length h;simpa using this);apply XM hl;intro j E G;have e:=congrArg (fun l:List UInt8=>l[j]?) h;simp[E,G]at e;have a1:=H j;have a2:=I j;simp[List.getD,E]at a1;simp[List.getD,G]at a2;have e2:=congrArg UInt8.toNat e;simp only[UInt8.toNat_ofNat']at e2;omega
theorem Vt (E I:Option Addr)(G U H O:Nat)(xs ys:List Nat)(w:World)(ag:xs.length=G)(ac:ys.length=H)(ah:∀j,xs.getD j 0<256)(ae:∀j,ys.getD j 0<256)(af:BytesIn w E xs)(aa:BytesIn w I ys):Calls prog 13 #[.slice E G U,.slice I H O] w fun e w'=>e=.returned (.bool (xs==ys))/\w'=w:=by refine(FU _ _ (Zas xs) (Zas ys) w (FJ E G U xs w ag af) (FJ I H O ys w ac aa)).mono ?_;rintro e w' ⟨rfl,rfl⟩;refine⟨Hc ?_,rfl⟩;rw[Sy,Sy,XU,ka2,ka2];exact⟨TY ah ae,fun h=>by rw[h]⟩
def UnA (w:World)(pk:List Nat)(n:Nat)(e:Ending)(w':World):Prop:=Below w.heap.size w w'/\
 (((Qr (rowB pk n)).e=0/\∃ov oc kv,e=.returned (.tuple #[.slice ov (Qr (rowB pk n)).out.length oc,int i64 ((((Qr (rowB pk n)).p+7)/8:Nat):Int),kv,int i64 0])/\PIn w' (.slice ov (Qr (rowB pk n)).out.length oc) (Qr (rowB pk n)).out/\∀g o,ov=some ⟨g,o,none⟩->w.heap.size<=g)\/
  ((Qr (rowB pk n)).e≠0/\e=.returned (.tuple #[.slice none 0 0,int i64 0,.slice none 0 0,int i64 (Qr (rowB pk n)).e])))
def UnC (Gd:Prop):Prop:=∀(W:World) (a:Option Addr) (n c:Nat) (pk:List Nat),pk.length=n->n<=12000->BytesIn W a pk->(∀x∈pk,x<256)->(Gd\/ (Qr (rowB pk n)).e=0)->
 Calls prog 39 #[.slice a n c] W fun e w'=>UnA W pk n e w'
def EnD (w:World)(bs:List Nat)(e:Ending)(w':World):Prop:=Below w.heap.size w w'/\
 ((Xa bs=none/\e=.returned (.tuple #[.slice none 0 0,.bool false]))\/
  ∃es ad c,Xa bs=some (es.map Ev.e)/\e=.returned (.tuple #[.slice ad es.length c,.bool (Ba (es.map Ev.e)==bs)])/\RsIn w' ad es)
theorem RsIn.below {xs:List Ev}(h:RsIn w ah xs)(I:Below w.heap.size w w'):RsIn w' ah xs:=by refine⟨?_,fun x E=>⟨(h.all x E).1.below I,(h.all x E).2⟩⟩;exact xY
theorem GN (E:pk.length<=12000)(h:unpD m pk=some ys):ys.length<=12000:=by rw[Ms]at h;unfold unpF at h;split at h;(. cases h;exact E);. split at h;(. split at h;(. rename_i c;cases h;have:=(Ue (rowB pk pk.length) pk.length (Af _ _) c.2.1).2.2.1;omega);. cases h);. cases h
theorem FE (n:Nat)(dx:bs.length=n)(mp:n<=12000)(ej:n<=ac)(ed:PkIn w a ac bs)(c8:∀x∈bs,x<256)(fj:Prop)(fi:fj\/Xa bs≠none)(d8:UnC fj):Calls prog 10 #[.slice a n ac] w fun e w'=>EnD w bs e w':=by
 have ar:Hid (Xa bs=none->∀W,Below w.heap.size w W->EnD w bs (.returned (.tuple #[.slice none 0 0,.bool false])) W):=Ab (fun h W H=>⟨H,.inl ⟨h,rfl⟩⟩);by_cases l4:n<22;(. have aa:=Ab (ar (by unfold Xa;rw[kac om]) w (kaa _ _));have ky:(n:Int)<22:=om;clear ed c8 dx d8 fi ar;go_enter func10,ntmps10;go_wp2;go_ret2;exact aa);have ky:¬(n:Int)<22:=om;obtain⟨g,o,rfl,a4,eo⟩:=Cb ed.1 om;obtain⟨q,jq⟩:=exq (n-22);have iq:=SG g o n ac q ((n:Int)-22) 22 om om ej om om;have i4:IntKind.i64.wrap ((n:Int)-22)=(n:Int)-22:=sU;(have da:∀j,j<(bs.drop q).length->w.cell? ⟨g,o+q+j,none⟩=some (int .u8 (((bs.drop q).getD j 0:Nat):Int)):=by intro j az;rw[VR]at az;have e:=pJ;rw[e,WV];exact eo (q+j) om);have bq:∀x∈bs.drop q,x<256:=fun x U=>c8 x (WM U);have jm:(bs.drop q).length=22:=tP;have j8:=Fr g (o+q) 22 (ac-q) 8 10 8 10 2 rfl rfl om om om om rfl;have kx:=Fr g (o+q) 22 (ac-q) 12 16 12 16 4 rfl rfl om om om om rfl;have ki:=Fr g (o+q) 22 (ac-q) 16 20 16 20 4 rfl rfl om om om om rfl;obtain⟨bi,bn,bk⟩:=ydC (Ch a4 da bq 8 10 2 (ac-q-8) rfl om om om) (Ch a4 da bq 12 16 4 (ac-q-12) rfl om om om) (Ch a4 da bq 16 20 4 (ac-q-16) rfl om om om);obtain⟨N,d5⟩:=exq (Cz (bs.drop q) 8 10);obtain⟨ap,du⟩:=exq (Cz (bs.drop q) 12 16);obtain⟨I,dm⟩:=exq (Cz (bs.drop q) 16 20);(have lw:N<65536:=by rw[<-d5];exact Dl bq rfl);(have mm:ap<4294967296:=by rw[<-du];exact Dl bq rfl);(have l0:I<4294967296:=by rw[<-dm];exact Dl bq rfl);rw[d5]at bi;rw[du]at bn;rw[dm]at bk;have di:Hid (Xa bs=if 12<N\/I+ap+22≠n then none else Px bs I N ((bs.drop I).take ap)):=Ab (by unfold Xa;rw[kab om,dx,jq,d5,du,dm]);obtain⟨bg,bf,ay,ba,a6⟩:=ydE eo c8 dx d8 fi;clear ed c8 dx d8 fi da bq jm d5 du dm eo;go_enter func10,ntmps10;go_upto_region 4 with fail;refine wp_region_held_drew (S:=fun W=>Below w.heap.size w W) oR (Ae (kaa _ _) 1) (fun G=> ?_);refine tvH 0 G ?_;refine tvH 1 G ?_;refine tvH 3 G ?_;refine tvH 4 G ?_;refine tvH 6 G ?_;refine tvH 7 G ?_;refine rdH 2 fun K hK=> ?_;go_simp;refine(bi _ G).mono ?_;rintro e w' ⟨rfl,rfl⟩;dsimp only;refine hK.out _ _ G (fun _=> ?_);clear hK K;refine rdH 5 fun K hK=> ?_;go_simp;refine(bn _ G).mono ?_;rintro e w' ⟨rfl,rfl⟩;dsimp only;refine hK.out _ _ G (fun _=> ?_);clear hK K;refine rdH 8 fun K hK=> ?_;go_simp;refine(bk _ G).mono ?_;rintro e w' ⟨rfl,rfl⟩;dsimp only;refine hK.out _ _ G (fun _=> ?_);clear hK K;refine rjH 9 G ?_;refine rjH 10 G ?_;refine rjH 11 G ?_;refine wpAnyH_done oR ?_ _;clear iq i4 j8 kx ki bi bn bk G;have dq:Below w.heap.size w w.drew:=Ae (kaa _ _) 1;by_cases fk:12<N\/I+ap+22≠n;(. have aa:=Ab (ar (by rw[Aa di,kac fk]) w.drew dq);clear ar di bg bf ay ba a6 dq;by_cases mi:12<N;(. have h2:(12:Int)<N:=om;go_wp2;go_ret2;exact aa);. have h2:¬(12:Int)<N:=om;have jz:((I:Int)+ap+22 !=(n:Int))=true:=tN;go_wp2;go_ret2;exact aa);have h2:¬(12:Int)<N:=om;have kt:I+ap+22=n:=om;(have jz:((I:Int)+ap+22 !=(n:Int))=false:=by simp only[kbq];omega);have bw:Hid (Xa bs=Px bs I N ((bs.drop I).take ap)):=Ab (by rw[Aa di,kab fk]);have mc:=Fr g o n ac I (I+ap) (I:Int) ((I:Int)+ap) ap rfl om om om ej om om;have jk:=Ab dq;clear fk di dq;go_wp2;go_loopw [8,9,10,11,12,13,14,15,16,17,18,19,55] (fun kl jh _ _ _ _ _ _ _ _ _ _ e4 wr=>∃(k p m:Nat) (es:List Ev),k<=N/\e4=int i64 (k:Int)/\kl=.slice (some ⟨g,o+p,none⟩) m (ac-p)/\Hid (p+m+22=n)/\Hid (es.length=k)/\Hid (RRow wr w.heap.size jh es)/\Hid (Below w.heap.size w wr)/\Hid (Xa bs=(Px bs I (N-k) ((bs.drop p).take m)).map (es.map Ev.e++ ·))/\Hid (∀x∈es,EWd x.e/\∀y∈x.e.pk,y<256)) (fun _ _ _ _ _ _ _ _ _ _ _ _ e4 _=>N-(intOf e4).toNat);exact⟨0,I,ap,[],VF _,rfl,rfl,kt,rfl,Ab (RRow.nil _ _),jk,Ab (by rw[Aa bw];simp),Ab (fun x U=>by cases U)⟩;obtain⟨k,p,m,es,l8,rfl,rfl,jy,ck,bc,af,ci,H⟩:=hrel;by_cases l6:k<N
 . have mn:=Aa jy;obtain⟨r,hr⟩:=exq ((bs.drop p).take m);obtain⟨j,az⟩:∃j,N-k=j+1:=⟨N-k-1,om⟩;have a9:Hid (Xa bs=((QD bs I r).bind fun x=>(Px bs I j x.2).map (x.1:: ·)).map (es.map Ev.e++ ·)):=Ab (by rw[Aa ci,az,hr,Px]);(have ia:r.length=m:=by rw[<-hr,VL,VR,Aa ay];omega);have al:Hid (QD bs I r=none->∀W,Below w.heap.size w W->EnD w bs (.returned (.tuple #[.slice none 0 0,.bool false])) W):=Ab (fun h W H=>Aa ar (by rw[Aa a9,h];rfl) W H);have av:g<wr.heap.size:=VC a4 af.size;(have b9:∀i,i<r.length->wr.cell? ⟨g,o+p+i,none⟩=some (int .u8 ((r.getD i 0:Nat):Int)):=by intro i hi;(have e2:r.getD i 0=bs.getD (p+i) 0:=by rw[<-hr];simp only[List.getD];rw[XR om,XL]);rw[e2,(Aa af).cell (p:=⟨g,_,none⟩) a4,WV];exact bg (p+i) uF);have a7:∀x∈r,x<256:=fun x U=>Aa bf x (by rw[<-hr]at U;exact WM (VU U));by_cases lk:m<46;(. have aa:=Ab (al (by unfold QD;rw[kac om]) wr af);have i6:(m:Int)<46:=om;clear ar al a9 ci bc H bg bf ay ba a6 b9 a7 hr af;go_wp2;go_ret2;exact aa);have i6:¬(m:Int)<46:=om;have j3:=Fr g (o+p) m (ac-p) 28 30 28 30 2 rfl rfl om om om om rfl;have kz:=Fr g (o+p) m (ac-p) 20 24 20 24 4 rfl rfl om om om om rfl;have d9:=Fr g (o+p) m (ac-p) 42 46 42 46 4 rfl rfl om om om om rfl;obtain⟨bi,bn,bk⟩:=ydC (Ch av b9 a7 28 30 2 (ac-p-28) rfl om om om) (Ch av b9 a7 20 24 4 (ac-p-20) rfl om om om) (Ch av b9 a7 42 46 4 (ac-p-42) rfl om om om);obtain⟨E,cy⟩:=exq (Cz r 28 30);obtain⟨bd,c9⟩:=exq (Cz r 20 24);obtain⟨a3,cv⟩:=exq (Cz r 42 46);(have lm:E<65536:=by rw[<-cy];exact Dl a7 rfl);(have mo:bd<4294967296:=by rw[<-c9];exact Dl a7 rfl);(have ma:a3<4294967296:=by rw[<-cv];exact Dl a7 rfl);rw[cy]at bi;rw[c9]at bn;rw[cv]at bk;obtain⟨b0,bm,dz,dv,db,hf,ka,k5⟩:=ydH b9 a7 cy c9 cv hr ia az;clear b9 a7 cy c9 cv hr ia az ci;go_upto_region 13 with fail;refine wp_region_held_drew (S:=fun W=>Below wr.heap.size wr W) oR (Ae (kaa _ _) 1) (fun G=> ?_);refine tvH 0 G ?_;refine tvH 1 G ?_;refine tvH 3 G ?_;refine tvH 4 G ?_;refine tvH 6 G ?_;refine tvH 7 G ?_;refine rdH 2 fun K hK=> ?_;go_simp;refine(bi _ G).mono ?_;rintro e w' ⟨rfl,rfl⟩;dsimp only;refine hK.out _ _ G (fun _=> ?_);clear hK K;refine rdH 5 fun K hK=> ?_;go_simp;refine(bn _ G).mono ?_;rintro e w' ⟨rfl,rfl⟩;dsimp only;refine hK.out _ _ G (fun _=> ?_);clear hK K;refine rdH 8 fun K hK=> ?_;go_simp;refine(bk _ G).mono ?_;rintro e w' ⟨rfl,rfl⟩;dsimp only;refine hK.out _ _ G (fun _=> ?_);clear hK K;refine rjH 9 G ?_;refine rjH 10 G ?_;refine rjH 11 G ?_;refine wpAnyH_done oR ?_ _;clear j3 kz d9 bi bn bk G;have cn:Below wr.heap.size wr wr.drew:=Ae (kaa _ _) 1;by_cases ik:m<46+E+11\/I<a3+30+E+11+bd;(. have aa:=Ab (al (by unfold QD;rw[kab qAE,Aa dz,Aa dv,Aa db,Aa ka,kac ik]) wr.drew (af.trans (cn.mono af.size)));clear ar al a9 bc H bg bf ay ba a6 b0 bm hf dz dv db af cn;by_cases mq:m<46+E+11;(. have ht:(m:Int)<46+(E:Int)+11:=om;go_wp2;go_ret2;exact aa);. have ht:¬(m:Int)<46+(E:Int)+11:=om;have k0:(I:Int)<a3+30+(E:Int)+11+(bd:Int):=om;go_wp2;go_ret2;exact aa);have ht:¬(m:Int)<46+(E:Int)+11:=om;have k0:¬(I:Int)<a3+30+(E:Int)+11+(bd:Int):=om;obtain⟨M,dj⟩:=exq (Cz r 10 12);obtain⟨c6,dn⟩:=exq (Cz r 16 20);have ii:=Aa ka;(have i9:M<65536:=by rw[<-dj];exact Dl bm rfl);(have h9:c6<4294967296:=by rw[<-dn];exact Dl bm rfl);have cw:=Ab (Ch av b0 bm 10 12 2 (ac-p-10) rfl om om om);have ku:=Ab (Ch av b0 bm 16 20 4 (ac-p-16) rfl om om om);rw[dj]at cw;rw[dn]at ku;have ji:IntKind.u32.wrap (c6:Int)=c6:=Bf h9;have iw:=Fr g (o+p) m (ac-p) (46+E) (46+E+11) (46+(E:Int)) (46+(E:Int)+11) 11 om om om om om om om;have k3:=Fr g (o+p) m (ac-p) 10 12 10 12 2 rfl rfl om om om om rfl;have k7:=Fr g (o+p) m (ac-p) 16 20 16 20 4 rfl rfl om om om om rfl;have fu:=Ab dj;have ip:=Ab dn;clear dj dn;obtain⟨k4,f3⟩:=exq (wr.drew);rw[f3]at cn ⊢;clear f3;have jb:=Ab cn;clear cn;go_upto_region 17 with fail;go_cut [14] (fun e6 cj=>∃X,e6=.pointer (some ⟨X,0,none⟩)/\Hid (cj.heap[X]? =some (.cells #[.string ⟨#[]⟩,.slice none 0 0,int i64 0,int i64 0,.bool false,int i64 (M:Int),.slice none 0 0,int .u32 (c6:Int)] 37 (0,0))/\wr.heap.size<=X/\Below wr.heap.size wr cj));(. refine wp_region_held_drew (S:=fun W=>Below wr.heap.size wr W) oR (Ae jb 1) (fun G=> ?_);generalize k4.drew=gh at G ⊢;refine tvH 0 G ?_;refine tvH 1 G ?_;refine tvH 3 G ?_;refine tvH 4 G ?_;refine wpAnyH_ready (rs:= [2,8]) oR oS (AllReadyH.cons rfl (fun K hK=> ?_) (AllReadyH.cons rfl (fun K hK=> ?_) AllReadyH.nil));(. go_simp;refine(cw _ G).mono ?_;rintro e h7 ⟨rfl,ic⟩;obtain rfl:gh=h7:=ic.symm;dsimp only;refine hK.out _ _ G (fun _=> ?_);clear hK K;refine wpAnyH_ready (rs:= [5,8]) oR oS (AllReadyH.cons rfl (fun K hK=> ?_) (AllReadyH.cons rfl (fun K hK=> ?_) AllReadyH.nil));(. go_simp;refine(ku _ G).mono ?_;rintro e h7 ⟨rfl,ic⟩;obtain rfl:gh=h7:=ic.symm;dsimp only;refine hK.out _ _ G (fun _=> ?_);clear hK K;refine tvH 6 G ?_;refine tvH 7 G ?_;refine rdH 8 fun K hK=> ?_;go_simp;have bb:=cI;have ak:=bQ;have km:=G.size;generalize gh.alloc (.cells #[.string ⟨#[]⟩,.slice none 0 0,int i64 0,int i64 0,.bool false,int i64 0,.slice none 0 0,int .u32 0] 37)=hq at bb ak ⊢;generalize gh.heap.size=X at bb km ⊢;refine hK.out _ _ ak (fun _=> ?_);clear hK K G;have G:=ak;clear ak;exact qE);. go_simp;have bb:=cI;have ak:=bQ;have km:=G.size;generalize gh.alloc (.cells #[.string ⟨#[]⟩,.slice none 0 0,int i64 0,int i64 0,.bool false,int i64 0,.slice none 0 0,int .u32 0] 37)=hq at bb ak ⊢;generalize gh.heap.size=X at bb km ⊢;refine hK.out _ _ ak (fun _=> ?_);clear hK K G;have G:=ak;clear ak;exact xR);. go_simp;have bb:=cI;have ak:=bQ;have km:=G.size;generalize gh.alloc (.cells #[.string ⟨#[]⟩,.slice none 0 0,int i64 0,int i64 0,.bool false,int i64 0,.slice none 0 0,int .u32 0] 37)=hq at bb ak ⊢;generalize gh.heap.size=X at bb km ⊢;refine hK.out _ _ ak (fun _=> ?_);clear hK K G;have G:=ak;clear ak;refine rdH 2 fun K hK=> ?_;go_simp;refine(cw _ G).mono ?_;rintro e h7 ⟨rfl,ic⟩;obtain rfl:hq=h7:=ic.symm;dsimp only;refine hK.out _ _ G (fun _=> ?_);clear hK K;exact xR);rename World=>cj;obtain⟨X,rfl,bb⟩:=hcut;obtain⟨fq,lq,gj⟩:=Aa bb
   obtain⟨nml,cd⟩:=exq ((r.drop 46).take E);obtain⟨nm,d7⟩:=exq (B (o8 nml));obtain⟨xs,b7⟩:=exq ((r.drop (46+E)).take 11);(have iy:xs.length=11:=by rw[<-b7,VL,VR];omega);(have e9:nml.length=E:=by rw[<-cd,VL,VR];omega);have cm:∀x∈xs,x<256:=fun x U=>Aa bm x (by rw[<-b7]at U;exact WM (VU U));(have de:∀i,i<xs.length->wr.cell? ⟨g,o+p+(46+E)+i,none⟩=some (int .u8 ((xs.getD i 0:Nat):Int)):=by intro i hi;(have e2:xs.getD i 0=r.getD (46+E+i) 0:=by rw[<-b7];simp only[List.getD];rw[XR om,XL]);rw[e2,WV];exact b0 (46+E+i) (by rw[ii];omega));have g4:Hid (∀W,Below wr.heap.size wr W->(convert 23 9 (.slice (some ⟨g,o+p+46,none⟩) E (ac-p-46))).run prog W=.ok (.string nm) W):=Ab (fun W H=>by (have bh:BytesIn wr (some ⟨g,o+p+46,none⟩) nml:=by rw[<-cd];exact Oj av b0 46 E);have dw:=FJ (some ⟨g,o+p+46,none⟩) E (ac-p-46) nml W e9 (bh.below H (VA _));rw[dw,<-d7];rfl);obtain⟨bo,c5⟩:=exq (xs.getD 10 0);have gu:Hid (∀W,Below wr.heap.size wr W->W.cell? ⟨g,o+p+(46+E)+10,none⟩=some (int .u8 (bo:Int))):=Ab (fun W H=>by rw[H.cell (p:=⟨g,_,none⟩) av,<-c5];exact de 10 om);have fo:=Ab (Ch av de cm 4 8 4 (ac-p-(46+E)-4) rfl om om om);have en:=Ab (Ch av de cm 8 10 2 (ac-p-(46+E)-8) rfl om om om);obtain⟨ai,cp⟩:=exq (Cz xs 4 8);obtain⟨ah,cg⟩:=exq (Cz xs 8 10);(have lu:ai<4294967296:=by rw[<-cp];exact Dl cm rfl);(have li:ah<65536:=by rw[<-cg];exact Dl cm rfl);rw[cp]at fo;rw[cg]at en;obtain⟨gn,ey⟩:=exq (((bo:Int)==1));have i5:=Fr g (o+p) m (ac-p) 46 (46+E) 46 (46+(E:Int)) E rfl om om om om om om;have i7:=Fr g (o+p+(46+E)) 11 (ac-p-(46+E)) 4 8 4 8 4 rfl rfl om om om om rfl;have kg:=Fr g (o+p+(46+E)) 11 (ac-p-(46+E)) 8 10 8 10 2 rfl rfl om om om om rfl;obtain⟨O,ce⟩:=exq ((bs.drop (a3+30+E+11)).take bd);have im:=Ab (show nml.length=E/\B (o8 nml)=nm/\(r.drop 46).take E=nml/\Cz xs 4 8=ai/\Cz xs 8 10=ah/\((bo:Int)==1)=gn/\xs.getD 10 0=bo/\(r.drop (46+E)).take 11=xs from ⟨e9,d7,cd,cp,cg,ey,c5,b7⟩);have kq:IntKind.i64.wrap (46+(E:Int))=46+(E:Int):=sU
   have au:Hid (QD bs I r=(unpD M O).bind fun ys=>some (⟨⟨o8 nml,o8 ys,((ai:Nat):Int),((ah:Nat):Int),gn⟩,M,O,c6⟩,r.drop (46+E+11))):=Ab (by
    unfold QD
    rw[kab om,Aa dz,Aa dv,Aa db,kab (by rw[ii];exact ik),Aa fu,ce,Aa ip,b7,cp,cg,cd,c5]
    have e:decide (bo=1)=gn:=by
     rw[<-ey]
     by_cases bh:bo=1
     . rw[bh];rfl
     . rw[kak bh];symm;rw[kad];omega
    rw[e])
   (have h1:O.length=bd:=by rw[<-ce,VL,VR,Aa ay];omega);have dl:Hid (∀x∈O,x<256):=Ab (fun x U=>Aa bf x (by rw[<-ce]at U;exact WM (VU U)));have cq:Hid (∀W,Below wr.heap.size wr W->BytesIn W (some ⟨g,o+(a3+30+E+11),none⟩) O):=Ab (fun W H=>by rw[<-ce];exact Oj (VC av H.size) (fun i hi=>(H.cell (p:=⟨g,_,none⟩) av).trans ((af.cell (p:=⟨g,_,none⟩) a4).trans (bg i hi))) _ _);have a8:=Ab h1;clear cd b7 iy e9 cm de c5 cp cg bb d7 ce h1;go_upto_region 18 with fail;go_cut [14] (fun e6 bj=>e6=.pointer (some ⟨X,0,none⟩)/\Hid (bj.heap[X]? =some (.cells #[.string nm,.slice none 0 0,int i64 (ai:Int),int i64 (ah:Int),.bool gn,int i64 (M:Int),.slice none 0 0,int .u32 (c6:Int)] 37 (0,0))/\Below wr.heap.size wr bj));(. refine wp_region_held_drew (S:=fun W=>Below wr.heap.size wr W) oR (Ae gj 1) (fun G=> ?_);have em:cj.drew.heap[X]? =some (.cells #[.string ⟨#[]⟩,.slice none 0 0,int i64 0,int i64 0,.bool false,int i64 (M:Int),.slice none 0 0,int .u32 (c6:Int)] 37 (0,0)):=fq;generalize cj.drew=gh at G em ⊢;refine tvH 0 G ?_;refine tvH 1 G ?_;refine tvH 2 G ?_;refine tvH 3 G ?_;refine wpAnyH_take (i:=4) (v:=.string nm) rfl oR oR oR (fun _ _ _ h=>h) (Or.inl ⟨by rfl,fun W eg=>by have l3:=Aa g4 W eg;go_simp⟩) G ?_;refine tvH 5 G ?_;refine tvH 6 G ?_;refine tvH 8 G ?_;refine tvH 9 G ?_;refine tvH 11 G ?_;refine tvH 12 G ?_;refine wpAnyH_take (i:=13) (v:=int .u8 (bo:Int)) rfl oR oR oR (fun _ _ _ h=>h) (Or.inl ⟨by rfl,fun W eg=>by have lz:=Aa gu W eg;go_simp⟩) G ?_;refine tvH 14 G ?_;refine rdH 7 fun K hK=> ?_;go_simp;refine(fo _ G).mono ?_;rintro e h7 ⟨rfl,ic⟩;obtain rfl:gh=h7:=ic.symm;dsimp only;refine hK.out _ _ G (fun _=> ?_);clear hK K;refine rdH 10 fun K hK=> ?_;go_simp;refine(en _ G).mono ?_;rintro e h7 ⟨rfl,ic⟩;obtain rfl:gh=h7:=ic.symm;dsimp only;refine hK.out _ _ G (fun _=> ?_);clear hK K;refine tvH 15 G ?_;refine rjH 16 G ?_;refine rdH 17 fun K hK=> ?_;rw[kac (by rfl)];refine wp_store_mid 30 (.tmp 117) (.tmp 116) rfl X 0 #[.string nm,.slice none 0 0,int i64 (ai:Int),int i64 (ah:Int),.bool gn] rfl rfl (Z2l em) oR oR ?_;obtain⟨i0,k9⟩:=Ze3 gh X 37 _ _ _ _ _ _ _ _ (.string nm) (.slice none 0 0) (int i64 (ai:Int)) (int i64 (ah:Int)) (.bool gn) em;have lw:=G.grown k9 G.size (fun g e=>by cases e;exact lq);refine hK.out _ _ lw (fun _=> ?_);clear hK K;refine wpAnyH_done oR ?_ _;go_wp2_with fail;go_meet;exact⟨rfl,Ab ⟨i0,lw⟩⟩);rename World=>bj;obtain⟨rfl,h3⟩:=hcut;obtain⟨df,ew⟩:=Aa h3;obtain⟨aj,jt⟩:=exq (a3+30+E+11);have h5:=Fr g o n ac aj (aj+bd) ((a3:Int)+30+(E:Int)+11) ((a3:Int)+30+(E:Int)+11+(bd:Int)) bd om om om om ej om om;obtain⟨CF,hk⟩:=exq (ac-aj);have g7:bd<=CF:=om;rw[hk]at h5;clear hk;have hw:=Ac (i:=6) df;simp only[WF,VW,WI]at hw;have i3:=kag bj X 6 _ _ df;obtain⟨w6,ct⟩:=exq (bj.setCell ⟨X,6,none⟩ (.slice (some ⟨g,o+aj,none⟩) bd CF));(have bu:w6.heap[X]? =some (.cells (#[.string nm,.slice none 0 0,int i64 (ai:Int),int i64 (ah:Int),.bool gn,int i64 (M:Int),.slice (some ⟨g,o+aj,none⟩) bd CF,int .u32 (c6:Int)]) 37 (0,0)):=by rw[<-ct,kah bj X 6 _ _ _ df];rfl);(have f9:Below wr.heap.size wr w6:=by rw[<-ct];exact ew.grown (Ad bj X 6 _) ew.size (fun g e=>by cases e;exact lq));have ib:=Ab ct;clear ct;clear fq gj h3 cw ku fo en g4 gu i5 i7 kg k3 k7 iw kq ji ew ey;rw[jt]at cq;have dy:=Ab bu;have ax:=Ab f9;have b5:=Ac (i:=5) bu;have hh:=Ac (i:=6) bu;have k1:=Ac (i:=1) bu;simp only[WF,VW,WI]at b5 hh k1;have h6:=fun j=>kag w6 X j _ _ bu;have f1:=h6 1;clear bu f9 h6;go_upto_region 21 with fail;rw[Aa ib];clear hw i3 h5 df ib;go_upto_block 2 with fail;go_cut [16,17,18,19] (fun _ _ _ _ ae=>∃ys fa fc,Hid (unpD M O=some ys/\ae.heap[X]? =some (.cells (#[.string nm,.slice fa ys.length fc,int i64 (ai:Int),int i64 (ah:Int),.bool gn,int i64 (M:Int),.slice (some ⟨g,o+aj,none⟩) bd CF,int .u32 (c6:Int)]) 37 (0,0))/\Below wr.heap.size wr ae/\PkIn ae fa fc ys/\ys.length<=fc/\∀ag ao,fa=some ⟨ag,ao,none⟩->ag<w.heap.size\/wr.heap.size<=ag))
   . by_cases m0:M=0;(. subst m0;have fe:Hid (∀W,w6.setCell ⟨X,1,none⟩ (.slice (some ⟨g,o+aj,none⟩) bd CF)=W->∃ys fa fc,Hid (unpD 0 O=some ys/\W.heap[X]? =some (.cells (#[.string nm,.slice fa ys.length fc,int i64 (ai:Int),int i64 (ah:Int),.bool gn,int i64 ((0:Nat):Int),.slice (some ⟨g,o+aj,none⟩) bd CF,int .u32 (c6:Int)]) 37 (0,0))/\Below wr.heap.size wr W/\PkIn W fa fc ys/\ys.length<=fc/\∀ag ao,fa=some ⟨ag,ao,none⟩->ag<w.heap.size\/wr.heap.size<=ag)):=Ab (by intro W H;(have cu:Below wr.heap.size wr W:=by rw[<-H];exact ax.grown (Ad w6 X 1 _) ax.size (fun g e=>by cases e;exact lq));refine⟨O,some ⟨g,o+aj,none⟩,CF,Ab ⟨by unfold unpD;rw[kac rfl], ?_,cu,⟨Aa cq W cu,fun e=>by cases e⟩,by rw[Aa a8];exact g7,fun ag ao e=>.inl (by cases e;exact a4)⟩⟩;rw[<-H,kah w6 X 1 _ _ _ (Aa dy),Aa a8];rfl);replace b5:w6.cell? ⟨X,5,none⟩=some (int i64 0):=b5;clear au ar al a9 bw ba a6;go_wp2;go_meet;exact fe _ rfl);have ko:((M:Int)==0)=false:=sV;by_cases gq:M=8
     . subst gq;clear ko;replace b5:w6.cell? ⟨X,5,none⟩=some (int i64 8):=b5;have jg:bd<=12000:=om
       have hj:Hid (fj\/ (Qr (rowB O bd)).e=0):=Ab (by
        rcases Aa a6 with bh|bh
        . exact .inl bh
        . refine .inr ?_
          by_cases dw:(Qr (rowB O bd)).e=0
          . exact dw
          . exfalso
            apply bh
            rw[Aa a9,Aa au]
            have:unpD 8 O=none:=by
             unfold unpD
             rw[kab od,kac rfl,Aa a8,kab (fun fh=>dw fh.1)]
            rw[this]
            rfl)
       have bv:Hid (unpD 8 O=if (Qr (rowB O bd)).e=0/\((Qr (rowB O bd)).p+7)/8=bd/\bd<=6000 then some (Qr (rowB O bd)).out else none):=Ab (by unfold unpD;rw[kab od,kac rfl,Aa a8]);have fg:=Ab (ba w6 (some ⟨g,o+aj,none⟩) bd CF O a8 jg (cq w6 ax) dl hj);have f8:Hid (∀W,Below w6.heap.size w6 W->Below w.heap.size w W):=Ab (fun W H=>af.trans ((ax.trans (H.mono ax.size)).mono af.size));have hs:Hid (X<w6.heap.size):=Ab (VD.1 dy).1;clear ba a6 hj a9 bw ar;go_wp2_with fail;refine fg.mono ?_;rintro e aw ⟨co,lg⟩;have b8:=(co.block X hs).trans (Aa dy);have je:=Ac (i:=6) b8;have lf:=Ac (i:=1) b8;simp only[WF,VW,WI]at je lf;have l7:=kag aw X 1 _ _ b8;rcases lg with ⟨c7,ov,ho,kv,rfl,ep,ha⟩|⟨c7,rfl⟩
       . generalize Qr (rowB O bd)=et at*;obtain⟨oi,e8⟩:=exq ((et.p+7)/8);obtain⟨j0,dp⟩:=exq (et.out.length);rw[dp]at ep;rw[e8,dp];obtain⟨e7,cz,gy,eb,ek,e5⟩:=ydF ep ha e8 dp b8 co;clear ep ha e8 dp b8 co fg;by_cases lv:oi≠bd\/6000<bd;. have aa:=Ab (al (by rw[Aa au,Aa bv,kab (by rw[Aa gy];omega)];rfl) aw (f8 aw e5));clear al au bv e7 cz ek;by_cases md:oi≠bd;(. have g0:((oi:Int)!=bd)=true:=tN;go_wp2;go_ret2;exact aa);. have g0:=sD;have kk:(6000:Int)<bd:=om;go_wp2;go_ret2;exact aa
         . have g0:=sD;have kk:¬(6000:Int)<bd:=om
           have fe:Hid (∀W,aw.setCell ⟨X,1,none⟩ (.slice ov j0 ho)=W->∃ys fa fc,Hid (unpD 8 O=some ys/\W.heap[X]? =some (.cells (#[.string nm,.slice fa ys.length fc,int i64 (ai:Int),int i64 (ah:Int),.bool gn,int i64 ((8:Nat):Int),.slice (some ⟨g,o+aj,none⟩) bd CF,int .u32 (c6:Int)]) 37 (0,0))/\Below wr.heap.size wr W/\PkIn W fa fc ys/\ys.length<=fc/\∀ag ao,fa=some ⟨ag,ao,none⟩->ag<w.heap.size\/wr.heap.size<=ag)):=Ab (by
            intro W H
            have gd:Below wr.heap.size wr aw:=ax.trans (e5.mono ax.size)
            have cu:Below wr.heap.size wr W:=by rw[<-H];exact gd.grown (Ad aw X 1 _) gd.size (fun g e=>by cases e;exact lq)
            obtain⟨ly,lr,e1,g5,kc⟩:=Aa e7
            rw[Aa eb]at e1 g5
            cases e1
            have mg:=ax.size
            refine⟨et.out,ov,ho,Ab ⟨by rw[Aa bv,kac ⟨c7,by rw[Aa gy];omega,om⟩], ?_,cu, ?_,by rw[Aa eb];exact g5,fun ag ao e=>.inr (oI (Aa cz ag ao e))⟩⟩
            . rw[<-H,kah aw X 1 _ _ _ (Aa ek),Aa eb]
              rfl
            . rw[<-H]
              refine kc.grown (Ad aw X 1 _) (fun ag ao e ju e2=> ?_)
              have hv:=Aa cz ag ao e
              have lh:=Aa hs
              cases e2
              omega)
           clear al au bv e7 cz ek e5;go_wp2;go_meet;exact fe _ rfl
       . have aa:=Ab (al (by rw[Aa au,Aa bv,kab (fun fh=>c7 fh.1)];rfl) aw (f8 aw co));(have ju:((Qr (rowB O bd)).e !=0)=true:=by simp only[kaz,ne_eq];exact c7);clear al au bv fg co b8;generalize (Qr (rowB O bd)).e=l5 at*;go_wp2;go_ret2;exact aa
     . have l9:((M:Int)==8)=false:=sV;have aa:=Ab (al (by rw[Aa au,show unpD M O=none by unfold unpD;rw[kab m0,kab gq]];rfl) w6 (af.trans (ax.mono af.size)));clear ar al a9 bw ba a6 au;go_wp2;go_ret2;exact aa
   rename World=>ae;obtain⟨ys,fa,fc,h8⟩:=hcut;obtain⟨dt,a5,dh,hp,fx,fy⟩:=Aa h8;obtain⟨jj,gw,ir,ix,jl,k6,jp,ja⟩:=Aa im;have f7:∀x∈ys,x<256:=Zy dl (by rw[<-Ms];exact dt);have jo:ys.length<=12000:=GN (by rw[Aa a8];omega) dt;obtain⟨y,bz⟩:∃y:Ev,y=⟨⟨⟨o8 nml,o8 ys,((ai:Nat):Int),((ah:Nat):Int),gn⟩,M,O,c6⟩,fa,fc,some ⟨g,o+aj,none⟩,CF⟩:=⟨_,rfl⟩;obtain⟨hx,eh⟩:=exq (ys.length);(have hz:y.rcells= [.string nm,.slice fa hx fc,int i64 (ai:Int),int i64 (ah:Int),.bool gn,int i64 (M:Int),.slice (some ⟨g,o+aj,none⟩) bd CF,int .u32 (c6:Int)]:=by rw[bz];simp only[Ev.rcells,Fg,eh,Aa a8,gw]);(have gv:EvR ae y:=by rw[bz];refine⟨⟨?_,by simp only[Fg];exact fx,by simp only[Fg];omega,by simp only[Fg];omega,Aa cq ae dh,fun e=>by cases e⟩,by simp only[];rw[Aa a8];exact g7⟩;simp only[];rw[Z58 f7];exact hp);(have f5:y.lies (fun b=>some b≠u9.ownBlock):=by rw[bz];constructor;intro b ao e1 e2 e3;have hv:=bc.own.lt b e3.symm;have lh:=fy b ao e1;omega;. intro b ao e1 e2 e3;have hv:=bc.own.lt b e3.symm;cases e1;omega);(have gx:EWd y.e/\∀z∈y.e.pk,z<256:=by rw[bz];exact⟨⟨⟨by simp only[];omega,by simp only[];omega⟩,⟨by simp only[];omega,by simp only[];omega⟩,by simp only[Fg];omega,by simp only[Fg];omega,by simp only[];rw[Aa a8];omega,h9,i9⟩,dl⟩);(have f4:y.e=⟨⟨o8 nml,o8 ys,((ai:Nat):Int),((ah:Nat):Int),gn⟩,M,O,c6⟩:=by rw[bz]);have j6:Hid (Xa bs=(Px bs I (N-(k+1)) ((bs.drop (p+(46+E+11))).take (m-(46+E+11)))).map ((es++ [y]).map Ev.e++ ·)):=Ab (by rw[Aa a9,Aa au,dt,VS,VS,<-Aa hf,Xb bs p m _ om,show N-(k+1)=j by have:=Aa k5;omega,Option.map_map,f4.symm];congr 1;funext l;simp);have j1:=Ac (i:=0) a5;have ig:=Ac (i:=1) a5;have k8:=Ac (i:=2) a5;have jf:=Ac (i:=3) a5;have kh:=Ac (i:=4) a5;have iz:=Ac (i:=5) a5;have js:=Ac (i:=6) a5;have kn:=Ac (i:=7) a5;simp only[WF,VW,WI]at j1 ig k8 jf kh iz js kn;rw[eh]at ig;have ee:Below w.heap.size w ae:=af.trans (dh.mono af.size);have g8:RRow ae w.heap.size u9 es:=bc.below dh;obtain⟨f6,ie,il⟩:=ydC (fun o1:Obj=>g8.below ((kaa ae.heap.size ae).alloc (VA _) o1)) (fun o1:Obj=>gv.below ((kaa ae.heap.size ae).alloc (VA _) o1)) f5;have gz:Hid (∀o1,o1=Obj.cells #[.string nm,.slice fa hx fc,int i64 (ai:Int),int i64 (ah:Int),.bool gn,int i64 (M:Int),.slice (some ⟨g,o+aj,none⟩) bd CF,int .u32 (c6:Int)] 37->∀j u,y.rcells[j]? =some u->(ae.alloc o1).cell? ⟨ae.heap.size,j,none⟩=some u):=Ab (fun o1 e j u az=>by subst e;rw[Ac (kae ae _)];rw[hz]at az;simpa using az);have j4:Hid (es.length+1<=100000):=Ab (oh ck);have ft:=Ab ee;have mh:w.heap.size<=ae.heap.size:=ee.size;have iu:=Ab gx;have ml:=SG g (o+p) m (ac-p) (46+E+11) (46+(E:Int)+11) (m-(46+E+11)) om om om om rfl;clear h8 dt a5 dh hp fx fy gv f5 gx g8 ee hz f7 jo f4 jj gw ir ix jl k6 jp ja im au ar al a9 ba a6 dl cq dy ax b0 bm ip fu dz dv db bg bf bw k1 b5 hh f1 eh bz;go_wp2_with (at_builtin;refine Mm _ rfl _ _ rfl w.heap.size _ es rfl (f6 _) ae.heap.size y rfl (gz _ rfl) (ie _) il j4 oO ?_);intro v' j9 jc hu;have j7:Hid (Below w.heap.size w j9):=Ab ((ft.alloc ft.size _).grown (Aa hu) oO (fun b e=>(bc.own.lt b e).1));clear f6 ie gz il hu;go_wp2;go_roundw;refine⟨k+1,p+(46+E+11),m-(46+E+11),es++ [y],om,by go_num,by rw[WV,Nat.sub_sub],Ab om,Ab (by rw[VB,Aa ck];rfl),jc,j7,j6,Ab (fun x U=> ?_)⟩;rcases WG.1 U with U|U;exact H x U;rw[WR.1 U];exact Aa iu;simp[intOf];omega
 . obtain rfl:N=k:=om;obtain⟨ad,eu,gi,fp⟩:=bc.entries;rw[Aa ck]at gi;subst gi;have fw:Hid (Xa bs=some (es.map Ev.e)):=Ab (by rw[Aa ci,XT,Px];simp);have h0:=Ab (Z5j eu fp ck om (fun x U=>(H x U).1));have h4:=Ab fp;have gg:Hid (∀j,(Ba (es.map Ev.e)).getD j 0<256):=Ab (Cq (Se _ (fun x U=>by obtain⟨z,kj,rfl⟩:=WU.1 U;exact(H z kj).2)));have hg:Hid (∀j,bs.getD j 0<256):=Ab (Cq bf);have g9:Hid (∀W,Below w.heap.size w W->BytesIn W (some ⟨g,o,none⟩) bs):=Ab (fun W H=>.inr ⟨g,o,rfl,VC a4 H.size,fun j az=>(H.cell (p:=⟨g,_,none⟩) a4).trans (bg j az)⟩);clear fp ar ba a6 bw ci bf bg;go_wp2_with fail;refine h0.mono ?_;rintro e hq ⟨lj,rfl,jw,ei⟩;obtain⟨jr,i1,rfl,d9,ij⟩:=jw;obtain⟨jv,d6⟩:=exq ((Ba (es.map Ev.e)).length);rw[d6];have ff:Below w.heap.size w hq:=af.trans (ei.mono af.size);have j5:=Ab (Vt jr (some ⟨g,o,none⟩) jv i1 n ac (Ba (es.map Ev.e)) bs hq d6 ay gg hg ij.1 (g9 hq ff));have aa:Hid (EnD w bs (.returned (.tuple #[.slice ad N eu,.bool (Ba (es.map Ev.e)==bs)])) hq):=Ab ⟨ff,.inr ⟨es,ad,eu,fw,by rw[Aa ck],h4.below ei⟩⟩;generalize (Ba (es.map Ev.e)==bs)=eqB at*;clear ei ff d9 ij d6 h0 gg hg g9 h4 fw bc H af;go_wp2_with fail;refine j5.mono ?_;rintro e mj ⟨rfl,rfl⟩;go_wp2;go_ret2;exact aa
end Go.Proofs.YtleocpdblhbimaaGreatDoor
