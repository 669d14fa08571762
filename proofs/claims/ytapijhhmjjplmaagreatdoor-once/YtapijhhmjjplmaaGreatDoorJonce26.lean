import Derived.Test.YtapijhhmjjplmaaGreatDoorJonce22
import Derived.Test.YtapijhhmjjplmaaGreatDoorJonce25
namespace Go.Proofs.YtapijhhmjjplmaaGreatDoor
set_option linter.all false
set_option maxRecDepth 100000
set_option maxHeartbeats 4000000
open Go.Proofs.Tryz
variable {uA:Array Value}{uD:List Deferred}{B:Nat}{P:Program}{ty:TypeId}
section
open Go.RowKit
theorem Nc(Q:Exit->Act->World->Prop)(x:ByteArray)(z:Nat)(i:0<x.size)(j:1<x.size)(k:2<x.size)(w:World)(l:(1:Int)<x.size)(m:(2:Int)<x.size)(h:bits .or .i64 ((x[0].toNat:Int)*256) (x[1].toNat:Int)=(z:Int))(g:∀V,V=w.drew->∀uB,uP uA uB [11,12,28,29,30,31,32,33,34,35,36,37] [(11,.int .i64 z),(12,.int .u8 (x[2].toNat:Int))]->Q .normal ⟨uB,uD⟩ V)(hz:uA.size=87:=by rfl)(s9:gD uA 9=.string x:=by rfl):(Code.region 4 (rg f148 4) true).wp prog Q ⟨uA,uD⟩ w:=by
 have b:=x[0].toNat_lt;have d:=x[1].toNat_lt;have c:=x[2].toNat_lt;have e:IntKind.i64.wrap (x[0].toNat:Int)=(x[0].toNat:Int):=by rw[pH];omega
 have a:IntKind.i64.wrap ((x[0].toNat:Int)*256)=(x[0].toNat:Int)*256:=by rw[pH];omega
 have f:IntKind.i64.wrap (x[1].toNat:Int)=(x[1].toNat:Int):=by rw[pH];omega
 refine rH (λ_=>True) 12 trivial (λR hQ hn=>?_);refine tK hQ 0 trivial ?_;refine tK hQ 1 trivial ?_;refine tK hQ 2 trivial ?_;refine tK hQ 3 trivial ?_;refine tK hQ 4 trivial ?_;refine tK hQ 5 trivial ?_;refine tK hQ 6 trivial ?_;refine tK hQ 7 trivial ?_ (v:=.int .i64 z) (hv:=by intro V hV;rw[<-h];go_simp);refine tK hQ 8 trivial ?_;refine tK hQ 9 trivial ?_;refine tK hQ 10 trivial ?_;refine tK hQ 11 trivial ?_;exact rD (hn (g _ rfl _ uQ))
theorem Mm(Q:Exit->Act->World->Prop)(S X:World->Prop)(h b y z q:Nat)(r:ByteArray)(ev:Value)(w:World)(c:S w.drew)(hc:∀V,S V->V.cell? (yA b 0)=some (.int .i64 y))(hz:(z:Int)<=1000)(g:∀V,Calls prog 217 #[.int .i64 (11+(z:Int))] V λe w'=>e=.returned (.int .i64 q)/\V=w')(d:Calls prog 218 #[yP h,.int .i64 y,.int .i64 q] w.drew λe w'=>e=.returned (.tuple #[.string r,ev])/\S w'/\X w')(f:∀V,X V->∀uB,uP uA uB [10,13,50,51,52,53,54,55,56,57,58,59] [(13,.string r),(10,ev)]->Q .normal ⟨uB,uD⟩ V)(hz:uA.size=87:=by rfl)(s1:gD uA 1=(yP h):=by rfl)(s3:gD uA 3=(yP b):=by rfl)(s11:gD uA 11=.int .i64 z:=by rfl):(Code.region 7 (rg f148 7) true).wp prog Q ⟨uA,uD⟩ w:=by
 have wz:IntKind.i64.wrap (11+(z:Int))=11+(z:Int):=by rw[pH];omega
 refine rH S 12 c (λR hQ hn=>?_);refine tK hQ 0 c ?_;refine tK hQ 1 c ?_;refine tK hQ 2 c ?_ (v:=.int .i64 y) (hv:=by intro V hV;have q0:=hc V hV;go_simp);refine tK hQ 3 c ?_;refine tK hQ 4 c ?_;refine rO 5 (λK hK=>?_);go_simp;go_at_call 217;refine(g w.drew).mono ?_;rintro e w1 ⟨rfl,rfl⟩;refine hK.out _ _ c (λ_=>?_)
 try simp only[Act.put]
 refine rO 6 (λK hK=>?_);go_simp;go_at_call 218;refine d.mono ?_;rintro e w2 ⟨rfl,a,hX⟩;refine hK.out _ _ a (λ_=>?_)
 try simp only[Act.put]
 refine tK hQ 7 a ?_;refine tK hQ 8 a ?_;refine tK hQ 9 a ?_;refine tK hQ 10 a ?_;refine tK hQ 11 a ?_;exact rD (hn (f _ hX _ uQ))
theorem JT(Q:Exit->Act->World->Prop)(b c k y:Nat)(n o h i j:Int)(t:ByteArray)(A s:Array Value)(w:World)(p:w.heap[b]?=some (.cells #[.int .i64 y,.int .u32 n,.int .u32 o] 119 (0,0)))(l:w.heap[c]?=some (.cells #[.int .i64 h,.int .u32 i,.int .u32 j] 119 (0,0)))(q:w.heap[b+1]?=some (.cells A 261 (0,0)))(u:A.size=3)(r:w.heap[b+2]?=some (.cells s 119 (0,0)))(v:s.size=3)(x:c≠b+1)(z:c≠b+2)(m:∀V,V=((w.drew.setRow (b+1) #[.int .u8 k,.int .i64 y,.string t]).setRow (b+2) #[.int .i64 h,.int .u32 i,.int .u32 j])->∀uB,uP uA uB [8,81,82,83,84,85,86] [(8,.bool true)]->Q .normal ⟨uB,uD⟩ V)(hz:uA.size=87:=by rfl)(s3:gD uA 3=(yP b):=by rfl)(s6:gD uA 6=(yP (b+1)):=by rfl)(s7:gD uA 7=(yP (b+2)):=by rfl)(s12:gD uA 12=.int .u8 k:=by rfl)(s14:gD uA 14=.string t:=by rfl)(s16:gD uA 16=(yP c):=by rfl):(Code.region 14 (rg f148 14) true).wp prog Q ⟨uA,uD⟩ w:=by
 have hc:∀V:World,V.heap[b]?=some (.cells #[.int .i64 y,.int .u32 n,.int .u32 o] 119 (0,0))/\V.heap[c]?=some (.cells #[.int .i64 h,.int .u32 i,.int .u32 j] 119 (0,0))->V.cell? (yA b 0)=some (.int .i64 y)/\V.cell? (yA c 0)=some (.int .i64 h)/\V.cell? (yA c 1)=some (.int .u32 i)/\V.cell? (yA c 2)=some (.int .u32 j):=λV hV=>⟨cG hV.1,cG hV.2,cG hV.2,cG hV.2⟩
 have a:w.drew.heap[b]?=some (.cells #[.int .i64 y,.int .u32 n,.int .u32 o] 119 (0,0))/\w.drew.heap[c]?=some (.cells #[.int .i64 h,.int .u32 i,.int .u32 j] 119 (0,0)):=⟨p,l⟩;have d:(w.drew.setRow (b+1) #[.int .u8 k,.int .i64 y,.string t]).heap[b]?=some (.cells #[.int .i64 y,.int .u32 n,.int .u32 o] 119 (0,0))/\(w.drew.setRow (b+1) #[.int .u8 k,.int .i64 y,.string t]).heap[c]?=some (.cells #[.int .i64 h,.int .u32 i,.int .u32 j] 119 (0,0)):=⟨by rw[l7 _ _ _ _ (by omega)];exact p,by rw[l7 _ _ _ _ x];exact l⟩;have e:((w.drew.setRow (b+1) #[.int .u8 k,.int .i64 y,.string t]).setRow (b+2) #[.int .i64 h,.int .u32 i,.int .u32 j]).heap[b]?=some (.cells #[.int .i64 y,.int .u32 n,.int .u32 o] 119 (0,0))/\((w.drew.setRow (b+1) #[.int .u8 k,.int .i64 y,.string t]).setRow (b+2) #[.int .i64 h,.int .u32 i,.int .u32 j]).heap[c]?=some (.cells #[.int .i64 h,.int .u32 i,.int .u32 j] 119 (0,0)):=⟨by rw[l7 _ _ _ _ (by omega)];exact d.1,by rw[l7 _ _ _ _ z];exact d.2⟩;have f:=q;have g:(w.drew.setRow (b+1) #[.int .u8 k,.int .i64 y,.string t]).heap[b+2]?=some (.cells s 119 (0,0)):=by rw[l7 _ _ _ _ (by omega)];exact r
 refine rH (λV=>V.heap[b]?=some (.cells #[.int .i64 y,.int .u32 n,.int .u32 o] 119 (0,0))/\V.heap[c]?=some (.cells #[.int .i64 h,.int .u32 i,.int .u32 j] 119 (0,0))) 9 a (λR hQ hn=>?_);refine tK hQ 0 a ?_;refine tK hQ 1 a ?_;refine tK hQ 2 a ?_;refine tK hQ 3 a ?_;refine tK hQ 4 a ?_;refine tK hQ 5 a ?_;refine rS 6 (b+1) #[.int .u8 k,.int .i64 y,.string t] f d ?_ (hold:=u);have hX:((w.drew.setRow (b+1) #[.int .u8 k,.int .i64 y,.string t]).setRow (b+2) #[.int .i64 h,.int .u32 i,.int .u32 j])=((w.drew.setRow (b+1) #[.int .u8 k,.int .i64 y,.string t]).setRow (b+2) #[.int .i64 h,.int .u32 i,.int .u32 j]):=rfl;refine rS 7 (b+2) #[.int .i64 h,.int .u32 i,.int .u32 j] g e ?_ (hold:=v);refine tK hQ 8 e ?_;exact rD (hn (m _ hX _ uQ))
theorem Am(s:ByteArray)(d:s.size<=100000)(w:World):Calls prog 142 #[.string s] w λe w'=>e=.returned (.string (xN s))/\Below w.heap.size w w':=by
 obtain⟨q,hq⟩:=eX ((s.size+63)/64);obtain⟨z,hz⟩:=eX (q*64-s.size);have a:xN s=s++zb z:=by unfold xN;rw[hz,hq]
 have H1:Hid (∀w,Calls prog 217 #[.int .i64 s.size] w λe w'=>e=.returned (.int .i64 q)/\w=w'):=λw=>hq▸iL s.size oM w
 have H2:Hid (∀w,Calls prog 139 #[.string ⟨#[0]⟩,.int .i64 z] w λe w'=>e=.returned (.string (zb z))/\Below w.heap.size w w'):=λw=>nO z oM w
 rw[a];obtain⟨Z,hZ⟩:=eX (zb z);have b:s.size+Z.size<=9223372036854775807:=by rw[hZ,tz];omega
 rw[<-hZ]at H2⊢;have e1:IntKind.i64.wrap ((q:Int)*64)=(q:Int)*64:=by rw[pH];omega
 have e2:IntKind.i64.wrap ((q:Int)*64-(s.size:Int))=(z:Int):=by rw[pH];omega
 have c:(s.size:Int)<=100000:=oM;clear hq hz a hZ;go_enter func142,ntmps142
 go_wp2_with (first|(go_at_call 217;refine(H1 _).mono ?_;rintro e w1 ⟨rfl,rfl⟩)|(go_at_call 139;refine(H2 _).mono ?_;rintro e w2 ⟨rfl,hb⟩;have HB:Hid (Below w.heap.size w w2):=hb;clear hb))
 go_ret;exact⟨rfl,HB⟩
theorem qW{c:Func}{p u:Tmp}(h:c.results=#[.tmp u,.cell p ty])(b:Array Value)(P:Program)(w:World):
  (results c b).run P w=((asAddr (b.getD p undef)).run P w).andThen λa w₁=>((loadVar ty a).run P w₁).andThen λx w₂=>.ok (.tuple #[b.getD u undef,x]) w₂:=by
 simp only[results,h];simp[K7,Result.andThen]
theorem sY{b:Func}{p u:Tmp}(h:b.results=#[.tmp u,.cell p ty])(a:Array Value)(w:World)(g:Nat)(v:Value)(c:a.getD p undef=yP g)(d:(loadVar ty (yA g 0)).run P w=.ok v w):
  (results b a).run P w=.ok (.tuple #[a.getD u undef,v]) w:=by
 rw[qW h,c];simp[asAddr,Result.andThen,d]
theorem cq.of_belowB{a b:World}(h:Below B a b):cq (λk=>B<=k) a b:=⟨h.os,h.tape,h.output,h.size,λk _ hn=>h.block k oM⟩
def oP(at_ seq chain:Nat):Value:=.agg #[.int .i64 at_,.int .u32 seq,.int .u32 chain]
theorem JI(l:List UInt8):qX l<4294967296:=by unfold qX;omega
theorem uV(a3:List Value)(b a4 a2 a1 k:Nat)(t:ByteArray)(w:World)(hT:dt a3 w b)(a7:a4<=1000000)(a8:a2<=1000000)(a5:a1<4294967296)(hk:k<=255)(ht:t.size<=60000):
  Calls prog 163 #[oP a4 a2 a1,.int .u8 k,.string t,.pointer (yS b 12)] w λe w'=>
   e=.returned (.tuple #[.string (sB (a2+1) a1 k t),oP (a4+dU t.size) (a2+1) (pU (a2+1) a1 k t)])/\dt a3 w' b/\cq (·=b) w w':=by
 obtain⟨n,hn⟩:=eX (a2+1);obtain⟨a,ha⟩:=eX (t.size/256);obtain⟨hi,L⟩:=eX (t.size/256%256);obtain⟨lo,I⟩:=eX (t.size%256);obtain⟨X,hX⟩:=eX (⟨#[UInt8.ofNat hi,UInt8.ofNat lo,UInt8.ofNat k]⟩:ByteArray);obtain⟨bg,A⟩:=eX (X++fb n);have d:yq t.size k n=bg:=by rw[A,hX,L,I];unfold yq;rw[LY (show k<256 by omega)]
 obtain⟨fc,p⟩:=eX (fb a1);obtain⟨c,hc⟩:=eX (pU n a1 k t);have x:c=qX (fc++bg++t).data.toList:=by rw[hc,p,<-d];rfl
 obtain⟨fd,l⟩:=eX (fb c);obtain⟨s,hs⟩:=eX (xN (bg++fd++t));have z:s=sB n a1 k t:=by rw[hs,l,hc,<-d];rfl
 obtain⟨q,hq⟩:=eX (dU t.size);have Y:s.size=q*64:=by rw[z,oI,hq]
 have Q:q<=100000:=by rw[hq];unfold dU;omega
 have N:bg.size=7:=by rw[<-d];exact vO _ _ _
 have M:fc.size=4:=p▸gL _;have U:fd.size=4:=l▸gL _;have v:c<4294967296:=x▸JI _;rw[<-hn,<-hc,<-z,<-hq];have Z:=hT.lt;have r:Below w.heap.size w ((w.alloc (.cells #[.int .i64 a4,.int .u32 a2,.int .u32 a1] 119)).alloc (.cells #[.int .i64 0,.int .u32 0,.int .u32 0] 119)):=((dw _ _).alloc (cO _) _).alloc sI _;obtain⟨W2,i⟩:=eX ((w.alloc (.cells #[.int .i64 a4,.int .u32 a2,.int .u32 a1] 119)).alloc (.cells #[.int .i64 0,.int .u32 0,.int .u32 0] 119));rw[<-i]at r;have a0:W2.heap.size=w.heap.size+2:=by rw[i];simp
 have r4:W2.heap[w.heap.size]?=some (.cells #[.int .i64 a4,.int .u32 a2,.int .u32 a1] 119 (0,0)):=by rw[i,cK _ _ (by simp)];exact dM w _
 have r9:W2.heap[w.heap.size+1]?=some (.cells #[.int .i64 0,.int .u32 0,.int .u32 0] 119 (0,0)):=by rw[i];have:=dM (w.alloc (.cells #[.int .i64 a4,.int .u32 a2,.int .u32 a1] 119)) (.cells #[.int .i64 0,.int .u32 0,.int .u32 0] 119);simpa using this
 have g:Hid (∀V,cq (·=b) W2 V->V.heap[w.heap.size]?=some (.cells #[.int .i64 a4,.int .u32 a2,.int .u32 a1] 119 (0,0))/\V.heap[w.heap.size+1]?=some (.cells #[.int .i64 0,.int .u32 0,.int .u32 0] 119 (0,0))):=by intro V hV;refine⟨by rw[hV.block _ (by omega) (by show _≠b;omega)];exact r4,by rw[hV.block _ (by omega) (by show _≠b;omega)];exact r9⟩
 have HF:Hid (∀V (m:Nat) (f:ByteArray),f=fb m->m<4294967296->Calls prog 144 #[.int .u32 m] V λe w'=>e=.returned (.string f)/\Below V.heap.size V w'):=λV m f hf hm=>hf▸kj m V oM
 have HC:Hid (∀V,dt a3 V b->Calls prog 238 #[.pointer (yS b 12),.string (fc++bg++t)] V λe w'=>e=.returned (.int .u32 c)/\dt a3 w' b/\cq (·=b) V w'):=λV hV=>by rw[x];exact Jf a3 b (fc++bg++t) V hV (by rw[lY,lY];omega)
 have HS:Hid (∀V,Calls prog 142 #[.string (bg++fd++t)] V λe w'=>e=.returned (.string s)/\Below V.heap.size V w'):=λV=>by rw[hs];exact Am _ (by rw[lY,lY];omega) V
 have W:Hid (cq (·=b) W2 W2/\dt a3 W2 b):=⟨cq.refl _ _,hT.on (S:=λ_=>False) (cq.of_below r) (λh=>h)⟩;have o:Hid (∀V V',(cq (·=b) W2 V/\dt a3 V b)->Below V.heap.size V V'->cq (·=b) W2 V'/\dt a3 V' b):=λV V' h hb=>⟨h.1.trans (cq.of_below hb),h.2.on (S:=λ_=>False) (cq.of_below hb) (λh=>h)⟩
 have P:Hid (∀V V',(cq (·=b) W2 V/\dt a3 V b)->dt a3 V' b->cq (·=b) V V'->cq (·=b) W2 V'/\dt a3 V' b):=λV V' h h1 h2=>⟨h.1.trans h2,h1⟩
 have HW:=hD r;have O:=hD A;have D:Hid (fc=fb a1/\a1<4294967296):=⟨p,a5⟩;have J:Hid (fd=fb c/\c<4294967296):=⟨l,v⟩;have e1:IntKind.u32.wrap ((a2:Int)+1)=(n:Int):=by rw[Qc];omega
 have e2:(t.size:Int)/256=(a:Int):=oM;have e3:IntKind.u8.wrap (a:Int)=(hi:Int):=by rw[Iz];omega
 have e6:IntKind.u8.wrap (t.size:Int)=(lo:Int):=by rw[Iz];omega
 have F:hi<=255/\lo<=255:=oM;have T:(t.size:Int)<=60000:=oM;have j:∀V,Calls prog 144 #[.int .u32 n] V λe w'=>e=.returned (.string (fb n))/\Below V.heap.size V w':=λV=>kj n V oM
 have s1:fc.size+bg.size<=9223372036854775807:=oM;have s2:(fc++bg).size+t.size<=9223372036854775807:=by rw[lY];omega
 have s3:bg.size+fd.size<=9223372036854775807:=oM;have s4:(bg++fd).size+t.size<=9223372036854775807:=by rw[lY];omega
 have c1:W2.cell? (yA w.heap.size 1)=some (.int .u32 a2):=cG r4;unfold oP;clear hn hT r r4 r9 ha L I d hc x p l hs z hq A a5 v N M U;go_enter func163,ntmps163;go_upto_region 1 with fail
 rw[<-i];clear i;go_upto_region 2 with fail
 refine kQ (Na _ n k a hi lo t X W2 hX hk F.1 F.2 T e2 e3 e6 j (λV hV uB hU=>?_));have HJ:=hD (Hid.mk' (o W2 V W hV));have c2:V.cell? (yA w.heap.size 2)=some (.int .u32 a1):=cG (g V HJ.1).1;refine nU hU ?_;rw[<-O.out];clear hV hX e2 e3 e6 j c1 e1
 go_wp2_with fail
 refine(HF _ a1 fc D.1 D.2).mono ?_;rintro e V1 ⟨rfl,E⟩;have y:=Hid.mk' (o _ _ HJ E);clear E HJ c2
 go_wp2_with fail
 refine(HC _ y.2).mono ?_;rintro e V2 ⟨rfl,B,u⟩;have K:=Hid.mk' (P _ _ y B u);clear B u y
 go_wp2_with fail
 refine(HF _ c fd J.1 J.2).mono ?_;rintro e V3 ⟨rfl,C⟩;have G:=Hid.mk' (o _ _ K C);clear C K
 go_wp2_with fail
 refine(HS _).mono ?_;rintro e V4 ⟨rfl,H⟩;have HJ:=Hid.mk' (o _ _ G H);clear H G;go_upto_region 5 with fail
 refine kQ (LE _ w.heap.size a4 q n c (a2:Int) (a1:Int) s V4 (g _ HJ.1).1 (g _ HJ.1).2 Y Q a7 (λV hX uB hU=>?_));have HX:=hD hX;have hr:V.heap[w.heap.size+1]?=some (.cells #[.int .i64 (a4+q:Nat),.int .u32 n,.int .u32 c] 119 (0,0)):=by rw[hX];exact ja _ _ _ _ _ _ (g _ HJ.1).2
 refine nU hU ?_;clear hX
 go_wp2
 refine gh (sY rfl _ _ (w.heap.size+1) (.agg #[.int .i64 (a4+q:Nat),.int .u32 n,.int .u32 c]) rfl (zo _ _ 119 119 _ (0,0) _ hr Oy rfl kR)) rfl ?_;have hB:Below (w.heap.size+1) V4 V:=by rw[HX.out];exact cC (dw _ V4).drew (cO _) _
 have hS:=cq.of_belowB hB;exact⟨rfl,HJ.2.on hS oM,(((cq.of_below HW).trans HJ.1).then (hS.weak λq hq=>.inr oM))⟩
end
section
open Go.RowKit Go.Maps
theorem M9(Q:Exit->Act->World->Prop)(X:World->Prop)(g b n m Y:Nat)(Z:Option Addr)(d:ByteArray)(xs:List Value)(A row:Array Value)(rt:TypeId)(w:World)(hm:m<=d.size)(hn:n<=1000000)(hA:A.size=32)(a3:∀u∈A.toList,u.oneCell'=true)(a4:w.cell? (yA b 1)=some (.slice Z n Y))(a1:∀w1,X w1->w1.heap[b]?=some (.cells row rt (0,0))/\w1.cell? (yA b 1)=some (.slice Z n Y)/\w1.ownsRow 0 131 32 (.slice Z n Y) n xs)(o1:(Value.slice Z n Y).ownBlock≠some b)(a0:Calls prog 236 #[yP g,.int .u8 1,.string (d.extract 0 m)] w.drew λe w'=>e=.returned (.agg A)/\X w')(a2:∀w1 g' c' w',X w1->w'.ownsRow 0 131 32 (.slice (yS g' 0) (n+1) c') (n+1) (xs++A.toList)->(w1.alloc (.cells A 131)).grownBy w' (Value.slice Z n Y).ownBlock->(some g'=(Value.slice Z n Y).ownBlock\/g'=w1.heap.size+1)->∀uB,uP uA uB [15,16,17,18,19,20,21,22,23,24] []->Q .normal ⟨uB,uD⟩ (w'.setCell (yA b 1) (.slice (yS g' 0) (n+1) c')))(hz:uA.size=32:=by rfl)(s0:gD uA 0=(yP g):=by rfl)(s1:gD uA 1=.string d:=by rfl)(s5:gD uA 5=(yP b):=by rfl)(s6:gD uA 6=.int .i64 m:=by rfl):(Code.region 4 (rg f235 4) true).wp prog Q ⟨uA,uD⟩ w:=by
 obtain⟨i,z,hi,hz,E,J,D⟩:=xx;have S:(m:Int)<=(d.size:Int):=oM;have k:Instr.fill (λj=>some (j*i.size,i.size)) ((Array.range (1*i.size)).map (z.cells[·%z.cells.size]!)) [(0,Value.agg A)]=some A:=by have h:=Ox (s:=i.size) oM [Value.agg A] ((Array.range (1*i.size)).map (z.cells[·%z.cells.size]!)) (by intro v hv;rw[List.mem_singleton.1 hv];show A.size=_;omega) sI;simpa [Value.cells]using h
 have c:∀a:Act,a.eval (.tmp 21)=.agg A->Instr.fill (λj=>some (j*i.size,i.size)) ((Array.range (1*i.size)).map (z.cells[·%z.cells.size]!)) ((#[((0:Nat),Operand.tmp 21)]:Array (Nat×Operand)).map λ(i,x)=>(i,a.eval x)).toList=some A:=λa ha=>by simp only[IW,vj,J6,ha];exact k
 have F:w.drew.cell? (yA b 1)=some (.slice Z n Y):=by rw[nZ];exact a4
 refine rH (λ_=>True) 11 trivial (λR hQ hn=>?_)
 have l:∀{w1:World}{L:Array Bool}{B:Array Value},X w1->B.size=32->gD B 16=.slice Z n Y->gD B 22=.slice (yS w1.heap.size 0) 1 1->gD B 5=(yP b)->uC uA B [15,16,17,18,19,20,21,22,23,24]->L=#[true,true,true,true,true,true,true,true,false,false,false]->wpAnyH prog .any (rg f235 4) R (λ_=>True) 3 L ⟨B,uD⟩ (w1.alloc (.cells A 131)):=by
  intro w1 L B hx T O W U G hL;subst hL;obtain⟨hb,q,r⟩:=a1 w1 hx;have H:=cm hb;obtain⟨v',w',hr,h2,h3,h4,h5⟩:=Jl (P:=prog) (w1.alloc (.cells A 131)) 0 374 374 131 i z 32 32 Nr hi hz E J D dE (.slice Z n Y) n xs (rI r _) (yA w1.heap.size 0) 1 1 A.toList (by rw[gf];omega) (λj u hj=>NB (dM w1 _) j u hj) a3 (by unfold maxLen;omega) oM sI
  obtain⟨g',c',rfl⟩:∃g' c',v'=.slice (yS g' 0) (n+1) c':=by
   obtain⟨-,h|⟨g',t,M,C,-⟩⟩:=h2
   .omega
   .exact⟨g',t,C⟩
  have y:w'.heap[b]?=w1.heap[b]?:=by rw[h3.block b (by simp;omega) (λe=>o1 e.symm),rd _ _ _ (by exact H)]
  have V:w'.cell? (yA b 1)=some (.slice Z n Y):=by
   have e:w'.cell? (yA b 1)=w1.cell? (yA b 1):=by unfold World.cell?;rw[y]
   rw[e];exact q
  have N:=fH w' b 1 _ _ (y.trans hb)
  have I:some g'=(Value.slice Z n Y).ownBlock\/g'=w1.heap.size+1:=by
   rcases h5 with e|e
   .exact .inl e
   exact .inr (by simpa [Value.ownBlock]using e)
  obtain⟨wa,o⟩:∃wa,(w1.alloc (.cells A 131))=wa:=⟨_,rfl⟩;rw[o]at hr⊢;refine rB 8 hr trivial ?_;refine tK hQ 9 trivial ?_;refine rO 10 (λK hK=>?_);go_simp;refine hK.out _ _ trivial (λ_=>?_)
  try simp only[Act.put]
  exact rD (hn (a2 w1 g' c' w' hx h2 h3 I _ ⟨by repeat' (first|refine uS ?_|exact G),by go_simp⟩))
 refine tK hQ 0 trivial ?_;refine tK hQ 2 trivial ?_;refine tK hQ 3 trivial ?_;refine tK hQ 4 trivial ?_;refine tK hQ 5 trivial ?_;refine rF 1 6 (λK hK=>?_) (λK hK=>?_)
 .have p:=F;go_simp;refine hK.out _ _ trivial (λ_=>?_)
  try simp only[Act.put]
  refine rO 6 (λK hK=>?_);go_simp;go_at_call 236;refine a0.mono ?_;rintro e w1 ⟨rfl,hX⟩;refine hK.out _ _ trivial (λ_=>?_)
  try simp only[Act.put]
  refine rW 7 (λK hK=>?_);refine JS 374 131 1 _ rfl A i z Nr hi hz oM oM (c _ (by rw[A7];go_simp)) ?_;refine hK.out _ _ trivial (λ_=>?_)
  try simp only[Act.put]
  exact l hX (by go_simp) (by go_simp) (by go_simp) (by go_simp) (by repeat' (first|refine uS ?_|exact uR)) kR
 .go_simp;go_at_call 236;refine a0.mono ?_;rintro e w1 ⟨rfl,hX⟩;refine hK.out _ _ trivial (λ_=>?_)
  try simp only[Act.put]
  refine rG 1 7 (λK hK=>?_) (λK hK=>?_)
  .have p:=(a1 w1 hX).2.1;go_simp;refine hK.out _ _ trivial (λ_=>?_)
   try simp only[Act.put]
   refine rW 7 (λK hK=>?_);refine JS 374 131 1 _ rfl A i z Nr hi hz oM oM (c _ (by rw[A7];go_simp)) ?_;refine hK.out _ _ trivial (λ_=>?_)
   try simp only[Act.put]
   exact l hX (by go_simp) (by go_simp) (by go_simp) (by go_simp) (by repeat' (first|refine uS ?_|exact uR)) kR
  refine JS 374 131 1 _ rfl A i z Nr hi hz oM oM (c _ (by rw[A7];go_simp)) ?_;refine hK.out _ _ trivial (λ_=>?_)
  try simp only[Act.put]
  have p:(w1.alloc (.cells A 131)).cell? (yA b 1)=some (.slice Z n Y):=by rw[vY _ _ _ (by rw[(a1 w1 hX).2.1];rfl)];exact(a1 w1 hX).2.1
  have f:=@l w1;obtain⟨wa,o⟩:∃wa,(w1.alloc (.cells A 131))=wa:=⟨_,rfl⟩;rw[o]at p f⊢;refine rO 1 (λK hK=>?_);go_simp;refine hK.out _ _ trivial (λ_=>?_)
  try simp only[Act.put]
  exact f hX (by go_simp) (by go_simp) (by go_simp) (by go_simp) (by repeat' (first|refine uS ?_|exact uR)) kR
end
end Go.Proofs.YtapijhhmjjplmaaGreatDoor
