import Derived.Test.YtapijhhmjjplmaaGreatDoorJonce28
namespace Go.Proofs.YtapijhhmjjplmaaGreatDoor
set_option linter.all false
set_option maxRecDepth 100000
set_option maxHeartbeats 4000000
open Go.Proofs.Tryz
variable {tv X Y:Array Value}{ov:Bool}{t:ByteArray}{d:cX}{most ec:Int}{has:List Ob}{pre:List Value}{bd m b N a0 a1 a2 a3 c8 k j n B:Nat}{U S:Nat→Prop}{P:Program}{ty ty':TypeId}{cv p0 bv:Value}{w wr w' V V' V1 V2:World}
section
open Go.RowKit Go.Maps
def NI(d:cX)(has:List Ob)(t:ByteArray)(j:Nat):ByteArray:=gu d (cJ has 1 (iz t j)).1 (cJ has 1 (iz t j)).2
def Oc(d:cX)(has:List Ob)(t:ByteArray)(j:Nat):Prop:=jf d (cJ has 1 (iz t j)).1 (cJ has 1 (iz t j)).2 (iz t j)
def lS(d:cX)(has:List Ob)(t:ByteArray):Nat->ByteArray
 |0=>⟨#[]⟩
 |j+1=>lS d has t j++NI d has t j
theorem qQ(d:cX)(has:List Ob)(t:ByteArray)(h:∀j,(NI d has t j).size<=6000):∀j,(lS d has t j).size<=6000*j
 |0=>cO _
 |j+1=>by show(lS d has t j++NI d has t j).size<=_;rw[lY];have:=qQ d has t h j;have:=h j;omega
def uJ(d:cX)(has:List Ob)(s:ByteArray):Prop:=jf d (cJ has 2 s).1 (cJ has 2 s).2 s/\∃n,jJ (gu d (cJ has 2 s).1 (cJ has 2 s).2)=some n/\∀j,j<du n->Oc d has (gu d (cJ has 2 s).1 (cJ has 2 s).2) j
def mF(d:cX)(has:List Ob)(s:ByteArray):ByteArray:=lS d has (gu d (cJ has 2 s).1 (cJ has 2 s).2) (match jJ (gu d (cJ has 2 s).1 (cJ has 2 s).2)with|some n=>du n|none=>0)
def Di(w:World)(S:Nat->Prop)(bd m b N a0 a1 a2 a3:Nat)(d:cX)(has:List Ob)(s:ByteArray)(e:Ending)(w':World):Prop:=
 ed w' S bd m b N a0 a1 a2 a3 d has/\cq S w w'/\e=.returned (.tuple #[.string (mF d has s),.nilIface])
structure Fz (w:World) (T:Nat->Prop) (bd m b N a0 a1 a2 a3 c8 k:Nat) (d:cX) (has:List Ob) (t:ByteArray) (cv:Value) (j:Nat) (wr:World):Prop where
 arc:ed wr T bd m b N a0 a1 a2 a3 d has
 same:cq T w wr
 own:wr.ownsRow w.heap.size 131 32 cv k (iP t k)
 bld:∃p0 bv,mO wr 282 c8 0 #[p0,bv] bv (lS d has t j).data.toList/\∀q,bv.ownBlock=some q->w.heap.size<=q/\some q≠cv.ownBlock
structure PM (w:World) (T:Nat->Prop) (b a0 a1 a2 a3 c8:Nat) (cv:Value):Prop where
 tl:∀q,T q->q<w.heap.size
 bl:b<w.heap.size/\a0<w.heap.size/\a1<w.heap.size/\a2<w.heap.size/\a3<w.heap.size
 cl:w.heap.size<=c8
 cc:cv.ownBlock≠some c8
theorem Fz.read{T:Nat->Prop}(h:Fz w T bd m b N a0 a1 a2 a3 c8 k d has t cv j wr)(f:PM w T b a0 a1 a2 a3 c8 cv)(g:ed w' T bd m b N a0 a1 a2 a3 d has)(c:cq T wr w'):Fz w T bd m b N a0 a1 a2 a3 c8 k d has t cv j w':=by
 obtain⟨p0,bv,hM,hq⟩:=h.bld;have a:=f.cl;have hn:∀q,w.heap.size<=q->¬T q:=λq hq h=>by have:=f.tl q h;omega
 exact⟨g,h.same.trans c,cU h.own c (λq e=>hn q (cr h.own q e).1),⟨p0,bv,⟨by rw[c.block _ (cm hM.row) (hn _ a)];exact hM.row,hM.kind,hM.c0,hM.c1,cU hM.own c (λq e=>hn q (hq q e).1),hM.ne,hM.nil⟩,hq⟩⟩
theorem Fz.below{T:Nat->Prop}(h:Fz w T bd m b N a0 a1 a2 a3 c8 k d has t cv j wr)(c:PM w T b a0 a1 a2 a3 c8 cv)(a:Below wr.heap.size wr w'):Fz w T bd m b N a0 a1 a2 a3 c8 k d has t cv j w':=
 h.read c (h.arc.below a) (cq.of_below a)
theorem Fz.wrote{T:Nat->Prop}(h:Fz w T bd m b N a0 a1 a2 a3 c8 k d has t cv j wr)(f:PM w T b a0 a1 a2 a3 c8 cv)(g:∀q,bv.ownBlock=some q->w.heap.size<=q/\some q≠cv.ownBlock)(i:pC wr 282 c8 0 #[p0,bv] bv (lS d has t (j+1)).data.toList w'):Fz w T bd m b N a0 a1 a2 a3 c8 k d has t cv (j+1) w':=by
 obtain⟨a,hM,hs,hn⟩:=i;have c:=f.cl;obtain⟨l1,l2,l3,l4,l5⟩:=f.bl
 have hU:∀q,pm c8 bv q->w.heap.size<=q:=by
  rintro q (rfl|e)
  .exact c
  exact(g q e.symm).1
 have hz:=h.same.size;refine⟨h.arc.up hs (λq h1 h2=>?_) (λh=>?_) (λh=>?_) (λh=>?_) (λh=>?_) (λh=>?_),h.same.then (hs.weak λq hu=>.inr (hU q hu)),cU h.own hs (λq e hu=>?_),⟨_,a,hM,λq e=>?_⟩⟩
 .have:=f.tl q h1;have:=hU q h2;omega
 .have:=hU _ h;omega
 .have:=hU _ h;omega
 .have:=hU _ h;omega
 .have:=hU _ h;omega
 .have:=hU _ h;omega
 .rcases hu with rfl|hu
  .exact f.cc e
  exact(g q hu.symm).2 e.symm
 rcases hn q e with e'|e'
 .exact g q e'.symm
 exact⟨oM,λe2=>by have:=(cr h.own q e2.symm).2;omega⟩
def QM(w:World)(S:Nat->Prop)(bd m b:Nat)(d:cX)(pre:List Value)(at_ seq chain:Nat)(e:Ending)(w':World):Prop:=
 cD w' S bd m d/\dt pre w' b/\cq (λq=>S q\/q=b) w w'/\
  ((∃k t c,e=.returned (.tuple #[vl k at_ t,oP (at_+dU t.size) (seq+1) c,.bool true])/\jS (df d) at_ (seq+1) chain=some (k,t,c))\/(e=.returned (.tuple #[vl 0 0 ⟨#[]⟩,oP 0 0 0,.bool false])/\jS (df d) at_ (seq+1) chain=none))
theorem jU{e:Func}{p q u:Tmp}(h:e.results=#[.cell p ty,.cell q ty',.tmp u])(a:Array Value)(w:World)(g f:Nat)(v i:Value)(j:a.getD p undef=yP g)(k:(loadVar ty (yA g 0)).run P w=.ok v w)(l:a.getD q undef=yP f)(c:(loadVar ty' (yA f 0)).run P w=.ok i w):
  (results e a).run P w=.ok (.tuple #[v,i,a.getD u undef]) w:=by
 rw[mQ h,j,l];simp[asAddr,Result.andThen,k,c]
structure yK (w:World) (T:Nat->Prop) (bd m b:Nat) (d:cX) (pre:List Value) (tv:Array Value) (V:World):Prop where
 dsk:cD V T bd m d
 tab:dt pre V b
 same:cq (λq=>T q\/q=b) w V
 r0:V.heap[w.heap.size]?=some (.cells tv 119 (0,0))
 r1:V.heap[w.heap.size+1]?=some (.cells #[.int .u8 0,.int .i64 0,.string ⟨#[]⟩] 261 (0,0))
 r2:V.heap[w.heap.size+2]?=some (.cells #[.int .i64 0,.int .u32 0,.int .u32 0] 119 (0,0))
theorem yK.go{T:Nat->Prop}(h:yK w T bd m b d pre tv V)(e:∀q,T q->q<w.heap.size)(i:b<w.heap.size)(c:∀q,U q->T q\/q=b)(a:cq U V V')(f:cD V' T bd m d)(g:dt pre V' b):yK w T bd m b d pre tv V':=by
 have hn:∀q,w.heap.size<=q->¬U q:=λq hq hu=>by
  rcases c q hu with h|h
  .have:=e q h;omega
  .omega
 exact⟨f,g,h.same.trans (a.weak c),by rw[a.block _ (cm h.r0) (hn _ (cO _))];exact h.r0,by rw[a.block _ (cm h.r1) (hn _ (by omega))];exact h.r1,by rw[a.block _ (cm h.r2) (hn _ (by omega))];exact h.r2⟩
theorem yK.below{T:Nat->Prop}(h:yK w T bd m b d pre tv V)(c:∀q,T q->q<w.heap.size)(e:b<w.heap.size)(a:Below V.heap.size V V'):yK w T bd m b d pre tv V':=
 h.go (U:=λ_=>False) c e (λ_ h=>h.elim) (cq.of_below a) (h.dsk.on (T:=λ_=>False) (cq.of_below a) (λ_ _ h=>h)) (h.tab.on (S:=λ_=>False) (cq.of_below a) (λh=>h))
theorem yK.stored{T:Nat->Prop}(h:yK w T bd m b d pre tv V)(f:∀q,T q->q<w.heap.size)(a:∀q,T q->S q)(g:b<w.heap.size)(c:V1=V.setRow (w.heap.size+1) X)(e:V2=V1.setRow (w.heap.size+2) Y):
  V2.heap[w.heap.size+1]?=some (.cells X 261 (0,0))/\V2.heap[w.heap.size+2]?=some (.cells Y 119 (0,0))/\cD V2 S bd m d/\dt pre V2 b/\cq (λq=>S q\/q=b) w V2:=by
 have a1:V1.heap[w.heap.size+1]?=some (.cells X 261 (0,0)):=c▸ja _ _ _ _ _ _ h.r1;have a2:V1.heap[w.heap.size+2]?=some (.cells #[.int .i64 0,.int .u32 0,.int .u32 0] 119 (0,0)):=by rw[c,l7 _ _ _ _ (by omega)];exact h.r2
 have hB:Below (w.heap.size+1) V V2:=by rw[e,c];exact cC (cC (dw _ _) (cO _) _) oM _
 have hS:=cq.of_belowB hB;refine⟨by rw[e,l7 _ _ _ _ (by omega)];exact a1,e▸ja _ _ _ _ _ _ a2,(h.dsk.on hS (λq hq h=>by have:=f q hq;omega)).mono a,h.tab.on hS oM,(h.same.then (hS.weak λq hq=>.inr oM)).weak λq hq=>?_⟩;rcases hq with hq|hq
 .exact .inl (a q hq)
 exact .inr hq
theorem Jx(a b:Nat)(c:a<256)(e:b<256):bits .or .i64 ((a:Int)*256) (b:Int)=((a*256+b:Nat):Int):=by
 have h2:=yu 8 a b oM;rw[show(2:Nat)^8=256 by decide]at h2;have:bits .or .i64 ((a*256:Nat):Int) (b:Int)=(((a*256)|||b:Nat):Int):=B7 _ _ oM oM;rw[show(a:Int)*256=((a*256:Nat):Int) by omega,this,h2]
theorem xA(S:Nat->Prop)(bd m b aH aI aG n:Nat)(d:cX)(pre:List Value)(w:World)(h:cD w S bd m d)(aJ:dt pre w b)(aL:¬S b)(hn:d.safe.length=n)(hb:n<=4096)(aM:∀s∈df d,s.size=64)(aN:aI<=1000000)(aP:aG<4294967296)(aK:(df d)[aH]?=some z64\/jS (df d) aH (aI+1) aG≠none):
  Calls prog 148 #[oP aH aI aG,yP bd,.pointer (yS b 12)] w λe w'=>QM w S bd m b d pre aH aI aG e w':=by
 obtain⟨T,hT⟩:=eX (λq=>S q/\q<w.heap.size:Nat->Prop);have a6:∀q,T q->q<w.heap.size:=by rw[hT];exact λq h=>h.2
 have M:∀q,T q->S q:=by rw[hT];exact λq h=>h.1
 have hd:cD w T bd m d:=hT▸h.tight;have Q:(df d).length=n:=by unfold df;rw[eo,hn]
 have a8:=aJ.lt;obtain⟨tv,B⟩:=eX (#[.int .i64 aH,.int .u32 aI,.int .u32 aG]:Array Value);obtain⟨W3,O⟩:=eX (((w.alloc (.cells #[.int .i64 aH,.int .u32 aI,.int .u32 aG] 119)).alloc (.cells #[.int .u8 0,.int .i64 0,.string ⟨#[]⟩] 261)).alloc (.cells #[.int .i64 0,.int .u32 0,.int .u32 0] 119));have l:Hid (yK w T bd m b d pre tv W3):=by obtain⟨j,ab,p,ar,y⟩:=FO w (.cells #[.int .i64 aH,.int .u32 aI,.int .u32 aG] 119) (.cells #[.int .u8 0,.int .i64 0,.string ⟨#[]⟩] 261) (.cells #[.int .i64 0,.int .u32 0,.int .u32 0] 119);rw[<-O]at j ab p y;exact⟨hd.on (T:=λ_=>False) (cq.of_below y) (λ_ _ h=>h),aJ.on (S:=λ_=>False) (cq.of_below y) (λh=>h),cq.of_below y,B▸j,ab,p⟩
 have HT:Hid ((∀q,T q->q<w.heap.size)/\(∀q,T q->S q)/\b<w.heap.size):=⟨a6,M,a8⟩;have a:Hid ((df d).length=n/\(∀s∈df d,s.size=64)/\d.safe.length=n/\tv=#[.int .i64 aH,.int .u32 aI,.int .u32 aG]):=⟨Q,aM,hn,B⟩;have C:¬T b:=λh=>aL (M _ h)
 have G:=hD C;have c0:W3.cell? (yA w.heap.size 0)=some (.int .i64 aH):=by rw[cG l.out.r0,B];rfl
 have av:=yH
 have u:aH<n:=by
  rw[<-Q];rcases aK with h|h
  .exact(List.getElem?_eq_some_iff.1 h).1
  unfold jS at h;split at h
  .assumption
  .exact absurd rfl h
 have an:aH<=1000000:=oM;have aA:(aH:Int)<=1000000:=oM;unfold oP;clear h aJ aL hn aM hd Q a8 a6 M hT C B;obtain⟨x,hx⟩:∃x,(df d)[aH]?=some x:=⟨_,pI (by rw[a.out.1];exact u)⟩;have a0:=a.2.1 x (PC hx)
 have HR:Hid (Calls prog 104 #[yP bd,.int .i64 aH] W3 λe w'=>e=.returned (.tuple #[.string x,.nilIface])/\yK w T bd m b d pre tv w'):=by
  have e:d.at aH (by rw[a.out.2.2.1];exact u)=x:=by have:=xZ d.safe aH (by rw[a.out.2.2.1];exact u) d.wait;rw[show cL d.wait d.safe=df d from rfl,hx]at this;injection this with this;exact this.symm
  have h1:=ol bd m T d aH W3 l.dsk (by rw[a.out.2.2.1];exact u) (by rw[a.out.2.2.1];exact hb);rw[e]at h1;refine iM h1 ?_;rintro e w' ⟨rfl,h2,h3⟩;exact⟨rfl,l.go HT.1 HT.2.2 (λq h=>.inl h) h3 h2 (l.tab.on h3 G)⟩
 have P:aH<(df d).length:=by rw[a.out.1];exact u
 have I:(df d)[aH]=x:=by rw[pI P]at hx;injection hx
 obtain⟨z,hz⟩:=eX (jW (x.extract 0 2));have ap:0<x.size:=oM;have am:1<x.size:=oM;have ag:2<x.size:=oM;have U:z=x[0].toNat*256+x[1].toNat:=hz▸Mk x oM;have X:bits .or .i64 ((x[0].toNat:Int)*256) (x[1].toNat:Int)=(z:Int):=by rw[U];exact Jx _ _ x[0].toNat_lt x[1].toNat_lt
 obtain⟨k,hk⟩:=eX (x[2].toNat);have HP:Hid (jS (df d) aH (aI+1) aG=if 1000<z\/k<1\/4<k\/n<aH+dU z then none else Io (kN (df d) aH (dU z)) (aI+1) aG k z):=by show _=_;unfold jS;rw[Qt P,Qt (by rw[I];omega)];simp only[I,a.out.1,<-hz,<-hk]
 have HZ:Hid (z<=1000/\(k<1\/k<=4/\aH+dU z<=n/\jS (df d) aH (aI+1) aG≠none)):=by
  rcases aK with h|h
  .rw[hx]at h;have e:∀(s:ByteArray)(hs:2<s.size),s=z64->jW (s.extract 0 2)<=1000/\s[2].toNat<1:=by rintro s hs rfl;exact⟨dE,Nat.zero_lt_one⟩
   have:=e x ag (kM h);rw[<-hz,<-hk]at this;exact⟨this.1,.inl this.2⟩
  have h':=h;rw[HP.out]at h';split at h'
  .exact absurd rfl h'
  exact⟨oM,.inr ⟨oM,oM,h⟩⟩
 have Z:(1:Int)<x.size:=oM;have Y:(2:Int)<x.size:=oM;have aj:k<256:=by rw[hk];exact x[2].toNat_lt
 clear hx I P hz U aK;go_enter func148,ntmps148;go_upto_region 1 with fail
 rw[<-O];clear O;go_upto_region 4 with(go_at_call 104;refine HR.mono ?_;rintro e V4 ⟨rfl,W⟩;have af:=Hid.mk' W;clear W)
 refine kQ (Nc _ x z ap am ag V4 Z Y X (λV hX uB hU=>?_));have v:Hid (yK w T bd m b d pre tv V):=by rw[hX];exact af.below HT.1 HT.2.2 (dw _ _).drew
 refine nU hU ?_;rw[<-hk];clear hX af HR l X hk Z Y a0 c0;have ay:(k:Int)<256:=oM;have au:¬(1000:Int)<z:=by have:=HZ.1;omega
 by_cases aC:(k:Int)<1
 .have ao:Hid (jS (df d) aH (aI+1) aG=none):=by show _=_;rw[HP.out,dq (.inr (.inl (by omega)))]
  go_wp2_with (first|(refine cu rfl 261 _ _ rfl (w.heap.size+1) #[.int .u8 0,.int .i64 0,.string ⟨#[]⟩] rfl rfl 261 _ v.r1 kR rfl kR ?_;intro V1 a9;have p:V1.heap[w.heap.size+2]?=some (.cells #[.int .i64 0,.int .u32 0,.int .u32 0] 119 (0,0)):=(by rw[a9.out,l7 _ _ _ _ (by omega)];exact v.r2);have al:=Hid.mk' p;clear p)|(refine cu rfl 119 _ _ rfl (w.heap.size+2) #[.int .i64 0,.int .u32 0,.int .u32 0] rfl rfl 119 _ al kR rfl kR ?_;intro V2 ak))
  obtain⟨a1,a2,a3,a4,a5⟩:=v.stored (S:=S) HT.1 HT.2.1 HT.2.2 a9.out ak.out;refine gh (jU rfl _ _ (w.heap.size+1) (w.heap.size+2) _ _ rfl (zo _ _ 261 261 _ (0,0) _ a1 Q9 rfl kR) rfl (zo _ _ 119 119 _ (0,0) _ a2 Oy rfl kR)) rfl ?_;exact⟨a3,a4,a5,.inr ⟨rfl,ao⟩⟩
 have az:¬(4:Int)<k:=by have:=HZ.2;omega
 obtain⟨q,hq⟩:=eX (dU z);have i:1<=q/\q<=100:=by rw[hq];unfold dU;omega
 have D:∀V,Calls prog 217 #[.int .i64 (11+(z:Int))] V λe w'=>e=.returned (.int .i64 q)/\V=w':=by intro V;have h:=iL (11+z) oM V;rw[show(11+z+63)/64=q by rw[hq];unfold dU;omega,show((11+z:Nat):Int)=11+(z:Int) by omega]at h;exact h
 have a7:∀V',yK w T bd m b d pre tv V'->V'.cell? (yA w.heap.size 0)=some (.int .i64 aH):=by intro V' h;rw[cG h.r0,a.out.2.2.2];rfl
 have o:=v.below HT.1 HT.2.2 (dw _ _).drew;have F:aH+q<=n:=by have:=HZ.2;rw[hq];omega
 have ac:=lK T bd m d aH q n V.drew o.dsk a.2.2.1 hb a.2.1 i.1 i.2 F;go_upto_region 7 with fail
 have f:Calls prog 218 #[yP bd,.int .i64 aH,.int .i64 q] V.drew λe w'=>e=.returned (.tuple #[.string (kN (df d) aH q),.nilIface])/\yK w T bd m b d pre tv w'/\yK w T bd m b d pre tv w':=by refine iM ac ?_;rintro e w' ⟨rfl,h2,h3⟩;have hJ:=o.go HT.1 HT.2.2 (λq h=>.inl h) h3 h2 (o.tab.on h3 G);exact⟨rfl,hJ,hJ⟩
 obtain⟨r,hr⟩:=eX (kN (df d) aH q);rw[<-hr]at f;have g:r.size=64*q:=hr▸ke _ a.2.1 aH q (by rw[a.out.1];exact F);refine kQ (Mm _ (λV'=>yK w T bd m b d pre tv V') (λV'=>yK w T bd m b d pre tv V') bd w.heap.size aH z q r .nilIface V o a7 oM D f (λV7 hX uB hU=>?_));have H:=Hid.mk' hX;refine nU hU ?_;obtain⟨t,ht⟩:∃t,r.extract 11 (11+z)=t:=⟨_,rfl⟩;have ax:t.size=z:=by rw[<-ht,mM,g,O3 (by rw[hq];unfold dU;omega)];omega
 obtain⟨c,hc⟩:=eX (pU (aI+1) aG k t);obtain⟨s,hs⟩:=eX (sB (aI+1) aG k t);obtain⟨u0,K⟩:=eX (((aH+dU t.size:Nat):Int):Int);obtain⟨u1,N⟩:=eX (((aI+1:Nat):Int):Int);obtain⟨u2,L⟩:=eX ((c:Int):Int);have ai:Hid (Calls prog 163 #[.agg #[.int .i64 aH,.int .u32 aI,.int .u32 aG],.int .u8 k,.string t,.pointer (yS b 12)] V7 λe w'=>e=.returned (.tuple #[.string s,.agg #[.int .i64 u0,.int .u32 u1,.int .u32 u2]])/\yK w T bd m b d pre tv w'):=by have h:=uV pre b aH aI aG k t V7 H.tab an aN aP oM oM;unfold oP at h;rw[<-hc,<-hs,<-K,<-N,<-L]at h;refine iM h ?_;rintro e w' ⟨rfl,h2,h3⟩;exact⟨rfl,H.go HT.1 HT.2.2 (λq h=>.inr h) h3 (H.dsk.on h3 (λq hq h=>G (h▸hq))) h2⟩
 have ae:Hid (jS (df d) aH (aI+1) aG=if r=s then some (k,t,c)else none):=by show _=_;rw[HP.out,dj (by rw[<-hq];omega),<-hq,<-hr];unfold Io;rw[ht,<-hs,<-hc]
 have HU:Hid (u0=((aH+dU t.size:Nat):Int)/\u1=((aI+1:Nat):Int)/\u2=(c:Int)):=⟨K,N,L⟩;have d0:=a7 _ hX;have d1:V7.cell? (yA w.heap.size 1)=some (.int .u32 aI):=by rw[cG hX.r0,a.out.2.2.2];rfl
 have d2:V7.cell? (yA w.heap.size 2)=some (.int .u32 aG):=by rw[cG hX.r0,a.out.2.2.2];rfl
 have wz:IntKind.i64.wrap (11+(z:Int))=11+(z:Int):=by rw[pH];omega
 have aF:11+(z:Int)<=r.size:=by rw[g,hq];unfold dU;omega
 have aq:(11:Int)<=11+(z:Int):=oM;have aD:(11+(z:Int)).toNat=11+z:=oM;clear D f ac o hX hc hs K N L hr i hq g
 go_wp2_with fail
 refine ai.mono ?_;rintro e V8 ⟨rfl,J⟩;have aa:Hid (yK w T bd m b d pre tv (V8.alloc (.cells #[.int .i64 u0,.int .u32 u1,.int .u32 u2] 119))):=J.below HT.1 HT.2.2 ((dw _ _).alloc (cO _) _);have aE:=cm J.r2;clear J
 have g:r=s:=Decidable.byContradiction λh=>by
  rcases HZ.2 with h1|⟨-,-,h1⟩
  .omega
  .exact h1 (by rw[ae.out,dj h])
 have aB:(r.toList==s.toList)=true:=by rw[fI,EP];exact g
 have ad:Hid (jS (df d) aH (aI+1) aG=some (k,t,c)):=by show _=_;rw[ae.out,dq g]
 clear g;go_upto_region 14 with fail
 have A:=aa;have j:=A.r0;rw[a.out.2.2.2]at j;refine kQ (JT _ w.heap.size V8.heap.size k aH (aI:Int) (aG:Int) u0 u1 u2 t _ _ (V8.alloc (.cells #[.int .i64 u0,.int .u32 u1,.int .u32 u2] 119)) j (dM V8 _) A.r1 rfl A.r2 rfl oM oM (λV14 E uB hU=>?_));have ah:=Hid.mk' E;refine nU hU ?_;clear E A j
 go_wp2
 obtain⟨a1,a2,a3,a4,a5⟩:=(aa.below HT.1 HT.2.2 (dw _ _).drew).stored (S:=S) HT.1 HT.2.1 HT.2.2 rfl ah;refine gh (jU rfl _ _ (w.heap.size+1) (w.heap.size+2) _ _ rfl (zo _ _ 261 261 _ (0,0) _ a1 Q9 rfl kR) rfl (zo _ _ 119 119 _ (0,0) _ a2 Oy rfl kR)) rfl ?_;refine⟨a3,a4,a5,.inl ⟨k,t,c,?_,ad⟩⟩;rw[HU.out.1,HU.out.2.1,HU.out.2.2];rfl
theorem GO(a:jJ t=some n)(h:j<du n):(iz t j).size=32/\t.size=4+32*du n:=by
 have h3:=(kA a).2.1;refine⟨?_,h3⟩;unfold iz;rw[mM];omega
theorem nC(S:Nat->Prop)(bd m b N a0 a1 a2 a3 n:Nat)(d:cX)(has:List Ob)(s:ByteArray)(w:World)(h:ed w S bd m b N a0 a1 a2 a3 d has)(hV:iY w S)(hn:d.safe.length=n)(hb:n<=4096)(aU:∀s∈df d,s.size=64)(aV:∀k s,(cJ has k s).2<=6000)(hs:s.size=32)(aY:uJ d has s):
  Calls prog 240 #[yP b,dL s] w λe w'=>Di w S bd m b N a0 a1 a2 a3 d has s e w':=by
 obtain⟨hg,sz,o,W⟩:=aY;obtain⟨T,hT⟩:=eX (λq=>S q/\q<w.heap.size:Nat->Prop);have ab:∀q,T q->q<w.heap.size:=by rw[hT];exact λq h=>h.2
 have a:∀q,T q->S q:=by rw[hT];exact λq h=>h.1
 have a8:ed w T bd m b N a0 a1 a2 a3 d has:=⟨hT▸h.dsk.tight,h.row,h.kn,λh'=>h.nb (a _ h'),λh'=>h.na.1 (a _ h'),λh'=>h.na.2.1 (a _ h'),λh'=>h.na.2.2.1 (a _ h'),λh'=>h.na.2.2.2 (a _ h')⟩;have Z:iY w T:=λV r=>hV V (r.weak a)
 have au:Hid (∀V,ed V T bd m b N a0 a1 a2 a3 d has->cq T w V->ed V S bd m b N a0 a1 a2 a3 d has/\cq S w V):=λV h1 h2=>⟨⟨h1.dsk.mono a,h1.row,h1.kn,h.nb,h.na⟩,h2.weak a⟩
 have ag:b<w.heap.size/\a0<w.heap.size/\a1<w.heap.size/\a2<w.heap.size/\a3<w.heap.size:=by obtain⟨cs,q0,-⟩:=h.row;exact⟨cm q0,h.kn.k0.lt,h.kn.k1.lt,h.kn.k2.lt,h.kn.k3.lt⟩
 obtain⟨A,hA⟩:=eX ((db s).toArray);have I:dL s=.agg A:=by rw[hA];rfl
 have f:A.size=32:=by rw[hA,jO,cE,hs]
 rw[I];obtain⟨W1,B⟩:=eX (w.alloc (.cells A 131));have F:Below w.heap.size w W1:=by rw[B];exact(dw _ _).alloc (cO _) _
 have r1:W1.heap[w.heap.size]?=some (.cells A 131 (0,0)):=B▸dM w _;have E:Hid (W1.rangeAt w.heap.size 0 A.toList):=by intro i v hv;rw[nS,cG r1,<-kX];exact hv
 have l:Hid ((prog.info? 131).map (·.size)=some 32):=by show _=_;kernel_rfl
 have c:Hid ((prog.info? 131).map (·.size)=some A.toList.length/\A.toList.toArray=A):=⟨by rw[gf,f];kernel_rfl,sI⟩;have z:Hid (Calls prog 232 #[yP b,.agg A] W1 λe w'=>KP W1 T bd m b N a0 a1 a2 a3 d has (gu d (cJ has 2 s).1 (cJ has 2 s).2) sz e w'):=by have:=nG T bd m b N a0 a1 a2 a3 n d has s sz W1 (a8.below F) (Z.below F) hn hb aU (aV 2 s) hs hg o;rw[I]at this;exact this
 have av:Hid (∀V (x:ByteArray) (A':Array Value),cq T w V->ed V T bd m b N a0 a1 a2 a3 d has->x.size=32->dL x=.agg A'->jf d (cJ has 1 x).1 (cJ has 1 x).2 x->Calls prog 267 #[yP b,.int .u8 1,.agg A'] V λe w'=>Fj V T bd m b N a0 a1 a2 a3 d has (cJ has 1 x).1 (cJ has 1 x).2 e w'):=by intro V x A' h1 h2 h3 h4 h5;have:=pE T bd m b N a0 a1 a2 a3 n 1 d has x V h2 (Z.on h1) hn hb aU oM oM (aV 1 x) h3 h5;rw[h4]at this;exact this
 have X:Hid (∀t j,(NI d has t j).size<=6000):=λt j=>lZ (qM d _ _ aU) (aV 1 _)
 have L:Hid ((∀q,T q->q<w.heap.size)/\(b<w.heap.size/\a0<w.heap.size/\a1<w.heap.size/\a2<w.heap.size/\a3<w.heap.size)/\w.heap.size<W1.heap.size):=⟨ab,ag,cm r1⟩;have ap:Hid (∀V,cq T W1 V->cq T w V):=λV r=>(cq.of_below F).trans r
 have aF:=yH;clear h hV hn aU aV hs hg hA I f F r1 hT ab a a8 Z ag;go_enter func240,ntmps240;go_upto_region 1 with fail
 rw[<-B];clear B
 go_wp2_with (refine su rfl 131 _ rfl w.heap.size 0 rfl A.toList _ E kb rfl c.1 ?_;rw[c.out.2])
 refine z.mono ?_;rintro e w2 ⟨h1,h2,h3⟩;have aC:=Hid.mk' h1;have ak:=Hid.mk' (ap _ h2);have aO:=h2.size;have aJ:=L.2.2;clear h1 h2 z E;obtain⟨cv,rfl,P⟩:=h3;obtain⟨t,ht⟩:=eX (gu d (cJ has 2 s).1 (cJ has 2 s).2);obtain⟨k,hk⟩:=eX (du sz);rw[<-ht,<-hk]at P;rw[<-ht]at o W;have g:w2.ownsRow w.heap.size 131 32 cv k (iP t k):=fq P oM;obtain⟨ao,cc,rfl⟩:=cQ g;have an:Hid (mF d has s=lS d has t k):=by show _=_;unfold mF;rw[<-ht,o,hk]
 have HK:Hid (jJ t=some sz/\k=du sz/\∀j,j<k->Oc d has t j):=⟨o,hk,hk▸W⟩;have aD:k<=16:=by have:=(kA o).1;rw[hk];unfold du;omega
 have aE:(k:Int)<=16:=oM;have af:∀q,(Value.slice ao k cc).ownBlock=some q->q<w2.heap.size:=λq e=>(cr g q e).2
 have G:Hid (Fz w T bd m b N a0 a1 a2 a3 (w2.heap.size+1) k d has t (.slice ao k cc) 0 ((w2.alloc (.cells #[.int .i64 sz,.slice ao k cc] 376)).alloc (.cells #[.pointer none,.slice none 0 0] 282))/\PM w T b a0 a1 a2 a3 (w2.heap.size+1) (.slice ao k cc)):=by have Q:Below w2.heap.size w2 ((w2.alloc (.cells #[.int .i64 sz,.slice ao k cc] 376)).alloc (.cells #[.pointer none,.slice none 0 0] 282)):=((dw _ _).alloc (cO _) _).alloc sI _;refine⟨⟨aC.below Q,ak.trans (cq.of_below Q),cU g (U:=λ_=>False) (cq.of_below Q) (λ_ _ h=>h),⟨.pointer none,.slice none 0 0,⟨(iy w2 _ _).2,.inl ⟨rfl,rfl,rfl⟩,.inl rfl,rfl,LR _ 0 _ 1,(by intro e;cases e),λ_=>rfl⟩,by intro q e;cases e⟩⟩,L.1,L.2.1,oM,λe=>by have:=af _ e;omega⟩
 clear P hk g ht af o W
 go_wp2
 obtain⟨c8,ad⟩:=eX (w2.heap.size+1);obtain⟨W4,a5⟩:=eX ((w2.alloc (.cells #[.int .i64 sz,.slice ao k cc] 376)).alloc (.cells #[.pointer none,.slice none 0 0] 282));rw[<-ad,<-a5]at G⊢;have p:=hD G.2;have ah:=Hid.mk' G.1;clear ad a5 G;go_loopw [25] (λj_ wr=>∃j:Nat,j<=k/\j_=.int .i64 j/\Hid (Fz w T bd m b N a0 a1 a2 a3 c8 k d has t (.slice ao k cc) j wr)) (λj_ _=>k-(intOf j_).toNat)
 .exact⟨0,fP _,rfl,ah⟩
 obtain⟨j,hj,rfl,HJ⟩:=hrel;clear ah;by_cases C:j<k
 .have az:(j:Int)<k:=oM;have aI:(0:Int)<=j:=oM;obtain⟨q,aK,hv,aN,aL,J⟩:=kr HJ.own C;cases hv;obtain⟨u,O⟩:=GO HK.1 (j:=j) (by rw[<-HK.out.2.1];exact C);rw[<-HK.out.2.1]at O;rw[wy t k j O C]at J;obtain⟨A',hA⟩:=eX ((db (iz t j)).toArray);have f:A'.size=32:=by rw[hA,jO,cE,u]
  have aq:Hid (∀v∈A'.toList,v.oneCell'=true):=hA▸eA _;have E:Hid (wr.rangeAt q (j*32) A'.toList):=hA▸J;have c:Hid (A'.toList.length=32/\A'.toList.toArray=A'):=⟨by rw[gf,f],sI⟩;have ar:Hid (A'.all (·.oneCell')=true):=Array.all_eq_true_iff_forall_mem.2 (λv hv=>aq v (by simpa using hv));obtain⟨V1,D⟩:=eX ((wr.alloc (.cells fN 131)).setRow wr.heap.size A');have ac:Below wr.heap.size wr V1:=D▸cC ((dw _ _).alloc (cO _) _) (cO _) _;have ae:V1.heap[wr.heap.size]?=some (.cells A' 131 (0,0)):=D▸ja _ _ _ _ _ _ (dM wr _);have a6:Hid (V1.rangeAt wr.heap.size 0 A'.toList):=by intro i v hv;rw[nS,cG ae,<-kX];exact hv
  have K:=Hid.mk' (HJ.below p ac);have z:Hid (Calls prog 267 #[yP b,.int .u8 1,.agg A'] V1 λe w'=>Fj V1 T bd m b N a0 a1 a2 a3 d has (cJ has 1 (iz t j)).1 (cJ has 1 (iz t j)).2 e w'):=av V1 (iz t j) A' K.same K.arc u (by rw[hA];rfl) (HK.2.2 j C);have ax:=hD D;have aH:(prog.info? 131).map (·.size)=some A'.toList.length:=by rw[gf,f];exact l
  clear J u O hA ac ae D
  go_wp2_with (first|(refine su rfl 131 _ rfl q (j*32) rfl A'.toList _ E kb rfl (by rw[c.out.1];exact l) ?_;rw[c.out.2])|(refine cu rfl 131 _ _ rfl wr.heap.size A' rfl rfl 131 fN (dM wr _) (f▸l) (by rw[f];rfl) ar ?_;intro V' r;obtain rfl:V'=V1:=r.out.trans ax.symm;clear r)|(refine su rfl 131 _ rfl wr.heap.size 0 rfl A'.toList _ a6 kb rfl (by rw[c.out.1];exact l) ?_;rw[c.out.2]))
  refine z.mono ?_;rintro e w3 ⟨h1,h2,rfl⟩;have aa:=Hid.mk' (K.read p h1 h2);have aG:=h2.size;clear h1 h2 z;obtain⟨x,hx⟩:=eX (NI d has t j)
  have al:Hid (Calls prog 211 #[yP c8,.string x] w3 λe w'=>e=.returned (.tuple #[.int .i64 x.size,.nilIface])/\Fz w T bd m b N a0 a1 a2 a3 c8 k d has t (.slice (yS q 0) k cc) (j+1) w'):=by
   obtain⟨p0,bv,hM,hq⟩:=aa.bld;have aM:x.size<=6000:=hx▸X t j;have aA:=qQ d has t (X t) j;have M:(lS d has t j).data.toList.length=(lS d has t j).size:=rfl;refine iM (oE w3 _ _ 0 _ bv _ x hM (by rw[M];omega)) ?_;rintro e w4 ⟨rfl,hW⟩;refine⟨rfl,aa.wrote (p0:=p0) p hq ?_⟩;have e:(lS d has t (j+1)).data.toList=(lS d has t j).data.toList++x.data.toList:=by show(lS d has t j++NI d has t j).data.toList=_;rw[<-hx];simp
   rw[e];exact hW
  have a4:gu d (cJ has 1 (iz t j)).1 (cJ has 1 (iz t j)).2=x:=hx.symm;rw[a4];clear a4 hx
  go_wp2_with (go_at_call 211;refine al.mono ?_;rintro e w4 ⟨rfl,a7⟩;have ay:=Hid.mk' a7;clear a7)
  go_roundw
  .exact⟨j+1,oM,by go_num,ay⟩
  exact mS
 obtain rfl:j=k:=oM;have az:¬(j:Int)<j:=oM
 have HF:Hid (Calls prog 213 #[yP c8] wr λe w'=>e=.returned (.string (lS d has t j))/\Di w S bd m b N a0 a1 a2 a3 d has s (.returned (.tuple #[.string (lS d has t j),.nilIface])) w'):=by
  obtain⟨p0,bv,hM,hq⟩:=HJ.bld;have aA:=qQ d has t (X t) j;have M:(lS d has t j).data.toList.length=(lS d has t j).size:=rfl;have aB:=p.cl;obtain⟨l1,l2,l3,l4,l5⟩:=p.bl
  have hU:∀q,pm c8 bv q->w.heap.size<=q:=by
   rintro q (rfl|e)
   .exact aB
   exact(hq q e.symm).1
  have H:∀w',cq (pm c8 bv) wr w'->Di w S bd m b N a0 a1 a2 a3 d has s (.returned (.tuple #[.string (lS d has t j),.nilIface])) w':=by intro w' hs;have hA:ed w' T bd m b N a0 a1 a2 a3 d has:=HJ.arc.up hs (λq h1 h2=>by have:=p.tl q h1;have:=hU q h2;omega) (λh=>by have:=hU _ h;omega) (λh=>by have:=hU _ h;omega) (λh=>by have:=hU _ h;omega) (λh=>by have:=hU _ h;omega) (λh=>by have:=hU _ h;omega);obtain⟨u1,u2⟩:=au w' hA (HJ.same.then (hs.weak λq hu=>.inr (hU q hu)));exact⟨u1,u2,by rw[an.out]⟩
  by_cases he:(lS d has t j).data.toList=[]
  .have ai:=hM.nil he;have Y:wr.cell? (yA c8 (0+1))=some (.slice none 0 0):=by rw[cG hM.row,hM.c1,ai]
   have a9:lS d has t j=⟨#[]⟩:=ej he;refine iM (nX c8 0 wr Y) ?_;rintro e w' ⟨rfl,aj⟩;exact⟨by rw[a9],H w' (cq.of_below aj)⟩
  refine iM (po wr _ _ 0 _ bv _ hM he (by rw[M];omega)) ?_;rintro e w' ⟨rfl,hs⟩;exact⟨sI,H w' hs⟩
 obtain⟨y,hy⟩:=eX (lS d has t j);rw[<-hy]at HF;clear hy
 go_wp2_with (go_at_call 213;refine HF.mono ?_;rintro e w4 ⟨rfl,hF⟩;have am:=Hid.mk' hF;clear hF)
 refine gh (lB rfl _ _ _) rfl ?_;exact am
def Ic(w:World)(S:Nat->Prop)(bd m b N a0 a1 a2 a3:Nat)(d:cX)(has:List Ob)(s:ByteArray)(e:Ending)(w':World):Prop:=
 ed w' S bd m b N a0 a1 a2 a3 d has/\cq S w w'/\∃r,w.heap.size<=r/\w'.heap[r]?=some (.cells #[.string (mF d has s),.map none] 274 (0,0))/\e=.returned (.tuple #[yP r,.nilIface])
theorem vI(S:Nat->Prop)(C m b N D E F G n:Nat)(d:cX)(has:List Ob)(s:ByteArray)(w:World)(h:ed w S C m b N D E F G d has)(L:iY w S)(M:d.safe.length=n)(O:n<=4096)(H:∀s∈df d,s.size=64)(I:∀k s,(cJ has k s).2<=6000)(K:s.size=32)(J:uJ d has s):
  Calls prog 224 #[yP b,dL s] w λe w'=>Ic w S C m b N D E F G d has s e w':=by
 obtain⟨A,hA⟩:=eX ((db s).toArray);have f:dL s=.agg A:=by rw[hA];rfl
 have o:A.size=32:=by rw[hA,jO,cE,K]
 rw[f];obtain⟨W1,c⟩:=eX (w.alloc (.cells A 131));have a:Below w.heap.size w W1:=by rw[c];exact(dw _ _).alloc (cO _) _
 have r1:W1.heap[w.heap.size]?=some (.cells A 131 (0,0)):=c▸dM w _;have x:Hid (W1.rangeAt w.heap.size 0 A.toList):=by intro i v hv;rw[nS,cG r1,<-kX];exact hv
 have l:Hid ((prog.info? 131).map (·.size)=some A.toList.length/\A.toList.toArray=A):=⟨by rw[gf,o];kernel_rfl,sI⟩;have g:Hid (Calls prog 240 #[yP b,.agg A] W1 λe w'=>Di W1 S C m b N D E F G d has s e w'):=by have:=nC S C m b N D E F G n d has s W1 (h.below a) (L.below a) M O H I K J;rw[f]at this;exact this
 have q:Hid (∀V,cq S W1 V->cq S w V):=λV r=>(cq.of_below a).trans r
 have y:=a.size;have z:=yH;clear h L M H I K J hA f o a r1;go_enter func224,ntmps224;go_upto_region 1 with fail
 rw[<-c];clear c
 go_wp2_with (refine su rfl 131 _ rfl w.heap.size 0 rfl A.toList _ x kb rfl l.1 ?_;rw[l.out.2])
 refine g.mono ?_;rintro e w2 ⟨h1,h2,rfl⟩;have u:=Hid.mk' h1;have p:=Hid.mk' (q _ h2);have B:=h2.size;clear h1 h2 g;obtain⟨t,ht⟩:=eX (mF d has s);have HF:Hid (Ic w S C m b N D E F G d has s (.returned (.tuple #[yP w2.heap.size,.nilIface])) (w2.alloc (.cells #[.string t,.map none] 274))):=by have j:Below w2.heap.size w2 (w2.alloc (.cells #[.string t,.map none] 274)):=(dw _ _).alloc (cO _) _;exact⟨u.below j,p.trans (cq.of_below j),w2.heap.size,oM,by rw[<-ht];exact dM w2 _,rfl⟩
 rw[<-ht];clear ht
 go_wp2
 refine gh (lB rfl _ _ _) rfl ?_;exact HF
def W6(w:World)(most:Int):World:=(((((w.alloc (.cells #[.int .i64 most] 3)).alloc (.cells #[.slice none 0 0] 48)).alloc (.cells #[.int .i64 0] 3)).alloc (.cells #[.int .i64 (-1)] 3)).alloc (.cells #[.bool false] 4)).alloc (.cells #[.bool false] 4)
theorem Df(w:World)(most:Int):(W6 w most).heap.size=w.heap.size+6:=by simp[W6]
theorem zF(w:World)(most:Int):Below w.heap.size w (W6 w most):=by
 unfold W6;exact((((((dw _ _).alloc (cO _) _).alloc sI _).alloc (by simp;omega) _).alloc (by simp;omega) _).alloc (by simp;omega) _).alloc (by simp;omega) _
theorem qe(w:World)(o:Obj)(n:Nat)(h:w.heap.size=n):(w.alloc o).heap[n]?=some o:=by rw[<-h];exact dM w o
theorem LK(w:World)(most:Int):og (W6 w most) w.heap.size (w.heap.size+6) most (.slice none 0 0) [] 0 false:=by
 have hs:=Df w most;refine⟨?_,?_,?_,?_,?_,?_,⟨rfl,.inl ⟨rfl,rfl⟩⟩,⟨cO _,oM⟩⟩<;>unfold W6
 .rw[cK _ _ (by simp<;>omega),cK _ _ (by simp<;>omega),cK _ _ (by simp<;>omega),cK _ _ (by simp<;>omega),cK _ _ (by simp)];exact dM w _
 .rw[cK _ _ (by simp<;>omega),cK _ _ (by simp<;>omega),cK _ _ (by simp<;>omega),cK _ _ (by simp)];exact qe _ _ _ sI
 .rw[cK _ _ (by simp<;>omega),cK _ _ (by simp<;>omega),cK _ _ (by simp)];exact qe _ _ _ sI
 .rw[cK _ _ (by simp<;>omega),cK _ _ (by simp)];exact qe _ _ _ sI
 .rw[cK _ _ (by simp)];exact qe _ _ _ sI
 exact qe _ _ _ sI
theorem og.on{H:Nat}(h:og w H B most (.slice none 0 0) [] ec ov)(a:Below w.heap.size w w'):og w' H w'.heap.size most (.slice none 0 0) [] ec ov:=by
 obtain⟨h1,h2⟩:=h.hB;have hs:=a.size;exact⟨by rw[a.block _ (by omega)];exact h.most,by rw[a.block _ (by omega)];exact h.l,by rw[a.block _ (by omega)];exact h.e,by rw[a.block _ (by omega)];exact h.at_,by rw[a.block _ (by omega)];exact h.over,by rw[a.block _ (by omega)];exact h.more,⟨rfl,.inl ⟨rfl,rfl⟩⟩,⟨oM,cO _⟩⟩
end
end Go.Proofs.YtapijhhmjjplmaaGreatDoor
