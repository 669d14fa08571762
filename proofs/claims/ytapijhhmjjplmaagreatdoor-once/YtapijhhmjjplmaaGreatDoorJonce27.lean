import Derived.Test.YtapijhhmjjplmaaGreatDoorJonce23
import Derived.Test.YtapijhhmjjplmaaGreatDoorJonce24
namespace Go.Proofs.YtapijhhmjjplmaaGreatDoor
set_option linter.all false
set_option maxRecDepth 100000
set_option maxHeartbeats 4000000
open Go.Proofs.Tryz
variable {X:Array Value}{ov:Bool}{s:ByteArray}{f:ByteArray→Option Value}{Q:Exit→Act→World→Prop}{most ec:Int}{has:List Ob}{xs:List Value}{b N g a0 a1 a2 a3 sh B k n:Nat}{S:Nat→Prop}{P:Program}{e:TypeId}{v lv:Value}{w w':World}
section
open Go.RowKit Go.Maps
def AO(p:Nat×Nat):Value:=.agg #[.int .i64 p.1,.int .i64 p.2]
def En(has:List Ob)(s:ByteArray):Option Value:=if(cF has 3 s).isSome then some (AO (mW has s))else none
theorem JM(w:World):(zeroValue 356).run prog w=.ok (AO (0,0)) w:=by rfl
theorem KM.shape(h:KM w b N (En has))(s:ByteArray)(c:s.size=32)(d:(cF has 3 s).isSome=true)(V:World)(f:V.heap[b]?=w.heap[b]?):(Instr.lookup 176 (.map (some b)) (dL s) false).run prog V=.ok (AO (mW has s)) V:=by
 obtain⟨D,h1,h2⟩:=h.on f;obtain⟨v,ps,a,hv⟩:=h1.lookup kq underlying176 (JM V) (zd:=.held (AO (0,0))) (zp:=[]) rfl (iR s c);rw[h2.at c]at hv;have e:En has s=some (AO (mW has s)):=by unfold En;rw[dq d]
 rw[e]at hv;have:v=AO (mW has s):=by unfold cY tH at hv;exact FA (Hi (kM hv)).1
 rw[this]at a;exact a
theorem tX{g:zH}{D:Nat}(h:∀s,(g s).1<=D):∀l,(AE g l).1<=D+1:=by
 intro l
 induction l using jh with
 |h0=>exact fP _
 |hs l x ih=>
  rw[qc];show max _ _<=_
  have:(vV g x).1<=D:=by
   unfold vV;split
   .exact h _
   exact fP _
  omega
theorem C2:∀(has:List Ob)(s:ByteArray),(mW has s).1<=has.length:=by
 intro has
 induction has using jh with
 |h0=>exact λ_=>fP _
 |hs l o ih=>
  intro s;rw[nu,ir];unfold pe;split
  .show(if s=o.sum then AE (mW l) (mN o.text)else mW l s).1<=_;split
   .exact tX ih _
   exact Nat.le_succ_of_le (ih s)
  exact Nat.le_succ_of_le (ih s)
theorem xM(g:zH)(l:List gS):(AE g l).2<=257:=by
 induction l using jh with
 |h0=>exact fP _
 |hs l x _=>rw[qc];exact Nat.min_le_right _ _
theorem Jm:∀(has:List Ob)(s:ByteArray),(mW has s).2<=257:=by
 intro has
 induction has using jh with
 |h0=>exact λ_=>fP _
 |hs l o ih=>
  intro s;rw[nu];unfold pe;split
  .show(if s=o.sum then AE (mW l) (mN o.text)else mW l s).2<=_;split
   .exact xM _ _
   exact ih s
  exact ih s
theorem oe{l:List gS}(h:∀x∈l,x.sum.size=32)(j:Nat)(a:j<l.length):((fM l).drop (j*34)).take 34=gp l[j]:=ou gp 34 l (λx hx=>ef x (h x hx)) j a
def KK(w:World)(has:List Ob)(s:ByteArray)(e:Ending)(w':World):Prop:=∃p:Nat×Nat,e=.returned (.tuple #[AO p,.bool (qu has 3 s)])/\Below w.heap.size w w'/\(qu has 3 s=true->p=AE (mW has) (mN s))/\p.1<=has.length+1/\p.2<=257
theorem mh{l:List gS}(h:fO s=some l):qu has 3 s=DA has l:=by unfold qu;simp[h]
theorem F3(h:∀l,fO s=some l->16<l.length):qu has 3 s=false:=by
 cases hl:fO s with
 |none=>unfold qu;simp[hl]
 |some l=>
  rw[mh hl,RD];intro h';have:=(oK.1 h').1;have:=h l hl;omega
structure Mc (w:World) (g a0 a1 a2 a3 sh N:Nat) (X:Array Value) (has:List Ob):Prop where
 row:w.heap[g]?=some (.cells X 178 (0,0))
 x0:X[0]?=some (.map (some a0))
 x1:X[1]?=some (.map (some a1))
 x2:X[2]?=some (.map (some a2))
 x3:X[3]?=some (.map (some a3))
 x5:X[5]?=some (.map (some sh))
 kn:dG w (λ_=>True) N a0 a1 a2 a3 has
 shp:KM w sh N (En has)
theorem Mc.on(h:Mc w g a0 a1 a2 a3 sh N X has)(a:Below B w w')(c:w.heap.size<=B):Mc w' g a0 a1 a2 a3 sh N X has:=
 ⟨by rw[a.block _ (ny (cm h.row) c)];exact h.row,h.x0,h.x1,h.x2,h.x3,h.x5,⟨h.kn.k0.on (a.block _ (ny h.kn.k0.lt c)),h.kn.k1.on (a.block _ (ny h.kn.k1.lt c)),h.kn.k2.on (a.block _ (ny h.kn.k2.lt c)),h.kn.k3.on (a.block _ (ny h.kn.k3.lt c)),h.kn.s,h.kn.d⟩,h.shp.on (a.block _ (ny h.shp.lt c))⟩
theorem eR{c:Code}{a:Act}(F:World->Prop)(h:F w)(k:∀V,F V->c.wp P Q a V):c.wp P Q a w:=k w h
theorem sU(g a0 a1 a2 a3 sh N:Nat)(X:Array Value)(has:List Ob)(s:ByteArray)(w:World)(hs:s.size<=100000)(hI:Mc w g a0 a1 a2 a3 sh N X has)(b9:has.length<=1000000)(b7:qu has 3 s=true)(b8:∀l,fO s=some l->∀x∈l,x.dir=false):
  Calls prog 266 #[yP g,.string s] w λe w'=>KK w has s e w':=by
 have aO:=mZ;obtain⟨W1,z⟩:=eX (w.alloc (.cells #[.int .i64 0,.int .i64 0] 356));have av:W1.heap[w.heap.size]?=some (.cells #[.int .i64 0,.int .i64 0] 356 (0,0)):=z▸dM w _;have ac:Below w.heap.size w W1:=by rw[z];exact(dw _ _).alloc (cO _) _
 have aB:W1.heap.size=w.heap.size+1:=by rw[z];simp
 obtain⟨l,hl⟩:∃l,fO s=some l:=by
  cases h:fO s with
  |some l=>exact⟨l,rfl⟩
  |none=>rw[F3 (λl h'=>by rw[h]at h';cases h')]at b7;cases b7
 have L:=b7;rw[mh hl]at L;have ad:=(oK.1 L).1;have a7:=hD (pR s l W1 hs hl ad (b8 l hl));have HI:=hD hI;rw[z]at a7;have al:Hid ((∀x∈l,(cF has (eG x) x.sum).isSome=true)/\∀x∈l,x.dir=false):=⟨(oK.1 L).2,b8 l hl⟩;clear hI b7 b8 L;go_enter func266,ntmps266
 go_wp2_with fail
 refine a7.out.mono ?_;rw[<-z];rintro e w2 ⟨v,rfl,K,o⟩;have M:=ac.trans (K.mono ac.size);have ap:w2.heap[w.heap.size]?=some (.cells #[.int .i64 0,.int .i64 0] 356 (0,0)):=by rw[K.block _ (by omega)];exact av
 obtain⟨ao,cc,rfl⟩:=cQ o;obtain⟨k,hk⟩:=eX (l.length);rw[<-hk]at o⊢;obtain⟨W3,f⟩:=eX (w2.alloc (.cells #[.int .i64 0,.int .i64 0] 356));obtain⟨Bw,t⟩:=eX (w2.heap.size);have b2:W3.heap.size=Bw+1:=by rw[f,t];simp
 have ah:=mC hl;have Z:w.heap.size<Bw:=by have:=K.size;omega
 have HP:Hid (k=l.length/\fO s=some l/\(∀x∈l,x.sum.size=32)/\W3.ownsRow 0 366 34 (.slice ao k cc) k (fM l)/\(∀q,Value.ownBlock (.slice ao k cc)=some q->q<Bw)/\W3.heap[w.heap.size]?=some (.cells #[.int .i64 0,.int .i64 0] 356 (0,0))/\W3.heap[Bw]?=some (.cells #[.int .i64 0,.int .i64 0] 356 (0,0))/\Below w.heap.size w W3/\Mc w2 g a0 a1 a2 a3 sh N X has/\w2.heap.size=Bw/\Below Bw w2 W3):=by refine⟨hk,hl,λx hx=>(ah.1 x hx).2.1,ii (f▸rI o _) (fP _),λq hq=>by rw[t];exact(cr o q hq).2,by rw[f,cK _ _ (by omega)];exact ap,by rw[f,t];exact dM w2 _,f▸M.alloc M.size _,?_⟩;exact⟨HI.out.on M (cO _),t.symm,by rw[f,t];exact(dw _ _).alloc (cO _) _⟩
 have aP:k<=16:=oM;have aS:(k:Int)<=16:=oM;clear K M ap hl ad o hk av ac ah a7 HI
 go_wp2
 rw[<-f,<-t];clear f z aB t;go_loopw [22] (λj_ wr=>∃j:Nat,j<=k/\j_=.int .i64 j/\Hid (∃d m:Nat,(d,m)=AE (mW has) (l.take j)/\(∀i (h:i<l.length),i<j->(cF has (eG l[i]) l[i].sum).isSome=true)/\wr.heap[Bw]?=some (.cells #[.int .i64 d,.int .i64 m] 356 (0,0))/\Below Bw W3 wr)) (λj_ _=>k-(intOf j_).toNat)
 .exact⟨0,fP _,rfl,0,0,rfl,λi _ hi=>absurd hi (KE _),HP.out.2.2.2.2.2.2.1,dw _ _⟩
 obtain⟨j,hj,rfl,HI⟩:=hrel;by_cases an:j<k
 .have aW:(j:Int)<k:=oM;obtain⟨d,m,b,n,p,u⟩:=HI.out;have aq:j<l.length:=by rw[<-HP.out.1];exact an
  have hO:=cI HP.out.2.2.2.1 (λq hq=>u.block _ (HP.out.2.2.2.2.1 q hq));obtain⟨q,aY,hv,aX,b6,I⟩:=kr hO an;cases hv;rw[oe HP.out.2.2.1 j aq]at I;obtain⟨x,hx⟩:=eX (l[j]);rw[<-hx]at I;have y:x.sum.size=32:=hx▸HP.out.2.2.1 _ (mX _);obtain⟨A,hA⟩:=eX ((db x.sum).toArray);have HA:Hid (A.toList=db x.sum):=by rw[hA];rfl
  have ae:A.size=32:=by rw[hA,jO,cE,y]
  obtain⟨C,hC⟩:=eX ((gp x).toArray);have HC:=hD hC;have a4:C.size=34:=by rw[hC,jO,ef x y]
  have aC:Hid (wr.rangeAt q (j*34) C.toList):=hC▸I;have B:Hid (C.toList.length=34/\C.toList.toArray=C/\C.size=34/\C.all (·.oneCell')=true):=⟨by rw[gf,a4],sI,a4,Array.all_eq_true_iff_forall_mem.2 (λv hv=>by rw[hC]at hv;exact gR x v (by simpa using hv))⟩;obtain⟨V1,F⟩:=eX ((wr.alloc (.cells ic 366)).setRow wr.heap.size C);have a8:=cm p;have c:Hid (Below Bw W3 V1):=F▸cC (u.alloc (Pt a8) _) (Pt a8) _;have ak:Hid (V1.heap[wr.heap.size]?=some (.cells C 366 (0,0))):=F▸ja _ _ _ _ _ _ (dM wr _);have a5:Hid (V1.heap[Bw]?=some (.cells #[.int .i64 d,.int .i64 m] 356 (0,0))):=by show _=_;rw[F,l7 _ _ _ _ (by omega),cK _ _ a8];exact p
  have az:=hD F;have HX:=hD hx;have G:Hid ((d,m)=AE (mW has) (l.take j)/\∀i (h:i<l.length),i<j->(cF has (eG l[i]) l[i].sum).isSome=true):=⟨b,n⟩;obtain⟨r,hr⟩:=eX ((cF has (eG x) x.sum).isSome);have U:Hid ((prog.info? 366).map (·.size)=some 34):=by show _=_;kernel_rfl
  have aQ:(prog.info? 131).map (·.size)=some A.toList.length:=by rw[gf,ae];kernel_rfl
  have b5:A.toList.length=32:=by rw[gf,ae]
  have aZ:=kb;have b3:(0:Int)<=j:=oM;obtain⟨d',a9⟩:=eX ((vV (mW has) x).1:Nat);obtain⟨m',Y⟩:=eX ((vV (mW has) x).2:Nat);obtain⟨d2,ab⟩:=eX (max d (d'+1):Nat);obtain⟨m2,aa⟩:=eX (min (m+m'+1) 257:Nat);have J:Hid (d'=(vV (mW has) x).1/\m'=(vV (mW has) x).2):=⟨a9,Y⟩;have ag:Hid (d2=max d (d'+1)/\m2=min (m+m'+1) 257):=⟨ab,aa⟩;have ay:d'<=has.length:=by rw[a9];unfold vV;split;exact C2 has _;exact fP _
  have aI:m'<=257:=by rw[Y];unfold vV;split;exact Jm has _;exact fP _
  have aH:m<=257:=by have:=xM (mW has) (l.take j);rw[<-b]at this;exact this
  have aL:max (d:Int) ((d':Int)+1)=(d2:Int):=by rw[ab];omega
  have aM:min ((m:Int)+(m':Int)+1) 257=(m2:Int):=by rw[aa];omega
  have aV:(d':Int)<=1000000:=oM;have aR:(m':Int)<=257:=oM;have aU:(m:Int)<=257:=oM;clear b n p u hO I hx hA hC a4 F HI a9 Y ab aa ay aI aH;cases hd:x.dir
  .have P:=hD hd;have H:eG x=2:=by unfold eG;rw[hd];rfl
   rw[H]at hr
   have a6:Hid (∀V,Below V1.heap.size V1 V->(λV=>V.cell? (yA g 0)=some (.map (some a0))/\V.cell? (yA g 1)=some (.map (some a1))/\V.cell? (yA g 2)=some (.map (some a2))/\V.cell? (yA g 3)=some (.map (some a3))/\V.cell? (yA wr.heap.size 1)=some (.int .u8 2)/\V.rangeAt wr.heap.size 2 A.toList/\Hid (Below V1.heap.size V1 V)) V):=by
    intro V hV;have E:Below Bw w2 V:=(HP.out.2.2.2.2.2.2.2.2.2.2.trans (c.out.mono (cO _))).trans (hV.mono (by have:=c.out.size;omega));have hI:=HP.out.2.2.2.2.2.2.2.2.1.on E (by rw[HP.out.2.2.2.2.2.2.2.2.2.1];exact cO _);have Q:V.heap[wr.heap.size]?=some (.cells C 366 (0,0)):=by rw[hV.block _ (cm ak.out)];exact ak.out
    refine⟨by rw[cG hI.row];exact hI.x0,by rw[cG hI.row];exact hI.x1,by rw[cG hI.row];exact hI.x2,by rw[cG hI.row];exact hI.x3,by rw[cG Q,HC.out];show some (Value.int .u8 (eG x:Int))=_;rw[H];rfl,λi v hv=>?_,hV⟩;rw[cG Q,HC.out];show(gp x).toArray[2+i]?=some v;have e:(gp x).toArray[2+i]?=(db x.sum)[i]?:=by rw[Ew,Gb];rfl
    rw[e,<-HA.out];exact hv
   have T:Hid (∀V,Below V1.heap.size V1 V->Calls prog 220 #[.agg #[.map (some a0),.map (some a1),.map (some a2),.map (some a3)],.int .u8 2,.agg A] V λe w'=>e=.returned (.bool r)/\Below V.heap.size V w'):=by intro V hV;have E:Below Bw w2 V:=(HP.out.2.2.2.2.2.2.2.2.2.2.trans (c.out.mono (cO _))).trans (hV.mono (by have:=c.out.size;omega));have hI:=HP.out.2.2.2.2.2.2.2.2.1.on E (by rw[HP.out.2.2.2.2.2.2.2.2.2.1];exact cO _);have h:=qm (λ_=>True) N a0 a1 a2 a3 2 has x.sum V hI.kn dE dE y;rw[show dL x.sum=.agg A by unfold dL;rw[<-HA.out]]at h;rw[hr];exact h
   have ai:Hid (∀V,Below V1.heap.size V1 V->V.cell? (yA w.heap.size 0)=some (.int .i64 0)/\V.cell? (yA w.heap.size 1)=some (.int .i64 0)/\V.frozen? (yA w.heap.size 0)=false/\V.frozen? (yA w.heap.size 1)=false/\V.cell? (yA wr.heap.size 1)=some (.int .u8 2)/\Hid (V.heap[w.heap.size]?=some (.cells #[.int .i64 0,.int .i64 0] 356 (0,0)))):=by
    intro V hV;have E:Below Bw W3 V:=c.out.trans (hV.mono (by have:=c.out.size;omega));have a:V.heap[w.heap.size]?=some (.cells #[.int .i64 0,.int .i64 0] 356 (0,0)):=by rw[E.block _ Z];exact HP.out.2.2.2.2.2.1
    exact⟨cG a,cG a,fH _ _ _ _ _ a,fH _ _ _ _ _ a,(a6.out V hV).2.2.2.2.1,a⟩
   have HR:=hD hr;clear hr hd y
   go_wp2_with (first|(refine su rfl 366 _ rfl q (j*34) rfl C.toList _ aC.out BH rfl (by rw[B.out.1];exact U.out) ?_;rw[B.out.2.1])|(refine cu rfl 366 _ _ rfl wr.heap.size C rfl rfl 366 ic (dM wr _) (by rw[B.out.2.2.1];exact U.out) (by rw[B.out.2.2.1];rfl) B.out.2.2.2 ?_;intro V' am;obtain rfl:V'=V1:=am.out.trans az.out.symm;clear am))
   go_region_held3 (λV=>V.cell? (yA g 0)=some (.map (some a0))/\V.cell? (yA g 1)=some (.map (some a1))/\V.cell? (yA g 2)=some (.map (some a2))/\V.cell? (yA g 3)=some (.map (some a3))/\V.cell? (yA wr.heap.size 1)=some (.int .u8 2)/\V.rangeAt wr.heap.size 2 A.toList/\Hid (Below V'.heap.size V' V)) ((exact a6.out _ bE)) (first|(go_at_call 220;refine(T.out _ bE).mono ?_;rintro e w5 ⟨rfl,ax⟩;have B5:Hid (Below V'.heap.size V' w5):=ku bE (cO _) ax;clear ax))
   obtain⟨c0,c1,f0,f1,ck,aE⟩:=ai.out w5 B5.out;have b4:=λO:Obj=>(vY w5 (yA wr.heap.size 1) O (by rw[ck];rfl)).trans ck
   cases hrr:r
   .subst hrr;have h2:=al.out.1 x (by rw[HX.out];exact mX _);rw[H,<-HR.out]at h2;cases h2
   subst hrr;have W:Bw<w5.heap.size:=by have:=B5.out.size;have:=cm a5.out;omega
   have au:Hid (∀V,Below w5.heap.size w5 V->V.heap[w5.heap.size]?=some (.cells #[.int .i64 d',.int .i64 m'] 356 (0,0))->V.cell? (yA Bw 0)=some (.int .i64 d)/\V.cell? (yA Bw 1)=some (.int .i64 m)/\V.frozen? (yA Bw 0)=false/\V.frozen? (yA Bw 1)=false/\V.cell? (yA w5.heap.size 0)=some (.int .i64 d')/\V.cell? (yA w5.heap.size 1)=some (.int .i64 m')/\Hid (V.heap[Bw]?=some (.cells #[.int .i64 d,.int .i64 m] 356 (0,0))/\Below Bw W3 V)):=by
    intro V hV hr;have D:V.heap[Bw]?=some (.cells #[.int .i64 d,.int .i64 m] 356 (0,0)):=by rw[hV.block _ W,B5.out.block _ (cm a5.out)];exact a5.out
    exact⟨cG D,cG D,fH _ _ _ _ _ D,fH _ _ _ _ _ D,cG hr,cG hr,D,(c.out.trans (B5.out.mono (by have:=c.out.size;omega))).trans (hV.mono (Pt W))⟩
   have aN:Bw≠w5.heap.size:=oM;have aK:w5.heap.size≠Bw:=oM;clear c0 c1 f0 f1 aE
   have aj:Hid (d'=0/\m'=0):=by
    refine⟨?_,?_⟩
    .rw[J.out.1];unfold vV;rw[P.out];rfl
    rw[J.out.2];unfold vV;rw[P.out];rfl
   go_upto_region 13 with fail
   refine eR (λV=>V.cell? (yA Bw 0)=some (.int .i64 d)/\V.cell? (yA Bw 1)=some (.int .i64 m)/\V.frozen? (yA Bw 0)=false/\V.frozen? (yA Bw 1)=false/\V.cell? (yA w5.heap.size 0)=some (.int .i64 d')/\V.cell? (yA w5.heap.size 1)=some (.int .i64 m')/\Hid (V.heap[Bw]?=some (.cells #[.int .i64 d,.int .i64 m] 356 (0,0))/\Below Bw W3 V)) (?_:_) ?_
   .refine au.out _ ?_ ?_
    .exact bE
    rw[aj.out.1,aj.out.2];exact dM _ _
   rintro V7 ⟨c0,c1,f0,f1,e0,e1,H7⟩
   have ar:Hid (∀V,V=(V7.setCell (yA Bw 0) (.int .i64 d2)).setCell (yA Bw 1) (.int .i64 m2)->∃d m:Nat,(d,m)=AE (mW has) (l.take (j+1))/\(∀i (h:i<l.length),i<j+1->(cF has (eG l[i]) l[i].sum).isSome=true)/\V.heap[Bw]?=some (.cells #[.int .i64 d,.int .i64 m] 356 (0,0))/\Below Bw W3 V):=by
    rintro V rfl;refine⟨d2,m2,?_,λi hi h=>?_,?_,(H7.out.2.setCell (cO _) _).setCell (cO _) _⟩
    .rw[sN aq,qc,<-G.out.1,<-HX.out,ag.out.1,ag.out.2,J.out.1,J.out.2];rfl
    .rcases Nat.lt_succ_iff_lt_or_eq.1 h with h|rfl
     .exact G.out.2 i hi h
     rw[<-HX.out,H,<-HR.out]
    rw[gE _ Bw 1 _ _ _ (gE _ Bw 0 _ _ _ H7.out.1)];rfl
   clear G HX au ai T a6
   go_wp2
   go_roundw
   .exact⟨j+1,oM,by go_num,ar.out _ rfl⟩
   exact mS
  have h:=al.out.2 x (by rw[HX.out];exact mX _);rw[hd]at h;cases h
 have af:j=k:=oM;have aT:¬(j:Int)<k:=oM;obtain⟨d,m,b,n,p,u⟩:=HI.out;have a:wr.heap[w.heap.size]?=some (.cells #[.int .i64 0,.int .i64 0] 356 (0,0)):=by rw[u.block _ Z];exact HP.out.2.2.2.2.2.1
 have b0:wr.cell? (yA Bw 0)=some (.int .i64 d):=cG p;have b1:wr.cell? (yA Bw 1)=some (.int .i64 m):=cG p;have c0:wr.cell? (yA w.heap.size 0)=some (.int .i64 0):=cG a;have c1:wr.cell? (yA w.heap.size 1)=some (.int .i64 0):=cG a;have f0:=fH wr w.heap.size 0 _ _ a;have f1:=fH wr w.heap.size 1 _ _ a
 have S:Hid (KK w has s (.returned (.tuple #[AO (d,m),.bool true])) ((wr.setCell (yA w.heap.size 0) (.int .i64 d)).setCell (yA w.heap.size 1) (.int .i64 m))/\((wr.setCell (yA w.heap.size 0) (.int .i64 d)).setCell (yA w.heap.size 1) (.int .i64 m)).heap[w.heap.size]?=some (.cells #[.int .i64 d,.int .i64 m] 356 (0,0))):=by
  have aD:=HP.out.1.symm;have b7:qu has 3 s=true:=by rw[mh HP.out.2.1,oK];refine⟨oM,λx hx=>?_⟩;obtain⟨i,hi,rfl⟩:=QR hx;exact n i hi oM
  have aA:l.take j=l:=by rw[af,<-aD,NP]
  rw[aA]at b;have aF:d<=has.length+1:=by have:=tX (C2 has) l;rw[<-b]at this;exact this
  have aJ:m<=257:=by have:=xM (mW has) l;rw[<-b]at this;exact this
  have aG:=HP.out.2.2.2.2.2.2.2.1.trans (u.mono (Pt Z));refine⟨⟨(d,m),by rw[b7],(aG.setCell (cO _) _).setCell (cO _) _,λ_=>?_,aF,aJ⟩,?_⟩
  .rw[b];unfold mN;rw[HP.out.2.1];rfl
  rw[gE _ w.heap.size 1 _ _ _ (gE _ w.heap.size 0 _ _ _ a)];rfl
 clear HI af b n p u a
 go_wp2
 refine gh (dX rfl _ _ w.heap.size (AO (d,m)) rfl (zo _ _ 356 356 _ (0,0) _ S.out.2 PL rfl kR)) rfl ?_;exact S.out.1
def Li(w:World)(has:List Ob)(k:Nat)(s:ByteArray)(e:Ending)(w':World):Prop:=∃p:Nat×Nat,e=.returned (.tuple #[AO p,.bool (qu has k s)])/\Below w.heap.size w w'/\(k=3->qu has k s=true->p=AE (mW has) (mN s))/\p.1<=has.length+1/\p.2<=257
theorem yi(g G F H I J N k:Nat)(X:Array Value)(has:List Ob)(s:ByteArray)(w:World)(L:1<=k)(M:k<=3)(K:s.size<=100000)(E:Mc w g G F H I J N X has)(D:has.length<=1000000)(B:qu has k s=true)(C:∀l,fO s=some l->∀x∈l,x.dir=false):
  Calls prog 221 #[yP g,.int .u8 k,.string s] w λe w'=>Li w has k s e w':=by
 have y:=mZ;obtain⟨W1,b⟩:=eX (w.alloc (.cells #[.int .i64 0,.int .i64 0] 356));have n:W1.heap[w.heap.size]?=some (.cells #[.int .i64 0,.int .i64 0] 356 (0,0)):=b▸dM w _;have j:Below w.heap.size w W1:=by rw[b];exact(dw _ _).alloc (cO _) _
 have q:W1.heap.size=w.heap.size+1:=by rw[b];simp
 have f:=E.on j (cO _);have hk:k=1\/k=2\/k=3:=oM;rcases hk with rfl|rfl|rfl
 .have HK:Hid (qu has 1 s=(decide (1<=s.size)&&decide (s.size<=96))):=by show _=_;unfold qu;rfl
  have hc:=B;rw[HK.out,Dj,EP,EP]at hc;have z:(1:Int)<=s.size:=oM;have A:(s.size:Int)<=96:=oM;have HO:=hD B;clear E f j n hc b B C;go_enter func221,ntmps221
  go_wp2
  refine gh (dX rfl _ _ w.heap.size (AO (0,0)) rfl (zo _ _ 356 356 #[.int .i64 0,.int .i64 0] (0,0) _ (dM _ _) PL rfl kR)) rfl ?_;exact⟨(0,0),by rw[HO.out];rfl,bE,λh=>oM,fP _,fP _⟩
 .have HF:=hD (AK g F N X has s W1 K f.row f.x1 f.kn.k1 B);have HO:Hid (qu has 2 s=o7 has s):=by show _=_;unfold qu;rfl
  obtain⟨r,hr⟩:=eX (o7 has s);rw[<-hr]at HF HO;rw[b]at HF;have i:Hid (Below w.heap.size w W1/\W1.heap[w.heap.size]?=some (.cells #[.int .i64 0,.int .i64 0] 356 (0,0))):=⟨j,n⟩;clear E f hr j n B C;go_enter func221,ntmps221
  go_wp2_with fail
  refine HF.mono ?_;rw[<-b];rintro e w2 ⟨rfl,c⟩;have a:w2.heap[w.heap.size]?=some (.cells #[.int .i64 0,.int .i64 0] 356 (0,0)):=by rw[c.block _ (by omega)];exact i.2
  have v:=hD (i.1.trans (c.mono i.1.size));have c0:w2.cell? (yA w.heap.size 0)=some (.int .i64 0):=cG a;have c1:w2.cell? (yA w.heap.size 1)=some (.int .i64 0):=cG a;have f0:=fH w2 w.heap.size 0 _ _ a;have f1:=fH w2 w.heap.size 1 _ _ a;have o:=Hid.mk' a;clear a c b q
  go_wp2
  refine gh (dX rfl _ _ w.heap.size (AO (0,0)) rfl (zo _ _ 356 356 #[.int .i64 0,.int .i64 0] (0,0) _ ?hg PL rfl kR)) rfl ?_
  case hg=>
   rw[gE _ w.heap.size 1 _ _ _ (gE _ w.heap.size 0 _ _ _ o.out)];rfl
  exact⟨(0,0),by rw[HO.out];rfl,bE,λh=>oM,fP _,fP _⟩
 have HM:=hD (sU g G F H I J N X has s W1 K f D B C);rw[b]at HM;have i:Hid (Below w.heap.size w W1/\W1.heap[w.heap.size]?=some (.cells #[.int .i64 0,.int .i64 0] 356 (0,0))):=⟨j,n⟩;clear E f j n B C;go_enter func221,ntmps221
 go_wp2_with fail
 refine HM.mono ?_;rw[<-b];rintro e w2 ⟨⟨d,m⟩,rfl,c,hp,u,t⟩;have a:w2.heap[w.heap.size]?=some (.cells #[.int .i64 0,.int .i64 0] 356 (0,0)):=by rw[c.block _ (by omega)];exact i.2
 have v:=hD (i.1.trans (c.mono i.1.size));have c0:w2.cell? (yA w.heap.size 0)=some (.int .i64 0):=cG a;have c1:w2.cell? (yA w.heap.size 1)=some (.int .i64 0):=cG a;have f0:=fH w2 w.heap.size 0 _ _ a;have f1:=fH w2 w.heap.size 1 _ _ a;have o:=Hid.mk' a;have p:=Hid.mk' (Jp hp (Jp u t));obtain⟨r,hr⟩:=eX (qu has 3 s);rw[<-hr];have HR:=Hid.mk' hr;unfold AO;clear a c b q hr hp u t
 go_wp2
 refine gh (dX rfl _ _ w.heap.size (AO (d,m)) rfl (zo _ _ 356 356 #[.int .i64 d,.int .i64 m] (0,0) _ ?hg PL rfl kR)) rfl ?_
 case hg=>
  rw[gE _ w.heap.size 1 _ _ _ (gE _ w.heap.size 0 _ _ _ o.out)];rfl
 exact⟨(d,m),by rw[<-HR.out];rfl,bE,λ_ h=>p.1 h,p.2.1,p.2.2⟩
theorem KM.mono{M:Nat}(h:KM w b N f)(a:N<=M):KM w b M f:=by
 obtain⟨D,h1,h2⟩:=h;exact⟨D,h1.mono a,h2⟩
theorem KM.congr{g:ByteArray->Option Value}(h:KM w b N f)(e:∀s,s.size=32->f s=g s):KM w b N g:=by
 obtain⟨D,h1,h2⟩:=h;exact⟨D,h1,h2.congr e⟩
theorem KM.store(h:KM w b N f)(j:N<=1000000){t:TypeId}(i:prog.underlying t=some (.map 131 e))(s:ByteArray)(g:s.size=32)(v:Value):
  ∃w',(Instr.mapUpdate t (.map (some b)) (dL s) v).run prog w=.ok () w'/\KM w' b (N+1) (λx=>if x=s then some v else f x)/\cq (·=b) w w':=by
 obtain⟨D,h1,h2⟩:=h;obtain⟨w',a,ho,hg⟩:=h1.update kq i (by unfold maxLen;omega) (key:=dL s) (val:=v) (kl:=.string (bl s)) (d:=.held v) (ps:=[]) (iR s g) rfl;exact⟨w',a,⟨_,ho,h2.put g v (ho.tidy kq)⟩,⟨hg.os,hg.tape,hg.output,hg.size,λk hk c=>hg.block k hk (λe=>c (kM e))⟩⟩
theorem sG{o:Ob}(a:cF has o.kind o.sum=none)(s:ByteArray):(cF (has++[o]) o.kind s).map qC=if s=o.sum then some (qC o)else(cF has o.kind s).map qC:=by
 rw[fU,oJ];by_cases h:s=o.sum
 .subst h;rw[a,dq ⟨rfl,rfl⟩,dq rfl];rfl
 rw[dj (λe=>h e.2.symm),dj h];cases cF has o.kind s<;>rfl
theorem lL{o:Ob}(a:o.kind≠k)(s:ByteArray):cF (has++[o]) k s=cF has k s:=by
 rw[fU,oJ,dj (λe=>a e.1)];cases cF has k s<;>rfl
theorem dG.up{M:Nat}(h:dG w S N a0 a1 a2 a3 has)(a:N<=M):dG w S M a0 a1 a2 a3 has:=⟨h.k0.mono a,h.k1.mono a,h.k2.mono a,h.k3.mono a,h.s,h.d⟩
theorem dG.add(h:dG w S N a0 a1 a2 a3 has)(o:Ob)(p:1<=o.kind)(q:o.kind<=3)(m:cF has o.kind o.sum=none)(n:KM w' (dA o.kind a0 a1 a2 a3) (N+1) (λx=>if x=o.sum then some (qC o)else(cF has o.kind x).map qC))(l:cq (·=dA o.kind a0 a1 a2 a3) w w'):dG w' S (N+1) a0 a1 a2 a3 (has++[o]):=by
 have b:=n.congr (g:=λx=>(cF (has++[o]) o.kind x).map qC) (λs _=>(sG m s).symm);have e0:dA o.kind a0 a1 a2 a3=a1\/dA o.kind a0 a1 a2 a3=a2\/dA o.kind a0 a1 a2 a3=a3:=by have:o.kind=1\/o.kind=2\/o.kind=3:=oM;rcases this with e|e|e<;>rw[e]<;>simp[dA]
 obtain⟨d1,d2,d3,d4,d5,d6⟩:=h.d;have k0:KM w' a0 (N+1) (λ_=>none):=(h.k0.on (l.block _ h.k0.lt (by intro e;rcases e0 with e0|e0|e0<;>omega))).mono oM
 have keep:∀k a (f:ByteArray->Option Value),k≠o.kind->a≠dA o.kind a0 a1 a2 a3->KM w a N (λs=>(cF has k s).map qC)->KM w' a (N+1) (λs=>(cF (has++[o]) k s).map qC):=λk a _ i j c=>
  ((c.on (l.block _ c.lt j)).mono oM).congr (λs _=>by rw[lL (zq i)])
 have hc:o.kind=1\/o.kind=2\/o.kind=3:=oM;rcases hc with e|e|e
 .have ep:dA o.kind a0 a1 a2 a3=a1:=by rw[e];rfl
  rw[ep]at b;rw[e]at b;exact⟨k0,b,keep 2 a2 (λ_=>none) oM oM h.k2,keep 3 a3 (λ_=>none) oM oM h.k3,h.s,h.d⟩
 .have ep:dA o.kind a0 a1 a2 a3=a2:=by rw[e];rfl
  rw[ep]at b;rw[e]at b;exact⟨k0,keep 1 a1 (λ_=>none) oM oM h.k1,b,keep 3 a3 (λ_=>none) oM oM h.k3,h.s,h.d⟩
 have ep:dA o.kind a0 a1 a2 a3=a3:=by rw[e];rfl
 rw[ep]at b;rw[e]at b;exact⟨k0,keep 1 a1 (λ_=>none) oM oM h.k1,keep 2 a2 (λ_=>none) oM oM h.k2,b,h.s,h.d⟩
theorem dG.below(h:dG w S N a0 a1 a2 a3 has)(a:Below B w w')(c:w.heap.size<=B):dG w' S N a0 a1 a2 a3 has:=
 ⟨h.k0.on (a.block _ (ny h.k0.lt c)),h.k1.on (a.block _ (ny h.k1.lt c)),h.k2.on (a.block _ (ny h.k2.lt c)),h.k3.on (a.block _ (ny h.k3.lt c)),h.s,h.d⟩
def JE(w:World)(S:Nat->Prop)(N a0 a1 a2 a3:Nat)(has:List Ob)(o:Ob)(e:Ending)(w':World):Prop:=e=.returned (.bool (!(cF has o.kind o.sum).isSome))/\cq (·=dA o.kind a0 a1 a2 a3) w w'/\dG w' S (N+1) a0 a1 a2 a3 (iJ has o)
theorem wq(S:Nat->Prop)(N a0 a1 a2 a3:Nat)(has:List Ob)(o:Ob)(w:World)(h:dG w S N a0 a1 a2 a3 has)(h1:1<=o.kind)(h3:o.kind<=3)(hs:o.sum.size=32)(hN:N<=1000000)(_hat:o.at_<=1000000)(_hsz:o.text.size<=1000000):
  Calls prog 222 #[ng a0 a1 a2 a3,.int .u8 o.kind,dL o.sum,qC o] w λe w'=>JE w S N a0 a1 a2 a3 has o e w':=by
 obtain⟨k,hk⟩:=eX (o.kind);obtain⟨p,hp⟩:=eX (dA k a0 a1 a2 a3);obtain⟨A,hA⟩:=eX ((db o.sum).toArray);have u:A.size=32:=by rw[hA,jO,cE,hs]
 have W:∀v∈A.toList,v.oneCell'=true:=hA▸eA _;obtain⟨x,hx⟩:=eX ((o.at_:Int):Int);obtain⟨y,hy⟩:=eX ((o.text.size:Int):Int);have C:qC o=.agg #[.int .i64 x,.int .i64 y]:=by rw[hx,hy];rfl
 have l:dL o.sum=.agg A:=by rw[hA];rfl
 obtain⟨W3,c⟩:=eX (((w.alloc (.cells #[.map (some a0),.map (some a1),.map (some a2),.map (some a3)] 117)).alloc (.cells A 131)).alloc (.cells #[.int .i64 x,.int .i64 y] 361));have z:Below w.heap.size w W3:=by rw[c];exact(((dw _ _).alloc (cO _) _).alloc sI _).alloc (by simp;omega) _
 have P:W3.heap.size=w.heap.size+3:=by rw[c];simp
 have r4:W3.heap[w.heap.size]?=some (.cells #[.map (some a0),.map (some a1),.map (some a2),.map (some a3)] 117 (0,0)):=by rw[c,cK _ _ (by simp;omega),cK _ _ (by simp)];exact dM w _
 have r6:W3.heap[w.heap.size+1]?=some (.cells A 131 (0,0)):=by rw[c,cK _ _ (by simp)];have:=dM (w.alloc (.cells #[.map (some a0),.map (some a1),.map (some a2),.map (some a3)] 117)) (.cells A 131);simpa using this
 have r7:W3.heap[w.heap.size+2]?=some (.cells #[.int .i64 x,.int .i64 y] 361 (0,0)):=by rw[c];have:=dM ((w.alloc (.cells #[.map (some a0),.map (some a1),.map (some a2),.map (some a3)] 117)).alloc (.cells A 131)) (.cells #[.int .i64 x,.int .i64 y] 361);simpa using this
 obtain⟨r,hr⟩:=eX ((cF has k o.sum).isSome);have s:Hid (Calls prog 220 #[.agg #[.map (some a0),.map (some a1),.map (some a2),.map (some a3)],.int .u8 k,.agg A] W3 λe w'=>e=.returned (.bool r)/\Below W3.heap.size W3 w'):=by have:=qm S N a0 a1 a2 a3 k has o.sum W3 (h.below z (cO _)) oM oM hs;rw[l]at this;rw[hr];exact this
 have HP:Hid (dG w S N a0 a1 a2 a3 has/\k=o.kind/\p=dA k a0 a1 a2 a3/\r=(cF has k o.sum).isSome/\Below w.heap.size w W3/\dL o.sum=.agg A/\qC o=.agg #[.int .i64 x,.int .i64 y]/\1<=o.kind/\o.kind<=3):=⟨h,hk,hp,hr,z,l,C,h1,h3⟩;have HR:Hid (W3.heap[w.heap.size]?=some (.cells #[.map (some a0),.map (some a1),.map (some a2),.map (some a3)] 117 (0,0))/\W3.heap[w.heap.size+1]?=some (.cells A 131 (0,0))/\W3.heap[w.heap.size+2]?=some (.cells #[.int .i64 x,.int .i64 y] 361 (0,0))):=⟨r4,r6,r7⟩;have n:Hid ((prog.info? 131).map (·.size)=some 32):=by show _=_;kernel_rfl
 have a4:(k:Int)<=3:=oM;have Z:(k:Int)<4:=oM;have M:(0:Int)<=k:=oM;have L:=hD u;rw[l,C,<-hk];have H:W3.cell? (yA w.heap.size 0)=some (.map (some a0)):=cG r4;have J:W3.cell? (yA w.heap.size 1)=some (.map (some a1)):=cG r4;have I:W3.cell? (yA w.heap.size 2)=some (.map (some a2)):=cG r4;have F:W3.cell? (yA w.heap.size 3)=some (.map (some a3)):=cG r4;clear h hk hp hr z l C h1 h3 r4 r6 r7 hA hx hy;unfold ng;go_enter func222,ntmps222;go_upto_region 1 with fail
 rw[<-c];clear c
 go_wp2_with (refine vk rfl 131 _ rfl (w.heap.size+1) rfl 131 A (0,0) _ HR.2.1 kb rfl (by rw[L.out];exact n) ?_)
 refine s.mono ?_;rintro e w5 ⟨rfl,f⟩;have a:=HP.2.2.2.2.1.trans (f.mono HP.2.2.2.2.1.size);cases hr:r
 .subst hr
  have m:cF has o.kind o.sum=none:=by
   have:=HP.2.2.2.1;rw[HP.out.2.1]at this
   cases hf:cF has o.kind o.sum with
   |none=>rfl
   |some _=>rw[hf]at this;cases this
  have t:=HP.1.below (B:=w.heap.size) a.drew (cO _);have G:=t.pick o.kind HP.2.2.2.2.2.2.2.1 HP.2.2.2.2.2.2.2.2;obtain⟨W6,K,D,b⟩:=G.store hN NO o.sum hs (qC o);rw[HP.out.2.2.2.2.2.1,HP.out.2.2.2.2.2.2.1,<-HP.out.2.1,<-HP.out.2.2.1]at K
  have g:Hid (JE w S N a0 a1 a2 a3 has o (.returned (.bool true)) W6):=by
   refine⟨by rw[m];rfl,?_,?_⟩
   .exact(cq.of_below (S:=(·=dA o.kind a0 a1 a2 a3)) a).trans ⟨b.os,b.tape,b.output,b.size,b.block⟩
   have:=t.add o HP.2.2.2.2.2.2.2.1 HP.2.2.2.2.2.2.2.2 m D b;unfold iJ;rw[m];exact this
  have O:p<w.heap.size:=by rw[HP.out.2.2.1,HP.out.2.1];exact(HP.1.pick o.kind HP.2.2.2.2.2.2.2.1 HP.2.2.2.2.2.2.2.2).lt
  have E:Hid (∀V,V=w5.drew\/V=W6->V.cell? (yA w.heap.size k)=some (.map (some p))/\V.rangeAt (w.heap.size+1) 0 A.toList/\V.cell? (yA (w.heap.size+2) 0)=some (.int .i64 x)/\V.cell? (yA (w.heap.size+2) 1)=some (.int .i64 y)/\Hid (V=w5.drew\/V=W6)):=by
   intro V hV
   have j:∀q,w.heap.size<=q->q<w.heap.size+3->V.heap[q]?=W3.heap[q]?:=by
    intro q Y T;rcases hV with rfl|rfl
    .exact f.block _ oM
    rw[b.block q (by show q<w5.heap.size;have:=f.size;omega) (by rw[<-HP.out.2.1,<-HP.out.2.2.1];show q≠p;omega)];exact f.block _ oM
   have q4:=(j _ (cO _) oM).trans HR.1;have q6:=(j _ oM oM).trans HR.2.1;have q7:=(j _ oM oM).trans HR.2.2;refine⟨?_,λi v hv=>?_,cG q7,cG q7,hV⟩
   .rw[cG q4,HP.out.2.2.1];have:k=1\/k=2\/k=3:=by have:=HP.2.1;have:=HP.2.2.2.2.2.2.2.1;omega
    rcases this with e|e|e<;>rw[e]<;>rfl
   rw[nS,cG q6,<-kX];exact hv
  have U:(prog.info? 131).map (·.size)=some A.toList.length:=by rw[gf,u];exact n
  have X:A.toList.length=32:=by rw[gf,u]
  have Q:=kb;clear m t G D b f a H J I F s;go_upto_region 3 with fail
  go_region_held3 (λV=>V.cell? (yA w.heap.size k)=some (.map (some p))/\V.rangeAt (w.heap.size+1) 0 A.toList/\V.cell? (yA (w.heap.size+2) 0)=some (.int .i64 x)/\V.cell? (yA (w.heap.size+2) 1)=some (.int .i64 y)/\Hid (V=w5.drew\/V=W6)) ((first|exact E _ (.inl rfl)|exact E _ (.inr rfl))) (fail)
  go_wp2
  go_ret;exact g
 subst hr;have g:Hid (JE w S N a0 a1 a2 a3 has o (.returned (.bool false)) w5):=by have d:=HP.2.2.2.1;rw[HP.out.2.1]at d;refine⟨by rw[<-d];rfl,cq.of_below a,?_⟩;unfold iJ;rw[dq d.symm];exact(HP.1.below a (cO _)).up (K0 _)
 clear f a H J I F
 go_wp2
 go_ret;exact g
theorem L3(h:w.ownsRow B e k v n xs)(a:v.ownBlock=some g):g<w.heap.size:=
 eP.lt (S:=λ_=>True) ⟨ii h (fP _),λ_ _=>trivial⟩ a
theorem og.alloc{H:Nat}{R:List (ByteArray×Bool×Nat)}(h:og w H B most lv R ec ov)(o:Obj):og (w.alloc o) H B most lv R ec ov:=by
 obtain⟨h1,h2⟩:=h.hB;exact⟨by rw[cK _ _ (by omega)];exact h.most,by rw[cK _ _ (by omega)];exact h.l,by rw[cK _ _ (by omega)];exact h.e,by rw[cK _ _ (by omega)];exact h.at_,by rw[cK _ _ (by omega)];exact h.over,by rw[cK _ _ (by omega)];exact h.more,rI h.own o,⟨h1,by simp;omega⟩⟩
def ui(most:Int)(E:List (ByteArray×Bool×Nat)):List (ByteArray×Bool×Nat):=if 0<most then E.take most.toNat else E
theorem CN(most:Int)(E:List (ByteArray×Bool×Nat))(k:Nat)(h:oW most (k+1)=true):ui most E=E.take (k+1):=by
 unfold oW at h;simp at h;unfold ui;rw[dq h.1];congr 1;omega
theorem ES(most:Int)(E:List (ByteArray×Bool×Nat))(h:∀k,k<E.length->oW most (k+1)=false):ui most E=E:=by
 unfold ui;split
 .rename_i hm;apply pK;apply Nat.not_lt.1;intro hl;have:=h (most.toNat-1) oM;unfold oW at this;rw[jX hm,Bool.true_and,PE]at this;omega
 .rfl
theorem yg(E:List (ByteArray×Bool×Nat)):(eE E).length=E.length*3:=by
 unfold eE
 induction E with
 |nil=>rfl
 |cons x E ih=>rw[Lc,ir,ih,mY];show 3+_=_;omega
theorem yO:∀(E:List (ByteArray×Bool×Nat))(k:Nat)(hk:k<E.length),(eE E)[k*3]?=some (.string E[k].1)/\(eE E)[k*3+1]?=some (.bool E[k].2.1)/\(eE E)[k*3+2]?=some (.int .i64 (E[k].2.2:Int))
 |x::E,0,_=>⟨rfl,rfl,rfl⟩
 |x::E,k+1,hk=>by
  obtain⟨h1,h2,h3⟩:=yO E k (by simpa using hk);have e:∀j,(eE (x::E))[(k+1)*3+j]?=(eE E)[k*3+j]?:=λj=>by show(I9 x++eE E)[(k+1)*3+j]?=_;rw[F8 (by show 3<=_;omega)];congr 1;show(k+1)*3+j-3=_;omega
  exact⟨(e 0).trans h1,(e 1).trans h2,(e 2).trans h3⟩
theorem uj{t:TypeId}{E:List (ByteArray×Bool×Nat)}(h:w.ownsRow B t 3 v E.length (eE E))(c:0<E.length):∃g cap,v=.slice (yS g 0) E.length cap/\B<=g/\g<w.heap.size/\∀k (hk:k<E.length),w.cell? (yA g (k*3))=some (.string E[k].1)/\w.cell? (yA g (k*3+1))=some (.bool E[k].2.1)/\w.cell? (yA g (k*3+2))=some (.int .i64 (E[k].2.2:Int)):=by
 obtain⟨g,cap,hv,-,hc,-⟩:=eP.open (S:=λ_=>True) ⟨ii h (fP _),λ_ _=>trivial⟩ c;have b:v.ownBlock=some g:=by rw[hv];rfl
 refine⟨g,cap,hv,fA h g b,L3 h b,λk hk=>?_⟩;obtain⟨h1,h2,h3⟩:=yO E k hk;have hl:=yg E;have hj:∀j,j<3->∀u,(eE E)[k*3+j]?=some u->w.cell? (yA g (k*3+j))=some u:=λj hj u hu=>by have a:k*3+j<(eE E).length:=oM;rw[hc _ a];rw[pI a]at hu;exact hu
 exact⟨hj 0 oM _ h1,hj 1 oM _ h2,hj 2 oM _ h3⟩
end
end Go.Proofs.YtapijhhmjjplmaaGreatDoor
